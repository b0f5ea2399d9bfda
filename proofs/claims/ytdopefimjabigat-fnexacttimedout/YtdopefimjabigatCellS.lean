/-
  The contracts of the specification's functions on accounts: keys, commands, lists, places.
-/
import Derived.Test.YtdopefimjabigatJ0
import Derived.BigQuiet
namespace Go.Proofs.Ytdopefimjabigat
open Go.RowKit Num


end Go.Proofs.Ytdopefimjabigat
