/-
  The contracts of the specification's functions on accounts: keys, commands, lists, places.
-/
import Derived.Test.YtmaakficeggheamCellN
import Derived.BigQuiet
namespace Go.Proofs.Ytmaakficeggheam
open Go.RowKit Num


end Go.Proofs.Ytmaakficeggheam
