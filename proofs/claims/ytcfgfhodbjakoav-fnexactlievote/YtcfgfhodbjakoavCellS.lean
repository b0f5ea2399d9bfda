/-
  The contracts of the specification's functions on accounts: keys, commands, lists, places.
-/
import Derived.Test.YtcfgfhodbjakoavJ0
import Derived.BigQuiet
namespace Go.Proofs.Ytcfgfhodbjakoav
open Go.RowKit Num


end Go.Proofs.Ytcfgfhodbjakoav
