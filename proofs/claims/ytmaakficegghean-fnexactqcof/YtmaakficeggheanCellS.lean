/-
  The contracts of the specification's functions on accounts: keys, commands, lists, places.
-/
import Derived.Test.YtmaakficeggheanCellN
import Derived.BigQuiet
namespace Go.Proofs.Ytmaakficegghean
open Go.RowKit Num


end Go.Proofs.Ytmaakficegghean
