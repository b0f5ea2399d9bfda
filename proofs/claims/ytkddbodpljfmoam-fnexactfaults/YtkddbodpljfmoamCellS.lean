/-
  The contracts of the specification's functions on accounts: keys, commands, lists, places.
-/
import Derived.Test.YtkddbodpljfmoamCellN
import Derived.BigQuiet
namespace Go.Proofs.Ytkddbodpljfmoam
open Go.RowKit Num


end Go.Proofs.Ytkddbodpljfmoam
