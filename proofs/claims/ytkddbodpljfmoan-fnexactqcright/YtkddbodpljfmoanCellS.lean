/-
  The contracts of the specification's functions on accounts: keys, commands, lists, places.
-/
import Derived.Test.YtkddbodpljfmoanCellN
import Derived.BigQuiet
namespace Go.Proofs.Ytkddbodpljfmoan
open Go.RowKit Num


end Go.Proofs.Ytkddbodpljfmoan
