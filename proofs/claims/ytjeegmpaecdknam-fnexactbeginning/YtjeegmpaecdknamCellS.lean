/-
  The contracts of the specification's functions on accounts: keys, commands, lists, places.
-/
import Derived.Test.YtjeegmpaecdknamCellN
import Derived.BigQuiet
namespace Go.Proofs.Ytjeegmpaecdknam
open Go.RowKit Num


end Go.Proofs.Ytjeegmpaecdknam
