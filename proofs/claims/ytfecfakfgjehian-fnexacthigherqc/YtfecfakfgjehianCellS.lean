/-
  The contracts of the specification's functions on accounts: keys, commands, lists, places.
-/
import Derived.Test.YtfecfakfgjehianCellN
import Derived.BigQuiet
namespace Go.Proofs.Ytfecfakfgjehian
open Go.RowKit Num


end Go.Proofs.Ytfecfakfgjehian
