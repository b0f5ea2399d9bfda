/-
  The contracts of the specification's functions on accounts: keys, commands, lists, places.
-/
import Derived.Test.YtfecfakfgjehiamCellN
import Derived.BigQuiet
namespace Go.Proofs.Ytfecfakfgjehiam
open Go.RowKit Num


end Go.Proofs.Ytfecfakfgjehiam
