/-
  The contracts of the specification's functions on accounts: keys, commands, lists, places.
-/
import Derived.Test.YtnghhfgbobpnkanCellN
import Derived.BigQuiet
namespace Go.Proofs.Ytnghhfgbobpnkan
open Go.RowKit Num


end Go.Proofs.Ytnghhfgbobpnkan
