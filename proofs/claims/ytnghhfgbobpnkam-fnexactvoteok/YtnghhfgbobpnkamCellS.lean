/-
  The contracts of the specification's functions on accounts: keys, commands, lists, places.
-/
import Derived.Test.YtnghhfgbobpnkamCellN
import Derived.BigQuiet
namespace Go.Proofs.Ytnghhfgbobpnkam
open Go.RowKit Num


end Go.Proofs.Ytnghhfgbobpnkam
