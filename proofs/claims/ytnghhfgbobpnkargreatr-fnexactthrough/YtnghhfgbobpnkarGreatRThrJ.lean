/-
  The contract of the program's Through, as the law FnExactThrough asks it.
-/
import Derived.Test.YtnghhfgbobpnkarGreatRThrI
import Derived.Test.YtnghhfgbobpnkarGreatRWFnExactThrough
namespace Go.Proofs.YtnghhfgbobpnkarGreatR
open Go.RowKit Num

theorem through_i : WFnExactThrough.Prg := fun ps v _ p s _ _ k w hT hk hD hs _ _ => throughR_i ps v p s k w hT.read.q hk hD.reads hs

end Go.Proofs.YtnghhfgbobpnkarGreatR
