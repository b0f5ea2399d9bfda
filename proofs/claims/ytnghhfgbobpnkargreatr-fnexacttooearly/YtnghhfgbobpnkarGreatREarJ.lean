/-
  The contract of the program's TooEarly, as the law FnExactTooEarly asks it.
-/
import Derived.Test.YtnghhfgbobpnkarGreatREarI
import Derived.Test.YtnghhfgbobpnkarGreatRWFnExactTooEarly
namespace Go.Proofs.YtnghhfgbobpnkarGreatR
open Go.RowKit Num

theorem tooEarly_i : WFnExactTooEarly.Prg := fun ps v _ p s _ _ k w hT hk hD hs _ _ => tooEarlyR_i ps v p s k w hT.read.q hk hD.reads hs

end Go.Proofs.YtnghhfgbobpnkarGreatR
