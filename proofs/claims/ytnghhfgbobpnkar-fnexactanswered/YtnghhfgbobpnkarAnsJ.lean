/-
  The contract of the program's Answered, as the law FnExactAnswered asks it.
-/
import Derived.Test.YtnghhfgbobpnkarAnsI
import Derived.Test.YtnghhfgbobpnkarWFnExactAnswered
namespace Go.Proofs.Ytnghhfgbobpnkar
open Go.RowKit Num

theorem answered_i : WFnExactAnswered.Prg := fun p s _ _ kind to q v w _ _ _ _ _ _ _ => answeredR_i p s kind to q v w

end Go.Proofs.Ytnghhfgbobpnkar
