/-
  The contract of the program's MayVote, as the law FnExactMayVote asks it.
-/
import Derived.Test.YtnghhfgbobpnkaqMayI
import Derived.Test.YtnghhfgbobpnkaqWFnExactMayVote
namespace Go.Proofs.Ytnghhfgbobpnkaq
open Go.RowKit Num

theorem mayVote_i : WFnExactMayVote.Prg := fun p s _ _ phase view w _ _ _ _ _ => mayVoteR_i p s phase view w

end Go.Proofs.Ytnghhfgbobpnkaq
