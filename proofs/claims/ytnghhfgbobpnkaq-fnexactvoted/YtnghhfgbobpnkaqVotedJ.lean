/-
  The contract of the program's Voted, as the law FnExactVoted asks it.
-/
import Derived.Test.YtnghhfgbobpnkaqVotedI
import Derived.Test.YtnghhfgbobpnkaqWFnExactVoted
namespace Go.Proofs.Ytnghhfgbobpnkaq
open Go.RowKit Num

theorem voted_i : WFnExactVoted.Prg := fun p s _ _ phase view block w hD hs _ _ _ _ => votedR_i p s phase view block w hD.reads hs

end Go.Proofs.Ytnghhfgbobpnkaq
