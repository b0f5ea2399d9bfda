/-
  The contract of the program's Entered, as the law FnExactEntered asks it.
-/
import Derived.Test.YtnghhfgbobpnkaqVotedI
import Derived.Test.YtnghhfgbobpnkaqWFnExactEntered
namespace Go.Proofs.Ytnghhfgbobpnkaq
open Go.RowKit Num

theorem entered_i : WFnExactEntered.Prg := fun p s _ _ view w hD hs _ _ => enteredR_i p s view w hD.reads hs

end Go.Proofs.Ytnghhfgbobpnkaq
