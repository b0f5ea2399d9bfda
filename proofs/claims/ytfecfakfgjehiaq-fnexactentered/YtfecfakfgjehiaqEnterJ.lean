/-
  The contract of the program's Entered, as the law FnExactEntered asks it.
-/
import Derived.Test.YtfecfakfgjehiaqVotedI
import Derived.Test.YtfecfakfgjehiaqWFnExactEntered
namespace Go.Proofs.Ytfecfakfgjehiaq
open Go.RowKit Num

theorem entered_i : WFnExactEntered.Prg := fun p s _ _ view w hD hs _ _ => enteredR_i p s view w hD.reads hs

end Go.Proofs.Ytfecfakfgjehiaq
