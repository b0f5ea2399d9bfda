/-
  The walk of the law FnExactVarText: the specification's answer and the program's are the same.
-/
import Derived.Test.YtnghhfgbobpnkagVarS
import Derived.Test.YtnghhfgbobpnkagVarI
namespace Go.Proofs.Ytnghhfgbobpnkag.WFnExactVarText
open Go.RowKit Num

theorem walk (a0 : Int) (_w0 : (Lit.int .i64 a0).wf = true) (w : World) :
    Calls Try.prog 3 #[.int .i64 a0] w fun e w' => e = .returned (.bool true) ∧ Below w.heap.size w w' := by
  by_cases h : 0 ≤ a0 ∧ a0 ≤ 1000000000
  · obtain ⟨h0, h1⟩ := h
    go_enter Try.func3, Try.ntmps3
    go_wp2_with (first | (go_at_call 8; refine (svar_yes _ _ h0 h1).mono ?_; rintro e w1 ⟨rfl, hb1⟩) | (go_at_call 9; refine (ivar_yes _ _ h0 h1).mono ?_; rintro e w2 ⟨rfl, hb2⟩))
    go_ret
    exact ⟨rfl, hb1.trans (hb2.mono hb1.size)⟩
  · have h' : a0 < 0 ∨ 1000000000 < a0 := by omega
    go_enter Try.func3, Try.ntmps3
    go_wp2_with (first | (go_at_call 8; refine (svar_no _ _ h).mono ?_; rintro e w1 ⟨rfl, rfl⟩) | (go_at_call 9; refine (ivar_no _ _ h').mono ?_; rintro e w2 ⟨rfl, rfl⟩))
    go_ret
    exact ⟨rfl, Below.refl _ _⟩

end Go.Proofs.Ytnghhfgbobpnkag.WFnExactVarText
