/-
  The walk of the law FnExactHex: the specification's answer and the program's are the same.
-/
import Derived.Test.YtnghhfgbobpnkagHexS
import Derived.Test.YtnghhfgbobpnkagHexI
namespace Go.Proofs.Ytnghhfgbobpnkag.WFnExactHex
open Go.RowKit Num

theorem walk (a0 : ByteArray) (w0 : a0.size ≤ maxLen) (w : World) :
    Calls Try.prog 7 #[.string a0] w fun e w' => e = .returned (.bool true) ∧ Below w.heap.size w w' := by
  unfold maxLen at w0
  by_cases hbig : (1048576 : Int) < a0.size
  · go_enter Try.func7, Try.ntmps7
    go_wp2
    go_ret
    exact ⟨rfl, Below.refl _ _⟩
  · by_cases h : (a0.size : Int) ≤ 20000
    · go_enter Try.func7, Try.ntmps7
      go_wp2_with (first | (go_at_call 16; refine (shex_yes _ _ h).mono ?_; rintro e w1 ⟨rfl, hb1⟩) | (go_at_call 17; refine (ihex_yes _ _ h).mono ?_; rintro e w2 ⟨rfl, hb2⟩))
      go_ret
      exact ⟨rfl, hb1.trans (hb2.mono hb1.size)⟩
    · have h' : (20000 : Int) < a0.size := by omega
      go_enter Try.func7, Try.ntmps7
      go_wp2_with (first | (go_at_call 16; refine (shex_no _ _ h').mono ?_; rintro e w1 ⟨rfl, rfl⟩) | (go_at_call 17; refine (ihex_no _ _ h').mono ?_; rintro e w2 ⟨rfl, rfl⟩))
      go_ret
      exact ⟨rfl, Below.refl _ _⟩

end Go.Proofs.Ytnghhfgbobpnkag.WFnExactHex
