/-
  The walk of the law FnExactReadVar: the specification's answer and the program's are the same.
-/
import Derived.Test.YtnghhfgbobpnkagReadS
import Derived.Test.YtnghhfgbobpnkagReadI
namespace Go.Proofs.Ytnghhfgbobpnkag.WFnExactReadVar
open Go.RowKit Num

theorem walk (a0 : ByteArray) (a1 : Int) (w0 : a0.size ≤ maxLen) (_w1 : (Lit.int .i64 a1).wf = true) (w : World) :
    Calls Try.prog 4 #[.string a0, .int .i64 a1] w fun e w' => e = .returned (.bool true) ∧ Below w.heap.size w w' := by
  unfold maxLen at w0
  by_cases hbig : (1048576 : Int) < a0.size
  · go_enter Try.func4, Try.ntmps4
    go_wp2
    go_ret
    exact ⟨rfl, Below.refl _ _⟩
  · have hs : (a0.size : Int) ≤ 1048576 := by omega
    go_enter Try.func4, Try.ntmps4
    go_wp2_with (first | (go_at_call 10; refine (sread _ _ _ hs).mono ?_; rintro e w1 ⟨rfl, hb1⟩; rw [tri]) | (go_at_call 11; refine (iread _ _ _ hs).mono ?_; rintro e w2 ⟨rfl, hw⟩; obtain rfl := hw.symm; clear hw; rw [tri]))
    go_ret
    exact ⟨rfl, hb1⟩

end Go.Proofs.Ytnghhfgbobpnkag.WFnExactReadVar
