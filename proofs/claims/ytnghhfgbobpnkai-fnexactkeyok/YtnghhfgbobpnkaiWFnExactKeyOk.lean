/-
  The walk of the law FnExactKeyOk: the specification's answer and the program's are the same.
-/
import Derived.Test.YtnghhfgbobpnkaiKeyI
import Derived.Test.YtnghhfgbobpnkaiCellS
namespace Go.Proofs.Ytnghhfgbobpnkai.WFnExactKeyOk
open Go.RowKit Num

theorem walk (a0 : ByteArray) (w0 : a0.size ≤ maxLen) (w : World) :
    Calls Try.prog 3 #[.string a0] w fun e w' => e = .returned (.bool true) ∧ Below w.heap.size w w' := by
  unfold maxLen at w0
  by_cases hbig : (1048576 : Int) < a0.size
  · go_enter Try.func3, Try.ntmps3
    go_wp2
    go_ret
    exact ⟨rfl, Below.refl _ _⟩
  · have h : (a0.size : Int) ≤ 1048576 := by omega
    cases hb : keyB a0
    all_goals
      go_enter Try.func3, Try.ntmps3
      go_wp2_with (first | (go_at_call 7; refine (key_s _ _ h).mono ?_; rintro e w1 ⟨rfl, rfl⟩; rw [hb]) | (go_at_call 8; refine (key_i _ _ h).mono ?_; rintro e w2 ⟨rfl, rfl⟩; rw [hb]))
      go_ret
      exact ⟨rfl, Below.refl _ _⟩

end Go.Proofs.Ytnghhfgbobpnkai.WFnExactKeyOk
