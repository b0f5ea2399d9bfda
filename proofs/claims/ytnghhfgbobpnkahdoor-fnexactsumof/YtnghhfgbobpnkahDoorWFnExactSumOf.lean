/-
  The walk of the law FnExactSumOf: the specification's answer and the program's are the same.
-/
import Derived.Test.YtnghhfgbobpnkahDoorSumS
import Derived.Test.YtnghhfgbobpnkahDoorSumI
namespace Go.Proofs.YtnghhfgbobpnkahDoor.WFnExactSumOf
open Go.RowKit Num

theorem walk (a0 : ByteArray) (w0 : a0.size ≤ maxLen) (w : World) (ht : Tabs w) :
    Calls Tryd.prog 6 #[.string a0] w fun e w' => e = .returned (.bool true) ∧ Below w.heap.size w w' := by
  unfold maxLen at w0
  have HT : Hid (Tabs w) := ht
  clear ht
  by_cases hbig : (1048576 : Int) < a0.size
  · go_enter Tryd.func6, Tryd.ntmps6
    go_wp2
    go_ret
    exact ⟨rfl, Below.refl _ _⟩
  · go_enter Tryd.func6, Tryd.ntmps6
    go_wp2_with fail
    refine (sumOf_s a0 (by omega) w).mono ?_
    rintro e w1 ⟨rfl, hw⟩
    obtain rfl := hw.symm
    clear hw
    go_wp2_with fail
    refine (sumOf_i a0 (by omega) w HT).mono ?_
    rintro e w1 ⟨rfl, hw⟩
    obtain rfl := hw.symm
    clear hw
    go_wp2
    go_ret
    exact ⟨rfl, Below.refl _ _⟩

end Go.Proofs.YtnghhfgbobpnkahDoor.WFnExactSumOf
