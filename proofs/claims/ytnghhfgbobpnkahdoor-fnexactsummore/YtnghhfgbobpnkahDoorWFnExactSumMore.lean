/-
  The walk of the law FnExactSumMore: the specification's answer and the program's are the same.
-/
import Derived.Test.YtnghhfgbobpnkahDoorSumS
import Derived.Test.YtnghhfgbobpnkahDoorSumI
import Derived.OpenShut
namespace Go.Proofs.YtnghhfgbobpnkahDoor.WFnExactSumMore
open Go.RowKit Num

theorem walk (a0 : Int) (a1 : ByteArray) (w0 : (Lit.int .u32 a0).wf = true) (w1 : a1.size ≤ maxLen) (w : World) (ht : Tabs w) :
    Calls Tryd.prog 5 #[.int .u32 a0, .string a1] w fun e w' => e = .returned (.bool true) ∧ Below w.heap.size w w' := by
  unfold maxLen at w1
  obtain ⟨h0, h1⟩ := bounds_u32 w0
  obtain ⟨x, rfl⟩ := Int.eq_ofNat_of_zero_le h0
  have HT : Hid (Tabs w) := ht
  clear ht w0
  by_cases hbig : (1048576 : Int) < a1.size
  · go_enter Tryd.func5, Tryd.ntmps5
    go_wp2
    go_ret
    exact ⟨rfl, Below.refl _ _⟩
  · go_enter Tryd.func5, Tryd.ntmps5
    go_wp2_with fail
    refine (sum_s x (by omega) a1 (by omega) w).mono ?_
    rintro e w1 ⟨rfl, hw⟩
    obtain rfl := hw.symm
    clear hw
    go_wp2_with fail
    refine (sum_i x (by omega) a1 (by omega) w HT).mono ?_
    rintro e w1 ⟨rfl, hw⟩
    obtain rfl := hw.symm
    clear hw
    go_wp2
    go_ret
    exact ⟨rfl, Below.refl _ _⟩

end Go.Proofs.YtnghhfgbobpnkahDoor.WFnExactSumMore
