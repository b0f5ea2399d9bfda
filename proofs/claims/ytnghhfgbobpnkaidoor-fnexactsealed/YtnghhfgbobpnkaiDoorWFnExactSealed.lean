/-
  The walk of the law FnExactSealed: the specification's answer and the program's are the same.
-/
import Derived.Test.YtnghhfgbobpnkaiDoorSealS
import Derived.Test.YtnghhfgbobpnkaiDoorSealI
namespace Go.Proofs.YtnghhfgbobpnkaiDoor.WFnExactSealed
open Go.RowKit Num

theorem walk (a0 : ByteArray) (w0 : a0.size ≤ maxLen) (w : World) (ht : Tabs w) :
    Calls Tryd.prog 3 #[.string a0] w fun e w' => e = .returned (.bool true) ∧ Below w.heap.size w w' := by
  unfold maxLen at w0
  have HT : Hid (Tabs w) := ht
  clear ht
  by_cases hbig : (1048576 : Int) < a0.size
  · go_enter Tryd.func3, Tryd.ntmps3
    go_wp2
    go_ret
    exact ⟨rfl, Below.refl _ _⟩
  · by_cases h : (a0.size : Int) ≤ 20000
    · go_enter Tryd.func3, Tryd.ntmps3
      go_wp2_with fail
      refine (sealed_yes_s a0 _ h).mono ?_
      rintro e w1 ⟨rfl, hb1⟩
      have HT1 : Hid (Tabs w1) := HT.out.below hb1
      go_wp2_with fail
      refine (sealed_yes_i a0 _ h HT1).mono ?_
      rintro e w2 ⟨rfl, hb2⟩
      go_wp2
      go_ret
      exact ⟨rfl, hb1.trans (hb2.mono hb1.size)⟩
    · have h' : (20000 : Int) < a0.size := by omega
      go_enter Tryd.func3, Tryd.ntmps3
      go_wp2_with fail
      refine (sealed_no_s a0 _ h').mono ?_
      rintro e w1 ⟨rfl, hb1⟩
      go_wp2_with fail
      refine (sealed_no_i a0 _ h').mono ?_
      rintro e w2 ⟨rfl, hb2⟩
      go_wp2
      go_ret
      exact ⟨rfl, hb1.trans (hb2.mono hb1.size)⟩

end Go.Proofs.YtnghhfgbobpnkaiDoor.WFnExactSealed
