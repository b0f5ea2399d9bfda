/-
  The walk of the law FnExactUnsealed: the specification's answer and the program's are the same.
-/
import Derived.Test.YtnghhfgbobpnkaiDoorSealS
import Derived.Test.YtnghhfgbobpnkaiDoorUnsealI
namespace Go.Proofs.YtnghhfgbobpnkaiDoor.WFnExactUnsealed
open Go.RowKit Num

/-- both answer 'no' -/
theorem no (a0 : ByteArray) (h : (a0.size : Int) ≤ 1048576) (w : World)
    (hs : ∀ w, Calls Tryd.prog 7 #[.string a0] w fun e w' => e = .returned (.tuple #[.string ByteArray.empty, .bool false]) ∧ Below w.heap.size w w')
    (hi : ∀ w1, Below w.heap.size w w1 → Calls Tryd.prog 8 #[.string a0] w1 fun e w' => e = .returned (.tuple #[.string ByteArray.empty, .bool false]) ∧ Below w1.heap.size w1 w') :
    Calls Tryd.prog 4 #[.string a0] w fun e w' => e = .returned (.bool true) ∧ Below w.heap.size w w' := by
  have HS : Hid (∀ w, Calls Tryd.prog 7 #[.string a0] w fun e w' => e = .returned (.tuple #[.string ByteArray.empty, .bool false]) ∧ Below w.heap.size w w') := hs
  have HI : Hid (∀ w1, Below w.heap.size w w1 → Calls Tryd.prog 8 #[.string a0] w1 fun e w' => e = .returned (.tuple #[.string ByteArray.empty, .bool false]) ∧ Below w1.heap.size w1 w') := hi
  clear hs hi
  go_enter Tryd.func4, Tryd.ntmps4
  go_wp2_with fail
  refine (HS.out _).mono ?_
  rintro e w1 ⟨rfl, hb1⟩
  go_wp2_with fail
  refine (HI.out _ hb1).mono ?_
  rintro e w2 ⟨rfl, hb2⟩
  go_wp2
  go_ret
  exact ⟨rfl, hb1.trans (hb2.mono hb1.size)⟩

theorem walk (a0 : ByteArray) (w0 : a0.size ≤ maxLen) (w : World) (ht : Tabs w) :
    Calls Tryd.prog 4 #[.string a0] w fun e w' => e = .returned (.bool true) ∧ Below w.heap.size w w' := by
  unfold maxLen at w0
  by_cases hbig : (1048576 : Int) < a0.size
  · clear ht
    go_enter Tryd.func4, Tryd.ntmps4
    go_wp2
    go_ret
    exact ⟨rfl, Below.refl _ _⟩
  · by_cases h4 : (a0.size : Int) < 4
    · exact no a0 (by omega) w (fun w => unsealed_short_s a0 w h4) (fun w1 _ => unsealed_short_i a0 w1 h4)
    · by_cases hl : (20004 : Int) < a0.size
      · exact no a0 (by omega) w (fun w => unsealed_long_s a0 w hl (by omega)) (fun w1 _ => unsealed_long_i a0 w1 hl (by omega))
      · obtain ⟨n, hn⟩ := Int.eq_ofNat_of_zero_le (show (0 : Int) ≤ (a0.size : Int) - 4 by omega)
        have h2 : (n : Int) ≤ 20000 := by omega
        by_cases hr : sealRight a0 n
        · have HR : Hid (sealRight a0 n) := hr
          have HT : Hid (Tabs w) := ht
          clear hr ht
          go_enter Tryd.func4, Tryd.ntmps4
          go_wp2_with fail
          refine (unsealed_good_s a0 _ n hn h2 HR).mono ?_
          rintro e w1 ⟨rfl, hb1⟩
          have HT1 : Hid (Tabs w1) := HT.out.below hb1
          go_wp2_with fail
          refine (unsealed_good_i a0 _ n hn h2 HR HT1).mono ?_
          rintro e w2 ⟨rfl, hb2⟩
          go_wp2
          go_ret
          exact ⟨rfl, hb1.trans (hb2.mono hb1.size)⟩
        · exact no a0 (by omega) w (fun w => unsealed_bad_s a0 w n hn h2 hr) (fun w1 hb => unsealed_bad_i a0 w1 n hn h2 hr (ht.below hb))

end Go.Proofs.YtnghhfgbobpnkaiDoor.WFnExactUnsealed
