/-
  The contracts of the specification's texts of numbers, votes, what enough signed.
-/
import Derived.Test.YtnghhfgbobpnkapDoorJ0
import Derived.Test.YtnghhfgbobpnkapDoorVarS
import Derived.BigQuiet
namespace Go.Proofs.YtnghhfgbobpnkapDoor
open Go.RowKit Num

set_option maxHeartbeats 800000 in
theorem var_big (n : Int) (w : World) (h0 : 0 ≤ n) (h1 : n ≤ 9223372036854775807) :
    Calls Tryd.prog 36 #[.int .i64 n] w fun e w' => e = .returned (.string (vT n)) ∧ Below w.heap.size w w' := by
  obtain ⟨i0, hi, hz0, hz1, hz2⟩ := info_parts info5
  have HT : Hid ((vbs n).length ≤ 10) := vbs_ten n h1
  go_enter Tryd.func36, Tryd.ntmps36
  go_wp2
  go_loopw [0, 3] (fun a v wr => ∃ (m : Int) (xs : List Int) (f : Nat), a = .int .i64 m ∧ (0 ≤ m ∧ m ≤ 9223372036854775807) ∧ m.toNat ≤ f ∧ Hid (vbs n = xs ++ vb f m) ∧ wr.ownsRow w.heap.size 5 1 v xs.length (xs.map (Value.int .u8)) ∧ Below w.heap.size w wr)
    (fun a _ _ => (intOf a).toNat)
  case atStart => exact ⟨n, [], n.toNat, rfl, ⟨h0, h1⟩, Nat.le_refl _, rfl, World.ownsRow_made _ #[] 0 (Nat.le_refl _) (by decide) rfl, (Below.refl _ _).alloc (Nat.le_refl _) _⟩
  case round =>
    obtain ⟨m, xs, f, rfl, ⟨hm0, hm1⟩, hf, HV, hown, hbel⟩ := hrel
    have hsz := hbel.size
    have hlen : xs.length ≤ 10 := by have h2 := congrArg List.length HV.out; rw [List.length_append] at h2; have := HT.out; omega
    by_cases hm : 127 < m
    · obtain ⟨g, hg1, hg2⟩ := vb_big f m hm hf
      have HG : Hid (vb f m = (m % 128 + 128) :: vb g (m / 128)) := hg1
      clear hg1
      go_wp2_with (at_builtin; refine wpList_append_own _ rfl _ _ 84 rfl w.heap.size 5 i0 (.int .u8 0) 1 1 Tryd.underlying84 hi hz0 hz1 hz2 rfl (by decide) _ _ _ rfl (hown.alloc _) ⟨wr.heap.size, 0, none⟩ 1 1 [.int .u8 (m % 128 + 128)] rfl rfl (news1 _ _ _) (ones1 _ _) (by unfold maxLen; omega) (by omega) (by simp; omega) ?_)
      intro v' w1 hown' hgrow _
      have R := push_step hbel hown hown' hgrow
      clear hown' hgrow hown hbel
      go_wp2
      go_roundw
      case rel => exact ⟨m / 128, xs ++ [m % 128 + 128], g, rfl, ⟨by omega, by omega⟩, hg2, (show vbs n = (xs ++ [m % 128 + 128]) ++ vb g (m / 128) from by have e := HV.out; rw [HG.out] at e; simpa using e), R.1, R.2⟩
      case measure => simp [intOf]; omega
    · have HG : Hid (vb f m = [m]) := vb_small f m (by omega)
      go_wp2_with (at_builtin; refine wpList_append_own _ rfl _ _ 84 rfl w.heap.size 5 i0 (.int .u8 0) 1 1 Tryd.underlying84 hi hz0 hz1 hz2 rfl (by decide) _ _ _ rfl (hown.alloc _) ⟨wr.heap.size, 0, none⟩ 1 1 [.int .u8 (m)] rfl rfl (news1 _ _ _) (ones1 _ _) (by unfold maxLen; omega) (by omega) (by simp; omega) ?_)
      intro v' w1 hown' hgrow _
      have R := push_step hbel hown hown' hgrow
      have hcv := strOfNums_row R.1
      have hb := R.2
      clear hown' hgrow hown hbel R
      go_wp2
      go_ret
      exact ⟨ret_str (by have e := HV.out; rw [HG.out] at e; exact e.symm), hb⟩

theorem ret_txt {x y : ByteArray} (h : x = y) : Ending.returned (.string x) = Ending.returned (.string y) := by rw [h]
theorem low_s (n : Int) (w : World) (h1 : n ≤ 9223372036854775807) :
    Calls Tryd.prog 33 #[.int .i64 n] w fun e w' => e = .returned (.string (lowT n)) ∧ Below w.heap.size w w' := by
  by_cases h : n < 0
  · have HE : Hid (lowT n = vT 0) := (by unfold lowT lowI; rw [if_pos h] : lowT n = vT 0)
    go_enter Tryd.func33, Tryd.ntmps33
    go_wp2_with fail
    refine (var_big 0 w (by omega) (by omega)).mono ?_
    rintro e w1 ⟨rfl, hb⟩
    go_wp2
    go_ret
    exact ⟨ret_txt HE.out.symm, hb⟩
  · have HE : Hid (lowT n = vT n) := (by unfold lowT lowI; rw [if_neg h] : lowT n = vT n)
    go_enter Tryd.func33, Tryd.ntmps33
    go_wp2_with fail
    refine (var_big n w (by omega) h1).mono ?_
    rintro e w1 ⟨rfl, hb⟩
    go_wp2
    go_ret
    exact ⟨ret_txt HE.out.symm, hb⟩

end Go.Proofs.YtnghhfgbobpnkapDoor
