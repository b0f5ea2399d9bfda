/-
  The contract of impl.Hex: two figures for each byte.
-/
import Derived.Test.YtnghhfgbobpnkaaDoorOwn
import Derived.Test.YtnghhfgbobpnkaaDoorHexN
import Derived.Deep.AppendLies
import Derived.Deep.RegionHeld3
namespace Go.Proofs.YtnghhfgbobpnkaaDoor
open Go.RowKit Num

set_option maxRecDepth 100000 in
set_option maxHeartbeats 1000000 in
theorem ihex_yes (s : ByteArray) (w : World) (hs : (s.size : Int) ≤ 20000) :
    Calls Tryd.prog 14 #[.string s] w fun e w' => e = .returned (.tuple #[.string (strOfNums (figs (bs s))), .bool true]) ∧ Below w.heap.size w w' := by
  obtain ⟨i0, hi, hz0, hz1, hz2⟩ := info_parts info5
  go_enter Tryd.func14, Tryd.ntmps14
  go_wp2_with (at_make; refine wpList_make_own _ rfl _ _ 22 rfl w.heap.size 5 i0 (.int .u8 0) 1 Tryd.underlying22 hi hz0 hz1 _ _ _ (2 * s.size) rfl rfl (by omega) (by rw [hz2]; omega) (by unfold maxLen; omega) (Nat.le_refl _) ?_; intro w0 hown0 hgrow0)
  have hb0 : Below w.heap.size w w0 := (Below.refl _ _).grown hgrow0 (Nat.le_refl _) (fun k h => by cases h)
  clear hgrow0
  go_loopw [4, 15] (fun v i wr => ∃ (k : Nat) (xs : List Int), k ≤ s.size ∧ i = .int .i64 k ∧ xs.length ≤ 2 * k ∧ Hid (xs = figs ((bs s).take k)) ∧ wr.ownsRow w.heap.size 5 1 v xs.length (xs.map (Value.int .u8)) ∧ Below w.heap.size w wr) (fun _ i _ => s.size - (intOf i).toNat)
  case atStart => exact ⟨0, [], Nat.zero_le _, rfl, Nat.zero_le _, rfl, hown0, hb0⟩
  case round =>
    obtain ⟨k, xs, hk, rfl, hxl, HX, hown, hbel⟩ := hrel
    clear hown0 hb0
    by_cases hlt : (k : Int) < s.size
    · have hkn : k < s.size := by omega
      have hb := byte_le s[k]
      have hmask : bits .and .u8 (s[k].toNat : Int) 15 = (s[k].toNat : Int) % 16 := bits_mask .u8 8 (by decide) wraps_u8 4 (by decide) _ hb.1 (by omega)
      have q0 : (0 : Int) ≤ (k : Int) := by omega
      have q1 : (0 : Int) ≤ (s[k].toNat : Int) / 16 := by omega
      have q2 : (s[k].toNat : Int) / 16 < 16 := by omega
      have q3 : (0 : Int) ≤ (s[k].toNat : Int) % 16 := by omega
      have q4 : (s[k].toNat : Int) % 16 < 16 := by omega
      go_wp2
      have hsz := hbel.size
      go_region_held3 (fun _ => True) (trivial) ((refine step_append_lies _ (by rfl) (.tmp 18) (.tmp 29) 22 (by rfl) w.heap.size 5 i0 (.int .u8 0) 1 1 Tryd.underlying22 hi hz0 hz1 hz2 rfl (by decide) _ _ _ (by rfl) (hown.alloc _).drew ⟨wr.heap.size, 0, none⟩ 2 2 [.int .u8 _, .int .u8 _] (by rfl) rfl (news2 wr _ _ 5) (ones2 _ _ _) (by decide) (by unfold maxLen; omega) (by omega) (by show _ ≤ (wr.alloc _).heap.size; simp; omega) _ rfl ?_; intro g cap w1 hown1 hgrow1 hx1 hx2; clear hx1 hx2))
      all_goals
        have R := push2 hbel hown hown1 hgrow1
        rw [fig_at' _ q1 q2, fig_at' _ q3 q4] at R
        clear hown1 hgrow1 hown hbel
        go_wp2
        go_roundw
        case rel => exact ⟨k + 1, xs ++ [fig ((s[k].toNat : Int) / 16), fig ((s[k].toNat : Int) % 16)], by omega, by go_num, by simp; omega, (show _ = figs ((bs s).take (k + 1)) from by rw [Num.take_snoc s k hkn, figs_snoc, ← HX.out]), by simpa using R.1, R.2⟩
        case measure => simp [intOf]; omega
    · have hcv := strOfNums_row hown
      go_wp2
      go_ret2
      exact ⟨ret_strb (by rw [HX.out, List.take_of_length_le (by rw [bs_len]; omega)]), hbel⟩

theorem ihex_no (s : ByteArray) (w : World) (h : (20000 : Int) < s.size) :
    Calls Tryd.prog 14 #[.string s] w fun e w' => e = .returned (.tuple #[.string ByteArray.empty, .bool false]) ∧ w' = w := by
  go_enter Tryd.func14, Tryd.ntmps14
  go_wp2
  go_ret2
  exact ⟨rfl, rfl⟩

end Go.Proofs.YtnghhfgbobpnkaaDoor
