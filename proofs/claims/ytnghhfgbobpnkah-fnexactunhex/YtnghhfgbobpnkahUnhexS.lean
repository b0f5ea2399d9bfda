/-
  Contracts of spec.l01Value and spec.Unhex.
-/
import Derived.Test.YtnghhfgbobpnkahOwn
import Derived.Test.YtnghhfgbobpnkahUnhexN
namespace Go.Proofs.Ytnghhfgbobpnkah
open Go.RowKit Num

theorem val_any (c : Int) (w : World) (h0 : 0 ≤ c) (h1 : c ≤ 255) : Calls Try.prog 9 #[.int .u8 c] w fun e w' => e = .returned (.int .i64 (val c)) ∧ w' = w := by
  unfold val
  by_cases a1 : 48 ≤ c
  · by_cases a2 : c ≤ 57
    · rw [if_pos ⟨a1, a2⟩]
      go_enter Try.func9, Try.ntmps9
      go_wp2
      go_ret
      exact ⟨rfl, rfl⟩
    · rw [if_neg (by omega)]
      by_cases a3 : 97 ≤ c
      · by_cases a4 : c ≤ 102
        · rw [if_pos ⟨a3, a4⟩]
          go_enter Try.func9, Try.ntmps9
          go_wp2
          go_ret
          exact ⟨ret_int (by omega), rfl⟩
        · rw [if_neg (by omega)]
          go_enter Try.func9, Try.ntmps9
          go_wp2
          go_ret
          exact ⟨rfl, rfl⟩
      · rw [if_neg (by omega)]
        go_enter Try.func9, Try.ntmps9
        go_wp2
        go_ret
        exact ⟨rfl, rfl⟩
  · rw [if_neg (by omega), if_neg (by omega)]
    have a3 : ¬ 97 ≤ c := by omega
    go_enter Try.func9, Try.ntmps9
    go_wp2
    go_ret
    exact ⟨rfl, rfl⟩

theorem sunhex_no (s : ByteArray) (w : World) (h : (40000 : Int) < s.size ∨ (s.size : Int) % 2 ≠ 0) :
    Calls Try.prog 5 #[.string s] w fun e w' => e = .returned (.tuple #[.string ByteArray.empty, .bool false]) ∧ w' = w := by
  by_cases h1 : (40000 : Int) < s.size
  · clear h
    go_enter Try.func5, Try.ntmps5
    go_wp2
    go_ret2
    exact ⟨rfl, rfl⟩
  · have h2 : ((s.size : Int) % 2 != 0) = true := by rw [bne_iff_ne]; omega
    clear h
    go_enter Try.func5, Try.ntmps5
    go_wp2
    go_ret2
    exact ⟨rfl, rfl⟩

set_option maxRecDepth 100000 in
set_option maxHeartbeats 1000000 in
theorem sunhex_in (s : ByteArray) (n : Nat) (w : World) (hn : s.size = 2 * n) (hn2 : n ≤ 20000) :
    Calls Try.prog 5 #[.string s] w fun e w' => ((okTo s (2 * n) ∧ e = .returned (.tuple #[.string (strOfNums (pairs s n)), .bool true])) ∨ (¬ okTo s (2 * n) ∧ e = .returned (.tuple #[.string ByteArray.empty, .bool false]))) ∧ Below w.heap.size w w' := by
  obtain ⟨i0, hi, hz0, hz1, hz2⟩ := info_parts info5
  have hsz : (s.size : Int) ≤ 40000 := by omega
  have hev : ((s.size : Int) % 2 != 0) = false := by rw [bne_eq_false_iff_eq]; omega
  have HN : Hid (s.size = 2 * n) := hn
  clear hn
  go_enter Try.func5, Try.ntmps5
  go_wp2
  go_loopw [4, 5] (fun v i wr => ∃ (m : Nat) (xs : List Int), m ≤ n ∧ i = .int .i64 ((2 * m : Nat) : Int) ∧ xs.length = m ∧ Hid (xs = pairs s m) ∧ okTo s (2 * m) ∧ wr.ownsRow w.heap.size 5 1 v xs.length (xs.map (Value.int .u8)) ∧ Below w.heap.size w wr) (fun _ i _ => s.size - (intOf i).toNat)
  case atStart => exact ⟨0, [], Nat.zero_le _, rfl, rfl, rfl, okTo_zero s, World.ownsRow_made _ #[] 0 (Nat.le_refl _) (by decide) rfl, (Below.refl _ _).alloc (Nat.le_refl _) _⟩
  case round =>
    obtain ⟨m, xs, hm, rfl, hxl, HX, hok, hown, hbel⟩ := hrel
    have HL : Hid (xs.length = m) := hxl
    have hxl' : xs.length ≤ 20000 := by omega
    clear hxl
    have hS := HN.out
    have hbs := hbel.size
    by_cases hlt : m < n
    · have hk1 : 2 * m < s.size := by omega
      have hk2 : 2 * m + 1 < s.size := by omega
      have hb1 := byte_le s[2 * m]
      have hb2 := byte_le s[2 * m + 1]
      have e1 := vl_at s (2 * m) hk1
      have e2 := vl_at s (2 * m + 1) hk2
      have d1 := val_bd (s[2 * m].toNat : Int)
      have d2 := val_bd (s[2 * m + 1].toNat : Int)
      have E1 : Hid (vl s (2 * m) = _) := e1
      have E2 : Hid (vl s (2 * m + 1) = _) := e2
      have p1 : ((2 * m : Nat) : Int) < (s.size : Int) := by omega
      have p2 : ((2 * m : Nat) : Int) + 1 < (s.size : Int) := by omega
      clear e1 e2 hS
      by_cases g1 : val (s[2 * m].toNat : Int) < 0
      · go_wp2_with (go_at_call 9; refine (val_any _ _ (by omega) (by omega)).mono ?_; rintro e w' ⟨rfl, rfl⟩)
        go_ret2
        exact ⟨.inr ⟨fun h => by have := h (2 * m) (by omega); rw [E1.out] at this; omega, rfl⟩, hbel⟩
      · by_cases g2 : val (s[2 * m + 1].toNat : Int) < 0
        · go_wp2_with (go_at_call 9; refine (val_any _ _ (by omega) (by omega)).mono ?_; rintro e w' ⟨rfl, rfl⟩)
          go_ret2
          exact ⟨.inr ⟨fun h => by have := h (2 * m + 1) (by omega); rw [E2.out] at this; omega, rfl⟩, hbel⟩
        · go_wp2_with (first | (go_at_call 9; refine (val_any _ _ (by omega) (by omega)).mono ?_; rintro e w' ⟨rfl, rfl⟩) | (at_builtin; refine wpList_append_own _ rfl _ _ 27 rfl w.heap.size 5 i0 (.int .u8 0) 1 1 Try.underlying27 hi hz0 hz1 hz2 rfl (by decide) _ _ _ rfl (hown.alloc _) ⟨World.heap _ |>.size, 0, none⟩ 1 1 [.int .u8 (16 * val (s[2 * m].toNat : Int) + val (s[2 * m + 1].toNat : Int))] rfl rfl (news1 _ _ _) (ones1 _ _) (by unfold maxLen; omega) (by omega) (by simp; omega) ?_))
          intro v' w1 hown' hgrow _
          have R := push_step hbel hown hown' hgrow
          clear hown' hgrow hown hbel
          go_wp2
          go_roundw
          case rel => exact ⟨m + 1, xs ++ [16 * val (s[2 * m].toNat : Int) + val (s[2 * m + 1].toNat : Int)], by omega, by go_num, by simp [HL.out], (show _ = pairs s (m + 1) from by rw [pairs_snoc, ← HX.out, E1.out, E2.out]), okTo_two hok (by rw [E1.out]; omega) (by rw [E2.out]; omega), R.1, R.2⟩
          case measure => simp [intOf]; omega
    · have hmn : Hid (m = n) := (by omega : m = n)
      have p1 : ¬ ((2 * m : Nat) : Int) < (s.size : Int) := by omega
      have hcv := strOfNums_row hown
      clear hS
      go_wp2
      go_ret2
      exact ⟨.inl ⟨by rw [← hmn.out]; exact hok, ret_strb (by rw [HX.out, hmn.out])⟩, hbel⟩

end Go.Proofs.Ytnghhfgbobpnkah
