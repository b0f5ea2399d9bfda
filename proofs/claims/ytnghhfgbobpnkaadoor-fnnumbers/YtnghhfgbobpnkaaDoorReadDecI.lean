/-
  The contract of impl.ReadDecimal.
-/
import Derived.Test.YtnghhfgbobpnkaaDoorOwn
import Derived.Test.YtnghhfgbobpnkaaDoorTen
import Derived.WalkMore
namespace Go.Proofs.YtnghhfgbobpnkaaDoor
open Go.RowKit Num

theorem iread10_long (s : ByteArray) (w : World) (h : (10 : Int) < s.size) (hne : s.toList.isEmpty = false) :
    Calls Tryd.prog 9 #[.string s] w fun e w' => e = .returned (duo 0 false) ∧ w' = w := by
  go_enter Tryd.func9, Tryd.ntmps9
  go_wp2
  go_step3
  go_wp2
  try rw [Exit.noGoto_ret]
  go_ret2
  exact ⟨rfl, rfl⟩

theorem iread10_empty (w : World) :
    Calls Tryd.prog 9 #[.string ⟨#[]⟩] w fun e w' => e = .returned (duo 0 false) ∧ w' = w := by
  go_enter Tryd.func9, Tryd.ntmps9
  go_wp2
  go_step3
  go_wp2
  try rw [Exit.noGoto_ret]
  go_ret2
  exact ⟨rfl, rfl⟩

set_option maxRecDepth 100000 in
set_option maxHeartbeats 1000000 in
theorem iread10_nought (s : ByteArray) (w : World) (hs : (s.size : Int) ≤ 10) (h0 : 0 < s.size) (hne : s.toList.isEmpty = false) (hz : (s[0].toNat : Int) = 48) :
    Calls Tryd.prog 9 #[.string s] w fun e w' => ((s.size = 1 ∧ e = .returned (duo 0 true)) ∨ (1 < s.size ∧ e = .returned (duo 0 false))) ∧ w' = w := by
  have p0 : (0 : Int) < (s.size : Int) := by omega
  go_enter Tryd.func9, Tryd.ntmps9
  go_wp2
  go_step3
  go_wp2
  go_step3
  go_wp2
  go_loop [4, 16] (fun n i => i = .int .i64 0 ∧ n = .int .i64 0) (fun _ _ => 0)
  case atStart => exact ⟨rfl, rfl⟩
  case round =>
    obtain ⟨rfl, rfl⟩ := hrel
    by_cases h1 : (1 : Int) < s.size
    · go_wp2
      go_ret2
      exact ⟨.inr ⟨by omega, rfl⟩, rfl⟩
    · go_wp2
      go_ret2
      exact ⟨.inl ⟨by omega, rfl⟩, rfl⟩

set_option maxRecDepth 100000 in
set_option maxHeartbeats 1000000 in
theorem iread10_other (s : ByteArray) (w : World) (hs : (s.size : Int) ≤ 10) (h0 : 0 < s.size) (hne : s.toList.isEmpty = false) (hz : Hid (¬ (s[0].toNat : Int) = 48)) :
    Calls Tryd.prog 9 #[.string s] w fun e w' => ((tens (bs s) ∧ num10 (bs s) ≤ 1000000000 ∧ e = .returned (duo (num10 (bs s)) true)) ∨ ((¬ tens (bs s) ∨ 1000000000 < num10 (bs s)) ∧ e = .returned (duo 0 false))) ∧ w' = w := by
  have p0 : (0 : Int) < (s.size : Int) := by omega
  have hbe : bs s ≠ [] := by intro e; have := bs_len s; rw [e] at this; simp at this; omega
  have hhd : (bs s).head? ≠ some 48 := by
    have := bs_drop s 0 h0
    simp only [List.drop_zero] at this
    rw [this]; simp; exact fun e => hz.out (by omega)
  have HB : Hid (bs s ≠ []) := hbe
  have HH : Hid ((bs s).head? ≠ some 48) := hhd
  clear hbe hhd
  go_enter Tryd.func9, Tryd.ntmps9
  go_wp2
  go_step3
  go_wp2
  go_step3
  go_wp2
  go_loop [4, 16] (fun n i => ∃ (k : Nat) (N : Int), k ≤ s.size ∧ i = .int .i64 k ∧ n = .int .i64 N ∧ Hid (N = num10 ((bs s).take k)) ∧ tens ((bs s).take k)) (fun _ i => s.size - (intOf i).toNat)
  case atStart => exact ⟨0, 0, Nat.zero_le _, rfl, rfl, rfl, tens_nil⟩
  case round =>
    obtain ⟨k, N, hk, rfl, rfl, HN, ht⟩ := hrel
    by_cases hlt : (k : Int) < s.size
    · have hkn : k < s.size := by omega
      have hb := byte_le s[k]
      have hbd := num10_bd hkn (by omega) ht
      rw [← HN.out] at hbd
      by_cases h48 : (s[k].toNat : Int) < 48
      · have HT : Hid (¬ tens (bs s)) := not_tens hkn (.inl h48)
        go_wp2
        try rw [Exit.noGoto_ret]
        go_ret2
        exact ⟨.inr ⟨.inl HT.out, rfl⟩, rfl⟩
      · by_cases h57 : 57 < (s[k].toNat : Int)
        · have HT : Hid (¬ tens (bs s)) := not_tens hkn (.inr h57)
          go_wp2
          try rw [Exit.noGoto_ret]
          go_ret2
          exact ⟨.inr ⟨.inl HT.out, rfl⟩, rfl⟩
        · have HX : Hid (num10 ((bs s).take (k + 1)) = 10 * N + (s[k].toNat : Int) - 48) := by rw [Hid, num10_next hkn, ← HN.out]
          have HT : Hid (tens ((bs s).take (k + 1))) := by rw [Hid, Num.take_snoc s k hkn]; exact tens_snoc ht (by omega) (by omega)
          by_cases hb48 : (s[k].toNat : Int) = 48
          · have hk0 : ((k : Int) == 0) = false := by
              rw [beq_eq_false_iff_ne]
              intro e
              have e' : k = 0 := by omega
              subst e'
              exact hz.out hb48
            have hbb : ((s[k].toNat : Int) == 48) = true := by simpa using hb48
            clear hb48
            go_wp2
            go_round
            case rel => exact ⟨k + 1, _, by omega, by go_num, rfl, (show _ = num10 ((bs s).take (k + 1)) from by rw [HX.out]; omega), HT.out⟩
            case measure => simp [intOf]; omega
          · have hbb : ((s[k].toNat : Int) == 48) = false := by simpa using hb48
            clear hb48
            go_wp2
            go_round
            case rel => exact ⟨k + 1, _, by omega, by go_num, rfl, (show _ = num10 ((bs s).take (k + 1)) from by rw [HX.out]; omega), HT.out⟩
            case measure => simp [intOf]; omega
    · have e : (bs s).take k = bs s := List.take_of_length_le (by rw [bs_len]; omega)
      rw [e] at ht
      have hN : N = num10 (bs s) := by rw [HN.out, e]
      have hp := (rd_good s HB.out HH.out ht).1
      have HNN : Hid (N = num10 (bs s)) := hN
      rw [← hN] at hp
      clear hN e
      have hn0 : (N == 0) = false := by rw [beq_eq_false_iff_ne]; omega
      by_cases hx : 1000000000 < N
      · go_wp2
        try rw [Exit.noGoto_ret]
        go_ret2
        exact ⟨.inr ⟨.inr (by rw [← HNN.out]; exact hx), rfl⟩, rfl⟩
      · go_wp2
        try rw [Exit.noGoto_ret]
        go_ret2
        exact ⟨.inl ⟨ht, by rw [← HNN.out]; omega, ret_duo _ HNN.out⟩, rfl⟩

theorem empty_iff (s : ByteArray) : s.toList.isEmpty = decide (s.size = 0) := by
  rw [ByteArray.toList_eq, Bool.eq_iff_iff]
  simp only [List.isEmpty_iff, decide_eq_true_eq]
  constructor
  · intro h; show s.data.size = 0; rw [← Array.length_toList, h]; rfl
  · intro h; exact List.eq_nil_of_length_eq_zero (by rw [Array.length_toList]; exact h)

/-- impl.ReadDecimal at every text of at most ten bytes -/
theorem iread10 (s : ByteArray) (w : World) (hs : (s.size : Int) ≤ 10) :
    Calls Tryd.prog 9 #[.string s] w fun e w' => ((rdOk s ∧ e = .returned (duo (num10 (bs s)) true)) ∨ (¬ rdOk s ∧ e = .returned (duo 0 false))) ∧ w' = w := by
  by_cases h0 : s.size = 0
  · have hb : bs s = [] := List.eq_nil_of_length_eq_zero (by rw [bs_len]; exact h0)
    obtain rfl : s = ⟨#[]⟩ := by apply ByteArray.ext; exact Array.eq_empty_of_size_eq_zero h0
    refine (iread10_empty w).mono fun e w' ⟨he, hw⟩ => ⟨.inr ⟨fun h => ?_, he⟩, hw⟩
    have := h.2.2
    rw [hb] at this
    simp [num10, dec] at this
  · have hne : s.toList.isEmpty = false := by rw [empty_iff]; simp [h0]
    have h1 : 0 < s.size := by omega
    have hd := bs_drop s 0 h1
    simp only [List.drop_zero] at hd
    by_cases hz : (s[0].toNat : Int) = 48
    · refine (iread10_nought s w hs h1 hne hz).mono fun e w' ⟨he, hw⟩ => ⟨?_, hw⟩
      rcases he with ⟨h2, he⟩ | ⟨h2, he⟩
      · have hb : bs s = [48] := by
          rw [hd, hz, List.drop_eq_nil_of_le (by rw [bs_len]; omega)]
        have hr : num10 (bs s) = 0 := by rw [hb]; rfl
        refine .inl ⟨⟨by rw [hb]; intro x hx; simp at hx; omega, by rw [hr]; omega, by rw [hr, hb]; rfl⟩, by rw [hr]; exact he⟩
      · refine .inr ⟨fun h => rd_nought s ?_ (by rw [bs_len]; exact h2) h.1 h.2.2, he⟩
        rw [hd, hz]; rfl
    · have hbe : bs s ≠ [] := by rw [hd]; simp
      have hhd : (bs s).head? ≠ some 48 := by rw [hd]; simp; omega
      refine (iread10_other s w hs h1 hne hz).mono fun e w' ⟨he, hw⟩ => ⟨?_, hw⟩
      rcases he with ⟨h2, h3, he⟩ | ⟨h2, he⟩
      · exact .inl ⟨⟨h2, h3, (rd_good s hbe hhd h2).2⟩, he⟩
      · refine .inr ⟨fun h => ?_, he⟩
        rcases h2 with h2 | h2
        · exact h2 h.1
        · have := h.2.1; omega

end Go.Proofs.YtnghhfgbobpnkaaDoor
