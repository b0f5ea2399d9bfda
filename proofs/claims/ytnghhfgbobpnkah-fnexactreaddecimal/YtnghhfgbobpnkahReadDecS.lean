/-
  The contract of spec.ReadDecimal.
-/
import Derived.Test.YtnghhfgbobpnkahDecS
import Derived.Test.YtnghhfgbobpnkahTen
namespace Go.Proofs.Ytnghhfgbobpnkah
open Go.RowKit Num

theorem sdecimal (n : Int) (w : World) (h0 : 0 ≤ n) (h1 : n ≤ 1000000000) :
    Calls Try.prog 10 #[.int .i64 n] w fun e w' => e = .returned (.string (strOfNums (dec n))) ∧ Below w.heap.size w w' := by
  by_cases h : n = 0
  · subst h; exact sdec_zero w
  · exact sdec_pos n w (by omega) (by omega)

theorem sread10_long (s : ByteArray) (w : World) (h : (10 : Int) < s.size) :
    Calls Try.prog 7 #[.string s] w fun e w' => e = .returned (duo 0 false) ∧ Below w.heap.size w w' := by
  go_enter Try.func7, Try.ntmps7
  go_wp2
  go_ret2
  exact ⟨rfl, Below.refl _ _⟩

set_option maxRecDepth 100000 in
set_option maxHeartbeats 1000000 in
theorem sread10 (s : ByteArray) (w : World) (hs : (s.size : Int) ≤ 10) :
    Calls Try.prog 7 #[.string s] w fun e w' => ((rdOk s ∧ e = .returned (duo (num10 (bs s)) true)) ∨ (¬ rdOk s ∧ e = .returned (duo 0 false))) ∧ Below w.heap.size w w' := by
  go_enter Try.func7, Try.ntmps7
  go_wp2
  go_loop [4, 5] (fun n i => ∃ (k : Nat) (N : Int), k ≤ s.size ∧ i = .int .i64 k ∧ n = .int .i64 N ∧ Hid (N = num10 ((bs s).take k)) ∧ tens ((bs s).take k)) (fun _ i => s.size - (intOf i).toNat)
  case atStart => exact ⟨0, 0, Nat.zero_le _, rfl, rfl, rfl, tens_nil⟩
  case round =>
    obtain ⟨k, N, hk, rfl, rfl, HN, ht⟩ := hrel
    by_cases hlt : (k : Int) < s.size
    · have hkn : k < s.size := by omega
      have hb := byte_le s[k]
      have hbd := num10_bd hkn (by omega) ht
      rw [← HN.out] at hbd
      by_cases h48 : (s[k].toNat : Int) < 48
      · have HT : Hid (¬ tens (bs s)) := not_tens hkn (.inl h48)
        go_wp2
        go_ret2
        exact ⟨.inr ⟨fun h => HT.out h.1, rfl⟩, Below.refl _ _⟩
      · by_cases h57 : 57 < (s[k].toNat : Int)
        · have HT : Hid (¬ tens (bs s)) := not_tens hkn (.inr h57)
          go_wp2
          go_ret2
          exact ⟨.inr ⟨fun h => HT.out h.1, rfl⟩, Below.refl _ _⟩
        · have HX : Hid (num10 ((bs s).take (k + 1)) = 10 * N + (s[k].toNat : Int) - 48) := by rw [Hid, num10_next hkn, ← HN.out]
          have HT : Hid (tens ((bs s).take (k + 1))) := by rw [Hid, Num.take_snoc s k hkn]; exact tens_snoc ht (by omega) (by omega)
          go_wp2
          go_round
          case rel => exact ⟨k + 1, _, by omega, by go_num, rfl, HX.out.symm, HT.out⟩
          case measure => simp [intOf]; omega
    · have e : (bs s).take k = bs s := List.take_of_length_le (by rw [bs_len]; omega)
      have hl : (bs s).length = s.size := bs_len s
      rw [e] at ht
      have hN : N = num10 (bs s) := by rw [HN.out, e]
      have h0 := num10_nonneg _ (bs s) rfl ht
      have HNN : Hid (N = num10 (bs s)) := hN
      rw [← hN] at h0
      clear hN e hl
      by_cases hx : 1000000000 < N
      · go_wp2
        go_ret2
        exact ⟨.inr ⟨fun h => by have := h.2.1; rw [← HNN.out] at this; omega, rfl⟩, Below.refl _ _⟩
      · have HE : Hid (((strOfNums (dec N)).toList == s.toList) = decide (dec N = bs s)) := dec_eq_iff s N h0
        by_cases hd : dec N = bs s
        · have hq : ((strOfNums (dec N)).toList == s.toList) = true := by rw [HE.out]; simp [hd]
          have HD : Hid (dec N = bs s) := hd
          clear hd
          go_wp2_with (go_at_call 10; refine (sdecimal _ _ (by omega) (by omega)).mono ?_; rintro e w' ⟨rfl, hb⟩)
          go_ret2
          exact ⟨.inl ⟨⟨ht, by rw [← HNN.out]; omega, by rw [← HNN.out]; exact HD.out⟩, ret_duo _ HNN.out⟩, by assumption⟩
        · have hq : ((strOfNums (dec N)).toList == s.toList) = false := by rw [HE.out]; simp [hd]
          have HD : Hid (¬ dec N = bs s) := hd
          clear hd
          go_wp2_with (go_at_call 10; refine (sdecimal _ _ (by omega) (by omega)).mono ?_; rintro e w' ⟨rfl, hb⟩)
          go_ret2
          exact ⟨.inr ⟨fun h => HD.out (by rw [HNN.out]; exact h.2.2), rfl⟩, by assumption⟩

end Go.Proofs.Ytnghhfgbobpnkah
