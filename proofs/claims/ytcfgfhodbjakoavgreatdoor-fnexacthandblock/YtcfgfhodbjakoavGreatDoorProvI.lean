/-
  The contract of the program's Proven where signers are those that there can be, whatever liars are.
-/
import Derived.Test.YtcfgfhodbjakoavGreatDoorQcI
namespace Go.Proofs.YtcfgfhodbjakoavGreatDoor
open Go.RowKit Num

theorem and_low {U Y Y' : Nat} (hU : U < 128) (h : Y % 128 = Y' % 128) : U &&& Y = U &&& Y' := by
  have e : ∀ Z, U &&& Z = U &&& (Z % 128) := fun Z => by
    have h1 : (U &&& Z) % 2 ^ 7 = (U % 2 ^ 7) &&& (Z % 2 ^ 7) := Nat.and_mod_two_pow
    have h2 : (U &&& Z) ≤ U := Nat.and_le_left
    rw [Nat.mod_eq_of_lt (show (U &&& Z) < 2 ^ 7 by omega), Nat.mod_eq_of_lt (show U < 2 ^ 7 by omega)] at h1
    exact h1
  rw [e Y, e Y', h]
theorem prov_mod {u s M : Int} (u0 : 0 ≤ u) (u1 : u < 128) (s0 : 0 ≤ s) (s1 : s < 128) (m0 : 0 ≤ M) (m1 : M < 18446744073709551616) : bits .andNot .u64 u (bits .or .u64 s M) = bits .andNot .u64 u (bits .or .u64 s (M % 128)) := by
  rw [or_u64 s0 (by omega) m0 m1, or_u64 s0 (by omega) (by omega) (by omega)]
  obtain ⟨U, rfl⟩ := Int.eq_ofNat_of_zero_le u0
  obtain ⟨G, rfl⟩ := Int.eq_ofNat_of_zero_le s0
  obtain ⟨N, rfl⟩ := Int.eq_ofNat_of_zero_le m0
  have e3 : ((N : Int) % 128).toNat = N % 128 := by omega
  rw [e3]
  simp only [Int.toNat_natCast]
  have h1 : G ||| N < 2 ^ 64 := Nat.or_lt_two_pow (by omega) (by omega)
  have h2 : G ||| N % 128 < 2 ^ 64 := Nat.or_lt_two_pow (by omega) (by omega)
  rw [andNot_u64 (by omega) (by omega) (by omega) (by omega), andNot_u64 (by omega) (by omega) (by omega) (by omega)]
  simp only [Int.toNat_natCast]
  have h3 : (G ||| N) % 2 ^ 7 = (G % 2 ^ 7) ||| (N % 2 ^ 7) := Nat.or_mod_two_pow
  have h4 : (G ||| N % 128) % 2 ^ 7 = (G % 2 ^ 7) ||| (N % 128 % 2 ^ 7) := Nat.or_mod_two_pow
  have h5 : N % 128 % 2 ^ 7 = N % 2 ^ 7 := by omega
  rw [h5] at h4
  rw [and_low (U := U) (Y := 18446744073709551615 - (G ||| N)) (Y' := 18446744073709551615 - (G ||| N % 128)) (by omega) (by omega)]
theorem bit_low (L : Int) (i : Nat) (hi : i < 7) : bitT (L % 18446744073709551616 % 128) i = bitT L i := by
  unfold bitT
  rcases (by omega : i = 0 ∨ i = 1 ∨ i = 2 ∨ i = 3 ∨ i = 4 ∨ i = 5 ∨ i = 6) with rfl | rfl | rfl | rfl | rfl | rfl | rfl <;> simp only [Int.pow_succ, Int.pow_zero, Int.one_mul, Int.reduceMul] <;> omega
set_option maxRecDepth 100000 in
set_option maxHeartbeats 4000000 in
theorem provenR_i (l : List VT) (va : Value) (q : QC) (liars : Int) (w : World) (ha : RowsR w va 4 voteF l) (hl : (l.length : Int) ≤ 1048576) (hq : q.2.1 = 0 ∨ 0 ≤ q.2.2.2 ∧ q.2.2.2 < 128) :
    Calls Tryz.prog 114 #[va, qcVal q, .int .i64 liars] w fun e w' => e = .returned (.bool (provenB l q liars)) ∧ Below w.heap.size w w' := by
  have HA : Hid (RowsR w va 4 voteF l) := ha
  clear ha
  obtain ⟨q0, q1, q2, q3⟩ := q
  simp only at hq
  unfold qcVal
  simp only
  have HB1 : Hid (Below w.heap.size w (w.alloc (.cells #[.int .i64 q0, .int .i64 q1, .int .i64 q2, .int .i64 q3] 45))) := ba (Below.refl _ _) _
  by_cases hz : q1 = 0
  · have HE : Hid (provenB l (q0, q1, q2, q3) liars = true) := if_pos hz
    have d0 : (q1 == 0) = true := by simpa using hz
    clear hz hq
    go_enter Tryz.func114, Tryz.ntmps114
    go_wp2
    go_ret
    exact ⟨ret_bool HE.out.symm, HB1.out⟩
  · have HE : Hid (provenB l (q0, q1, q2, q3) liars = _) := if_neg hz
    have d0 : (q1 == 0) = false := by simpa using hz
    obtain ⟨W1, hW1⟩ : ∃ W1, W1 = w.alloc (.cells #[.int .i64 q0, .int .i64 q1, .int .i64 q2, .int .i64 q3] 45) := ⟨_, rfl⟩
    have HX : Hid (W1.heap[w.heap.size]? = some (.cells #[.int .i64 q0, .int .i64 q1, .int .i64 q2, .int .i64 q3] 45 (0, 0))) := (by rw [hW1]; exact heap_alloc_new w _ : W1.heap[w.heap.size]? = some (.cells #[.int .i64 q0, .int .i64 q1, .int .i64 q2, .int .i64 q3] 45 (0, 0)))
    have HBW : Hid (Below w.heap.size w W1) := (by rw [hW1]; exact HB1.out : Below w.heap.size w W1)
    have l0 : w.heap.size < W1.heap.size := (Array.getElem?_eq_some_iff.1 HX.out).1
    have f0 : 0 ≤ q3 := by rcases hq with h | h; exact absurd h hz; exact h.1
    have f1 : q3 < 128 := by rcases hq with h | h; exact absurd h hz; exact h.2
    clear hz hq
    go_enter Tryz.func114, Tryz.ntmps114
    go_wp2_with fail
    rw [← hW1]
    clear hW1 HB1 d0
    refine (signersOf_i l va q0 q1 q2 W1 (HA.out.below HBW.out) hl).mono ?_
    rintro e w2 ⟨rfl, hb2⟩
    have HB2 : Hid (Below w.heap.size w w2) := bt HBW.out hb2
    obtain ⟨_, _, _, y3⟩ := vote_cells ((hb2.block _ l0).trans HX.out)
    clear hb2
    obtain ⟨s0, s1⟩ := signersT_bounds l q0 q1 q2
    obtain ⟨s, hs⟩ : ∃ s, s = signersT l q0 q1 q2 := ⟨_, rfl⟩
    have HS : Hid (signersT l q0 q1 q2 = s) := hs.symm
    rw [← hs] at s0 s1 ⊢
    clear hs
    obtain ⟨M, hM⟩ : ∃ M, M = liars % 18446744073709551616 := ⟨_, rfl⟩
    have HM : Hid (liars % 18446744073709551616 = M) := hM.symm
    have m0 : 0 ≤ M := by omega
    have m1 : M < 18446744073709551616 := by omega
    have HP : Hid ((bits .andNot .u64 q3 (bits .or .u64 s M) == 0) = provenB l (q0, q1, q2, q3) liars) := (by
      rw [prov_mod f0 f1 s0 s1 m0 m1, prov_is f0 (by omega) s0 s1 (by omega) (by omega), HE.out]
      rw [HS.out, hM]
      simp only [show List.range 7 = [0, 1, 2, 3, 4, 5, 6] from rfl, List.all_cons, List.all_nil, bit_low liars 0 (by omega), bit_low liars 1 (by omega), bit_low liars 2 (by omega), bit_low liars 3 (by omega), bit_low liars 4 (by omega), bit_low liars 5 (by omega), bit_low liars 6 (by omega), decide_eq_true f0, decide_eq_true f1, Bool.true_and] : (bits .andNot .u64 q3 (bits .or .u64 s M) == 0) = provenB l (q0, q1, q2, q3) liars)
    clear hM
    go_wp2_with fail
    rw [wrap_u64' liars, HM.out]
    refine (within_i q3 _ w2).mono ?_
    rintro e w' ⟨rfl, hw⟩
    obtain rfl := hw.symm
    clear hw
    rw [HP.out]
    go_wp2
    go_ret
    exact ⟨rfl, HB2.out⟩

end Go.Proofs.YtcfgfhodbjakoavGreatDoor
