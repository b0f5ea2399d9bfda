/-
  The contracts of the program's functions on what enough signed: QcRight, QcOf, HigherQc, Proven.
-/
import Derived.Test.YtcfgfhodbjakoavGreatDoorVoteOkI
import Derived.Test.YtcfgfhodbjakoavGreatDoorQcS
namespace Go.Proofs.YtcfgfhodbjakoavGreatDoor
open Go.RowKit Num


theorem countT_pos {s : Int} (h : 0 ≤ s) : countT s = cntTo s 7 := if_neg (by omega)


theorem among_i (s : Int) (m : Nat) (w : World) (h0 : 0 ≤ s) (_ : s < 18446744073709551616) (hm : m ≤ 7) :
    Calls Tryz.prog 135 #[.int .u64 s, .int .i64 (m : Int)] w fun e w' => e = .returned (.bool (decide (s < 2 ^ m))) ∧ w' = w := by
  have q0 : (0 : Int) ≤ (m : Int) := by omega
  have q1 : (m : Int) ≤ 7 := by omega
  have HE : Hid ((s / 2 ^ m == 0) = decide (s < 2 ^ m)) := (by
    have hp := (pow_peers hm).1
    by_cases h : s < 2 ^ m
    · rw [decide_eq_true h, Int.ediv_eq_zero_of_lt h0 h]; rfl
    · rw [decide_eq_false h, beq_eq_false_iff_ne]
      intro e
      have := Int.lt_ediv_add_one_mul_self s (show (0 : Int) < 2 ^ m by omega)
      rw [e] at this
      omega : (s / 2 ^ m == 0) = decide (s < 2 ^ m))
  go_enter Tryz.func135, Tryz.ntmps135
  go_wp2
  go_ret
  exact ⟨ret_bool HE.out, rfl⟩
theorem within_i (s t : Int) (w : World) :
    Calls Tryz.prog 139 #[.int .u64 s, .int .u64 t] w fun e w' => e = .returned (.bool (bits .andNot .u64 s t == 0)) ∧ w' = w := by
  go_enter Tryz.func139, Tryz.ntmps139
  go_wp2
  go_ret
  exact ⟨rfl, rfl⟩

theorem u64_low {s : Int} (f0 : -9223372036854775808 ≤ s) (f1 : s ≤ 9223372036854775807) {P : Int} (h0 : 1 ≤ P) (h1 : P ≤ 128) : decide (s % 18446744073709551616 < P) = inB s 0 (P - 1) := by
  unfold inB
  by_cases h : 0 ≤ s ∧ s ≤ P - 1
  · rw [decide_eq_true h, decide_eq_true (by omega)]
  · rw [decide_eq_false h, decide_eq_false (by omega)]

set_option maxRecDepth 100000 in
set_option maxHeartbeats 4000000 in
theorem qcRight_i0 (ps : TL) (va : Value) (n : Int) (q : QC) (w : World) (hT : TreeQ w va ps) (hl : (ps.length : Int) ≤ 1048576) (hn0 : -9223372036854775808 ≤ n) (hn1 : n ≤ 9223372036854775807) (hq : fitQ q) :
    Calls Tryz.prog 113 #[va, .int .i64 n, qcVal q] w fun e w' => e = .returned (.bool (qcRightB (bks ps) n q)) ∧ Below w.heap.size w w' := by
  have HT : Hid (TreeQ w va ps) := hT
  clear hT
  have E := eqQ q (0, 0, 0, 0)
  have G := guardQ
  obtain ⟨q0, q1, q2, q3⟩ := q
  unfold qcVal
  simp only at E ⊢
  have f0 := hq.1
  have f1 := hq.2
  simp only at f0 f1
  clear hq
  have HB1 : Hid (Below w.heap.size w (w.alloc (.cells #[.int .i64 q0, .int .i64 q1, .int .i64 q2, .int .i64 q3] 45))) := ba (Below.refl _ _) _
  by_cases hz : (q0, q1, q2, q3) = ((0, 0, 0, 0) : QC)
  · have HE : Hid (qcRightB (bks ps) n (q0, q1, q2, q3) = true) := if_pos hz
    rw [decide_eq_true hz] at E
    clear hz
    go_enter Tryz.func113, Tryz.ntmps113
    go_wp2
    go_ret
    exact ⟨ret_bool HE.out.symm, HB1.out⟩
  · have HE : Hid (qcRightB (bks ps) n (q0, q1, q2, q3) = (voteB (bks ps) n (q0, q1, q2, 0) && (inB q3 0 ((2 : Int) ^ n.toNat - 1) && decide (quorumT n ≤ countT q3)))) := if_neg hz
    rw [decide_eq_false hz] at E
    clear hz
    obtain ⟨W1, hW1⟩ : ∃ W1, W1 = w.alloc (.cells #[.int .i64 q0, .int .i64 q1, .int .i64 q2, .int .i64 q3] 45) := ⟨_, rfl⟩
    have HBW : Hid (Below w.heap.size w W1) := (by rw [hW1]; exact HB1.out : Below w.heap.size w W1)
    obtain ⟨u, hu⟩ : ∃ u, u = q3 % 18446744073709551616 := ⟨_, rfl⟩
    have HU : Hid (q3 % 18446744073709551616 = u) := hu.symm
    have u0 : 0 ≤ u := by omega
    have u1 : u < 18446744073709551616 := by omega
    clear hu
    go_enter Tryz.func113, Tryz.ntmps113
    go_wp2_with fail
    rw [← hW1]
    clear hW1 HB1 E G
    refine (voteOk_i0 ps va n (q0, q1, q2, 0) W1 (HT.out.below HBW.out) hl).mono ?_
    rintro e w2 ⟨rfl, hb2⟩
    have HB2 : Hid (Below w.heap.size w w2) := bt HBW.out hb2
    clear hb2
    cases hv : voteB (bks ps) n (q0, q1, q2, 0) with
    | false =>
      have HF : Hid (qcRightB (bks ps) n (q0, q1, q2, q3) = false) := (by rw [HE.out, hv]; rfl : qcRightB (bks ps) n (q0, q1, q2, q3) = false)
      clear hv
      go_wp2
      go_ret
      exact ⟨ret_bool HF.out.symm, HB2.out⟩
    | true =>
      have hn7 : inB n 1 7 = true := by
        unfold voteB at hv
        simp only [Bool.and_eq_true] at hv
        exact hv.1
      obtain ⟨n0, n1⟩ := inB_eq hn7
      obtain ⟨m, rfl⟩ := Int.eq_ofNat_of_zero_le (show 0 ≤ n by omega)
      obtain ⟨w0, w1⟩ := pow_peers (n := m) (by omega)
      have HF : Hid (qcRightB (bks ps) (m : Int) (q0, q1, q2, q3) = (inB q3 0 ((2 : Int) ^ m - 1) && decide (quorumT (m : Int) ≤ countT q3))) := (by rw [HE.out, hv]; rfl : qcRightB (bks ps) (m : Int) (q0, q1, q2, q3) = (inB q3 0 ((2 : Int) ^ m - 1) && decide (quorumT (m : Int) ≤ countT q3)))
      have HI : Hid (decide (u < 2 ^ m) = inB q3 0 ((2 : Int) ^ m - 1)) := (by rw [← HU.out]; exact u64_low f0 f1 w0 w1 : decide (u < 2 ^ m) = inB q3 0 ((2 : Int) ^ m - 1))
      clear hv hn7
      go_wp2_with fail
      rw [wrap_u64' q3, HU.out]
      refine (among_i u m w2 u0 u1 (by omega)).mono ?_
      rintro e w' ⟨rfl, hw⟩
      obtain rfl := hw.symm
      clear hw
      rw [HI.out]
      cases hi : inB q3 0 ((2 : Int) ^ m - 1) with
      | false =>
        have HG : Hid (qcRightB (bks ps) (m : Int) (q0, q1, q2, q3) = false) := (by rw [HF.out, hi]; rfl : qcRightB (bks ps) (m : Int) (q0, q1, q2, q3) = false)
        clear hi
        go_wp2
        go_ret
        exact ⟨ret_bool HG.out.symm, HB2.out⟩
      | true =>
        obtain ⟨i0, i1⟩ := inB_eq hi
        have HC : Hid (cntTo u 7 = countT q3) := (by rw [countT_pos i0, ← HU.out, show q3 % 18446744073709551616 = q3 by omega] : cntTo u 7 = countT q3)
        have HG : Hid (qcRightB (bks ps) (m : Int) (q0, q1, q2, q3) = decide (quorumT (m : Int) ≤ countT q3)) := (by rw [HF.out, hi]; rfl : qcRightB (bks ps) (m : Int) (q0, q1, q2, q3) = decide (quorumT (m : Int) ≤ countT q3))
        clear hi i0 i1
        go_wp2_with fail
        refine (bcount_i u w2 u0 u1).mono ?_
        rintro e w' ⟨rfl, hw⟩
        obtain rfl := hw.symm
        clear hw
        rw [HC.out]
        go_wp2_with fail
        refine (quorum_i0 (m : Int) w2 hn0 hn1).mono ?_
        rintro e w' ⟨rfl, hw⟩
        obtain rfl := hw.symm
        clear hw
        go_wp2
        go_ret
        exact ⟨ret_bool HG.out.symm, HB2.out⟩
theorem qcRight_i (ps : TL) (v : Value) (n : Int) (hn : (Lit.int .i64 n).wf = true) (x : QC) (hx : wfQ x) (w : World) (hT : TreeR w v ps) (hk : okT (bks ps)) :
    Calls Tryz.prog 113 #[v, .int .i64 n, qcVal x] w fun e w' => e = .returned (.bool (qcRightB (bks ps) n x)) ∧ Below w.heap.size w w' := qcRight_i0 ps v n x w hT.q (by have := hk.1; rw [bks_len] at this; exact this) (bounds_i64 hn).1 (bounds_i64 hn).2 ⟨(bounds_i64 hx.2.2.2).1, (bounds_i64 hx.2.2.2).2⟩

set_option maxRecDepth 100000 in
set_option maxHeartbeats 4000000 in
theorem proven_i (l : List VT) (va : Value) (q : QC) (liars : Int) (w : World) (ha : RowsR w va 4 voteF l) (hl : (l.length : Int) ≤ 1048576) (hq : fitQ q) (hL0 : 0 ≤ liars) (hL1 : liars < 128) :
    Calls Tryz.prog 114 #[va, qcVal q, .int .i64 liars] w fun e w' => e = .returned (.bool (provenB l q liars)) ∧ Below w.heap.size w w' := by
  have HA : Hid (RowsR w va 4 voteF l) := ha
  clear ha
  obtain ⟨q0, q1, q2, q3⟩ := q
  have f0 := hq.1
  have f1 := hq.2
  simp only at f0 f1
  clear hq
  unfold qcVal
  simp only
  have HB1 : Hid (Below w.heap.size w (w.alloc (.cells #[.int .i64 q0, .int .i64 q1, .int .i64 q2, .int .i64 q3] 45))) := ba (Below.refl _ _) _
  by_cases hz : q1 = 0
  · have HE : Hid (provenB l (q0, q1, q2, q3) liars = true) := if_pos hz
    have d0 : (q1 == 0) = true := by simpa using hz
    clear hz
    go_enter Tryz.func114, Tryz.ntmps114
    go_wp2
    go_ret
    exact ⟨ret_bool HE.out.symm, HB1.out⟩
  · have HE : Hid (provenB l (q0, q1, q2, q3) liars = _) := if_neg hz
    have d0 : (q1 == 0) = false := by simpa using hz
    obtain ⟨W1, hW1⟩ : ∃ W1, W1 = w.alloc (.cells #[.int .i64 q0, .int .i64 q1, .int .i64 q2, .int .i64 q3] 45) := ⟨_, rfl⟩
    have HX : Hid (W1.heap[w.heap.size]? = some (.cells #[.int .i64 q0, .int .i64 q1, .int .i64 q2, .int .i64 q3] 45 (0, 0))) := (by rw [hW1]; exact heap_alloc_new w _ : W1.heap[w.heap.size]? = some (.cells #[.int .i64 q0, .int .i64 q1, .int .i64 q2, .int .i64 q3] 45 (0, 0)))
    have HBW : Hid (Below w.heap.size w W1) := (by rw [hW1]; exact HB1.out : Below w.heap.size w W1)
    have l0 : w.heap.size < W1.heap.size := (Array.getElem?_eq_some_iff.1 HX.out).1
    clear hz
    go_enter Tryz.func114, Tryz.ntmps114
    go_wp2_with fail
    rw [← hW1]
    clear hW1 HB1 d0
    refine (signersOf_i l va q0 q1 q2 W1 (HA.out.below HBW.out) hl).mono ?_
    rintro e w2 ⟨rfl, hb2⟩
    have HB2 : Hid (Below w.heap.size w w2) := bt HBW.out hb2
    obtain ⟨_, _, _, y3⟩ := vote_cells ((hb2.block _ l0).trans HX.out)
    clear hb2
    obtain ⟨s0, s1⟩ := signersT_bounds l q0 q1 q2
    obtain ⟨s, hs⟩ : ∃ s, s = signersT l q0 q1 q2 := ⟨_, rfl⟩
    have HS : Hid (signersT l q0 q1 q2 = s) := hs.symm
    rw [← hs] at s0 s1 ⊢
    clear hs
    obtain ⟨u, hu⟩ : ∃ u, u = q3 % 18446744073709551616 := ⟨_, rfl⟩
    have HU : Hid (q3 % 18446744073709551616 = u) := hu.symm
    have u0 : 0 ≤ u := by omega
    have u1 : u < 18446744073709551616 := by omega
    have HP : Hid ((bits .andNot .u64 u (bits .or .u64 s liars) == 0) = provenB l (q0, q1, q2, q3) liars) := (by
      rw [prov_is u0 u1 s0 s1 hL0 hL1, HE.out]
      rw [HS.out]
      by_cases hr : 0 ≤ q3 ∧ q3 < 128
      · have e : u = q3 := by omega
        rw [e, decide_eq_true hr.1, Bool.true_and]
      · rw [decide_eq_false (show ¬ u < 128 by omega), Bool.and_false]
        by_cases h3 : 0 ≤ q3
        · rw [decide_eq_false (show ¬ q3 < 128 by omega), Bool.and_false, Bool.and_false]
        · rw [decide_eq_false h3, Bool.false_and, Bool.and_false] : (bits .andNot .u64 u (bits .or .u64 s liars) == 0) = provenB l (q0, q1, q2, q3) liars)
    clear hu
    go_wp2_with fail
    rw [wrap_u64' q3, HU.out]
    refine (within_i u _ w2).mono ?_
    rintro e w' ⟨rfl, hw⟩
    obtain rfl := hw.symm
    clear hw
    rw [HP.out]
    go_wp2
    go_ret
    exact ⟨rfl, HB2.out⟩

end Go.Proofs.YtcfgfhodbjakoavGreatDoor
