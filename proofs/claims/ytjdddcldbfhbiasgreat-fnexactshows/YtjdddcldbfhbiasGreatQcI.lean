/-
  The contracts of the program's functions on what enough signed: QcRight, QcOf, HigherQc, Proven.
-/
import Derived.Test.YtjdddcldbfhbiasGreatVoteOkI
import Derived.Test.YtjdddcldbfhbiasGreatQcS
namespace Go.Proofs.YtjdddcldbfhbiasGreat
open Go.RowKit Num

set_option maxRecDepth 100000 in
set_option maxHeartbeats 1000000 in
theorem higher_i (a b : QC) (w : World) :
    Calls Tryz.prog 55 #[qcVal a, qcVal b] w fun e w' => e = .returned (qcVal (higherT a b)) ∧ Below w.heap.size w w' := by
  obtain ⟨a0, a1, a2, a3⟩ := a
  obtain ⟨b0, b1, b2, b3⟩ := b
  unfold qcVal
  simp only
  by_cases h : a1 < b1
  · have HE : Hid (higherT (a0, a1, a2, a3) (b0, b1, b2, b3) = (b0, b1, b2, b3)) := if_pos h
    go_enter Tryz.func55, Tryz.ntmps55
    go_wp2
    refine bodyPost_ret (v := .agg #[.int .i64 b0, .int .i64 b1, .int .i64 b2, .int .i64 b3]) (by simp [results, Tryz.results55, go_sem]) rfl ⟨by rw [HE.out], ?_⟩
    exact ba (ba (ba (Below.refl _ _) _) _) _
  · have HE : Hid (higherT (a0, a1, a2, a3) (b0, b1, b2, b3) = (a0, a1, a2, a3)) := if_neg h
    go_enter Tryz.func55, Tryz.ntmps55
    go_wp2
    refine bodyPost_ret (v := .agg #[.int .i64 a0, .int .i64 a1, .int .i64 a2, .int .i64 a3]) (by simp [results, Tryz.results55, go_sem]) rfl ⟨by rw [HE.out], ?_⟩
    exact ba (ba (ba (Below.refl _ _) _) _) _

theorem countT_pos {s : Int} (h : 0 ≤ s) : countT s = cntTo s 7 := if_neg (by omega)

set_option maxRecDepth 100000 in
set_option maxHeartbeats 2000000 in
theorem qcOf_i (l : List VT) (va : Value) (p : Int) (_ : (Lit.int .i64 p).wf = true) (v : Int) (_ : (Lit.int .i64 v).wf = true) (b : Int) (_ : (Lit.int .i64 b).wf = true) (n : Int) (hn : (Lit.int .i64 n).wf = true) (w : World) (ha : RowsR w va 4 voteF l) (_ : capOk va) (hl : (l.length : Int) ≤ 1048576) :
    Calls Tryz.prog 186 #[va, .int .i64 p, .int .i64 v, .int .i64 b, .int .i64 n] w fun e w' => e = .returned (.tuple #[qcVal (qcOfT l p v b n).1, .bool (qcOfT l p v b n).2]) ∧ Below w.heap.size w w' := by
  have HA : Hid (RowsR w va 4 voteF l) := ha
  have hn0 := (bounds_i64 hn).1
  have hn1 := (bounds_i64 hn).2
  clear ha hn
  obtain ⟨W1, hW1⟩ : ∃ W1, W1 = w.alloc (.cells #[.int .i64 0, .int .i64 0, .int .i64 0, .int .i64 0] 38) := ⟨_, rfl⟩
  have HX : Hid (W1.heap[w.heap.size]? = some (.cells #[.int .i64 0, .int .i64 0, .int .i64 0, .int .i64 0] 38 (0, 0))) := (by rw [hW1]; exact heap_alloc_new w _ : W1.heap[w.heap.size]? = some (.cells #[.int .i64 0, .int .i64 0, .int .i64 0, .int .i64 0] 38 (0, 0)))
  have HBW : Hid (Below w.heap.size w W1) := (by rw [hW1]; exact ba (Below.refl _ _) _ : Below w.heap.size w W1)
  have l0 : w.heap.size < W1.heap.size := (Array.getElem?_eq_some_iff.1 HX.out).1
  go_enter Tryz.func186, Tryz.ntmps186
  go_wp2_with fail
  rw [← hW1]
  clear hW1
  refine (signersOf_i l va p v b W1 (HA.out.below HBW.out) hl).mono ?_
  rintro e w2 ⟨rfl, hb2⟩
  have HX2 : Hid (w2.heap[w.heap.size]? = some (.cells #[.int .i64 0, .int .i64 0, .int .i64 0, .int .i64 0] 38 (0, 0))) := (hb2.block _ l0).trans HX.out
  have HB2 : Hid (Below w.heap.size w w2) := bt HBW.out hb2
  clear hb2
  obtain ⟨s0, s1⟩ := signersT_bounds l p v b
  obtain ⟨s, hs⟩ : ∃ s, s = signersT l p v b := ⟨_, rfl⟩
  have HS : Hid (signersT l p v b = s) := hs.symm
  rw [← hs] at s0 s1 ⊢
  clear hs
  go_wp2_with fail
  refine (bcount_i s w2 (by omega) (by omega)).mono ?_
  rintro e w' ⟨rfl, hw⟩
  obtain rfl := hw.symm
  clear hw
  go_wp2_with fail
  refine (quorum_i0 n w2 hn0 hn1).mono ?_
  rintro e w' ⟨rfl, hw⟩
  obtain rfl := hw.symm
  clear hw
  obtain ⟨c, hc⟩ : ∃ c, c = cntTo s 7 := ⟨_, rfl⟩
  obtain ⟨q, hq⟩ : ∃ q, q = quorumT n := ⟨_, rfl⟩
  have HC : Hid (countT s = c) := (by rw [countT_pos s0, ← hc] : countT s = c)
  have HQ : Hid (quorumT n = q) := hq.symm
  rw [← hc, ← hq]
  clear hc hq
  by_cases hlt : c < q
  · have HE : Hid (qcOfT l p v b n = ((0, 0, 0, 0), false)) := (by unfold qcOfT; rw [HS.out, HC.out, HQ.out, if_pos hlt] : qcOfT l p v b n = ((0, 0, 0, 0), false))
    obtain ⟨⟨a0, g0⟩, ⟨a1, g1⟩, ⟨a2, g2⟩, ⟨a3, g3⟩, hk, hg⟩ := blk_four HX2.out (.int .i64 0) (.int .i64 0) (.int .i64 0) (.int .i64 0)
    have HG : Hid (w2.grownBy _ (some w.heap.size)) := hg
    obtain ⟨z0, z1, z2, z3⟩ := vote_cells hk
    clear hg hk
    go_wp2
    refine bodyPost_ret (v := .tuple #[.agg #[.int .i64 0, .int .i64 0, .int .i64 0, .int .i64 0], .bool false]) (by simp [results, Tryz.results186, go_sem, z0, z1, z2, z3]) rfl ?_
    exact ⟨by rw [HE.out]; rfl, HB2.out.grown HG.out HB2.out.size (fun y hy => by cases hy; exact Nat.le_refl _)⟩
  · have HE : Hid (qcOfT l p v b n = ((p, v, b, s), true)) := (by unfold qcOfT; rw [HS.out, HC.out, HQ.out, if_neg hlt] : qcOfT l p v b n = ((p, v, b, s), true))
    obtain ⟨⟨a0, g0⟩, ⟨a1, g1⟩, ⟨a2, g2⟩, ⟨a3, g3⟩, hk, hg⟩ := blk_four HX2.out (.int .i64 p) (.int .i64 v) (.int .i64 b) (.int .i64 s)
    have HG : Hid (w2.grownBy _ (some w.heap.size)) := hg
    obtain ⟨z0, z1, z2, z3⟩ := vote_cells hk
    clear hg hk
    go_wp2
    refine bodyPost_ret (v := .tuple #[.agg #[.int .i64 p, .int .i64 v, .int .i64 b, .int .i64 s], .bool true]) (by simp [results, Tryz.results186, go_sem, z0, z1, z2, z3]) rfl ?_
    exact ⟨by rw [HE.out]; rfl, HB2.out.grown HG.out HB2.out.size (fun y hy => by cases hy; exact Nat.le_refl _)⟩

theorem among_i (s : Int) (m : Nat) (w : World) (h0 : 0 ≤ s) (_ : s < 18446744073709551616) (hm : m ≤ 7) :
    Calls Tryz.prog 196 #[.int .u64 s, .int .i64 (m : Int)] w fun e w' => e = .returned (.bool (decide (s < 2 ^ m))) ∧ w' = w := by
  have q0 : (0 : Int) ≤ (m : Int) := by omega
  have q1 : (m : Int) ≤ 7 := by omega
  have HE : Hid ((s / 2 ^ m == 0) = decide (s < 2 ^ m)) := (by
    have hp := (pow_peers hm).1
    by_cases h : s < 2 ^ m
    · rw [decide_eq_true h, Int.ediv_eq_zero_of_lt h0 h]; rfl
    · rw [decide_eq_false h, beq_eq_false_iff_ne]
      intro e
      have := Int.lt_ediv_add_one_mul_self s (show (0 : Int) < 2 ^ m by omega)
      rw [e] at this
      omega : (s / 2 ^ m == 0) = decide (s < 2 ^ m))
  go_enter Tryz.func196, Tryz.ntmps196
  go_wp2
  go_ret
  exact ⟨ret_bool HE.out, rfl⟩

theorem u64_low {s : Int} (f0 : -9223372036854775808 ≤ s) (f1 : s ≤ 9223372036854775807) {P : Int} (h0 : 1 ≤ P) (h1 : P ≤ 128) : decide (s % 18446744073709551616 < P) = inB s 0 (P - 1) := by
  unfold inB
  by_cases h : 0 ≤ s ∧ s ≤ P - 1
  · rw [decide_eq_true h, decide_eq_true (by omega)]
  · rw [decide_eq_false h, decide_eq_false (by omega)]

set_option maxRecDepth 100000 in
set_option maxHeartbeats 4000000 in
theorem qcRight_i0 (ps : TL) (va : Value) (n : Int) (q : QC) (w : World) (hT : TreeQ w va ps) (hl : (ps.length : Int) ≤ 1048576) (hn0 : -9223372036854775808 ≤ n) (hn1 : n ≤ 9223372036854775807) (hq : fitQ q) :
    Calls Tryz.prog 170 #[va, .int .i64 n, qcVal q] w fun e w' => e = .returned (.bool (qcRightB (bks ps) n q)) ∧ Below w.heap.size w w' := by
  have HT : Hid (TreeQ w va ps) := hT
  clear hT
  have E := eqQ q (0, 0, 0, 0)
  have G := guardQ
  obtain ⟨q0, q1, q2, q3⟩ := q
  unfold qcVal
  simp only at E ⊢
  have f0 := hq.1
  have f1 := hq.2
  simp only at f0 f1
  clear hq
  have HB1 : Hid (Below w.heap.size w (w.alloc (.cells #[.int .i64 q0, .int .i64 q1, .int .i64 q2, .int .i64 q3] 38))) := ba (Below.refl _ _) _
  by_cases hz : (q0, q1, q2, q3) = ((0, 0, 0, 0) : QC)
  · have HE : Hid (qcRightB (bks ps) n (q0, q1, q2, q3) = true) := if_pos hz
    rw [decide_eq_true hz] at E
    clear hz
    go_enter Tryz.func170, Tryz.ntmps170
    go_wp2
    go_ret
    exact ⟨ret_bool HE.out.symm, HB1.out⟩
  · have HE : Hid (qcRightB (bks ps) n (q0, q1, q2, q3) = (voteB (bks ps) n (q0, q1, q2, 0) && (inB q3 0 ((2 : Int) ^ n.toNat - 1) && decide (quorumT n ≤ countT q3)))) := if_neg hz
    rw [decide_eq_false hz] at E
    clear hz
    obtain ⟨W1, hW1⟩ : ∃ W1, W1 = w.alloc (.cells #[.int .i64 q0, .int .i64 q1, .int .i64 q2, .int .i64 q3] 38) := ⟨_, rfl⟩
    have HBW : Hid (Below w.heap.size w W1) := (by rw [hW1]; exact HB1.out : Below w.heap.size w W1)
    obtain ⟨u, hu⟩ : ∃ u, u = q3 % 18446744073709551616 := ⟨_, rfl⟩
    have HU : Hid (q3 % 18446744073709551616 = u) := hu.symm
    have u0 : 0 ≤ u := by omega
    have u1 : u < 18446744073709551616 := by omega
    clear hu
    go_enter Tryz.func170, Tryz.ntmps170
    go_wp2_with fail
    rw [← hW1]
    clear hW1 HB1 E G
    refine (voteOk_i0 ps va n (q0, q1, q2, 0) W1 (HT.out.below HBW.out) hl).mono ?_
    rintro e w2 ⟨rfl, hb2⟩
    have HB2 : Hid (Below w.heap.size w w2) := bt HBW.out hb2
    clear hb2
    cases hv : voteB (bks ps) n (q0, q1, q2, 0) with
    | false =>
      have HF : Hid (qcRightB (bks ps) n (q0, q1, q2, q3) = false) := (by rw [HE.out, hv]; rfl : qcRightB (bks ps) n (q0, q1, q2, q3) = false)
      clear hv
      go_wp2
      go_ret
      exact ⟨ret_bool HF.out.symm, HB2.out⟩
    | true =>
      have hn7 : inB n 1 7 = true := by
        unfold voteB at hv
        simp only [Bool.and_eq_true] at hv
        exact hv.1
      obtain ⟨n0, n1⟩ := inB_eq hn7
      obtain ⟨m, rfl⟩ := Int.eq_ofNat_of_zero_le (show 0 ≤ n by omega)
      obtain ⟨w0, w1⟩ := pow_peers (n := m) (by omega)
      have HF : Hid (qcRightB (bks ps) (m : Int) (q0, q1, q2, q3) = (inB q3 0 ((2 : Int) ^ m - 1) && decide (quorumT (m : Int) ≤ countT q3))) := (by rw [HE.out, hv]; rfl : qcRightB (bks ps) (m : Int) (q0, q1, q2, q3) = (inB q3 0 ((2 : Int) ^ m - 1) && decide (quorumT (m : Int) ≤ countT q3)))
      have HI : Hid (decide (u < 2 ^ m) = inB q3 0 ((2 : Int) ^ m - 1)) := (by rw [← HU.out]; exact u64_low f0 f1 w0 w1 : decide (u < 2 ^ m) = inB q3 0 ((2 : Int) ^ m - 1))
      clear hv hn7
      go_wp2_with fail
      rw [wrap_u64' q3, HU.out]
      refine (among_i u m w2 u0 u1 (by omega)).mono ?_
      rintro e w' ⟨rfl, hw⟩
      obtain rfl := hw.symm
      clear hw
      rw [HI.out]
      cases hi : inB q3 0 ((2 : Int) ^ m - 1) with
      | false =>
        have HG : Hid (qcRightB (bks ps) (m : Int) (q0, q1, q2, q3) = false) := (by rw [HF.out, hi]; rfl : qcRightB (bks ps) (m : Int) (q0, q1, q2, q3) = false)
        clear hi
        go_wp2
        go_ret
        exact ⟨ret_bool HG.out.symm, HB2.out⟩
      | true =>
        obtain ⟨i0, i1⟩ := inB_eq hi
        have HC : Hid (cntTo u 7 = countT q3) := (by rw [countT_pos i0, ← HU.out, show q3 % 18446744073709551616 = q3 by omega] : cntTo u 7 = countT q3)
        have HG : Hid (qcRightB (bks ps) (m : Int) (q0, q1, q2, q3) = decide (quorumT (m : Int) ≤ countT q3)) := (by rw [HF.out, hi]; rfl : qcRightB (bks ps) (m : Int) (q0, q1, q2, q3) = decide (quorumT (m : Int) ≤ countT q3))
        clear hi i0 i1
        go_wp2_with fail
        refine (bcount_i u w2 u0 u1).mono ?_
        rintro e w' ⟨rfl, hw⟩
        obtain rfl := hw.symm
        clear hw
        rw [HC.out]
        go_wp2_with fail
        refine (quorum_i0 (m : Int) w2 hn0 hn1).mono ?_
        rintro e w' ⟨rfl, hw⟩
        obtain rfl := hw.symm
        clear hw
        go_wp2
        go_ret
        exact ⟨ret_bool HG.out.symm, HB2.out⟩
theorem qcRight_i (ps : TL) (v : Value) (n : Int) (hn : (Lit.int .i64 n).wf = true) (x : QC) (hx : wfQ x) (w : World) (hT : TreeR w v ps) (hk : okT (bks ps)) :
    Calls Tryz.prog 170 #[v, .int .i64 n, qcVal x] w fun e w' => e = .returned (.bool (qcRightB (bks ps) n x)) ∧ Below w.heap.size w w' := qcRight_i0 ps v n x w hT.q (by have := hk.1; rw [bks_len] at this; exact this) (bounds_i64 hn).1 (bounds_i64 hn).2 ⟨(bounds_i64 hx.2.2.2).1, (bounds_i64 hx.2.2.2).2⟩


end Go.Proofs.YtjdddcldbfhbiasGreat
