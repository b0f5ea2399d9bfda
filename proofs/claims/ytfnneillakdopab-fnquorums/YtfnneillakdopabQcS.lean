/-
  The contracts of the specification's functions on what enough signed: QcRight, QcOf, HigherQc, Proven.
-/
import Derived.Test.YtfnneillakdopabVoteS
namespace Go.Proofs.Ytfnneillakdopab
open Go.RowKit Num

/-- what enough signed, as a value -/
def qcVal (q : QC) : Value := .agg #[.int .i64 q.1, .int .i64 q.2.1, .int .i64 q.2.2.1, .int .i64 q.2.2.2]
/-- numbers that fit -/
def fitQ (q : QC) : Prop := -9223372036854775808 ≤ q.2.2.2 ∧ q.2.2.2 ≤ 9223372036854775807

theorem pow_peers {n : Nat} (h : n ≤ 7) : (1 : Int) ≤ 2 ^ n ∧ (2 : Int) ^ n ≤ 128 := by
  match n, h with
  | 0, _ => decide
  | 1, _ => decide
  | 2, _ => decide
  | 3, _ => decide
  | 4, _ => decide
  | 5, _ => decide
  | 6, _ => decide
  | 7, _ => decide

/-- a block of four cells, written cell by cell -/
theorem blk_four {w : World} {N : Nat} {u0 u1 u2 u3 : Value} {t : TypeId} (h : w.heap[N]? = some (.cells #[u0, u1, u2, u3] t (0, 0))) (a b c d : Value) :
    (w.cell? ⟨N, 0, none⟩ = some u0 ∧ w.frozen? ⟨N, 0, none⟩ = false) ∧ ((w.setCell ⟨N, 0, none⟩ a).cell? ⟨N, 1, none⟩ = some u1 ∧ (w.setCell ⟨N, 0, none⟩ a).frozen? ⟨N, 1, none⟩ = false) ∧
      (((w.setCell ⟨N, 0, none⟩ a).setCell ⟨N, 1, none⟩ b).cell? ⟨N, 2, none⟩ = some u2 ∧ ((w.setCell ⟨N, 0, none⟩ a).setCell ⟨N, 1, none⟩ b).frozen? ⟨N, 2, none⟩ = false) ∧
      ((((w.setCell ⟨N, 0, none⟩ a).setCell ⟨N, 1, none⟩ b).setCell ⟨N, 2, none⟩ c).cell? ⟨N, 3, none⟩ = some u3 ∧ (((w.setCell ⟨N, 0, none⟩ a).setCell ⟨N, 1, none⟩ b).setCell ⟨N, 2, none⟩ c).frozen? ⟨N, 3, none⟩ = false) ∧
      ((((w.setCell ⟨N, 0, none⟩ a).setCell ⟨N, 1, none⟩ b).setCell ⟨N, 2, none⟩ c).setCell ⟨N, 3, none⟩ d).heap[N]? = some (.cells #[a, b, c, d] t (0, 0)) ∧
      w.grownBy ((((w.setCell ⟨N, 0, none⟩ a).setCell ⟨N, 1, none⟩ b).setCell ⟨N, 2, none⟩ c).setCell ⟨N, 3, none⟩ d) (some N) := by
  have h0 : (w.setCell ⟨N, 0, none⟩ a).heap[N]? = some (.cells #[a, u1, u2, u3] t (0, 0)) := heap_setCell_same w N 0 _ t a h
  have h1 : ((w.setCell ⟨N, 0, none⟩ a).setCell ⟨N, 1, none⟩ b).heap[N]? = some (.cells #[a, b, u2, u3] t (0, 0)) := heap_setCell_same _ N 1 _ t b h0
  have h2 : (((w.setCell ⟨N, 0, none⟩ a).setCell ⟨N, 1, none⟩ b).setCell ⟨N, 2, none⟩ c).heap[N]? = some (.cells #[a, b, c, u3] t (0, 0)) := heap_setCell_same _ N 2 _ t c h1
  have h3 : ((((w.setCell ⟨N, 0, none⟩ a).setCell ⟨N, 1, none⟩ b).setCell ⟨N, 2, none⟩ c).setCell ⟨N, 3, none⟩ d).heap[N]? = some (.cells #[a, b, c, d] t (0, 0)) := heap_setCell_same _ N 3 _ t d h2
  refine ⟨⟨?_, frozen_of_row w N 0 _ _ h⟩, ⟨?_, frozen_of_row _ N 1 _ _ h0⟩, ⟨?_, frozen_of_row _ N 2 _ _ h1⟩, ⟨?_, frozen_of_row _ N 3 _ _ h2⟩, h3, grown_trans (grown_trans (grown_trans (set_grown w N 0 a) (set_grown _ N 1 b)) (set_grown _ N 2 c)) (set_grown _ N 3 d)⟩
  · rw [cell_of_row w N 0 _ _ (0, 0) h]; rfl
  · rw [cell_of_row _ N 1 _ _ (0, 0) h0]; rfl
  · rw [cell_of_row _ N 2 _ _ (0, 0) h1]; rfl
  · rw [cell_of_row _ N 3 _ _ (0, 0) h2]; rfl

set_option maxRecDepth 100000 in
set_option maxHeartbeats 1000000 in
theorem higher_s (a b : QC) (w : World) :
    Calls Try.prog 48 #[qcVal a, qcVal b] w fun e w' => e = .returned (qcVal (higherT a b)) ∧ Below w.heap.size w w' := by
  obtain ⟨a0, a1, a2, a3⟩ := a
  obtain ⟨b0, b1, b2, b3⟩ := b
  unfold qcVal
  simp only
  by_cases h : a1 < b1
  · have HE : Hid (higherT (a0, a1, a2, a3) (b0, b1, b2, b3) = (b0, b1, b2, b3)) := if_pos h
    go_enter Try.func48, Try.ntmps48
    go_wp2
    refine bodyPost_ret (v := .agg #[.int .i64 b0, .int .i64 b1, .int .i64 b2, .int .i64 b3]) (by simp [results, Try.results48, go_sem]) rfl ⟨by rw [HE.out], ?_⟩
    exact ba (ba (ba (Below.refl _ _) _) _) _
  · have HE : Hid (higherT (a0, a1, a2, a3) (b0, b1, b2, b3) = (a0, a1, a2, a3)) := if_neg h
    go_enter Try.func48, Try.ntmps48
    go_wp2
    refine bodyPost_ret (v := .agg #[.int .i64 a0, .int .i64 a1, .int .i64 a2, .int .i64 a3]) (by simp [results, Try.results48, go_sem]) rfl ⟨by rw [HE.out], ?_⟩
    exact ba (ba (ba (Below.refl _ _) _) _) _

set_option maxRecDepth 100000 in
set_option maxHeartbeats 2000000 in
theorem qcOf_s (l : List VT) (va : Value) (p v b n : Int) (w : World) (ha : RowsR w va 4 voteF l) (hl : (l.length : Int) ≤ 1048576) (hn0 : -9223372036854775808 ≤ n) (hn1 : n ≤ 9223372036854775807) :
    Calls Try.prog 39 #[va, .int .i64 p, .int .i64 v, .int .i64 b, .int .i64 n] w fun e w' => e = .returned (.tuple #[qcVal (qcOfT l p v b n).1, .bool (qcOfT l p v b n).2]) ∧ Below w.heap.size w w' := by
  have HA : Hid (RowsR w va 4 voteF l) := ha
  clear ha
  obtain ⟨W1, hW1⟩ : ∃ W1, W1 = w.alloc (.cells #[.int .i64 0, .int .i64 0, .int .i64 0, .int .i64 0] 31) := ⟨_, rfl⟩
  have HX : Hid (W1.heap[w.heap.size]? = some (.cells #[.int .i64 0, .int .i64 0, .int .i64 0, .int .i64 0] 31 (0, 0))) := (by rw [hW1]; exact heap_alloc_new w _ : W1.heap[w.heap.size]? = some (.cells #[.int .i64 0, .int .i64 0, .int .i64 0, .int .i64 0] 31 (0, 0)))
  have HBW : Hid (Below w.heap.size w W1) := (by rw [hW1]; exact ba (Below.refl _ _) _ : Below w.heap.size w W1)
  have l0 : w.heap.size < W1.heap.size := (Array.getElem?_eq_some_iff.1 HX.out).1
  go_enter Try.func39, Try.ntmps39
  go_wp2_with fail
  rw [← hW1]
  clear hW1
  refine (signers_s l va p v b W1 (HA.out.below HBW.out) hl).mono ?_
  rintro e w2 ⟨rfl, hb2⟩
  have HX2 : Hid (w2.heap[w.heap.size]? = some (.cells #[.int .i64 0, .int .i64 0, .int .i64 0, .int .i64 0] 31 (0, 0))) := (hb2.block _ l0).trans HX.out
  have HB2 : Hid (Below w.heap.size w w2) := bt HBW.out hb2
  have l2 : w.heap.size < w2.heap.size := (Array.getElem?_eq_some_iff.1 HX2.out).1
  clear hb2
  obtain ⟨s0, s1⟩ := signersT_bounds l p v b
  obtain ⟨s, hs⟩ : ∃ s, s = signersT l p v b := ⟨_, rfl⟩
  have HS : Hid (signersT l p v b = s) := hs.symm
  rw [← hs] at s0 s1 ⊢
  clear hs
  obtain ⟨W3, hW3⟩ : ∃ W3, W3 = w2.alloc (.cells #[.int .i64 p, .int .i64 v, .int .i64 b, .int .i64 s] 31) := ⟨_, rfl⟩
  have HB3 : Hid (Below w2.heap.size w2 W3) := (by rw [hW3]; exact ba (Below.refl _ _) _ : Below w2.heap.size w2 W3)
  have HX3 : Hid (W3.heap[w.heap.size]? = some (.cells #[.int .i64 0, .int .i64 0, .int .i64 0, .int .i64 0] 31 (0, 0))) := (HB3.out.block _ l2).trans HX2.out
  have HY3 : Hid (W3.heap[w2.heap.size]? = some (.cells #[.int .i64 p, .int .i64 v, .int .i64 b, .int .i64 s] 31 (0, 0))) := (by rw [hW3]; exact heap_alloc_new w2 _ : W3.heap[w2.heap.size]? = some (.cells #[.int .i64 p, .int .i64 v, .int .i64 b, .int .i64 s] 31 (0, 0)))
  go_wp2_with fail
  rw [← hW3]
  clear hW3
  obtain ⟨y0, y1, y2, y3⟩ := vote_cells HY3.out
  refine (count_s s W3 (by omega) (by omega)).mono ?_
  rintro e w' ⟨rfl, hw⟩
  obtain rfl := hw.symm
  clear hw
  go_wp2_with fail
  refine (quorum_s n W3 hn0 hn1).mono ?_
  rintro e w' ⟨rfl, hw⟩
  obtain rfl := hw.symm
  clear hw
  obtain ⟨c, hc⟩ : ∃ c, c = countT s := ⟨_, rfl⟩
  obtain ⟨q, hq⟩ : ∃ q, q = quorumT n := ⟨_, rfl⟩
  have HC : Hid (countT s = c) := hc.symm
  have HQ : Hid (quorumT n = q) := hq.symm
  rw [← hc, ← hq]
  clear hc hq
  obtain ⟨x0, x1, x2, x3⟩ := vote_cells HX3.out
  by_cases hlt : c < q
  · have HE : Hid (qcOfT l p v b n = ((0, 0, 0, 0), false)) := (by unfold qcOfT; rw [HS.out, HC.out, HQ.out, if_pos hlt] : qcOfT l p v b n = ((0, 0, 0, 0), false))
    obtain ⟨⟨a0, g0⟩, ⟨a1, g1⟩, ⟨a2, g2⟩, ⟨a3, g3⟩, hk, hg⟩ := blk_four HX3.out (.int .i64 0) (.int .i64 0) (.int .i64 0) (.int .i64 0)
    have HG : Hid (W3.grownBy _ (some w.heap.size)) := hg
    obtain ⟨z0, z1, z2, z3⟩ := vote_cells hk
    clear hg hk
    go_wp2
    refine bodyPost_ret (v := .tuple #[.agg #[.int .i64 0, .int .i64 0, .int .i64 0, .int .i64 0], .bool false]) (by simp [results, Try.results39, go_sem, z0, z1, z2, z3]) rfl ?_
    exact ⟨by rw [HE.out]; rfl, (bt HB2.out HB3.out).grown HG.out (bt HB2.out HB3.out).size (fun y hy => by cases hy; exact Nat.le_refl _)⟩
  · have HE : Hid (qcOfT l p v b n = ((p, v, b, s), true)) := (by unfold qcOfT; rw [HS.out, HC.out, HQ.out, if_neg hlt] : qcOfT l p v b n = ((p, v, b, s), true))
    obtain ⟨⟨a0, g0⟩, ⟨a1, g1⟩, ⟨a2, g2⟩, ⟨a3, g3⟩, hk, hg⟩ := blk_four HX3.out (.int .i64 p) (.int .i64 v) (.int .i64 b) (.int .i64 s)
    have HG : Hid (W3.grownBy _ (some w.heap.size)) := hg
    obtain ⟨z0, z1, z2, z3⟩ := vote_cells hk
    clear hg hk
    go_wp2
    refine bodyPost_ret (v := .tuple #[.agg #[.int .i64 p, .int .i64 v, .int .i64 b, .int .i64 s], .bool true]) (by simp [results, Try.results39, go_sem, z0, z1, z2, z3]) rfl ?_
    exact ⟨by rw [HE.out]; rfl, (bt HB2.out HB3.out).grown HG.out (bt HB2.out HB3.out).size (fun y hy => by cases hy; exact Nat.le_refl _)⟩

set_option maxRecDepth 100000 in
set_option maxHeartbeats 4000000 in
theorem qcRight_s (ps : TL) (va : Value) (n : Int) (q : QC) (w : World) (hT : TreeQ w va ps) (hl : (ps.length : Int) ≤ 1048576) (hn0 : -9223372036854775808 ≤ n) (hn1 : n ≤ 9223372036854775807) (hq : fitQ q) :
    Calls Try.prog 46 #[va, .int .i64 n, qcVal q] w fun e w' => e = .returned (.bool (qcRightB (bks ps) n q)) ∧ Below w.heap.size w w' := by
  have HT : Hid (TreeQ w va ps) := hT
  clear hT
  have E := eqQ q (0, 0, 0, 0)
  have G := guardQ
  obtain ⟨q0, q1, q2, q3⟩ := q
  unfold qcVal
  simp only at E ⊢
  have f0 := hq.1
  have f1 := hq.2
  simp only at f0 f1
  clear hq
  have HB1 : Hid (Below w.heap.size w (w.alloc (.cells #[.int .i64 q0, .int .i64 q1, .int .i64 q2, .int .i64 q3] 31))) := ba (Below.refl _ _) _
  by_cases hz : (q0, q1, q2, q3) = ((0, 0, 0, 0) : QC)
  · have HE : Hid (qcRightB (bks ps) n (q0, q1, q2, q3) = true) := if_pos hz
    rw [decide_eq_true hz] at E
    clear hz
    go_enter Try.func46, Try.ntmps46
    go_wp2
    go_ret
    exact ⟨ret_bool HE.out.symm, HB1.out⟩
  · have HE : Hid (qcRightB (bks ps) n (q0, q1, q2, q3) = (voteB (bks ps) n (q0, q1, q2, 0) && (inB q3 0 ((2 : Int) ^ n.toNat - 1) && decide (quorumT n ≤ countT q3)))) := if_neg hz
    rw [decide_eq_false hz] at E
    clear hz
    go_enter Try.func46, Try.ntmps46
    obtain ⟨W1, hW1⟩ : ∃ W1, W1 = w.alloc (.cells #[.int .i64 q0, .int .i64 q1, .int .i64 q2, .int .i64 q3] 31) := ⟨_, rfl⟩
    have HX : Hid (W1.heap[w.heap.size]? = some (.cells #[.int .i64 q0, .int .i64 q1, .int .i64 q2, .int .i64 q3] 31 (0, 0))) := (by rw [hW1]; exact heap_alloc_new w _ : W1.heap[w.heap.size]? = some (.cells #[.int .i64 q0, .int .i64 q1, .int .i64 q2, .int .i64 q3] 31 (0, 0)))
    have HBW : Hid (Below w.heap.size w W1) := (by rw [hW1]; exact HB1.out : Below w.heap.size w W1)
    have l0 : w.heap.size < W1.heap.size := (Array.getElem?_eq_some_iff.1 HX.out).1
    go_wp2_with fail
    rw [← hW1]
    clear hW1 HB1 E G
    refine (voteOk_s ps va n (q0, q1, q2, 0) W1 (HT.out.below HBW.out) hl).mono ?_
    rintro e w2 ⟨rfl, hb2⟩
    have HB2 : Hid (Below w.heap.size w w2) := bt HBW.out hb2
    obtain ⟨_, _, _, y3⟩ := vote_cells ((hb2.block _ l0).trans HX.out)
    clear hb2
    cases hv : voteB (bks ps) n (q0, q1, q2, 0) with
    | false =>
      have HF : Hid (qcRightB (bks ps) n (q0, q1, q2, q3) = false) := (by rw [HE.out, hv]; rfl : qcRightB (bks ps) n (q0, q1, q2, q3) = false)
      clear hv
      go_wp2
      go_ret
      exact ⟨ret_bool HF.out.symm, HB2.out⟩
    | true =>
      have hn7 : inB n 1 7 = true := by
        unfold voteB at hv
        simp only [Bool.and_eq_true] at hv
        exact hv.1
      obtain ⟨n0, n1⟩ := inB_eq hn7
      obtain ⟨m, rfl⟩ := Int.eq_ofNat_of_zero_le (show 0 ≤ n by omega)
      obtain ⟨w0, w1⟩ := pow_peers (n := m) (by omega)
      have HF : Hid (qcRightB (bks ps) (m : Int) (q0, q1, q2, q3) = (inB q3 0 ((2 : Int) ^ m - 1) && decide (quorumT (m : Int) ≤ countT q3))) := (by rw [HE.out, hv]; rfl : qcRightB (bks ps) (m : Int) (q0, q1, q2, q3) = (inB q3 0 ((2 : Int) ^ m - 1) && decide (quorumT (m : Int) ≤ countT q3)))
      clear hv hn7
      go_wp2_with fail
      refine (in_any q3 0 ((2 : Int) ^ m - 1) w2).mono ?_
      rintro e w' ⟨rfl, hw⟩
      obtain rfl := hw.symm
      clear hw
      cases hi : inB q3 0 ((2 : Int) ^ m - 1) with
      | false =>
        have HG : Hid (qcRightB (bks ps) (m : Int) (q0, q1, q2, q3) = false) := (by rw [HF.out, hi]; rfl : qcRightB (bks ps) (m : Int) (q0, q1, q2, q3) = false)
        clear hi
        go_wp2
        go_ret
        exact ⟨ret_bool HG.out.symm, HB2.out⟩
      | true =>
        have HG : Hid (qcRightB (bks ps) (m : Int) (q0, q1, q2, q3) = decide (quorumT (m : Int) ≤ countT q3)) := (by rw [HF.out, hi]; rfl : qcRightB (bks ps) (m : Int) (q0, q1, q2, q3) = decide (quorumT (m : Int) ≤ countT q3))
        clear hi
        go_wp2_with fail
        refine (count_s q3 w2 f0 f1).mono ?_
        rintro e w' ⟨rfl, hw⟩
        obtain rfl := hw.symm
        clear hw
        go_wp2_with fail
        refine (quorum_s (m : Int) w2 hn0 hn1).mono ?_
        rintro e w' ⟨rfl, hw⟩
        obtain rfl := hw.symm
        clear hw
        go_wp2
        go_ret
        exact ⟨ret_bool HG.out.symm, HB2.out⟩

theorem prov_yes {l : List VT} {q : QC} {liars : Int} (h0 : ¬ q.2.1 = 0) (h : provTo (signersT l q.1 q.2.1 q.2.2.1) q.2.2.2 liars 7) : provenB l q liars = (decide (0 ≤ q.2.2.2) && decide (q.2.2.2 < 128)) := by
  unfold provenB
  rw [if_neg h0]
  have : ((List.range 7).all fun i => !(decide (bitT q.2.2.2 i ≠ 0) && (decide (bitT liars i = 0) && decide (bitT (signersT l q.1 q.2.1 q.2.2.1) i = 0)))) = true := List.all_eq_true.2 fun i hi => by
    have := h i (List.mem_range.1 hi)
    simp only [Bool.not_eq_true', Bool.and_eq_false_iff, decide_eq_false_iff_not]
    omega
  rw [this, Bool.true_and]
theorem prov_no {l : List VT} {q : QC} {liars : Int} {i : Nat} (h0 : ¬ q.2.1 = 0) (hi : i < 7) (h1 : bitT q.2.2.2 i ≠ 0) (h2 : bitT liars i = 0) (h3 : bitT (signersT l q.1 q.2.1 q.2.2.1) i = 0) : provenB l q liars = false := by
  unfold provenB
  rw [if_neg h0]
  have : ((List.range 7).all fun i => !(decide (bitT q.2.2.2 i ≠ 0) && (decide (bitT liars i = 0) && decide (bitT (signersT l q.1 q.2.1 q.2.2.1) i = 0)))) = false := List.all_eq_false.2 ⟨i, List.mem_range.2 hi, by simp [h1, h2, h3]⟩
  rw [this, Bool.false_and]
theorem prov_next {said s liars : Int} {k : Nat} (h : provTo said s liars k) (hk : ¬ (bitT s k ≠ 0 ∧ bitT liars k = 0 ∧ bitT said k = 0)) : provTo said s liars (k + 1) := fun i hi => by
  by_cases e : i = k
  · subst e; exact hk
  · exact h i (by omega)
theorem bit_neq (x : Int) (k : Nat) : ((x / 2 ^ k).tmod 2 != 0) = decide (bitT x k ≠ 0) := by
  by_cases h : bitT x k = 0
  · rw [(shr_odd x k).2 h, h]; rfl
  · have h2 : ¬ (x / 2 ^ k).tmod 2 = 0 := fun e => h ((shr_odd x k).1 e)
    rw [decide_eq_true h]; simpa using h2
theorem bit_eql (x : Int) (k : Nat) : ((x / 2 ^ k).tmod 2 == 0) = decide (bitT x k = 0) := by
  by_cases h : bitT x k = 0
  · rw [(shr_odd x k).2 h, decide_eq_true h]; rfl
  · have h2 : ¬ (x / 2 ^ k).tmod 2 = 0 := fun e => h ((shr_odd x k).1 e)
    rw [decide_eq_false h]; simpa using h2

set_option maxRecDepth 100000 in
set_option maxHeartbeats 4000000 in
theorem proven_s (l : List VT) (va : Value) (q : QC) (liars : Int) (w : World) (ha : RowsR w va 4 voteF l) (hl : (l.length : Int) ≤ 1048576) :
    Calls Try.prog 49 #[va, qcVal q, .int .i64 liars] w fun e w' => e = .returned (.bool (provenB l q liars)) ∧ Below w.heap.size w w' := by
  have HA : Hid (RowsR w va 4 voteF l) := ha
  clear ha
  obtain ⟨q0, q1, q2, q3⟩ := q
  unfold qcVal
  simp only
  have HB1 : Hid (Below w.heap.size w (w.alloc (.cells #[.int .i64 q0, .int .i64 q1, .int .i64 q2, .int .i64 q3] 31))) := ba (Below.refl _ _) _
  by_cases hz : q1 = 0
  · have HE : Hid (provenB l (q0, q1, q2, q3) liars = true) := if_pos hz
    have d0 : (q1 == 0) = true := by simpa using hz
    clear hz
    go_enter Try.func49, Try.ntmps49
    go_wp2
    go_ret
    exact ⟨ret_bool HE.out.symm, HB1.out⟩
  · have HZ : Hid (¬ q1 = 0) := hz
    have d0 : (q1 == 0) = false := by simpa using hz
    obtain ⟨W1, hW1⟩ : ∃ W1, W1 = w.alloc (.cells #[.int .i64 q0, .int .i64 q1, .int .i64 q2, .int .i64 q3] 31) := ⟨_, rfl⟩
    have HX : Hid (W1.heap[w.heap.size]? = some (.cells #[.int .i64 q0, .int .i64 q1, .int .i64 q2, .int .i64 q3] 31 (0, 0))) := (by rw [hW1]; exact heap_alloc_new w _ : W1.heap[w.heap.size]? = some (.cells #[.int .i64 q0, .int .i64 q1, .int .i64 q2, .int .i64 q3] 31 (0, 0)))
    have HBW : Hid (Below w.heap.size w W1) := (by rw [hW1]; exact HB1.out : Below w.heap.size w W1)
    have l0 : w.heap.size < W1.heap.size := (Array.getElem?_eq_some_iff.1 HX.out).1
    clear hz
    go_enter Try.func49, Try.ntmps49
    go_wp2_with fail
    rw [← hW1]
    clear hW1 HB1 d0
    refine (signers_s l va q0 q1 q2 W1 (HA.out.below HBW.out) hl).mono ?_
    rintro e w2 ⟨rfl, hb2⟩
    have HB2 : Hid (Below w.heap.size w w2) := bt HBW.out hb2
    obtain ⟨_, _, _, y3⟩ := vote_cells ((hb2.block _ l0).trans HX.out)
    clear hb2
    obtain ⟨s, hs⟩ : ∃ s, s = signersT l q0 q1 q2 := ⟨_, rfl⟩
    have HS : Hid (signersT l q0 q1 q2 = s) := hs.symm
    rw [← hs]
    clear hs
    go_wp2
    go_loop [8] (fun i => ∃ k : Nat, k ≤ 7 ∧ i = .int .i64 (k : Int) ∧ Hid (provTo s q3 liars k)) (fun i => 7 - (intOf i).toNat)
    case atStart => exact ⟨0, by omega, rfl, fun i h => by omega⟩
    case round =>
      obtain ⟨k, hk, rfl, HP⟩ := hrel
      by_cases hlt : (k : Int) < 7
      · have b1 := bit_neq q3 k
        have b2 := bit_eql liars k
        have b3 := bit_eql s k
        by_cases h1 : bitT q3 k = 0
        · rw [decide_eq_false (fun h => h h1)] at b1
          have HN : Hid (provTo s q3 liars (k + 1)) := prov_next HP.out fun h => h.1 h1
          clear h1
          go_wp2
          go_round
          case rel => exact ⟨k + 1, by omega, by go_num, HN⟩
          case measure => simp [intOf]; omega
        · rw [decide_eq_true h1] at b1
          by_cases h2 : bitT liars k = 0
          · rw [decide_eq_true h2] at b2
            by_cases h3 : bitT s k = 0
            · rw [decide_eq_true h3] at b3
              have HF : Hid (provenB l (q0, q1, q2, q3) liars = false) := prov_no (q := (q0, q1, q2, q3)) HZ.out (by omega) h1 h2 (by rw [HS.out]; exact h3)
              clear h1 h2 h3
              go_wp2
              go_ret
              exact ⟨ret_bool HF.out.symm, HB2.out⟩
            · rw [decide_eq_false h3] at b3
              have HN : Hid (provTo s q3 liars (k + 1)) := prov_next HP.out fun h => h3 h.2.2
              clear h1 h2 h3
              go_wp2
              go_round
              case rel => exact ⟨k + 1, by omega, by go_num, HN⟩
              case measure => simp [intOf]; omega
          · rw [decide_eq_false h2] at b2
            have HN : Hid (provTo s q3 liars (k + 1)) := prov_next HP.out fun h => h2 h.2.1
            clear h1 h2
            go_wp2
            go_round
            case rel => exact ⟨k + 1, by omega, by go_num, HN⟩
            case measure => simp [intOf]; omega
      · have hk7 : k = 7 := by omega
        have HF : Hid (provenB l (q0, q1, q2, q3) liars = (decide (0 ≤ q3) && decide (q3 < 128))) := prov_yes (q := (q0, q1, q2, q3)) HZ.out (by rw [HS.out]; have := HP.out; rw [hk7] at this; exact this)
        clear hk7
        by_cases h0 : 0 ≤ q3
        · have HG : Hid (provenB l (q0, q1, q2, q3) liars = decide (q3 < 128)) := (by rw [HF.out, decide_eq_true h0, Bool.true_and] : provenB l (q0, q1, q2, q3) liars = decide (q3 < 128))
          go_wp2
          go_ret
          exact ⟨ret_bool HG.out.symm, HB2.out⟩
        · have HG : Hid (provenB l (q0, q1, q2, q3) liars = false) := (by rw [HF.out, decide_eq_false h0, Bool.false_and] : provenB l (q0, q1, q2, q3) liars = false)
          go_wp2
          go_ret
          exact ⟨ret_bool HG.out.symm, HB2.out⟩

end Go.Proofs.Ytfnneillakdopab
