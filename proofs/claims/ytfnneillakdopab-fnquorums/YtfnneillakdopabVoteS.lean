/-
  The contracts of the specification's functions on votes that read a tree or votes: VoteOk, QcRight, QcOf, HigherQc, Proven.
-/
import Derived.Test.YtfnneillakdopabVoteX
import Derived.Test.YtfnneillakdopabBlkX
import Derived.Test.YtfnneillakdopabEqX
import Derived.Test.YtfnneillakdopabBlockS2
namespace Go.Proofs.Ytfnneillakdopab
open Go.RowKit Num

theorem in_is {x a b : Int} {r : Bool} (h : inB x a b = r) (w : World) : Calls Try.prog 61 #[.int .i64 x, .int .i64 a, .int .i64 b] w fun e w' => e = .returned (.bool r) ∧ w' = w := by rw [← h]; exact in_any x a b w
theorem vote_cells {w : World} {N : Nat} {a b c d : Value} {t : TypeId} (h : w.heap[N]? = some (.cells #[a, b, c, d] t (0, 0))) : w.cell? ⟨N, 0, none⟩ = some a ∧ w.cell? ⟨N, 1, none⟩ = some b ∧ w.cell? ⟨N, 2, none⟩ = some c ∧ w.cell? ⟨N, 3, none⟩ = some d := by
  refine ⟨?_, ?_, ?_, ?_⟩
  · rw [cell_of_row w N 0 _ _ (0, 0) h]; rfl
  · rw [cell_of_row w N 1 _ _ (0, 0) h]; rfl
  · rw [cell_of_row w N 2 _ _ (0, 0) h]; rfl
  · rw [cell_of_row w N 3 _ _ (0, 0) h]; rfl

set_option maxRecDepth 100000 in
set_option maxHeartbeats 8000000 in
theorem voteOk_s (ps : TL) (va : Value) (n : Int) (v : VT) (w : World) (hT : TreeQ w va ps) (hl : (ps.length : Int) ≤ 1048576) :
    Calls Try.prog 45 #[va, .int .i64 n, voteV v] w fun e w' => e = .returned (.bool (voteB (bks ps) n v)) ∧ Below w.heap.size w w' := by
  obtain ⟨a, cap, rfl, hr⟩ := treeq_cells hT
  have HR : Hid (0 < ps.length → _) := hr
  have hbl := bks_len ps
  obtain ⟨p, vw, bl, by'⟩ := v
  unfold voteV
  simp only
  obtain ⟨W1, hW1⟩ : ∃ W1, W1 = w.alloc (.cells #[.int .i64 p, .int .i64 vw, .int .i64 bl, .int .i64 by'] 54) := ⟨_, rfl⟩
  have HW : Hid (W1.heap[w.heap.size]? = some (.cells #[.int .i64 p, .int .i64 vw, .int .i64 bl, .int .i64 by'] 54 (0, 0)) ∧ Below w.heap.size w W1) := by
    rw [hW1]; exact ⟨heap_alloc_new w _, ba (Below.refl _ _) _⟩
  have l0 : w.heap.size < W1.heap.size := (Array.getElem?_eq_some_iff.1 HW.out.1).1
  have HX : Hid (∀ w', Below W1.heap.size W1 w' → w'.heap[w.heap.size]? = some (.cells #[.int .i64 p, .int .i64 vw, .int .i64 bl, .int .i64 by'] 54 (0, 0))) := fun w' h' => (h'.block _ l0).trans HW.out.1
  have hne := bw_some W1
  have y0 : ∀ x : Bw W1, x.to.cell? ⟨w.heap.size, 0, none⟩ = some (.int .i64 p) := fun x => (vote_cells (HX.out _ x.below)).1
  have y1 : ∀ x : Bw W1, x.to.cell? ⟨w.heap.size, 1, none⟩ = some (.int .i64 vw) := fun x => (vote_cells (HX.out _ x.below)).2.1
  have y2 : ∀ x : Bw W1, x.to.cell? ⟨w.heap.size, 2, none⟩ = some (.int .i64 bl) := fun x => (vote_cells (HX.out _ x.below)).2.2.1
  have y3 : ∀ x : Bw W1, x.to.cell? ⟨w.heap.size, 3, none⟩ = some (.int .i64 by') := fun x => (vote_cells (HX.out _ x.below)).2.2.2
  clear hr hT
  cases e0 : inB n 1 7 with
  | false =>
    have HE : Hid (voteB (bks ps) n (p, vw, bl, by') = false) := (by unfold voteB; simp only [hbl]; rw [e0]; simp : voteB (bks ps) n (p, vw, bl, by') = false)
    go_enter Try.func45, Try.ntmps45
    go_wp2
    rw [← hW1]
    clear hW1
    refine wp_region_bw (by kernel_rfl) (by kernel_rfl) ?_
    repeat (go_big_quiet_step (first | (with_reducible refine calls_bw_same (in_is e0 _)) | (refine calls_bw_same (in_any _ _ _ _))))
    refine wpQuiet_nil ?_
    intro _ hw'
    obtain ⟨x, rfl⟩ := hw'
    go_wp2
    go_ret
    exact ⟨ret_bool HE.out.symm, bt HW.out.2 x.below⟩
  | true =>
    cases e1 : inB p 1 4 with
    | false =>
      have HE : Hid (voteB (bks ps) n (p, vw, bl, by') = false) := (by unfold voteB; simp only [hbl]; rw [e0, e1]; simp : voteB (bks ps) n (p, vw, bl, by') = false)
      go_enter Try.func45, Try.ntmps45
      go_wp2
      rw [← hW1]
      clear hW1
      refine wp_region_bw (by kernel_rfl) (by kernel_rfl) ?_
      repeat (go_big_quiet_step (first | (with_reducible refine calls_bw_same (in_is e0 _)) | (with_reducible refine calls_bw_same (in_is e1 _)) | (refine calls_bw_same (in_any _ _ _ _))))
      refine wpQuiet_nil ?_
      intro _ hw'
      obtain ⟨x, rfl⟩ := hw'
      go_wp2
      go_ret
      exact ⟨ret_bool HE.out.symm, bt HW.out.2 x.below⟩
    | true =>
      cases e2 : inB vw 1 900 with
      | false =>
        have HE : Hid (voteB (bks ps) n (p, vw, bl, by') = false) := (by unfold voteB; simp only [hbl]; rw [e0, e1, e2]; simp : voteB (bks ps) n (p, vw, bl, by') = false)
        go_enter Try.func45, Try.ntmps45
        go_wp2
        rw [← hW1]
        clear hW1
        refine wp_region_bw (by kernel_rfl) (by kernel_rfl) ?_
        repeat (go_big_quiet_step (first | (with_reducible refine calls_bw_same (in_is e0 _)) | (with_reducible refine calls_bw_same (in_is e1 _)) | (with_reducible refine calls_bw_same (in_is e2 _)) | (refine calls_bw_same (in_any _ _ _ _))))
        refine wpQuiet_nil ?_
        intro _ hw'
        obtain ⟨x, rfl⟩ := hw'
        go_wp2
        go_ret
        exact ⟨ret_bool HE.out.symm, bt HW.out.2 x.below⟩
      | true =>
        cases e3 : inB bl 1 ((ps.length : Int) - 1) with
        | false =>
          have HE : Hid (voteB (bks ps) n (p, vw, bl, by') = false) := (by unfold voteB; simp only [hbl]; rw [e0, e1, e2, e3]; simp : voteB (bks ps) n (p, vw, bl, by') = false)
          go_enter Try.func45, Try.ntmps45
          go_wp2
          rw [← hW1]
          clear hW1
          refine wp_region_bw (by kernel_rfl) (by kernel_rfl) ?_
          repeat (go_big_quiet_step (first | (with_reducible refine calls_bw_same (in_is e0 _)) | (with_reducible refine calls_bw_same (in_is e1 _)) | (with_reducible refine calls_bw_same (in_is e2 _)) | (with_reducible refine calls_bw_same (in_is e3 _)) | (refine calls_bw_same (in_any _ _ _ _))))
          refine wpQuiet_nil ?_
          intro _ hw'
          obtain ⟨x, rfl⟩ := hw'
          go_wp2
          go_ret
          exact ⟨ret_bool HE.out.symm, bt HW.out.2 x.below⟩
        | true =>
          obtain ⟨n0, n1⟩ := inB_eq e0
          obtain ⟨p0, p1⟩ := inB_eq e3
          obtain ⟨j, rfl⟩ := Int.eq_ofNat_of_zero_le (show 0 ≤ bl by omega)
          have hj : j < ps.length := by omega
          have q0 : (0 : Int) ≤ (j : Int) := by omega
          have q1 : (j : Int) < ps.length := by omega
          obtain ⟨g, off, rfl, hg, hc⟩ := HR.out (by omega)
          have HV : Hid (viewAt (bks ps) (j : Int) = ps[j].1.1.2) := (by rw [viewAt_at (by rw [hbl]; exact hj), bks_at hj] : viewAt (bks ps) (j : Int) = ps[j].1.1.2)
          have z1 : ∀ x : Bw W1, x.to.cell? ⟨g, off + j * 7 + 1, none⟩ = some (.int .i64 ps[j].1.1.2) := fun x => by rw [(bt HW.out.2 x.below).cell (by exact hg)]; exact (hc j hj).2.1
          clear hc
          by_cases hv : ps[j].1.1.2 = vw
          · have d0 : (ps[j].1.1.2 == vw) = true := by simpa using hv
            have HE : Hid (voteB (bks ps) n (p, vw, (j : Int), by') = inB by' 0 (n - 1)) := (by unfold voteB; simp only [hbl]; rw [e0, e1, e2, e3, HV.out, decide_eq_true hv]; simp : voteB (bks ps) n (p, vw, (j : Int), by') = inB by' 0 (n - 1))
            clear hv
            go_enter Try.func45, Try.ntmps45
            go_wp2
            rw [← hW1]
            clear hW1
            refine wp_region_bw (by kernel_rfl) (by kernel_rfl) ?_
            repeat (go_big_quiet_step (first | (with_reducible refine calls_bw_same (in_is e0 _)) | (with_reducible refine calls_bw_same (in_is e1 _)) | (with_reducible refine calls_bw_same (in_is e2 _)) | (with_reducible refine calls_bw_same (in_is e3 _)) | (refine calls_bw_same (in_any _ _ _ _))))
            refine wpQuiet_nil ?_
            intro _ hw'
            obtain ⟨x, rfl⟩ := hw'
            go_wp2
            go_ret
            exact ⟨ret_bool HE.out.symm, bt HW.out.2 x.below⟩
          · have d0 : (ps[j].1.1.2 == vw) = false := by simpa using hv
            have HE : Hid (voteB (bks ps) n (p, vw, (j : Int), by') = false) := (by unfold voteB; simp only [hbl]; rw [e0, e1, e2, e3, HV.out, decide_eq_false hv]; simp : voteB (bks ps) n (p, vw, (j : Int), by') = false)
            clear hv
            go_enter Try.func45, Try.ntmps45
            go_wp2
            rw [← hW1]
            clear hW1
            refine wp_region_bw (by kernel_rfl) (by kernel_rfl) ?_
            repeat (go_big_quiet_step (first | (with_reducible refine calls_bw_same (in_is e0 _)) | (with_reducible refine calls_bw_same (in_is e1 _)) | (with_reducible refine calls_bw_same (in_is e2 _)) | (with_reducible refine calls_bw_same (in_is e3 _)) | (refine calls_bw_same (in_any _ _ _ _))))
            refine wpQuiet_nil ?_
            intro _ hw'
            obtain ⟨x, rfl⟩ := hw'
            go_wp2
            go_ret
            exact ⟨ret_bool HE.out.symm, bt HW.out.2 x.below⟩

end Go.Proofs.Ytfnneillakdopab
