/-
  The contract of the program's VoteOk. (Made by gi7.py.)
-/
import Derived.Test.YtcfgfhodbjakoavGreatDoorVoteS
import Derived.Test.YtcfgfhodbjakoavGreatDoorVoteI
import Derived.Test.YtcfgfhodbjakoavGreatDoorJ0
namespace Go.Proofs.YtcfgfhodbjakoavGreatDoor
open Go.RowKit Num

theorem inB_is (x a b : Int) : inB x a b = (decide (a ≤ x) && decide (x ≤ b)) := by unfold inB; exact Bool.decide_and _ _
theorem voteB_iff (t : List BK) (n p vw bl by' : Int) : voteB t n (p, vw, bl, by') = true ↔ (1 ≤ n ∧ n ≤ 7 ∧ 1 ≤ p ∧ p ≤ 4 ∧ 1 ≤ vw ∧ vw ≤ 900 ∧ 0 < bl ∧ bl < (t.length : Int) ∧ viewAt t bl = vw ∧ 0 ≤ by' ∧ by' < n) := by
  unfold voteB
  simp only [inB_is, Bool.and_eq_true, decide_eq_true_eq]
  omega
theorem voteB_no {t : List BK} {n p vw bl by' : Int} (h : ¬ (1 ≤ n ∧ n ≤ 7 ∧ 1 ≤ p ∧ p ≤ 4 ∧ 1 ≤ vw ∧ vw ≤ 900 ∧ 0 < bl ∧ bl < (t.length : Int) ∧ viewAt t bl = vw ∧ 0 ≤ by' ∧ by' < n)) : voteB t n (p, vw, bl, by') = false := by
  cases hv : voteB t n (p, vw, bl, by') with
  | false => rfl
  | true => exact absurd ((voteB_iff t n p vw bl by').1 hv) h

set_option maxRecDepth 100000 in
set_option maxHeartbeats 8000000 in
theorem voteOk_i0 (ps : TL) (va : Value) (n : Int) (v : VT) (w : World) (hT : TreeQ w va ps) (hl : (ps.length : Int) ≤ 1048576) :
    Calls Tryz.prog 134 #[va, .int .i64 n, voteV v] w fun e w' => e = .returned (.bool (voteB (bks ps) n v)) ∧ Below w.heap.size w w' := by
  obtain ⟨a, cap, rfl, hr⟩ := treeq_cells hT
  have HR : Hid (0 < ps.length → _) := hr
  have hbl := bks_len ps
  obtain ⟨p, vw, bl, by'⟩ := v
  unfold voteV
  simp only
  obtain ⟨W1, hW1⟩ : ∃ W1, W1 = w.alloc (.cells #[.int .i64 p, .int .i64 vw, .int .i64 bl, .int .i64 by'] 46) := ⟨_, rfl⟩
  have HW : Hid (W1.heap[w.heap.size]? = some (.cells #[.int .i64 p, .int .i64 vw, .int .i64 bl, .int .i64 by'] 46 (0, 0)) ∧ Below w.heap.size w W1) := by
    rw [hW1]; exact ⟨heap_alloc_new w _, ba (Below.refl _ _) _⟩
  have l0 : w.heap.size < W1.heap.size := (Array.getElem?_eq_some_iff.1 HW.out.1).1
  have HX : Hid (∀ w', Below W1.heap.size W1 w' → w'.heap[w.heap.size]? = some (.cells #[.int .i64 p, .int .i64 vw, .int .i64 bl, .int .i64 by'] 46 (0, 0))) := fun w' h' => (h'.block _ l0).trans HW.out.1
  have hne := bw_some W1
  have y0 : ∀ x : Bw W1, x.to.cell? ⟨w.heap.size, 0, none⟩ = some (.int .i64 p) := fun x => (vote_cells (HX.out _ x.below)).1
  have y1 : ∀ x : Bw W1, x.to.cell? ⟨w.heap.size, 1, none⟩ = some (.int .i64 vw) := fun x => (vote_cells (HX.out _ x.below)).2.1
  have y2 : ∀ x : Bw W1, x.to.cell? ⟨w.heap.size, 2, none⟩ = some (.int .i64 bl) := fun x => (vote_cells (HX.out _ x.below)).2.2.1
  have y3 : ∀ x : Bw W1, x.to.cell? ⟨w.heap.size, 3, none⟩ = some (.int .i64 by') := fun x => (vote_cells (HX.out _ x.below)).2.2.2
  clear hr hT
  by_cases h0 : 1 ≤ n
  · have d0 : decide (1 ≤ n) = true := decide_eq_true h0
    by_cases h1 : n ≤ 7
    · have d1 : decide (n ≤ 7) = true := decide_eq_true h1
      by_cases h2 : 1 ≤ p
      · have d2 : decide (1 ≤ p) = true := decide_eq_true h2
        by_cases h3 : p ≤ 4
        · have d3 : decide (p ≤ 4) = true := decide_eq_true h3
          by_cases h4 : 1 ≤ vw
          · have d4 : decide (1 ≤ vw) = true := decide_eq_true h4
            by_cases h5 : vw ≤ 900
            · have d5 : decide (vw ≤ 900) = true := decide_eq_true h5
              by_cases h6 : 0 < bl
              · have d6 : decide (0 < bl) = true := decide_eq_true h6
                by_cases h7 : bl < (ps.length : Int)
                · have d7 : decide (bl < (ps.length : Int)) = true := decide_eq_true h7
                  have hkb : bl.toNat < ps.length := by omega
                  obtain ⟨g, off, rfl, hg, hc⟩ := HR.out (by omega)
                  obtain ⟨j, rfl⟩ := Int.eq_ofNat_of_zero_le (show 0 ≤ bl by omega)
                  have hj : j < ps.length := by omega
                  have q0 : (0 : Int) ≤ (j : Int) := by omega
                  have d6n : decide (0 < j) = true := decide_eq_true (by omega)
                  have d7n : decide (j < ps.length) = true := decide_eq_true (by omega)
                  have z1 : ∀ x : Bw W1, x.to.cell? ⟨g, off + j * 7 + 1, none⟩ = some (.int .i64 ps[j].1.1.2) := fun x => by
                    rw [(bt HW.out.2 x.below).cell (by exact hg)]; exact (hc j hj).2.1
                  have HVA : Hid (viewAt (bks ps) (j : Int) = ps[j].1.1.2) := (((viewAt_at (by rw [hbl]; exact hj)).trans (by rw [bks_at hj])) : viewAt (bks ps) (j : Int) = ps[j].1.1.2)
                  clear hc
                  by_cases h8 : ps[j].1.1.2 = vw
                  · have d8 : (ps[j].1.1.2 == vw) = true := by simpa using h8
                    by_cases h9 : 0 ≤ by'
                    · have d9 : decide (0 ≤ by') = true := decide_eq_true h9
                      by_cases h10 : by' < n
                      · have d10 : decide (by' < n) = true := decide_eq_true h10
                        have HE : Hid (voteB (bks ps) n (p, vw, (j : Int), by') = true) := ((voteB_iff (bks ps) n p vw (j : Int) by').2 (by rw [hbl, HVA.out]; exact ⟨h0, h1, h2, h3, h4, h5, h6, h7, h8, h9, h10⟩) : voteB (bks ps) n (p, vw, (j : Int), by') = true)
                        go_enter Tryz.func134, Tryz.ntmps134
                        go_wp2
                        rw [← hW1]
                        clear hW1
                        refine wp_region_bw (by kernel_rfl) (by kernel_rfl) ?_
                        repeat (go_big_quiet_step (fail))
                        refine wpQuiet_nil ?_
                        intro _ hw'
                        obtain ⟨x, rfl⟩ := hw'
                        go_wp2
                        go_ret
                        exact ⟨ret_bool HE.out.symm, bt HW.out.2 x.below⟩
                      · have d10 : decide (by' < n) = false := decide_eq_false h10
                        have HE : Hid (voteB (bks ps) n (p, vw, (j : Int), by') = false) := (voteB_no (by rw [hbl, HVA.out]; omega) : voteB (bks ps) n (p, vw, (j : Int), by') = false)
                        go_enter Tryz.func134, Tryz.ntmps134
                        go_wp2
                        rw [← hW1]
                        clear hW1
                        refine wp_region_bw (by kernel_rfl) (by kernel_rfl) ?_
                        repeat (go_big_quiet_step (fail))
                        refine wpQuiet_nil ?_
                        intro _ hw'
                        obtain ⟨x, rfl⟩ := hw'
                        go_wp2
                        go_ret
                        exact ⟨ret_bool HE.out.symm, bt HW.out.2 x.below⟩
                    · have d9 : decide (0 ≤ by') = false := decide_eq_false h9
                      have HE : Hid (voteB (bks ps) n (p, vw, (j : Int), by') = false) := (voteB_no (by rw [hbl, HVA.out]; omega) : voteB (bks ps) n (p, vw, (j : Int), by') = false)
                      go_enter Tryz.func134, Tryz.ntmps134
                      go_wp2
                      rw [← hW1]
                      clear hW1
                      refine wp_region_bw (by kernel_rfl) (by kernel_rfl) ?_
                      repeat (go_big_quiet_step (fail))
                      refine wpQuiet_nil ?_
                      intro _ hw'
                      obtain ⟨x, rfl⟩ := hw'
                      go_wp2
                      go_ret
                      exact ⟨ret_bool HE.out.symm, bt HW.out.2 x.below⟩
                  · have d8 : (ps[j].1.1.2 == vw) = false := by simpa using h8
                    have HE : Hid (voteB (bks ps) n (p, vw, (j : Int), by') = false) := (voteB_no (by rw [hbl, HVA.out]; omega) : voteB (bks ps) n (p, vw, (j : Int), by') = false)
                    go_enter Tryz.func134, Tryz.ntmps134
                    go_wp2
                    rw [← hW1]
                    clear hW1
                    refine wp_region_bw (by kernel_rfl) (by kernel_rfl) ?_
                    repeat (go_big_quiet_step (fail))
                    refine wpQuiet_nil ?_
                    intro _ hw'
                    obtain ⟨x, rfl⟩ := hw'
                    go_wp2
                    go_ret
                    exact ⟨ret_bool HE.out.symm, bt HW.out.2 x.below⟩
                · have d7 : decide (bl < (ps.length : Int)) = false := decide_eq_false h7
                  have HE : Hid (voteB (bks ps) n (p, vw, bl, by') = false) := (voteB_no (by rw [hbl]; omega) : voteB (bks ps) n (p, vw, bl, by') = false)
                  go_enter Tryz.func134, Tryz.ntmps134
                  go_wp2
                  rw [← hW1]
                  clear hW1
                  refine wp_region_bw (by kernel_rfl) (by kernel_rfl) ?_
                  repeat (go_big_quiet_step (fail))
                  refine wpQuiet_nil ?_
                  intro _ hw'
                  obtain ⟨x, rfl⟩ := hw'
                  go_wp2
                  go_ret
                  exact ⟨ret_bool HE.out.symm, bt HW.out.2 x.below⟩
              · have d6 : decide (0 < bl) = false := decide_eq_false h6
                have HE : Hid (voteB (bks ps) n (p, vw, bl, by') = false) := (voteB_no (by rw [hbl]; omega) : voteB (bks ps) n (p, vw, bl, by') = false)
                go_enter Tryz.func134, Tryz.ntmps134
                go_wp2
                rw [← hW1]
                clear hW1
                refine wp_region_bw (by kernel_rfl) (by kernel_rfl) ?_
                repeat (go_big_quiet_step (fail))
                refine wpQuiet_nil ?_
                intro _ hw'
                obtain ⟨x, rfl⟩ := hw'
                go_wp2
                go_ret
                exact ⟨ret_bool HE.out.symm, bt HW.out.2 x.below⟩
            · have d5 : decide (vw ≤ 900) = false := decide_eq_false h5
              have HE : Hid (voteB (bks ps) n (p, vw, bl, by') = false) := (voteB_no (by rw [hbl]; omega) : voteB (bks ps) n (p, vw, bl, by') = false)
              go_enter Tryz.func134, Tryz.ntmps134
              go_wp2
              rw [← hW1]
              clear hW1
              refine wp_region_bw (by kernel_rfl) (by kernel_rfl) ?_
              repeat (go_big_quiet_step (fail))
              refine wpQuiet_nil ?_
              intro _ hw'
              obtain ⟨x, rfl⟩ := hw'
              go_wp2
              go_ret
              exact ⟨ret_bool HE.out.symm, bt HW.out.2 x.below⟩
          · have d4 : decide (1 ≤ vw) = false := decide_eq_false h4
            have HE : Hid (voteB (bks ps) n (p, vw, bl, by') = false) := (voteB_no (by rw [hbl]; omega) : voteB (bks ps) n (p, vw, bl, by') = false)
            go_enter Tryz.func134, Tryz.ntmps134
            go_wp2
            rw [← hW1]
            clear hW1
            refine wp_region_bw (by kernel_rfl) (by kernel_rfl) ?_
            repeat (go_big_quiet_step (fail))
            refine wpQuiet_nil ?_
            intro _ hw'
            obtain ⟨x, rfl⟩ := hw'
            go_wp2
            go_ret
            exact ⟨ret_bool HE.out.symm, bt HW.out.2 x.below⟩
        · have d3 : decide (p ≤ 4) = false := decide_eq_false h3
          have HE : Hid (voteB (bks ps) n (p, vw, bl, by') = false) := (voteB_no (by rw [hbl]; omega) : voteB (bks ps) n (p, vw, bl, by') = false)
          go_enter Tryz.func134, Tryz.ntmps134
          go_wp2
          rw [← hW1]
          clear hW1
          refine wp_region_bw (by kernel_rfl) (by kernel_rfl) ?_
          repeat (go_big_quiet_step (fail))
          refine wpQuiet_nil ?_
          intro _ hw'
          obtain ⟨x, rfl⟩ := hw'
          go_wp2
          go_ret
          exact ⟨ret_bool HE.out.symm, bt HW.out.2 x.below⟩
      · have d2 : decide (1 ≤ p) = false := decide_eq_false h2
        have HE : Hid (voteB (bks ps) n (p, vw, bl, by') = false) := (voteB_no (by rw [hbl]; omega) : voteB (bks ps) n (p, vw, bl, by') = false)
        go_enter Tryz.func134, Tryz.ntmps134
        go_wp2
        rw [← hW1]
        clear hW1
        refine wp_region_bw (by kernel_rfl) (by kernel_rfl) ?_
        repeat (go_big_quiet_step (fail))
        refine wpQuiet_nil ?_
        intro _ hw'
        obtain ⟨x, rfl⟩ := hw'
        go_wp2
        go_ret
        exact ⟨ret_bool HE.out.symm, bt HW.out.2 x.below⟩
    · have d1 : decide (n ≤ 7) = false := decide_eq_false h1
      have HE : Hid (voteB (bks ps) n (p, vw, bl, by') = false) := (voteB_no (by rw [hbl]; omega) : voteB (bks ps) n (p, vw, bl, by') = false)
      go_enter Tryz.func134, Tryz.ntmps134
      go_wp2
      rw [← hW1]
      clear hW1
      refine wp_region_bw (by kernel_rfl) (by kernel_rfl) ?_
      repeat (go_big_quiet_step (fail))
      refine wpQuiet_nil ?_
      intro _ hw'
      obtain ⟨x, rfl⟩ := hw'
      go_wp2
      go_ret
      exact ⟨ret_bool HE.out.symm, bt HW.out.2 x.below⟩
  · have d0 : decide (1 ≤ n) = false := decide_eq_false h0
    have HE : Hid (voteB (bks ps) n (p, vw, bl, by') = false) := (voteB_no (by rw [hbl]; omega) : voteB (bks ps) n (p, vw, bl, by') = false)
    go_enter Tryz.func134, Tryz.ntmps134
    go_wp2
    rw [← hW1]
    clear hW1
    refine wp_region_bw (by kernel_rfl) (by kernel_rfl) ?_
    repeat (go_big_quiet_step (fail))
    refine wpQuiet_nil ?_
    intro _ hw'
    obtain ⟨x, rfl⟩ := hw'
    go_wp2
    go_ret
    exact ⟨ret_bool HE.out.symm, bt HW.out.2 x.below⟩
theorem voteOk_i (ps : TL) (v : Value) (n : Int) (_ : (Lit.int .i64 n).wf = true) (x : VT) (_ : wfV x) (w : World) (hT : TreeR w v ps) (hk : okT (bks ps)) :
    Calls Tryz.prog 134 #[v, .int .i64 n, voteV x] w fun e w' => e = .returned (.bool (voteB (bks ps) n x)) ∧ Below w.heap.size w w' := voteOk_i0 ps v n x w hT.q (by have := hk.1; rw [bks_len] at this; exact this)

end Go.Proofs.YtcfgfhodbjakoavGreatDoor
