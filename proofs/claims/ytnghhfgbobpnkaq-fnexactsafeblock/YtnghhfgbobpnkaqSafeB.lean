/-
  What is safe: the contract of the specification's SafeBlock.
-/
import Derived.Test.YtnghhfgbobpnkaqHeightS
import Derived.Test.YtnghhfgbobpnkaqQcS
namespace Go.Proofs.Ytnghhfgbobpnkaq
open Go.RowKit Num

/-- whether it stands on the lock's block, or is of a higher View -/
def safeB (t : List BK) (lock : QC) (k : Int) : Bool := if 0 ≤ k ∧ k ≤ (t.length : Int) - 1 then extT t k lock.2.2.1 || decide ((t[k.toNat]?.getD firstB).2.2.2.1 > lock.2.1) else false

theorem ext_is {ps : TL} {v : Value} {k under : Int} {r : Bool} (h : extT (bks ps) k under = r) (w : World) (hT : TreeQ w v ps) (hl : (ps.length : Int) ≤ 1048576) :
    Calls Try.prog 52 #[v, .int .i64 k, .int .i64 under] w fun e w' => e = .returned (.bool r) ∧ w' = w := by rw [← h]; exact extends_s ps v k under w hT hl
set_option maxRecDepth 100000 in
set_option maxHeartbeats 4000000 in
theorem safeBlock_s (ps : TL) (v : Value) (q : QC) (k : Int) (w : World) (hT : TreeQ w v ps) (hl : (ps.length : Int) ≤ 1048576) :
    Calls Try.prog 26 #[v, qcVal q, .int .i64 k] w fun e w' => e = .returned (.bool (safeB (bks ps) q k)) ∧ Below w.heap.size w w' := by
  have HT := hid hT
  obtain ⟨a, cap, rfl, hr⟩ := treeq_cells hT
  have HR : Hid (0 < ps.length → _) := hr
  have hbl := bks_len ps
  obtain ⟨q0, q1, q2, q3⟩ := q
  unfold qcVal
  simp only
  obtain ⟨W1, hW1⟩ : ∃ W1, W1 = w.alloc (.cells #[.int .i64 q0, .int .i64 q1, .int .i64 q2, .int .i64 q3] 47) := ⟨_, rfl⟩
  have HW : Hid (W1.heap[w.heap.size]? = some (.cells #[.int .i64 q0, .int .i64 q1, .int .i64 q2, .int .i64 q3] 47 (0, 0)) ∧ Below w.heap.size w W1) := by
    rw [hW1]; exact ⟨heap_alloc_new w _, ba (Below.refl _ _) _⟩
  have l0 : w.heap.size < W1.heap.size := (Array.getElem?_eq_some_iff.1 HW.out.1).1
  have HX : Hid (∀ w', Below W1.heap.size W1 w' → w'.heap[w.heap.size]? = some (.cells #[.int .i64 q0, .int .i64 q1, .int .i64 q2, .int .i64 q3] 47 (0, 0))) := fun w' h' => (h'.block _ l0).trans HW.out.1
  have hne := bw_some W1
  have y1 : ∀ x : Bw W1, x.to.cell? ⟨w.heap.size, 1, none⟩ = some (.int .i64 q1) := fun x => (vote_cells (HX.out _ x.below)).2.1
  have y2 : ∀ x : Bw W1, x.to.cell? ⟨w.heap.size, 2, none⟩ = some (.int .i64 q2) := fun x => (vote_cells (HX.out _ x.below)).2.2.1
  clear hr hT
  by_cases hin : 0 ≤ k ∧ k ≤ (ps.length : Int) - 1
  · have e0 := inB_yes hin
    obtain ⟨j, rfl⟩ : ∃ j : Nat, k = (j : Int) := ⟨k.toNat, by omega⟩
    have hjn : j < ps.length := by omega
    have j0 : (0 : Int) ≤ (j : Int) := by omega
    have j1 : (j : Int) < ps.length := by omega
    have HV : Hid (safeB (bks ps) (q0, q1, q2, q3) (j : Int) = (extT (bks ps) (j : Int) q2 || decide (ps[j].1.2.2.2.1 > q1))) := (by unfold safeB; rw [if_pos (by rw [hbl]; exact hin)]; simp [bks, hjn] : safeB (bks ps) (q0, q1, q2, q3) (j : Int) = _)
    obtain ⟨g, off, rfl, hg, hc⟩ := HR.out (by omega)
    have HTW : Hid (∀ x : Bw W1, TreeQ x.to (.slice (some ⟨g, off, none⟩) ps.length cap) ps) := fun x => HT.out.below (bt HW.out.2 x.below)
    have HQ : Hid (RowsR w (.slice (some ⟨g, off, none⟩) ps.length cap) 7 blkF ps) := HT.out.1
    have hcell : w.cell? ⟨g, off + j * 7 + 4, none⟩ = some (.int .i64 ps[j].1.2.2.2.1) := by
      obtain ⟨a', c', e', hr'⟩ := HQ.out
      injection e' with e1 _ e3
      subst e1 e3
      obtain ⟨g', off', e2, _, hc'⟩ := hr' (by omega)
      injection e2 with e2
      injection e2 with e4 e5
      subst e4 e5
      exact hc' j hjn 4 (by omega)
    have y7 : ∀ x : Bw W1, x.to.cell? ⟨g, off + j * 7 + 4, none⟩ = some (.int .i64 ps[j].1.2.2.2.1) := fun x => by rw [(bt HW.out.2 x.below).cell (by exact hg)]; exact hcell
    clear hc hg hcell
    obtain ⟨jv, hjv⟩ : ∃ jv, jv = ps[j].1.2.2.2.1 := ⟨_, rfl⟩
    rw [← hjv] at y7 HV
    clear hjv hin
    by_cases hx : extT (bks ps) (j : Int) q2 = true
    · have HE : Hid (safeB (bks ps) (q0, q1, q2, q3) (j : Int) = true) := (by rw [HV.out, hx]; rfl : _ = true)
      go_enter Try.func26, Try.ntmps26
      go_wp2_with fail
      rw [← hW1]
      clear hW1
      refine (in_is e0 _).mono ?_
      rintro e w' ⟨rfl, hw⟩
      obtain rfl := hw.symm
      clear hw
      go_wp2
      refine wp_region_bw (by kernel_rfl) (by kernel_rfl) ?_
      repeat (go_big_quiet_step (first | (refine calls_bw_same (ext_is hx _ (HTW.out _) hl))))
      refine wpQuiet_nil ?_
      intro _ hw'
      obtain ⟨x, rfl⟩ := hw'
      go_wp2
      go_ret
      exact ⟨ret_bool HE.out.symm, bt HW.out.2 x.below⟩
    · have hx : extT (bks ps) (j : Int) q2 = false := by simpa using hx
      by_cases hv : jv > q1
      · have hv' : q1 < jv := hv
        have HE : Hid (safeB (bks ps) (q0, q1, q2, q3) (j : Int) = true) := (by rw [HV.out, decide_eq_true hv]; simp : _ = true)
        go_enter Try.func26, Try.ntmps26
        go_wp2_with fail
        rw [← hW1]
        clear hW1
        refine (in_is e0 _).mono ?_
        rintro e w' ⟨rfl, hw⟩
        obtain rfl := hw.symm
        clear hw
        go_wp2
        refine wp_region_bw (by kernel_rfl) (by kernel_rfl) ?_
        repeat (go_big_quiet_step (first | (refine calls_bw_same (ext_is hx _ (HTW.out _) hl))))
        refine wpQuiet_nil ?_
        intro _ hw'
        obtain ⟨x, rfl⟩ := hw'
        go_wp2
        go_ret
        exact ⟨ret_bool HE.out.symm, bt HW.out.2 x.below⟩
      · have hv' : ¬ q1 < jv := hv
        have HE : Hid (safeB (bks ps) (q0, q1, q2, q3) (j : Int) = false) := (by rw [HV.out, hx, decide_eq_false hv]; rfl : _ = false)
        go_enter Try.func26, Try.ntmps26
        go_wp2_with fail
        rw [← hW1]
        clear hW1
        refine (in_is e0 _).mono ?_
        rintro e w' ⟨rfl, hw⟩
        obtain rfl := hw.symm
        clear hw
        go_wp2
        refine wp_region_bw (by kernel_rfl) (by kernel_rfl) ?_
        repeat (go_big_quiet_step (first | (refine calls_bw_same (ext_is hx _ (HTW.out _) hl))))
        refine wpQuiet_nil ?_
        intro _ hw'
        obtain ⟨x, rfl⟩ := hw'
        go_wp2
        go_ret
        exact ⟨ret_bool ((decide_eq_false (show ¬ q1 < jv by omega)).trans HE.out.symm), bt HW.out.2 x.below⟩
  · have e0 := inB_no hin
    have HE : Hid (safeB (bks ps) (q0, q1, q2, q3) k = false) := (by unfold safeB; rw [if_neg (by rw [hbl]; exact hin)] : _ = false)
    go_enter Try.func26, Try.ntmps26
    go_wp2_with fail
    rw [← hW1]
    clear hW1
    refine (in_is e0 _).mono ?_
    rintro e w' ⟨rfl, hw⟩
    obtain rfl := hw.symm
    clear hw
    go_wp2
    go_ret
    exact ⟨ret_bool HE.out.symm, HW.out.2⟩

end Go.Proofs.Ytnghhfgbobpnkaq
