/-
  What enough signed is asked for: the contract of the program's checkQc.
-/
import Derived.Test.YtcfgfhodbjakoavGreatDoorHandN
import Derived.Test.YtcfgfhodbjakoavGreatDoorErrI
import Derived.Test.YtcfgfhodbjakoavGreatDoorProvI
import Derived.Test.YtcfgfhodbjakoavGreatDoorJ3
namespace Go.Proofs.YtcfgfhodbjakoavGreatDoor
open Go.RowKit Num

set_option maxRecDepth 100000 in
set_option maxHeartbeats 4000000 in
theorem checkQc_i (c : CU) (s : CW) (q : QC) (w : World) (hR : ClusR w c s) (hk : okC c) (hg : goodC c) (hq : wfQ q) :
    Calls Tryz.prog 73 #[clusV c s, qcVal q] w fun e w' => e = .returned (errV (qcCode c q)) ∧ Below w.heap.size w w' := by
  have HR := hid hR
  have HK : Hid ((s.tree.length : Int) ≤ 1048576 ∧ (c.said.length : Int) ≤ 1048576 ∧ (-9223372036854775808 ≤ c.n ∧ c.n ≤ 9223372036854775807) ∧ fitQ q) := ⟨by have := hk.tree.1; rw [← hR.etree, bks_len] at this; exact this, hk.said, bounds_i64 hg.n, ⟨(bounds_i64 hq.2.2.2).1, (bounds_i64 hq.2.2.2).2⟩⟩
  clear hR hk hg hq
  obtain ⟨R, hRR⟩ : ∃ R, R = qcCode c q := ⟨_, rfl⟩
  have HQ : Hid (qcCode c q = R) := hRR.symm
  rw [← hRR]
  clear hRR
  obtain ⟨W, hW⟩ : ∃ W, W = (w.alloc (.cells (clusA c s) 43)).alloc (.cells #[.int .i64 q.1, .int .i64 q.2.1, .int .i64 q.2.2.1, .int .i64 q.2.2.2] 45) := ⟨_, rfl⟩
  have HW : Hid (Below w.heap.size w W ∧ W.heap[w.heap.size]? = some (.cells (clusA c s) 43 (0, 0)) ∧ W.heap[w.heap.size + 1]? = some (.cells #[.int .i64 q.1, .int .i64 q.2.1, .int .i64 q.2.2.1, .int .i64 q.2.2.2] 45 (0, 0))) := (by rw [hW]; exact ⟨ba (ba (Below.refl _ _) _) _, alloc2 w _ _⟩ : _ ∧ _)
  have c3 := blk_cell HW.out.2.1 3 s.treeV rfl
  have c0 := blk_cell HW.out.2.1 0 (.int .i64 c.n) rfl
  unfold qcVal
  go_enter Tryz.func73, Tryz.ntmps73
  go_wp2_with (first | (rw [← hW]; clear hW) | (refine wpList_load_row rfl _ _ rfl (w.heap.size + 1) rfl 45 _ (0, 0) _ HW.out.2.2 Tryz.underlying45 rfl (by kernel_rfl) ?_))
  clear c3 c0
  refine (qcRight_i0 s.tree s.treeV c.n q W (HR.out.below HW.out.1).tree HK.out.1 HK.out.2.2.1.1 HK.out.2.2.1.2 HK.out.2.2.2).mono ?_
  rintro e w1 ⟨rfl, hb1⟩
  rw [HR.out.etree]
  have H1 : Hid (Below w.heap.size w w1 ∧ w1.heap[w.heap.size]? = some (.cells (clusA c s) 43 (0, 0)) ∧ w1.heap[w.heap.size + 1]? = some (.cells #[.int .i64 q.1, .int .i64 q.2.1, .int .i64 q.2.2.1, .int .i64 q.2.2.2] 45 (0, 0))) := ⟨bt HW.out.1 hb1, (hb1.block _ (Array.getElem?_eq_some_iff.1 HW.out.2.1).1).trans HW.out.2.1, (hb1.block _ (Array.getElem?_eq_some_iff.1 HW.out.2.2).1).trans HW.out.2.2⟩
  clear hb1 HW
  cases h1 : qcRightB c.tree c.n q with
  | false =>
    have HE : Hid (errV R = .iface 129 (.agg #[.int .i64 3])) := (by rw [← HQ.out]; unfold qcCode; rw [h1]; rfl : _ = _)
    clear h1
    go_wp2
    go_ret
    exact ⟨(congrArg Ending.returned HE.out).symm, H1.out.1⟩
  | true =>
    have HSIG : Hid (q.2.1 = 0 ∨ 0 ≤ q.2.2.2 ∧ q.2.2.2 < 128) := qcRight_sig h1
    have HC2 : Hid (R = if provenB c.said q c.liars = true then 0 else 4) := (by rw [← HQ.out]; unfold qcCode; rw [h1]; rfl : _ = _)
    have c6 := blk_cell H1.out.2.1 6 s.said rfl
    have c2 := blk_cell H1.out.2.1 2 (.int .i64 c.liars) rfl
    clear h1
    go_wp2_with (refine wpList_load_row rfl _ _ rfl (w.heap.size + 1) rfl 45 _ (0, 0) _ H1.out.2.2 Tryz.underlying45 rfl (by kernel_rfl) ?_)
    clear c6 c2
    refine (provenR_i c.said s.said q c.liars w1 (HR.out.below H1.out.1).said HK.out.2.1 HSIG.out).mono ?_
    rintro e w2 ⟨rfl, hb2⟩
    have H2 : Hid (Below w.heap.size w w2) := bt H1.out.1 hb2
    clear hb2
    cases h2 : provenB c.said q c.liars with
    | false =>
      have HE : Hid (errV R = .iface 129 (.agg #[.int .i64 4])) := (by rw [HC2.out, h2]; rfl : _ = _)
      clear h2
      go_wp2
      go_ret
      exact ⟨(congrArg Ending.returned HE.out).symm, H2.out⟩
    | true =>
      have HE : Hid (errV R = .nilIface) := (by rw [HC2.out, h2]; rfl : _ = _)
      clear h2
      go_wp2
      go_ret
      exact ⟨(congrArg Ending.returned HE.out).symm, H2.out⟩

end Go.Proofs.YtcfgfhodbjakoavGreatDoor
