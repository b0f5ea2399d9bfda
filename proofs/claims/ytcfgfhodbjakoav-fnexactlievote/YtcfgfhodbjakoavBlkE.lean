/-
  The contracts of the laws' own helpers over blocks: held against each other.
-/
import Derived.Test.YtcfgfhodbjakoavBlkTS
import Derived.Test.YtcfgfhodbjakoavCmdsM
namespace Go.Proofs.Ytcfgfhodbjakoav
open Go.RowKit Num

theorem eqQc_yes (q : QC) (w : World) :
    Calls Try.prog 22 #[qcV q, qcV q] w fun e w' => e = .returned (.bool true) ∧ Below w.heap.size w w' := by
  obtain ⟨a, b, c, d⟩ := q
  unfold qcV
  go_enter Try.func22, Try.ntmps22
  go_wp2
  go_ret
  exact ⟨rfl, ba (ba (Below.refl _ _) _) _⟩

set_option maxRecDepth 100000 in
set_option maxHeartbeats 4000000 in
theorem eqBlock_yes (b : BK) (ca cb : Value) (w : World) (ha : RowsR w ca 3 cmdF b.2.1) (hb : RowsR w cb 3 cmdF b.2.1) (hl : (b.2.1.length : Int) ≤ 1048576) :
    Calls Try.prog 38 #[blkV b ca, blkV b cb] w fun e w' => e = .returned (.bool true) ∧ Below w.heap.size w w' := by
  have HA : Hid (RowsR w ca 3 cmdF b.2.1) := ha
  have HB : Hid (RowsR w cb 3 cmdF b.2.1) := hb
  obtain ⟨aa, na, rfl, _⟩ := ha
  obtain ⟨ab, nb, rfl, _⟩ := hb
  unfold blkV
  obtain ⟨W, hW⟩ : ∃ W, W = (w.alloc (Obj.cells (blkA b (.slice aa b.2.1.length na)) 55)).alloc (Obj.cells (blkA b (.slice ab b.2.1.length nb)) 55) := ⟨_, rfl⟩
  have HW : Hid (W.heap[w.heap.size]? = some (.cells (blkA b (.slice aa b.2.1.length na)) 55 (0, 0)) ∧ W.heap[w.heap.size + 1]? = some (.cells (blkA b (.slice ab b.2.1.length nb)) 55 (0, 0)) ∧ Below w.heap.size w W ∧ W.heap.size = w.heap.size + 1 + 1) := by
    rw [hW]
    refine ⟨box_cells (ba (Below.refl _ _) _), ?_, ba (ba (Below.refl _ _) _) _, by simp⟩
    have h1 := heap_alloc_new (w.alloc (Obj.cells (blkA b (.slice aa b.2.1.length na)) 55)) (Obj.cells (blkA b (.slice ab b.2.1.length nb)) 55)
    rw [show (w.alloc (Obj.cells (blkA b (.slice aa b.2.1.length na)) 55)).heap.size = w.heap.size + 1 by simp] at h1
    exact h1
  have hs := HW.out.2.2.2
  go_enter Try.func38, Try.ntmps38
  go_wp2_with fail
  rw [← hW]
  clear hW
  refine (eqCmds_yes b.2.1 _ _ W (HA.out.below HW.out.2.2.1) (HB.out.below HW.out.2.2.1) hl).mono ?_
  rintro e w2 ⟨rfl, hb2⟩
  have B2 : Below w.heap.size w w2 := bt HW.out.2.2.1 hb2
  obtain ⟨_, _, _, y3, y4, y5, y6⟩ := blk_cells ((hb2.block w.heap.size (by omega)).trans HW.out.1)
  obtain ⟨_, _, _, z3, z4, z5, z6⟩ := blk_cells ((hb2.block (w.heap.size + 1) (by omega)).trans HW.out.2.1)
  clear hb2
  go_wp2_with fail
  refine (eqQc_yes b.2.2 w2).mono ?_
  rintro e w3 ⟨rfl, hb3⟩
  have B3 : Below w.heap.size w w3 := bt B2 hb3
  clear hb3 B2 y3 y4 y5 y6 z3 z4 z5 z6
  go_wp2
  go_ret
  exact ⟨rfl, B3⟩

set_option maxRecDepth 100000 in
set_option maxHeartbeats 4000000 in
theorem eqBlocks_yes (ps qs : TL) (a b : Value) (w : World) (ha : TreeQ w a ps) (hb : TreeQ w b qs) (he : bks ps = bks qs) (hk : okT (bks ps)) :
    Calls Try.prog 24 #[a, b] w fun e w' => e = .returned (.bool true) ∧ Below w.heap.size w w' := by
  have HA : Hid (TreeQ w a ps) := ha
  have HB : Hid (TreeQ w b qs) := hb
  have HE : Hid (bks ps = bks qs) := he
  have HK : Hid (okT (bks ps)) := hk
  have hbl := bks_len ps
  have hl : (ps.length : Int) ≤ 1048576 := by have := hk.1; rw [hbl] at this; exact this
  have hql : qs.length = ps.length := by rw [← bks_len, ← bks_len, he]
  obtain ⟨a, ca, rfl, hra⟩ := treeq_cells ha
  obtain ⟨b, cb, rfl, hrb⟩ := treeq_cells hb
  rw [hql]
  have HRA : Hid (0 < ps.length → _) := hra
  have HRB : Hid (0 < qs.length → _) := hrb
  clear hra hrb ha hb he hk
  go_enter Try.func24, Try.ntmps24
  go_wp2
  go_loopw [5] (fun i wr => ∃ m : Nat, m ≤ ps.length ∧ i = .int .i64 m ∧ Below w.heap.size w wr) (fun i _ => ps.length - (intOf i).toNat)
  case atStart => exact ⟨0, Nat.zero_le _, rfl, Below.refl _ _⟩
  case round =>
    obtain ⟨m, hm, rfl, hbel⟩ := hrel
    by_cases hlt : (m : Int) < ps.length
    · have q0 : (0 : Int) ≤ (m : Int) := by omega
      have hmn : m < ps.length := by omega
      have hmq : m < qs.length := by omega
      obtain ⟨ga, oa, rfl, hga, hca⟩ := HRA.out (by omega)
      obtain ⟨gb, ob, rfl, hgb, hcb⟩ := HRB.out (by omega)
      have HM : Hid (qs[m].1 = ps[m].1) := (by rw [← bks_at hmq, ← bks_at hmn]; simp only [HE.out] : qs[m].1 = ps[m].1)
      have hne := bw_some wr
      have c0 : ∀ x : Bw wr, x.to.cell? ⟨ga, oa + m * 7, none⟩ = some (.int .i64 ps[m].1.1.1) := fun x => by rw [(bt hbel x.below).cell (by exact hga)]; exact (hca m hmn).1
      have c1 : ∀ x : Bw wr, x.to.cell? ⟨ga, oa + m * 7 + 1, none⟩ = some (.int .i64 ps[m].1.1.2) := fun x => by rw [(bt hbel x.below).cell (by exact hga)]; exact (hca m hmn).2.1
      have c2 : ∀ x : Bw wr, x.to.cell? ⟨ga, oa + m * 7 + 2, none⟩ = some ps[m].2 := fun x => by rw [(bt hbel x.below).cell (by exact hga)]; exact (hca m hmn).2.2.1
      have c3 : ∀ x : Bw wr, x.to.cell? ⟨ga, oa + m * 7 + 3, none⟩ = some (.int .i64 ps[m].1.2.2.1) := fun x => by rw [(bt hbel x.below).cell (by exact hga)]; exact (hca m hmn).2.2.2.1
      have c4 : ∀ x : Bw wr, x.to.cell? ⟨ga, oa + m * 7 + 4, none⟩ = some (.int .i64 ps[m].1.2.2.2.1) := fun x => by rw [(bt hbel x.below).cell (by exact hga)]; exact (hca m hmn).2.2.2.2.1
      have c5 : ∀ x : Bw wr, x.to.cell? ⟨ga, oa + m * 7 + 5, none⟩ = some (.int .i64 ps[m].1.2.2.2.2.1) := fun x => by rw [(bt hbel x.below).cell (by exact hga)]; exact (hca m hmn).2.2.2.2.2.1
      have c6 : ∀ x : Bw wr, x.to.cell? ⟨ga, oa + m * 7 + 6, none⟩ = some (.int .i64 ps[m].1.2.2.2.2.2) := fun x => by rw [(bt hbel x.below).cell (by exact hga)]; exact (hca m hmn).2.2.2.2.2.2
      have d0 : ∀ x : Bw wr, x.to.cell? ⟨gb, ob + m * 7, none⟩ = some (.int .i64 ps[m].1.1.1) := fun x => by rw [(bt hbel x.below).cell (by exact hgb)]; have := (hcb m hmq).1; rw [HM.out] at this; exact this
      have d1 : ∀ x : Bw wr, x.to.cell? ⟨gb, ob + m * 7 + 1, none⟩ = some (.int .i64 ps[m].1.1.2) := fun x => by rw [(bt hbel x.below).cell (by exact hgb)]; have := (hcb m hmq).2.1; rw [HM.out] at this; exact this
      have d2 : ∀ x : Bw wr, x.to.cell? ⟨gb, ob + m * 7 + 2, none⟩ = some qs[m].2 := fun x => by rw [(bt hbel x.below).cell (by exact hgb)]; have := (hcb m hmq).2.2.1; exact this
      have d3 : ∀ x : Bw wr, x.to.cell? ⟨gb, ob + m * 7 + 3, none⟩ = some (.int .i64 ps[m].1.2.2.1) := fun x => by rw [(bt hbel x.below).cell (by exact hgb)]; have := (hcb m hmq).2.2.2.1; rw [HM.out] at this; exact this
      have d4 : ∀ x : Bw wr, x.to.cell? ⟨gb, ob + m * 7 + 4, none⟩ = some (.int .i64 ps[m].1.2.2.2.1) := fun x => by rw [(bt hbel x.below).cell (by exact hgb)]; have := (hcb m hmq).2.2.2.2.1; rw [HM.out] at this; exact this
      have d5 : ∀ x : Bw wr, x.to.cell? ⟨gb, ob + m * 7 + 5, none⟩ = some (.int .i64 ps[m].1.2.2.2.2.1) := fun x => by rw [(bt hbel x.below).cell (by exact hgb)]; have := (hcb m hmq).2.2.2.2.2.1; rw [HM.out] at this; exact this
      have d6 : ∀ x : Bw wr, x.to.cell? ⟨gb, ob + m * 7 + 6, none⟩ = some (.int .i64 ps[m].1.2.2.2.2.2) := fun x => by rw [(bt hbel x.below).cell (by exact hgb)]; have := (hcb m hmq).2.2.2.2.2.2; rw [HM.out] at this; exact this
      have HQ : Hid (∀ x : Bw wr, Calls Try.prog 38 #[blkV ps[m].1 ps[m].2, blkV ps[m].1 qs[m].2] x.to fun e w' => e = .returned (.bool true) ∧ Below x.to.heap.size x.to w') := fun x => eqBlock_yes ps[m].1 _ _ x.to ((HA.out.2 _ (List.getElem_mem hmn)).below (bt hbel x.below)) (by have := (HB.out.2 _ (List.getElem_mem hmq)).below (bt hbel x.below); rw [HM.out] at this; exact this) (okT_at HK.out hmn).1
      unfold blkV at HQ
      clear hca hcb
      go_wp2
      refine wp_region_bw (by kernel_rfl) (by kernel_rfl) ?_
      repeat (go_big_quiet_step (first | (go_at_call 38; with_reducible refine calls_bw (HQ.out _))))
      refine wpQuiet_nil ?_
      intro _ hw'
      obtain ⟨x, rfl⟩ := hw'
      go_wp2
      go_roundw
      case rel => exact ⟨m + 1, by omega, by go_num, bt hbel x.below⟩
      case measure => simp [intOf]; omega
    · go_wp2
      go_ret
      exact ⟨rfl, hbel⟩

end Go.Proofs.Ytcfgfhodbjakoav
