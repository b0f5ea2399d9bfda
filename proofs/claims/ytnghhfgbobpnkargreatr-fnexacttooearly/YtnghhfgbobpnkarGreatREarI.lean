/-
  What is done too early: the contract of the program's TooEarly. (Made by gei10.py.)
-/
import Derived.Test.YtnghhfgbobpnkarGreatRThrI
import Derived.Test.YtnghhfgbobpnkarGreatREarS
import Derived.Test.YtnghhfgbobpnkarGreatRBackI
namespace Go.Proofs.YtnghhfgbobpnkarGreatR
open Go.RowKit Num

set_option maxRecDepth 100000 in
set_option maxHeartbeats 16000000 in
theorem tooEarlyR_i (ps : TL) (v : Value) (p : PE) (s : PV) (k : Int) (w : World) (hT : TreeQ w v ps) (hk : okT (bks ps)) (hR : PeerR w p s) (hs : smallPe p) :
    Calls Tryz.prog 18 #[v, peerV p s, .int .i64 k] w fun e w' => ∃ s', e = .returned (peerV (earlyP (bks ps) p k) s') ∧ OwnD w.heap.size w'.heap.size w' (earlyP (bks ps) p k) s' ∧ Below w.heap.size w w' := by
  have HT := hid hT
  have HK := hid hk
  have HR := hid hR
  have HS := hid hs
  have hpl : (ps.length : Int) ≤ 1048576 := by have := hk.1; rw [bks_len] at this; exact this
  have hrl := hs.row
  have HBL : Hid ((bks ps).length = ps.length) := bks_len ps
  obtain ⟨ii, ihi, ihz0, ihz1, ihz2⟩ := info_parts infoIntL
  obtain ⟨ui, uhi, uhz0, uhz1, uhz2⟩ := info_parts infoUndo
  obtain ⟨at0, ct0, rfl, -⟩ := HT.out.1
  clear hT hk hR hs
  obtain ⟨W, hW⟩ : ∃ W, W = (w.alloc (.cells (peerA p s) 43)).alloc (.cells zeroA 43) := ⟨_, rfl⟩
  have HW : Hid (Bx2 w W (peerA p s) zeroA) := (by rw [hW]; exact two_boxes w _ _ : Bx2 w W (peerA p s) zeroA)
  unfold zeroA at hW
  go_enter Tryz.func18, Tryz.ntmps18
  go_wp2_with (rw [← hW]; clear hW; (refine wpList_load_row rfl _ _ rfl w.heap.size rfl 43 _ (0, 0) _ HW.out.box Tryz.underlying43 rfl (by kernel_rfl) ?_))
  refine (withoutEarly_i p s W (HR.out.below HW.out.below) HS.out).mono ?_
  rintro e x1 ⟨s3, rfl, ho, hb⟩
  have HO1 : Hid (OwnD w.heap.size x1.heap.size x1 (backP p) s3) := ho.low HW.out.below.size
  have HX1 : Hid (Bx2 w x1 (peerA p s) zeroA) := HW.out.more hb
  clear ho hb HW
  obtain ⟨u, hu⟩ : ∃ u, u = lastI p.row := ⟨_, rfl⟩
  have HE : Hid (earlyP (bks ps) p k = earP (bks ps) (backP p) (afterI (bks ps) k u)) := (by unfold earlyP; rw [hu] : earlyP (bks ps) p k = _)
  obtain ⟨q, hq⟩ : ∃ q, q = backP p := ⟨_, rfl⟩
  have HQR : Hid (q.early = [] ∧ q.undos = [] ∧ okL q.cells) := (by rw [hq]; exact ⟨rfl, rfl, okL_back HS.out⟩ : q.early = [] ∧ q.undos = [] ∧ okL q.cells)
  have HQW : Hid (lastI q.row = u ∧ (q.row.length : Int) ≤ 1048576) := (by rw [hq, hu]; exact ⟨rfl, hrl⟩ : lastI q.row = u ∧ _)
  rw [← hq] at HE HO1
  rw [← hq]
  clear hq hu
  go_wp2_with (refine wpList_store_blk rfl _ _ _ rfl w.heap.size (peerA q s3) rfl rfl 43 (peerA p s) HX1.out.box (by kernel_rfl) rfl (peerA_one HO1.out.1) ?_; intro x4 hg hk hz; have HY4 : Hid (Bx2 w x4 (peerA q s3) zeroA) := HX1.out.put hg hk; have HD4 : Hid (OwnD w.heap.size x4.heap.size x4 q s3) := (HO1.out.boxed HX1.out.box hg).wide hg.size (Nat.le_refl _); have c14 := blk_cell HY4.out.box 14 s3.row rfl; clear hg hk hz HX1 HO1)
  refine (lastOf_i q.row s3.row x4 HD4.out.reads.row HQW.out.2).mono ?_
  rintro e W' ⟨rfl, hw⟩
  obtain rfl := hw.symm
  clear hw c14
  rw [HQW.out.1]
  go_wp2_with fail
  refine (rowAfter_i ps _ k u x4 (HT.out.below HY4.out.below) hpl).mono ?_
  rintro e x5 ⟨v5, rfl, ho, hb⟩
  obtain ⟨L, hL⟩ : ∃ L, L = afterI (bks ps) k u := ⟨_, rfl⟩
  have HLM : Hid (∀ x ∈ L, ∃ j : Nat, x = (j : Int) ∧ j < ps.length) := (by rw [hL]; intro x hx; have := after_mem hx; rw [HBL.out] at this; exact this : ∀ x ∈ L, ∃ j : Nat, x = (j : Int) ∧ j < ps.length)
  have hll : (L.length : Int) ≤ 1048576 := by have := after_length (bks ps) k u; rw [← hL, HBL.out] at this; omega
  rw [← hL] at HE ho
  have HM5 : Hid (x5.ownsRow x4.heap.size 3 1 v5 L.length (flatR intF L)) := ho
  have HY5 : Hid (Bx2 w x5 (peerA q s3) zeroA) := HY4.out.more hb
  have HD5 : Hid (OwnD w.heap.size x4.heap.size x5 q s3) := HD4.out.below hb
  have HL5 : Hid (x4.heap.size ≤ x5.heap.size) := hb.size
  obtain ⟨a5, c5, rfl, hr5⟩ := rows_of_own intF_len ho
  clear hr5
  clear hL ho hb HY4 HD4
  have HP0 : Hid (peerA (earP (bks ps) q (L.take 0)) s3 = peerA q s3) := (by unfold peerA earP; simp : peerA (earP (bks ps) q (L.take 0)) s3 = peerA q s3)
  go_wp2
  go_loopw [20] (fun i wr => ∃ (m : Nat) (tm : PV), m ≤ L.length ∧ i = .int .i64 (m : Int) ∧ Hid (Bx2 w wr (peerA (earP (bks ps) q (L.take m)) tm) zeroA) ∧ Hid (OwnD w.heap.size wr.heap.size wr (earP (bks ps) q (L.take m)) tm) ∧ Hid (wr.ownsRow x4.heap.size 3 1 (.slice a5 L.length c5) L.length (flatR intF L)) ∧ Hid (apart tm.early (.slice a5 L.length c5)) ∧ Hid (x5.heap.size ≤ wr.heap.size)) (fun i _ => L.length - (intOf i).toNat)
  case atStart => exact ⟨0, s3, Nat.zero_le _, rfl, (by rw [HP0.out]; exact HY5.out : Bx2 w x5 (peerA (earP (bks ps) q (L.take 0)) s3) zeroA), ear_own _ _ HQR.out.1 HQR.out.2.1 (HD5.out.wide HL5.out (Nat.le_refl _)), HM5.out, apart_of HD5.out.2.1.l2 (fun g e => ⟨(HM5.out.lt g e).1, (HM5.out.lt g e).2⟩) (Or.inl (Nat.le_refl _)), Nat.le_refl _⟩
  case round =>
    obtain ⟨m, tm, hm, rfl, HYm, HDm, HMm, HAm, HSm⟩ := hrel
    by_cases hlt : (m : Int) < L.length
    · have hmn : m < L.length := by omega
      obtain ⟨j, hj, hjn⟩ := HLM.out L[m] (List.getElem_mem hmn)
      have HJ : Hid (L[m] = (j : Int)) := hj
      have q0 : (0 : Int) ≤ (m : Int) := by omega
      have j0 : (0 : Int) ≤ (j : Int) := by omega
      have j1 : (j : Int) < ps.length := by omega
      obtain ⟨a5', c5', e5, hr5⟩ := rows_of_own intF_len HMm.out
      injection e5 with e51 _ e53
      subst e51 e53
      obtain ⟨g5, o5, rfl, hg5, hc5⟩ := hr5 (by omega)
      have hc : wr.cell? ⟨g5, o5 + m, none⟩ = some (.int .i64 (j : Int)) := by have := hc5 m hmn 0 (by omega); rw [HJ.out] at this; simpa [intF] using this
      have HC5 : Hid (g5 < wr.heap.size) := hg5
      clear hc5 hg5 hr5 hj
      obtain ⟨at1, ct1, et, htr⟩ := (HT.out.below HYm.out.below).1
      injection et with et1 _ et3
      subst et1 et3
      obtain ⟨gt, ot, rfl, hgt, hct⟩ := htr (by omega)
      obtain ⟨cv, hcv⟩ : ∃ cv, cv = ps[j].2 := ⟨_, rfl⟩
      have HCV : Hid (RowsR wr cv 3 cmdF ps[j].1.2.1 ∧ okB ps[j].1) := (by rw [hcv]; exact ⟨(HT.out.below HYm.out.below).2 ps[j] (List.getElem_mem hjn), okT_at HK.out hjn⟩ : RowsR wr cv 3 cmdF ps[j].1.2.1 ∧ okB ps[j].1)
      have HTC : Hid (gt < wr.heap.size ∧ wr.cell? ⟨gt, ot + j * 7 + 2, none⟩ = some cv) := ⟨hgt, by rw [hcv]; exact hct j hjn 2 (by omega)⟩
      clear hgt hct hcv htr
      obtain ⟨qm, hqm⟩ : ∃ qm : PE, qm = earP (bks ps) q (L.take m) := ⟨_, rfl⟩
      have HST : Hid (({ qm with cells := doneAllC qm.cells ps[j].1.2.1, early := qm.early ++ [(j : Int)], undos := qm.undos ++ undosC qm.cells ps[j].1.2.1 } : PE) = earP (bks ps) q (L.take (m + 1)) ∧ okL qm.cells ∧ qm.early.length = m ∧ qm.undos.length ≤ m * 1048576 ∧ (undosC qm.cells ps[j].1.2.1).length ≤ 1048576) := (by
        rw [hqm]
        refine ⟨ear_step hmn HJ.out hjn, rowC_ok HK.out _ _ HQR.out.2.2, by unfold earP; simp; omega, ?_, ?_⟩
        · have := earU_len HK.out (L.take m) q.cells
          rw [List.length_take, Nat.min_eq_left hm] at this
          exact this
        · rw [undosC_len]; have := HCV.out.2.1; omega : _ ∧ _ ∧ _ ∧ _ ∧ _)
      rw [← hqm] at HYm HDm
      clear hqm
      go_wp2
      clear hc
      refine wp_region_P (fun i => decide (i < 8)) (fun x => x.heap[w.heap.size]? = some (.cells (peerA qm tm) 43 (0, 0)) ∧ x.cell? ⟨gt, ot + j * 7 + 2, none⟩ = some cv) (by kernel_rfl) ?_
      show wpAnyP Tryz.prog _ _ _ _ _ (12 + 1) (Array.replicate 13 false) _ _
      have hS : wr.drew.heap[w.heap.size]? = some (.cells (peerA qm tm) 43 (0, 0)) ∧ wr.drew.cell? ⟨gt, ot + j * 7 + 2, none⟩ = some cv := ⟨HYm.out.box, HTC.out.2⟩
      refine p_take (j := 0) (e' := some 25) (v := .pointer (some ⟨w.heap.size, 15, none⟩)) rfl rfl (by kernel_rfl) (by kernel_rfl) (by kernel_rfl) (by kernel_rfl) (by kernel_rfl) (fun _ _ _ h => h) (Or.inl ⟨by rfl, ?_⟩) hS ?_
      · intro x hx
        go_simp
        try with_reducible rfl
      simp only [Act.put, List.setIfInBounds_toArray, List.set_cons_zero, List.set_cons_succ]
      refine p_take (j := 1) (e' := some 26) (v := tm.cells) rfl rfl (by kernel_rfl) (by kernel_rfl) (by kernel_rfl) (by kernel_rfl) (by kernel_rfl) (fun _ _ _ h => h) (Or.inl ⟨by rfl, ?_⟩) hS ?_
      · intro x hx
        have c := blk_cell hx.1 15 tm.cells rfl
        go_simp
        try with_reducible rfl
      simp only [Act.put, List.setIfInBounds_toArray, List.set_cons_zero, List.set_cons_succ]
      refine p_take (j := 2) (e' := some 27) (v := .slice (some ⟨gt, ot, none⟩) ps.length ct0) rfl rfl (by kernel_rfl) (by kernel_rfl) (by kernel_rfl) (by kernel_rfl) (by kernel_rfl) (fun _ _ _ h => h) (Or.inl ⟨by rfl, ?_⟩) hS ?_
      · intro x hx
        go_simp
        try with_reducible rfl
      simp only [Act.put, List.setIfInBounds_toArray, List.set_cons_zero, List.set_cons_succ]
      refine p_take (j := 3) (e' := some 28) (v := .int .i64 (j : Int)) rfl rfl (by kernel_rfl) (by kernel_rfl) (by kernel_rfl) (by kernel_rfl) (by kernel_rfl) (fun _ _ _ h => h) (Or.inl ⟨by rfl, ?_⟩) hS ?_
      · intro x hx
        go_simp
        try with_reducible rfl
      simp only [Act.put, List.setIfInBounds_toArray, List.set_cons_zero, List.set_cons_succ]
      refine p_take (j := 4) (e' := some 29) (v := .pointer (some ⟨gt, ot + j * 7, none⟩)) rfl rfl (by kernel_rfl) (by kernel_rfl) (by kernel_rfl) (by kernel_rfl) (by kernel_rfl) (fun _ _ _ h => h) (Or.inl ⟨by rfl, ?_⟩) hS ?_
      · intro x hx
        go_simp
        try with_reducible rfl
      simp only [Act.put, List.setIfInBounds_toArray, List.set_cons_zero, List.set_cons_succ]
      refine p_take (j := 5) (e' := some 30) (v := .pointer (some ⟨gt, ot + j * 7 + 2, none⟩)) rfl rfl (by kernel_rfl) (by kernel_rfl) (by kernel_rfl) (by kernel_rfl) (by kernel_rfl) (fun _ _ _ h => h) (Or.inl ⟨by rfl, ?_⟩) hS ?_
      · intro x hx
        go_simp
        try with_reducible rfl
      simp only [Act.put, List.setIfInBounds_toArray, List.set_cons_zero, List.set_cons_succ]
      refine p_take (j := 6) (e' := some 31) (v := cv) rfl rfl (by kernel_rfl) (by kernel_rfl) (by kernel_rfl) (by kernel_rfl) (by kernel_rfl) (fun _ _ _ h => h) (Or.inl ⟨by rfl, ?_⟩) hS ?_
      · intro x hx
        have c := hx.2
        go_simp
        try with_reducible rfl
      simp only [Act.put, List.setIfInBounds_toArray, List.set_cons_zero, List.set_cons_succ]
      refine p_call (s := 7) (e' := some 32) (fn := 68) (args := #[tm.cells, cv]) rfl rfl (by kernel_rfl) (by rfl) ?_ ((doneBack_i qm.cells ps[j].1.2.1 tm.cells cv wr.drew (HDm.out.reads.cells.below (Below.refl _ _).drew) (HCV.out.1.below (Below.refl _ _).drew) HST.out.2.1 HCV.out.2.1 HCV.out.2.2).mono ?_)
      · go_simp
        try with_reducible rfl
      rintro e y1 ⟨w1, w2, rfl, ho, ho2, -, hb0⟩
      have hb : Below wr.heap.size wr y1 := ((Below.refl _ _).drew).trans hb0
      have HO1 : Hid (y1.ownsRow wr.heap.size 126 2 w1 (doneAllC qm.cells ps[j].1.2.1).length (flat (doneAllC qm.cells ps[j].1.2.1))) := ho
      have HU1 : Hid (y1.ownsRow wr.heap.size 128 3 w2 (undosC qm.cells ps[j].1.2.1).length (flatR undoF (undosC qm.cells ps[j].1.2.1))) := ho2
      have HY1 : Hid (Bx2 w y1 (peerA qm tm) zeroA) := HYm.out.more hb
      have HD1 : Hid (OwnD w.heap.size wr.heap.size y1 qm tm) := HDm.out.below hb
      have HM1 : Hid (y1.ownsRow x4.heap.size 3 1 (.slice (some ⟨g5, o5, none⟩) L.length c5) L.length (flatR intF L)) := own_kept HMm.out hb
      have HZ1 : Hid (w.heap.size ≤ wr.heap.size ∧ wr.heap.size ≤ y1.heap.size) := ⟨HYm.out.below.size, hb.size⟩
      have hS1 : y1.heap[w.heap.size]? = some (.cells (peerA qm tm) 43 (0, 0)) ∧ y1.cell? ⟨gt, ot + j * 7 + 2, none⟩ = some cv := ⟨HY1.out.box, by rw [hb.cell (by exact HTC.out.1)]; exact HTC.out.2⟩
      clear ho ho2 hb hb0 hS HTC HCV HYm HDm HMm
      refine ⟨_, rfl, fun _ => hS1, ?_⟩
      simp only [Act.put, List.setIfInBounds_toArray, List.set_cons_zero, List.set_cons_succ]
      refine p_pure (j := 8) (e' := some 24) (v := .tuple #[w1, w2]) rfl rfl (by kernel_rfl) (by kernel_rfl) (by kernel_rfl) (by rfl) (fun _ _ _ h => h) (Or.inl ⟨by rfl, ?_⟩) ?_
      · intro x hx
        go_simp
        try with_reducible rfl
      simp only [Act.put, List.setIfInBounds_toArray, List.set_cons_zero, List.set_cons_succ]
      refine p_pure (j := 9) (e' := some 33) (v := w1) rfl rfl (by kernel_rfl) (by kernel_rfl) (by kernel_rfl) (by rfl) (fun _ _ _ h => h) (Or.inl ⟨by rfl, ?_⟩) ?_
      · intro x hx
        go_simp
        try with_reducible rfl
      simp only [Act.put, List.setIfInBounds_toArray, List.set_cons_zero, List.set_cons_succ]
      refine p_pure (j := 10) (e' := some 34) (v := w2) rfl rfl (by kernel_rfl) (by kernel_rfl) (by kernel_rfl) (by rfl) (fun _ _ _ h => h) (Or.inl ⟨by rfl, ?_⟩) ?_
      · intro x hx
        go_simp
        try with_reducible rfl
      simp only [Act.put, List.setIfInBounds_toArray, List.set_cons_zero, List.set_cons_succ]
      refine p_pure (j := 11) (e' := some 9) (v := w1) rfl rfl (by kernel_rfl) (by kernel_rfl) (by kernel_rfl) (by rfl) (fun _ _ _ h => h) (Or.inl ⟨by rfl, ?_⟩) ?_
      · intro x hx
        go_simp
        try with_reducible rfl
      simp only [Act.put, List.setIfInBounds_toArray, List.set_cons_zero, List.set_cons_succ]
      refine p_pure (j := 12) (e' := some 10) (v := w2) rfl rfl (by kernel_rfl) (by kernel_rfl) (by kernel_rfl) (by rfl) (fun _ _ _ h => h) (Or.inl ⟨by rfl, ?_⟩) ?_
      · intro x hx
        go_simp
        try with_reducible rfl
      simp only [Act.put, List.setIfInBounds_toArray, List.set_cons_zero, List.set_cons_succ]
      refine wpAnyP_done (by kernel_rfl) ?_ _
      clear hS1
      obtain ⟨q1, hq1⟩ : ∃ q1 : PE, q1 = { qm with cells := doneAllC qm.cells ps[j].1.2.1 } := ⟨_, rfl⟩
      obtain ⟨t1, ht1⟩ : ∃ t1 : PV, t1 = { tm with cells := w1 } := ⟨_, rfl⟩
      have HS1 : Hid (({ q1 with early := q1.early ++ [(j : Int)], undos := q1.undos ++ undosC qm.cells ps[j].1.2.1 } : PE) = earP (bks ps) q (L.take (m + 1)) ∧ q1.early.length = m ∧ q1.undos.length ≤ m * 1048576) := (by rw [hq1]; exact ⟨HST.out.1, HST.out.2.2.1, HST.out.2.2.2.1⟩ : _ ∧ _ ∧ _)
      have HA1 : Hid (apart t1.early (.slice (some ⟨g5, o5, none⟩) L.length c5)) := (by rw [ht1]; exact HAm.out : apart t1.early _)
      obtain ⟨us, hus⟩ : ∃ us, us = undosC qm.cells ps[j].1.2.1 := ⟨_, rfl⟩
      have HUL : Hid (us.length ≤ 1048576) := (by rw [hus]; exact HST.out.2.2.2.2 : us.length ≤ 1048576)
      rw [← hus] at HS1 HU1
      clear hus HST HAm
      have hel : Hid (q1.early.length = m) := HS1.out.2.1
      go_wp2_with (first
        | (refine wpList_store_cell rfl _ _ _ rfl w.heap.size 15 w1 rfl rfl _ _ HY1.out.box (by kernel_rfl) (by simp [peerA]) (own_one HO1.out) (peerA q1 t1) (by rw [hq1, ht1]; rfl) ?_; intro y2 hg hk; have HY2 : Hid (Bx2 w y2 (peerA q1 t1) zeroA) := HY1.out.put hg hk; have HD2 : Hid (OwnD w.heap.size y2.heap.size y2 q1 t1) := (by rw [hq1, ht1]; exact (HD1.out.boxed HY1.out.box hg).setCells (Nat.le_trans HZ1.out.2 hg.size) (Nat.le_refl _) (own_base (World.ownsRow.kept HO1.out hg (row_not_box HO1.out HY1.out.box (by decide))) HZ1.out.1) (fun g e => Nat.lt_of_lt_of_le (HO1.out.lt g e).2 hg.size) (fun g e => Or.inr (HO1.out.lt g e).1) : OwnD w.heap.size y2.heap.size y2 q1 t1); have HM2 : Hid (y2.ownsRow x4.heap.size 3 1 (.slice (Option.some ⟨g5, o5, none⟩) L.length c5) L.length (flatR intF L)) := World.ownsRow.kept HM1.out hg (row_not_box HM1.out HY1.out.box (by decide)); have HU2 : Hid (y2.ownsRow wr.heap.size 128 3 w2 us.length (flatR undoF us)) := World.ownsRow.kept HU1.out hg (row_not_box HU1.out HY1.out.box (by decide)); have HZ2 : Hid (wr.heap.size ≤ y2.heap.size) := Nat.le_trans HZ1.out.2 hg.size; have HAL : Hid (Below y2.heap.size y2 (y2.alloc (.cells #[.int .i64 (j : Int)] 3))) := (Below.refl y2.heap.size y2).alloc (Nat.le_refl _) _; clear hg hk HY1 HD1 HM1 HU1 HO1 hq1 ht1; have c16 := blk_cell HY2.out.box 16 t1.early rfl)
        | (at_builtin; refine wpList_append_lies _ rfl (.tmp 38) (.tmp 40) 27 rfl w.heap.size 3 ii _ 1 8 Tryz.underlying27 ihi ihz0 ihz1 ihz2 rfl (by decide) t1.early _ _ rfl (HD2.out.below HAL.out).1.early ⟨y2.heap.size, 0, none⟩ 1 1 [.int .i64 (j : Int)] rfl rfl (World.news_of_block (heap_alloc_new y2 _)) (by intro x hx; simp at hx; subst hx; rfl) (by decide) (by rw [hel.out]; unfold maxLen; omega) (by rw [hel.out]; omega) (by have := HY2.out.lt; simp; omega) _ rfl ?_; intro g2 cap2 y4 ho2 hg2 hwh hlt2; have HY4 : Hid (Bx2 w y4 (peerA q1 t1) zeroA) := (HY2.out.more HAL.out).grow (HD2.out.below HAL.out).1.early (by decide) (Nat.le_refl _) hg2; have HM4 : Hid (y4.ownsRow x4.heap.size 3 1 (.slice (Option.some ⟨g5, o5, none⟩) L.length c5) L.length (flatR intF L)) := World.ownsRow.kept (own_kept HM2.out HAL.out) hg2 HA1.out.symm.ne; have HU4 : Hid (y4.ownsRow wr.heap.size 128 3 w2 us.length (flatR undoF us)) := World.ownsRow.kept (own_kept HU2.out HAL.out) hg2 (row_kind (own_kept HU2.out HAL.out) (HD2.out.below HAL.out).1.early (by decide)); have HD4 : Hid (OwnD w.heap.size y4.heap.size y4 { q1 with early := q1.early ++ [(j : Int)] } { t1 with early := .slice (some ⟨g2, 0, none⟩) (q1.early.length + 1) cap2 }) := (HD2.out.below HAL.out).addEarly hg2 ho2 (hwh.imp id (fun e => by rw [e]; simp)) hlt2; have HA4 : Hid (apart (.slice (some ⟨g2, 0, none⟩) (q1.early.length + 1) cap2) (.slice (Option.some ⟨g5, o5, none⟩) L.length c5)) := (by intro g e e2; cases e; exact hwh.elim (fun h => HA1.out _ h e2) (fun h => by have e2 := Option.some.inj e2; have := HC5.out; have := HZ2.out; simp at e2 h; omega) : apart _ _); have HZ4 : Hid (wr.heap.size ≤ y4.heap.size) := Nat.le_trans HZ2.out (Nat.le_trans HAL.out.size hg2.size); clear ho2 hg2 hwh hlt2 c16 HY2 HD2 HM2 HU2 HZ2 HAL)
        | (refine wpList_store_cell rfl _ _ _ rfl w.heap.size 16 (.slice (some ⟨g2, 0, none⟩) (q1.early.length + 1) cap2) rfl rfl _ _ HY4.out.box (by kernel_rfl) (by simp [peerA]) rfl (peerA { q1 with early := q1.early ++ [(j : Int)] } { t1 with early := .slice (some ⟨g2, 0, none⟩) (q1.early.length + 1) cap2 }) rfl ?_; intro y5 hg hk; have HY5 : Hid (Bx2 w y5 (peerA { q1 with early := q1.early ++ [(j : Int)] } { t1 with early := .slice (some ⟨g2, 0, none⟩) (q1.early.length + 1) cap2 }) zeroA) := HY4.out.put hg hk; have HD5 : Hid (OwnD w.heap.size y5.heap.size y5 { q1 with early := q1.early ++ [(j : Int)] } { t1 with early := .slice (some ⟨g2, 0, none⟩) (q1.early.length + 1) cap2 }) := (HD4.out.boxed HY4.out.box hg).wide hg.size (Nat.le_refl _); have HM5 : Hid (y5.ownsRow x4.heap.size 3 1 (.slice (Option.some ⟨g5, o5, none⟩) L.length c5) L.length (flatR intF L)) := World.ownsRow.kept HM4.out hg (row_not_box HM4.out HY4.out.box (by decide)); have HU5 : Hid (y5.ownsRow wr.heap.size 128 3 w2 us.length (flatR undoF us)) := World.ownsRow.kept HU4.out hg (row_not_box HU4.out HY4.out.box (by decide)); have HZ5 : Hid (x5.heap.size ≤ y5.heap.size ∧ w.heap.size ≤ y5.heap.size) := (by have := HSm.out; have := HZ4.out; have := HZ1.out; have := hg.size; omega : _ ∧ _); obtain ⟨q2, hq2⟩ : ∃ q2 : PE, q2 = { q1 with early := q1.early ++ [(j : Int)] } := ⟨_, rfl⟩; obtain ⟨t2, ht2⟩ : ∃ t2 : PV, t2 = { t1 with early := .slice (some ⟨g2, 0, none⟩) (q1.early.length + 1) cap2 } := ⟨_, rfl⟩; have HS2 : Hid (({ q2 with undos := q2.undos ++ us } : PE) = earP (bks ps) q (L.take (m + 1)) ∧ q2.undos.length ≤ m * 1048576) := (by rw [hq2]; exact ⟨HS1.out.1, HS1.out.2.2⟩ : _ ∧ _); have HA5 : Hid (apart t2.early (.slice (Option.some ⟨g5, o5, none⟩) L.length c5)) := (by rw [ht2]; exact HA4.out : apart t2.early _); rw [← hq2, ← ht2] at HY5 HD5; clear hg hk HY4 HD4 HM4 HU4 hq2 ht2 HA4 HA1 HS1 HZ4; have c17 := blk_cell HY5.out.box 17 t2.undos rfl; have hb1 := HS2.out.2; have hb2 := HUL.out)
        | (at_builtin; refine wpList_append_w _ rfl _ _ 39 rfl w.heap.size 128 ui _ 32 Tryz.underlying39 uhi uhz0 uhz1 uhz2 rfl (by decide) undoF_len undoF_one t2.undos q2.undos rfl HD5.out.1.undos w2 us rfl (rows_of_own undoF_len HU5.out) (by unfold maxLen; omega) (by omega) HZ5.out.2 ?_; intro v6 y6 ho6 hg6 hat6; have HY6 : Hid (Bx2 w y6 (peerA q2 t2) zeroA) := HY5.out.grow HD5.out.1.undos (by decide) (Nat.le_refl _) hg6; have HM6 : Hid (y6.ownsRow x4.heap.size 3 1 (.slice (Option.some ⟨g5, o5, none⟩) L.length c5) L.length (flatR intF L)) := World.ownsRow.kept HM5.out hg6 (row_kind HM5.out HD5.out.1.undos (by decide)); have HD6 : Hid (OwnD w.heap.size y6.heap.size y6 { q2 with undos := q2.undos ++ us } { t2 with undos := v6 }) := HD5.out.addUndos hg6 ho6 hat6; have HV6 : Hid (v6.oneCell' = true) := own_one ho6; have HZ6 : Hid (x5.heap.size ≤ y6.heap.size) := Nat.le_trans HZ5.out.1 hg6.size; clear ho6 hg6 hat6 HY5 HD5 HM5 HU5 c17)
        | (refine wpList_store_cell rfl _ _ _ rfl w.heap.size 17 v6 rfl rfl _ _ HY6.out.box (by kernel_rfl) (by simp [peerA]) HV6.out (peerA { q2 with undos := q2.undos ++ us } { t2 with undos := v6 }) rfl ?_; intro y7 hg hk; have HY7 : Hid (Bx2 w y7 (peerA { q2 with undos := q2.undos ++ us } { t2 with undos := v6 }) zeroA) := HY6.out.put hg hk; have HD7 : Hid (OwnD w.heap.size y7.heap.size y7 { q2 with undos := q2.undos ++ us } { t2 with undos := v6 }) := (HD6.out.boxed HY6.out.box hg).wide hg.size (Nat.le_refl _); have HM7 : Hid (y7.ownsRow x4.heap.size 3 1 (.slice (Option.some ⟨g5, o5, none⟩) L.length c5) L.length (flatR intF L)) := World.ownsRow.kept HM6.out hg (row_not_box HM6.out HY6.out.box (by decide)); have HZ7 : Hid (x5.heap.size ≤ y7.heap.size) := Nat.le_trans HZ6.out hg.size; clear hg hk HY6 HD6 HM6 HZ6))
      rw [HS2.out.1] at HY7 HD7
      go_roundw
      case rel => exact ⟨m + 1, { t2 with undos := v6 }, by omega, by go_num, HY7.out, HD7.out, HM7.out, HA5.out, HZ7.out⟩
      case measure => simp [intOf]; omega
    · have hml : m = L.length := by omega
      subst hml
      rw [List.take_length] at HYm HDm
      obtain ⟨QQ, hQQ⟩ : ∃ QQ, QQ = earP (bks ps) q L := ⟨_, rfl⟩
      rw [← hQQ] at HYm HDm HE
      clear hQQ
      go_wp2_with (first
        | (refine wpList_load_row rfl _ _ rfl w.heap.size rfl 43 _ (0, 0) _ HYm.out.box Tryz.underlying43 rfl (by kernel_rfl) ?_)
        | (refine wpList_store_blk rfl _ _ _ rfl (w.heap.size + 1) (peerA QQ tm) rfl rfl 43 zeroA HYm.out.zero (by kernel_rfl) rfl (peerA_one HDm.out.1) ?_; intro z hg hk hz; have HBz : Hid (Below w.heap.size w z) := HYm.out.below.grown hg HYm.out.below.size (fun k hk => by cases hk; omega); have HKz : Hid (z.heap[w.heap.size + 1]? = Option.some (.cells (peerA QQ tm) 43 (0, 0))) := hk; have HFz : Hid (OwnD w.heap.size z.heap.size z QQ tm) := (HDm.out.boxed HYm.out.zero hg).wide hg.size (Nat.le_refl _); clear hg hk hz HDm HYm))
      refine bodyPost_ret (v := .agg (peerA QQ tm)) (results_cell_row Tryz.results18 _ _ (w.heap.size + 1) 43 _ (0, 0) _ rfl HKz.out Tryz.underlying43 rfl (by kernel_rfl)) rfl ?_
      rw [HE.out]
      exact ⟨_, rfl, HFz.out, HBz.out⟩

end Go.Proofs.YtnghhfgbobpnkarGreatR
