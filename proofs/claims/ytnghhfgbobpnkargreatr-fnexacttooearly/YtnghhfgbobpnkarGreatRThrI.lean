/-
  What is let through: the contract of the program's Through. (Made by gti10.py.)
-/
import Derived.Test.YtnghhfgbobpnkarGreatRBackPI
import Derived.Test.YtnghhfgbobpnkarGreatRThrS
import Derived.Test.YtnghhfgbobpnkarGreatRRowI
import Derived.Test.YtnghhfgbobpnkarGreatRDoneAllI
namespace Go.Proofs.YtnghhfgbobpnkarGreatR
open Go.RowKit Num

theorem Bx2.grow {w y x : World} {base n m : Nat} {A Z : Array Value} {e : TypeId} {v : Value} {xs : List Value} (h : Bx2 w y A Z) (ho : y.ownsRow base e m v n xs) (hne : e ≠ 43) (hb : w.heap.size ≤ base) (hg : y.grownBy x v.ownBlock) : Bx2 w x A Z := by
  have := h.lt
  exact ⟨h.below.grown hg h.below.size (fun k hk => Nat.le_trans hb (ho.lt k hk).1), (hg.block _ (by omega) (ne_own (row_not_box ho h.box hne))).trans h.box, (hg.block _ (by omega) (ne_own (row_not_box ho h.zero hne))).trans h.zero⟩

set_option maxRecDepth 100000 in
set_option maxHeartbeats 16000000 in
theorem throughR_i (ps : TL) (v : Value) (p : PE) (s : PV) (k : Int) (w : World) (hT : TreeQ w v ps) (hk : okT (bks ps)) (hR : PeerR w p s) (hs : smallPe p) :
    Calls Tryz.prog 11 #[v, peerV p s, .int .i64 k] w fun e w' => ∃ s', e = .returned (peerV (throughP (bks ps) p k) s') ∧ OwnD w.heap.size w'.heap.size w' (throughP (bks ps) p k) s' ∧ Below w.heap.size w w' := by
  have HT := hid hT
  have HK := hid hk
  have HR := hid hR
  have HS := hid hs
  have hpl : (ps.length : Int) ≤ 1048576 := by have := hk.1; rw [bks_len] at this; exact this
  have hrl := hs.row
  have HBL : Hid ((bks ps).length = ps.length) := bks_len ps
  obtain ⟨ii, ihi, ihz0, ihz1, ihz2⟩ := info_parts infoIntL
  obtain ⟨at0, ct0, rfl, -⟩ := HT.out.1
  clear hT hk hR hs
  obtain ⟨W, hW⟩ : ∃ W, W = (w.alloc (.cells (peerA p s) 43)).alloc (.cells zeroA 43) := ⟨_, rfl⟩
  have HW : Hid (Bx2 w W (peerA p s) zeroA) := (by rw [hW]; exact two_boxes w _ _ : Bx2 w W (peerA p s) zeroA)
  have c14 := blk_cell HW.out.box 14 s.row rfl
  unfold zeroA at hW
  go_enter Tryz.func11, Tryz.ntmps11
  go_wp2_with (rw [← hW]; clear hW)
  refine (lastOf_i p.row s.row W (HR.out.below HW.out.below).row hrl).mono ?_
  rintro e W' ⟨rfl, hw⟩
  obtain rfl := hw.symm
  clear hw c14
  obtain ⟨u, hu⟩ : ∃ u, u = lastI p.row := ⟨_, rfl⟩
  have HU : Hid (lastI p.row = u) := hu.symm
  rw [← hu]
  clear hu
  go_wp2_with fail
  refine (extends_i ps _ k u W (HT.out.below HW.out.below) hpl).mono ?_
  rintro e x0 ⟨rfl, hb⟩
  have HX0 : Hid (Bx2 w x0 (peerA p s) zeroA) := HW.out.more hb
  clear hb HW
  by_cases hx : extT (bks ps) k u = true
  · have HE : Hid (throughP (bks ps) p k = thrP (bks ps) (backP p) (afterI (bks ps) k u)) := (by unfold throughP; rw [HU.out, if_pos hx] : throughP (bks ps) p k = _)
    rw [hx]
    clear hx
    go_wp2_with (refine wpList_load_row rfl _ _ rfl w.heap.size rfl 43 _ (0, 0) _ HX0.out.box Tryz.underlying43 rfl (by kernel_rfl) ?_)
    refine (withoutEarly_i p s x0 (HR.out.below HX0.out.below) HS.out).mono ?_
    rintro e x1 ⟨s3, rfl, ho, hb⟩
    have HO1 : Hid (OwnD w.heap.size x1.heap.size x1 (backP p) s3) := ho.low HX0.out.below.size
    have HX1 : Hid (Bx2 w x1 (peerA p s) zeroA) := HX0.out.more hb
    clear ho hb HX0
    obtain ⟨q, hq⟩ : ∃ q, q = backP p := ⟨_, rfl⟩
    have HQR : Hid (q.row = p.row ∧ okL q.cells) := (by rw [hq]; exact ⟨rfl, okL_back HS.out⟩ : q.row = p.row ∧ okL q.cells)
    rw [← hq] at HE HO1
    rw [← hq]
    clear hq
    go_wp2_with (refine wpList_store_blk rfl _ _ _ rfl w.heap.size (peerA q s3) rfl rfl 43 (peerA p s) HX1.out.box (by kernel_rfl) rfl (peerA_one HO1.out.1) ?_; intro x4 hg hk hz; have HY4 : Hid (Bx2 w x4 (peerA q s3) zeroA) := HX1.out.put hg hk; have HD4 : Hid (OwnD w.heap.size x4.heap.size x4 q s3) := (HO1.out.boxed HX1.out.box hg).wide hg.size (Nat.le_refl _); clear hg hk hz HX1 HO1)
    refine (rowAfter_i ps _ k u x4 (HT.out.below HY4.out.below) hpl).mono ?_
    rintro e x5 ⟨v5, rfl, ho, hb⟩
    obtain ⟨L, hL⟩ : ∃ L, L = afterI (bks ps) k u := ⟨_, rfl⟩
    have HLM : Hid (∀ x ∈ L, ∃ j : Nat, x = (j : Int) ∧ j < ps.length) := (by rw [hL]; intro x hx; have := after_mem hx; rw [HBL.out] at this; exact this : ∀ x ∈ L, ∃ j : Nat, x = (j : Int) ∧ j < ps.length)
    have hll : (L.length : Int) ≤ 1048576 := by have := after_length (bks ps) k u; rw [← hL, HBL.out] at this; omega
    rw [← hL] at HE ho
    have HM5 : Hid (x5.ownsRow x4.heap.size 3 1 v5 L.length (flatR intF L)) := ho
    have HY5 : Hid (Bx2 w x5 (peerA q s3) zeroA) := HY4.out.more hb
    have HD5 : Hid (OwnD w.heap.size x4.heap.size x5 q s3) := HD4.out.below hb
    have HL5 : Hid (x4.heap.size ≤ x5.heap.size) := hb.size
    obtain ⟨a5, c5, rfl, hr5⟩ := rows_of_own intF_len ho
    clear hr5
    clear hL ho hb HY4 HD4
    go_wp2
    go_loopw [27] (fun i wr => ∃ (m : Nat) (tm : PV), m ≤ L.length ∧ i = .int .i64 (m : Int) ∧ Hid (Bx2 w wr (peerA (thrP (bks ps) q (L.take m)) tm) zeroA) ∧ Hid (OwnD w.heap.size wr.heap.size wr (thrP (bks ps) q (L.take m)) tm) ∧ Hid (wr.ownsRow x4.heap.size 3 1 (.slice a5 L.length c5) L.length (flatR intF L)) ∧ Hid (apart tm.row (.slice a5 L.length c5)) ∧ Hid (x5.heap.size ≤ wr.heap.size)) (fun i _ => L.length - (intOf i).toNat)
    case atStart => exact ⟨0, s3, Nat.zero_le _, rfl, HY5.out, thr_own _ _ (HD5.out.wide HL5.out (Nat.le_refl _)), HM5.out, apart_of HD5.out.2.1.l0 (fun g e => ⟨(HM5.out.lt g e).1, (HM5.out.lt g e).2⟩) (Or.inl (Nat.le_refl _)), Nat.le_refl _⟩
    case round =>
      obtain ⟨m, tm, hm, rfl, HYm, HDm, HMm, HAm, HSm⟩ := hrel
      by_cases hlt : (m : Int) < L.length
      · have hmn : m < L.length := by omega
        obtain ⟨j, hj, hjn⟩ := HLM.out L[m] (List.getElem_mem hmn)
        have HJ : Hid (L[m] = (j : Int)) := hj
        have q0 : (0 : Int) ≤ (m : Int) := by omega
        have j0 : (0 : Int) ≤ (j : Int) := by omega
        have j1 : (j : Int) < ps.length := by omega
        obtain ⟨a5', c5', e5, hr5⟩ := rows_of_own intF_len HMm.out
        injection e5 with e51 _ e53
        subst e51 e53
        obtain ⟨g5, o5, rfl, hg5, hc5⟩ := hr5 (by omega)
        have hc : wr.cell? ⟨g5, o5 + m, none⟩ = some (.int .i64 (j : Int)) := by have := hc5 m hmn 0 (by omega); rw [HJ.out] at this; simpa [intF] using this
        have HC5 : Hid (g5 < wr.heap.size) := hg5
        clear hc5 hg5 hr5 hj
        have HRN : Hid ((thrP (bks ps) q (L.take m)).row.length = p.row.length + m) := (by unfold thrP; simp [HQR.out.1]; omega : (thrP (bks ps) q (L.take m)).row.length = p.row.length + m)
        have HAL : Hid (Below wr.heap.size wr (wr.alloc (.cells #[.int .i64 (j : Int)] 3))) := (Below.refl wr.heap.size wr).alloc (Nat.le_refl _) _
        have c14 := blk_cell HYm.out.box 14 tm.row rfl
        obtain ⟨q1, hq1⟩ : ∃ q1 : PE, q1 = { (thrP (bks ps) q (L.take m)) with row := (thrP (bks ps) q (L.take m)).row ++ [(j : Int)] } := ⟨_, rfl⟩
        have HQ1 : Hid ({ q1 with cells := doneAllC q1.cells ps[j].1.2.1 } = thrP (bks ps) q (L.take (m + 1)) ∧ okL q1.cells) := (by rw [hq1]; exact ⟨thr_step hmn HJ.out hjn, rowC_ok HK.out _ _ HQR.out.2⟩ : _ ∧ okL q1.cells)
        go_wp2_with (first
          | (at_builtin; refine wpList_append_lies _ rfl (.tmp 32) (.tmp 34) 27 rfl w.heap.size 3 ii _ 1 8 Tryz.underlying27 ihi ihz0 ihz1 ihz2 rfl (by decide) tm.row _ _ rfl (HDm.out.below HAL.out).1.row ⟨wr.heap.size, 0, none⟩ 1 1 [.int .i64 (j : Int)] rfl rfl (World.news_of_block (heap_alloc_new wr _)) (by intro x hx; simp at hx; subst hx; rfl) (by decide) (by rw [HRN.out]; unfold maxLen; omega) (by rw [HRN.out]; omega) (by have := HYm.out.lt; simp; omega) _ rfl ?_; intro g2 cap2 y2 ho2 hg2 hwh hlt2; have HY2 : Hid (Bx2 w y2 (peerA (thrP (bks ps) q (L.take m)) tm) zeroA) := (HYm.out.more HAL.out).grow (HDm.out.below HAL.out).1.row (by decide) (Nat.le_refl _) hg2; have HM2 : Hid (y2.ownsRow x4.heap.size 3 1 (.slice (some ⟨g5, o5, none⟩) L.length c5) L.length (flatR intF L)) := World.ownsRow.kept (own_kept HMm.out HAL.out) hg2 HAm.out.symm.ne; have HD2 : Hid (OwnD w.heap.size y2.heap.size y2 q1 { tm with row := .slice (some ⟨g2, 0, none⟩) ((thrP (bks ps) q (L.take m)).row.length + 1) cap2 }) := (by rw [hq1]; exact (HDm.out.below HAL.out).addRow hg2 ho2 (hwh.imp id (fun e => by rw [e]; simp)) hlt2 : OwnD _ _ y2 q1 _); have HA2 : Hid (apart (.slice (some ⟨g2, 0, none⟩) ((thrP (bks ps) q (L.take m)).row.length + 1) cap2) (.slice (some ⟨g5, o5, none⟩) L.length c5)) := (by intro g e e2; cases e; exact hwh.elim (fun h => HAm.out _ h e2) (fun h => by have e2 := Option.some.inj e2; have := HC5.out; simp at e2 h; omega) : apart _ _); have HZ2 : Hid (wr.heap.size ≤ y2.heap.size) := Nat.le_trans HAL.out.size hg2.size; clear ho2 hg2 hwh hlt2 c14 hc)
          | (refine wpList_store_cell rfl _ _ _ rfl w.heap.size 14 (.slice (some ⟨g2, 0, none⟩) ((thrP (bks ps) q (L.take m)).row.length + 1) cap2) rfl rfl _ _ HY2.out.box (by kernel_rfl) (by simp [peerA]) rfl (peerA q1 { tm with row := .slice (some ⟨g2, 0, none⟩) ((thrP (bks ps) q (L.take m)).row.length + 1) cap2 }) (by rw [hq1]; rfl) ?_; intro y3 hg hk; have HY3 : Hid (Bx2 w y3 (peerA q1 { tm with row := .slice (some ⟨g2, 0, none⟩) ((thrP (bks ps) q (L.take m)).row.length + 1) cap2 }) zeroA) := HY2.out.put hg hk; have HD3 : Hid (OwnD w.heap.size y3.heap.size y3 q1 { tm with row := .slice (some ⟨g2, 0, none⟩) ((thrP (bks ps) q (L.take m)).row.length + 1) cap2 }) := (HD2.out.boxed HY2.out.box hg).wide hg.size (Nat.le_refl _); have HM3 : Hid (y3.ownsRow x4.heap.size 3 1 (.slice (some ⟨g5, o5, none⟩) L.length c5) L.length (flatR intF L)) := World.ownsRow.kept HM2.out hg (row_not_box HM2.out HY2.out.box (by decide)); have HS3 : Hid (x5.heap.size ≤ y3.heap.size) := Nat.le_trans HSm.out (Nat.le_trans HZ2.out hg.size); clear hg hk HY2 HD2 HM2 HZ2))
        obtain ⟨t1, ht1⟩ : ∃ t1 : PV, t1 = { tm with row := .slice (some ⟨g2, 0, none⟩) ((thrP (bks ps) q (L.take m)).row.length + 1) cap2 } := ⟨_, rfl⟩
        have HA3 : Hid (apart t1.row (.slice (some ⟨g5, o5, none⟩) L.length c5)) := (by rw [ht1]; exact HA2.out : apart t1.row _)
        rw [← ht1] at HY3 HD3
        clear hq1 ht1 HA2 HRN HYm HDm HMm HAm HSm HAL
        obtain ⟨at1, ct1, et, htr⟩ := (HT.out.below HY3.out.below).1
        injection et with et1 _ et3
        subst et1 et3
        obtain ⟨gt, ot, rfl, hgt, hct⟩ := htr (by omega)
        obtain ⟨cv, hcv⟩ : ∃ cv, cv = ps[j].2 := ⟨_, rfl⟩
        have HCV : Hid (RowsR y3 cv 3 cmdF ps[j].1.2.1 ∧ okB ps[j].1) := (by rw [hcv]; exact ⟨(HT.out.below HY3.out.below).2 ps[j] (List.getElem_mem hjn), okT_at HK.out hjn⟩ : RowsR y3 cv 3 cmdF ps[j].1.2.1 ∧ okB ps[j].1)
        have HTC : Hid (gt < y3.heap.size ∧ y3.cell? ⟨gt, ot + j * 7 + 2, none⟩ = some cv) := ⟨hgt, by rw [hcv]; exact hct j hjn 2 (by omega)⟩
        clear hgt hct hcv htr
        refine wp_region_P (fun i => decide (i < 8)) (fun x => x.heap[w.heap.size]? = some (.cells (peerA q1 t1) 43 (0, 0)) ∧ x.cell? ⟨gt, ot + j * 7 + 2, none⟩ = some cv) (by kernel_rfl) ?_
        show wpAnyP Tryz.prog _ _ _ _ _ (12 + 1) (Array.replicate 13 false) _ _
        have hS : y3.drew.heap[w.heap.size]? = some (.cells (peerA q1 t1) 43 (0, 0)) ∧ y3.drew.cell? ⟨gt, ot + j * 7 + 2, none⟩ = some cv := ⟨HY3.out.box, HTC.out.2⟩
        refine p_take (j := 0) (e' := some 38) (v := .pointer (some ⟨w.heap.size, 15, none⟩)) rfl rfl (by kernel_rfl) (by kernel_rfl) (by kernel_rfl) (by kernel_rfl) (by kernel_rfl) (fun _ _ _ h => h) (Or.inl ⟨by rfl, ?_⟩) hS ?_
        · intro x hx
          go_simp
          try with_reducible rfl
        simp only [Act.put, List.setIfInBounds_toArray, List.set_cons_zero, List.set_cons_succ]
        refine p_take (j := 1) (e' := some 39) (v := t1.cells) rfl rfl (by kernel_rfl) (by kernel_rfl) (by kernel_rfl) (by kernel_rfl) (by kernel_rfl) (fun _ _ _ h => h) (Or.inl ⟨by rfl, ?_⟩) hS ?_
        · intro x hx
          have c := blk_cell hx.1 15 t1.cells rfl
          go_simp
          try with_reducible rfl
        simp only [Act.put, List.setIfInBounds_toArray, List.set_cons_zero, List.set_cons_succ]
        refine p_take (j := 2) (e' := some 40) (v := .slice (some ⟨gt, ot, none⟩) ps.length ct0) rfl rfl (by kernel_rfl) (by kernel_rfl) (by kernel_rfl) (by kernel_rfl) (by kernel_rfl) (fun _ _ _ h => h) (Or.inl ⟨by rfl, ?_⟩) hS ?_
        · intro x hx
          go_simp
          try with_reducible rfl
        simp only [Act.put, List.setIfInBounds_toArray, List.set_cons_zero, List.set_cons_succ]
        refine p_take (j := 3) (e' := some 41) (v := .int .i64 (j : Int)) rfl rfl (by kernel_rfl) (by kernel_rfl) (by kernel_rfl) (by kernel_rfl) (by kernel_rfl) (fun _ _ _ h => h) (Or.inl ⟨by rfl, ?_⟩) hS ?_
        · intro x hx
          go_simp
          try with_reducible rfl
        simp only [Act.put, List.setIfInBounds_toArray, List.set_cons_zero, List.set_cons_succ]
        refine p_take (j := 4) (e' := some 42) (v := .pointer (some ⟨gt, ot + j * 7, none⟩)) rfl rfl (by kernel_rfl) (by kernel_rfl) (by kernel_rfl) (by kernel_rfl) (by kernel_rfl) (fun _ _ _ h => h) (Or.inl ⟨by rfl, ?_⟩) hS ?_
        · intro x hx
          go_simp
          try with_reducible rfl
        simp only [Act.put, List.setIfInBounds_toArray, List.set_cons_zero, List.set_cons_succ]
        refine p_take (j := 5) (e' := some 43) (v := .pointer (some ⟨gt, ot + j * 7 + 2, none⟩)) rfl rfl (by kernel_rfl) (by kernel_rfl) (by kernel_rfl) (by kernel_rfl) (by kernel_rfl) (fun _ _ _ h => h) (Or.inl ⟨by rfl, ?_⟩) hS ?_
        · intro x hx
          go_simp
          try with_reducible rfl
        simp only [Act.put, List.setIfInBounds_toArray, List.set_cons_zero, List.set_cons_succ]
        refine p_take (j := 6) (e' := some 44) (v := cv) rfl rfl (by kernel_rfl) (by kernel_rfl) (by kernel_rfl) (by kernel_rfl) (by kernel_rfl) (fun _ _ _ h => h) (Or.inl ⟨by rfl, ?_⟩) hS ?_
        · intro x hx
          have c := hx.2
          go_simp
          try with_reducible rfl
        simp only [Act.put, List.setIfInBounds_toArray, List.set_cons_zero, List.set_cons_succ]
        refine p_call (s := 7) (e' := some 45) (fn := 50) (args := #[t1.cells, cv]) rfl rfl (by kernel_rfl) (by rfl) ?_ ((doneAll_i q1.cells ps[j].1.2.1 t1.cells cv y3.drew (HD3.out.reads.cells.below (Below.refl _ _).drew) (HCV.out.1.below (Below.refl _ _).drew) HQ1.out.2 HCV.out.2.1 HCV.out.2.2).mono ?_)
        · go_simp
          try with_reducible rfl
        rintro e y4 ⟨w1, w2, rfl, ho, -, -, hb0⟩
        have hb : Below y3.heap.size y3 y4 := ((Below.refl _ _).drew).trans hb0
        have HO4 : Hid (y4.ownsRow y3.heap.size 126 2 w1 (doneAllC q1.cells ps[j].1.2.1).length (flat (doneAllC q1.cells ps[j].1.2.1))) := ho
        have HY4 : Hid (Bx2 w y4 (peerA q1 t1) zeroA) := HY3.out.more hb
        have HD4 : Hid (OwnD w.heap.size y3.heap.size y4 q1 t1) := HD3.out.below hb
        have HM4 : Hid (y4.ownsRow x4.heap.size 3 1 (.slice (some ⟨g5, o5, none⟩) L.length c5) L.length (flatR intF L)) := own_kept HM3.out hb
        have HZ4 : Hid (w.heap.size ≤ y3.heap.size ∧ y3.heap.size ≤ y4.heap.size) := ⟨HY3.out.below.size, hb.size⟩
        have hS4 : y4.heap[w.heap.size]? = some (.cells (peerA q1 t1) 43 (0, 0)) ∧ y4.cell? ⟨gt, ot + j * 7 + 2, none⟩ = some cv := ⟨HY4.out.box, by rw [hb.cell (by exact HTC.out.1)]; exact HTC.out.2⟩
        clear ho hb hb0 hS HY3 HD3 HM3 HTC HCV
        refine ⟨_, rfl, fun _ => hS4, ?_⟩
        simp only [Act.put, List.setIfInBounds_toArray, List.set_cons_zero, List.set_cons_succ]
        refine p_pure (j := 8) (e' := some 37) (v := .tuple #[w1, w2]) rfl rfl (by kernel_rfl) (by kernel_rfl) (by kernel_rfl) (by rfl) (fun _ _ _ h => h) (Or.inl ⟨by rfl, ?_⟩) ?_
        · intro x hx
          go_simp
          try with_reducible rfl
        simp only [Act.put, List.setIfInBounds_toArray, List.set_cons_zero, List.set_cons_succ]
        refine p_pure (j := 9) (e' := some 46) (v := w1) rfl rfl (by kernel_rfl) (by kernel_rfl) (by kernel_rfl) (by rfl) (fun _ _ _ h => h) (Or.inl ⟨by rfl, ?_⟩) ?_
        · intro x hx
          go_simp
          try with_reducible rfl
        simp only [Act.put, List.setIfInBounds_toArray, List.set_cons_zero, List.set_cons_succ]
        refine p_pure (j := 10) (e' := some 47) (v := w2) rfl rfl (by kernel_rfl) (by kernel_rfl) (by kernel_rfl) (by rfl) (fun _ _ _ h => h) (Or.inl ⟨by rfl, ?_⟩) ?_
        · intro x hx
          go_simp
          try with_reducible rfl
        simp only [Act.put, List.setIfInBounds_toArray, List.set_cons_zero, List.set_cons_succ]
        refine p_pure (j := 11) (e' := some 48) (v := .pointer (some ⟨w.heap.size, 15, none⟩)) rfl rfl (by kernel_rfl) (by kernel_rfl) (by kernel_rfl) (by rfl) (fun _ _ _ h => h) (Or.inl ⟨by rfl, ?_⟩) ?_
        · intro x hx
          go_simp
          try with_reducible rfl
        simp only [Act.put, List.setIfInBounds_toArray, List.set_cons_zero, List.set_cons_succ]
        refine p_cell (s := 12) (N := w.heap.size) (o := 15) (u := w1) (old := peerA q1 t1) (new := peerA { q1 with cells := doneAllC q1.cells ps[j].1.2.1 } { t1 with cells := w1 }) rfl rfl rfl rfl (by kernel_rfl) rfl rfl hS4.1 (by kernel_rfl) (by simp [peerA]) (own_one HO4.out) rfl ?_
        intro y5 hg hk
        have HY5 : Hid (Bx2 w y5 (peerA { q1 with cells := doneAllC q1.cells ps[j].1.2.1 } { t1 with cells := w1 }) zeroA) := HY4.out.put hg hk
        have HD5 : Hid (OwnD w.heap.size y5.heap.size y5 { q1 with cells := doneAllC q1.cells ps[j].1.2.1 } { t1 with cells := w1 }) := (HD4.out.boxed hS4.1 hg).setCells (Nat.le_trans HZ4.out.2 hg.size) (Nat.le_refl _) (own_base (World.ownsRow.kept HO4.out hg (row_not_box HO4.out hS4.1 (by decide))) HZ4.out.1) (fun g e => Nat.lt_of_lt_of_le (HO4.out.lt g e).2 hg.size) (fun g e => Or.inr (HO4.out.lt g e).1)
        have HM5 : Hid (y5.ownsRow x4.heap.size 3 1 (.slice (some ⟨g5, o5, none⟩) L.length c5) L.length (flatR intF L)) := World.ownsRow.kept HM4.out hg (row_not_box HM4.out hS4.1 (by decide))
        have HZ5 : Hid (x5.heap.size ≤ y5.heap.size) := Nat.le_trans HS3.out (Nat.le_trans HZ4.out.2 hg.size)
        rw [HQ1.out.1] at HY5 HD5
        clear hg hk hS4 HY4 HD4 HM4 HO4
        refine ⟨fun h => absurd h (by decide), ?_⟩
        refine wpAnyP_done (by kernel_rfl) ?_ _
        go_wp2
        go_roundw
        case rel => exact ⟨m + 1, { t1 with cells := w1 }, by omega, by go_num, HY5.out, HD5.out, HM5.out, HA3.out, HZ5.out⟩
        case measure => simp [intOf]; omega
      · have hml : m = L.length := by omega
        subst hml
        rw [List.take_length] at HYm HDm
        obtain ⟨QQ, hQQ⟩ : ∃ QQ, QQ = thrP (bks ps) q L := ⟨_, rfl⟩
        rw [← hQQ] at HYm HDm HE
        clear hQQ
        go_wp2_with (first
          | (refine wpList_load_row rfl _ _ rfl w.heap.size rfl 43 _ (0, 0) _ HYm.out.box Tryz.underlying43 rfl (by kernel_rfl) ?_)
          | (refine wpList_store_blk rfl _ _ _ rfl (w.heap.size + 1) (peerA QQ tm) rfl rfl 43 zeroA HYm.out.zero (by kernel_rfl) rfl (peerA_one HDm.out.1) ?_; intro z hg hk hz; have HBz : Hid (Below w.heap.size w z) := HYm.out.below.grown hg HYm.out.below.size (fun k hk => by cases hk; omega); have HKz : Hid (z.heap[w.heap.size + 1]? = Option.some (.cells (peerA QQ tm) 43 (0, 0))) := hk; have HFz : Hid (OwnD w.heap.size z.heap.size z QQ tm) := (HDm.out.boxed HYm.out.zero hg).wide hg.size (Nat.le_refl _); clear hg hk hz HDm HYm))
        refine bodyPost_ret (v := .agg (peerA QQ tm)) (results_cell_row Tryz.results11 _ _ (w.heap.size + 1) 43 _ (0, 0) _ rfl HKz.out Tryz.underlying43 rfl (by kernel_rfl)) rfl ?_
        rw [HE.out]
        exact ⟨_, rfl, HFz.out, HBz.out⟩
  · have hx : extT (bks ps) k u = false := by simpa using hx
    have HE : Hid (throughP (bks ps) p k = p) := (by unfold throughP; rw [HU.out, if_neg (by rw [hx]; decide)] : throughP (bks ps) p k = p)
    rw [hx]
    clear hx
    go_wp2_with (refine wpList_load_row rfl _ _ rfl w.heap.size rfl 43 _ (0, 0) _ HX0.out.box Tryz.underlying43 rfl (by kernel_rfl) ?_)
    refine (copyPeer_i p s x0 (HR.out.below HX0.out.below) HS.out).mono ?_
    rintro e x1 ⟨s1, rfl, ho, hb⟩
    have HO1 : Hid (OwnD w.heap.size x1.heap.size x1 p s1) := ho.low HX0.out.below.size
    have HX1 : Hid (Bx2 w x1 (peerA p s) zeroA) := HX0.out.more hb
    clear ho hb HX0
    go_wp2_with (refine wpList_store_blk rfl _ _ _ rfl (w.heap.size + 1) (peerA p s1) rfl rfl 43 zeroA HX1.out.zero (by kernel_rfl) rfl (peerA_one HO1.out.1) ?_; intro z hg hk hz; have HBz : Hid (Below w.heap.size w z) := HX1.out.below.grown hg HX1.out.below.size (fun k hk => by cases hk; omega); have HKz : Hid (z.heap[w.heap.size + 1]? = Option.some (.cells (peerA p s1) 43 (0, 0))) := hk; have HFz : Hid (OwnD w.heap.size z.heap.size z p s1) := (HO1.out.boxed HX1.out.zero hg).wide hg.size (Nat.le_refl _); clear hg hk hz HO1 HX1)
    refine bodyPost_ret (v := .agg (peerA p s1)) (results_cell_row Tryz.results11 _ _ (w.heap.size + 1) 43 _ (0, 0) _ rfl HKz.out Tryz.underlying43 rfl (by kernel_rfl)) rfl ?_
    rw [HE.out]
    exact ⟨_, rfl, HFz.out, HBz.out⟩

end Go.Proofs.YtnghhfgbobpnkarGreatR
