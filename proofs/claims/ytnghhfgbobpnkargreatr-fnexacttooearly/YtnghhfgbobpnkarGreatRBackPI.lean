/-
  What was too early taken back by the program: the contracts of lastOf and withoutEarly. (Made by gti10.py.)
-/
import Derived.Test.YtnghhfgbobpnkarGreatRPeerCI
import Derived.Test.YtnghhfgbobpnkarGreatRJ2
import Derived.Test.YtnghhfgbobpnkarGreatRUndoAllI
namespace Go.Proofs.YtnghhfgbobpnkarGreatR
open Go.RowKit Num

set_option maxRecDepth 100000 in
theorem lastOf_i (l : List Int) (v : Value) (w : World) (hR : RowsR w v 1 intF l) (hs : (l.length : Int) ≤ 1048576) :
    Calls Tryz.prog 45 #[v] w fun e w' => e = .returned (.int .i64 (lastI l)) ∧ w' = w := by
  obtain ⟨a, cap, rfl, hr⟩ := hR
  have HR : Hid (0 < l.length → _) := hr
  clear hr
  by_cases h0 : (l.length : Int) = 0
  · have b0 : ((l.length : Int) == 0) = true := by simpa using h0
    have HE : Hid (lastI l = 0) := (by unfold lastI; rw [List.eq_nil_of_length_eq_zero (show l.length = 0 by omega)]; rfl : lastI l = 0)
    clear h0
    go_enter Tryz.func45, Tryz.ntmps45
    go_wp2
    go_ret
    exact ⟨by rw [HE.out]; rfl, rfl⟩
  · have b0 : ((l.length : Int) == 0) = false := by simpa using h0
    have hm : l.length - 1 < l.length := by omega
    have HE : Hid (lastI l = l[l.length - 1]) := (by unfold lastI; simp [List.getD, hm] : lastI l = _)
    obtain ⟨g, off, rfl, hg, hc⟩ := HR.out (by omega)
    have q0 : (0 : Int) ≤ (l.length : Int) - 1 := by omega
    have q1 : (l.length : Int) - 1 < l.length := by omega
    have hcc : w.cell? ⟨g, off + (l.length - 1), none⟩ = some (.int .i64 l[l.length - 1]) := by
      have := hc (l.length - 1) hm 0 (by omega)
      simpa [intF] using this
    have hcd : ((l.length : Int) - 1).toNat = l.length - 1 := by omega
    clear hc hg HR
    go_enter Tryz.func45, Tryz.ntmps45
    go_wp2
    go_ret
    exact ⟨by rw [HE.out]; rfl, rfl⟩

set_option maxRecDepth 100000 in
set_option maxHeartbeats 8000000 in
theorem withoutEarly_i (p : PE) (s : PV) (w : World) (hR : PeerR w p s) (hs : smallPe p) :
    Calls Tryz.prog 48 #[peerV p s] w fun e w' => ∃ s', e = .returned (peerV (backP p) s') ∧ OwnD w.heap.size w'.heap.size w' (backP p) s' ∧ Below w.heap.size w w' := by
  have HR := hid hR
  have HS := hid hs
  clear hR hs
  obtain ⟨W, hW⟩ : ∃ W, W = (w.alloc (.cells (peerA p s) 43)).alloc (.cells zeroA 43) := ⟨_, rfl⟩
  have HW : Hid (Bx2 w W (peerA p s) zeroA) := (by rw [hW]; exact two_boxes w _ _ : Bx2 w W (peerA p s) zeroA)
  unfold zeroA at hW
  go_enter Tryz.func48, Tryz.ntmps48
  go_wp2_with (rw [← hW]; clear hW; (refine wpList_load_row rfl _ _ rfl w.heap.size rfl 43 _ (0, 0) _ HW.out.box Tryz.underlying43 rfl (by kernel_rfl) ?_))
  refine (copyPeer_i p s W (HR.out.below HW.out.below) HS.out).mono ?_
  rintro e x1 ⟨s1, rfl, ho, hb⟩
  have HO1 : Hid (OwnD w.heap.size x1.heap.size x1 p s1) := ho.low HW.out.below.size
  have HX1 : Hid (Bx2 w x1 (peerA p s) zeroA) := HW.out.more hb
  clear ho hb HW
  go_wp2_with (refine wpList_store_blk rfl _ _ _ rfl w.heap.size (peerA p s1) rfl rfl 43 (peerA p s) HX1.out.box (by kernel_rfl) rfl (peerA_one HO1.out.1) ?_; intro y1 hg hk hz; have HY1 : Hid (Bx2 w y1 (peerA p s1) zeroA) := HX1.out.put hg hk; have HD1 : Hid (OwnD w.heap.size y1.heap.size y1 p s1) := (HO1.out.boxed HX1.out.box hg).wide hg.size (Nat.le_refl _); have c15 := blk_cell HY1.out.box 15 s1.cells rfl; have c17 := blk_cell HY1.out.box 17 s1.undos rfl; clear hg hk hz HX1 HO1)
  refine (undoneAll_i p.cells p.undos s1.cells s1.undos y1 HD1.out.reads.cells HD1.out.reads.undos ⟨HS.out.cells, HS.out.kcells⟩ HS.out.undos HS.out.kundos).mono ?_
  rintro e x2 ⟨v1, rfl, ho, hb⟩
  have HO2 : Hid (x2.ownsRow y1.heap.size 126 2 v1 (undoneAllC p.cells p.undos).length (flat (undoneAllC p.cells p.undos))) := ho
  have HX2 : Hid (Bx2 w x2 (peerA p s1) zeroA) := HY1.out.more hb
  have HD2 : Hid (OwnD w.heap.size y1.heap.size x2 p s1) := HD1.out.below hb
  have HZ2 : Hid (w.heap.size ≤ y1.heap.size ∧ y1.heap.size ≤ x2.heap.size) := ⟨HY1.out.below.size, hb.size⟩
  clear ho hb HY1 HD1 c15 c17
  obtain ⟨q, hq⟩ : ∃ q : PE, q = { p with cells := undoneAllC p.cells p.undos } := ⟨_, rfl⟩
  obtain ⟨s2, hs2⟩ : ∃ s2 : PV, s2 = { s1 with cells := v1 } := ⟨_, rfl⟩
  obtain ⟨r, hr⟩ : ∃ r : PE, r = { q with early := [], undos := [] } := ⟨_, rfl⟩
  obtain ⟨s3, hs3⟩ : ∃ s3 : PV, s3 = { s2 with early := .slice none 0 0, undos := .slice none 0 0 } := ⟨_, rfl⟩
  have HE : Hid (backP p = r) := (by rw [hr, hq]; rfl : backP p = r)
  go_wp2_with (first
    | (refine wpList_store_cell rfl _ _ _ rfl w.heap.size 15 v1 rfl rfl _ _ HX2.out.box (by kernel_rfl) (by simp [peerA]) (own_one HO2.out) (peerA q s2) (by rw [hq, hs2]; rfl) ?_; intro y2 hg hk; have HY2 : Hid (Bx2 w y2 (peerA q s2) zeroA) := HX2.out.put hg hk; have HD3 : Hid (OwnD w.heap.size y2.heap.size y2 q s2) := (by rw [hq, hs2]; exact (HD2.out.boxed HX2.out.box hg).setCells (Nat.le_trans HZ2.out.2 hg.size) (Nat.le_refl _) (own_base (World.ownsRow.kept HO2.out hg (row_not_box HO2.out HX2.out.box (by decide))) HZ2.out.1) (fun g e => Nat.lt_of_lt_of_le (HO2.out.lt g e).2 hg.size) (fun g e => Or.inr (HO2.out.lt g e).1) : OwnD w.heap.size y2.heap.size y2 q s2); clear hg hk HX2 HD2 HO2 HZ2 hq hs2)
    | (refine wpList_store_cell rfl _ _ _ rfl w.heap.size 16 (.slice none 0 0) rfl rfl _ _ HY2.out.box (by kernel_rfl) (by simp [peerA]) rfl (peerA { q with early := [] } { s2 with early := .slice none 0 0 }) rfl ?_; intro y3 hg hk; have HY3 : Hid (Bx2 w y3 (peerA { q with early := [] } { s2 with early := .slice none 0 0 }) zeroA) := HY2.out.put hg hk; have HD4 : Hid (OwnD w.heap.size y3.heap.size y3 { q with early := [] } { s2 with early := .slice none 0 0 }) := OwnD.setEarly (l := []) ((HD3.out.boxed HY2.out.box hg).wide hg.size (Nat.le_refl _)) (Nat.le_refl _) (Nat.le_refl _) (World.ownsRow_nil _ _ _ _) (fun g e => by cases e) (fun g e => by cases e); clear hg hk HY2 HD3)
    | (refine wpList_store_cell rfl _ _ _ rfl w.heap.size 17 (.slice none 0 0) rfl rfl _ _ HY3.out.box (by kernel_rfl) (by simp [peerA]) rfl (peerA r s3) (by rw [hr, hs3]; rfl) ?_; intro y4 hg hk; have HY4 : Hid (Bx2 w y4 (peerA r s3) zeroA) := HY3.out.put hg hk; have HD5 : Hid (OwnD w.heap.size y4.heap.size y4 r s3) := (by rw [hr, hs3]; exact OwnD.setUndos (l := []) ((HD4.out.boxed HY3.out.box hg).wide hg.size (Nat.le_refl _)) (Nat.le_refl _) (Nat.le_refl _) (World.ownsRow_nil _ _ _ _) (fun g e => by cases e) (fun g e => by cases e) : OwnD w.heap.size y4.heap.size y4 r s3); clear hg hk HY3 HD4 hr hs3)
    | (refine wpList_load_row rfl _ _ rfl w.heap.size rfl 43 _ (0, 0) _ HY4.out.box Tryz.underlying43 rfl (by kernel_rfl) ?_)
    | (refine wpList_store_blk rfl _ _ _ rfl (w.heap.size + 1) (peerA r s3) rfl rfl 43 zeroA HY4.out.zero (by kernel_rfl) rfl (peerA_one HD5.out.1) ?_; intro z hg hk hz; have HBz : Hid (Below w.heap.size w z) := HY4.out.below.grown hg HY4.out.below.size (fun k hk => by cases hk; omega); have HKz : Hid (z.heap[w.heap.size + 1]? = Option.some (.cells (peerA r s3) 43 (0, 0))) := hk; have HFz : Hid (OwnD w.heap.size z.heap.size z r s3) := (HD5.out.boxed HY4.out.zero hg).wide hg.size (Nat.le_refl _); clear hg hk hz HD5 HY4))
  refine bodyPost_ret (v := .agg (peerA r s3)) (results_cell_row Tryz.results48 _ _ (w.heap.size + 1) 43 _ (0, 0) _ rfl HKz.out Tryz.underlying43 rfl (by kernel_rfl)) rfl ?_
  rw [HE.out]
  exact ⟨_, rfl, HFz.out, HBz.out⟩

end Go.Proofs.YtnghhfgbobpnkarGreatR
