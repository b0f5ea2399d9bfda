/-
  A replica enters a View, and gives a vote: the contracts of the program's Entered and Voted. (Made by gvi10.py.)
-/
import Derived.Test.YtnghhfgbobpnkaqPeerCI
import Derived.Test.YtnghhfgbobpnkaqVotedS
namespace Go.Proofs.Ytnghhfgbobpnkaq
open Go.RowKit Num

set_option maxRecDepth 100000 in
set_option maxHeartbeats 8000000 in
theorem enteredR_i (p : PE) (s : PV) (view : Int) (w : World) (hR : PeerR w p s) (hs : smallPe p) :
    Calls Try.prog 40 #[peerV p s, .int .i64 view] w fun e w' => ∃ s', e = .returned (peerV (enterP p view) s') ∧ OwnD w.heap.size w'.heap.size w' (enterP p view) s' ∧ Below w.heap.size w w' := by
  have HR := hid hR
  have HS := hid hs
  clear hR hs
  obtain ⟨W, hW⟩ : ∃ W, W = (w.alloc (.cells (peerA p s) 63)).alloc (.cells zeroA 63) := ⟨_, rfl⟩
  have HW : Hid (Bx2 w W (peerA p s) zeroA) := (by rw [hW]; exact two_boxes w _ _ : Bx2 w W (peerA p s) zeroA)
  unfold zeroA at hW
  go_enter Try.func40, Try.ntmps40
  go_wp2_with (rw [← hW]; clear hW; (refine wpList_load_row rfl _ _ rfl w.heap.size rfl 63 _ (0, 0) _ HW.out.box Try.underlying63 rfl (by kernel_rfl) ?_))
  refine (copyPeer_i p s W (HR.out.below HW.out.below) HS.out).mono ?_
  rintro e x1 ⟨s1, rfl, ho, hb⟩
  have HO1 : Hid (OwnD w.heap.size x1.heap.size x1 p s1) := ho.low HW.out.below.size
  have HX1 : Hid (Bx2 w x1 (peerA p s) zeroA) := HW.out.more hb
  clear ho hb HW
  by_cases hin : view > p.view ∧ view ≤ 900
  · have h1 : view > p.view := hin.1
    have h1' : p.view < view := hin.1
    have h2 : view ≤ 900 := hin.2
    obtain ⟨q, hq⟩ : ∃ q : PE, q = { p with view := view, votes := [], news := [] } := ⟨_, rfl⟩
    have HE : Hid (enterP p view = q) := (by unfold enterP; rw [if_pos hin, hq] : enterP p view = _)
    obtain ⟨s2, hs2⟩ : ∃ s2 : PV, s2 = { s1 with votes := .slice none 0 0, news := .slice none 0 0 } := ⟨_, rfl⟩
    clear hin
    go_wp2_with (first
      | (refine wpList_store_blk rfl _ _ _ rfl w.heap.size (peerA p s1) rfl rfl 63 (peerA p s) HX1.out.box (by kernel_rfl) rfl (peerA_one HO1.out.1) ?_; intro y1 hg hk hz; have HY1 : Hid (Bx2 w y1 (peerA p s1) zeroA) := HX1.out.put hg hk; have HD1 : Hid (OwnD w.heap.size y1.heap.size y1 p s1) := (HO1.out.boxed HX1.out.box hg).wide hg.size (Nat.le_refl _); clear hg hk hz HX1 HO1; have c1 := blk_cell HY1.out.box 1 (.int .i64 p.view) rfl)
      | (refine wpList_store_cell rfl _ _ _ rfl w.heap.size 1 (.int .i64 view) rfl rfl _ _ HY1.out.box (by kernel_rfl) (by simp [peerA]) rfl (peerA { p with view := view } s1) rfl ?_; intro y2 hg hk; have HY2 : Hid (Bx2 w y2 (peerA { p with view := view } s1) zeroA) := HY1.out.put hg hk; have HD2 : Hid (OwnD w.heap.size y2.heap.size y2 p s1) := (HD1.out.boxed HY1.out.box hg).wide hg.size (Nat.le_refl _); clear hg hk HY1 HD1 c1)
      | (refine wpList_store_cell rfl _ _ _ rfl w.heap.size 18 (.slice none 0 0) rfl rfl _ _ HY2.out.box (by kernel_rfl) (by simp [peerA]) rfl (peerA { p with view := view } { s1 with votes := .slice none 0 0 }) rfl ?_; intro y3 hg hk; have HY3 : Hid (Bx2 w y3 (peerA { p with view := view } { s1 with votes := .slice none 0 0 }) zeroA) := HY2.out.put hg hk; have HD3 : Hid (OwnD w.heap.size y3.heap.size y3 p s1) := (HD2.out.boxed HY2.out.box hg).wide hg.size (Nat.le_refl _); clear hg hk HY2 HD2)
      | (refine wpList_store_cell rfl _ _ _ rfl w.heap.size 19 (.slice none 0 0) rfl rfl _ _ HY3.out.box (by kernel_rfl) (by simp [peerA]) rfl (peerA q s2) (by rw [hq, hs2]; rfl) ?_; intro y4 hg hk; have HY4 : Hid (Bx2 w y4 (peerA q s2) zeroA) := HY3.out.put hg hk; have HD4 : Hid (OwnD w.heap.size y4.heap.size y4 q s2) := (by rw [hq, hs2]; exact (OwnD.setNews (l := []) (OwnD.setVotes (l := []) (((HD3.out.boxed HY3.out.box hg).wide hg.size (Nat.le_refl _)).other (q := { p with view := view }) rfl rfl rfl rfl rfl rfl) (Nat.le_refl _) (Nat.le_refl _) (World.ownsRow_nil _ _ _ _) (fun g e => by cases e) (fun g e => by cases e)) (Nat.le_refl _) (Nat.le_refl _) (World.ownsRow_nil _ _ _ _) (fun g e => by cases e) (fun g e => by cases e)) : OwnD w.heap.size y4.heap.size y4 q s2); clear hg hk HY3 HD3 hq hs2)
      | (refine wpList_load_row rfl _ _ rfl w.heap.size rfl 63 _ (0, 0) _ HY4.out.box Try.underlying63 rfl (by kernel_rfl) ?_)
      | (refine wpList_store_blk rfl _ _ _ rfl (w.heap.size + 1) (peerA q s2) rfl rfl 63 zeroA HY4.out.zero (by kernel_rfl) rfl (peerA_one HD4.out.1) ?_; intro z hg hk hz; have HBz : Hid (Below w.heap.size w z) := HY4.out.below.grown hg HY4.out.below.size (fun k hk => by cases hk; omega); have HKz : Hid (z.heap[w.heap.size + 1]? = Option.some (.cells (peerA q s2) 63 (0, 0))) := hk; have HFz : Hid (OwnD w.heap.size z.heap.size z q s2) := (HD4.out.boxed HY4.out.zero hg).wide hg.size (Nat.le_refl _); clear hg hk hz HD4 HY4))
    refine bodyPost_ret (v := .agg (peerA q s2)) (results_cell_row Try.results40 _ _ (w.heap.size + 1) 63 _ (0, 0) _ rfl HKz.out Try.underlying63 rfl (by kernel_rfl)) rfl ?_
    rw [HE.out]
    exact ⟨_, rfl, HFz.out, HBz.out⟩
  · have HE : Hid (enterP p view = p) := (by unfold enterP; rw [if_neg hin] : enterP p view = p)
    by_cases h1 : p.view < view
    · have h2 : ¬ view ≤ 900 := fun h => hin ⟨h1, h⟩
      clear hin
      go_wp2_with (first
        | (refine wpList_store_blk rfl _ _ _ rfl w.heap.size (peerA p s1) rfl rfl 63 (peerA p s) HX1.out.box (by kernel_rfl) rfl (peerA_one HO1.out.1) ?_; intro y1 hg hk hz; have HY1 : Hid (Bx2 w y1 (peerA p s1) zeroA) := HX1.out.put hg hk; have HD1 : Hid (OwnD w.heap.size y1.heap.size y1 p s1) := (HO1.out.boxed HX1.out.box hg).wide hg.size (Nat.le_refl _); clear hg hk hz HX1 HO1; have c1 := blk_cell HY1.out.box 1 (.int .i64 p.view) rfl)
        | (refine wpList_load_row rfl _ _ rfl w.heap.size rfl 63 _ (0, 0) _ HY1.out.box Try.underlying63 rfl (by kernel_rfl) ?_)
        | (refine wpList_store_blk rfl _ _ _ rfl (w.heap.size + 1) (peerA p s1) rfl rfl 63 zeroA HY1.out.zero (by kernel_rfl) rfl (peerA_one HD1.out.1) ?_; intro z hg hk hz; have HBz : Hid (Below w.heap.size w z) := HY1.out.below.grown hg HY1.out.below.size (fun k hk => by cases hk; omega); have HKz : Hid (z.heap[w.heap.size + 1]? = Option.some (.cells (peerA p s1) 63 (0, 0))) := hk; have HFz : Hid (OwnD w.heap.size z.heap.size z p s1) := (HD1.out.boxed HY1.out.zero hg).wide hg.size (Nat.le_refl _); clear hg hk hz HD1 HY1))
      refine bodyPost_ret (v := .agg (peerA p s1)) (results_cell_row Try.results40 _ _ (w.heap.size + 1) 63 _ (0, 0) _ rfl HKz.out Try.underlying63 rfl (by kernel_rfl)) rfl ?_
      rw [HE.out]
      exact ⟨_, rfl, HFz.out, HBz.out⟩
    · clear hin
      go_wp2_with (first
        | (refine wpList_store_blk rfl _ _ _ rfl w.heap.size (peerA p s1) rfl rfl 63 (peerA p s) HX1.out.box (by kernel_rfl) rfl (peerA_one HO1.out.1) ?_; intro y1 hg hk hz; have HY1 : Hid (Bx2 w y1 (peerA p s1) zeroA) := HX1.out.put hg hk; have HD1 : Hid (OwnD w.heap.size y1.heap.size y1 p s1) := (HO1.out.boxed HX1.out.box hg).wide hg.size (Nat.le_refl _); clear hg hk hz HX1 HO1; have c1 := blk_cell HY1.out.box 1 (.int .i64 p.view) rfl)
        | (refine wpList_load_row rfl _ _ rfl w.heap.size rfl 63 _ (0, 0) _ HY1.out.box Try.underlying63 rfl (by kernel_rfl) ?_)
        | (refine wpList_store_blk rfl _ _ _ rfl (w.heap.size + 1) (peerA p s1) rfl rfl 63 zeroA HY1.out.zero (by kernel_rfl) rfl (peerA_one HD1.out.1) ?_; intro z hg hk hz; have HBz : Hid (Below w.heap.size w z) := HY1.out.below.grown hg HY1.out.below.size (fun k hk => by cases hk; omega); have HKz : Hid (z.heap[w.heap.size + 1]? = Option.some (.cells (peerA p s1) 63 (0, 0))) := hk; have HFz : Hid (OwnD w.heap.size z.heap.size z p s1) := (HD1.out.boxed HY1.out.zero hg).wide hg.size (Nat.le_refl _); clear hg hk hz HD1 HY1))
      refine bodyPost_ret (v := .agg (peerA p s1)) (results_cell_row Try.results40 _ _ (w.heap.size + 1) 63 _ (0, 0) _ rfl HKz.out Try.underlying63 rfl (by kernel_rfl)) rfl ?_
      rw [HE.out]
      exact ⟨_, rfl, HFz.out, HBz.out⟩

set_option maxRecDepth 100000 in
set_option maxHeartbeats 8000000 in
theorem votedR_i (p : PE) (s : PV) (phase view block : Int) (w : World) (hR : PeerR w p s) (hs : smallPe p) :
    Calls Try.prog 35 #[peerV p s, .int .i64 phase, .int .i64 view, .int .i64 block] w fun e w' => ∃ s', e = .returned (.tuple #[peerV (votedP p phase view block) s', .agg #[.int .i64 phase, .int .i64 view, .int .i64 block, .int .i64 p.id]]) ∧ OwnD w.heap.size w'.heap.size w' (votedP p phase view block) s' ∧ Below w.heap.size w w' := by
  have HR := hid hR
  have HS := hid hs
  clear hR hs
  obtain ⟨W, hW⟩ : ∃ W, W = ((w.alloc (.cells (peerA p s) 63)).alloc (.cells zeroA 63)).alloc (.cells #[.int .i64 0, .int .i64 0, .int .i64 0, .int .i64 0] 59) := ⟨_, rfl⟩
  have HW : Hid (Bx2 w W (peerA p s) zeroA) := (by rw [hW]; exact (two_boxes w _ _).more ((Below.refl _ _).alloc (Nat.le_refl _) _) : Bx2 w W (peerA p s) zeroA)
  have HV0 : Hid (W.heap[w.heap.size + 1 + 1]? = some (.cells #[.int .i64 0, .int .i64 0, .int .i64 0, .int .i64 0] 59 (0, 0))) := (by rw [hW]; exact (alloc3 w _ _ _).2.2 : W.heap[w.heap.size + 1 + 1]? = _)
  have HWS : Hid (W.heap.size = w.heap.size + 1 + 1 + 1) := (by rw [hW]; simp : W.heap.size = w.heap.size + 1 + 1 + 1)
  unfold zeroA at hW
  go_enter Try.func35, Try.ntmps35
  go_wp2_with (rw [← hW]; clear hW; (refine wpList_load_row rfl _ _ rfl w.heap.size rfl 63 _ (0, 0) _ HW.out.box Try.underlying63 rfl (by kernel_rfl) ?_))
  refine (copyPeer_i p s W (HR.out.below HW.out.below) HS.out).mono ?_
  rintro e x1 ⟨s1, rfl, ho, hb⟩
  have HO1 : Hid (OwnD W.heap.size x1.heap.size x1 p s1) := ho
  have HX1 : Hid (Bx2 w x1 (peerA p s) zeroA) := HW.out.more hb
  have HV1 : Hid (x1.heap[w.heap.size + 1 + 1]? = some (.cells #[.int .i64 0, .int .i64 0, .int .i64 0, .int .i64 0] 59 (0, 0))) := (hb.block _ (Array.getElem?_eq_some_iff.1 HV0.out).1).trans HV0.out
  clear ho hb HW HV0
  go_wp2_with (first
    | (refine wpList_store_blk rfl _ _ _ rfl w.heap.size (peerA p s1) rfl rfl 63 (peerA p s) HX1.out.box (by kernel_rfl) rfl (peerA_one HO1.out.1) ?_; intro y1 hg hk hz; have HY1 : Hid (Bx2 w y1 (peerA p s1) zeroA) := HX1.out.put hg hk; have HD1 : Hid (OwnD W.heap.size y1.heap.size y1 p s1) := (HO1.out.boxed HX1.out.box hg).wide hg.size (Nat.le_refl _); have HV2 : Hid (y1.heap[w.heap.size + 1 + 1]? = Option.some (.cells #[.int .i64 0, .int .i64 0, .int .i64 0, .int .i64 0] 59 (0, 0))) := (hg.block _ (Array.getElem?_eq_some_iff.1 HV1.out).1 (fun e => by have := Option.some.inj e; omega)).trans HV1.out; have c0 := blk_cell HY1.out.box 0 (.int .i64 p.id) rfl; clear HV1; clear hg hk hz HX1 HO1; have c1 := blk_cell HY1.out.box 1 (.int .i64 p.view) rfl)
    | (refine wpList_store_part rfl _ _ _ rfl w.heap.size 10 #[.int .i64 phase, .int .i64 view, .int .i64 block, .int .i64 p.id] rfl rfl _ _ HY1.out.box (by kernel_rfl) (by simp [peerA]) (by simp [Value.oneCell']) (peerA (votedP p phase view block) s1) rfl ?_; intro y2 hg hk; have HY2 : Hid (Bx2 w y2 (peerA (votedP p phase view block) s1) zeroA) := HY1.out.put hg hk; have HD2 : Hid (OwnD W.heap.size y2.heap.size y2 (votedP p phase view block) s1) := ((HD1.out.boxed HY1.out.box hg).wide hg.size (Nat.le_refl _)).other rfl rfl rfl rfl rfl rfl; have HV3 : Hid (y2.heap[w.heap.size + 1 + 1]? = Option.some (.cells #[.int .i64 0, .int .i64 0, .int .i64 0, .int .i64 0] 59 (0, 0))) := (hg.block _ (Array.getElem?_eq_some_iff.1 HV2.out).1 (fun e => by have := Option.some.inj e; omega)).trans HV2.out; clear hg hk HY1 HD1 HV2 c0 c1))
  refine wp_region_H (fun x => x.heap[w.heap.size]? = some (.cells (peerA (votedP p phase view block) s1) 63 (0, 0))) (by kernel_rfl) ?_
  show wpAnyH Try.prog _ _ _ _ (4 + 1) (Array.replicate 5 false) _ _
  have hS : y2.drew.heap[w.heap.size]? = some (.cells (peerA (votedP p phase view block) s1) 63 (0, 0)) := HY2.out.box
  refine h_take (j := 0) (e' := some 19) (v := .agg (peerA (votedP p phase view block) s1)) rfl rfl (by kernel_rfl) (by kernel_rfl) (by kernel_rfl) (fun _ _ _ h => h) (Or.inl ⟨by rfl, fun x hx => exec_load_blk _ _ rfl w.heap.size rfl _ _ _ _ hx Try.underlying63 rfl (by kernel_rfl)⟩) hS ?_
  simp only [Act.put, List.setIfInBounds_toArray, List.set_cons_zero, List.set_cons_succ]
  refine h_take (j := 1) (e' := some 20) (v := .pointer (some ⟨w.heap.size, 10, none⟩)) rfl rfl (by kernel_rfl) (by kernel_rfl) (by kernel_rfl) (fun _ _ _ h => h) (Or.inl ⟨by rfl, ?_⟩) hS ?_
  · intro x hx
    go_simp
    try with_reducible rfl
  simp only [Act.put, List.setIfInBounds_toArray, List.set_cons_zero, List.set_cons_succ]
  refine h_take (j := 2) (e' := some 21) (v := .agg #[.int .i64 phase, .int .i64 view, .int .i64 block, .int .i64 p.id]) rfl rfl (by kernel_rfl) (by kernel_rfl) (by kernel_rfl) (fun _ _ _ h => h) (Or.inl ⟨by rfl, ?_⟩) hS ?_
  · intro x hx
    have c10 := blk_cell hx 10 (.int .i64 phase) rfl
    have c11 := blk_cell hx 11 (.int .i64 view) rfl
    have c12 := blk_cell hx 12 (.int .i64 block) rfl
    have c13 := blk_cell hx 13 (.int .i64 p.id) rfl
    go_simp
    try with_reducible rfl
  simp only [Act.put, List.setIfInBounds_toArray, List.set_cons_zero, List.set_cons_succ]
  refine h_store (s := 3) (N := w.heap.size + 1) (old := zeroA) (cells := peerA (votedP p phase view block) s1) rfl rfl rfl rfl (by kernel_rfl) rfl rfl HY2.out.zero (by kernel_rfl) rfl (peerA_one HD2.out.1) ?_
  intro z1 hg hk
  have HZ1 : Hid (z1.heap[w.heap.size + 1]? = some (.cells (peerA (votedP p phase view block) s1) 63 (0, 0))) := hk
  have HB1 : Hid (Below w.heap.size w z1) := (HY2.out.below.trans (Below.refl _ _).drew).grown hg HY2.out.below.size (fun k hk => by cases hk; omega)
  have HD3 : Hid (OwnD W.heap.size z1.heap.size z1 (votedP p phase view block) s1) := ((HD2.out.below (Below.refl _ _).drew).boxed HY2.out.zero hg).wide hg.size (Nat.le_refl _)
  have HV4 : Hid (z1.heap[w.heap.size + 1 + 1]? = some (.cells #[.int .i64 0, .int .i64 0, .int .i64 0, .int .i64 0] 59 (0, 0))) := (hg.block _ (Array.getElem?_eq_some_iff.1 HV3.out).1 (fun e => by have e := Option.some.inj e; omega)).trans HV3.out
  have HS1 : Hid (z1.heap[w.heap.size]? = some (.cells (peerA (votedP p phase view block) s1) 63 (0, 0))) := (hg.block _ (Array.getElem?_eq_some_iff.1 hS).1 (fun e => by have e := Option.some.inj e; omega)).trans hS
  clear hg hk hS HY2 HD2 HV3
  refine ⟨HS1.out, ?_⟩
  refine h_store (s := 4) (N := w.heap.size + 1 + 1) (old := #[.int .i64 0, .int .i64 0, .int .i64 0, .int .i64 0]) (cells := #[.int .i64 phase, .int .i64 view, .int .i64 block, .int .i64 p.id]) rfl rfl rfl rfl (by kernel_rfl) rfl rfl HV4.out (by kernel_rfl) rfl (by simp [Value.oneCell']) ?_
  intro z2 hg hk
  have HV5 : Hid (z2.heap[w.heap.size + 1 + 1]? = some (.cells #[.int .i64 phase, .int .i64 view, .int .i64 block, .int .i64 p.id] 59 (0, 0))) := hk
  have HZ2 : Hid (z2.heap[w.heap.size + 1]? = some (.cells (peerA (votedP p phase view block) s1) 63 (0, 0))) := (hg.block _ (Array.getElem?_eq_some_iff.1 HZ1.out).1 (fun e => by have e := Option.some.inj e; omega)).trans HZ1.out
  have HB2 : Hid (Below w.heap.size w z2) := HB1.out.grown hg HB1.out.size (fun k hk => by cases hk; omega)
  have HD4 : Hid (OwnD W.heap.size z2.heap.size z2 (votedP p phase view block) s1) := ((HD3.out.far hg (Or.inl (by have := HWS.out; omega))).wide hg.size (Nat.le_refl _))
  have HS2 : Hid (z2.heap[w.heap.size]? = some (.cells (peerA (votedP p phase view block) s1) 63 (0, 0))) := (hg.block _ (Array.getElem?_eq_some_iff.1 HS1.out).1 (fun e => by have e := Option.some.inj e; omega)).trans HS1.out
  clear hg hk
  refine ⟨HS2.out, ?_⟩
  refine wpAnyH_done (by kernel_rfl) ?_ _
  go_wp2
  refine bodyPost_ret (v := .tuple #[.agg (peerA (votedP p phase view block) s1), .agg #[.int .i64 phase, .int .i64 view, .int .i64 block, .int .i64 p.id]]) (results_cells2 Try.results35 _ _ (w.heap.size + 1) 63 _ (0, 0) _ (w.heap.size + 1 + 1) 59 _ (0, 0) _ rfl HZ2.out Try.underlying63 rfl (by kernel_rfl) rfl HV5.out Try.underlying59 rfl (by kernel_rfl)) rfl ?_
  exact ⟨_, rfl, HD4.out.low (by have := HWS.out; omega), HB2.out⟩

end Go.Proofs.Ytnghhfgbobpnkaq
