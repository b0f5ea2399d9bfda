/-
  A replica enters a View, and gives a vote: the contracts of the program's Entered and Voted. (Made by gvi10.py.)
-/
import Derived.Test.YtdopefimjabigatPeerCI
import Derived.Test.YtdopefimjabigatVotedS
namespace Go.Proofs.Ytdopefimjabigat
open Go.RowKit Num

set_option maxRecDepth 100000 in
set_option maxHeartbeats 8000000 in
theorem enteredR_i (p : PE) (s : PV) (view : Int) (w : World) (hR : PeerR w p s) (hs : smallPe p) :
    Calls Try.prog 30 #[peerV p s, .int .i64 view] w fun e w' => ∃ s', e = .returned (peerV (enterP p view) s') ∧ OwnD w.heap.size w'.heap.size w' (enterP p view) s' ∧ Below w.heap.size w w' := by
  have HR := hid hR
  have HS := hid hs
  clear hR hs
  obtain ⟨W, hW⟩ : ∃ W, W = (w.alloc (.cells (peerA p s) 41)).alloc (.cells zeroA 41) := ⟨_, rfl⟩
  have HW : Hid (Bx2 w W (peerA p s) zeroA) := (by rw [hW]; exact two_boxes w _ _ : Bx2 w W (peerA p s) zeroA)
  unfold zeroA at hW
  go_enter Try.func30, Try.ntmps30
  go_wp2_with (rw [← hW]; clear hW; (refine wpList_load_row rfl _ _ rfl w.heap.size rfl 41 _ (0, 0) _ HW.out.box Try.underlying41 rfl (by kernel_rfl) ?_))
  refine (copyPeer_i p s W (HR.out.below HW.out.below) HS.out).mono ?_
  rintro e x1 ⟨s1, rfl, ho, hb⟩
  have HO1 : Hid (OwnD w.heap.size x1.heap.size x1 p s1) := ho.low HW.out.below.size
  have HX1 : Hid (Bx2 w x1 (peerA p s) zeroA) := HW.out.more hb
  clear ho hb HW
  by_cases hin : view > p.view ∧ view ≤ 900
  · have h1 : view > p.view := hin.1
    have h1' : p.view < view := hin.1
    have h2 : view ≤ 900 := hin.2
    obtain ⟨q, hq⟩ : ∃ q : PE, q = { p with view := view, votes := [], news := [] } := ⟨_, rfl⟩
    have HE : Hid (enterP p view = q) := (by unfold enterP; rw [if_pos hin, hq] : enterP p view = _)
    obtain ⟨s2, hs2⟩ : ∃ s2 : PV, s2 = { s1 with votes := .slice none 0 0, news := .slice none 0 0 } := ⟨_, rfl⟩
    clear hin
    go_wp2_with (first
      | (refine wpList_store_blk rfl _ _ _ rfl w.heap.size (peerA p s1) rfl rfl 41 (peerA p s) HX1.out.box (by kernel_rfl) rfl (peerA_one HO1.out.1) ?_; intro y1 hg hk hz; have HY1 : Hid (Bx2 w y1 (peerA p s1) zeroA) := HX1.out.put hg hk; have HD1 : Hid (OwnD w.heap.size y1.heap.size y1 p s1) := (HO1.out.boxed HX1.out.box hg).wide hg.size (Nat.le_refl _); clear hg hk hz HX1 HO1; have c1 := blk_cell HY1.out.box 1 (.int .i64 p.view) rfl)
      | (refine wpList_store_cell rfl _ _ _ rfl w.heap.size 1 (.int .i64 view) rfl rfl _ _ HY1.out.box (by kernel_rfl) (by simp [peerA]) rfl (peerA { p with view := view } s1) rfl ?_; intro y2 hg hk; have HY2 : Hid (Bx2 w y2 (peerA { p with view := view } s1) zeroA) := HY1.out.put hg hk; have HD2 : Hid (OwnD w.heap.size y2.heap.size y2 p s1) := (HD1.out.boxed HY1.out.box hg).wide hg.size (Nat.le_refl _); clear hg hk HY1 HD1 c1)
      | (refine wpList_store_cell rfl _ _ _ rfl w.heap.size 18 (.slice none 0 0) rfl rfl _ _ HY2.out.box (by kernel_rfl) (by simp [peerA]) rfl (peerA { p with view := view } { s1 with votes := .slice none 0 0 }) rfl ?_; intro y3 hg hk; have HY3 : Hid (Bx2 w y3 (peerA { p with view := view } { s1 with votes := .slice none 0 0 }) zeroA) := HY2.out.put hg hk; have HD3 : Hid (OwnD w.heap.size y3.heap.size y3 p s1) := (HD2.out.boxed HY2.out.box hg).wide hg.size (Nat.le_refl _); clear hg hk HY2 HD2)
      | (refine wpList_store_cell rfl _ _ _ rfl w.heap.size 19 (.slice none 0 0) rfl rfl _ _ HY3.out.box (by kernel_rfl) (by simp [peerA]) rfl (peerA q s2) (by rw [hq, hs2]; rfl) ?_; intro y4 hg hk; have HY4 : Hid (Bx2 w y4 (peerA q s2) zeroA) := HY3.out.put hg hk; have HD4 : Hid (OwnD w.heap.size y4.heap.size y4 q s2) := (by rw [hq, hs2]; exact (OwnD.setNews (l := []) (OwnD.setVotes (l := []) (((HD3.out.boxed HY3.out.box hg).wide hg.size (Nat.le_refl _)).other (q := { p with view := view }) rfl rfl rfl rfl rfl rfl) (Nat.le_refl _) (Nat.le_refl _) (World.ownsRow_nil _ _ _ _) (fun g e => by cases e) (fun g e => by cases e)) (Nat.le_refl _) (Nat.le_refl _) (World.ownsRow_nil _ _ _ _) (fun g e => by cases e) (fun g e => by cases e)) : OwnD w.heap.size y4.heap.size y4 q s2); clear hg hk HY3 HD3 hq hs2)
      | (refine wpList_load_row rfl _ _ rfl w.heap.size rfl 41 _ (0, 0) _ HY4.out.box Try.underlying41 rfl (by kernel_rfl) ?_)
      | (refine wpList_store_blk rfl _ _ _ rfl (w.heap.size + 1) (peerA q s2) rfl rfl 41 zeroA HY4.out.zero (by kernel_rfl) rfl (peerA_one HD4.out.1) ?_; intro z hg hk hz; have HBz : Hid (Below w.heap.size w z) := HY4.out.below.grown hg HY4.out.below.size (fun k hk => by cases hk; omega); have HKz : Hid (z.heap[w.heap.size + 1]? = Option.some (.cells (peerA q s2) 41 (0, 0))) := hk; have HFz : Hid (OwnD w.heap.size z.heap.size z q s2) := (HD4.out.boxed HY4.out.zero hg).wide hg.size (Nat.le_refl _); clear hg hk hz HD4 HY4))
    refine bodyPost_ret (v := .agg (peerA q s2)) (results_cell_row Try.results30 _ _ (w.heap.size + 1) 41 _ (0, 0) _ rfl HKz.out Try.underlying41 rfl (by kernel_rfl)) rfl ?_
    rw [HE.out]
    exact ⟨_, rfl, HFz.out, HBz.out⟩
  · have HE : Hid (enterP p view = p) := (by unfold enterP; rw [if_neg hin] : enterP p view = p)
    by_cases h1 : p.view < view
    · have h2 : ¬ view ≤ 900 := fun h => hin ⟨h1, h⟩
      clear hin
      go_wp2_with (first
        | (refine wpList_store_blk rfl _ _ _ rfl w.heap.size (peerA p s1) rfl rfl 41 (peerA p s) HX1.out.box (by kernel_rfl) rfl (peerA_one HO1.out.1) ?_; intro y1 hg hk hz; have HY1 : Hid (Bx2 w y1 (peerA p s1) zeroA) := HX1.out.put hg hk; have HD1 : Hid (OwnD w.heap.size y1.heap.size y1 p s1) := (HO1.out.boxed HX1.out.box hg).wide hg.size (Nat.le_refl _); clear hg hk hz HX1 HO1; have c1 := blk_cell HY1.out.box 1 (.int .i64 p.view) rfl)
        | (refine wpList_load_row rfl _ _ rfl w.heap.size rfl 41 _ (0, 0) _ HY1.out.box Try.underlying41 rfl (by kernel_rfl) ?_)
        | (refine wpList_store_blk rfl _ _ _ rfl (w.heap.size + 1) (peerA p s1) rfl rfl 41 zeroA HY1.out.zero (by kernel_rfl) rfl (peerA_one HD1.out.1) ?_; intro z hg hk hz; have HBz : Hid (Below w.heap.size w z) := HY1.out.below.grown hg HY1.out.below.size (fun k hk => by cases hk; omega); have HKz : Hid (z.heap[w.heap.size + 1]? = Option.some (.cells (peerA p s1) 41 (0, 0))) := hk; have HFz : Hid (OwnD w.heap.size z.heap.size z p s1) := (HD1.out.boxed HY1.out.zero hg).wide hg.size (Nat.le_refl _); clear hg hk hz HD1 HY1))
      refine bodyPost_ret (v := .agg (peerA p s1)) (results_cell_row Try.results30 _ _ (w.heap.size + 1) 41 _ (0, 0) _ rfl HKz.out Try.underlying41 rfl (by kernel_rfl)) rfl ?_
      rw [HE.out]
      exact ⟨_, rfl, HFz.out, HBz.out⟩
    · clear hin
      go_wp2_with (first
        | (refine wpList_store_blk rfl _ _ _ rfl w.heap.size (peerA p s1) rfl rfl 41 (peerA p s) HX1.out.box (by kernel_rfl) rfl (peerA_one HO1.out.1) ?_; intro y1 hg hk hz; have HY1 : Hid (Bx2 w y1 (peerA p s1) zeroA) := HX1.out.put hg hk; have HD1 : Hid (OwnD w.heap.size y1.heap.size y1 p s1) := (HO1.out.boxed HX1.out.box hg).wide hg.size (Nat.le_refl _); clear hg hk hz HX1 HO1; have c1 := blk_cell HY1.out.box 1 (.int .i64 p.view) rfl)
        | (refine wpList_load_row rfl _ _ rfl w.heap.size rfl 41 _ (0, 0) _ HY1.out.box Try.underlying41 rfl (by kernel_rfl) ?_)
        | (refine wpList_store_blk rfl _ _ _ rfl (w.heap.size + 1) (peerA p s1) rfl rfl 41 zeroA HY1.out.zero (by kernel_rfl) rfl (peerA_one HD1.out.1) ?_; intro z hg hk hz; have HBz : Hid (Below w.heap.size w z) := HY1.out.below.grown hg HY1.out.below.size (fun k hk => by cases hk; omega); have HKz : Hid (z.heap[w.heap.size + 1]? = Option.some (.cells (peerA p s1) 41 (0, 0))) := hk; have HFz : Hid (OwnD w.heap.size z.heap.size z p s1) := (HD1.out.boxed HY1.out.zero hg).wide hg.size (Nat.le_refl _); clear hg hk hz HD1 HY1))
      refine bodyPost_ret (v := .agg (peerA p s1)) (results_cell_row Try.results30 _ _ (w.heap.size + 1) 41 _ (0, 0) _ rfl HKz.out Try.underlying41 rfl (by kernel_rfl)) rfl ?_
      rw [HE.out]
      exact ⟨_, rfl, HFz.out, HBz.out⟩


end Go.Proofs.Ytdopefimjabigat
