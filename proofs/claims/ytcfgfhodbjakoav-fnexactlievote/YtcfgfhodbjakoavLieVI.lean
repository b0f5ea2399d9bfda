/-
  A vote of one that lies: the contracts of the program's lieVote and LieVote.
-/
import Derived.Test.YtcfgfhodbjakoavLieVN
namespace Go.Proofs.Ytcfgfhodbjakoav
open Go.RowKit Num

set_option maxRecDepth 100000 in
theorem placeOk_iv (k : Int) (n cap : Nat) (a : Option Addr) (w : World) :
    Calls Try.prog 37 #[.slice a n cap, .int .i64 k] w fun e w' => e = .returned (.bool (inB k 0 ((n : Int) - 1))) ∧ w' = w := by
  by_cases h0 : 0 ≤ k
  · by_cases h1 : k < n
    · have HR : Hid (inB k 0 ((n : Int) - 1) = true) := inB_yes ⟨h0, by omega⟩
      go_enter Try.func37, Try.ntmps37
      go_wp2
      go_ret
      exact ⟨ret_bool HR.out.symm, rfl⟩
    · have HR : Hid (inB k 0 ((n : Int) - 1) = false) := inB_no (by omega)
      go_enter Try.func37, Try.ntmps37
      go_wp2
      go_ret
      exact ⟨ret_bool HR.out.symm, rfl⟩
  · have HR : Hid (inB k 0 ((n : Int) - 1) = false) := inB_no (by omega)
    go_enter Try.func37, Try.ntmps37
    go_wp2
    go_ret
    exact ⟨ret_bool HR.out.symm, rfl⟩
set_option maxRecDepth 100000 in
set_option maxHeartbeats 8000000 in
theorem lieVoteV_i (c : CU) (s : CW) (i ph k : Int) (w : World) (hR : ClusR w c s) :
    Calls Try.prog 21 #[clusV c s, .int .i64 i, .int .i64 ph, .int .i64 k] w fun e w' => e = .returned (.agg #[.int .i64 ph, .int .i64 (lieView c k), .int .i64 k, .int .i64 i]) ∧ Below w.heap.size w w' := by
  obtain ⟨at', ct, et, hvc⟩ := hR.viewCell
  have HVC := hid hvc
  clear hR hvc
  obtain ⟨W, hW⟩ : ∃ W, W = (w.alloc (.cells (clusA c s) 43)).alloc (.cells #[.int .i64 0, .int .i64 0, .int .i64 0, .int .i64 0] 33) := ⟨_, rfl⟩
  have HW : Hid (Below w.heap.size w W ∧ W.heap[w.heap.size]? = some (.cells (clusA c s) 43 (0, 0)) ∧ W.heap[w.heap.size + 1]? = some (.cells #[.int .i64 0, .int .i64 0, .int .i64 0, .int .i64 0] 33 (0, 0))) := (by rw [hW]; exact ⟨ba (ba (Below.refl _ _) _) _, alloc2 w _ _⟩ : _ ∧ _)
  have HNE : Hid (w.heap.size + 1 < W.heap.size) := (Array.getElem?_eq_some_iff.1 HW.out.2.2).1
  obtain ⟨V, hV⟩ : ∃ V, V = lieView c k := ⟨_, rfl⟩
  have HV : Hid (V = lieView c k) := hV
  rw [← hV]
  have HET : Hid (s.treeV = .slice at' c.tree.length ct) := et
  clear hV et
  go_enter Try.func21, Try.ntmps21
  go_wp2_with (first
    | (rw [← hW]; clear hW)
    | (refine wpList_store_blk rfl _ _ _ rfl W.heap.size #[.int .i64 ph, .int .i64 0, .int .i64 k, .int .i64 i] rfl rfl 33 #[.int .i64 0, .int .i64 0, .int .i64 0, .int .i64 0] (heap_alloc_new W _) (by kernel_rfl) rfl (by simp [Value.oneCell']) ?_; intro y hg hk hz; have hby : Below W.heap.size W y := made_below hg; have HY : Hid (Below w.heap.size w y ∧ y.heap[w.heap.size]? = some (.cells (clusA c s) 43 (0, 0)) ∧ y.heap[w.heap.size + 1]? = some (.cells #[.int .i64 0, .int .i64 0, .int .i64 0, .int .i64 0] 33 (0, 0)) ∧ y.heap[W.heap.size]? = some (.cells #[.int .i64 ph, .int .i64 0, .int .i64 k, .int .i64 i] 33 (0, 0)) ∧ Below w.heap.size w W ∧ Below W.heap.size W y) := ⟨bt HW.out.1 hby, (hby.block _ (Array.getElem?_eq_some_iff.1 HW.out.2.1).1).trans HW.out.2.1, (hby.block _ (Array.getElem?_eq_some_iff.1 HW.out.2.2).1).trans HW.out.2.2, hk, HW.out.1, hby⟩; have c3 := blk_cell HY.out.2.1 3 s.treeV rfl; rw [HET.out] at c3; clear hg hk hz hby HW))
  refine (placeOk_iv k c.tree.length ct at' y).mono ?_
  rintro e w1 ⟨rfl, hw⟩
  obtain rfl := hw.symm
  clear hw
  by_cases hin : 0 ≤ k ∧ k ≤ (c.tree.length : Int) - 1
  · rw [inB_yes hin]
    obtain ⟨j, hj⟩ : ∃ j : Nat, k = (j : Int) := ⟨k.toNat, by omega⟩
    subst hj
    have hjn : j < c.tree.length := by omega
    obtain ⟨g, off, rfl, hg, hc⟩ := HVC.out j hjn
    have hvw : y.cell? ⟨g, off + j * 7 + 1, none⟩ = some (.int .i64 V) := by rw [HY.out.1.cell (by exact hg), hc, HV.out]; unfold lieView; rw [if_pos hin]
    have q0 : (0 : Int) ≤ (j : Int) := by omega
    have q1 : (j : Int) < (c.tree.length : Int) := by omega
    clear hin hc hg
    go_wp2_with (first
      | (refine wpList_store_cell rfl _ _ _ rfl W.heap.size 1 (.int .i64 V) rfl rfl 33 _ HY.out.2.2.2.1 (by kernel_rfl) (by simp) (by rfl) #[.int .i64 ph, .int .i64 V, .int .i64 (j : Int), .int .i64 i] rfl ?_; intro z hg hk; have HZ : Hid (Below w.heap.size w z ∧ z.heap[w.heap.size + 1]? = some (.cells #[.int .i64 0, .int .i64 0, .int .i64 0, .int .i64 0] 33 (0, 0)) ∧ z.heap[W.heap.size]? = some (.cells #[.int .i64 ph, .int .i64 V, .int .i64 (j : Int), .int .i64 i] 33 (0, 0))) := ⟨HY.out.1.grown hg HY.out.1.size (fun k hk => by cases hk; exact HY.out.2.2.2.2.1.size), (hg.block _ (Array.getElem?_eq_some_iff.1 HY.out.2.2.1).1 (fun e => by have := Option.some.inj e; have := HNE.out; omega)).trans HY.out.2.2.1, hk⟩; clear hg hk)
      | (refine wpList_load_row rfl _ _ rfl W.heap.size rfl 33 _ (0, 0) _ HZ.out.2.2 Try.underlying33 rfl (by kernel_rfl) ?_)
      | (refine wpList_store_blk rfl _ _ _ rfl (w.heap.size + 1) #[.int .i64 ph, .int .i64 V, .int .i64 (j : Int), .int .i64 i] rfl rfl 33 #[.int .i64 0, .int .i64 0, .int .i64 0, .int .i64 0] HZ.out.2.1 (by kernel_rfl) rfl (by simp [Value.oneCell']) ?_; intro u hg hk hz; have HU : Hid (u.heap[w.heap.size + 1]? = some (.cells #[.int .i64 ph, .int .i64 V, .int .i64 (j : Int), .int .i64 i] 33 (0, 0)) ∧ Below w.heap.size w u) := ⟨hk, HZ.out.1.grown hg HZ.out.1.size (fun k e => by cases e; omega)⟩; clear hg hk hz))
    refine bodyPost_ret (v := .agg #[.int .i64 ph, .int .i64 V, .int .i64 (j : Int), .int .i64 i]) (results_cell_row Try.results21 _ _ (w.heap.size + 1) 33 _ (0, 0) _ rfl HU.out.1 Try.underlying33 rfl (by kernel_rfl)) rfl ?_
    exact ⟨rfl, HU.out.2⟩
  · rw [inB_no hin]
    have hV0 : V = 0 := by rw [HV.out]; exact if_neg hin
    subst hV0
    clear hin
    go_wp2_with (first
      | (refine wpList_load_row rfl _ _ rfl W.heap.size rfl 33 _ (0, 0) _ HY.out.2.2.2.1 Try.underlying33 rfl (by kernel_rfl) ?_)
      | (refine wpList_store_blk rfl _ _ _ rfl (w.heap.size + 1) #[.int .i64 ph, .int .i64 0, .int .i64 k, .int .i64 i] rfl rfl 33 #[.int .i64 0, .int .i64 0, .int .i64 0, .int .i64 0] HY.out.2.2.1 (by kernel_rfl) rfl (by simp [Value.oneCell']) ?_; intro u hg hk hz; have HU : Hid (u.heap[w.heap.size + 1]? = some (.cells #[.int .i64 ph, .int .i64 0, .int .i64 k, .int .i64 i] 33 (0, 0)) ∧ Below w.heap.size w u) := ⟨hk, HY.out.1.grown hg HY.out.1.size (fun k e => by cases e; omega)⟩; clear hg hk hz))
    refine bodyPost_ret (v := .agg #[.int .i64 ph, .int .i64 0, .int .i64 k, .int .i64 i]) (results_cell_row Try.results21 _ _ (w.heap.size + 1) 33 _ (0, 0) _ rfl HU.out.1 Try.underlying33 rfl (by kernel_rfl)) rfl ?_
    exact ⟨rfl, HU.out.2⟩

set_option maxRecDepth 100000 in
set_option maxHeartbeats 8000000 in
theorem lieVote_i (c : CU) (s : CW) (i to' ph k : Int) (w : World) (hR : ClusR w c s) (_ : (c.tree.length : Int) ≤ 1048576) :
    Calls Try.prog 7 #[clusV c s, .int .i64 i, .int .i64 to', .int .i64 ph, .int .i64 k] w fun e w' => e = .returned (.agg (letA (lieVoteL c i to' ph k))) ∧ Below w.heap.size w w' := by
  have HR := hid hR
  clear hR
  obtain ⟨W, hW⟩ : ∃ W, W = (w.alloc (.cells (clusA c s) 43)).alloc (.cells (letA ((0, 0, 0, 0, 0), (0, 0, 0, 0), (0, 0, 0, 0))) 35) := ⟨_, rfl⟩
  have HW : Hid (Below w.heap.size w W ∧ W.heap[w.heap.size]? = some (.cells (clusA c s) 43 (0, 0)) ∧ W.heap[w.heap.size + 1]? = some (.cells (letA ((0, 0, 0, 0, 0), (0, 0, 0, 0), (0, 0, 0, 0))) 35 (0, 0))) := (by rw [hW]; exact ⟨ba (ba (Below.refl _ _) _) _, alloc2 w _ _⟩ : _ ∧ _)
  have HNE : Hid (w.heap.size + 1 < W.heap.size) := (Array.getElem?_eq_some_iff.1 HW.out.2.2).1
  obtain ⟨V, hV⟩ : ∃ V, V = lieView c k := ⟨_, rfl⟩
  obtain ⟨LL, hLL⟩ : ∃ LL, LL = lieVoteL c i to' ph k := ⟨_, rfl⟩
  have HLL : Hid (LL = ((2, i, to', V, 0), (0, 0, 0, 0), (ph, V, k, i))) := (by rw [hLL, hV]; rfl : LL = _)
  have HV : Hid (lieView c k = V) := hV.symm
  rw [← hLL]
  clear hLL hV
  unfold letA at hW
  go_enter Try.func7, Try.ntmps7
  go_wp2_with (rw [← hW]; clear hW; refine wpList_load_row rfl _ _ rfl w.heap.size rfl 43 _ (0, 0) _ HW.out.2.1 Try.underlying43 rfl (by kernel_rfl) ?_)
  refine (lieVoteV_i c s i ph k W (HR.out.below HW.out.1)).mono ?_
  rintro e x ⟨rfl, hb⟩
  rw [HV.out]
  have HX : Hid (Below w.heap.size w x ∧ x.heap[w.heap.size + 1]? = some (.cells (letA ((0, 0, 0, 0, 0), (0, 0, 0, 0), (0, 0, 0, 0))) 35 (0, 0)) ∧ W.heap.size ≤ x.heap.size) := ⟨bt HW.out.1 hb, (hb.block _ (Array.getElem?_eq_some_iff.1 HW.out.2.2).1).trans HW.out.2.2, hb.size⟩
  clear hb HW
  go_wp2_with (first
    | (refine wpList_store_blk rfl _ _ _ rfl x.heap.size #[.int .i64 ph, .int .i64 V, .int .i64 k, .int .i64 i] rfl rfl 33 #[.int .i64 0, .int .i64 0, .int .i64 0, .int .i64 0] (heap_alloc_new x _) (by kernel_rfl) rfl (by simp [Value.oneCell']) ?_; intro y hg hk hz; have hby : Below x.heap.size x y := made_below hg; have HY : Hid (Below w.heap.size w y ∧ y.heap[w.heap.size + 1]? = some (.cells (letA ((0, 0, 0, 0, 0), (0, 0, 0, 0), (0, 0, 0, 0))) 35 (0, 0)) ∧ y.heap[x.heap.size]? = some (.cells #[.int .i64 ph, .int .i64 V, .int .i64 k, .int .i64 i] 33 (0, 0))) := ⟨bt HX.out.1 hby, (hby.block _ (Array.getElem?_eq_some_iff.1 HX.out.2.1).1).trans HX.out.2.1, hk⟩; have v1 := blk_cell HY.out.2.2 1 (.int .i64 V) rfl; clear hg hk hz hby)
    | (refine wpList_load_row rfl _ _ rfl x.heap.size rfl 33 _ (0, 0) _ HY.out.2.2 Try.underlying33 rfl (by kernel_rfl) ?_)
    | (refine wpList_store_blk rfl _ _ _ rfl (w.heap.size + 1) (letA LL) rfl (by rw [HLL.out]; rfl) 35 (letA ((0, 0, 0, 0, 0), (0, 0, 0, 0), (0, 0, 0, 0))) HY.out.2.1 (by kernel_rfl) rfl (letA_one _) ?_; intro z hg hk hz; have HZ : Hid (z.heap[w.heap.size + 1]? = some (.cells (letA LL) 35 (0, 0)) ∧ Below w.heap.size w z) := ⟨hk, HY.out.1.grown hg HY.out.1.size (fun k e => by cases e; omega)⟩; clear hg hk hz))
  refine bodyPost_ret (v := .agg (letA LL)) (results_cell_row Try.results7 _ _ (w.heap.size + 1) 35 _ (0, 0) _ rfl HZ.out.1 Try.underlying35 rfl (by kernel_rfl)) rfl ?_
  exact ⟨rfl, HZ.out.2⟩

end Go.Proofs.Ytcfgfhodbjakoav
