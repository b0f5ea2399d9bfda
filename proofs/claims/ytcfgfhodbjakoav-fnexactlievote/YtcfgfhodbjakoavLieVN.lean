/-
  A vote of one that lies: the contract of the specification's LieVote.
-/
import Derived.Test.YtcfgfhodbjakoavClusC
import Derived.Test.YtcfgfhodbjakoavVotedS
import Derived.Test.YtcfgfhodbjakoavJ0
import Derived.Test.YtcfgfhodbjakoavAnsS
namespace Go.Proofs.Ytcfgfhodbjakoav
open Go.RowKit Num

/-- a vote that one that lies gives -/
def lieView (c : CU) (k : Int) : Int := if 0 ≤ k ∧ k ≤ (c.tree.length : Int) - 1 then viewAt c.tree k else 0
def lieVoteL (c : CU) (i to' ph k : Int) : LT := ((2, i, to', lieView c k, 0), (0, 0, 0, 0), (ph, lieView c k, k, i))
/-- the View of a block of a cluster's tree, in memory -/
theorem ClusR.viewCell {w : World} {c : CU} {s : CW} (h : ClusR w c s) : ∃ a cap, s.treeV = .slice a c.tree.length cap ∧ ∀ j (_ : j < c.tree.length), ∃ g off, a = some ⟨g, off, none⟩ ∧ g < w.heap.size ∧ w.cell? ⟨g, off + j * 7 + 1, none⟩ = some (.int .i64 (viewAt c.tree (j : Int))) := by
  obtain ⟨a, cap, e, hr⟩ := treeq_cells h.tree
  have hl : s.tree.length = c.tree.length := by rw [← h.etree, bks_len]
  refine ⟨a, cap, by rw [e, hl], fun j hj => ?_⟩
  obtain ⟨g, off, e2, hg, hc⟩ := hr (by omega)
  refine ⟨g, off, e2, hg, ?_⟩
  have hj2 : j < s.tree.length := by omega
  rw [(hc j hj2).2.1, viewAt_at hj]
  congr 2
  have : c.tree[j]? = some s.tree[j].1 := by rw [← h.etree]; simp [bks, hj2]
  rw [List.getElem?_eq_getElem hj] at this
  rw [Option.some.inj this]

set_option maxRecDepth 100000 in
set_option maxHeartbeats 8000000 in
theorem lieVote_s (c : CU) (s : CW) (i to' ph k : Int) (w : World) (hR : ClusR w c s) (hl : (c.tree.length : Int) ≤ 1048576) :
    Calls Try.prog 5 #[clusV c s, .int .i64 i, .int .i64 to', .int .i64 ph, .int .i64 k] w fun e w' => e = .returned (.agg (letA (lieVoteL c i to' ph k))) ∧ Below w.heap.size w w' := by
  obtain ⟨at', ct, et, hvc⟩ := hR.viewCell
  have HVC := hid hvc
  clear hR hvc
  obtain ⟨W, hW⟩ : ∃ W, W = (w.alloc (.cells (clusA c s) 43)).alloc (.cells (letA ((0, 0, 0, 0, 0), (0, 0, 0, 0), (0, 0, 0, 0))) 35) := ⟨_, rfl⟩
  have HW : Hid (Below w.heap.size w W ∧ W.heap[w.heap.size]? = some (.cells (clusA c s) 43 (0, 0)) ∧ W.heap[w.heap.size + 1]? = some (.cells (letA ((0, 0, 0, 0, 0), (0, 0, 0, 0), (0, 0, 0, 0))) 35 (0, 0))) := (by rw [hW]; exact ⟨ba (ba (Below.refl _ _) _) _, alloc2 w _ _⟩ : _ ∧ _)
  have c3 := blk_cell HW.out.2.1 3 s.treeV rfl
  rw [et] at c3
  clear et
  unfold letA at hW
  obtain ⟨V, hV⟩ : ∃ V, V = lieView c k := ⟨_, rfl⟩
  obtain ⟨LL, hLL⟩ : ∃ LL, LL = lieVoteL c i to' ph k := ⟨_, rfl⟩
  have HLL : Hid (LL = ((2, i, to', V, 0), (0, 0, 0, 0), (ph, V, k, i))) := (by rw [hLL, hV]; rfl : LL = _)
  have HV : Hid (V = lieView c k) := hV
  rw [← hLL]
  clear hLL hV
  go_enter Try.func5, Try.ntmps5
  go_wp2_with (rw [← hW]; clear hW)
  refine (in_any k 0 ((c.tree.length : Int) - 1) W).mono ?_
  rintro e w1 ⟨rfl, hw⟩
  obtain rfl := hw.symm
  clear hw
  by_cases hin : 0 ≤ k ∧ k ≤ (c.tree.length : Int) - 1
  · rw [inB_yes hin]
    obtain ⟨j, hj⟩ : ∃ j : Nat, k = (j : Int) := ⟨k.toNat, by omega⟩
    subst hj
    have hjn : j < c.tree.length := by omega
    obtain ⟨g, off, rfl, hg, hc⟩ := HVC.out j hjn
    have hvw : W.cell? ⟨g, off + j * 7 + 1, none⟩ = some (.int .i64 V) := by rw [HW.out.1.cell (by exact hg), hc, HV.out]; unfold lieView; rw [if_pos hin]
    have q0 : (0 : Int) ≤ (j : Int) := by omega
    have q1 : (j : Int) < (c.tree.length : Int) := by omega
    clear hin hc hg
    go_wp2_with (first
      | (refine wpList_store_blk rfl _ _ _ rfl W.heap.size #[.int .i64 ph, .int .i64 V, .int .i64 (j : Int), .int .i64 i] rfl rfl 33 #[.int .i64 0, .int .i64 0, .int .i64 0, .int .i64 0] (heap_alloc_new W _) (by kernel_rfl) rfl (by simp [Value.oneCell']) ?_; intro y hg hk hz; have hby : Below W.heap.size W y := made_below hg; have HY : Hid (Below w.heap.size w y ∧ y.heap[w.heap.size + 1]? = some (.cells (letA ((0, 0, 0, 0, 0), (0, 0, 0, 0), (0, 0, 0, 0))) 35 (0, 0)) ∧ y.heap[W.heap.size]? = some (.cells #[.int .i64 ph, .int .i64 V, .int .i64 (j : Int), .int .i64 i] 33 (0, 0))) := ⟨bt HW.out.1 hby, (hby.block _ (Array.getElem?_eq_some_iff.1 HW.out.2.2).1).trans HW.out.2.2, hk⟩; clear hg hk hz hby)
      | (refine wpList_load_row rfl _ _ rfl W.heap.size rfl 33 _ (0, 0) _ HY.out.2.2 Try.underlying33 rfl (by kernel_rfl) ?_)
      | (refine wpList_store_blk rfl _ _ _ rfl (w.heap.size + 1) (letA LL) rfl (by rw [HLL.out]; rfl) 35 (letA ((0, 0, 0, 0, 0), (0, 0, 0, 0), (0, 0, 0, 0))) HY.out.2.1 (by kernel_rfl) rfl (letA_one _) ?_; intro z hg hk hz; have HZ : Hid (z.heap[w.heap.size + 1]? = some (.cells (letA LL) 35 (0, 0)) ∧ Below w.heap.size w z) := ⟨hk, HY.out.1.grown hg HY.out.1.size (fun k e => by cases e; omega)⟩; clear hg hk hz))
    refine bodyPost_ret (v := .agg (letA LL)) (results_cell_row Try.results5 _ _ (w.heap.size + 1) 35 _ (0, 0) _ rfl HZ.out.1 Try.underlying35 rfl (by kernel_rfl)) rfl ?_
    exact ⟨rfl, HZ.out.2⟩
  · rw [inB_no hin]
    have hV0 : V = 0 := by rw [HV.out]; exact if_neg hin
    subst hV0
    clear hin
    go_wp2_with (first
      | (refine wpList_store_blk rfl _ _ _ rfl W.heap.size #[.int .i64 ph, .int .i64 0, .int .i64 k, .int .i64 i] rfl rfl 33 #[.int .i64 0, .int .i64 0, .int .i64 0, .int .i64 0] (heap_alloc_new W _) (by kernel_rfl) rfl (by simp [Value.oneCell']) ?_; intro y hg hk hz; have hby : Below W.heap.size W y := made_below hg; have HY : Hid (Below w.heap.size w y ∧ y.heap[w.heap.size + 1]? = some (.cells (letA ((0, 0, 0, 0, 0), (0, 0, 0, 0), (0, 0, 0, 0))) 35 (0, 0)) ∧ y.heap[W.heap.size]? = some (.cells #[.int .i64 ph, .int .i64 0, .int .i64 k, .int .i64 i] 33 (0, 0))) := ⟨bt HW.out.1 hby, (hby.block _ (Array.getElem?_eq_some_iff.1 HW.out.2.2).1).trans HW.out.2.2, hk⟩; clear hg hk hz hby)
      | (refine wpList_load_row rfl _ _ rfl W.heap.size rfl 33 _ (0, 0) _ HY.out.2.2 Try.underlying33 rfl (by kernel_rfl) ?_)
      | (refine wpList_store_blk rfl _ _ _ rfl (w.heap.size + 1) (letA LL) rfl (by rw [HLL.out]; rfl) 35 (letA ((0, 0, 0, 0, 0), (0, 0, 0, 0), (0, 0, 0, 0))) HY.out.2.1 (by kernel_rfl) rfl (letA_one _) ?_; intro z hg hk hz; have HZ : Hid (z.heap[w.heap.size + 1]? = some (.cells (letA LL) 35 (0, 0)) ∧ Below w.heap.size w z) := ⟨hk, HY.out.1.grown hg HY.out.1.size (fun k e => by cases e; omega)⟩; clear hg hk hz))
    refine bodyPost_ret (v := .agg (letA LL)) (results_cell_row Try.results5 _ _ (w.heap.size + 1) 35 _ (0, 0) _ rfl HZ.out.1 Try.underlying35 rfl (by kernel_rfl)) rfl ?_
    exact ⟨rfl, HZ.out.2⟩

end Go.Proofs.Ytcfgfhodbjakoav
