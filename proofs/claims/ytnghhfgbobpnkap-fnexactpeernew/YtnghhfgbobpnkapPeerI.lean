/-
  The contract of the program's PeerNew.
-/
import Derived.Test.YtnghhfgbobpnkapWFnExactPeerNew
namespace Go.Proofs.Ytnghhfgbobpnkap
open Go.RowKit Num

set_option maxRecDepth 100000 in
theorem peerNew_i : WFnExactPeerNew.Prg := by
  intro id w
  go_enter Try.func6, Try.ntmps6
  go_wp2_with (refine wpList_store_blk rfl _ _ _ rfl w.heap.size (peerA (newP id) nilS) rfl rfl 32 zeroA (heap_alloc_new w _) (by kernel_rfl) rfl (peerA_one (nil_own w.heap.size w id).1) ?_; intro w1 g1 k1 z1; have HB : Hid (Below w.heap.size w w1) := (ba (Below.refl _ _) _).grown g1 (by simp) (fun y hy => by cases hy; exact Nat.le_refl _); have HK : Hid (w1.heap[w.heap.size]? = Option.some (.cells (peerA (newP id) nilS) 32 (0, 0))) := k1; clear g1 k1 z1)
  refine bodyPost_ret (v := .agg (peerA (newP id) nilS)) (results_cell_row Try.results6 _ _ w.heap.size 32 _ (0, 0) _ rfl HK.out Try.underlying32 rfl (by kernel_rfl)) rfl ?_
  exact ⟨nilS, rfl, nil_own _ _ _, HB.out⟩

end Go.Proofs.Ytnghhfgbobpnkap
