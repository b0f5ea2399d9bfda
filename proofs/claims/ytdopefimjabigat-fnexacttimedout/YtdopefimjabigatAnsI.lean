/-
  A letter of a replica: the contract of the program's Answered. (Made by gai11.py.)
-/
import Derived.Test.YtdopefimjabigatAnsS
namespace Go.Proofs.Ytdopefimjabigat
open Go.RowKit Num

set_option maxRecDepth 100000 in
set_option maxHeartbeats 4000000 in
theorem answeredR_i (p : PE) (s : PV) (kind tw : Int) (q : QC) (v : VT) (w : World) :
    Calls Try.prog 31 #[peerV p s, .int .i64 kind, .int .i64 tw, .agg #[.int .i64 q.1, .int .i64 q.2.1, .int .i64 q.2.2.1, .int .i64 q.2.2.2], .agg #[.int .i64 v.1, .int .i64 v.2.1, .int .i64 v.2.2.1, .int .i64 v.2.2.2]] w fun e w' => e = .returned (letV (answerT p kind tw q v)) ∧ Below w.heap.size w w' := by
  obtain ⟨q0, q1, q2, q3⟩ := q
  obtain ⟨v0, v1, v2, v3⟩ := v
  simp only
  obtain ⟨W, hW⟩ : ∃ W, W = (((w.alloc (.cells (peerA p s) 41)).alloc (.cells #[.int .i64 q0, .int .i64 q1, .int .i64 q2, .int .i64 q3] 34)).alloc (.cells #[.int .i64 v0, .int .i64 v1, .int .i64 v2, .int .i64 v3] 35)).alloc (.cells (letA ((0, 0, 0, 0, 0), (0, 0, 0, 0), (0, 0, 0, 0))) 43) := ⟨_, rfl⟩
  have HC : Hid (Below w.heap.size w W ∧ W.heap[w.heap.size]? = some (.cells (peerA p s) 41 (0, 0)) ∧ W.heap[w.heap.size + 1]? = some (.cells #[.int .i64 q0, .int .i64 q1, .int .i64 q2, .int .i64 q3] 34 (0, 0)) ∧ W.heap[w.heap.size + 1 + 1]? = some (.cells #[.int .i64 v0, .int .i64 v1, .int .i64 v2, .int .i64 v3] 35 (0, 0)) ∧ W.heap[w.heap.size + 1 + 1 + 1]? = some (.cells (letA ((0, 0, 0, 0, 0), (0, 0, 0, 0), (0, 0, 0, 0))) 43 (0, 0))) := by
    rw [hW]; exact ⟨ba (ba (ba (ba (Below.refl _ _) _) _) _) _, alloc4 w _ _ _ _⟩
  have c0 := blk_cell HC.out.2.1 0 (.int .i64 p.id) rfl
  have c1 := blk_cell HC.out.2.1 1 (.int .i64 p.view) rfl
  have c2 := blk_cell HC.out.2.2.2.1 1 (.int .i64 v1) rfl
  unfold letA at hW
  simp only at hW
  by_cases hk : kind = 2
  · have HE : Hid (answerT p kind tw (q0, q1, q2, q3) (v0, v1, v2, v3) = ((kind, p.id, tw, v1, 0), (0, 0, 0, 0), (v0, v1, v2, v3))) := (by unfold answerT; rw [if_pos hk] : answerT p kind tw (q0, q1, q2, q3) (v0, v1, v2, v3) = _)
    have b2 : (kind == 2) = true := by simpa using hk
    clear hk
    go_enter Try.func31, Try.ntmps31
    go_wp2_with (first
      | (rw [← hW]; clear hW)
      | (refine wpList_load_row rfl _ _ rfl (w.heap.size + 1 + 1) rfl 35 _ (0, 0) _ HC.out.2.2.2.1 Try.underlying35 rfl (by kernel_rfl) ?_)
      | (refine wpList_store_blk rfl _ _ _ rfl (w.heap.size + 1 + 1 + 1) (letA (((kind, p.id, tw, v1, 0), (0, 0, 0, 0), (v0, v1, v2, v3)))) rfl rfl 43 (letA ((0, 0, 0, 0, 0), (0, 0, 0, 0), (0, 0, 0, 0))) HC.out.2.2.2.2 (by kernel_rfl) rfl (letA_one _) ?_; intro z hg hk hz; have HZ : Hid (Below w.heap.size w z ∧ z.heap[w.heap.size + 1 + 1 + 1]? = Option.some (.cells (letA (((kind, p.id, tw, v1, 0), (0, 0, 0, 0), (v0, v1, v2, v3)))) 43 (0, 0))) := ⟨HC.out.1.grown hg HC.out.1.size (fun k hk => by cases hk; omega), hk⟩; clear hg hk hz HC c0 c1 c2))
    refine bodyPost_ret (v := .agg (letA (((kind, p.id, tw, v1, 0), (0, 0, 0, 0), (v0, v1, v2, v3))))) (results_cell_row Try.results31 _ _ (w.heap.size + 1 + 1 + 1) 43 _ (0, 0) _ rfl HZ.out.2 Try.underlying43 rfl (by kernel_rfl)) rfl ?_
    exact ⟨by rw [HE.out]; rfl, HZ.out.1⟩
  · have HE : Hid (answerT p kind tw (q0, q1, q2, q3) (v0, v1, v2, v3) = ((kind, p.id, tw, p.view, 0), (q0, q1, q2, q3), (0, 0, 0, 0))) := (by unfold answerT; rw [if_neg hk] : answerT p kind tw (q0, q1, q2, q3) (v0, v1, v2, v3) = _)
    have b2 : (kind == 2) = false := by simpa using hk
    clear hk
    go_enter Try.func31, Try.ntmps31
    go_wp2_with (first
      | (rw [← hW]; clear hW)
      | (refine wpList_load_row rfl _ _ rfl (w.heap.size + 1) rfl 34 _ (0, 0) _ HC.out.2.2.1 Try.underlying34 rfl (by kernel_rfl) ?_)
      | (refine wpList_store_blk rfl _ _ _ rfl (w.heap.size + 1 + 1 + 1) (letA (((kind, p.id, tw, p.view, 0), (q0, q1, q2, q3), (0, 0, 0, 0)))) rfl rfl 43 (letA ((0, 0, 0, 0, 0), (0, 0, 0, 0), (0, 0, 0, 0))) HC.out.2.2.2.2 (by kernel_rfl) rfl (letA_one _) ?_; intro z hg hk hz; have HZ : Hid (Below w.heap.size w z ∧ z.heap[w.heap.size + 1 + 1 + 1]? = Option.some (.cells (letA (((kind, p.id, tw, p.view, 0), (q0, q1, q2, q3), (0, 0, 0, 0)))) 43 (0, 0))) := ⟨HC.out.1.grown hg HC.out.1.size (fun k hk => by cases hk; omega), hk⟩; clear hg hk hz HC c0 c1 c2))
    refine bodyPost_ret (v := .agg (letA (((kind, p.id, tw, p.view, 0), (q0, q1, q2, q3), (0, 0, 0, 0))))) (results_cell_row Try.results31 _ _ (w.heap.size + 1 + 1 + 1) 43 _ (0, 0) _ rfl HZ.out.2 Try.underlying43 rfl (by kernel_rfl)) rfl ?_
    exact ⟨by rw [HE.out]; rfl, HZ.out.1⟩

end Go.Proofs.Ytdopefimjabigat
