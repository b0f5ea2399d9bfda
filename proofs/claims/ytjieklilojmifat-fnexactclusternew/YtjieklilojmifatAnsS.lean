/-
  A letter of a replica: the contract of the specification's Answered. (Made by gas11.py.)
-/
import Derived.Test.YtjieklilojmifatSafeS
namespace Go.Proofs.Ytjieklilojmifat
open Go.RowKit Num

/-- a letter's cells -/
def letA (l : LT) : Array Value := #[.int .i64 l.1.1, .int .i64 l.1.2.1, .int .i64 l.1.2.2.1, .int .i64 l.1.2.2.2.1, .int .i64 l.1.2.2.2.2, .int .i64 l.2.1.1, .int .i64 l.2.1.2.1, .int .i64 l.2.1.2.2.1, .int .i64 l.2.1.2.2.2, .int .i64 l.2.2.1, .int .i64 l.2.2.2.1, .int .i64 l.2.2.2.2.1, .int .i64 l.2.2.2.2.2]
theorem letA_one (l : LT) : (letA l).all (·.oneCell') = true := by simp [letA, Value.oneCell']
/-- a letter of a replica, of its View: with what enough signed, or with its vote alone -/
def answerT (p : PE) (kind to : Int) (q : QC) (v : VT) : LT := if kind = 2 then ((kind, p.id, to, v.2.1, 0), (0, 0, 0, 0), v) else ((kind, p.id, to, p.view, 0), q, (0, 0, 0, 0))
theorem alloc4 (w : World) (A B C D : Obj) : ((((w.alloc A).alloc B).alloc C).alloc D).heap[w.heap.size]? = some A ∧ ((((w.alloc A).alloc B).alloc C).alloc D).heap[w.heap.size + 1]? = some B ∧ ((((w.alloc A).alloc B).alloc C).alloc D).heap[w.heap.size + 1 + 1]? = some C ∧ ((((w.alloc A).alloc B).alloc C).alloc D).heap[w.heap.size + 1 + 1 + 1]? = some D := by
  have h := alloc3 w A B C
  have hb : Below (((w.alloc A).alloc B).alloc C).heap.size (((w.alloc A).alloc B).alloc C) ((((w.alloc A).alloc B).alloc C).alloc D) := (Below.refl _ _).alloc (Nat.le_refl _) D
  refine ⟨(hb.block _ (by simp; omega)).trans h.1, (hb.block _ (by simp)).trans h.2.1, (hb.block _ (by simp)).trans h.2.2, ?_⟩
  have := heap_alloc_new (((w.alloc A).alloc B).alloc C) D
  simpa using this
/-- the boxes of Qc, vote and answer, and of the letter -/
structure AnsB (w y : World) (N : Nat) (Q V L : Array Value) : Prop where
  below : Below w.heap.size w y
  qc : y.heap[w.heap.size + 1]? = some (.cells Q 34 (0, 0))
  vote : y.heap[w.heap.size + 1 + 1]? = some (.cells V 35 (0, 0))
  zero : y.heap[w.heap.size + 1 + 1 + 1]? = some (.cells (letA ((0, 0, 0, 0, 0), (0, 0, 0, 0), (0, 0, 0, 0))) 43 (0, 0))
  letter : y.heap[N]? = some (.cells L 43 (0, 0))
  far : w.heap.size + 1 + 1 + 1 < N
theorem AnsB.put {w y x : World} {N : Nat} {Q V L L' : Array Value} (h : AnsB w y N Q V L) (hg : y.grownBy x (some N)) (hk : x.heap[N]? = some (.cells L' 43 (0, 0))) : AnsB w x N Q V L' := by
  have := h.far
  have h1 := (Array.getElem?_eq_some_iff.1 h.letter).1
  exact ⟨h.below.grown hg h.below.size (fun k hk => by cases hk; omega), (hg.block _ (by omega) (fun e => by have := Option.some.inj e; omega)).trans h.qc, (hg.block _ (by omega) (fun e => by have := Option.some.inj e; omega)).trans h.vote, (hg.block _ (by omega) (fun e => by have := Option.some.inj e; omega)).trans h.zero, hk, h.far⟩

set_option maxRecDepth 100000 in
set_option maxHeartbeats 4000000 in
theorem answered_s (p : PE) (s : PV) (kind to : Int) (q : QC) (v : VT) (w : World) :
    Calls Try.prog 26 #[peerV p s, .int .i64 kind, .int .i64 to, .agg #[.int .i64 q.1, .int .i64 q.2.1, .int .i64 q.2.2.1, .int .i64 q.2.2.2], .agg #[.int .i64 v.1, .int .i64 v.2.1, .int .i64 v.2.2.1, .int .i64 v.2.2.2]] w fun e w' => e = .returned (letV (answerT p kind to q v)) ∧ Below w.heap.size w w' := by
  obtain ⟨q0, q1, q2, q3⟩ := q
  obtain ⟨v0, v1, v2, v3⟩ := v
  simp only
  obtain ⟨W, hW⟩ : ∃ W, W = (((w.alloc (.cells (peerA p s) 41)).alloc (.cells #[.int .i64 q0, .int .i64 q1, .int .i64 q2, .int .i64 q3] 34)).alloc (.cells #[.int .i64 v0, .int .i64 v1, .int .i64 v2, .int .i64 v3] 35)).alloc (.cells (letA ((0, 0, 0, 0, 0), (0, 0, 0, 0), (0, 0, 0, 0))) 43) := ⟨_, rfl⟩
  have HC : Hid (Below w.heap.size w W ∧ W.heap[w.heap.size]? = some (.cells (peerA p s) 41 (0, 0)) ∧ W.heap[w.heap.size + 1]? = some (.cells #[.int .i64 q0, .int .i64 q1, .int .i64 q2, .int .i64 q3] 34 (0, 0)) ∧ W.heap[w.heap.size + 1 + 1]? = some (.cells #[.int .i64 v0, .int .i64 v1, .int .i64 v2, .int .i64 v3] 35 (0, 0)) ∧ W.heap[w.heap.size + 1 + 1 + 1]? = some (.cells (letA ((0, 0, 0, 0, 0), (0, 0, 0, 0), (0, 0, 0, 0))) 43 (0, 0))) := by
    rw [hW]; exact ⟨ba (ba (ba (ba (Below.refl _ _) _) _) _) _, alloc4 w _ _ _ _⟩
  have HWS : Hid (W.heap.size = w.heap.size + 1 + 1 + 1 + 1) := (by rw [hW]; simp : W.heap.size = w.heap.size + 1 + 1 + 1 + 1)
  have c0 := blk_cell HC.out.2.1 0 (.int .i64 p.id) rfl
  have c1 := blk_cell HC.out.2.1 1 (.int .i64 p.view) rfl
  unfold letA at hW
  simp only at hW
  by_cases hk : kind = 2
  · have HE : Hid (answerT p kind to (q0, q1, q2, q3) (v0, v1, v2, v3) = ((kind, p.id, to, v1, 0), (0, 0, 0, 0), (v0, v1, v2, v3))) := (by unfold answerT; rw [if_pos hk] : answerT p kind to (q0, q1, q2, q3) (v0, v1, v2, v3) = _)
    have b2 : (kind == 2) = true := by simpa using hk
    clear hk
    go_enter Try.func26, Try.ntmps26
    go_wp2_with (first
      | (refine wpList_store_blk rfl _ _ _ rfl W.heap.size (letA (((kind, p.id, to, p.view, 0), (0, 0, 0, 0), (0, 0, 0, 0)))) rfl rfl 43 (letA ((0, 0, 0, 0, 0), (0, 0, 0, 0), (0, 0, 0, 0))) (heap_alloc_new W _) (by kernel_rfl) rfl (letA_one _) ?_; intro y1 hg hk hz; have hb : Below W.heap.size W y1 := made_below hg; have HY1 : Hid (AnsB w y1 W.heap.size #[.int .i64 q0, .int .i64 q1, .int .i64 q2, .int .i64 q3] #[.int .i64 v0, .int .i64 v1, .int .i64 v2, .int .i64 v3] (letA (((kind, p.id, to, p.view, 0), (0, 0, 0, 0), (0, 0, 0, 0))))) := ⟨bt HC.out.1 hb, (hb.block _ (Array.getElem?_eq_some_iff.1 HC.out.2.2.1).1).trans HC.out.2.2.1, (hb.block _ (Array.getElem?_eq_some_iff.1 HC.out.2.2.2.1).1).trans HC.out.2.2.2.1, (hb.block _ (Array.getElem?_eq_some_iff.1 HC.out.2.2.2.2).1).trans HC.out.2.2.2.2, hk, (by have := HWS.out; omega)⟩; clear hg hk hz hb c0 c1; have c1 := blk_cell HY1.out.vote 1 (.int .i64 v1) rfl)
      | (rw [← hW]; clear hW)
      | (refine wpList_load_row rfl _ _ rfl (w.heap.size + 1 + 1) rfl 35 _ (0, 0) _ HY1.out.vote Try.underlying35 rfl (by kernel_rfl) ?_)
      | (refine wpList_store_part rfl _ _ _ rfl W.heap.size 9 #[.int .i64 v0, .int .i64 v1, .int .i64 v2, .int .i64 v3] rfl rfl _ _ HY1.out.letter (by kernel_rfl) (by simp [letA]) (by simp [Value.oneCell']) (letA (((kind, p.id, to, p.view, 0), (0, 0, 0, 0), (v0, v1, v2, v3)))) rfl ?_; intro y2 hg hk; have HY2 : Hid (AnsB w y2 W.heap.size #[.int .i64 q0, .int .i64 q1, .int .i64 q2, .int .i64 q3] #[.int .i64 v0, .int .i64 v1, .int .i64 v2, .int .i64 v3] (letA (((kind, p.id, to, p.view, 0), (0, 0, 0, 0), (v0, v1, v2, v3))))) := HY1.out.put hg hk; clear hg hk HY1; clear c1; have c1 := blk_cell HY2.out.vote 1 (.int .i64 v1) rfl)
      | (refine wpList_store_cell rfl _ _ _ rfl W.heap.size 3 (.int .i64 v1) rfl rfl _ _ HY2.out.letter (by kernel_rfl) (by simp [letA]) rfl (letA (((kind, p.id, to, v1, 0), (0, 0, 0, 0), (v0, v1, v2, v3)))) rfl ?_; intro y3 hg hk; have HY3 : Hid (AnsB w y3 W.heap.size #[.int .i64 q0, .int .i64 q1, .int .i64 q2, .int .i64 q3] #[.int .i64 v0, .int .i64 v1, .int .i64 v2, .int .i64 v3] (letA (((kind, p.id, to, v1, 0), (0, 0, 0, 0), (v0, v1, v2, v3))))) := HY2.out.put hg hk; clear hg hk HY2 c1)
      | (refine wpList_load_row rfl _ _ rfl W.heap.size rfl 43 _ (0, 0) _ HY3.out.letter Try.underlying43 rfl (by kernel_rfl) ?_)
      | (refine wpList_store_blk rfl _ _ _ rfl (w.heap.size + 1 + 1 + 1) (letA (((kind, p.id, to, v1, 0), (0, 0, 0, 0), (v0, v1, v2, v3)))) rfl rfl 43 (letA ((0, 0, 0, 0, 0), (0, 0, 0, 0), (0, 0, 0, 0))) HY3.out.zero (by kernel_rfl) rfl (letA_one _) ?_; intro z hg hk hz; have HZ : Hid (Below w.heap.size w z ∧ z.heap[w.heap.size + 1 + 1 + 1]? = Option.some (.cells (letA (((kind, p.id, to, v1, 0), (0, 0, 0, 0), (v0, v1, v2, v3)))) 43 (0, 0))) := ⟨HY3.out.below.grown hg HY3.out.below.size (fun k hk => by cases hk; omega), hk⟩; clear hg hk hz HY3))
    refine bodyPost_ret (v := .agg (letA (((kind, p.id, to, v1, 0), (0, 0, 0, 0), (v0, v1, v2, v3))))) (results_cell_row Try.results26 _ _ (w.heap.size + 1 + 1 + 1) 43 _ (0, 0) _ rfl HZ.out.2 Try.underlying43 rfl (by kernel_rfl)) rfl ?_
    exact ⟨by rw [HE.out]; rfl, HZ.out.1⟩
  · have HE : Hid (answerT p kind to (q0, q1, q2, q3) (v0, v1, v2, v3) = ((kind, p.id, to, p.view, 0), (q0, q1, q2, q3), (0, 0, 0, 0))) := (by unfold answerT; rw [if_neg hk] : answerT p kind to (q0, q1, q2, q3) (v0, v1, v2, v3) = _)
    have b2 : (kind == 2) = false := by simpa using hk
    clear hk
    go_enter Try.func26, Try.ntmps26
    go_wp2_with (first
      | (refine wpList_store_blk rfl _ _ _ rfl W.heap.size (letA (((kind, p.id, to, p.view, 0), (0, 0, 0, 0), (0, 0, 0, 0)))) rfl rfl 43 (letA ((0, 0, 0, 0, 0), (0, 0, 0, 0), (0, 0, 0, 0))) (heap_alloc_new W _) (by kernel_rfl) rfl (letA_one _) ?_; intro y1 hg hk hz; have hb : Below W.heap.size W y1 := made_below hg; have HY1 : Hid (AnsB w y1 W.heap.size #[.int .i64 q0, .int .i64 q1, .int .i64 q2, .int .i64 q3] #[.int .i64 v0, .int .i64 v1, .int .i64 v2, .int .i64 v3] (letA (((kind, p.id, to, p.view, 0), (0, 0, 0, 0), (0, 0, 0, 0))))) := ⟨bt HC.out.1 hb, (hb.block _ (Array.getElem?_eq_some_iff.1 HC.out.2.2.1).1).trans HC.out.2.2.1, (hb.block _ (Array.getElem?_eq_some_iff.1 HC.out.2.2.2.1).1).trans HC.out.2.2.2.1, (hb.block _ (Array.getElem?_eq_some_iff.1 HC.out.2.2.2.2).1).trans HC.out.2.2.2.2, hk, (by have := HWS.out; omega)⟩; clear hg hk hz hb c0 c1; have c1 := blk_cell HY1.out.vote 1 (.int .i64 v1) rfl)
      | (rw [← hW]; clear hW)
      | (refine wpList_load_row rfl _ _ rfl (w.heap.size + 1) rfl 34 _ (0, 0) _ HY1.out.qc Try.underlying34 rfl (by kernel_rfl) ?_)
      | (refine wpList_store_part rfl _ _ _ rfl W.heap.size 5 #[.int .i64 q0, .int .i64 q1, .int .i64 q2, .int .i64 q3] rfl rfl _ _ HY1.out.letter (by kernel_rfl) (by simp [letA]) (by simp [Value.oneCell']) (letA (((kind, p.id, to, p.view, 0), (q0, q1, q2, q3), (0, 0, 0, 0)))) rfl ?_; intro y2 hg hk; have HY2 : Hid (AnsB w y2 W.heap.size #[.int .i64 q0, .int .i64 q1, .int .i64 q2, .int .i64 q3] #[.int .i64 v0, .int .i64 v1, .int .i64 v2, .int .i64 v3] (letA (((kind, p.id, to, p.view, 0), (q0, q1, q2, q3), (0, 0, 0, 0))))) := HY1.out.put hg hk; clear hg hk HY1)
      | (refine wpList_load_row rfl _ _ rfl W.heap.size rfl 43 _ (0, 0) _ HY2.out.letter Try.underlying43 rfl (by kernel_rfl) ?_)
      | (refine wpList_store_blk rfl _ _ _ rfl (w.heap.size + 1 + 1 + 1) (letA (((kind, p.id, to, p.view, 0), (q0, q1, q2, q3), (0, 0, 0, 0)))) rfl rfl 43 (letA ((0, 0, 0, 0, 0), (0, 0, 0, 0), (0, 0, 0, 0))) HY2.out.zero (by kernel_rfl) rfl (letA_one _) ?_; intro z hg hk hz; have HZ : Hid (Below w.heap.size w z ∧ z.heap[w.heap.size + 1 + 1 + 1]? = Option.some (.cells (letA (((kind, p.id, to, p.view, 0), (q0, q1, q2, q3), (0, 0, 0, 0)))) 43 (0, 0))) := ⟨HY2.out.below.grown hg HY2.out.below.size (fun k hk => by cases hk; omega), hk⟩; clear hg hk hz HY2))
    refine bodyPost_ret (v := .agg (letA (((kind, p.id, to, p.view, 0), (q0, q1, q2, q3), (0, 0, 0, 0))))) (results_cell_row Try.results26 _ _ (w.heap.size + 1 + 1 + 1) 43 _ (0, 0) _ rfl HZ.out.2 Try.underlying43 rfl (by kernel_rfl)) rfl ?_
    exact ⟨by rw [HE.out]; rfl, HZ.out.1⟩

end Go.Proofs.Ytjieklilojmifat
