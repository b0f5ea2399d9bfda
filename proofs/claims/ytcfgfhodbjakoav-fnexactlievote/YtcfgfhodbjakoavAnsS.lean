/-
  A letter of a replica: the contract of the specification's Answered. (Made by gas11.py.)
-/
import Derived.Test.YtcfgfhodbjakoavSafeS
namespace Go.Proofs.Ytcfgfhodbjakoav
open Go.RowKit Num

/-- a letter's cells -/
def letA (l : LT) : Array Value := #[.int .i64 l.1.1, .int .i64 l.1.2.1, .int .i64 l.1.2.2.1, .int .i64 l.1.2.2.2.1, .int .i64 l.1.2.2.2.2, .int .i64 l.2.1.1, .int .i64 l.2.1.2.1, .int .i64 l.2.1.2.2.1, .int .i64 l.2.1.2.2.2, .int .i64 l.2.2.1, .int .i64 l.2.2.2.1, .int .i64 l.2.2.2.2.1, .int .i64 l.2.2.2.2.2]
theorem letA_one (l : LT) : (letA l).all (·.oneCell') = true := by simp [letA, Value.oneCell']
/-- a letter of a replica, of its View: with what enough signed, or with its vote alone -/
def answerT (p : PE) (kind to : Int) (q : QC) (v : VT) : LT := if kind = 2 then ((kind, p.id, to, v.2.1, 0), (0, 0, 0, 0), v) else ((kind, p.id, to, p.view, 0), q, (0, 0, 0, 0))
theorem alloc4 (w : World) (A B C D : Obj) : ((((w.alloc A).alloc B).alloc C).alloc D).heap[w.heap.size]? = some A ∧ ((((w.alloc A).alloc B).alloc C).alloc D).heap[w.heap.size + 1]? = some B ∧ ((((w.alloc A).alloc B).alloc C).alloc D).heap[w.heap.size + 1 + 1]? = some C ∧ ((((w.alloc A).alloc B).alloc C).alloc D).heap[w.heap.size + 1 + 1 + 1]? = some D := by
  have h := alloc3 w A B C
  have hb : Below (((w.alloc A).alloc B).alloc C).heap.size (((w.alloc A).alloc B).alloc C) ((((w.alloc A).alloc B).alloc C).alloc D) := (Below.refl _ _).alloc (Nat.le_refl _) D
  refine ⟨(hb.block _ (by simp; omega)).trans h.1, (hb.block _ (by simp)).trans h.2.1, (hb.block _ (by simp)).trans h.2.2, ?_⟩
  have := heap_alloc_new (((w.alloc A).alloc B).alloc C) D
  simpa using this
/-- the boxes of Qc, vote and answer, and of the letter -/
structure AnsB (w y : World) (N : Nat) (Q V L : Array Value) : Prop where
  below : Below w.heap.size w y
  qc : y.heap[w.heap.size + 1]? = some (.cells Q 31 (0, 0))
  vote : y.heap[w.heap.size + 1 + 1]? = some (.cells V 33 (0, 0))
  zero : y.heap[w.heap.size + 1 + 1 + 1]? = some (.cells (letA ((0, 0, 0, 0, 0), (0, 0, 0, 0), (0, 0, 0, 0))) 35 (0, 0))
  letter : y.heap[N]? = some (.cells L 35 (0, 0))
  far : w.heap.size + 1 + 1 + 1 < N
theorem AnsB.put {w y x : World} {N : Nat} {Q V L L' : Array Value} (h : AnsB w y N Q V L) (hg : y.grownBy x (some N)) (hk : x.heap[N]? = some (.cells L' 35 (0, 0))) : AnsB w x N Q V L' := by
  have := h.far
  have h1 := (Array.getElem?_eq_some_iff.1 h.letter).1
  exact ⟨h.below.grown hg h.below.size (fun k hk => by cases hk; omega), (hg.block _ (by omega) (fun e => by have := Option.some.inj e; omega)).trans h.qc, (hg.block _ (by omega) (fun e => by have := Option.some.inj e; omega)).trans h.vote, (hg.block _ (by omega) (fun e => by have := Option.some.inj e; omega)).trans h.zero, hk, h.far⟩


end Go.Proofs.Ytcfgfhodbjakoav
