/-
  What a replica may vote for: the contracts of the specification's MayVote, Entered, Voted.
-/
import Derived.Test.YtcfgfhodbjakoavPeerC
import Derived.Test.YtcfgfhodbjakoavPeerD
namespace Go.Proofs.Ytcfgfhodbjakoav
open Go.RowKit Num

/-- whether it may give a vote of this Phase and View -/
def mayB (p : PE) (phase view : Int) : Bool := decide (p.last.2.1 < view) || (decide (p.last.2.1 = view) && decide (p.last.1 < phase))
/-- .. in a View of its own -/
def enterP (p : PE) (view : Int) : PE := if view > p.view ∧ view ≤ 900 then { p with view := view, votes := [], news := [] } else p
/-- .. that gave a vote -/
def votedP (p : PE) (phase view block : Int) : PE := { p with last := (phase, view, block, p.id) }
theorem voted_small {p : PE} (h : smallPe p) (phase view block : Int) : smallPe (votedP p phase view block) := ⟨h.row, h.cells, h.early, h.undos, h.votes, h.news, h.kcells, h.kundos⟩
theorem enter_small {p : PE} (h : smallPe p) (view : Int) : smallPe (enterP p view) := by
  unfold enterP
  split
  · exact ⟨h.row, h.cells, h.early, h.undos, by simp, by simp, h.kcells, h.kundos⟩
  · exact h
theorem enter_len (p : PE) (view : Int) : lenPe (enterP p view) ≤ lenPe p := by
  unfold enterP
  split
  · unfold lenPe; simp; omega
  · exact Nat.le_refl _

theorem enter_sum {p : PE} (h : sumPe p) (view : Int) : sumPe (enterP p view) := by
  have hl := enter_len p view
  unfold enterP at hl ⊢
  split
  · rename_i hc
    rw [if_pos hc] at hl
    exact ⟨Nat.le_trans hl h.1, h.2.1, h.2.2.1, h.2.2.2.1, h.2.2.2.2.1, by simp, by simp⟩
  · exact h


/-- three boxes: of the one that came in, of the answer, and one more -/
structure Bx3 (w y : World) (N : Nat) (A Z O : Array Value) : Prop where
  below : Below w.heap.size w y
  box : y.heap[w.heap.size]? = some (.cells A 87 (0, 0))
  zero : y.heap[w.heap.size + 1]? = some (.cells Z 87 (0, 0))
  out : y.heap[N]? = some (.cells O 87 (0, 0))
  far : w.heap.size + 1 < N
theorem Bx3.lt {w y : World} {N : Nat} {A Z O : Array Value} (h : Bx3 w y N A Z O) : N < y.heap.size := (Array.getElem?_eq_some_iff.1 h.out).1
theorem Bx3.more {w y x : World} {N : Nat} {A Z O : Array Value} (h : Bx3 w y N A Z O) (hb : Below y.heap.size y x) : Bx3 w x N A Z O := by
  have := h.lt
  have := h.far
  exact ⟨bt h.below hb, (hb.block _ (by omega)).trans h.box, (hb.block _ (by omega)).trans h.zero, (hb.block _ (by omega)).trans h.out, h.far⟩
theorem Bx3.put {w y x : World} {N : Nat} {A Z O O' : Array Value} (h : Bx3 w y N A Z O) (hg : y.grownBy x (some N)) (hk : x.heap[N]? = some (.cells O' 87 (0, 0))) : Bx3 w x N A Z O' := by
  have := h.lt
  have := h.far
  exact ⟨h.below.grown hg h.below.size (fun k hk => by cases hk; omega), (hg.block _ (by omega) (fun e => by have := Option.some.inj e; omega)).trans h.box, (hg.block _ (by omega) (fun e => by have := Option.some.inj e; omega)).trans h.zero, hk, h.far⟩


end Go.Proofs.Ytcfgfhodbjakoav
