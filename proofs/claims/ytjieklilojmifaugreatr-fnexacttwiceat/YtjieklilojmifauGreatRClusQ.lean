/-
  A command offered: the contract of the specification's Offer. (Made by gof15.py.)
-/
import Derived.Test.YtjieklilojmifauGreatRClusH
import Derived.Test.YtjieklilojmifauGreatRJ2
namespace Go.Proofs.YtjieklilojmifauGreatR
open Go.RowKit Num

/-- other commands that wait -/
theorem OwnC.setPend {lo hi hi' : Nat} {w w' : World} {c : CU} {s : CW} {v : Value} {l : List CM} (h : OwnC lo hi w c s) (hg : w.grownBy w' s.pend.ownBlock) (hh : hi ≤ hi') (hs : hi' ≤ w'.heap.size) (ho : w'.ownsRow lo 111 3 v l.length (flatR cmdF l)) (hv : ∀ g, v.ownBlock = some g → s.pend.ownBlock = some g ∨ (hi ≤ g ∧ g < hi')) (hlo : lo ≤ hi) : OwnC lo hi' w' { c with pend := l } { s with pend := v } := by
  have hf : FrS (partC s 4) w w' := FrS.of_grown hg (fun g e => e)
  have kp : ∀ i g, i < 4 → partC s i g → ¬ partC s 4 g := fun i g hi4 hp hq => by have := h.dis i 4 g (by omega) (by omega) hp hq; omega
  have bd : ∀ i g, i < 5 → partC { s with pend := v } i g → partC s i g ∨ (i = 4 ∧ hi ≤ g ∧ g < hi') := fun i g hi5 hp => by
    match i, hi5 with
    | 0, _ => exact Or.inl hp
    | 1, _ => exact Or.inl hp
    | 2, _ => exact Or.inl hp
    | 3, _ => exact Or.inl hp
    | 4, _ => exact (hv g hp).imp id (fun h => ⟨rfl, h⟩)
  refine ⟨h.etree, h.tree.frs hf (fun g hp => kp 0 g (by omega) hp), h.epeers, h.peers.frs hf (fun g hp => kp 1 g (by omega) (Or.inl hp)) (fun x hx g hp => kp 1 g (by omega) (Or.inr ⟨x, hx, hp⟩)), hf.own h.net (fun g hp => kp 2 g (by omega) hp), hf.own h.said (fun g hp => kp 3 g (by omega) hp), ho, fun i j g hi5 hj5 h1 h2 => ?_, fun i g hi5 hp => ?_, hs⟩
  · rcases bd i g hi5 h1 with h1 | h1 <;> rcases bd j g hj5 h2 with h2 | h2
    · exact h.dis i j g hi5 hj5 h1 h2
    · have := h.lim i g hi5 h1; omega
    · have := h.lim j g hj5 h2; omega
    · omega
  · rcases bd i g hi5 hp with h1 | h1
    · have := h.lim i g hi5 h1; omega
    · omega
/-- a command behind those of the copy -/
theorem offer_step {w y2 y3 W x1 : World} {c : CU} {s1 : CW} {x : CM} {v7 : Value} {A O : Array Value} {o : Obj} (h1 : Below w.heap.size w y2) (h2 : y2.heap[w.heap.size + 1 + 1]? = some (.cells A 37 (0, 0))) (h3 : y2.heap[x1.heap.size]? = some (.cells O 37 (0, 0))) (h4 : OwnC W.heap.size x1.heap.size y2 c s1) (h5 : x1.heap.size < y2.heap.size) (h6 : W.heap.size ≤ x1.heap.size) (h7 : w.heap.size + 1 + 1 < W.heap.size)
    (hg : (y2.alloc o).grownBy y3 s1.pend.ownBlock) (ho : y3.ownsRow W.heap.size 111 3 v7 (c.pend.length + 1) (flatR cmdF (c.pend ++ [x]))) (hw : s1.pend.ownBlock = v7.ownBlock ∨ v7.ownBlock = some (y2.alloc o).heap.size) :
    Below w.heap.size w y3 ∧ y3.heap[w.heap.size + 1 + 1]? = some (.cells A 37 (0, 0)) ∧ y3.heap[x1.heap.size]? = some (.cells O 37 (0, 0)) ∧ OwnC W.heap.size y3.heap.size y3 { c with pend := c.pend ++ [x] } { s1 with pend := v7 } := by
  have hal := alloc_below y2 o
  have hp : ∀ g, s1.pend.ownBlock = some g → W.heap.size ≤ g ∧ g < x1.heap.size := fun g hg => h4.lim 4 g (by omega) hg
  have hc := h4.below hal
  refine ⟨(bt h1 hal).grown hg (bt h1 hal).size (fun k hk => by have := hp k hk; omega), ?_, ?_, ?_⟩
  · exact (hg.block _ (by have := hal.size; have := (Array.getElem?_eq_some_iff.1 h2).1; omega) (fun e => by have := hp _ e.symm; omega)).trans ((hal.block _ (Array.getElem?_eq_some_iff.1 h2).1).trans h2)
  · exact (hg.block _ (by have := hal.size; omega) (fun e => by have := hp _ e.symm; omega)).trans ((hal.block _ h5).trans h3)
  · exact hc.setPend hg (by have := hal.size; have := hg.size; omega) (Nat.le_refl _) (by rw [List.length_append]; exact ho) (fun g e => by
      rcases hw with hw | hw
      · exact Or.inl (by rw [hw]; exact e)
      · rw [hw] at e
        cases e
        exact Or.inr ⟨by have := hal.size; omega, (ho.lt _ hw).2⟩) h6
def offerC (c : CU) (x : CM) : CU × Bool := if cmdB x = true ∧ c.pend.length < 8 then ({ c with pend := c.pend ++ [x] }, true) else (c, false)


end Go.Proofs.YtjieklilojmifauGreatR
