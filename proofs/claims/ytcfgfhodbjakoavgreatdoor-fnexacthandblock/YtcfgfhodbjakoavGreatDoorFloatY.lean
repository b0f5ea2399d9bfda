/-
  A region with a block that is made anywhere, as in FloatX: the store of it, and more behind it.
-/
import Derived.Test.YtcfgfhodbjakoavGreatDoorRegH
namespace Go.Proofs.YtcfgfhodbjakoavGreatDoor
open Go.RowKit Num

section
variable {P : Program} {ops : Array Oper} {Q : Exit → Act → World → Prop} {md : Region.Mode} {S : World → Prop}
theorem fl_end_c {i s : Nat} {d : Option Tmp} {oi os : Oper} {obj : Obj} {base f : Nat} {T : World → Prop} {L : Array Bool} {a : Act} {ty t : TypeId} {x y : Operand} {old cells : Array Value}
    (hi : ops[i]? = some oi) (hdd : oi.dst = d) (hmk : Makes P oi obj) (hb : ∀ w, T w → base ≤ w.heap.size) (hU : Up T) (hTS : ∀ w, T w → S w)
    (ho : ops[s]? = some os) (hg : os.guard = none) (hop : os.op = .store ty x y) (hd : os.dst = none) (hr0 : Region.ready md ops L = [i]) (hr1 : Region.ready md ops (L.setIfInBounds i true) = [s])
    (hx : ∀ N, (a.put d (flP N)).eval x = flP N) (hy : ∀ N, (a.put d (flP N)).eval y = .agg cells) (hobj : obj = .cells old t (0, 0)) (hsz : (P.info? ty).map (·.size) = some cells.size) (hold : old.size = cells.size) (h1 : cells.all (·.oneCell') = true)
    (fin : ∀ N w w', T w → base ≤ N → w.heap[N]? = some (.cells old t (0, 0)) → w.grownBy w' (some N) → w'.heap[N]? = some (.cells cells t (0, 0)) → N < w'.heap.size → S w' ∧ wpAnyH P md ops Q S f ((L.setIfInBounds i true).setIfInBounds s true) (a.put d (flP N)) w') : Fl P md ops Q S i d obj base T (f + 1) L a := by
  subst hdd
  have hsome : ∀ N w, T w → flI obj base w (some N) → wpAnyH P md ops Q S (f + 1) (L.setIfInBounds i true) (a.put oi.dst (flP N)) w := fun N w hT hI => by
    refine ⟨fun h => (by rw [hr1] at h; cases h), fun j hj => ?_⟩
    rw [hr1] at hj
    obtain rfl : j = s := by simpa using hj
    have hI2 : w.heap[N]? = some (.cells old t (0, 0)) := by rw [← hobj]; exact hI.2
    obtain ⟨g1, g2, g3⟩ := setRow_grown (cells := cells) hI2
    have hf := fin N w _ hT hI.1 hI2 g1 g2 (by rw [g3]; exact (Array.getElem?_eq_some_iff.1 hI2).1)
    unfold wpOp
    simp only [ho]
    rw [if_pos (by simp [Region.wanted, hg])]
    refine Or.inl (wp_store_row ty x y hop N cells (hx N) (hy N) t old hI2 hsz hold h1 ?_)
    rw [hd]
    exact ⟨hf.1, hf.2⟩
  intro al w hT hI
  cases al with
  | some N => exact hsome N w hT hI
  | none =>
    show wpAnyH P md ops Q S (f + 1 + 1) L a w
    refine ⟨fun h => (by rw [hr0] at h; cases h), fun j hj => ?_⟩
    rw [hr0] at hj
    obtain rfl : j = i := by simpa using hj
    refine wpOp_value hi (by simp [Region.wanted, hmk.1]) (hmk.2 a.eval w) ⟨hTS _ (hU _ _ hT (alloc_below w obj)), ?_⟩
    exact hsome w.heap.size (w.alloc obj) (hU _ _ hT (alloc_below w obj)) ⟨hb w hT, alloc_new w obj⟩
/-- all else that may come ahead is done: the block is made -/
theorem fl_out {i : Nat} {d : Option Tmp} {oi : Oper} {obj : Obj} {base f : Nat} {T : World → Prop} {L : Array Bool} {a : Act}
    (hi : ops[i]? = some oi) (hdd : oi.dst = d) (hmk : Makes P oi obj) (hb : ∀ w, T w → base ≤ w.heap.size) (hU : Up T) (hTS : ∀ w, T w → S w) (hr0 : Region.ready md ops L = [i])
    (fin : ∀ N w, T w → base ≤ N → w.heap[N]? = some obj → wpAnyH P md ops Q S f (L.setIfInBounds i true) (a.put d (flP N)) w) : Fl P md ops Q S i d obj base T f L a := by
  subst hdd
  intro al w hT hI
  cases al with
  | some N => exact fin N w hT hI.1 hI.2
  | none =>
    show wpAnyH P md ops Q S (f + 1) L a w
    refine ⟨fun h => (by rw [hr0] at h; cases h), fun j hj => ?_⟩
    rw [hr0] at hj
    obtain rfl : j = i := by simpa using hj
    refine wpOp_value hi (by simp [Region.wanted, hmk.1]) (hmk.2 a.eval w) ⟨hTS _ (hU _ _ hT (alloc_below w obj)), ?_⟩
    exact fin w.heap.size (w.alloc obj) (hU _ _ hT (alloc_below w obj)) (hb w hT) (alloc_new w obj)
end

end Go.Proofs.YtcfgfhodbjakoavGreatDoor
