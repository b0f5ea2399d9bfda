/-
  A cluster copied: the contract of the specification's copy. (Made by gcc15.py.)
-/
import Derived.Test.YtjieklilojmifatClusC
import Derived.Test.YtjieklilojmifatPeerC
import Derived.Test.YtjieklilojmifatPutBS
import Derived.Test.YtjieklilojmifatRegH
namespace Go.Proofs.Ytjieklilojmifat
open Go.RowKit Num

/-- while a cluster is copied: the boxes of the one that came in, of the answer, of the copy -/
structure CopC (w y : World) (A O : Array Value) : Prop where
  below : Below w.heap.size w y
  box : y.heap[w.heap.size]? = some (.cells A 55 (0, 0))
  zero : y.heap[w.heap.size + 1]? = some (.cells zeroC 55 (0, 0))
  out : y.heap[w.heap.size + 1 + 1]? = some (.cells O 55 (0, 0))
theorem CopC.far {w y : World} {A O : Array Value} (h : CopC w y A O) : w.heap.size + 1 + 1 < y.heap.size := (Array.getElem?_eq_some_iff.1 h.out).1
theorem CopC.put {w y x : World} {A O O' : Array Value} (h : CopC w y A O) (hg : y.grownBy x (some (w.heap.size + 1 + 1))) (hk : x.heap[w.heap.size + 1 + 1]? = some (.cells O' 55 (0, 0))) : CopC w x A O' :=
  ⟨h.below.grown hg h.below.size (fun k hk => by cases hk; omega), (hg.block _ (Array.getElem?_eq_some_iff.1 h.box).1 (fun e => by have := Option.some.inj e; omega)).trans h.box, (hg.block _ (Array.getElem?_eq_some_iff.1 h.zero).1 (fun e => by have := Option.some.inj e; omega)).trans h.zero, hk⟩
theorem CopC.more {w y x : World} {A O : Array Value} (h : CopC w y A O) (hb : Below y.heap.size y x) : CopC w x A O :=
  ⟨bt h.below hb, (hb.block _ (Array.getElem?_eq_some_iff.1 h.box).1).trans h.box, (hb.block _ (Array.getElem?_eq_some_iff.1 h.zero).1).trans h.zero, (hb.block _ (Array.getElem?_eq_some_iff.1 h.out).1).trans h.out⟩
/-- a row of its own grows: it lies above -/
theorem CopC.grow {w y x : World} {A O : Array Value} {r : Option Nat} (h : CopC w y A O) (hg : y.grownBy x r) (hr : ∀ g, r = some g → w.heap.size + 1 + 1 < g) : CopC w x A O :=
  ⟨h.below.grown hg h.below.size (fun k hk => by have := hr k hk; omega), (hg.block _ (Array.getElem?_eq_some_iff.1 h.box).1 (fun e => by have := hr _ e.symm; omega)).trans h.box, (hg.block _ (Array.getElem?_eq_some_iff.1 h.zero).1 (fun e => by have := hr _ e.symm; omega)).trans h.zero, (hg.block _ (Array.getElem?_eq_some_iff.1 h.out).1 (fun e => by have := hr _ e.symm; omega)).trans h.out⟩
theorem clusA_oneR {w : World} {c : CU} {s : CW} (h : ClusR w c s) : (clusA c s).all (·.oneCell') = true := by
  obtain ⟨tv, tt, pv, pp, nv, dv, qv⟩ := s
  obtain ⟨a0, b0, e0, -⟩ := h.tree.1
  obtain ⟨a1, b1, e1, -⟩ := h.peers.row
  obtain ⟨_, _, e2, -⟩ := h.net
  obtain ⟨_, _, e3, -⟩ := h.said
  obtain ⟨_, _, e4, -⟩ := h.pend
  change tv = .slice a0 tt.length b0 at e0
  change pv = .slice a1 pp.length b1 at e1
  change nv = _ at e2
  change dv = _ at e3
  change qv = _ at e4
  subst e0 e1 e2 e3 e4
  unfold clusA
  simp [Value.oneCell']
theorem OwnT.not {w w' : World} {base N : Nat} {v : Value} {ps : TL} (h : OwnT w base v ps) (hg : w.grownBy w' (some N)) (hN : N < base) : OwnT w' base v ps := h.frs (FrS.of_grown hg (B := fun k => k = N) (fun k e => by cases e; rfl)) (fun g hg e => by have := (inTree_ge h hg).1; omega)
theorem OwnPs.not {w w' : World} {base N : Nat} {v : Value} {ps : PL} (h : OwnPs base w v ps) (hg : w.grownBy w' (some N)) (hN : N < base) : OwnPs base w' v ps := h.frs (FrS.of_grown hg (B := fun k => k = N) (fun k e => by cases e; rfl)) (fun g hg e => by have := (inPeers_ge h (Or.inl hg)).1; omega) (fun x hx g hg e => by have := (inPeers_ge h (Or.inr ⟨x, hx, hg⟩)).1; omega)
theorem own_not {w w' : World} {base N m n : Nat} {e : TypeId} {v : Value} {xs : List Value} (h : w.ownsRow base e m v n xs) (hg : w.grownBy w' (some N)) (hN : N < base) : w'.ownsRow base e m v n xs := (FrS.of_grown hg (B := fun k => k = N) (fun k e => by cases e; rfl)).own h (fun g hg e => by have := (h.lt g hg).1; omega)
/-- a tree stays where a row grows that lies above it -/
theorem OwnT.above {w w' : World} {base b1 : Nat} {v : Value} {ps : TL} {r : Option Nat} (h : OwnT w base v ps) (hl : ∀ g, inTree v ps g → g < b1) (hg : w.grownBy w' r) (hr : ∀ g, r = some g → b1 ≤ g) : OwnT w' base v ps := h.frs (FrS.of_grown hg (B := fun k => b1 ≤ k) hr) (fun g hg e => by have := hl g hg; omega)
/-- one more behind a row of replicas -/
theorem OwnPs.append {lo n2 g2 cap2 : Nat} {w x y : World} {pv : Value} {qs : PL} {p : PE} {s1 : PV} (h : OwnPs lo w pv qs) (hb : Below w.heap.size w x) (hd : OwnD w.heap.size x.heap.size x p s1) (hlo : lo ≤ w.heap.size) (hg : x.grownBy y pv.ownBlock)
    (hrow : y.ownsRow lo 41 21 (.slice (some ⟨g2, 0, none⟩) n2 cap2) (qs.length + 1) (flatR peerF qs ++ peerF (p, s1))) : OwnPs lo y (.slice (some ⟨g2, 0, none⟩) n2 cap2) (qs ++ [(p, s1)]) := by
  have hE : OwnE lo x (qs ++ [(p, s1)]) := (h.own.below hb).push (hi := w.heap.size) hd hlo (fun x hx => (h.own.each x hx).2.1) (Nat.le_refl _)
  refine ⟨by rw [List.length_append, flatR_append]; simpa [flatR] using hrow, ?_⟩
  cases e : pv.ownBlock with
  | none =>
    rw [e] at hg
    exact hE.frs (FrS.of_grown hg (B := fun _ => False) (fun g hg => by cases hg)) (fun _ _ _ _ hB => hB)
  | some g =>
    rw [e] at hg
    obtain ⟨cur, hcur⟩ : ∃ cur, x.heap[g]? = some (.cells cur 41 (0, 0)) := by
      obtain ⟨_, ⟨hv, _⟩ | ⟨g3, cap3, cur, hv, _, hh, _⟩⟩ := own_kept h.row hb
      · rw [hv] at e; cases e
      · rw [hv] at e
        cases e
        exact ⟨cur, hh⟩
    exact hE.boxed hcur hg


end Go.Proofs.Ytjieklilojmifat
