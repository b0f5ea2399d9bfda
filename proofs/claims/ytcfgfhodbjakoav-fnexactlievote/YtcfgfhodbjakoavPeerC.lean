/-
  A replica copied, list by list: the contract of the specification's copy. (Made by gc10.py.)
-/
import Derived.Test.YtcfgfhodbjakoavPeerB
import Derived.Test.YtcfgfhodbjakoavAppA
namespace Go.Proofs.Ytcfgfhodbjakoav
open Go.RowKit Num

/-- while a replica is copied: the box of the one that came in, the box of the answer, the box of the copy -/
structure CopyS (w y : World) (p : PE) (s t : PV) : Prop where
  below : Below w.heap.size w y
  box : y.heap[w.heap.size]? = some (.cells (peerA p s) 87 (0, 0))
  zero : y.heap[w.heap.size + 1]? = some (.cells zeroA 87 (0, 0))
  out : y.heap[w.heap.size + 1 + 1]? = some (.cells (peerA p t) 87 (0, 0))
theorem CopyS.lt {w y : World} {p : PE} {s t : PV} (h : CopyS w y p s t) : w.heap.size + 1 + 1 < y.heap.size := (Array.getElem?_eq_some_iff.1 h.out).1
theorem CopyS.more {w y x : World} {p : PE} {s t : PV} (h : CopyS w y p s t) (hb : Below y.heap.size y x) : CopyS w x p s t := by
  have := h.lt
  exact ⟨bt h.below hb, (hb.block _ (by omega)).trans h.box, (hb.block _ (by omega)).trans h.zero, (hb.block _ (by omega)).trans h.out⟩
theorem CopyS.put {w y x : World} {p : PE} {s t t' : PV} (h : CopyS w y p s t) (hg : y.grownBy x (some (w.heap.size + 1 + 1))) (hk : x.heap[w.heap.size + 1 + 1]? = some (.cells (peerA p t') 87 (0, 0))) : CopyS w x p s t' := by
  have := h.lt
  exact ⟨h.below.grown hg h.below.size (fun k hk => by cases hk; omega), (hg.block _ (by omega) (fun e => by have := Option.some.inj e; omega)).trans h.box, (hg.block _ (by omega) (fun e => by have := Option.some.inj e; omega)).trans h.zero, hk⟩
theorem peerA_oneR {w : World} {p : PE} {s : PV} (h : PeerR w p s) : (peerA p s).all (·.oneCell') = true := by
  obtain ⟨sr, sc, se, su, sv, sn⟩ := s
  obtain ⟨_, _, e1, -⟩ := h.row
  obtain ⟨_, _, e2, -⟩ := h.cells
  obtain ⟨_, _, e3, -⟩ := h.early
  obtain ⟨_, _, e4, -⟩ := h.undos
  obtain ⟨_, _, e5, -⟩ := h.votes
  obtain ⟨_, _, e6, -⟩ := h.news
  change sr = _ at e1
  change sc = _ at e2
  change se = _ at e3
  change su = _ at e4
  change sv = _ at e5
  change sn = _ at e6
  subst e1 e2 e3 e4 e5 e6
  unfold peerA
  simp [Value.oneCell']


end Go.Proofs.Ytcfgfhodbjakoav
