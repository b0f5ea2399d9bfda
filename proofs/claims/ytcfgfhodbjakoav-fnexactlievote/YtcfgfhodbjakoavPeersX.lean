/-
  Rows of replicas: read, opened, of the call's own. (Made by gps14.py.)
-/
import Derived.Test.YtcfgfhodbjakoavPeerD
import Derived.Test.YtcfgfhodbjakoavPeerB
import Derived.Deep.MidRow
namespace Go.Proofs.Ytcfgfhodbjakoav
open Go.ChangeShapes Go.WideShapes Go.ChangeAt Go.RowKit Num

/-- replicas, each with its slices -/
abbrev PL := List (PE × PV)
def pes (ps : PL) : List PE := ps.map Prod.fst
theorem pes_len (ps : PL) : (pes ps).length = ps.length := by simp [pes]
theorem pes_at {ps : PL} {i : Nat} (h : i < ps.length) : (pes ps)[i]'(by rw [pes_len]; exact h) = ps[i].1 := by simp [pes]
theorem pes_snoc (ps : PL) (x : PE × PV) : pes (ps ++ [x]) = pes ps ++ [x.1] := by simp [pes]
def peerF (x : PE × PV) : List Value := peerL x.1 x.2
theorem peerF_len (x : PE × PV) : (peerF x).length = 21 := rfl
/-- replicas that can be read -/
structure PeersR (w : World) (v : Value) (ps : PL) : Prop where
  row : RowsR w v 21 peerF ps
  each : ∀ x ∈ ps, PeerR w x.1 x.2
theorem PeersR.below {w w' : World} {v : Value} {ps : PL} (h : PeersR w v ps) (hb : Below w.heap.size w w') : PeersR w' v ps := ⟨h.row.below hb, fun x hx => (h.each x hx).below hb⟩
/-- the six slices of one replica and those of another have no block in common -/
def six (s : PV) : List Value := [s.row, s.cells, s.early, s.undos, s.votes, s.news]
def apartP (s t : PV) : Prop := ∀ a ∈ six s, ∀ b ∈ six t, apart a b
theorem apartP.symm {s t : PV} (h : apartP s t) : apartP t s := fun a ha b hb => (h b hb a ha).symm
theorem six_in {lo hi : Nat} {s : PV} (h : Apart6 lo hi s) : ∀ a ∈ six s, ∀ g, a.ownBlock = some g → lo ≤ g ∧ g < hi := by
  intro a ha
  simp only [six, List.mem_cons, List.not_mem_nil, or_false] at ha
  rcases ha with rfl | rfl | rfl | rfl | rfl | rfl
  · exact h.l0
  · exact h.l1
  · exact h.l2
  · exact h.l3
  · exact h.l4
  · exact h.l5
theorem apartP_of {la ha lb hb : Nat} {s t : PV} (h1 : Apart6 la ha s) (h2 : Apart6 lb hb t) (h : ha ≤ lb ∨ hb ≤ la) : apartP s t := fun a m b n => apart_of (six_in h1 a m) (six_in h2 b n) h
/-- replicas whose lists are the call's own, each apart -/
structure OwnE (lo : Nat) (w : World) (ps : PL) : Prop where
  each : ∀ x ∈ ps, OwnD lo w.heap.size w x.1 x.2
  apart : ps.Pairwise fun x y => apartP x.2 y.2
theorem OwnE.nil (lo : Nat) (w : World) : OwnE lo w [] := ⟨fun x h => (by cases h), List.Pairwise.nil⟩
theorem OwnE.below {lo : Nat} {w w' : World} {ps : PL} (h : OwnE lo w ps) (hb : Below w.heap.size w w') : OwnE lo w' ps := ⟨fun x hx => ((h.each x hx).below hb).wide hb.size (Nat.le_refl _), h.apart⟩
theorem OwnE.low {lo lo' : Nat} {w : World} {ps : PL} (h : OwnE lo w ps) (hl : lo' ≤ lo) : OwnE lo' w ps := ⟨fun x hx => (h.each x hx).low hl, h.apart⟩
theorem OwnE.boxed {lo N : Nat} {w w' : World} {ps : PL} {A : Array Value} (h : OwnE lo w ps) (hN : w.heap[N]? = some (.cells A 87 (0, 0))) (hg : w.grownBy w' (some N)) : OwnE lo w' ps :=
  ⟨fun x hx => ((h.each x hx).boxed hN hg).wide hg.size (Nat.le_refl _), h.apart⟩
theorem OwnE.push {lo hi lo2 hi2 : Nat} {w : World} {ps : PL} {p : PE} {s : PV} (h : OwnE lo w ps) (hx : OwnD lo2 hi2 w p s) (hl : lo ≤ lo2) (hb : ∀ x ∈ ps, Apart6 lo hi x.2) (hh : hi ≤ lo2) : OwnE lo w (ps ++ [(p, s)]) := by
  refine ⟨fun x hx' => ?_, ?_⟩
  · rcases List.mem_append.1 hx' with h' | h'
    · exact h.each x h'
    · simp at h'
      subst h'
      exact (hx.wide hx.2.2 (Nat.le_refl _)).low hl
  · rw [List.pairwise_append]
    refine ⟨h.apart, by simp, fun x hx' y hy => ?_⟩
    simp at hy
    subst hy
    exact apartP_of (hb x hx') hx.2.1 (Or.inl hh)
/-- replicas of the call's own, their row too -/
structure OwnPs (lo : Nat) (w : World) (v : Value) (ps : PL) : Prop where
  row : w.ownsRow lo 87 21 v ps.length (flatR peerF ps)
  own : OwnE lo w ps
theorem OwnPs.reads {lo : Nat} {w : World} {v : Value} {ps : PL} (h : OwnPs lo w v ps) : PeersR w v ps := ⟨rows_of_own peerF_len h.row, fun x hx => (h.own.each x hx).reads⟩
theorem OwnPs.below {lo : Nat} {w w' : World} {v : Value} {ps : PL} (h : OwnPs lo w v ps) (hb : Below w.heap.size w w') : OwnPs lo w' v ps := ⟨own_kept h.row hb, h.own.below hb⟩
theorem OwnPs.low {lo lo' : Nat} {w : World} {v : Value} {ps : PL} (h : OwnPs lo w v ps) (hl : lo' ≤ lo) : OwnPs lo' w v ps := ⟨own_base h.row hl, h.own.low hl⟩
/-- these have been set, whatever else stands behind them -/
def preR {α : Type} (f : α → List Value) (qs : List α) (xs : List Value) : Prop := ∃ ys, xs = flatR f qs ++ ys
theorem preR_step {α : Type} {f : α → List Value} {m : Nat} (hm : ∀ x, (f x).length = m) {qs : List α} {xs : List Value} {k : Nat} (h : preR f qs xs) (hq : qs.length = k) (x : α) : preR f (qs ++ [x]) (setEl xs k m (f x)) := by
  obtain ⟨ys, rfl⟩ := h
  have hf := flatR_len hm qs
  refine ⟨(flatR f qs ++ ys).drop (k * m + m), ?_⟩
  unfold setEl
  rw [flatR_append, List.take_append_of_le_length (by rw [hf, hq]; exact Nat.le_refl _), List.take_of_length_le (by rw [hf, hq]; exact Nat.le_refl _)]
  simp [flatR]
theorem preR_all {α : Type} {f : α → List Value} {m : Nat} (hm : ∀ x, (f x).length = m) {qs : List α} {xs : List Value} (h : preR f qs xs) (hx : xs.length = qs.length * m) : xs = flatR f qs := by
  obtain ⟨ys, rfl⟩ := h
  rw [List.length_append, flatR_len hm] at hx
  obtain rfl : ys = [] := List.eq_nil_of_length_eq_zero (by omega)
  simp
theorem range_el {α : Type} {f : α → List Value} {m : Nat} {w w' : World} {g off n i : Nat} {xs : List α} (hb : Below n w w') (hg : g < n) (hc : ∀ i (h : i < xs.length) j, j < m → w.cell? ⟨g, off + i * m + j, none⟩ = (f xs[i])[j]?) (hi : i < xs.length) (hm : ∀ x, (f x).length = m) : w'.rangeAt g (off + i * m) (f xs[i]) := fun j v hj => by
  rw [hb.cell (by exact hg), hc i hi j (by rw [← hm xs[i]]; exact (List.getElem?_eq_some_iff.1 hj).1)]
  exact hj
theorem range_below {w w' : World} {g o n : Nat} {cs : List Value} (hb : Below n w w') (hg : g < n) (h : w.rangeAt g o cs) : w'.rangeAt g o cs := fun j v hj => by rw [hb.cell (by exact hg)]; exact h j v hj
/-- how many their lists have together -/
def lenPs : List PE → Nat
  | [] => 0
  | p :: l => lenPe p + lenPs l
theorem lenPs_drop (l : List PE) (k : Nat) (h : k < l.length) : lenPs (l.drop k) = lenPe l[k] + lenPs (l.drop (k + 1)) := by rw [List.drop_eq_getElem_cons h]; rfl

set_option maxRecDepth 100000 in
theorem peers_open {H : Type} {enc : TypeId × Value → H} {W : World} {a : Option Addr} {len cap : Nat} {d : DataW H} {p : List MemPlace} (h : DataW.Trod enc Try.prog W 0 (fun _ => true) true 23 (.slice a len cap) d p) :
    ∃ ps : PL, ps.length = len ∧ PeersR W (.slice a len cap) ps ∧ ps.length ≤ maxLen ∧ ∀ x ∈ ps, goodPe x.1 := by
  obtain ⟨ps, h1, h2, h3, h4⟩ := rows_open (good := fun x => PeerR W x.1 x.2 ∧ goodPe x.1) (f := peerF) (m := 21) Try.underlying23 (by kernel_rfl) (by decide) (fun n cs x hx => by obtain ⟨p, s, h1, h2, h3⟩ := peer_rd n cs x hx; exact ⟨(p, s), h1, h2, h3⟩) h
  exact ⟨ps, h1, ⟨h2, fun x hx => (h4 x hx).1⟩, h3, fun x hx => (h4 x hx).2⟩

end Go.Proofs.Ytcfgfhodbjakoav
