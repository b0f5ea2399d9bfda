/-
  A cluster behind a pointer: one of its replicas is another one, a list of it is another one; what is written lies in its box or in its own memory.
-/
import Derived.Test.YtcfgfhodbjakoavGreatDoorClusP
import Derived.Test.YtcfgfhodbjakoavGreatDoorPartP
namespace Go.Proofs.YtcfgfhodbjakoavGreatDoor
open Go.RowKit Num

theorem flat_setE {α : Type} {f : α → List Value} {m : Nat} (hm : ∀ x, (f x).length = m) (x : α) : ∀ (l : List α) (i : Nat), i < l.length → setEl (flatR f l) i m (f x) = flatR f (l.set i x)
  | [], i, h => by simp at h
  | a :: l, 0, _ => by
    unfold setEl
    simp only [Nat.zero_mul, List.take_zero, List.nil_append, Nat.zero_add, List.set_cons_zero]
    show f x ++ (f a ++ flatR f l).drop m = f x ++ flatR f l
    rw [← hm a, List.drop_left]
  | a :: l, i + 1, h => by
    have ih := flat_setE hm x l i (by simpa using h)
    unfold setEl at ih ⊢
    show (f a ++ flatR f l).take ((i + 1) * m) ++ f x ++ (f a ++ flatR f l).drop ((i + 1) * m + m) = f a ++ flatR f (l.set i x)
    have e1 : (i + 1) * m = (f a).length + i * m := by rw [hm a, Nat.add_mul, Nat.one_mul, Nat.add_comm]
    rw [e1, List.take_append, List.take_of_length_le (by omega), show (f a).length + i * m - (f a).length = i * m by omega, Nat.add_assoc, List.drop_append, List.drop_of_length_le (by omega), show (f a).length + (i * m + m) - (f a).length = i * m + m by omega, ← ih]
    simp
theorem pes_set (ps : PL) (i : Nat) (x : PE × PV) : pes (ps.set i x) = (pes ps).set i x.1 := by unfold pes; rw [List.map_set]

/-- one of its replicas is another one, whose rows lie behind all -/
theorem OwnC.setPeer {lo hi hi2 g n cap m : Nat} {w w' : World} {c : CU} {s : CW} {p : PE} {t : PV} (h : OwnC lo hi w c s) (hv : s.peersV = .slice (some ⟨g, 0, none⟩) n cap) (hg : w.grownBy w' (some g)) (hlo : lo ≤ hi)
    (hrow : w'.ownsRow lo 124 21 s.peersV s.peers.length (flatR peerF (s.peers.set m (p, t)))) (hd : OwnD hi hi2 w' p t) (hh : hi ≤ hi2) : OwnC lo hi2 w' { c with peers := c.peers.set m p } { s with peers := s.peers.set m (p, t) } := by
  have hgp : partC s 1 g := Or.inl (by rw [hv]; rfl)
  have hf : FrS (fun k => k = g) w w' := FrS.of_grown hg (fun k e => by cases e; rfl)
  have hno : ∀ i k, i < 5 → i ≠ 1 → partC s i k → ¬ k = g := fun i k hi hne hp e => hne (h.dis i 1 k hi (by omega) hp (by rw [e]; exact hgp))
  obtain ⟨cur, hcur⟩ : ∃ cur, w.heap[g]? = some (.cells cur 124 (0, 0)) := by
    have hr := h.peers.row
    rw [hv] at hr
    obtain ⟨_, ⟨hv2, _⟩ | ⟨g2, cap2, cur, hv2, _, hh2, _⟩⟩ := hr
    · cases hv2
    · injection hv2 with hv1 _ _
      injection hv1 with hv1
      injection hv1 with hv1
      subst hv1
      exact ⟨cur, hh2⟩
  have hpart : ∀ i k, i < 5 → partC { s with peers := s.peers.set m (p, t) } i k → partC s i k ∨ (i = 1 ∧ hi ≤ k ∧ k < hi2) := fun i k hi5 hp => by
    match i, hi5 with
    | 0, _ => exact Or.inl hp
    | 1, _ =>
      rcases hp with hp | ⟨x, hx, hp⟩
      · exact Or.inl (Or.inl hp)
      · rcases List.mem_or_eq_of_mem_set hx with hx | rfl
        · exact Or.inl (Or.inr ⟨x, hx, hp⟩)
        · obtain ⟨a, ha, ea⟩ := hp
          exact Or.inr ⟨rfl, six_in hd.2.1 a ha k ea⟩
    | 2, _ => exact Or.inl hp
    | 3, _ => exact Or.inl hp
    | 4, _ => exact Or.inl hp
  refine ⟨h.etree, h.tree.frs hf (fun k hk => hno 0 k (by omega) (by omega) hk), by show pes (s.peers.set m (p, t)) = c.peers.set m p; rw [pes_set, h.epeers], ⟨by show w'.ownsRow lo _ 21 s.peersV (s.peers.set m (p, t)).length _; rw [List.length_set]; exact hrow, fun x hx => ?_, ?_⟩, hf.own h.net (fun k hk => hno 2 k (by omega) (by omega) hk), hf.own h.said (fun k hk => hno 3 k (by omega) (by omega) hk), hf.own h.pend (fun k hk => hno 4 k (by omega) (by omega) hk), fun i j k hi5 hj5 h1 h2 => ?_, fun i k hi5 hp => ?_, hd.2.2⟩
  · rcases List.mem_or_eq_of_mem_set hx with hx | rfl
    · have ho := h.peers.own.each x hx
      exact (ho.frs hf (fun k hk e => six_not_box ho hcur (by rw [← e]; exact hk))).wide hf.size (Nat.le_refl _)
    · exact (hd.wide hd.2.2 (Nat.le_refl _)).low hlo
  · have hpw := List.pairwise_iff_getElem.1 h.peers.own.apart
    have hlim : ∀ x ∈ s.peers, ∀ a ∈ six x.2, ∀ k, a.ownBlock = some k → lo ≤ k ∧ k < hi := fun x hx a ha k e => h.lim 1 k (by omega) (Or.inr ⟨x, hx, a, ha, e⟩)
    refine List.pairwise_iff_getElem.2 fun i j hi1 hj1 hij => ?_
    have hi2' : i < s.peers.length := by simpa using hi1
    have hj2' : j < s.peers.length := by simpa using hj1
    simp only [List.getElem_set]
    split
    · split
      · omega
      · exact fun a ha b hb => apart_of (six_in hd.2.1 a ha) (hlim _ (List.getElem_mem hj2') b hb) (Or.inr (Nat.le_refl _))
    · split
      · exact fun a ha b hb => apart_of (hlim _ (List.getElem_mem hi2') a ha) (six_in hd.2.1 b hb) (Or.inl (Nat.le_refl _))
      · exact hpw i j hi2' hj2' hij
  · rcases hpart i k hi5 h1 with a | ⟨a, b, _⟩
    · rcases hpart j k hj5 h2 with a' | ⟨a', b', _⟩
      · exact h.dis i j k hi5 hj5 a a'
      · have := h.lim i k hi5 a; omega
    · rcases hpart j k hj5 h2 with a' | ⟨a', b', _⟩
      · have := h.lim j k hj5 a'; omega
      · omega
  · rcases hpart i k hi5 hp with a | ⟨a, b, b'⟩
    · have := h.lim i k hi5 a; omega
    · omega

/-- one of its other lists is another one -/
theorem OwnC.setSaid {lo hi hi' : Nat} {w : World} {c : CU} {s : CW} {v : Value} {l : List VT} (h : OwnC lo hi w c s) (hh : hi ≤ hi') (hs : hi' ≤ w.heap.size) (ho : w.ownsRow lo 46 4 v l.length (flatR voteF l)) (hv : ∀ g, v.ownBlock = some g → hi ≤ g ∧ g < hi') (hlo : lo ≤ hi) : OwnC lo hi' w { c with said := l } { s with said := v } := by
  have hpart : ∀ i g, i < 5 → partC { s with said := v } i g → partC s i g ∨ (i = 3 ∧ hi ≤ g ∧ g < hi') := fun i g hi5 hp => by
    match i, hi5 with
    | 0, _ => exact Or.inl hp
    | 1, _ => exact Or.inl hp
    | 2, _ => exact Or.inl hp
    | 3, _ => exact Or.inr ⟨rfl, hv g hp⟩
    | 4, _ => exact Or.inl hp
  refine ⟨h.etree, h.tree, h.epeers, h.peers, h.net, ho, h.pend, fun i j g hi5 hj5 h1 h2 => ?_, fun i g hi5 hp => ?_, hs⟩
  · rcases hpart i g hi5 h1 with a | ⟨a, b, _⟩
    · rcases hpart j g hj5 h2 with a' | ⟨a', b', _⟩
      · exact h.dis i j g hi5 hj5 a a'
      · have := h.lim i g hi5 a; omega
    · rcases hpart j g hj5 h2 with a' | ⟨a', b', _⟩
      · have := h.lim j g hj5 a'; omega
      · omega
  · rcases hpart i g hi5 hp with a | ⟨a, b, b'⟩
    · have := h.lim i g hi5 a; omega
    · omega
theorem OwnC.setPend2 {lo hi hi' : Nat} {w : World} {c : CU} {s : CW} {v : Value} {l : List CM} (h : OwnC lo hi w c s) (hh : hi ≤ hi') (hs : hi' ≤ w.heap.size) (ho : w.ownsRow lo 126 3 v l.length (flatR cmdF l)) (hv : ∀ g, v.ownBlock = some g → hi ≤ g ∧ g < hi') (hlo : lo ≤ hi) : OwnC lo hi' w { c with pend := l } { s with pend := v } := by
  have hpart : ∀ i g, i < 5 → partC { s with pend := v } i g → partC s i g ∨ (i = 4 ∧ hi ≤ g ∧ g < hi') := fun i g hi5 hp => by
    match i, hi5 with
    | 0, _ => exact Or.inl hp
    | 1, _ => exact Or.inl hp
    | 2, _ => exact Or.inl hp
    | 3, _ => exact Or.inl hp
    | 4, _ => exact Or.inr ⟨rfl, hv g hp⟩
  refine ⟨h.etree, h.tree, h.epeers, h.peers, h.net, h.said, ho, fun i j g hi5 hj5 h1 h2 => ?_, fun i g hi5 hp => ?_, hs⟩
  · rcases hpart i g hi5 h1 with a | ⟨a, b, _⟩
    · rcases hpart j g hj5 h2 with a' | ⟨a', b', _⟩
      · exact h.dis i j g hi5 hj5 a a'
      · have := h.lim i g hi5 a; omega
    · rcases hpart j g hj5 h2 with a' | ⟨a', b', _⟩
      · have := h.lim j g hj5 a'; omega
      · omega
  · rcases hpart i g hi5 hp with a | ⟨a, b, b'⟩
    · have := h.lim i g hi5 a; omega
    · omega
theorem OwnC.setTree {lo hi hi' : Nat} {w : World} {c : CU} {s : CW} {v : Value} {ps : TL} (h : OwnC lo hi w c s) (hh : hi ≤ hi') (hs : hi' ≤ w.heap.size) (ho : OwnT w lo v ps) (hv : ∀ g, inTree v ps g → hi ≤ g ∧ g < hi') (hlo : lo ≤ hi) : OwnC lo hi' w { c with tree := bks ps } { s with treeV := v, tree := ps } := by
  have hpart : ∀ i g, i < 5 → partC { s with treeV := v, tree := ps } i g → partC s i g ∨ (i = 0 ∧ hi ≤ g ∧ g < hi') := fun i g hi5 hp => by
    match i, hi5 with
    | 0, _ => exact Or.inr ⟨rfl, hv g hp⟩
    | 1, _ => exact Or.inl hp
    | 2, _ => exact Or.inl hp
    | 3, _ => exact Or.inl hp
    | 4, _ => exact Or.inl hp
  refine ⟨rfl, ho, h.epeers, h.peers, h.net, h.said, h.pend, fun i j g hi5 hj5 h1 h2 => ?_, fun i g hi5 hp => ?_, hs⟩
  · rcases hpart i g hi5 h1 with a | ⟨a, b, _⟩
    · rcases hpart j g hj5 h2 with a' | ⟨a', b', _⟩
      · exact h.dis i j g hi5 hj5 a a'
      · have := h.lim i g hi5 a; omega
    · rcases hpart j g hj5 h2 with a' | ⟨a', b', _⟩
      · have := h.lim j g hj5 a'; omega
      · omega
  · rcases hpart i g hi5 hp with a | ⟨a, b, b'⟩
    · have := h.lim i g hi5 a; omega
    · omega
/-- a cluster in a box: what became of it; what is written lies in the box, or from lo on -/
structure InW (N lo : Nat) (w w' : World) (c : CU) (s : CW) : Prop where
  box : w'.heap[N]? = some (.cells (clusA c s) 43 (0, 0))
  own : OwnC lo w'.heap.size w' c s
  fr : FrS (fun k => k = N ∨ lo ≤ k) w w'
theorem InB.weak {N lo : Nat} {w w' : World} {c : CU} {s : CW} (h : InB N lo w w' c s) : InW N lo w w' c s := ⟨h.box, h.own, h.fr.mono fun _ e => Or.inl e⟩
theorem InW.trans {N lo : Nat} {w w' w'' : World} {c c' : CU} {s s' : CW} (h : InW N lo w w' c s) (k : InW N lo w' w'' c' s') : InW N lo w w'' c' s' := ⟨k.box, k.own, h.fr.trans k.fr⟩
theorem InB.trans {N lo : Nat} {w w' w'' : World} {c c' : CU} {s s' : CW} (h : InB N lo w w' c s) (k : InB N lo w' w'' c' s') : InB N lo w w'' c' s' := ⟨k.box, k.own, h.fr.trans k.fr⟩
theorem InB.more {N lo : Nat} {w w' x : World} {c : CU} {s : CW} (h : InB N lo w w' c s) (hb : Below w'.heap.size w' x) : InB N lo w x c s := ⟨(hb.block N (Array.getElem?_eq_some_iff.1 h.box).1).trans h.box, (h.own.below hb).wide hb.size (Nat.le_refl _), h.fr.trans (FrS.of_below hb)⟩
theorem InW.more {N lo : Nat} {w w' x : World} {c : CU} {s : CW} (h : InW N lo w w' c s) (hb : Below w'.heap.size w' x) : InW N lo w x c s := ⟨(hb.block N (Array.getElem?_eq_some_iff.1 h.box).1).trans h.box, (h.own.below hb).wide hb.size (Nat.le_refl _), h.fr.trans (FrS.of_below hb)⟩
/-- where a cluster lies in a box -/
theorem InB.start {N lo hi : Nat} {w : World} {c : CU} {s : CW} (hb : w.heap[N]? = some (.cells (clusA c s) 43 (0, 0))) (h : OwnC lo hi w c s) : InB N lo w w c s := ⟨hb, h.wide h.size (Nat.le_refl _), FrS.refl _ _⟩

end Go.Proofs.YtcfgfhodbjakoavGreatDoor
