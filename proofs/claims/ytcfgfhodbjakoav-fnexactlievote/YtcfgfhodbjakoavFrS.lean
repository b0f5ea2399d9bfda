/-
  What lies outside of a set of blocks is as it was. (Made by gpm15.py.)
-/
import Derived.Test.YtcfgfhodbjakoavPeersL
namespace Go.Proofs.Ytcfgfhodbjakoav
open Go.RowKit Num

structure FrS (B : Nat → Prop) (w w' : World) : Prop where
  os : w'.os = w.os
  tape : w'.tape = w.tape
  output : w'.output = w.output
  size : w.heap.size ≤ w'.heap.size
  block : ∀ k, k < w.heap.size → ¬ B k → w'.heap[k]? = w.heap[k]?
theorem FrS.refl (B : Nat → Prop) (w : World) : FrS B w w := ⟨rfl, rfl, rfl, Nat.le_refl _, fun _ _ _ => rfl⟩
theorem FrS.trans {B : Nat → Prop} {a b c : World} (h : FrS B a b) (k : FrS B b c) : FrS B a c := ⟨k.os.trans h.os, k.tape.trans h.tape, k.output.trans h.output, Nat.le_trans h.size k.size, fun i hi h2 => (k.block i (Nat.lt_of_lt_of_le hi h.size) h2).trans (h.block i hi h2)⟩
theorem FrS.of_below {B : Nat → Prop} {w w' : World} (h : Below w.heap.size w w') : FrS B w w' := ⟨h.os, h.tape, h.output, h.size, fun k hk _ => h.block k hk⟩
theorem FrS.of_grown {B : Nat → Prop} {w w' : World} {r : Option Nat} (h : w.grownBy w' r) (hr : ∀ g, r = some g → B g) : FrS B w w' := ⟨h.os, h.tape, h.output, h.size, fun k hk hn => h.block k hk fun e => hn (hr k e.symm)⟩
theorem FrS.mono {B C : Nat → Prop} {w w' : World} (h : FrS B w w') (hc : ∀ g, B g → C g) : FrS C w w' := ⟨h.os, h.tape, h.output, h.size, fun k hk hn => h.block k hk fun hb => hn (hc k hb)⟩
theorem FrS.own {B : Nat → Prop} {w w' : World} (h : FrS B w w') {base : Nat} {e : TypeId} {m n : Nat} {v : Value} {xs : List Value} (ho : w.ownsRow base e m v n xs) (hv : ∀ g, v.ownBlock = some g → ¬ B g) : w'.ownsRow base e m v n xs := by
  obtain ⟨hl, h0 | ⟨g, cap, cur, rfl, hb, hh, r⟩⟩ := ho
  · exact ⟨hl, Or.inl h0⟩
  · exact ⟨hl, Or.inr ⟨g, cap, cur, rfl, hb, (h.block g (Array.getElem?_eq_some_iff.1 hh).1 (hv g rfl)).trans hh, r⟩⟩
theorem FrS.fr {B : Nat → Prop} {w w' : World} {lo hi : Nat} (h : FrS B w w') (hb : ∀ g, B g → lo ≤ g ∧ g < hi) : Fr lo hi w w' := ⟨h.os, h.tape, h.output, h.size, fun k hk hn => h.block k hk fun hB => by have := hb k hB; omega⟩
/-- a block of one of a replica's six rows -/
def inSix (s : PV) (g : Nat) : Prop := ∃ a ∈ six s, a.ownBlock = some g
theorem Own6.frs {B : Nat → Prop} {lo : Nat} {w w' : World} {p : PE} {s : PV} {xr xc xe xu xv xn : List Value} (h : Own6 lo w p s xr xc xe xu xv xn) (hf : FrS B w w') (hB : ∀ g, inSix s g → ¬ B g) : Own6 lo w' p s xr xc xe xu xv xn :=
  ⟨hf.own h.row (fun g hg => hB g ⟨_, by simp [six], hg⟩), hf.own h.cells (fun g hg => hB g ⟨_, by simp [six], hg⟩), hf.own h.early (fun g hg => hB g ⟨_, by simp [six], hg⟩), hf.own h.undos (fun g hg => hB g ⟨_, by simp [six], hg⟩), hf.own h.votes (fun g hg => hB g ⟨_, by simp [six], hg⟩), hf.own h.news (fun g hg => hB g ⟨_, by simp [six], hg⟩)⟩
theorem OwnD.frs {B : Nat → Prop} {lo hi : Nat} {w w' : World} {p : PE} {s : PV} (h : OwnD lo hi w p s) (hf : FrS B w w') (hB : ∀ g, inSix s g → ¬ B g) : OwnD lo hi w' p s := ⟨h.1.frs hf hB, h.2.1, Nat.le_trans h.2.2 hf.size⟩
theorem OwnE.frs {B : Nat → Prop} {lo : Nat} {w w' : World} {ps : PL} (h : OwnE lo w ps) (hf : FrS B w w') (hB : ∀ x ∈ ps, ∀ g, inSix x.2 g → ¬ B g) : OwnE lo w' ps := ⟨fun x hx => ((h.each x hx).frs hf (hB x hx)).wide hf.size (Nat.le_refl _), h.apart⟩
theorem OwnPs.frs {B : Nat → Prop} {lo : Nat} {w w' : World} {v : Value} {ps : PL} (h : OwnPs lo w v ps) (hf : FrS B w w') (hv : ∀ g, v.ownBlock = some g → ¬ B g) (hB : ∀ x ∈ ps, ∀ g, inSix x.2 g → ¬ B g) : OwnPs lo w' v ps := ⟨hf.own h.row hv, h.own.frs hf hB⟩
/-- a replica's rows do not lie in a block of replicas -/
theorem six_not_box {lo hi N : Nat} {w : World} {p : PE} {s : PV} {A : Array Value} (h : OwnD lo hi w p s) (hN : w.heap[N]? = some (.cells A 87 (0, 0))) : ¬ inSix s N := by
  rintro ⟨a, ha, e⟩
  simp only [six, List.mem_cons, List.not_mem_nil, or_false] at ha
  rcases ha with rfl | rfl | rfl | rfl | rfl | rfl
  · rcases row_not_box h.1.row hN (by decide) with h | h
    · rw [h] at e; cases e
    · exact h e
  · rcases row_not_box h.1.cells hN (by decide) with h | h
    · rw [h] at e; cases e
    · exact h e
  · rcases row_not_box h.1.early hN (by decide) with h | h
    · rw [h] at e; cases e
    · exact h e
  · rcases row_not_box h.1.undos hN (by decide) with h | h
    · rw [h] at e; cases e
    · exact h e
  · rcases row_not_box h.1.votes hN (by decide) with h | h
    · rw [h] at e; cases e
    · exact h e
  · rcases row_not_box h.1.news hN (by decide) with h | h
    · rw [h] at e; cases e
    · exact h e
/-- a replica of a row is another one, its rows where they were -/
theorem OwnPs.put {lo g n cap m : Nat} {w w' : World} {L : PL} {p p' : PE} {s : PV} (h : OwnPs lo w (.slice (some ⟨g, 0, none⟩) n cap) L) (hm : m < L.length) (hat : L[m] = (p, s)) (hf : FrS (fun k => k = g ∨ inSix s k) w w')
    (hrow : w'.ownsRow lo 87 21 (.slice (some ⟨g, 0, none⟩) n cap) L.length (flatR peerF (L.set m (p', s)))) (hd : OwnD lo w'.heap.size w' p' s) : OwnPs lo w' (.slice (some ⟨g, 0, none⟩) n cap) (L.set m (p', s)) := by
  obtain ⟨cur, hcur⟩ : ∃ cur, w.heap[g]? = some (.cells cur 87 (0, 0)) := by
    obtain ⟨_, ⟨hv, _⟩ | ⟨g2, cap2, cur, hv, _, hh, _⟩⟩ := h.row
    · cases hv
    · injection hv with hv1 _ _
      injection hv1 with hv1
      injection hv1 with hv1
      subst hv1
      exact ⟨cur, hh⟩
  have hpw := List.pairwise_iff_getElem.1 h.own.apart
  refine ⟨by rw [List.length_set]; exact hrow, fun x hx => ?_, ?_⟩
  · rcases List.mem_iff_getElem.1 hx with ⟨i, hi, rfl⟩
    rw [List.length_set] at hi
    by_cases hne : m = i
    · subst hne
      rw [List.getElem_set_self]
      exact hd
    · rw [List.getElem_set_ne hne]
      have hx := h.own.each _ (List.getElem_mem hi)
      refine (hx.frs hf fun k hk hB => ?_).wide hf.size (Nat.le_refl _)
      rcases hB with rfl | hB
      · exact six_not_box hx hcur hk
      · obtain ⟨a, ha, ea⟩ := hk
        obtain ⟨b, hb, eb⟩ := hB
        have hap : apartP L[i].2 s := by
          rcases Nat.lt_or_gt_of_ne hne with hlt | hlt
          · have := hpw m i hm hi hlt
            rw [hat] at this
            exact this.symm
          · have := hpw i m hi hm hlt
            rw [hat] at this
            exact this
        exact hap a ha b hb k ea eb
  · refine List.pairwise_iff_getElem.2 fun i j hi hj hij => ?_
    rw [List.length_set] at hi hj
    have hap := hpw i j hi hj hij
    have e : ∀ i (hi : i < L.length), ((L.set m (p', s))[i]'(by rw [List.length_set]; exact hi)).2 = L[i].2 := fun i hi => by
      by_cases hne : m = i
      · subst hne; rw [List.getElem_set_self, hat]
      · rw [List.getElem_set_ne hne]
    rw [e i hi, e j hj]
    exact hap

end Go.Proofs.Ytcfgfhodbjakoav
