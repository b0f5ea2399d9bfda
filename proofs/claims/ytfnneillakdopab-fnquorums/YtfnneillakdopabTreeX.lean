/-
  Trees of the call's own: a block put behind the others.
-/
import Derived.Test.YtfnneillakdopabAppR
namespace Go.Proofs.Ytfnneillakdopab
open Go.RowKit Num

/-- rows of other elements lie elsewhere -/
theorem own_kind {w : World} {b1 b2 m1 m2 n1 n2 : Nat} {e1 e2 : TypeId} {v1 v2 : Value} {xs1 xs2 : List Value} (h1 : w.ownsRow b1 e1 m1 v1 n1 xs1) (h2 : w.ownsRow b2 e2 m2 v2 n2 xs2) (he : e1 ≠ e2) : v1.ownBlock = none ∨ v1.ownBlock ≠ v2.ownBlock := by
  obtain ⟨_, ⟨rfl, _⟩ | ⟨g1, cap1, cur1, rfl, _, hh1, _⟩⟩ := h1
  · exact Or.inl rfl
  · refine Or.inr fun e => ?_
    obtain ⟨_, ⟨rfl, _⟩ | ⟨g2, cap2, cur2, rfl, _, hh2, _⟩⟩ := h2
    · simp [Value.ownBlock] at e
    · have : g1 = g2 := by simpa [Value.ownBlock] using e
      subst this
      rw [hh1] at hh2
      injection hh2 with hh2
      injection hh2 with _ hh3
      exact he hh3
theorem newsB (W : World) (b : BK) (cv : Value) (t : TypeId) : ∀ j u, (blkF (b, cv))[j]? = some u → (W.alloc (.cells (blkA b cv) t)).cell? ((⟨W.heap.size, 0, none⟩ : Addr).add j) = some u := by
  intro j u hj
  have hp : (⟨W.heap.size, 0, none⟩ : Addr).add j = ⟨W.heap.size, j, none⟩ := by unfold Addr.add; split <;> simp_all
  rw [hp, cell_of_row _ W.heap.size j _ _ (0, 0) (heap_alloc_new W _), ← hj]
  simp [blkF]
theorem onesB (b : BK) (a : Option Addr) (n cap : Nat) : ∀ u ∈ blkF (b, .slice a n cap), u.oneCell' = true := by
  intro u hu; unfold blkF at hu; simp at hu; rcases hu with h | h | h | h | h | h | h <;> subst h <;> rfl
theorem flatB_one (p : BK × Value) : flatR blkF [p] = blkF p := by simp [flatR]
theorem bks_snoc (qs : TL) (p : BK × Value) : bks (qs ++ [p]) = bks qs ++ [p.1] := by simp [bks]
theorem ne_ids : 103 ≠ 33 := by decide

theorem OwnT.push {wr w2 w3 : World} {base : Nat} {v v3 : Value} {qs : TL} {b : BK} {cv : Value} {o : Obj} (h : OwnT wr base v qs) (hb : Below wr.heap.size wr w2) (hc : w2.ownsRow wr.heap.size 103 3 cv b.2.1.length (flatR cmdF b.2.1))
    (row : w3.ownsRow base 33 7 v3 (qs.length + 1) (flatR blkF qs ++ blkF (b, cv))) (hg : (w2.alloc o).grownBy w3 v.ownBlock) (hbase : base ≤ wr.heap.size) : OwnT w3 base v3 (qs ++ [(b, cv)]) := by
  have hrow2 : (w2.alloc o).ownsRow base 33 7 v qs.length (flatR blkF qs) := World.ownsRow.alloc (own_kept h.row hb) o
  refine ⟨by rw [List.length_append, flatR_append, flatB_one]; exact row, fun p hp => ?_, ?_⟩
  · rcases List.mem_append.1 hp with hp | hp
    · have h2 : (w2.alloc o).ownsRow base 103 3 p.2 p.1.2.1.length (flatR cmdF p.1.2.1) := World.ownsRow.alloc (own_kept (h.cmds p hp) hb) o
      exact World.ownsRow.kept h2 hg (own_kind h2 hrow2 ne_ids)
    · simp at hp
      subst hp
      have h2 : (w2.alloc o).ownsRow wr.heap.size 103 3 cv b.2.1.length (flatR cmdF b.2.1) := World.ownsRow.alloc hc o
      exact own_base (World.ownsRow.kept h2 hg (own_kind h2 hrow2 ne_ids)) hbase
  · rw [List.pairwise_append]
    refine ⟨h.apart, by simp, fun p hp q hq => ?_⟩
    simp at hq
    subst hq
    exact own_ne (h.cmds p hp) hc (Nat.le_refl _)
theorem ownT_nil (w : World) : OwnT (w.alloc (.cells #[] 33)) w.heap.size (.slice (some ⟨w.heap.size, 0, none⟩) 0 0) [] := ⟨own_new w _ 7, fun p hp => (by cases hp), List.Pairwise.nil⟩

/-- a tree of one block, its commands of the call's own -/
theorem ownT_one {w : World} {base : Nat} {b : BK} {cv : Value} (hb : base ≤ w.heap.size) (hc : w.ownsRow base 103 3 cv b.2.1.length (flatR cmdF b.2.1)) :
    OwnT (w.alloc (.cells (blkA b cv) 33)) base (.slice (some ⟨w.heap.size, 0, none⟩) 1 1) [(b, cv)] := by
  refine ⟨⟨rfl, Or.inr ⟨w.heap.size, 1, blkA b cv, rfl, hb, heap_alloc_new w _, Nat.le_refl _, by unfold maxLen; omega, rfl, rfl⟩⟩, fun p hp => ?_, by simp⟩
  simp at hp
  subst hp
  exact World.ownsRow.alloc hc _

end Go.Proofs.Ytfnneillakdopab
