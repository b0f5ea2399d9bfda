/-
  The contracts of the laws' own helpers over rows of blocks: turned into the program's.
-/
import Derived.Test.YtjieklilojmifatBlkT
namespace Go.Proofs.Ytjieklilojmifat
open Go.RowKit Num

/-- seven cells of a row of the call's own, set one behind the other -/
theorem own_seven {w : World} {base g n cap : Nat} {e : TypeId} {xs : List Value} (h : w.ownsRow base e 7 (.slice (some ⟨g, 0, none⟩) n cap) n xs) (k : Nat) (hk : k < n) (a b c d v4 v5 v6 : Value) :
    ∃ u0 u1 u2 u3 u4 u5 u6, (w.cell? ⟨g, k * 7, none⟩ = some u0 ∧ w.frozen? ⟨g, k * 7, none⟩ = false) ∧ ((w.setCell ⟨g, k * 7, none⟩ a).cell? ⟨g, k * 7 + 1, none⟩ = some u1 ∧ (w.setCell ⟨g, k * 7, none⟩ a).frozen? ⟨g, k * 7 + 1, none⟩ = false) ∧ (((w.setCell ⟨g, k * 7, none⟩ a).setCell ⟨g, k * 7 + 1, none⟩ b).cell? ⟨g, k * 7 + 2, none⟩ = some u2 ∧ ((w.setCell ⟨g, k * 7, none⟩ a).setCell ⟨g, k * 7 + 1, none⟩ b).frozen? ⟨g, k * 7 + 2, none⟩ = false) ∧ ((((w.setCell ⟨g, k * 7, none⟩ a).setCell ⟨g, k * 7 + 1, none⟩ b).setCell ⟨g, k * 7 + 2, none⟩ c).cell? ⟨g, k * 7 + 3, none⟩ = some u3 ∧ (((w.setCell ⟨g, k * 7, none⟩ a).setCell ⟨g, k * 7 + 1, none⟩ b).setCell ⟨g, k * 7 + 2, none⟩ c).frozen? ⟨g, k * 7 + 3, none⟩ = false) ∧ (((((w.setCell ⟨g, k * 7, none⟩ a).setCell ⟨g, k * 7 + 1, none⟩ b).setCell ⟨g, k * 7 + 2, none⟩ c).setCell ⟨g, k * 7 + 3, none⟩ d).cell? ⟨g, k * 7 + 4, none⟩ = some u4 ∧ ((((w.setCell ⟨g, k * 7, none⟩ a).setCell ⟨g, k * 7 + 1, none⟩ b).setCell ⟨g, k * 7 + 2, none⟩ c).setCell ⟨g, k * 7 + 3, none⟩ d).frozen? ⟨g, k * 7 + 4, none⟩ = false) ∧ ((((((w.setCell ⟨g, k * 7, none⟩ a).setCell ⟨g, k * 7 + 1, none⟩ b).setCell ⟨g, k * 7 + 2, none⟩ c).setCell ⟨g, k * 7 + 3, none⟩ d).setCell ⟨g, k * 7 + 4, none⟩ v4).cell? ⟨g, k * 7 + 5, none⟩ = some u5 ∧ (((((w.setCell ⟨g, k * 7, none⟩ a).setCell ⟨g, k * 7 + 1, none⟩ b).setCell ⟨g, k * 7 + 2, none⟩ c).setCell ⟨g, k * 7 + 3, none⟩ d).setCell ⟨g, k * 7 + 4, none⟩ v4).frozen? ⟨g, k * 7 + 5, none⟩ = false) ∧ (((((((w.setCell ⟨g, k * 7, none⟩ a).setCell ⟨g, k * 7 + 1, none⟩ b).setCell ⟨g, k * 7 + 2, none⟩ c).setCell ⟨g, k * 7 + 3, none⟩ d).setCell ⟨g, k * 7 + 4, none⟩ v4).setCell ⟨g, k * 7 + 5, none⟩ v5).cell? ⟨g, k * 7 + 6, none⟩ = some u6 ∧ ((((((w.setCell ⟨g, k * 7, none⟩ a).setCell ⟨g, k * 7 + 1, none⟩ b).setCell ⟨g, k * 7 + 2, none⟩ c).setCell ⟨g, k * 7 + 3, none⟩ d).setCell ⟨g, k * 7 + 4, none⟩ v4).setCell ⟨g, k * 7 + 5, none⟩ v5).frozen? ⟨g, k * 7 + 6, none⟩ = false) ∧ (((((((w.setCell ⟨g, k * 7, none⟩ a).setCell ⟨g, k * 7 + 1, none⟩ b).setCell ⟨g, k * 7 + 2, none⟩ c).setCell ⟨g, k * 7 + 3, none⟩ d).setCell ⟨g, k * 7 + 4, none⟩ v4).setCell ⟨g, k * 7 + 5, none⟩ v5).setCell ⟨g, k * 7 + 6, none⟩ v6).ownsRow base e 7 (.slice (some ⟨g, 0, none⟩) n cap) n (((((((xs.set (k * 7) a).set (k * 7 + 1) b).set (k * 7 + 2) c).set (k * 7 + 3) d).set (k * 7 + 4) v4).set (k * 7 + 5) v5).set (k * 7 + 6) v6) ∧ w.grownBy (((((((w.setCell ⟨g, k * 7, none⟩ a).setCell ⟨g, k * 7 + 1, none⟩ b).setCell ⟨g, k * 7 + 2, none⟩ c).setCell ⟨g, k * 7 + 3, none⟩ d).setCell ⟨g, k * 7 + 4, none⟩ v4).setCell ⟨g, k * 7 + 5, none⟩ v5).setCell ⟨g, k * 7 + 6, none⟩ v6) (some g) := by
  have hl := h.1
  have b0 : k * 7 < xs.length := by omega
  have b1 : k * 7 + 1 < xs.length := by omega
  have b2 : k * 7 + 2 < xs.length := by omega
  have b3 : k * 7 + 3 < xs.length := by omega
  have b4 : k * 7 + 4 < xs.length := by omega
  have b5 : k * 7 + 5 < xs.length := by omega
  have b6 : k * 7 + 6 < xs.length := by omega
  have s0 := h.stored (k * 7) a
  have s1 := s0.1.stored (k * 7 + 1) b
  have s2 := s1.1.stored (k * 7 + 2) c
  have s3 := s2.1.stored (k * 7 + 3) d
  have s4 := s3.1.stored (k * 7 + 4) v4
  have s5 := s4.1.stored (k * 7 + 5) v5
  have s6 := s5.1.stored (k * 7 + 6) v6
  refine ⟨xs[k * 7], xs[k * 7 + 1], xs[k * 7 + 2], xs[k * 7 + 3], xs[k * 7 + 4], xs[k * 7 + 5], xs[k * 7 + 6], ⟨?_, h.frozenAt _⟩, ⟨?_, s0.1.frozenAt _⟩, ⟨?_, s1.1.frozenAt _⟩, ⟨?_, s2.1.frozenAt _⟩, ⟨?_, s3.1.frozenAt _⟩, ⟨?_, s4.1.frozenAt _⟩, ⟨?_, s5.1.frozenAt _⟩, s6.1, (grown_trans (grown_trans (grown_trans (grown_trans (grown_trans (grown_trans s0.2 s1.2) s2.2) s3.2) s4.2) s5.2) s6.2)⟩
  · rw [h.cellAt _ (by omega), List.getElem?_eq_getElem b0]
  · rw [s0.1.cellAt _ (by omega), List.getElem?_set_ne (by omega), List.getElem?_eq_getElem b1]
  · rw [s1.1.cellAt _ (by omega), List.getElem?_set_ne (by omega), List.getElem?_set_ne (by omega), List.getElem?_eq_getElem b2]
  · rw [s2.1.cellAt _ (by omega), List.getElem?_set_ne (by omega), List.getElem?_set_ne (by omega), List.getElem?_set_ne (by omega), List.getElem?_eq_getElem b3]
  · rw [s3.1.cellAt _ (by omega), List.getElem?_set_ne (by omega), List.getElem?_set_ne (by omega), List.getElem?_set_ne (by omega), List.getElem?_set_ne (by omega), List.getElem?_eq_getElem b4]
  · rw [s4.1.cellAt _ (by omega), List.getElem?_set_ne (by omega), List.getElem?_set_ne (by omega), List.getElem?_set_ne (by omega), List.getElem?_set_ne (by omega), List.getElem?_set_ne (by omega), List.getElem?_eq_getElem b5]
  · rw [s5.1.cellAt _ (by omega), List.getElem?_set_ne (by omega), List.getElem?_set_ne (by omega), List.getElem?_set_ne (by omega), List.getElem?_set_ne (by omega), List.getElem?_set_ne (by omega), List.getElem?_set_ne (by omega), List.getElem?_eq_getElem b6]

/-- these blocks have been set, whatever else stands behind them -/
def preB (qs : TL) (xs : List Value) : Prop := ∃ ys, xs = flatR blkF qs ++ ys
theorem preB_step {qs : TL} {xs : List Value} {n k : Nat} (h : preB qs xs) (hq : qs.length = k) (hx : xs.length = n * 7) (hk : k < n) (p : BK × Value) :
    preB (qs ++ [p]) (((((((xs.set (k * 7) (.int .i64 p.1.1.1)).set (k * 7 + 1) (.int .i64 p.1.1.2)).set (k * 7 + 2) p.2).set (k * 7 + 3) (.int .i64 p.1.2.2.1)).set (k * 7 + 4) (.int .i64 p.1.2.2.2.1)).set (k * 7 + 5) (.int .i64 p.1.2.2.2.2.1)).set (k * 7 + 6) (.int .i64 p.1.2.2.2.2.2)) := by
  subst hq
  obtain ⟨ys, rfl⟩ := h
  have hf := flatR_len blkF_len qs
  have hy : 7 ≤ ys.length := by rw [List.length_append, hf] at hx; omega
  obtain ⟨y0, y1, y2, y3, y4, y5, y6, zs, rfl⟩ : ∃ y0 y1 y2 y3 y4 y5 y6 zs, ys = y0 :: y1 :: y2 :: y3 :: y4 :: y5 :: y6 :: zs := by
    match ys, hy with
    | y0 :: y1 :: y2 :: y3 :: y4 :: y5 :: y6 :: zs, _ => exact ⟨y0, y1, y2, y3, y4, y5, y6, zs, rfl⟩
  refine ⟨zs, ?_⟩
  rw [flatR_append, flatB_one, ← hf]
  simp [blkF]
theorem preB_all {qs : TL} {xs : List Value} (h : preB qs xs) (hx : xs.length = qs.length * 7) : xs = flatR blkF qs := by
  obtain ⟨ys, rfl⟩ := h
  rw [List.length_append, flatR_len blkF_len] at hx
  obtain rfl : ys = [] := List.eq_nil_of_length_eq_zero (by omega)
  simp

/-- the rows of the commands of blocks, of the call's own and apart -/
def CmdsT (w : World) (base : Nat) (qs : TL) : Prop := (∀ p ∈ qs, w.ownsRow base 134 3 p.2 p.1.2.1.length (flatR cmdF p.1.2.1)) ∧ qs.Pairwise fun p q => q.2.ownBlock = none ∨ q.2.ownBlock ≠ p.2.ownBlock
theorem cmdsT_nil (w : World) (base : Nat) : CmdsT w base [] := ⟨fun p hp => (by cases hp), List.Pairwise.nil⟩
theorem CmdsT.push {wr w2 w3 : World} {base n : Nat} {qs : TL} {b : BK} {cv : Value} {xs : List Value} {g : Nat} {cap : Nat} (h : CmdsT wr base qs) (hb : Below wr.heap.size wr w2) (hc : w2.ownsRow wr.heap.size 134 3 cv b.2.1.length (flatR cmdF b.2.1))
    (hrow : w2.ownsRow base 128 7 (.slice (some ⟨g, 0, none⟩) n cap) n xs) (hg : w2.grownBy w3 (some g)) (hbase : base ≤ wr.heap.size) : CmdsT w3 base (qs ++ [(b, cv)]) := by
  refine ⟨fun p hp => ?_, ?_⟩
  · rcases List.mem_append.1 hp with hp | hp
    · have h2 := own_kept (h.1 p hp) hb
      exact World.ownsRow.kept h2 hg (own_kind h2 hrow ne_ids)
    · simp at hp
      subst hp
      exact own_base (World.ownsRow.kept hc hg (own_kind hc hrow ne_ids)) hbase
  · rw [List.pairwise_append]
    refine ⟨h.2, by simp, fun p hp q hq => ?_⟩
    simp at hq
    subst hq
    exact own_ne (h.1 p hp) hc (Nat.le_refl _)


end Go.Proofs.Ytjieklilojmifat
