/-
  The contracts of the specification's functions on what enough signed: QcRight, QcOf, HigherQc, Proven.
-/
import Derived.Test.YtjieklilojmifauGreatRVoteS
namespace Go.Proofs.YtjieklilojmifauGreatR
open Go.RowKit Num

/-- what enough signed, as a value -/
def qcVal (q : QC) : Value := .agg #[.int .i64 q.1, .int .i64 q.2.1, .int .i64 q.2.2.1, .int .i64 q.2.2.2]
/-- numbers that fit -/
def fitQ (q : QC) : Prop := -9223372036854775808 ≤ q.2.2.2 ∧ q.2.2.2 ≤ 9223372036854775807

theorem pow_peers {n : Nat} (h : n ≤ 7) : (1 : Int) ≤ 2 ^ n ∧ (2 : Int) ^ n ≤ 128 := by
  match n, h with
  | 0, _ => decide
  | 1, _ => decide
  | 2, _ => decide
  | 3, _ => decide
  | 4, _ => decide
  | 5, _ => decide
  | 6, _ => decide
  | 7, _ => decide

/-- a block of four cells, written cell by cell -/
theorem blk_four {w : World} {N : Nat} {u0 u1 u2 u3 : Value} {t : TypeId} (h : w.heap[N]? = some (.cells #[u0, u1, u2, u3] t (0, 0))) (a b c d : Value) :
    (w.cell? ⟨N, 0, none⟩ = some u0 ∧ w.frozen? ⟨N, 0, none⟩ = false) ∧ ((w.setCell ⟨N, 0, none⟩ a).cell? ⟨N, 1, none⟩ = some u1 ∧ (w.setCell ⟨N, 0, none⟩ a).frozen? ⟨N, 1, none⟩ = false) ∧
      (((w.setCell ⟨N, 0, none⟩ a).setCell ⟨N, 1, none⟩ b).cell? ⟨N, 2, none⟩ = some u2 ∧ ((w.setCell ⟨N, 0, none⟩ a).setCell ⟨N, 1, none⟩ b).frozen? ⟨N, 2, none⟩ = false) ∧
      ((((w.setCell ⟨N, 0, none⟩ a).setCell ⟨N, 1, none⟩ b).setCell ⟨N, 2, none⟩ c).cell? ⟨N, 3, none⟩ = some u3 ∧ (((w.setCell ⟨N, 0, none⟩ a).setCell ⟨N, 1, none⟩ b).setCell ⟨N, 2, none⟩ c).frozen? ⟨N, 3, none⟩ = false) ∧
      ((((w.setCell ⟨N, 0, none⟩ a).setCell ⟨N, 1, none⟩ b).setCell ⟨N, 2, none⟩ c).setCell ⟨N, 3, none⟩ d).heap[N]? = some (.cells #[a, b, c, d] t (0, 0)) ∧
      w.grownBy ((((w.setCell ⟨N, 0, none⟩ a).setCell ⟨N, 1, none⟩ b).setCell ⟨N, 2, none⟩ c).setCell ⟨N, 3, none⟩ d) (some N) := by
  have h0 : (w.setCell ⟨N, 0, none⟩ a).heap[N]? = some (.cells #[a, u1, u2, u3] t (0, 0)) := heap_setCell_same w N 0 _ t a h
  have h1 : ((w.setCell ⟨N, 0, none⟩ a).setCell ⟨N, 1, none⟩ b).heap[N]? = some (.cells #[a, b, u2, u3] t (0, 0)) := heap_setCell_same _ N 1 _ t b h0
  have h2 : (((w.setCell ⟨N, 0, none⟩ a).setCell ⟨N, 1, none⟩ b).setCell ⟨N, 2, none⟩ c).heap[N]? = some (.cells #[a, b, c, u3] t (0, 0)) := heap_setCell_same _ N 2 _ t c h1
  have h3 : ((((w.setCell ⟨N, 0, none⟩ a).setCell ⟨N, 1, none⟩ b).setCell ⟨N, 2, none⟩ c).setCell ⟨N, 3, none⟩ d).heap[N]? = some (.cells #[a, b, c, d] t (0, 0)) := heap_setCell_same _ N 3 _ t d h2
  refine ⟨⟨?_, frozen_of_row w N 0 _ _ h⟩, ⟨?_, frozen_of_row _ N 1 _ _ h0⟩, ⟨?_, frozen_of_row _ N 2 _ _ h1⟩, ⟨?_, frozen_of_row _ N 3 _ _ h2⟩, h3, grown_trans (grown_trans (grown_trans (set_grown w N 0 a) (set_grown _ N 1 b)) (set_grown _ N 2 c)) (set_grown _ N 3 d)⟩
  · rw [cell_of_row w N 0 _ _ (0, 0) h]; rfl
  · rw [cell_of_row _ N 1 _ _ (0, 0) h0]; rfl
  · rw [cell_of_row _ N 2 _ _ (0, 0) h1]; rfl
  · rw [cell_of_row _ N 3 _ _ (0, 0) h2]; rfl





end Go.Proofs.YtjieklilojmifauGreatR
