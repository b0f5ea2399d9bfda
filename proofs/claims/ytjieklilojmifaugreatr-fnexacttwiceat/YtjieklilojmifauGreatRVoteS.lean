/-
  The contracts of the specification's functions on votes that read a tree or votes: VoteOk, QcRight, QcOf, HigherQc, Proven.
-/
import Derived.Test.YtjieklilojmifauGreatRJ0
import Derived.Test.YtjieklilojmifauGreatRJ2
namespace Go.Proofs.YtjieklilojmifauGreatR
open Go.RowKit Num

theorem in_is {x a b : Int} {r : Bool} (h : inB x a b = r) (w : World) : Calls Tryz.prog 79 #[.int .i64 x, .int .i64 a, .int .i64 b] w fun e w' => e = .returned (.bool r) ∧ w' = w := by rw [← h]; exact in_any x a b w
theorem vote_cells {w : World} {N : Nat} {a b c d : Value} {t : TypeId} (h : w.heap[N]? = some (.cells #[a, b, c, d] t (0, 0))) : w.cell? ⟨N, 0, none⟩ = some a ∧ w.cell? ⟨N, 1, none⟩ = some b ∧ w.cell? ⟨N, 2, none⟩ = some c ∧ w.cell? ⟨N, 3, none⟩ = some d := by
  refine ⟨?_, ?_, ?_, ?_⟩
  · rw [cell_of_row w N 0 _ _ (0, 0) h]; rfl
  · rw [cell_of_row w N 1 _ _ (0, 0) h]; rfl
  · rw [cell_of_row w N 2 _ _ (0, 0) h]; rfl
  · rw [cell_of_row w N 3 _ _ (0, 0) h]; rfl


end Go.Proofs.YtjieklilojmifauGreatR
