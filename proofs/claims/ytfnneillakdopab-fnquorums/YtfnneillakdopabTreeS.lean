/-
  The contract of the specification's TreeOk.
-/
import Derived.Test.YtfnneillakdopabBlockS2
namespace Go.Proofs.Ytfnneillakdopab
open Go.RowKit Num

theorem okT_take {ps : TL} (h : okT (bks ps)) (k : Nat) : okT (bks (ps.take k)) := by
  rw [bks_take]
  refine ⟨?_, fun b hb => h.2 b (List.mem_of_mem_take hb)⟩
  have := h.1
  rw [List.length_take]; omega
theorem rows_none (w : World) : RowsR w (.slice none 0 0) 3 cmdF (firstB.2.1) := ⟨none, 0, rfl, fun h => by simp [firstB] at h⟩


end Go.Proofs.Ytfnneillakdopab
