/-
  The one variable of package errors that errors.As reads.
-/
import Derived.Test.YtcfgfhodbjakoavGreatDoorJ0
namespace Go.Proofs.YtcfgfhodbjakoavGreatDoor
open Go.RowKit Num

/-- the one variable of package errors that errors.As reads -/
abbrev ErrVar (w : World) : Prop := w.cell? ⟨0, 0, none⟩ = some (.iface 210 (.agg #[.pointer (some ⟨1, 83, none⟩)]))
theorem ErrVar.block {w w' : World} (h : ErrVar w) (hb : w'.heap[0]? = w.heap[0]?) : ErrVar w' := by
  unfold ErrVar at h ⊢
  simp only [World.cell?] at h ⊢
  rw [hb]
  exact h
theorem ErrVar.pos {w : World} (h : ErrVar w) : 0 < w.heap.size := by
  rcases Nat.eq_zero_or_pos w.heap.size with h0 | h1
  · simp [ErrVar, World.cell?, h0] at h
  · exact h1
theorem ErrVar.below {w w' : World} (h : ErrVar w) (hb : Below w.heap.size w w') : ErrVar w' := h.block (hb.block 0 h.pos)

end Go.Proofs.YtcfgfhodbjakoavGreatDoor
