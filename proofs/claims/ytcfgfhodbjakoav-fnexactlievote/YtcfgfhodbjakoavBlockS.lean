/-
  The contracts of the specification's FirstBlock and SameBlock.
-/
import Derived.Test.YtcfgfhodbjakoavEqX
import Derived.BigQuiet
namespace Go.Proofs.Ytcfgfhodbjakoav
open Go.RowKit Num


/-- as far as place k two rows of commands are the same -/
def sameTo (l l' : List CM) (k : Nat) : Prop := ∀ j (h : j < l.length) (h' : j < l'.length), j < k → l[j] = l'[j]
theorem sameTo_all {l l' : List CM} (hl : l.length = l'.length) (h : sameTo l l' l.length) : l = l' :=
  List.ext_getElem hl fun i h1 h2 => h i h1 h2 h1
theorem sameTo_next {l l' : List CM} {k : Nat} (h : sameTo l l' k) (hk : k < l.length) (hk' : k < l'.length) (e : l[k] = l'[k]) : sameTo l l' (k + 1) := fun j hj hj' hjk => by
  by_cases hh : j = k
  · subst hh; exact e
  · exact h j hj hj' (by omega)
theorem bk_ne1 {a b : BK} (h : a.1.1 ≠ b.1.1) : decide (a = b) = false := decide_eq_false fun e => h (by rw [e])
theorem bk_ne2 {a b : BK} (h : a.1.2 ≠ b.1.2) : decide (a = b) = false := decide_eq_false fun e => h (by rw [e])
theorem bk_ne3 {a b : BK} (h : a.2.2 ≠ b.2.2) : decide (a = b) = false := decide_eq_false fun e => h (by rw [e])
theorem bk_ne4 {a b : BK} (h : a.2.1.length ≠ b.2.1.length) : decide (a = b) = false := decide_eq_false fun e => h (by rw [e])
theorem bk_ne5 {a b : BK} {k : Nat} (hk : k < a.2.1.length) (hk' : k < b.2.1.length) (h : a.2.1[k] ≠ b.2.1[k]) : decide (a = b) = false := decide_eq_false fun e => h (by simp only [e])
theorem bk_eq {a b : BK} (h1 : a.1.1 = b.1.1) (h2 : a.1.2 = b.1.2) (h3 : a.2.2 = b.2.2) (h4 : a.2.1 = b.2.1) : decide (a = b) = true := decide_eq_true (Prod.ext (Prod.ext h1 h2) (Prod.ext h4 h3))

/-- the seven cells of a boxed block -/
theorem blk_cells {w : World} {n : Nat} {b : BK} {cv : Value} {t : TypeId} (h : w.heap[n]? = some (.cells (blkA b cv) t (0, 0))) :
    w.cell? ⟨n, 0, none⟩ = some (.int .i64 b.1.1) ∧ w.cell? ⟨n, 1, none⟩ = some (.int .i64 b.1.2) ∧ w.cell? ⟨n, 2, none⟩ = some cv ∧ w.cell? ⟨n, 3, none⟩ = some (.int .i64 b.2.2.1) ∧ w.cell? ⟨n, 4, none⟩ = some (.int .i64 b.2.2.2.1) ∧ w.cell? ⟨n, 5, none⟩ = some (.int .i64 b.2.2.2.2.1) ∧ w.cell? ⟨n, 6, none⟩ = some (.int .i64 b.2.2.2.2.2) := by
  refine ⟨?_, ?_, ?_, ?_, ?_, ?_, ?_⟩ <;> rw [cell_of_row w n _ _ _ (0, 0) h] <;> rfl


end Go.Proofs.Ytcfgfhodbjakoav
