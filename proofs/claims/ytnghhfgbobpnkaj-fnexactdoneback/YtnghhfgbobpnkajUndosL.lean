/-
  The contracts of the laws' own helpers over rows of what accounts had.
-/
import Derived.Test.YtnghhfgbobpnkajUndoL
import Derived.Test.YtnghhfgbobpnkajMark
import Derived.BigQuiet
namespace Go.Proofs.Ytnghhfgbobpnkaj
open Go.RowKit Num

/-- what is left when these sizes are taken off -/
def szu : List UN → Int → Int
  | [], left => left
  | c :: l, left => if left - c.1.size < 0 then -1 else szu l (left - c.1.size)
def szUndosC (l : List UN) (left : Int) : Int := if left - l.length < 0 then -1 else szu l (left - l.length)
theorem szu_bd (l : List UN) : ∀ left : Int, left ≤ 1048576 → 0 ≤ szu l left → ∀ c ∈ l, (c.1.size : Int) ≤ 1048576 := by
  induction l with
  | nil => intro left _ _ c h; cases h
  | cons c l ih =>
    intro left hl h x hx
    unfold szu at h
    split at h
    · omega
    · rcases List.mem_cons.1 hx with rfl | hx
      · omega
      · exact ih _ (by omega) h x hx
theorem szUndos_bd {l : List UN} {left : Int} (hl : left ≤ 1048576) (h : 0 ≤ szUndosC l left) : (l.length : Int) ≤ 1048576 ∧ ∀ c ∈ l, (c.1.size : Int) ≤ 1048576 := by
  unfold szUndosC at h
  split at h
  · omega
  · exact ⟨by omega, szu_bd l _ (by omega) h⟩
theorem szu_drop (l : List UN) (k : Nat) (h : k < l.length) (left : Int) : szu (l.drop k) left = if left - (l[k].1.size : Int) < 0 then -1 else szu (l.drop (k + 1)) (left - l[k].1.size) := by
  rw [List.drop_eq_getElem_cons h]; rfl


end Go.Proofs.Ytnghhfgbobpnkaj
