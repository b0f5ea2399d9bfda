/-
  The accounts that a row of blocks makes: the contract of the specification's RowCells.
-/
import Derived.Test.YtnghhfgbobpnkarGreatRDoneAllS
import Derived.Test.YtnghhfgbobpnkarGreatRJ2
import Derived.Test.YtnghhfgbobpnkarGreatRJ1
namespace Go.Proofs.YtnghhfgbobpnkarGreatR
open Go.RowKit Num

/-- the commands of a block of the tree; none of what is no block of it -/
def cmdsAt (t : List BK) (k : Int) : List CM := if 0 ≤ k ∧ k ≤ (t.length : Int) - 1 then (t[k.toNat]?.getD firstB).2.1 else []
def rowC (t : List BK) : CL → List Int → CL
  | cs, [] => cs
  | cs, k :: row => rowC t (doneAllC cs (cmdsAt t k)) row
theorem rowC_take (t : List BK) (row : List Int) : ∀ (cs : CL) (m : Nat) (h : m < row.length), rowC t cs (row.take (m + 1)) = doneAllC (rowC t cs (row.take m)) (cmdsAt t row[m]) := by
  induction row with
  | nil => intro cs m h; simp at h
  | cons k row ih =>
    intro cs m h
    cases m with
    | zero => rfl
    | succ m =>
      have := ih (doneAllC cs (cmdsAt t k)) m (by simpa using h)
      simpa [rowC] using this
theorem cmdsAt_ok {t : List BK} (h : okT t) (k : Int) : (∀ c ∈ cmdsAt t k, (c.2.1.size : Int) ≤ 1048576) ∧ ((cmdsAt t k).length : Int) ≤ 1048576 := by
  unfold cmdsAt
  split
  · rename_i hk
    have hlt : k.toNat < t.length := by omega
    rw [List.getElem?_eq_getElem hlt]
    have := h.2 _ (List.getElem_mem hlt)
    exact ⟨this.2, this.1⟩
  · exact ⟨fun c hc => (by cases hc), by simp⟩
theorem rowC_ok {t : List BK} (ht : okT t) (row : List Int) : ∀ cs, okL cs → okL (rowC t cs row) := by
  induction row with
  | nil => intro cs h; exact h
  | cons k row ih => intro cs h; exact ih _ (okL_all _ h (cmdsAt_ok ht k).1)


end Go.Proofs.YtnghhfgbobpnkarGreatR
