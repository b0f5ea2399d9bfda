/-
  The contracts of the laws' own helpers over rows of numbers: held against each other, marked, looked at again.
-/
import Derived.Test.YtnghhfgbobpnkanRowX
import Derived.Test.YtnghhfgbobpnkanCellX
import Derived.BigQuiet
namespace Go.Proofs.Ytnghhfgbobpnkan
open Go.RowKit Num


/-- the marks of n numbers, from k on -/
def imarks (k n : Nat) : List Int := (List.range n).map fun i => ((k + i : Nat) : Int)
theorem imarks_len (k n : Nat) : (imarks k n).length = n := by simp [imarks]
theorem imarks_at {k n i : Nat} (h : i < n) : (imarks k n)[i]? = some ((k : Int) + (i : Int)) := by
  unfold imarks; rw [List.getElem?_map, List.getElem?_range h]; simp
theorem upTo_imarks {k n m : Nat} {ys : List Value} (h : upToR intF 1 (imarks k n) ys m) (hm : m < n) : upToR intF 1 (imarks k n) (ys.set m (.int .i64 ((k : Int) + (m : Int)))) (m + 1) := by
  have hl := h.1
  rw [imarks_len] at hl
  refine upToR_step intF_len h (by rw [imarks_len]; exact hm) (by simp) (fun j hj => ?_) (fun j hj => ?_)
  · rw [List.getElem?_set_ne (by omega)]
  · have : j = 0 := by omega
    subst this
    have e := imarks_at (k := k) hm
    rw [List.getElem?_eq_getElem (by rw [imarks_len]; exact hm)] at e
    rw [Nat.mul_one, Nat.add_zero, List.getElem?_set_self (by omega), Option.some.inj e]; rfl


end Go.Proofs.Ytnghhfgbobpnkan
