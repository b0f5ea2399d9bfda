/-
  The contract of the specification's l01In: whether a number stands in an interval.
-/
import Derived.Test.YtnghhfgbobpnkaoDoorRows
import Derived.WalkKit
namespace Go.Proofs.YtnghhfgbobpnkaoDoor
open Go.RowKit

/-- whether a number stands in an interval, as a Bool that no walk opens -/
def inB (x a b : Int) : Bool := decide (a ≤ x ∧ x ≤ b)

theorem inB_yes {x a b : Int} (h : a ≤ x ∧ x ≤ b) : inB x a b = true := by simp [inB, h]

theorem inB_no {x a b : Int} (h : ¬ (a ≤ x ∧ x ≤ b)) : inB x a b = false := by simp only [inB, decide_eq_false_iff_not]; exact h


end Go.Proofs.YtnghhfgbobpnkaoDoor
