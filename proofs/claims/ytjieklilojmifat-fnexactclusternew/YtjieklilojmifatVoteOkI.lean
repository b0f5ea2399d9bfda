/-
  The contract of the program's VoteOk. (Made by gi7.py.)
-/
import Derived.Test.YtjieklilojmifatVoteS
import Derived.Test.YtjieklilojmifatVoteI
import Derived.Test.YtjieklilojmifatJ0
namespace Go.Proofs.Ytjieklilojmifat
open Go.RowKit Num

theorem inB_is (x a b : Int) : inB x a b = (decide (a ≤ x) && decide (x ≤ b)) := by unfold inB; exact Bool.decide_and _ _
theorem voteB_iff (t : List BK) (n p vw bl by' : Int) : voteB t n (p, vw, bl, by') = true ↔ (1 ≤ n ∧ n ≤ 7 ∧ 1 ≤ p ∧ p ≤ 4 ∧ 1 ≤ vw ∧ vw ≤ 900 ∧ 0 < bl ∧ bl < (t.length : Int) ∧ viewAt t bl = vw ∧ 0 ≤ by' ∧ by' < n) := by
  unfold voteB
  simp only [inB_is, Bool.and_eq_true, decide_eq_true_eq]
  omega
theorem voteB_no {t : List BK} {n p vw bl by' : Int} (h : ¬ (1 ≤ n ∧ n ≤ 7 ∧ 1 ≤ p ∧ p ≤ 4 ∧ 1 ≤ vw ∧ vw ≤ 900 ∧ 0 < bl ∧ bl < (t.length : Int) ∧ viewAt t bl = vw ∧ 0 ≤ by' ∧ by' < n)) : voteB t n (p, vw, bl, by') = false := by
  cases hv : voteB t n (p, vw, bl, by') with
  | false => rfl
  | true => exact absurd ((voteB_iff t n p vw bl by').1 hv) h


end Go.Proofs.Ytjieklilojmifat
