/-
  Who lies, who does not: the contracts of the specification's Lies and l15Honest.
-/
import Derived.Test.YtjieklilojmifauGreatRClusO
import Derived.Test.YtjieklilojmifauGreatRQcS
namespace Go.Proofs.YtjieklilojmifauGreatR
open Go.RowKit Num

theorem bitC_neq (x : Int) (k : Nat) : ((x / 2 ^ k).tmod 2 != 0) = decide (bitT x k ≠ 0) := by
  by_cases h : bitT x k = 0
  · rw [(shr_odd x k).2 h, h]; rfl
  · have h2 : ¬ (x / 2 ^ k).tmod 2 = 0 := fun e => h ((shr_odd x k).1 e)
    rw [decide_eq_true h]; simpa using h2
/-- one of 0 .. n - 1 (below seven) whose bit is set -/
def liesB (c : CU) (i : Int) : Bool := inB i 0 (wrap64 (c.n - 1)) && (decide (i < 7) && decide (bitT c.liars i.toNat ≠ 0))
/-- one that is there, and does not lie -/
def honestB (c : CU) (i : Int) : Bool := inB i 0 ((c.peers.length : Int) - 1) && (inB i 0 (wrap64 (c.n - 1)) && !liesB c i)


end Go.Proofs.YtjieklilojmifauGreatR
