/-
  The decimal figures of a number.
-/
import Derived.WalkKit
import Derived.Laws.BytesArg
namespace Go.Proofs.Ytjdddcldbfhbial.Num

/-- the decimal figures of a number above 0, the highest first; the first argument bounds the rounds -/
def dd : Nat → Nat → List Int
  | 0, _ => []
  | f + 1, n => if n = 0 then [] else dd f (n / 10) ++ [(48 : Int) + ((n % 10 : Nat) : Int)]

theorem dd_zero (f : Nat) : dd f 0 = [] := by cases f <;> rfl

theorem dd_step (f n : Nat) (h : 0 < n) (hf : n ≤ f) : ∃ g, dd f n = dd g (n / 10) ++ [(48 : Int) + ((n % 10 : Nat) : Int)] ∧ n / 10 ≤ g := by
  cases f with
  | zero => omega
  | succ f =>
    refine ⟨f, ?_, by omega⟩
    show (if n = 0 then [] else dd f (n / 10) ++ [(48 : Int) + ((n % 10 : Nat) : Int)]) = _
    rw [if_neg (by omega)]

/-- the decimal figures of a number -/
def dec (n : Int) : List Int := if n = 0 then [48] else if n < 0 then 45 :: dd n.natAbs n.natAbs else dd n.natAbs n.natAbs

theorem abs_div (m : Int) (h : 0 ≤ m) : (m / 10).natAbs = m.natAbs / 10 := by omega

theorem abs_mod (m : Int) (h : 0 ≤ m) : ((m.natAbs % 10 : Nat) : Int) = m % 10 := by omega

theorem str_append (a b : List Int) : strOfNums a ++ strOfNums b = strOfNums (a ++ b) := by
  apply ByteArray.ext
  simp [strOfNums, ByteArray.data_append]

end Go.Proofs.Ytjdddcldbfhbial.Num
