/-
  The contracts of the program's texts of votes and of what enough signed.
-/
import Derived.Test.YtnghhfgbobpnkaoDoorAppI
import Derived.Test.YtnghhfgbobpnkaoDoorCellX
import Derived.Test.YtnghhfgbobpnkaoDoorDecN
namespace Go.Proofs.YtnghhfgbobpnkaoDoor
open Go.RowKit Num

theorem nums_app (xs ys : List Int) : strOfNums (numsL (xs ++ ys)) = strOfNums (numsL xs) ++ strOfNums (numsL ys) := by
  rw [str_append]; unfold numsL; rw [List.flatMap_append]
theorem nums_one (a : Int) : strOfNums (numsL [a]) = lowT a := by unfold numsL lowT vT; simp
theorem nums_four (a b c d : Int) : strOfNums (numsL [a, b, c, d]) = fourT a b c d := by
  rw [show [a, b, c, d] = [a] ++ [b] ++ [c] ++ [d] from rfl, nums_app, nums_app, nums_app, nums_one, nums_one, nums_one, nums_one]; rfl


end Go.Proofs.YtnghhfgbobpnkaoDoor
