/-
  The contracts of the program's texts of votes and of what enough signed.
-/
import Derived.Test.YtnghhfgbobpnkapDoorAppI
import Derived.Test.YtnghhfgbobpnkapDoorJ0
namespace Go.Proofs.YtnghhfgbobpnkapDoor
open Go.RowKit Num

theorem nums_app (xs ys : List Int) : strOfNums (numsL (xs ++ ys)) = strOfNums (numsL xs) ++ strOfNums (numsL ys) := by
  rw [str_append]; unfold numsL; rw [List.flatMap_append]
theorem nums_one (a : Int) : strOfNums (numsL [a]) = lowT a := by unfold numsL lowT vT; simp
theorem nums_four (a b c d : Int) : strOfNums (numsL [a, b, c, d]) = fourT a b c d := by
  rw [show [a, b, c, d] = [a] ++ [b] ++ [c] ++ [d] from rfl, nums_app, nums_app, nums_app, nums_one, nums_one, nums_one, nums_one]; rfl

set_option maxRecDepth 100000 in
theorem voteText_i (a b c d : Int) (w : World) (h0 : a ≤ 9223372036854775807) (h1 : b ≤ 9223372036854775807) (h2 : c ≤ 9223372036854775807) (h3 : d ≤ 9223372036854775807) :
    Calls Tryd.prog 97 #[.agg #[.int .i64 a, .int .i64 b, .int .i64 c, .int .i64 d]] w fun e w' => e = .returned (.string (fourT a b c d)) ∧ Below w.heap.size w w' := by
  have HN : Hid (strOfNums (numsL [a, b, c, d]) = fourT a b c d) := nums_four a b c d
  go_enter Tryd.func97, Tryd.ntmps97
  go_wp2_with fail
  refine (appendVote_i w.heap.size [] (.slice none 0 0) a b c d _ h0 h1 h2 h3 (by simp) (by simp) (World.ownsRow_nil _ _ _ _)).mono ?_
  rintro e w1 ⟨v1, rfl, hv⟩
  rw [List.nil_append] at hv
  have hcv := strOfNums_row hv.1
  have HB : Hid (Below w.heap.size w w1) := (ba (Below.refl _ _) _).trans hv.2.below
  rw [HN.out] at hcv
  clear hv
  go_wp2
  go_ret
  exact ⟨rfl, HB.out⟩
set_option maxRecDepth 100000 in
theorem qcText_i (a b c d : Int) (w : World) (h0 : a ≤ 9223372036854775807) (h1 : b ≤ 9223372036854775807) (h2 : c ≤ 9223372036854775807) (h3 : d ≤ 9223372036854775807) :
    Calls Tryd.prog 96 #[.agg #[.int .i64 a, .int .i64 b, .int .i64 c, .int .i64 d]] w fun e w' => e = .returned (.string (fourT a b c d)) ∧ Below w.heap.size w w' := by
  have HN : Hid (strOfNums (numsL [a, b, c, d]) = fourT a b c d) := nums_four a b c d
  go_enter Tryd.func96, Tryd.ntmps96
  go_wp2_with fail
  refine (appendQc_i w.heap.size [] (.slice none 0 0) a b c d _ h0 h1 h2 h3 (by simp) (by simp) (World.ownsRow_nil _ _ _ _)).mono ?_
  rintro e w1 ⟨v1, rfl, hv⟩
  rw [List.nil_append] at hv
  have hcv := strOfNums_row hv.1
  have HB : Hid (Below w.heap.size w w1) := (ba (Below.refl _ _) _).trans hv.2.below
  rw [HN.out] at hcv
  clear hv
  go_wp2
  go_ret
  exact ⟨rfl, HB.out⟩

end Go.Proofs.YtnghhfgbobpnkapDoor
