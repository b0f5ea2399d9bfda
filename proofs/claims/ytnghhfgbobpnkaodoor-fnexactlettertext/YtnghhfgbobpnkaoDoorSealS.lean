/-
  The contracts of the specification's Sealed and Unsealed.
-/
import Derived.Test.YtnghhfgbobpnkaoDoorSumS
import Derived.Test.YtnghhfgbobpnkaoDoorSealX
import Derived.Test.YtnghhfgbobpnkaoDoorBw
import Derived.WalkSmall
namespace Go.Proofs.YtnghhfgbobpnkaoDoor
open Go.RowKit Num

theorem four_s (x : Nat) (hx : x < 4294967296) (w : World) :
    Calls Tryd.prog 17 #[.int .u32 (x : Int)] w fun e w' => e = .returned (.string (strOfNums (seal4 x))) ∧ Below w.heap.size w w' := by
  have hcv := four_str w ((x : Int) / 16777216) ((x : Int) / 65536 % 256) ((x : Int) / 256 % 256) ((x : Int) % 256) 5
  go_enter Tryd.func17, Tryd.ntmps17
  go_wp2
  go_ret
  exact ⟨rfl, (Below.refl _ _).alloc (Nat.le_refl _) _⟩

theorem sealed_no_s (s : ByteArray) (w : World) (h : (20000 : Int) < s.size) :
    Calls Tryd.prog 7 #[.string s] w fun e w' => e = .returned (.tuple #[.string ByteArray.empty, .bool false]) ∧ Below w.heap.size w w' := by
  go_enter Tryd.func7, Tryd.ntmps7
  go_wp2
  go_ret2
  exact ⟨rfl, Below.refl _ _⟩

theorem sealed_yes_s (s : ByteArray) (w : World) (h : (s.size : Int) ≤ 20000) :
    Calls Tryd.prog 7 #[.string s] w fun e w' => e = .returned (.tuple #[.string (s ++ strOfNums (seal4 (sumT s))), .bool true]) ∧ Below w.heap.size w w' := by
  have hx := sumT_lt s
  have hr : s.size + (strOfNums (seal4 (sumT s))).size ≤ 9223372036854775807 := by
    rw [strOfNums_size]; simp [seal4]; omega
  go_enter Tryd.func7, Tryd.ntmps7
  go_wp2_with fail
  refine (sumOf_s s (by omega) w).mono ?_
  rintro e w1 ⟨rfl, hw⟩
  obtain rfl := hw.symm
  clear hw
  go_wp2_with fail
  refine (four_s (sumT s) hx _).mono ?_
  rintro e w2 ⟨rfl, hb⟩
  go_wp2
  go_ret2
  exact ⟨rfl, hb⟩


end Go.Proofs.YtnghhfgbobpnkaoDoor
