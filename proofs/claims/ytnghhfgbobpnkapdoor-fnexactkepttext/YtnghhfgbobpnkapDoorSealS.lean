/-
  The contracts of the specification's Sealed and Unsealed.
-/
import Derived.Test.YtnghhfgbobpnkapDoorSumS
import Derived.Test.YtnghhfgbobpnkapDoorSealX
import Derived.Test.YtnghhfgbobpnkapDoorJ0
import Derived.WalkSmall
namespace Go.Proofs.YtnghhfgbobpnkapDoor
open Go.RowKit Num

theorem four_s (x : Nat) (hx : x < 4294967296) (w : World) :
    Calls Tryd.prog 65 #[.int .u32 (x : Int)] w fun e w' => e = .returned (.string (strOfNums (seal4 x))) ∧ Below w.heap.size w w' := by
  have hcv := four_str w ((x : Int) / 16777216) ((x : Int) / 65536 % 256) ((x : Int) / 256 % 256) ((x : Int) % 256) 5
  go_enter Tryd.func65, Tryd.ntmps65
  go_wp2
  go_ret
  exact ⟨rfl, (Below.refl _ _).alloc (Nat.le_refl _) _⟩

theorem sealed_no_s (s : ByteArray) (w : World) (h : (20000 : Int) < s.size) :
    Calls Tryd.prog 37 #[.string s] w fun e w' => e = .returned (.tuple #[.string ByteArray.empty, .bool false]) ∧ Below w.heap.size w w' := by
  go_enter Tryd.func37, Tryd.ntmps37
  go_wp2
  go_ret2
  exact ⟨rfl, Below.refl _ _⟩

theorem sealed_yes_s (s : ByteArray) (w : World) (h : (s.size : Int) ≤ 20000) :
    Calls Tryd.prog 37 #[.string s] w fun e w' => e = .returned (.tuple #[.string (s ++ strOfNums (seal4 (sumT s))), .bool true]) ∧ Below w.heap.size w w' := by
  have hx := sumT_lt s
  have hr : s.size + (strOfNums (seal4 (sumT s))).size ≤ 9223372036854775807 := by
    rw [strOfNums_size]; simp [seal4]; omega
  go_enter Tryd.func37, Tryd.ntmps37
  go_wp2_with fail
  refine (sumOf_s s (by omega) w).mono ?_
  rintro e w1 ⟨rfl, hw⟩
  obtain rfl := hw.symm
  clear hw
  go_wp2_with fail
  refine (four_s (sumT s) hx _).mono ?_
  rintro e w2 ⟨rfl, hb⟩
  go_wp2
  go_ret2
  exact ⟨rfl, hb⟩

theorem unsealed_short_s (s : ByteArray) (w : World) (h : (s.size : Int) < 4) :
    Calls Tryd.prog 18 #[.string s] w fun e w' => e = .returned (.tuple #[.string ByteArray.empty, .bool false]) ∧ Below w.heap.size w w' := by
  have d1 : decide ((s.size : Int) - 4 < 0) = true := decide_eq_true (by omega)
  go_enter Tryd.func18, Tryd.ntmps18
  go_wp2
  go_quiet (fail)
  go_wp2
  go_ret2
  exact ⟨rfl, below_drewN (Below.refl _ _) _⟩

theorem unsealed_long_s (s : ByteArray) (w : World) (h : (20004 : Int) < s.size) (hs : (s.size : Int) ≤ 1048600) :
    Calls Tryd.prog 18 #[.string s] w fun e w' => e = .returned (.tuple #[.string ByteArray.empty, .bool false]) ∧ Below w.heap.size w w' := by
  have d1 : decide ((s.size : Int) - 4 < 0) = false := decide_eq_false (by omega)
  have d2 : decide ((20000 : Int) < (s.size : Int) - 4) = true := decide_eq_true (by omega)
  go_enter Tryd.func18, Tryd.ntmps18
  go_wp2
  go_quiet (fail)
  go_wp2
  go_ret2
  exact ⟨rfl, below_drewN (Below.refl _ _) _⟩

set_option maxHeartbeats 1000000 in
theorem unsealed_bad_s (s : ByteArray) (w : World) (n : Nat) (hn : (s.size : Int) - 4 = (n : Int)) (h2 : (n : Int) ≤ 20000) (hbad : Hid (¬ sealRight s n)) :
    Calls Tryd.prog 18 #[.string s] w fun e w' => e = .returned (.tuple #[.string ByteArray.empty, .bool false]) ∧ Below w.heap.size w w' := by
  have hx := sumT_lt (s.extract 0 n)
  have q1 : (0 : Int) ≤ (n : Int) := by omega
  have q3 : (n : Int) ≤ (s.size : Int) := by omega
  have hz : (s.extract 0 n).size ≤ 20000 := by rw [ByteArray.size_extract]; omega
  have d1 : decide ((n : Int) < 0) = false := by simp
  have d2 : decide ((20000 : Int) < (n : Int)) = false := by simpa using h2
  have hne := seal_ne hbad.out
  go_enter Tryd.func18, Tryd.ntmps18
  go_wp2
  have hnb := bw_some w
  refine wp_region_bw (by kernel_rfl) (by kernel_rfl) ?_
  repeat (go_big_quiet_step (first | refine calls_bw_same (sumOf_s _ (by omega) _) | refine calls_bw (four_s (sumT (s.extract 0 n)) hx _)))
  refine wpQuiet_nil ?_
  intro _ hw'
  obtain ⟨x, rfl⟩ := hw'
  go_wp2
  go_ret2
  exact ⟨rfl, x.below⟩

set_option maxHeartbeats 1000000 in
theorem unsealed_good_s (s : ByteArray) (w : World) (n : Nat) (hn : (s.size : Int) - 4 = (n : Int)) (h2 : (n : Int) ≤ 20000) (hgood : Hid (sealRight s n)) :
    Calls Tryd.prog 18 #[.string s] w fun e w' => e = .returned (.tuple #[.string (s.extract 0 n), .bool true]) ∧ Below w.heap.size w w' := by
  have hx := sumT_lt (s.extract 0 n)
  have q1 : (0 : Int) ≤ (n : Int) := by omega
  have q3 : (n : Int) ≤ (s.size : Int) := by omega
  have hz : (s.extract 0 n).size ≤ 20000 := by rw [ByteArray.size_extract]; omega
  have d1 : decide ((n : Int) < 0) = false := by simp
  have d2 : decide ((20000 : Int) < (n : Int)) = false := by simpa using h2
  have hne := seal_eq hgood.out
  go_enter Tryd.func18, Tryd.ntmps18
  go_wp2
  have hnb := bw_some w
  refine wp_region_bw (by kernel_rfl) (by kernel_rfl) ?_
  repeat (go_big_quiet_step (first | refine calls_bw_same (sumOf_s _ (by omega) _) | refine calls_bw (four_s (sumT (s.extract 0 n)) hx _)))
  refine wpQuiet_nil ?_
  intro _ hw'
  obtain ⟨x, rfl⟩ := hw'
  go_wp2
  go_ret2
  exact ⟨rfl, x.below⟩

end Go.Proofs.YtnghhfgbobpnkapDoor
