/-
  The contract of impl.Unsealed.
-/
import Derived.Test.YtjdddcldbfhbiaaDoorSealI
import Derived.BigQuiet
import Derived.WalkSmall
namespace Go.Proofs.YtjdddcldbfhbiaaDoor
open Go.RowKit Num

theorem unsealed_short_i (s : ByteArray) (w : World) (h : (s.size : Int) < 4) :
    Calls Tryd.prog 19 #[.string s] w fun e w' => e = .returned (.tuple #[.string ByteArray.empty, .bool false]) ∧ Below w.heap.size w w' := by
  go_enter Tryd.func19, Tryd.ntmps19
  go_wp2
  go_ret2
  exact ⟨rfl, Below.refl _ _⟩

theorem unsealed_long_i (s : ByteArray) (w : World) (h : (20004 : Int) < s.size) (hs : (s.size : Int) ≤ 1048600) :
    Calls Tryd.prog 19 #[.string s] w fun e w' => e = .returned (.tuple #[.string ByteArray.empty, .bool false]) ∧ Below w.heap.size w w' := by
  go_enter Tryd.func19, Tryd.ntmps19
  go_wp2
  go_ret2
  exact ⟨rfl, Below.refl _ _⟩

set_option maxHeartbeats 1000000 in
theorem unsealed_bad_i (s : ByteArray) (w : World) (n : Nat) (hn : (s.size : Int) - 4 = (n : Int)) (h2 : (n : Int) ≤ 20000) (hbad : Hid (¬ sealRight s n)) (ht : Hid (Tabs w)) :
    Calls Tryd.prog 19 #[.string s] w fun e w' => e = .returned (.tuple #[.string ByteArray.empty, .bool false]) ∧ Below w.heap.size w w' := by
  have hx := sumT_lt (s.extract 0 n)
  have q1 : (0 : Int) ≤ (n : Int) := by omega
  have q3 : (n : Int) ≤ (s.size : Int) := by omega
  have hz : (s.extract 0 n).size ≤ 20000 := by rw [ByteArray.size_extract]; omega
  go_enter Tryd.func19, Tryd.ntmps19
  go_wp2_with fail
  refine (sumOf_i (s.extract 0 n) (by omega) w ht).mono ?_
  rintro e w1 ⟨rfl, hw⟩
  obtain rfl := hw.symm
  clear hw
  go_wp2_with fail
  refine (seal_i (sumT (s.extract 0 n)) hx _).mono ?_
  rintro e w2 ⟨rfl, hb⟩
  have hcv := four_str_drew w2 ((sumT (s.extract 0 n) : Int) / 16777216) ((sumT (s.extract 0 n) : Int) / 65536 % 256) ((sumT (s.extract 0 n) : Int) / 256 % 256) ((sumT (s.extract 0 n) : Int) % 256) 50
  have hne := seal_ne hbad.out
  unfold seal4 at hne
  go_wp2
  go_quiet (fail)
  go_wp2
  go_ret2
  exact ⟨rfl, below_drewN (hb.alloc hb.size _) _⟩

set_option maxHeartbeats 1000000 in
theorem unsealed_good_i (s : ByteArray) (w : World) (n : Nat) (hn : (s.size : Int) - 4 = (n : Int)) (h2 : (n : Int) ≤ 20000) (hgood : Hid (sealRight s n)) (ht : Hid (Tabs w)) :
    Calls Tryd.prog 19 #[.string s] w fun e w' => e = .returned (.tuple #[.string (s.extract 0 n), .bool true]) ∧ Below w.heap.size w w' := by
  have hx := sumT_lt (s.extract 0 n)
  have q1 : (0 : Int) ≤ (n : Int) := by omega
  have q3 : (n : Int) ≤ (s.size : Int) := by omega
  have hz : (s.extract 0 n).size ≤ 20000 := by rw [ByteArray.size_extract]; omega
  go_enter Tryd.func19, Tryd.ntmps19
  go_wp2_with fail
  refine (sumOf_i (s.extract 0 n) (by omega) w ht).mono ?_
  rintro e w1 ⟨rfl, hw⟩
  obtain rfl := hw.symm
  clear hw
  go_wp2_with fail
  refine (seal_i (sumT (s.extract 0 n)) hx _).mono ?_
  rintro e w2 ⟨rfl, hb⟩
  have hcv := four_str_drew w2 ((sumT (s.extract 0 n) : Int) / 16777216) ((sumT (s.extract 0 n) : Int) / 65536 % 256) ((sumT (s.extract 0 n) : Int) / 256 % 256) ((sumT (s.extract 0 n) : Int) % 256) 50
  have hne := seal_eq hgood.out
  unfold seal4 at hne
  go_wp2
  go_quiet (fail)
  go_wp2_with fail
  refine (clone (s.extract 0 n) _ (by omega)).mono ?_
  rintro e w3 ⟨rfl, hb3⟩
  go_wp2
  go_ret2
  exact ⟨rfl, below_tr (below_drewN (hb.alloc hb.size _) _) hb3⟩

end Go.Proofs.YtjdddcldbfhbiaaDoor
