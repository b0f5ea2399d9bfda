/-
  The contracts of impl's seal, Sealed and Unsealed.
-/
import Derived.Test.YtjdddcldbfhbiaaDoorSumI
import Derived.Test.YtjdddcldbfhbiaaDoorSealX
import Derived.Test.YtjdddcldbfhbiaaDoorClone
namespace Go.Proofs.YtjdddcldbfhbiaaDoor
open Go.RowKit Num

theorem seal_i (x : Nat) (hx : x < 4294967296) (w : World) :
    Calls Tryd.prog 31 #[.int .u32 (x : Int)] w fun e w' => e = .returned (.agg #[.int .u8 ((x : Int) / 16777216), .int .u8 ((x : Int) / 65536 % 256), .int .u8 ((x : Int) / 256 % 256), .int .u8 ((x : Int) % 256)]) ∧ Below w.heap.size w w' := by
  go_enter Tryd.func31, Tryd.ntmps31
  go_wp2
  refine bodyPost_ret (v := .agg #[_, _, _, _]) (by simp [results, Tryd.results31, go_sem]) rfl ⟨rfl, ?_⟩
  exact (Below.refl _ _).alloc (Nat.le_refl _) _

theorem sealed_no_i (s : ByteArray) (w : World) (h : (20000 : Int) < s.size) :
    Calls Tryd.prog 18 #[.string s] w fun e w' => e = .returned (.tuple #[.string ByteArray.empty, .bool false]) ∧ Below w.heap.size w w' := by
  go_enter Tryd.func18, Tryd.ntmps18
  go_wp2
  go_ret2
  exact ⟨rfl, Below.refl _ _⟩

theorem sealed_yes_i (s : ByteArray) (w : World) (h : (s.size : Int) ≤ 20000) (ht : Hid (Tabs w)) :
    Calls Tryd.prog 18 #[.string s] w fun e w' => e = .returned (.tuple #[.string (s ++ strOfNums (seal4 (sumT s))), .bool true]) ∧ Below w.heap.size w w' := by
  have hx := sumT_lt s
  have hr : s.size + (strOfNums [(sumT s : Int) / 16777216, (sumT s : Int) / 65536 % 256, (sumT s : Int) / 256 % 256, (sumT s : Int) % 256]).size ≤ 9223372036854775807 := by
    rw [strOfNums_size]; simp; omega
  go_enter Tryd.func18, Tryd.ntmps18
  go_wp2_with fail
  refine (sumOf_i s (by omega) w ht).mono ?_
  rintro e w1 ⟨rfl, hw⟩
  obtain rfl := hw.symm
  clear hw
  go_wp2_with fail
  refine (seal_i (sumT s) hx _).mono ?_
  rintro e w2 ⟨rfl, hb⟩
  have hcv := four_str w2 ((sumT s : Int) / 16777216) ((sumT s : Int) / 65536 % 256) ((sumT s : Int) / 256 % 256) ((sumT s : Int) % 256) 50
  go_wp2
  go_ret2
  exact ⟨rfl, hb.alloc hb.size _⟩

end Go.Proofs.YtjdddcldbfhbiaaDoor
