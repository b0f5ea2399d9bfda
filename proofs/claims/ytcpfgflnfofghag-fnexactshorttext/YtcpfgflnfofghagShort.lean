/-
  Contracts of spec.ShortText and impl.ShortText: the bytes of the length, and the text.
-/
import Derived.Test.YtcpfgflnfofghagVar
namespace Go.Proofs.Ytcpfgflnfofghag
open Go.RowKit Num

theorem short_no_s (s : ByteArray) (w : World) (h : (20000 : Int) < s.size) :
    Calls Try.prog 12 #[.string s] w fun e w' => e = .returned (.tuple #[.string ByteArray.empty, .bool false]) ∧ w' = w := by
  go_enter Try.func12, Try.ntmps12
  go_wp2
  go_ret2
  exact ⟨rfl, rfl⟩
theorem short_no_i (s : ByteArray) (w : World) (h : (20000 : Int) < s.size) :
    Calls Try.prog 13 #[.string s] w fun e w' => e = .returned (.tuple #[.string ByteArray.empty, .bool false]) ∧ w' = w := by
  go_enter Try.func13, Try.ntmps13
  go_wp2
  go_ret2
  exact ⟨rfl, rfl⟩

theorem short_room (s : ByteArray) (h : (s.size : Int) ≤ 20000) : (strOfNums (vbs s.size)).size + s.size ≤ 9223372036854775807 := by
  have := vb_len ((s.size : Int)).toNat s.size
  rw [strOfNums_size]; unfold vbs; omega

theorem short_yes_s (s : ByteArray) (w : World) (h : (s.size : Int) ≤ 20000) :
    Calls Try.prog 12 #[.string s] w fun e w' => e = .returned (.tuple #[.string (strOfNums (vbs s.size) ++ s), .bool true]) ∧ Below w.heap.size w w' := by
  have hr := short_room s h
  go_enter Try.func12, Try.ntmps12
  go_wp2_with (go_at_call 19; refine (var_any _ _ (by omega) (by omega)).mono ?_; rintro e w' ⟨rfl, hb⟩)
  go_ret2
  exact ⟨rfl, hb⟩
theorem short_yes_i (s : ByteArray) (w : World) (h : (s.size : Int) ≤ 20000) :
    Calls Try.prog 13 #[.string s] w fun e w' => e = .returned (.tuple #[.string (strOfNums (vbs s.size) ++ s), .bool true]) ∧ Below w.heap.size w w' := by
  have hr := short_room s h
  go_enter Try.func13, Try.ntmps13
  go_wp2_with (go_at_call 9; refine (ivar_yes _ _ (by omega) (by omega)).mono ?_; rintro e w' ⟨rfl, hb⟩)
  go_ret2
  exact ⟨rfl, hb⟩
end Go.Proofs.Ytcpfgflnfofghag
