/-
  The contract of spec.ShortText.
-/
import Derived.Test.YtnghhfgbobpnkagVarS
import Derived.Test.YtnghhfgbobpnkagCanon
namespace Go.Proofs.Ytnghhfgbobpnkag
open Go.RowKit Num

theorem short_no_s (s : ByteArray) (w : World) (h : (20000 : Int) < s.size) :
    Calls Try.prog 12 #[.string s] w fun e w' => e = .returned (.tuple #[.string ByteArray.empty, .bool false]) ∧ w' = w := by
  go_enter Try.func12, Try.ntmps12
  go_wp2
  go_ret2
  exact ⟨rfl, rfl⟩

theorem short_yes_s (s : ByteArray) (w : World) (h : (s.size : Int) ≤ 20000) :
    Calls Try.prog 12 #[.string s] w fun e w' => e = .returned (.tuple #[.string (strOfNums (vbs s.size) ++ s), .bool true]) ∧ Below w.heap.size w w' := by
  have hr := short_room s h
  go_enter Try.func12, Try.ntmps12
  go_wp2_with (go_at_call 19; refine (var_any _ _ (by omega) (by omega)).mono ?_; rintro e w' ⟨rfl, hb⟩)
  go_ret2
  exact ⟨rfl, hb⟩

end Go.Proofs.Ytnghhfgbobpnkag
