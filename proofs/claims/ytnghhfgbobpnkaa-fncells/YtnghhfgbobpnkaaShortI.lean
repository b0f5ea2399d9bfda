/-
  The contract of impl.ShortText.
-/
import Derived.Test.YtnghhfgbobpnkaaVarI
import Derived.Test.YtnghhfgbobpnkaaCanon
namespace Go.Proofs.Ytnghhfgbobpnkaa
open Go.RowKit Num

theorem short_no_i (s : ByteArray) (w : World) (h : (20000 : Int) < s.size) :
    Calls Try.prog 63 #[.string s] w fun e w' => e = .returned (.tuple #[.string ByteArray.empty, .bool false]) ∧ w' = w := by
  go_enter Try.func63, Try.ntmps63
  go_wp2
  go_ret2
  exact ⟨rfl, rfl⟩

theorem short_yes_i (s : ByteArray) (w : World) (h : (s.size : Int) ≤ 20000) :
    Calls Try.prog 63 #[.string s] w fun e w' => e = .returned (.tuple #[.string (strOfNums (vbs s.size) ++ s), .bool true]) ∧ Below w.heap.size w w' := by
  have hr := short_room s h
  go_enter Try.func63, Try.ntmps63
  go_wp2_with (go_at_call 64; refine (ivar_yes _ _ (by omega) (by omega)).mono ?_; rintro e w' ⟨rfl, hb⟩)
  go_ret2
  exact ⟨rfl, hb⟩

end Go.Proofs.Ytnghhfgbobpnkaa
