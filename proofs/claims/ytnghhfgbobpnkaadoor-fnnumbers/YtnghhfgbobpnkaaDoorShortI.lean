/-
  The contract of impl.ShortText.
-/
import Derived.Test.YtnghhfgbobpnkaaDoorVarI
import Derived.Test.YtnghhfgbobpnkaaDoorCanon
namespace Go.Proofs.YtnghhfgbobpnkaaDoor
open Go.RowKit Num

theorem short_no_i (s : ByteArray) (w : World) (h : (20000 : Int) < s.size) :
    Calls Tryd.prog 12 #[.string s] w fun e w' => e = .returned (.tuple #[.string ByteArray.empty, .bool false]) ∧ w' = w := by
  go_enter Tryd.func12, Tryd.ntmps12
  go_wp2
  go_ret2
  exact ⟨rfl, rfl⟩

theorem short_yes_i (s : ByteArray) (w : World) (h : (s.size : Int) ≤ 20000) :
    Calls Tryd.prog 12 #[.string s] w fun e w' => e = .returned (.tuple #[.string (strOfNums (vbs s.size) ++ s), .bool true]) ∧ Below w.heap.size w w' := by
  have hr := short_room s h
  go_enter Tryd.func12, Tryd.ntmps12
  go_wp2_with (go_at_call 7; refine (ivar_yes _ _ (by omega) (by omega)).mono ?_; rintro e w' ⟨rfl, hb⟩)
  go_ret2
  exact ⟨rfl, hb⟩

end Go.Proofs.YtnghhfgbobpnkaaDoor
