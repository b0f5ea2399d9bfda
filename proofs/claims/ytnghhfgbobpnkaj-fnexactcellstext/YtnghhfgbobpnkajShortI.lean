/-
  The contract of impl.ShortText.
-/
import Derived.Test.YtnghhfgbobpnkajVarI
import Derived.Test.YtnghhfgbobpnkajCanon
namespace Go.Proofs.Ytnghhfgbobpnkaj
open Go.RowKit Num

theorem short_no_i (s : ByteArray) (w : World) (h : (20000 : Int) < s.size) :
    Calls Try.prog 57 #[.string s] w fun e w' => e = .returned (.tuple #[.string ByteArray.empty, .bool false]) ∧ w' = w := by
  go_enter Try.func57, Try.ntmps57
  go_wp2
  go_ret2
  exact ⟨rfl, rfl⟩

theorem short_yes_i (s : ByteArray) (w : World) (h : (s.size : Int) ≤ 20000) :
    Calls Try.prog 57 #[.string s] w fun e w' => e = .returned (.tuple #[.string (strOfNums (vbs s.size) ++ s), .bool true]) ∧ Below w.heap.size w w' := by
  have hr := short_room s h
  go_enter Try.func57, Try.ntmps57
  go_wp2_with (go_at_call 58; refine (ivar_yes _ _ (by omega) (by omega)).mono ?_; rintro e w' ⟨rfl, hb⟩)
  go_ret2
  exact ⟨rfl, hb⟩

end Go.Proofs.Ytnghhfgbobpnkaj
