/-
  What spec.l01Figure hands back.
-/
import Derived.Test.YtnghhfgbobpnkahDoorOwn
import Derived.Test.YtnghhfgbobpnkahDoorFigN
namespace Go.Proofs.YtnghhfgbobpnkahDoor
open Go.RowKit Num

theorem fig_any (x : Int) (w : World) (h0 : 0 ≤ x) (h1 : x < 16) : Calls Tryd.prog 18 #[.int .i64 x] w fun e w' => e = .returned (.int .u8 (fig x)) ∧ w' = w := by
  unfold fig
  by_cases h : x < 10
  · rw [if_pos h]
    go_enter Tryd.func18, Tryd.ntmps18
    go_wp2
    go_ret
    exact ⟨rfl, rfl⟩
  · rw [if_neg h]
    go_enter Tryd.func18, Tryd.ntmps18
    go_wp2
    go_ret
    exact ⟨ret_int (by omega), rfl⟩

end Go.Proofs.YtnghhfgbobpnkahDoor
