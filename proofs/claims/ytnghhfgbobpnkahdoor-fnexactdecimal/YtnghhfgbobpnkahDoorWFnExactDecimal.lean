/-
  The walk of the law FnExactDecimal: the specification's answer and the program's are the same.
-/
import Derived.Test.YtnghhfgbobpnkahDoorDecNegS
import Derived.Test.YtnghhfgbobpnkahDoorDecI
namespace Go.Proofs.YtnghhfgbobpnkahDoor.WFnExactDecimal
open Go.RowKit Num

theorem walk (a0 : Int) (w0 : (Lit.int .i64 a0).wf = true) (w : World) (htab : Lib.TabIs Tryd.prog w "internal/strconv.uint64pow10" .u64 Lib.pow10Tab) :
    Calls Tryd.prog 3 #[.int .i64 a0] w fun e w' => e = .returned (.bool true) ∧ Below w.heap.size w w' := by
  obtain ⟨h0, h1⟩ := bounds_i64 w0
  have HT : Hid (Lib.TabIs Tryd.prog w "internal/strconv.uint64pow10" .u64 Lib.pow10Tab) := htab
  clear htab
  go_enter Tryd.func3, Tryd.ntmps3
  go_wp2_with (first | (go_at_call 7; refine (sdec _ _ h0 h1).mono ?_; rintro e w1 ⟨rfl, hb1⟩) | (go_at_call 8; refine (idec _ _ h0 h1 (Joins.tab_stays gPow HT.out hb1 (Nat.le_refl _))).mono ?_; rintro e w2 ⟨rfl, hb2⟩))
  go_ret
  exact ⟨rfl, hb1.trans (hb2.mono hb1.size)⟩

end Go.Proofs.YtnghhfgbobpnkahDoor.WFnExactDecimal
