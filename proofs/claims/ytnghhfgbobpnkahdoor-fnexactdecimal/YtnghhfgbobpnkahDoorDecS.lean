/-
  The contract of spec.Decimal at 0 and above.
-/
import Derived.Test.YtnghhfgbobpnkahDoorFigS
import Derived.Test.YtnghhfgbobpnkahDoorDecN
namespace Go.Proofs.YtnghhfgbobpnkahDoor
open Go.RowKit Num

theorem sdec_zero (w : World) : Calls Tryd.prog 7 #[.int .i64 0] w fun e w' => e = .returned (.string (strOfNums (dec 0))) ∧ Below w.heap.size w w' := by
  go_enter Tryd.func7, Tryd.ntmps7
  go_wp2
  go_ret
  exact ⟨rfl, Below.refl _ _⟩

set_option maxRecDepth 100000 in
set_option maxHeartbeats 1000000 in
theorem sdec_pos (n : Int) (w : World) (h0 : 0 < n) (h1 : n ≤ 9223372036854775807) :
    Calls Tryd.prog 7 #[.int .i64 n] w fun e w' => e = .returned (.string (strOfNums (dec n))) ∧ Below w.heap.size w w' := by
  have hz : (n == 0) = false := by simp; omega
  have hcv := one_str
  have HD : Hid (dec n = dd n.natAbs n.natAbs) := by unfold Hid dec; rw [if_neg (by omega), if_neg (by omega)]
  go_enter Tryd.func7, Tryd.ntmps7
  go_wp2
  go_loopw [0, 4] (fun a v wr => ∃ (m : Int) (ys : List Int) (f : Nat), a = .int .i64 m ∧ 0 ≤ m ∧ m ≤ n ∧ m.natAbs ≤ f ∧ v = .string (strOfNums ys) ∧ ys.length + m ≤ n ∧ Hid (dd n.natAbs n.natAbs = dd f m.natAbs ++ ys) ∧ Below w.heap.size w wr) (fun a _ _ => (intOf a).toNat)
  case atStart => exact ⟨n, [], n.natAbs, rfl, by omega, by omega, Nat.le_refl _, rfl, by simp, by simp [Hid], Below.refl _ _⟩
  case round =>
    obtain ⟨m, ys, f, rfl, hm0, hm1, hf, rfl, hyl, HY, hbel⟩ := hrel
    have hbs := hbel.size
    by_cases hm : m = 0
    · have hmz : (m != 0) = false := by simp [hm]
      have HM : Hid (m = 0) := hm
      clear hm
      go_wp2
      go_ret
      exact ⟨ret_str (by rw [HD.out, HY.out, HM.out]; simp [dd_zero]), hbel⟩
    · have hmz : (m != 0) = true := by simp [hm]
      obtain ⟨g, hg, hgf⟩ := dd_step f m.natAbs (by omega) hf
      have HG : Hid (dd f m.natAbs = _) := hg
      have hadd : (strOfNums [fig (m % 10)]).size + (strOfNums ys).size ≤ 9223372036854775807 := by rw [strOfNums_size, strOfNums_size]; simp; omega
      have hmp : 0 < m := by omega
      clear hm hg
      go_wp2_with (go_at_call 18; refine (fig_any _ _ (by omega) (by omega)).mono ?_; rintro e w' ⟨rfl, rfl⟩)
      go_roundw
      case rel => exact ⟨m / 10, fig (m % 10) :: ys, g, rfl, by omega, by omega, by rw [abs_div m hm0]; exact hgf, by rw [str_append]; rfl, by simp; omega,
        (show dd n.natAbs n.natAbs = dd g (m / 10).natAbs ++ (fig (m % 10) :: ys) from by rw [HY.out, HG.out, abs_div m hm0, abs_mod m hm0, fig_small _ (by omega)]; simp), hbel.alloc hbs _⟩
      case measure => simp [intOf]; omega

end Go.Proofs.YtnghhfgbobpnkahDoor
