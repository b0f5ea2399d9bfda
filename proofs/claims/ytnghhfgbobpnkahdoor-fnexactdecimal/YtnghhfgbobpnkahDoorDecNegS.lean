/-
  The contract of spec.Decimal at numbers below 0, and so at every int.
-/
import Derived.Test.YtnghhfgbobpnkahDoorDecS
namespace Go.Proofs.YtnghhfgbobpnkahDoor
open Go.RowKit Num

theorem ret_eq {a b : ByteArray} (h : a = b) : Ending.returned (.string a) = .returned (.string b) := by rw [h]

theorem minus_app (a : Array UInt8) : (⟨#[45]⟩ : ByteArray) ++ ⟨a⟩ = ⟨#[45] ++ a⟩ := by apply ByteArray.ext; simp [ByteArray.data_append]

set_option maxRecDepth 100000 in
set_option maxHeartbeats 1000000 in
theorem sdec_neg (n : Nat) (w : World) (h0 : 0 < n) (h1 : (n : Int) ≤ 9223372036854775808) :
    Calls Tryd.prog 7 #[.int .i64 (-(n : Int))] w fun e w' => e = .returned (.string (strOfNums (dec (-(n : Int))))) ∧ Below w.heap.size w w' := by
  have hz : ((-(n : Int)) == 0) = false := by simp; omega
  have hneg : -(n : Int) < 0 := by omega
  have hcv := one_str
  have HD : Hid (dec (-(n : Int)) = 45 :: dd n n) := by unfold Hid dec; rw [if_neg (by omega), if_pos (by omega)]; simp
  go_enter Tryd.func7, Tryd.ntmps7
  go_wp2
  go_loopw [0, 4] (fun a v wr => ∃ (m : Nat) (ys : List Int) (f : Nat), a = .int .i64 (-(m : Int)) ∧ m ≤ n ∧ m ≤ f ∧ v = .string (strOfNums ys) ∧ Hid ((0 < m → 4 * ys.length + m ≤ n) ∧ 4 * ys.length ≤ n + 4) ∧ Hid (dd n n = dd f m ++ ys) ∧ Below w.heap.size w wr) (fun a _ _ => (intOf a).natAbs)
  case atStart => exact ⟨n, [], n, rfl, by omega, by omega, rfl, (show (0 < n → 4 * 0 + n ≤ n) ∧ 4 * 0 ≤ n + 4 from by omega), by simp [Hid], Below.refl _ _⟩
  case round =>
    obtain ⟨m, ys, f, rfl, hm1, hf, rfl, HL, HY, hbel⟩ := hrel
    have hbs := hbel.size
    by_cases hm : m = 0
    · have hmz : ((-(m : Int)) != 0) = false := by simp [hm]
      have HM : Hid (m = 0) := hm
      have hadd : (⟨#[45]⟩ : ByteArray).size + (strOfNums ys).size ≤ 9223372036854775807 := by rw [strOfNums_size]; have := HL.out.2; show 1 + _ ≤ _; omega
      clear hm
      go_wp2
      go_ret
      exact ⟨ret_eq (by rw [HD.out, HY.out, HM.out]; simp [dd_zero, strOfNums, minus_app]), hbel⟩
    · have hmz : ((-(m : Int)) != 0) = true := by simp [hm]
      obtain ⟨g, hg, hgf⟩ := dd_step f m (by omega) hf
      have HG : Hid (dd f m = _) := hg
      have hmp : 0 < m := by omega
      have hL := HL.out
      clear hm hg HL
      have hyl : ys.length + 1 ≤ 9223372036854775807 := by have := hL.1 hmp; omega
      have HL' : Hid ((0 < m / 10 → 4 * (ys.length + 1) + m / 10 ≤ n) ∧ 4 * (ys.length + 1) ≤ n + 4) := (show (0 < m / 10 → 4 * (ys.length + 1) + m / 10 ≤ n) ∧ 4 * (ys.length + 1) ≤ n + 4 from by have := hL.1 hmp; omega)
      clear hL
      have hadd : (strOfNums [fig ((m : Int) % 10)]).size + (strOfNums ys).size ≤ 9223372036854775807 := by rw [strOfNums_size, strOfNums_size]; simp; omega
      have fin : ∀ W : World, Below w.heap.size w W → ∃ (m_1 : Nat) (ys_1 : List Int) (f : Nat), Value.int IntKind.i64 (-((m : Int) / 10)) = Value.int IntKind.i64 (-(m_1 : Int)) ∧ m_1 ≤ n ∧ m_1 ≤ f ∧ Value.string (strOfNums [fig ((m : Int) % 10)] ++ strOfNums ys) = Value.string (strOfNums ys_1) ∧ Hid ((0 < m_1 → 4 * ys_1.length + m_1 ≤ n) ∧ 4 * ys_1.length ≤ n + 4) ∧ Hid (dd n n = dd f m_1 ++ ys_1) ∧ Below w.heap.size w W := fun W hW =>
        ⟨m / 10, fig ((m : Int) % 10) :: ys, g, by simp, by omega, hgf, by rw [str_append]; rfl, HL'.out, (show dd n n = dd g (m / 10) ++ (fig ((m : Int) % 10) :: ys) from by rw [HY.out, HG.out, fig_small _ (by omega)]; simp), hW⟩
      have HF : Hid _ := fin
      clear fin
      by_cases hd : m % 10 = 0
      · have hd' : -((m : Int) % 10) = (m : Int) % 10 := by omega
        go_wp2_with (go_at_call 18; rw [hd']; refine (fig_any _ _ (by omega) (by omega)).mono ?_; rintro e w' ⟨rfl, rfl⟩)
        go_roundw
        case rel => exact HF.out _ (hbel.alloc hbs _)
        case measure => simp [intOf]; omega
      · go_wp2_with (go_at_call 18; refine (fig_any _ _ (by omega) (by omega)).mono ?_; rintro e w' ⟨rfl, rfl⟩)
        go_roundw
        case rel => exact HF.out _ (hbel.alloc hbs _)
        case measure => simp [intOf]; omega

theorem sdec (n : Int) (w : World) (h0 : -9223372036854775808 ≤ n) (h1 : n ≤ 9223372036854775807) :
    Calls Tryd.prog 7 #[.int .i64 n] w fun e w' => e = .returned (.string (strOfNums (dec n))) ∧ Below w.heap.size w w' := by
  by_cases hz : n = 0
  · subst hz; exact sdec_zero w
  · by_cases hn : 0 < n
    · exact sdec_pos n w hn h1
    · have e : n = -((n.natAbs : Nat) : Int) := by omega
      rw [e]
      exact sdec_neg n.natAbs w (by omega) (by omega)

end Go.Proofs.YtnghhfgbobpnkahDoor
