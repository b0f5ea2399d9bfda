/-
  The contract of spec.Decimal: the decimal figures of a number.
-/
import Derived.Test.YtcpfgflnfofghahDoorOwn
import Derived.Test.YtcpfgflnfofghahDoorFig
namespace Go.Proofs.YtcpfgflnfofghahDoor.Num
/-- the decimal figures of a number above 0, the highest first; the first argument bounds the rounds -/
def dd : Nat → Nat → List Int
  | 0, _ => []
  | f + 1, n => if n = 0 then [] else dd f (n / 10) ++ [(48 : Int) + ((n % 10 : Nat) : Int)]
theorem dd_zero (f : Nat) : dd f 0 = [] := by cases f <;> rfl
theorem dd_step (f n : Nat) (h : 0 < n) (hf : n ≤ f) : ∃ g, dd f n = dd g (n / 10) ++ [(48 : Int) + ((n % 10 : Nat) : Int)] ∧ n / 10 ≤ g := by
  cases f with
  | zero => omega
  | succ f =>
    refine ⟨f, ?_, by omega⟩
    show (if n = 0 then [] else dd f (n / 10) ++ [(48 : Int) + ((n % 10 : Nat) : Int)]) = _
    rw [if_neg (by omega)]
/-- the decimal figures of a number -/
def dec (n : Int) : List Int := if n = 0 then [48] else if n < 0 then 45 :: dd n.natAbs n.natAbs else dd n.natAbs n.natAbs
theorem abs_div (m : Int) (h : 0 ≤ m) : (m / 10).natAbs = m.natAbs / 10 := by omega
theorem abs_mod (m : Int) (h : 0 ≤ m) : ((m.natAbs % 10 : Nat) : Int) = m % 10 := by omega
theorem str_append (a b : List Int) : strOfNums a ++ strOfNums b = strOfNums (a ++ b) := by
  apply ByteArray.ext
  simp [strOfNums, ByteArray.data_append]
end Go.Proofs.YtcpfgflnfofghahDoor.Num
namespace Go.Proofs.YtcpfgflnfofghahDoor
open Go.RowKit Num

theorem one_str (W : World) (x : Int) : (convert 31 9 (.slice (some ⟨W.heap.size, 0, none⟩) 1 1)).run Tryd.prog (W.alloc (.cells #[.int .u8 x] 5)) = .ok (.string (strOfNums [x])) (W.alloc (.cells #[.int .u8 x] 5)) := by
  refine run_convert_bytes_arg _ 31 5 Tryd.underlying31 Tryd.underlying5 W.heap.size 0 1 1 [x] rfl ?_ 9 Tryd.underlying9
  intro i hi
  have : i = 0 := by omega
  subst this
  simp

theorem fig_small (d : Int) (h : d < 10) : fig d = 48 + d := by unfold fig; rw [if_pos h]

theorem sdec_zero (w : World) : Calls Tryd.prog 5 #[.int .i64 0] w fun e w' => e = .returned (.string (strOfNums (dec 0))) ∧ Below w.heap.size w w' := by
  go_enter Tryd.func5, Tryd.ntmps5
  go_wp2
  go_ret
  exact ⟨rfl, Below.refl _ _⟩

set_option maxRecDepth 100000 in
set_option maxHeartbeats 1000000 in
theorem sdec_pos (n : Int) (w : World) (h0 : 0 < n) (h1 : n ≤ 9223372036854775807) :
    Calls Tryd.prog 5 #[.int .i64 n] w fun e w' => e = .returned (.string (strOfNums (dec n))) ∧ Below w.heap.size w w' := by
  have hz : (n == 0) = false := by simp; omega
  have hcv := one_str
  have HD : Hid (dec n = dd n.natAbs n.natAbs) := by unfold Hid dec; rw [if_neg (by omega), if_neg (by omega)]
  go_enter Tryd.func5, Tryd.ntmps5
  go_wp2
  go_loopw [0, 4] (fun a v wr => ∃ (m : Int) (ys : List Int) (f : Nat), a = .int .i64 m ∧ 0 ≤ m ∧ m ≤ n ∧ m.natAbs ≤ f ∧ v = .string (strOfNums ys) ∧ ys.length + m ≤ n ∧ Hid (dd n.natAbs n.natAbs = dd f m.natAbs ++ ys) ∧ Below w.heap.size w wr) (fun a _ _ => (intOf a).toNat)
  case atStart => exact ⟨n, [], n.natAbs, rfl, by omega, by omega, Nat.le_refl _, rfl, by simp, by simp [Hid], Below.refl _ _⟩
  case round =>
    obtain ⟨m, ys, f, rfl, hm0, hm1, hf, rfl, hyl, HY, hbel⟩ := hrel
    have hbs := hbel.size
    by_cases hm : m = 0
    · have hmz : (m != 0) = false := by simp [hm]
      have HM : Hid (m = 0) := hm
      clear hm
      go_wp2
      go_ret
      exact ⟨ret_str (by rw [HD.out, HY.out, HM.out]; simp [dd_zero]), hbel⟩
    · have hmz : (m != 0) = true := by simp [hm]
      obtain ⟨g, hg, hgf⟩ := dd_step f m.natAbs (by omega) hf
      have HG : Hid (dd f m.natAbs = _) := hg
      have hadd : (strOfNums [fig (m % 10)]).size + (strOfNums ys).size ≤ 9223372036854775807 := by rw [strOfNums_size, strOfNums_size]; simp; omega
      have hmp : 0 < m := by omega
      clear hm hg
      go_wp2_with (go_at_call 12; refine (fig_any _ _ (by omega) (by omega)).mono ?_; rintro e w' ⟨rfl, rfl⟩)
      go_roundw
      case rel => exact ⟨m / 10, fig (m % 10) :: ys, g, rfl, by omega, by omega, by rw [abs_div m hm0]; exact hgf, by rw [str_append]; rfl, by simp; omega,
        (show dd n.natAbs n.natAbs = dd g (m / 10).natAbs ++ (fig (m % 10) :: ys) from by rw [HY.out, HG.out, abs_div m hm0, abs_mod m hm0, fig_small _ (by omega)]; simp), hbel.alloc hbs _⟩
      case measure => simp [intOf]; omega
end Go.Proofs.YtcpfgflnfofghahDoor
