/-
  The contract of impl.Decimal: the decimal figures, by the library's strconv.Itoa.
-/
import Derived.Test.YtnghhfgbobpnkaaDoorDecN
import Derived.Test.YtnghhfgbobpnkaaDoorShelfItoa
import Derived.WalkKit
import Derived.Lib.SmallJoins
import Derived.Sort.Grow
namespace Go.Proofs.YtnghhfgbobpnkaaDoor.Num

theorem digits_dd : ∀ (f u : Nat), 0 < u → u ≤ f → Lib.decDigits u = (dd f u).map fun n => UInt8.ofNat n.toNat
  | 0, u, h, hf => by omega
  | f + 1, u, h, hf => by
    have e : dd (f + 1) u = dd f (u / 10) ++ [(48 : Int) + ((u % 10 : Nat) : Int)] := by
      show (if u = 0 then [] else dd f (u / 10) ++ [(48 : Int) + ((u % 10 : Nat) : Int)]) = _
      rw [if_neg (by omega)]
    have e2 : ((48 : Int) + ((u % 10 : Nat) : Int)).toNat = 48 + u % 10 := by omega
    rw [e, Lib.decDigits, List.map_append]
    by_cases h10 : u < 10
    · rw [dif_pos h10, show u / 10 = 0 by omega, dd_zero]
      simp only [List.map_nil, List.nil_append, List.map_cons]
      rw [e2, Nat.mod_eq_of_lt h10]
    · rw [dif_neg h10, digits_dd f (u / 10) (by omega) (by omega)]
      simp only [List.map_cons, List.map_nil]
      rw [e2]

theorem itoa_dec (n : Int) : (⟨(Lib.itoa n).toArray⟩ : ByteArray) = strOfNums (dec n) := by
  unfold Lib.itoa dec strOfNums
  by_cases h0 : n = 0
  · subst h0
    rw [if_neg (by omega), if_pos rfl]
    simp [Lib.decDigits]
  · rw [if_neg h0]
    by_cases hn : n < 0
    · rw [if_pos hn, if_pos hn, digits_dd n.natAbs n.natAbs (by omega) (Nat.le_refl _)]
      simp
    · rw [if_neg hn, if_neg hn, show n.toNat = n.natAbs by omega, digits_dd n.natAbs n.natAbs (by omega) (Nat.le_refl _)]

end Go.Proofs.YtnghhfgbobpnkaaDoor.Num
namespace Go.Proofs.YtnghhfgbobpnkaaDoor
open Go.RowKit Num

theorem below_grow (w : World) (k : Nat) (os : Array Obj) : Below w.heap.size w (Go.Sort.grow (w.drewN k) os) :=
  ⟨rfl, rfl, rfl, by simp [Go.Sort.grow, World.drewN], fun i hi => by simp [Go.Sort.grow, World.drewN, Array.getElem?_append, hi]⟩

theorem itoa_any (n : Int) (w : World) (h0 : -9223372036854775808 ≤ n) (h1 : n ≤ 9223372036854775807) (htab : Lib.TabIs Tryd.prog w "internal/strconv.uint64pow10" .u64 Lib.pow10Tab) :
    Calls Tryd.prog 24 #[.int .i64 n] w fun e w' => e = .returned (.string (strOfNums (dec n))) ∧ Below w.heap.size w w' :=
  (strconv_Itoa n h0 h1 w htab).mono fun e w' ⟨he, k, os, hw⟩ => ⟨by rw [he, itoa_dec], by rw [hw]; exact below_grow w k os⟩

theorem idec (n : Int) (w : World) (h0 : -9223372036854775808 ≤ n) (h1 : n ≤ 9223372036854775807) (htab : Lib.TabIs Tryd.prog w "internal/strconv.uint64pow10" .u64 Lib.pow10Tab) :
    Calls Tryd.prog 10 #[.int .i64 n] w fun e w' => e = .returned (.string (strOfNums (dec n))) ∧ Below w.heap.size w w' := by
  have HT : Hid (Lib.TabIs Tryd.prog w "internal/strconv.uint64pow10" .u64 Lib.pow10Tab) := htab
  clear htab
  go_enter Tryd.func10, Tryd.ntmps10
  go_wp2_with (go_at_call 24; refine (itoa_any _ _ h0 h1 HT.out).mono ?_; rintro e w' ⟨rfl, hb⟩)
  go_ret
  exact ⟨rfl, hb⟩

theorem gPow : Tryd.prog.globalNamed "internal/strconv.uint64pow10" = some 1 := by kernel_rfl

end Go.Proofs.YtnghhfgbobpnkaaDoor
