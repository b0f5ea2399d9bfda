/-
  The contracts of impl's sums: four steps at once by the table, a byte, a text. The table's cells are a premise.
-/
import Derived.Test.YtjdddcldbfhbiaaDoorSumX
import Derived.Test.YtjdddcldbfhbiaaDoorOwn
import Derived.Test.YtjdddcldbfhbiaaDoorRows
namespace Go.Proofs.YtjdddcldbfhbiaaDoor
open Go.RowKit Num

/-- the program's table, as its text lays it -/
def Tabs (w : World) : Prop := 0 < w.heap.size ∧ ∀ r : Nat, r < 16 → w.cell? ⟨0, r, none⟩ = some (.int .u32 (tabAt r : Int))
theorem Tabs.below {w w' : World} (h : Tabs w) (hb : Below w.heap.size w w') : Tabs w' :=
  ⟨Nat.lt_of_lt_of_le h.1 hb.size, fun r hr => by rw [hb.cell (by exact h.1)]; exact h.2 r hr⟩

theorem four_i (x : Nat) (hx : x < 4294967296) (w : World) (ht : Hid (Tabs w)) :
    Calls Tryd.prog 36 #[.int .u32 (x : Int)] w fun e w' => e = .returned (.int .u32 (halves 4 x : Int)) ∧ w' = w := by
  have h1 := and15 x hx
  have h2 := ht.out.2 (x % 16) (by omega)
  have q0 : (0 : Int) ≤ ((x % 16 : Nat) : Int) := by omega
  have q1 : ((x % 16 : Nat) : Int) < 16 := by omega
  have h3 : bits .xor .u32 ((x : Int) / 16) (tabAt (x % 16) : Int) = (halves 4 x : Int) := by
    have := xor32 (x / 16) (tabAt (x % 16)) (by omega) (tab_lt _ (by omega))
    rw [halves4, ← this]; rfl
  go_enter Tryd.func36, Tryd.ntmps36
  go_wp2
  go_ret
  exact ⟨rfl, rfl⟩

theorem byte_i (x b : Nat) (hx : x < 4294967296) (hb : b < 256) (w : World) (ht : Hid (Tabs w)) :
    Calls Tryd.prog 32 #[.int .u32 (x : Int), .int .u8 (b : Int)] w fun e w' => e = .returned (.int .u32 (byteSum x b : Int)) ∧ w' = w := by
  have h1 := xor32 x b hx (by omega)
  have h2 := xor_lt32 hx (show b < 4294967296 by omega)
  have h3 := halves_lt 4 h2
  generalize hy : x ^^^ b = y at h1 h2 h3
  have HY : Hid (x ^^^ b = y) := hy
  clear hy
  go_enter Tryd.func32, Tryd.ntmps32
  go_wp2_with fail
  refine (four_i y h2 w ht).mono ?_
  rintro e w1 ⟨rfl, rfl⟩
  go_wp2_with fail
  refine (four_i (halves 4 y) h3 w1 ht).mono ?_
  rintro e w2 ⟨rfl, rfl⟩
  go_wp2
  go_ret
  exact ⟨ret_nat (by rw [byteSum_four, HY.out]), rfl⟩

set_option maxHeartbeats 1000000 in
theorem sum_i (x : Nat) (hx : x < 4294967296) (s : ByteArray) (hs : (s.size : Int) ≤ 1048600) (w : World) (ht : Hid (Tabs w)) :
    Calls Tryd.prog 20 #[.int .u32 (x : Int), .string s] w fun e w' => e = .returned (.int .u32 (sums x (bs s) : Int)) ∧ w' = w := by
  go_enter Tryd.func20, Tryd.ntmps20
  go_wp2
  go_loop [5, 10] (fun v i => ∃ (k y : Nat), k ≤ s.size ∧ i = .int .i64 (k : Int) ∧ v = .int .u32 (y : Int) ∧ Hid (y = sums x ((bs s).take k))) (fun _ i => s.size - (intOf i).toNat)
  case atStart => exact ⟨0, x, Nat.zero_le _, rfl, rfl, rfl⟩
  case round =>
    obtain ⟨k, y, hk, rfl, rfl, HY⟩ := hrel
    by_cases hlt : (k : Int) < s.size
    · have hkn : k < s.size := by omega
      have hb := byte_le s[k]
      have hy : y < 4294967296 := by rw [HY.out]; exact sums_lt _ _ hx (bs_take_ok s k)
      have q0 : (0 : Int) ≤ (k : Int) := by omega
      go_wp2_with fail
      refine (byte_i y s[k].toNat hy (by omega) w ht).mono ?_
      rintro e w1 ⟨rfl, rfl⟩
      go_wp2
      go_round
      case rel => exact ⟨k + 1, byteSum y s[k].toNat, by omega, by go_num, rfl, (show _ = sums x ((bs s).take (k + 1)) from by rw [sums_at x s k hkn, ← HY.out])⟩
      case measure => simp [intOf]; omega
    · go_wp2
      go_ret
      exact ⟨ret_nat (by rw [HY.out, List.take_of_length_le (by rw [bs_len]; omega)]), rfl⟩

theorem sumOf_i (s : ByteArray) (hs : (s.size : Int) ≤ 1048600) (w : World) (ht : Hid (Tabs w)) :
    Calls Tryd.prog 21 #[.string s] w fun e w' => e = .returned (.int .u32 (sums 4294967295 (bs s) : Int)) ∧ w' = w := by
  go_enter Tryd.func21, Tryd.ntmps21
  go_wp2_with fail
  refine (sum_i 4294967295 (by decide) s hs w ht).mono ?_
  rintro e w1 ⟨rfl, rfl⟩
  go_wp2
  go_ret
  exact ⟨rfl, rfl⟩

end Go.Proofs.YtjdddcldbfhbiaaDoor
