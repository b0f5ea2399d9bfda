/-
  The contracts of the specification's sums.
-/
import Derived.Test.YtnghhfgbobpnkapDoorSumX
import Derived.Test.YtnghhfgbobpnkapDoorRows
namespace Go.Proofs.YtnghhfgbobpnkapDoor
open Go.RowKit Num

theorem halves_odd {n y k : Nat} (hy : y = halves k n) (h : (y : Int) % 2 = 1) (hx : y < 4294967296) : bits .xor .u32 ((y : Int) / 2) 3558460437 = (halves (k + 1) n : Int) := by
  have := xor32 (y / 2) 3558460437 (by omega) (by decide)
  have e : halves (k + 1) n = y / 2 ^^^ 3558460437 := by rw [hy]; show half _ = _; rw [half_odd (by omega)]
  rw [e, ← this]; rfl
theorem halves_even {n y k : Nat} (hy : y = halves k n) (h : ¬ (y : Int) % 2 = 1) : y / 2 = halves (k + 1) n := by
  have e : halves (k + 1) n = y / 2 := by rw [hy]; show half _ = _; rw [half_even (by omega)]
  exact e.symm

set_option maxHeartbeats 1000000 in
theorem sum_s (x : Nat) (hx : x < 4294967296) (s : ByteArray) (hs : (s.size : Int) ≤ 1048600) (w : World) :
    Calls Tryd.prog 89 #[.int .u32 (x : Int), .string s] w fun e w' => e = .returned (.int .u32 (sums x (bs s) : Int)) ∧ w' = w := by
  go_enter Tryd.func89, Tryd.ntmps89
  go_wp2
  go_loop [0, 5] (fun v i => ∃ (k y : Nat), k ≤ s.size ∧ i = .int .i64 (k : Int) ∧ v = .int .u32 (y : Int) ∧ Hid (y = sums x ((bs s).take k))) (fun _ i => s.size - (intOf i).toNat)
  case atStart => exact ⟨0, x, Nat.zero_le _, rfl, rfl, rfl⟩
  case round =>
    obtain ⟨k, y, hk, rfl, rfl, HY⟩ := hrel
    by_cases hlt : (k : Int) < s.size
    · have hkn : k < s.size := by omega
      have hb := byte_le s[k]
      have hy : y < 4294967296 := by rw [HY.out]; exact sums_lt _ _ hx (bs_take_ok s k)
      have q0 : (0 : Int) ≤ (k : Int) := by omega
      have hxor := xor32 y s[k].toNat hy (by omega)
      have hlt0 : y ^^^ s[k].toNat < 4294967296 := xor_lt32 hy (by omega)
      generalize hz : y ^^^ s[k].toNat = z at hxor hlt0
      have HZ : Hid (y ^^^ s[k].toNat = z) := hz
      clear hz
      go_wp2
      go_loop [0, 6] (fun v i => ∃ (j u : Nat), j ≤ 8 ∧ i = .int .i64 (j : Int) ∧ v = .int .u32 (u : Int) ∧ Hid (u = halves j z)) (fun _ i => 8 - (intOf i).toNat)
      case atStart => exact ⟨0, z, Nat.zero_le _, rfl, rfl, rfl⟩
      case round =>
        obtain ⟨j, u, hj, rfl, rfl, HU⟩ := hrel
        have hu : u < 4294967296 := by rw [HU.out]; exact halves_lt _ hlt0
        by_cases hj8 : (j : Int) < 8
        · by_cases hodd : (u : Int) % 2 = 1
          · have hstep := halves_odd HU.out hodd hu
            go_wp2
            go_round
            case rel => exact ⟨j + 1, halves (j + 1) z, by omega, by go_num, rfl, rfl⟩
            case measure => simp [intOf]; omega
          · have hstep := halves_even HU.out hodd
            go_wp2
            go_round
            case rel => exact ⟨j + 1, u / 2, by omega, by go_num, by simp, hstep⟩
            case measure => simp [intOf]; omega
        · have hj9 : j = 8 := by omega
          subst hj9
          go_wp2
          go_round
          case rel => exact ⟨k + 1, u, by omega, by go_num, rfl, (show _ = sums x ((bs s).take (k + 1)) from by rw [sums_at x s k hkn, ← HY.out, HU.out, ← HZ.out]; rfl)⟩
          case measure => simp [intOf]; omega
    · go_wp2
      go_ret
      exact ⟨ret_nat (by rw [HY.out, List.take_of_length_le (by rw [bs_len]; omega)]), rfl⟩

theorem sumOf_s (s : ByteArray) (hs : (s.size : Int) ≤ 1048600) (w : World) :
    Calls Tryd.prog 66 #[.string s] w fun e w' => e = .returned (.int .u32 (sums 4294967295 (bs s) : Int)) ∧ w' = w := by
  go_enter Tryd.func66, Tryd.ntmps66
  go_wp2_with fail
  refine (sum_s 4294967295 (by decide) s hs w).mono ?_
  rintro e w1 ⟨rfl, rfl⟩
  go_wp2
  go_ret
  exact ⟨rfl, rfl⟩

end Go.Proofs.YtnghhfgbobpnkapDoor
