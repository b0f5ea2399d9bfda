/-
  The contracts of the specification's functions on votes that take numbers alone: Faults, Quorum, LeaderOf, CountOf.
-/
import Derived.Test.YtfnneillakdopabVoteN
import Derived.Test.YtfnneillakdopabInS
import Derived.BigQuiet
namespace Go.Proofs.Ytfnneillakdopab
open Go.RowKit Num

theorem faults_s (n : Int) (w : World) (h0 : -9223372036854775808 ≤ n) (h1 : n ≤ 9223372036854775807) :
    Calls Try.prog 51 #[.int .i64 n] w fun e w' => e = .returned (.int .i64 (faultsT n)) ∧ w' = w := by
  by_cases h : n < 1
  · have HF : Hid (faultsT n = 0) := if_pos h
    go_enter Try.func51, Try.ntmps51
    go_wp2
    go_ret
    exact ⟨ret_int HF.out.symm, rfl⟩
  · have HF : Hid (faultsT n = (n - 1) / 3) := if_neg h
    go_enter Try.func51, Try.ntmps51
    go_wp2
    go_ret
    exact ⟨ret_int HF.out.symm, rfl⟩

theorem faults_le (n : Int) : 0 ≤ faultsT n ∧ (1 ≤ n → faultsT n < n) := by
  unfold faultsT
  split
  · exact ⟨Int.le_refl _, fun h => by omega⟩
  · exact ⟨by omega, fun h => by omega⟩
theorem faults_low {n : Int} (h : n < 1) : faultsT n = 0 := if_pos h

theorem quorum_s (n : Int) (w : World) (h0 : -9223372036854775808 ≤ n) (h1 : n ≤ 9223372036854775807) :
    Calls Try.prog 73 #[.int .i64 n] w fun e w' => e = .returned (.int .i64 (quorumT n)) ∧ w' = w := by
  obtain ⟨f, hf⟩ : ∃ f, f = faultsT n := ⟨_, rfl⟩
  have f0 : 0 ≤ f := by rw [hf]; exact (faults_le n).1
  have f1 : n - f ≤ 9223372036854775807 := by omega
  have f2 : -9223372036854775808 ≤ n - f := by
    by_cases h : n < 1
    · rw [hf, faults_low h]; omega
    · have := (faults_le n).2 (by omega); omega
  have HF : Hid (faultsT n = f) := hf.symm
  clear hf
  go_enter Try.func73, Try.ntmps73
  go_wp2_with fail
  refine (faults_s n w h0 h1).mono ?_
  rintro e w' ⟨rfl, hw⟩
  obtain rfl := hw.symm
  clear hw
  rw [HF.out]
  go_wp2
  go_ret
  exact ⟨ret_int (by unfold quorumT; rw [HF.out]), rfl⟩


theorem shr_bit {s : Int} (h : 0 ≤ s) (k : Nat) : (s / 2 ^ k).tmod 2 = bitT s k := by
  unfold bitT
  exact Int.tmod_eq_emod_of_nonneg (Int.ediv_nonneg h (Int.le_of_lt (Int.pow_pos (by omega))))
theorem shr_odd (s : Int) (k : Nat) : ((s / 2 ^ k).tmod 2 = 0) ↔ bitT s k = 0 := by
  unfold bitT
  rw [← Int.dvd_iff_tmod_eq_zero, ← Int.dvd_iff_emod_eq_zero]
theorem wrap64_fit {x : Int} (h0 : -9223372036854775808 ≤ x) (h1 : x ≤ 9223372036854775807) : wrap64 x = x := by unfold wrap64; omega

set_option maxHeartbeats 1000000 in
theorem count_s (s : Int) (w : World) (_ : -9223372036854775808 ≤ s) (h1 : s ≤ 9223372036854775807) :
    Calls Try.prog 50 #[.int .i64 s] w fun e w' => e = .returned (.int .i64 (countT s)) ∧ w' = w := by
  by_cases h : s < 0
  · have HF : Hid (countT s = 0) := if_pos h
    have h' : ¬ 0 ≤ s := by omega
    go_enter Try.func50, Try.ntmps50
    go_wp2
    go_loop [3, 4] (fun n i => n = .int .i64 0 ∧ i = .int .i64 0) (fun _ _ => 0)
    case atStart => exact ⟨rfl, rfl⟩
    case round =>
      obtain ⟨rfl, rfl⟩ := hrel
      go_wp2
      go_ret
      exact ⟨ret_int HF.out.symm, rfl⟩
  · have HF : Hid (countT s = cntTo s 7) := if_neg h
    have h' : 0 ≤ s := by omega
    go_enter Try.func50, Try.ntmps50
    go_wp2
    go_loop [3, 4] (fun n i => ∃ k : Nat, k ≤ 7 ∧ n = .int .i64 (cntTo s k) ∧ i = .int .i64 (k : Int)) (fun _ i => 7 - (intOf i).toNat)
    case atStart => exact ⟨0, by omega, rfl, rfl⟩
    case round =>
      obtain ⟨k, hk, rfl, rfl⟩ := hrel
      obtain ⟨c0, c1⟩ := cntTo_bounds s k
      by_cases hlt : (k : Int) < 7
      · have hb := bitT_cases s k
        have HW : Hid (wrap64 (cntTo s k + (s / 2 ^ k).tmod 2) = cntTo s (k + 1)) := (by rw [shr_bit h' k, wrap64_fit (by omega) (by omega)]; rfl : wrap64 (cntTo s k + (s / 2 ^ k).tmod 2) = cntTo s (k + 1))
        go_wp2
        go_round
        case rel => exact ⟨k + 1, by omega, by rw [HW.out], by simp⟩
        case measure => simp [intOf]; omega
      · have : k = 7 := by omega
        subst this
        go_wp2
        go_ret
        exact ⟨ret_int HF.out.symm, rfl⟩

end Go.Proofs.Ytfnneillakdopab
