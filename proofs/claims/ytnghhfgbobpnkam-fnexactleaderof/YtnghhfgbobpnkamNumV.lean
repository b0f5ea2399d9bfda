/-
  The contracts of the specification's functions on votes that take numbers alone: Faults, Quorum, LeaderOf, CountOf.
-/
import Derived.Test.YtnghhfgbobpnkamVoteN
import Derived.Test.YtnghhfgbobpnkamInS
import Derived.BigQuiet
namespace Go.Proofs.Ytnghhfgbobpnkam
open Go.RowKit Num

theorem faults_s (n : Int) (w : World) (h0 : -9223372036854775808 ≤ n) (h1 : n ≤ 9223372036854775807) :
    Calls Try.prog 21 #[.int .i64 n] w fun e w' => e = .returned (.int .i64 (faultsT n)) ∧ w' = w := by
  by_cases h : n < 1
  · have HF : Hid (faultsT n = 0) := if_pos h
    go_enter Try.func21, Try.ntmps21
    go_wp2
    go_ret
    exact ⟨ret_int HF.out.symm, rfl⟩
  · have HF : Hid (faultsT n = (n - 1) / 3) := if_neg h
    go_enter Try.func21, Try.ntmps21
    go_wp2
    go_ret
    exact ⟨ret_int HF.out.symm, rfl⟩

theorem faults_le (n : Int) : 0 ≤ faultsT n ∧ (1 ≤ n → faultsT n < n) := by
  unfold faultsT
  split
  · exact ⟨Int.le_refl _, fun h => by omega⟩
  · exact ⟨by omega, fun h => by omega⟩
theorem faults_low {n : Int} (h : n < 1) : faultsT n = 0 := if_pos h

theorem quorum_s (n : Int) (w : World) (h0 : -9223372036854775808 ≤ n) (h1 : n ≤ 9223372036854775807) :
    Calls Try.prog 23 #[.int .i64 n] w fun e w' => e = .returned (.int .i64 (quorumT n)) ∧ w' = w := by
  obtain ⟨f, hf⟩ : ∃ f, f = faultsT n := ⟨_, rfl⟩
  have f0 : 0 ≤ f := by rw [hf]; exact (faults_le n).1
  have f1 : n - f ≤ 9223372036854775807 := by omega
  have f2 : -9223372036854775808 ≤ n - f := by
    by_cases h : n < 1
    · rw [hf, faults_low h]; omega
    · have := (faults_le n).2 (by omega); omega
  have HF : Hid (faultsT n = f) := hf.symm
  clear hf
  go_enter Try.func23, Try.ntmps23
  go_wp2_with fail
  refine (faults_s n w h0 h1).mono ?_
  rintro e w' ⟨rfl, hw⟩
  obtain rfl := hw.symm
  clear hw
  rw [HF.out]
  go_wp2
  go_ret
  exact ⟨ret_int (by unfold quorumT; rw [HF.out]), rfl⟩

theorem leader_s (view n : Int) (w : World) (_ : -9223372036854775808 ≤ n) (h1 : n ≤ 9223372036854775807) (_ : -9223372036854775808 ≤ view) (h3 : view ≤ 9223372036854775807) :
    Calls Try.prog 25 #[.int .i64 view, .int .i64 n] w fun e w' => e = .returned (.int .i64 (leaderT view n)) ∧ w' = w := by
  by_cases h : n < 1
  · have HF : Hid (leaderT view n = 0) := if_pos (Or.inl h)
    go_enter Try.func25, Try.ntmps25
    go_wp2
    go_ret
    exact ⟨ret_int HF.out.symm, rfl⟩
  · by_cases hv : view < 0
    · have HF : Hid (leaderT view n = 0) := if_pos (Or.inr hv)
      go_enter Try.func25, Try.ntmps25
      go_wp2
      go_ret
      exact ⟨ret_int HF.out.symm, rfl⟩
    · have HF : Hid (leaderT view n = view / 4 % n) := if_neg (by omega)
      have q0 : 0 ≤ view / 4 := by omega
      go_enter Try.func25, Try.ntmps25
      go_wp2
      go_ret
      exact ⟨ret_int HF.out.symm, rfl⟩

theorem shr_bit {s : Int} (h : 0 ≤ s) (k : Nat) : (s / 2 ^ k).tmod 2 = bitT s k := by
  unfold bitT
  exact Int.tmod_eq_emod_of_nonneg (Int.ediv_nonneg h (Int.le_of_lt (Int.pow_pos (by omega))))
theorem shr_odd (s : Int) (k : Nat) : ((s / 2 ^ k).tmod 2 = 0) ↔ bitT s k = 0 := by
  unfold bitT
  rw [← Int.dvd_iff_tmod_eq_zero, ← Int.dvd_iff_emod_eq_zero]
theorem wrap64_fit {x : Int} (h0 : -9223372036854775808 ≤ x) (h1 : x ≤ 9223372036854775807) : wrap64 x = x := by unfold wrap64; omega


end Go.Proofs.Ytnghhfgbobpnkam
