/-
  The contracts of the specification's functions on votes that take numbers alone: Faults, Quorum, LeaderOf, CountOf.
-/
import Derived.Test.YtnghhfgbobpnkaoDoorVoteN
import Derived.Test.YtnghhfgbobpnkaoDoorInS
import Derived.BigQuiet
namespace Go.Proofs.YtnghhfgbobpnkaoDoor
open Go.RowKit Num


theorem faults_le (n : Int) : 0 ≤ faultsT n ∧ (1 ≤ n → faultsT n < n) := by
  unfold faultsT
  split
  · exact ⟨Int.le_refl _, fun h => by omega⟩
  · exact ⟨by omega, fun h => by omega⟩
theorem faults_low {n : Int} (h : n < 1) : faultsT n = 0 := if_pos h



theorem shr_bit {s : Int} (h : 0 ≤ s) (k : Nat) : (s / 2 ^ k).tmod 2 = bitT s k := by
  unfold bitT
  exact Int.tmod_eq_emod_of_nonneg (Int.ediv_nonneg h (Int.le_of_lt (Int.pow_pos (by omega))))
theorem shr_odd (s : Int) (k : Nat) : ((s / 2 ^ k).tmod 2 = 0) ↔ bitT s k = 0 := by
  unfold bitT
  rw [← Int.dvd_iff_tmod_eq_zero, ← Int.dvd_iff_emod_eq_zero]
theorem wrap64_fit {x : Int} (h0 : -9223372036854775808 ≤ x) (h1 : x ≤ 9223372036854775807) : wrap64 x = x := by unfold wrap64; omega


end Go.Proofs.YtnghhfgbobpnkaoDoor
