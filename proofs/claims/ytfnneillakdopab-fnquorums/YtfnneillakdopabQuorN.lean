/-
  Plain mathematics of what is enough: any two sets that are enough have more in common than may lie.
-/
import Derived.Test.YtfnneillakdopabVoteN
namespace Go.Proofs.Ytfnneillakdopab
open Go.RowKit Num

/-- how many of the lowest k bits both have -/
def bothTo (a b : Int) : Nat → Int
  | 0 => 0
  | k + 1 => bothTo a b k + (if bitT a k = 1 ∧ bitT b k = 1 then 1 else 0)
theorem bothTo_bounds (a b : Int) : ∀ k, 0 ≤ bothTo a b k ∧ bothTo a b k ≤ (k : Int)
  | 0 => by simp [bothTo]
  | k + 1 => by
    obtain ⟨h0, h1⟩ := bothTo_bounds a b k
    unfold bothTo
    split <;> omega
theorem both_ge (a b : Int) : ∀ k : Nat, cntTo a k + cntTo b k ≤ bothTo a b k + (k : Int)
  | 0 => by simp [cntTo, bothTo]
  | k + 1 => by
    have h := both_ge a b k
    have h1 := bitT_cases a k
    have h2 := bitT_cases b k
    unfold cntTo bothTo
    split <;> omega
theorem pow_up (n : Nat) : ∀ j : Nat, (2 : Int) ^ n ≤ (2 : Int) ^ (n + j)
  | 0 => Int.le_refl _
  | j + 1 => by
    have h := pow_up n j
    have hp : (0 : Int) < (2 : Int) ^ (n + j) := Int.pow_pos (by omega)
    rw [show n + (j + 1) = n + j + 1 from rfl, Int.pow_succ]
    omega
theorem bit_high {a : Int} {n i : Nat} (h0 : 0 ≤ a) (h1 : a < (2 : Int) ^ n) (hi : n ≤ i) : bitT a i = 0 := by
  unfold bitT
  have hp : (2 : Int) ^ n ≤ (2 : Int) ^ i := by
    have := pow_up n (i - n)
    rw [show n + (i - n) = i by omega] at this
    exact this
  rw [Int.ediv_eq_zero_of_lt h0 (by omega)]
  rfl
theorem cnt_high {a : Int} {n : Nat} (h0 : 0 ≤ a) (h1 : a < (2 : Int) ^ n) : ∀ j : Nat, cntTo a (n + j) = cntTo a n
  | 0 => rfl
  | j + 1 => by
    show cntTo a (n + j) + bitT a (n + j) = cntTo a n
    rw [cnt_high h0 h1 j, bit_high h0 h1 (by omega)]
    omega
theorem count_low {a : Int} {n : Nat} (h0 : 0 ≤ a) (h1 : a < (2 : Int) ^ n) (hn : n ≤ 7) : countT a = cntTo a n := by
  unfold countT
  rw [if_neg (by omega)]
  have := cnt_high h0 h1 (7 - n)
  rw [show n + (7 - n) = 7 by omega] at this
  exact this
/-- promise 7 -/
theorem quorum_meet {a b : Int} {n : Nat} (hn : 1 ≤ n) (hn7 : n ≤ 7) (a0 : 0 ≤ a) (a1 : a < (2 : Int) ^ n) (b0 : 0 ≤ b) (b1 : b < (2 : Int) ^ n) (ha : quorumT (n : Int) ≤ countT a) (hb : quorumT (n : Int) ≤ countT b) : faultsT (n : Int) < bothTo a b n := by
  rw [count_low a0 a1 hn7] at ha
  rw [count_low b0 b1 hn7] at hb
  have h := both_ge a b n
  have h3 := faults_three (n : Int) (by omega)
  unfold quorumT at ha hb
  omega
theorem leader_bounds {v n : Int} (hn : 1 ≤ n) (hv : 0 ≤ v) : 0 ≤ leaderT v n ∧ leaderT v n < n := by
  unfold leaderT
  rw [if_neg (by omega)]
  exact ⟨Int.emod_nonneg _ (by omega), Int.emod_lt_of_pos _ (by omega)⟩
theorem leader_next {v n : Int} (hn : 1 ≤ n) (hv : 0 ≤ v) : leaderT (v + 4) n = (leaderT v n + 1) % n := by
  unfold leaderT
  rw [if_neg (by omega), if_neg (by omega), show (v + 4) / 4 = v / 4 + 1 by omega, Int.emod_add_emod]
theorem leader_four {v n : Int} (hn : 1 ≤ n) (hv : 0 ≤ v) : leaderT (4 * v + 3) n = leaderT (4 * v) n := by
  unfold leaderT
  rw [if_neg (by omega), if_neg (by omega), show (4 * v + 3) / 4 = v by omega, show 4 * v / 4 = v by omega]

end Go.Proofs.Ytfnneillakdopab
