/-
  The contracts of the program's functions on what enough signed: QcRight, QcOf, HigherQc, Proven.
-/
import Derived.Test.YtjieklilojmifatVoteOkI
import Derived.Test.YtjieklilojmifatQcS
namespace Go.Proofs.Ytjieklilojmifat
open Go.RowKit Num


theorem countT_pos {s : Int} (h : 0 ≤ s) : countT s = cntTo s 7 := if_neg (by omega)


theorem among_i (s : Int) (m : Nat) (w : World) (h0 : 0 ≤ s) (_ : s < 18446744073709551616) (hm : m ≤ 7) :
    Calls Try.prog 60 #[.int .u64 s, .int .i64 (m : Int)] w fun e w' => e = .returned (.bool (decide (s < 2 ^ m))) ∧ w' = w := by
  have q0 : (0 : Int) ≤ (m : Int) := by omega
  have q1 : (m : Int) ≤ 7 := by omega
  have HE : Hid ((s / 2 ^ m == 0) = decide (s < 2 ^ m)) := (by
    have hp := (pow_peers hm).1
    by_cases h : s < 2 ^ m
    · rw [decide_eq_true h, Int.ediv_eq_zero_of_lt h0 h]; rfl
    · rw [decide_eq_false h, beq_eq_false_iff_ne]
      intro e
      have := Int.lt_ediv_add_one_mul_self s (show (0 : Int) < 2 ^ m by omega)
      rw [e] at this
      omega : (s / 2 ^ m == 0) = decide (s < 2 ^ m))
  go_enter Try.func60, Try.ntmps60
  go_wp2
  go_ret
  exact ⟨ret_bool HE.out, rfl⟩

theorem u64_low {s : Int} (f0 : -9223372036854775808 ≤ s) (f1 : s ≤ 9223372036854775807) {P : Int} (h0 : 1 ≤ P) (h1 : P ≤ 128) : decide (s % 18446744073709551616 < P) = inB s 0 (P - 1) := by
  unfold inB
  by_cases h : 0 ≤ s ∧ s ≤ P - 1
  · rw [decide_eq_true h, decide_eq_true (by omega)]
  · rw [decide_eq_false h, decide_eq_false (by omega)]



end Go.Proofs.Ytjieklilojmifat
