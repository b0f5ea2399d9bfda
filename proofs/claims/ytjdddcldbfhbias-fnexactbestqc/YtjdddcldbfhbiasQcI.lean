/-
  The contracts of the program's functions on what enough signed: QcRight, QcOf, HigherQc, Proven.
-/
import Derived.Test.YtjdddcldbfhbiasVoteOkI
import Derived.Test.YtjdddcldbfhbiasQcS
namespace Go.Proofs.Ytjdddcldbfhbias
open Go.RowKit Num

set_option maxRecDepth 100000 in
set_option maxHeartbeats 1000000 in
theorem higher_i (a b : QC) (w : World) :
    Calls Try.prog 40 #[qcVal a, qcVal b] w fun e w' => e = .returned (qcVal (higherT a b)) ∧ Below w.heap.size w w' := by
  obtain ⟨a0, a1, a2, a3⟩ := a
  obtain ⟨b0, b1, b2, b3⟩ := b
  unfold qcVal
  simp only
  by_cases h : a1 < b1
  · have HE : Hid (higherT (a0, a1, a2, a3) (b0, b1, b2, b3) = (b0, b1, b2, b3)) := if_pos h
    go_enter Try.func40, Try.ntmps40
    go_wp2
    refine bodyPost_ret (v := .agg #[.int .i64 b0, .int .i64 b1, .int .i64 b2, .int .i64 b3]) (by simp [results, Try.results40, go_sem]) rfl ⟨by rw [HE.out], ?_⟩
    exact ba (ba (ba (Below.refl _ _) _) _) _
  · have HE : Hid (higherT (a0, a1, a2, a3) (b0, b1, b2, b3) = (a0, a1, a2, a3)) := if_neg h
    go_enter Try.func40, Try.ntmps40
    go_wp2
    refine bodyPost_ret (v := .agg #[.int .i64 a0, .int .i64 a1, .int .i64 a2, .int .i64 a3]) (by simp [results, Try.results40, go_sem]) rfl ⟨by rw [HE.out], ?_⟩
    exact ba (ba (ba (Below.refl _ _) _) _) _

theorem countT_pos {s : Int} (h : 0 ≤ s) : countT s = cntTo s 7 := if_neg (by omega)



theorem u64_low {s : Int} (f0 : -9223372036854775808 ≤ s) (f1 : s ≤ 9223372036854775807) {P : Int} (h0 : 1 ≤ P) (h1 : P ≤ 128) : decide (s % 18446744073709551616 < P) = inB s 0 (P - 1) := by
  unfold inB
  by_cases h : 0 ≤ s ∧ s ≤ P - 1
  · rw [decide_eq_true h, decide_eq_true (by omega)]
  · rw [decide_eq_false h, decide_eq_false (by omega)]



end Go.Proofs.Ytjdddcldbfhbias
