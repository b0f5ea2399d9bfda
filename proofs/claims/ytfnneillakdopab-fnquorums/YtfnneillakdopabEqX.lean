/-
  Structs compared: a command, what enough signed.
-/
import Derived.Test.YtfnneillakdopabBlkX
import Derived.Laws.StructEq
namespace Go.Proofs.Ytfnneillakdopab
open Go.RowKit Num

theorem eqQ (q r : QC) (w : World) : (Op.equalIn 10000 31 (.agg #[.int .i64 q.1, .int .i64 q.2.1, .int .i64 q.2.2.1, .int .i64 q.2.2.2]) (.agg #[.int .i64 r.1, .int .i64 r.2.1, .int .i64 r.2.2.1, .int .i64 r.2.2.2])).run Try.prog w = .ok (decide (q = r)) w := by
  have u3 := Try.underlying3
  have hS : Try.prog.underlying 31 = some (.struct (Try.prog.fieldsOf 31)) := by kernel_rfl
  have hp : Try.prog.stoodInHeld 31 = false := by kernel_rfl
  rw [show (10000 : Nat) = 9999 + 1 from rfl, run_equalIn_agg w 9999 31 _ _ hS hp]
  simp only [Program.fieldsOf, Try.underlying31]
  go_simp
  obtain ⟨a, b, c, d⟩ := q
  obtain ⟨a', b', c', d'⟩ := r
  simp only [Prod.mk.injEq]
  by_cases h1 : a = a' <;> by_cases h2 : b = b' <;> by_cases h3 : c = c' <;> by_cases h4 : d = d' <;> simp [h1, h2, h3, h4]
theorem guardQ : Try.prog.eqGuardType Try.prog.depth 31 = false := by kernel_rfl

theorem eqM (c d : CM) (w : World) : (Op.equalIn 10000 103 (.agg #[.int .i64 c.1, .string c.2.1, .int .i64 c.2.2]) (.agg #[.int .i64 d.1, .string d.2.1, .int .i64 d.2.2])).run Try.prog w = .ok (decide (c = d)) w := by
  have u3 := Try.underlying3
  have u9 := Try.underlying9
  have hS : Try.prog.underlying 103 = some (.struct (Try.prog.fieldsOf 103)) := by kernel_rfl
  have hp : Try.prog.stoodInHeld 103 = false := by kernel_rfl
  rw [show (10000 : Nat) = 9999 + 1 from rfl, run_equalIn_agg w 9999 103 _ _ hS hp]
  simp only [Program.fieldsOf, Try.underlying103]
  go_simp
  obtain ⟨k, s, n⟩ := c
  obtain ⟨k', s', n'⟩ := d
  simp only [Prod.mk.injEq]
  by_cases h1 : k = k'
  · by_cases h2 : s = s'
    · by_cases h3 : n = n' <;> simp [h1, h2, h3]
    · have e2 : ¬ s.toList = s'.toList := beq_eq_false_iff_ne.1 (ba_ne h2)
      simp [h1, h2, e2]
  · simp [h1]
theorem guardM : Try.prog.eqGuardType Try.prog.depth 103 = false := by kernel_rfl

end Go.Proofs.Ytfnneillakdopab
