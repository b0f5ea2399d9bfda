/-
  The contracts of CmdOk, the program's and the specification's.
-/
import Derived.Test.YtcfgfhodbjakoavKeyI
import Derived.Test.YtcfgfhodbjakoavCellS
namespace Go.Proofs.Ytcfgfhodbjakoav
open Go.RowKit Num

/-- a command as a value -/
def cmdV (c : CM) : Value := .agg #[.int .i64 c.1, .string c.2.1, .int .i64 c.2.2]

theorem cmdB_kind {c : CM} (h : ¬ (1 ≤ c.1 ∧ c.1 ≤ 3)) : cmdB c = false := by unfold cmdB; rw [inB_no h]; rfl
theorem cmdB_key {c : CM} (h : keyB c.2.1 = false) : cmdB c = false := by unfold cmdB; rw [h, Bool.false_and, Bool.and_false]
theorem cmdB_rest {c : CM} (h : 1 ≤ c.1 ∧ c.1 ≤ 3) (h2 : keyB c.2.1 = true) : cmdB c = numB c.2.2 := by unfold cmdB; rw [inB_yes h, h2]; rfl


end Go.Proofs.Ytcfgfhodbjakoav
