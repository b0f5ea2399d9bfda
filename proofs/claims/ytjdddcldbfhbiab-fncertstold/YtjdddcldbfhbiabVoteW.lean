/-
  Votes whose numbers fit; what a vote's type says.
-/
import Derived.Test.YtjdddcldbfhbiabVoteX
import Derived.Test.YtjdddcldbfhbiabFitQ
namespace Go.Proofs.Ytjdddcldbfhbiab
open Go.RowKit Num

/-- numbers that fit -/
def wfV (v : VT) : Prop := (Lit.int .i64 v.1).wf = true ∧ (Lit.int .i64 v.2.1).wf = true ∧ (Lit.int .i64 v.2.2.1).wf = true ∧ (Lit.int .i64 v.2.2.2).wf = true
theorem infoVote : (Try.prog.info? 54).map (fun i => (i.zero, i.size, i.bytes)) = some (some (.agg #[.int .i64 0, .int .i64 0, .int .i64 0, .int .i64 0]), 4, 32) := by kernel_rfl

end Go.Proofs.Ytjdddcldbfhbiab
