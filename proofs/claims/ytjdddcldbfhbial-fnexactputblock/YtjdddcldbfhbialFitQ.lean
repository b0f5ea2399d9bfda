/-
  Numbers that fit, four of them.
-/
import Derived.Test.YtjdddcldbfhbialBlockN
namespace Go.Proofs.Ytjdddcldbfhbial
open Go.RowKit

/-- numbers that fit -/
def wfQ (q : QC) : Prop := (Lit.int .i64 q.1).wf = true ∧ (Lit.int .i64 q.2.1).wf = true ∧ (Lit.int .i64 q.2.2.1).wf = true ∧ (Lit.int .i64 q.2.2.2).wf = true

end Go.Proofs.Ytjdddcldbfhbial
