/-
  Commands that came in, as the walks want them.
-/
import Derived.Test.YtjieklilojmifatJ2
import Derived.Test.YtjieklilojmifatJ0
import Derived.Lib.SmallJoins
namespace Go.Proofs.Ytjieklilojmifat
open Go.ChangeShapes Go.WideShapes Go.ChangeAt Go.RowKit

/-- a command as it can be read -/
def goodCmd (c : CM) : Prop := (Lit.int .i64 c.1).wf = true ∧ c.2.1.size ≤ maxLen ∧ (Lit.int .i64 c.2.2).wf = true




end Go.Proofs.Ytjieklilojmifat
