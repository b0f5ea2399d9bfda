/-
  Blocks that came in, as the walks want them.
-/
import Derived.Test.YtjieklilojmifatBlkL
import Derived.Test.YtjieklilojmifatCmdOpen
import Derived.Test.YtjieklilojmifatJ0
namespace Go.Proofs.Ytjieklilojmifat
open Go.ChangeShapes Go.WideShapes Go.ChangeAt Go.RowKit

def wfB (b : BK) : Prop := (Lit.int .i64 b.1.1).wf = true ∧ (Lit.int .i64 b.1.2).wf = true ∧ wfQ b.2.2 ∧ ∀ c ∈ b.2.1, goodCmd c

end Go.Proofs.Ytjieklilojmifat
