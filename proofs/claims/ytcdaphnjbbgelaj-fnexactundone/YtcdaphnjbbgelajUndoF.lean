/-
  What an account had, in memory: three cells.
-/
import Derived.Test.YtcdaphnjbbgelajUndoN
import Derived.Test.YtcdaphnjbbgelajRowX
namespace Go.Proofs.Ytcdaphnjbbgelaj
open Go.RowKit Num

/-- .. as a value -/
def undoV (u : UN) : Value := .agg #[.string u.1, .bool u.2.1, .int .i64 u.2.2]
/-- .. as three cells -/
def undoF (u : UN) : List Value := [.string u.1, .bool u.2.1, .int .i64 u.2.2]
theorem undoF_len (u : UN) : (undoF u).length = 3 := rfl

theorem infoUndo : (Try.prog.info? 51).map (fun i => (i.zero, i.size, i.bytes)) = some (some (.agg #[.string ByteArray.empty, .bool false, .int .i64 0]), 3, 32) := by kernel_rfl

end Go.Proofs.Ytcdaphnjbbgelaj
