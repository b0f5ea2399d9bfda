/-
  A command in memory: three cells.
-/
import Derived.Test.YtfnneillakdopabCmdI
import Derived.Test.YtfnneillakdopabRowX
namespace Go.Proofs.Ytfnneillakdopab
open Go.RowKit Num

/-- a command, three cells -/
def cmdF (c : CM) : List Value := [.int .i64 c.1, .string c.2.1, .int .i64 c.2.2]
theorem cmdF_len (c : CM) : (cmdF c).length = 3 := rfl

end Go.Proofs.Ytfnneillakdopab
