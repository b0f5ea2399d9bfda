/-
  The contracts of the program's helpers on blocks behind pointers.
-/
import Derived.Test.YtjieklilojmifauGreatRPtrX
import Derived.BigQuiet
namespace Go.Proofs.YtjieklilojmifauGreatR
open Go.RowKit Num



end Go.Proofs.YtjieklilojmifauGreatR
