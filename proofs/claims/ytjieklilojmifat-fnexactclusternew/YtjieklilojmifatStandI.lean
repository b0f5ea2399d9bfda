/-
  The contracts of the program's helpers on blocks behind pointers.
-/
import Derived.Test.YtjieklilojmifatPtrX
import Derived.BigQuiet
namespace Go.Proofs.Ytjieklilojmifat
open Go.RowKit Num



end Go.Proofs.Ytjieklilojmifat
