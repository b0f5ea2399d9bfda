/-
  math/bits.OnesCount64 of a number below 128.
-/
import Derived.Test.YtgljieaichkmiamNumV
import Derived.Laws.Bits64b
import Derived.BigQuiet
namespace Go.Proofs.Ytgljieaichkmiam
open Go.RowKit Num


end Go.Proofs.Ytgljieaichkmiam
