/-
  The contracts of the specification's functions on accounts: keys, commands, lists, places.
-/
import Derived.Test.YtgljieaichkmianCellN
import Derived.BigQuiet
namespace Go.Proofs.Ytgljieaichkmian
open Go.RowKit Num


end Go.Proofs.Ytgljieaichkmian
