/-
  The contracts of the specification's functions on accounts: keys, commands, lists, places.
-/
import Derived.Test.YtgljieaichkmiamCellN
import Derived.BigQuiet
namespace Go.Proofs.Ytgljieaichkmiam
open Go.RowKit Num


end Go.Proofs.Ytgljieaichkmiam
