/-
  The library's own contract of stringslite.Clone (proved once, in the kit's shelf), laid at this translation, and out of it the contract of strings.Clone: the same bytes; at most new memory.
-/
import Derived.Shelf.LaysM
import Derived.Shelf.Strconv.Clone
import Derived.Test.YtnghhfgbobpnkaoDoorRows
import Derived.WalkKit
namespace Go.Proofs.YtnghhfgbobpnkaoDoor
open Go.Shelf Go.RowKit
end Go.Proofs.YtnghhfgbobpnkaoDoor
