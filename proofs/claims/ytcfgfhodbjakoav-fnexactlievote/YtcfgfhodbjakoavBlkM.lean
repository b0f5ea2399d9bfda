/-
  The contracts of the laws' own helpers over blocks: marked, and looked at again.
-/
import Derived.Test.YtcfgfhodbjakoavBlkMk
namespace Go.Proofs.Ytcfgfhodbjakoav
open Go.RowKit Num





end Go.Proofs.Ytcfgfhodbjakoav
