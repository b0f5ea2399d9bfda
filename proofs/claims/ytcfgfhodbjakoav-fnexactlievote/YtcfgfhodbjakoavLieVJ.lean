/-
  The contracts of LieVote, of the specification's and the program's, as the law asks them.
-/
import Derived.Test.YtcfgfhodbjakoavWFnExactLieVote
import Derived.Test.YtcfgfhodbjakoavLieVI
namespace Go.Proofs.Ytcfgfhodbjakoav
open Go.RowKit Num

theorem lieVote_con : WFnExactLieVote.ConV 5 := fun c s i to' ph k w hR hl => lieVote_s c s i to' ph k w hR hl
theorem lieVote_coni : WFnExactLieVote.ConV 7 := fun c s i to' ph k w hR hl => lieVote_i c s i to' ph k w hR hl

end Go.Proofs.Ytcfgfhodbjakoav
