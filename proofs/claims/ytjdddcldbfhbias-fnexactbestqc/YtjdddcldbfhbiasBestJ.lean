/-
  The contract of the program's BestQc, as the law FnExactBestQc asks it.
-/
import Derived.Test.YtjdddcldbfhbiasBestI
import Derived.Test.YtjdddcldbfhbiasWFnExactBestQc
namespace Go.Proofs.Ytjdddcldbfhbias
open Go.RowKit Num

theorem bestQc_i : WFnExactBestQc.Prg := fun p s _ _ w hD hs _ => bestQcR_i p s w hD.reads hs.news

end Go.Proofs.Ytjdddcldbfhbias
