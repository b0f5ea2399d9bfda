/-
  The contract of the program's TimedOut, as the law FnExactTimedOut asks it.
-/
import Derived.Test.YtdopefimjabigatTimeI
import Derived.Test.YtdopefimjabigatWFnExactTimedOut
namespace Go.Proofs.Ytdopefimjabigat
open Go.RowKit Num

theorem timedOut_i : WFnExactTimedOut.Prg := fun p s _ _ n w ho hs hg hn => timedR_i p s n w hg hn ho.reads hs

end Go.Proofs.Ytdopefimjabigat
