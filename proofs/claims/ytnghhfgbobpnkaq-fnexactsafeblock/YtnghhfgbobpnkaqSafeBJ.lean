/-
  The contract of the program's SafeBlock, as the law FnExactSafeBlock asks it.
-/
import Derived.Test.YtnghhfgbobpnkaqSafeBI
import Derived.Test.YtnghhfgbobpnkaqWFnExactSafeBlock
namespace Go.Proofs.Ytnghhfgbobpnkaq
open Go.RowKit Num

theorem safeBlock_i : WFnExactSafeBlock.Prg := fun ps v x _ n _ w hT hk => safeBlockQ_i ps v x n w hT.q (by have := hk.1; rw [bks_len] at this; exact this)

end Go.Proofs.Ytnghhfgbobpnkaq
