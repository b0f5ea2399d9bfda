/-
  math/bits.OnesCount64 of a number below 128.
-/
import Derived.Test.YtgljieaichkmiabNumV
import Derived.Laws.Bits64b
import Derived.BigQuiet
namespace Go.Proofs.Ytgljieaichkmiab
open Go.RowKit Num

set_option maxRecDepth 100000 in
set_option maxHeartbeats 1000000 in
theorem ones_i (x : Int) (w : World) (h0 : 0 ≤ x) (h1 : x < 128) :
    Calls Try.prog 80 #[.int .u64 x] w fun e w' => e = .returned (.int .i64 (cntTo x 7)) ∧ w' = w := by
  obtain ⟨n, rfl⟩ := Int.eq_ofNat_of_zero_le h0
  go_enter Try.func80, Try.ntmps80
  go_wp2
  go_ret
  refine ⟨ret_int ?_, rfl⟩
  have hn : n < 128 := by omega
  clear h0 h1
  revert n
  decide +kernel

end Go.Proofs.Ytgljieaichkmiab
