/-
  The contracts of the laws' own helpers over blocks: turned into the program's.
-/
import Derived.Test.YtjieklilojmifatBlkL
import Derived.Test.YtjieklilojmifatJ2
namespace Go.Proofs.Ytjieklilojmifat
open Go.RowKit Num

def qcV (q : QC) : Value := .agg #[.int .i64 q.1, .int .i64 q.2.1, .int .i64 q.2.2.1, .int .i64 q.2.2.2]

theorem toQc_any (q : QC) (w : World) :
    Calls Try.prog 28 #[qcV q] w fun e w' => e = .returned (qcV q) ∧ Below w.heap.size w w' := by
  obtain ⟨a, b, c, d⟩ := q
  unfold qcV
  go_enter Try.func28, Try.ntmps28
  go_wp2
  refine bodyPost_ret (v := .agg #[_, _, _, _]) (by simp [results, Try.results28, go_sem]) rfl ⟨rfl, ?_⟩
  exact ba (ba (ba (Below.refl _ _) _) _) _


end Go.Proofs.Ytjieklilojmifat
