/-
  The contracts of the specification's copies of blocks, and of PutBlock.
-/
import Derived.Test.YtjieklilojmifatTreeS
import Derived.Test.YtjieklilojmifatJ2
namespace Go.Proofs.Ytjieklilojmifat
open Go.RowKit Num



set_option maxRecDepth 100000 in
theorem treeNew_s (w : World) : Calls Try.prog 58 #[] w fun e w' => ∃ v', e = .returned v' ∧ OwnT w' w.heap.size v' [(firstB, .slice none 0 0)] ∧ Below w.heap.size w w' := by
  go_enter Try.func58, Try.ntmps58
  go_wp2_with fail
  refine (first_s w).mono ?_
  rintro e w1 ⟨rfl, hb1⟩
  unfold blkV firstB
  go_wp2
  go_ret
  exact ⟨_, rfl, ownT_one (b := firstB) (cv := .slice none 0 0) hb1.size (World.ownsRow_nil _ _ _ _), ba hb1 _⟩


end Go.Proofs.Ytjieklilojmifat
