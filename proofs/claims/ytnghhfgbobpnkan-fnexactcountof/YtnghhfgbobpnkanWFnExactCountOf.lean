/-
  The walk of the law FnExactCountOf: the specification's answer and the program's are the same.
-/
import Derived.Test.YtnghhfgbobpnkanNumV
import Derived.OpenShut
namespace Go.Proofs.Ytnghhfgbobpnkan.WFnExactCountOf
open Go.RowKit Num

set_option maxRecDepth 100000 in
set_option maxHeartbeats 1000000 in
theorem walk_of (HI : ∀ (s : Int) (_ : (Lit.int .i64 s).wf = true) (w : World), Calls Try.prog 14 #[.int .i64 s] w fun e w' => e = .returned (.int .i64 (countT s)) ∧ Below w.heap.size w w') (w : World) (s : Int) (hs : (Lit.int .i64 s).wf = true) :
    Calls Try.prog 4 #[.int .i64 s] w fun e w' => e = .returned (.bool true) ∧ Below w.heap.size w w' := by
  go_enter Try.func4, Try.ntmps4
  go_wp2_with fail
  refine (count_s s w (bounds_i64 hs).1 (bounds_i64 hs).2).mono ?_
  rintro e w' ⟨rfl, hw⟩
  obtain rfl := hw.symm
  clear hw
  go_wp2_with fail
  refine (HI s hs w).mono ?_
  rintro e w1 ⟨rfl, hb1⟩
  obtain ⟨r, hr⟩ : ∃ r, r = countT s := ⟨_, rfl⟩
  rw [← hr]
  clear hr
  have d0 : (r != r) = false := by simp
  go_wp2
  go_ret
  exact ⟨rfl, hb1⟩

end Go.Proofs.Ytnghhfgbobpnkan.WFnExactCountOf
