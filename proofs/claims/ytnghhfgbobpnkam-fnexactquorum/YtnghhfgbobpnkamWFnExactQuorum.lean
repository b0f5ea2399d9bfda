/-
  The walk of the law FnExactQuorum: the specification's answer and the program's are the same.
-/
import Derived.Test.YtnghhfgbobpnkamNumV
import Derived.OpenShut
namespace Go.Proofs.Ytnghhfgbobpnkam.WFnExactQuorum
open Go.RowKit Num

set_option maxRecDepth 100000 in
set_option maxHeartbeats 1000000 in
theorem walk_of (HI : ∀ (n : Int) (_ : (Lit.int .i64 n).wf = true) (w : World), Calls Try.prog 24 #[.int .i64 n] w fun e w' => e = .returned (.int .i64 (quorumT n)) ∧ Below w.heap.size w w') (w : World) (n : Int) (hn : (Lit.int .i64 n).wf = true) :
    Calls Try.prog 6 #[.int .i64 n] w fun e w' => e = .returned (.bool true) ∧ Below w.heap.size w w' := by
  go_enter Try.func6, Try.ntmps6
  go_wp2_with fail
  refine (quorum_s n w (bounds_i64 hn).1 (bounds_i64 hn).2).mono ?_
  rintro e w' ⟨rfl, hw⟩
  obtain rfl := hw.symm
  clear hw
  go_wp2_with fail
  refine (HI n hn w).mono ?_
  rintro e w1 ⟨rfl, hb1⟩
  obtain ⟨r, hr⟩ : ∃ r, r = quorumT n := ⟨_, rfl⟩
  rw [← hr]
  clear hr
  have d0 : (r != r) = false := by simp
  go_wp2
  go_ret
  exact ⟨rfl, hb1⟩

end Go.Proofs.Ytnghhfgbobpnkam.WFnExactQuorum
