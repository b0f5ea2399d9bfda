/-
  The walk of the law FnExactQcText: the specification's answer and the program's are the same.
-/
import Derived.Test.YtnghhfgbobpnkaoFourS
import Derived.Test.YtnghhfgbobpnkaoTxtI
import Derived.Test.YtnghhfgbobpnkaoFitQ
import Derived.OpenShut
namespace Go.Proofs.Ytnghhfgbobpnkao.WFnExactQcText
open Go.RowKit Num

theorem to_any (a b c d : Int) (w : World) :
    Calls Try.prog 17 #[.agg #[.int .i64 a, .int .i64 b, .int .i64 c, .int .i64 d]] w fun e w' => e = .returned (.agg #[.int .i64 a, .int .i64 b, .int .i64 c, .int .i64 d]) ∧ Below w.heap.size w w' := by
  go_enter Try.func17, Try.ntmps17
  go_wp2
  refine bodyPost_ret (v := .agg #[_, _, _, _]) (by simp [results, Try.results17, go_sem]) rfl ⟨rfl, ?_⟩
  exact ba (ba (ba (Below.refl _ _) _) _) _

set_option maxRecDepth 100000 in
theorem walk (w : World) (p : QC) (hp : wfQ p) :
    Calls Try.prog 5 #[.agg #[.int .i64 p.1, .int .i64 p.2.1, .int .i64 p.2.2.1, .int .i64 p.2.2.2]] w fun e w' => e = .returned (.bool true) ∧ Below w.heap.size w w' := by
  obtain ⟨a, b, c, d⟩ := p
  obtain ⟨h0, h1, h2, h3⟩ := hp
  have f0 := (bounds_i64 h0).2
  have f1 := (bounds_i64 h1).2
  have f2 := (bounds_i64 h2).2
  have f3 := (bounds_i64 h3).2
  simp only at f0 f1 f2 f3 ⊢
  clear h0 h1 h2 h3
  obtain ⟨S, hS⟩ : ∃ S, S = fourT a b c d := ⟨_, rfl⟩
  have HS : Hid (∀ x, Calls Try.prog 16 #[.agg #[.int .i64 a, .int .i64 b, .int .i64 c, .int .i64 d]] x fun e w' => e = .returned (.string S) ∧ Below x.heap.size x w') := fun x => by have := fourQ_s a b c d x f0 f1 f2 f3; rw [← hS] at this; exact this
  have HI : Hid (∀ x, Calls Try.prog 18 #[.agg #[.int .i64 a, .int .i64 b, .int .i64 c, .int .i64 d]] x fun e w' => e = .returned (.string S) ∧ Below x.heap.size x w') := fun x => by have := qcText_i a b c d x f0 f1 f2 f3; rw [← hS] at this; exact this
  obtain ⟨W, hW⟩ : ∃ W, W = w.alloc (.cells #[.int .i64 a, .int .i64 b, .int .i64 c, .int .i64 d] 24) := ⟨_, rfl⟩
  have HB : Hid (Below w.heap.size w W) := (by rw [hW]; exact ba (Below.refl _ _) _ : Below w.heap.size w W)
  have HK : Hid (W.heap[w.heap.size]? = some (.cells #[.int .i64 a, .int .i64 b, .int .i64 c, .int .i64 d] 24 (0, 0))) := (by rw [hW]; exact heap_alloc_new w _ : W.heap[w.heap.size]? = _)
  have l0 : w.heap.size < W.heap.size := (Array.getElem?_eq_some_iff.1 HK.out).1
  clear f0 f1 f2 f3 hS
  go_enter Try.func5, Try.ntmps5
  obtain ⟨c0, c1, c2, c3⟩ := four_cells HK.out
  rw [hW] at c0 c1 c2 c3
  go_wp2_with fail
  rw [← hW]
  clear hW c0 c1 c2 c3
  refine (to_any a b c d W).mono ?_
  rintro e w1 ⟨rfl, b1⟩
  go_wp2_with fail
  refine (HS.out w1).mono ?_
  rintro e w2 ⟨rfl, b2⟩
  have HB2 : Hid (Below W.heap.size W w2) := bt b1 b2
  clear b1 b2
  obtain ⟨c0, c1, c2, c3⟩ := four_cells ((HB2.out.block _ l0).trans HK.out)
  go_wp2_with fail
  clear c0 c1 c2 c3
  refine (to_any a b c d w2).mono ?_
  rintro e w3 ⟨rfl, b3⟩
  go_wp2_with fail
  refine (HI.out w3).mono ?_
  rintro e w4 ⟨rfl, b4⟩
  have HB4 : Hid (Below w.heap.size w w4) := bt (bt HB.out HB2.out) (bt b3 b4)
  clear b3 b4
  go_wp2
  go_ret
  exact ⟨rfl, HB4.out⟩

end Go.Proofs.Ytnghhfgbobpnkao.WFnExactQcText
