/-
  The walk of the law FnExactLetterText: the specification's answer and the program's are the same.
-/
import Derived.Test.YtnghhfgbobpnkaoDoorLetI
import Derived.OpenShut
namespace Go.Proofs.YtnghhfgbobpnkaoDoor.WFnExactLetterText
open Go.RowKit Num

theorem fit_of {l : LT} (h : wfL l) : fitL l := by
  obtain ⟨⟨h0, h1, h2, h3, h4⟩, ⟨h5, h6, h7, h8⟩, ⟨h9, h10, h11, h12⟩⟩ := h
  exact ⟨⟨(bounds_i64 h0).2, (bounds_i64 h1).2, (bounds_i64 h2).2, (bounds_i64 h3).2, (bounds_i64 h4).2⟩, ⟨(bounds_i64 h5).2, (bounds_i64 h6).2, (bounds_i64 h7).2, (bounds_i64 h8).2⟩, ⟨(bounds_i64 h9).2, (bounds_i64 h10).2, (bounds_i64 h11).2, (bounds_i64 h12).2⟩⟩

set_option maxRecDepth 100000 in
set_option maxHeartbeats 2000000 in
theorem walk (l : LT) (hl : wfL l) (w : World) (ht : Tabs w) :
    Calls Tryd.prog 3 #[letV l] w fun e w' => e = .returned (.bool true) ∧ Below w.heap.size w w' := by
  obtain ⟨S, hS⟩ : ∃ S, S = letS l := ⟨_, rfl⟩
  have HS : Hid (∀ x, Calls Tryd.prog 4 #[letV l] x fun e w' => e = .returned (.string S) ∧ Below x.heap.size x w') := fun x => by have := letterText_s l x (fit_of hl); rw [← hS] at this; exact this
  have HI : Hid (∀ x, Tabs x → Calls Tryd.prog 6 #[letV l] x fun e w' => e = .returned (.string S) ∧ Below x.heap.size x w') := fun x hx => by have := letterText_i l x (fit_of hl) hx; rw [← hS] at this; exact this
  have HC : Hid (∀ x, Calls Tryd.prog 5 #[letV l] x fun e w' => e = .returned (letV l) ∧ Below x.heap.size x w') := fun x => toLetter_any l x
  have HT : Hid (Tabs w) := ht
  clear hS hl ht
  obtain ⟨⟨k, f, t, v, b⟩, ⟨q0, q1, q2, q3⟩, ⟨v0, v1, v2, v3⟩⟩ := l
  unfold letV at HS HI HC ⊢
  simp only at HS HI HC ⊢
  obtain ⟨W, hW⟩ : ∃ W, W = w.alloc (.cells #[.int .i64 k, .int .i64 f, .int .i64 t, .int .i64 v, .int .i64 b, .int .i64 q0, .int .i64 q1, .int .i64 q2, .int .i64 q3, .int .i64 v0, .int .i64 v1, .int .i64 v2, .int .i64 v3] 27) := ⟨_, rfl⟩
  have HB : Hid (Below w.heap.size w W) := (by rw [hW]; exact ba (Below.refl _ _) _ : Below w.heap.size w W)
  have HK : Hid (W.heap[w.heap.size]? = some (.cells #[.int .i64 k, .int .i64 f, .int .i64 t, .int .i64 v, .int .i64 b, .int .i64 q0, .int .i64 q1, .int .i64 q2, .int .i64 q3, .int .i64 v0, .int .i64 v1, .int .i64 v2, .int .i64 v3] 27 (0, 0))) := (by rw [hW]; exact heap_alloc_new w _ : W.heap[w.heap.size]? = _)
  have l0 : w.heap.size < W.heap.size := (Array.getElem?_eq_some_iff.1 HK.out).1
  go_enter Tryd.func3, Tryd.ntmps3
  have c0 := blk_cell HK.out 0 (.int .i64 k) rfl
  have c1 := blk_cell HK.out 1 (.int .i64 f) rfl
  have c2 := blk_cell HK.out 2 (.int .i64 t) rfl
  have c3 := blk_cell HK.out 3 (.int .i64 v) rfl
  have c4 := blk_cell HK.out 4 (.int .i64 b) rfl
  have c5 := blk_cell HK.out 5 (.int .i64 q0) rfl
  have c6 := blk_cell HK.out 6 (.int .i64 q1) rfl
  have c7 := blk_cell HK.out 7 (.int .i64 q2) rfl
  have c8 := blk_cell HK.out 8 (.int .i64 q3) rfl
  have c9 := blk_cell HK.out 9 (.int .i64 v0) rfl
  have c10 := blk_cell HK.out 10 (.int .i64 v1) rfl
  have c11 := blk_cell HK.out 11 (.int .i64 v2) rfl
  have c12 := blk_cell HK.out 12 (.int .i64 v3) rfl
  rw [hW] at c0 c1 c2 c3 c4 c5 c6 c7 c8 c9 c10 c11 c12
  go_wp2_with fail
  rw [← hW]
  clear hW c0 c1 c2 c3 c4 c5 c6 c7 c8 c9 c10 c11 c12
  refine (HC.out W).mono ?_
  rintro e w1 ⟨rfl, b1⟩
  go_wp2_with fail
  refine (HS.out w1).mono ?_
  rintro e w2 ⟨rfl, b2⟩
  have HB2 : Hid (Below W.heap.size W w2) := bt b1 b2
  clear b1 b2
  have c0 := blk_cell ((HB2.out.block _ l0).trans HK.out) 0 (.int .i64 k) rfl
  have c1 := blk_cell ((HB2.out.block _ l0).trans HK.out) 1 (.int .i64 f) rfl
  have c2 := blk_cell ((HB2.out.block _ l0).trans HK.out) 2 (.int .i64 t) rfl
  have c3 := blk_cell ((HB2.out.block _ l0).trans HK.out) 3 (.int .i64 v) rfl
  have c4 := blk_cell ((HB2.out.block _ l0).trans HK.out) 4 (.int .i64 b) rfl
  have c5 := blk_cell ((HB2.out.block _ l0).trans HK.out) 5 (.int .i64 q0) rfl
  have c6 := blk_cell ((HB2.out.block _ l0).trans HK.out) 6 (.int .i64 q1) rfl
  have c7 := blk_cell ((HB2.out.block _ l0).trans HK.out) 7 (.int .i64 q2) rfl
  have c8 := blk_cell ((HB2.out.block _ l0).trans HK.out) 8 (.int .i64 q3) rfl
  have c9 := blk_cell ((HB2.out.block _ l0).trans HK.out) 9 (.int .i64 v0) rfl
  have c10 := blk_cell ((HB2.out.block _ l0).trans HK.out) 10 (.int .i64 v1) rfl
  have c11 := blk_cell ((HB2.out.block _ l0).trans HK.out) 11 (.int .i64 v2) rfl
  have c12 := blk_cell ((HB2.out.block _ l0).trans HK.out) 12 (.int .i64 v3) rfl
  go_wp2_with fail
  clear c0 c1 c2 c3 c4 c5 c6 c7 c8 c9 c10 c11 c12
  refine (HC.out w2).mono ?_
  rintro e w3 ⟨rfl, b3⟩
  go_wp2_with fail
  have HT3 : Hid (Tabs w3) := HT.out.below (bt (bt HB.out HB2.out) b3)
  refine (HI.out w3 HT3.out).mono ?_
  rintro e w4 ⟨rfl, b4⟩
  have HB4 : Hid (Below w.heap.size w w4) := bt (bt HB.out HB2.out) (bt b3 b4)
  clear b3 b4
  go_wp2
  go_ret
  exact ⟨rfl, HB4.out⟩

end Go.Proofs.YtnghhfgbobpnkaoDoor.WFnExactLetterText
