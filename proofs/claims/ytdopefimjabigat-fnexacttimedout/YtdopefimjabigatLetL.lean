/-
  The contracts of the laws' own helpers over letters: their copy.
-/
import Derived.Test.YtdopefimjabigatLetOpen
import Derived.Test.YtdopefimjabigatJ0
namespace Go.Proofs.Ytdopefimjabigat
open Go.RowKit Num

theorem toQ4_any (a b c d : Int) (w : World) :
    Calls Try.prog 22 #[.agg #[.int .i64 a, .int .i64 b, .int .i64 c, .int .i64 d]] w fun e w' => e = .returned (.agg #[.int .i64 a, .int .i64 b, .int .i64 c, .int .i64 d]) ∧ Below w.heap.size w w' := by
  go_enter Try.func22, Try.ntmps22
  go_wp2
  refine bodyPost_ret (v := .agg #[_, _, _, _]) (by simp [results, Try.results22, go_sem]) rfl ⟨rfl, ?_⟩
  exact ba (ba (ba (Below.refl _ _) _) _) _
theorem toV4_any (a b c d : Int) (w : World) :
    Calls Try.prog 23 #[.agg #[.int .i64 a, .int .i64 b, .int .i64 c, .int .i64 d]] w fun e w' => e = .returned (.agg #[.int .i64 a, .int .i64 b, .int .i64 c, .int .i64 d]) ∧ Below w.heap.size w w' := by
  go_enter Try.func23, Try.ntmps23
  go_wp2
  refine bodyPost_ret (v := .agg #[_, _, _, _]) (by simp [results, Try.results23, go_sem]) rfl ⟨rfl, ?_⟩
  exact ba (ba (ba (Below.refl _ _) _) _) _

set_option maxRecDepth 100000 in
set_option maxHeartbeats 2000000 in
theorem toLetter_any (l : LT) (w : World) :
    Calls Try.prog 54 #[letV l] w fun e w' => e = .returned (letV l) ∧ Below w.heap.size w w' := by
  obtain ⟨⟨k, f, t, v, b⟩, ⟨q0, q1, q2, q3⟩, ⟨v0, v1, v2, v3⟩⟩ := l
  unfold letV
  simp only
  obtain ⟨W, hW⟩ : ∃ W, W = ((w.alloc (.cells #[.int .i64 k, .int .i64 f, .int .i64 t, .int .i64 v, .int .i64 b, .int .i64 q0, .int .i64 q1, .int .i64 q2, .int .i64 q3, .int .i64 v0, .int .i64 v1, .int .i64 v2, .int .i64 v3] 91)).alloc (.cells #[.int .i64 0, .int .i64 0, .int .i64 0, .int .i64 0, .int .i64 0, .int .i64 0, .int .i64 0, .int .i64 0, .int .i64 0, .int .i64 0, .int .i64 0, .int .i64 0, .int .i64 0] 43)).alloc (.cells #[.int .i64 k, .int .i64 f, .int .i64 t, .int .i64 v, .int .i64 b, .int .i64 0, .int .i64 0, .int .i64 0, .int .i64 0, .int .i64 0, .int .i64 0, .int .i64 0, .int .i64 0] 43) := ⟨_, rfl⟩
  have HB : Hid (Below w.heap.size w W) := (by rw [hW]; exact ba (ba (ba (Below.refl _ _) _) _) _ : Below w.heap.size w W)
  have HA : Hid (W.heap[w.heap.size]? = some (.cells #[.int .i64 k, .int .i64 f, .int .i64 t, .int .i64 v, .int .i64 b, .int .i64 q0, .int .i64 q1, .int .i64 q2, .int .i64 q3, .int .i64 v0, .int .i64 v1, .int .i64 v2, .int .i64 v3] 91 (0, 0))) := (by rw [hW]; exact (alloc3 w _ _ _).1 : W.heap[w.heap.size]? = _)
  have HZ : Hid (W.heap[w.heap.size + 1]? = some (.cells #[.int .i64 0, .int .i64 0, .int .i64 0, .int .i64 0, .int .i64 0, .int .i64 0, .int .i64 0, .int .i64 0, .int .i64 0, .int .i64 0, .int .i64 0, .int .i64 0, .int .i64 0] 43 (0, 0))) := (by rw [hW]; exact (alloc3 w _ _ _).2.1 : W.heap[w.heap.size + 1]? = _)
  have HO : Hid (W.heap[w.heap.size + 1 + 1]? = some (.cells #[.int .i64 k, .int .i64 f, .int .i64 t, .int .i64 v, .int .i64 b, .int .i64 0, .int .i64 0, .int .i64 0, .int .i64 0, .int .i64 0, .int .i64 0, .int .i64 0, .int .i64 0] 43 (0, 0))) := (by rw [hW]; exact (alloc3 w _ _ _).2.2 : W.heap[w.heap.size + 1 + 1]? = _)
  go_enter Try.func54, Try.ntmps54
  go_wp2_with fail
  rw [← hW]
  clear hW
  refine (toQ4_any q0 q1 q2 q3 W).mono ?_
  rintro e w1 ⟨rfl, b1⟩
  have HB1 : Hid (Below w.heap.size w w1) := bt HB.out b1
  have lW : w.heap.size + 1 + 1 < W.heap.size := (Array.getElem?_eq_some_iff.1 HO.out).1
  have HA1 : Hid (w1.heap[w.heap.size]? = some (.cells #[.int .i64 k, .int .i64 f, .int .i64 t, .int .i64 v, .int .i64 b, .int .i64 q0, .int .i64 q1, .int .i64 q2, .int .i64 q3, .int .i64 v0, .int .i64 v1, .int .i64 v2, .int .i64 v3] 91 (0, 0))) := (b1.block _ (by omega)).trans HA.out
  have HZ1 : Hid (w1.heap[w.heap.size + 1]? = some (.cells #[.int .i64 0, .int .i64 0, .int .i64 0, .int .i64 0, .int .i64 0, .int .i64 0, .int .i64 0, .int .i64 0, .int .i64 0, .int .i64 0, .int .i64 0, .int .i64 0, .int .i64 0] 43 (0, 0))) := (b1.block _ (by omega)).trans HZ.out
  have HO1 : Hid (w1.heap[w.heap.size + 1 + 1]? = some (.cells #[.int .i64 k, .int .i64 f, .int .i64 t, .int .i64 v, .int .i64 b, .int .i64 0, .int .i64 0, .int .i64 0, .int .i64 0, .int .i64 0, .int .i64 0, .int .i64 0, .int .i64 0] 43 (0, 0))) := (b1.block _ (by omega)).trans HO.out
  clear b1 HB HA HZ HO lW
  go_wp2_with (refine wpList_store_part rfl _ _ _ rfl (w.heap.size + 1 + 1) 5 #[.int .i64 q0, .int .i64 q1, .int .i64 q2, .int .i64 q3] rfl rfl _ _ HO1.out (by kernel_rfl) (by simp) (by simp [Value.oneCell']) #[.int .i64 k, .int .i64 f, .int .i64 t, .int .i64 v, .int .i64 b, .int .i64 q0, .int .i64 q1, .int .i64 q2, .int .i64 q3, .int .i64 0, .int .i64 0, .int .i64 0, .int .i64 0] rfl ?_; intro w2 g2 k2; have HB2 : Hid (Below w.heap.size w w2) := HB1.out.grown g2 HB1.out.size (fun y hy => by cases hy; omega); have HA2 : Hid (w2.heap[w.heap.size]? = Option.some (.cells #[.int .i64 k, .int .i64 f, .int .i64 t, .int .i64 v, .int .i64 b, .int .i64 q0, .int .i64 q1, .int .i64 q2, .int .i64 q3, .int .i64 v0, .int .i64 v1, .int .i64 v2, .int .i64 v3] 91 (0, 0))) := (g2.block _ (Array.getElem?_eq_some_iff.1 HA1.out).1 (fun e => by have := Option.some.inj e; omega)).trans HA1.out; have HZ2 : Hid (w2.heap[w.heap.size + 1]? = Option.some (.cells #[.int .i64 0, .int .i64 0, .int .i64 0, .int .i64 0, .int .i64 0, .int .i64 0, .int .i64 0, .int .i64 0, .int .i64 0, .int .i64 0, .int .i64 0, .int .i64 0, .int .i64 0] 43 (0, 0))) := (g2.block _ (Array.getElem?_eq_some_iff.1 HZ1.out).1 (fun e => by have := Option.some.inj e; omega)).trans HZ1.out; have HO2 : Hid (w2.heap[w.heap.size + 1 + 1]? = Option.some (.cells #[.int .i64 k, .int .i64 f, .int .i64 t, .int .i64 v, .int .i64 b, .int .i64 q0, .int .i64 q1, .int .i64 q2, .int .i64 q3, .int .i64 0, .int .i64 0, .int .i64 0, .int .i64 0] 43 (0, 0))) := k2; clear g2 k2 HB1 HA1 HZ1 HO1; have c9 := blk_cell HA2.out 9 (.int .i64 v0) rfl; have c10 := blk_cell HA2.out 10 (.int .i64 v1) rfl; have c11 := blk_cell HA2.out 11 (.int .i64 v2) rfl; have c12 := blk_cell HA2.out 12 (.int .i64 v3) rfl)
  clear c9 c10 c11 c12
  refine (toV4_any v0 v1 v2 v3 w2).mono ?_
  rintro e w3 ⟨rfl, b3⟩
  have HB3 : Hid (Below w.heap.size w w3) := bt HB2.out b3
  have HZ3 : Hid (w3.heap[w.heap.size + 1]? = some (.cells #[.int .i64 0, .int .i64 0, .int .i64 0, .int .i64 0, .int .i64 0, .int .i64 0, .int .i64 0, .int .i64 0, .int .i64 0, .int .i64 0, .int .i64 0, .int .i64 0, .int .i64 0] 43 (0, 0))) := (b3.block _ (Array.getElem?_eq_some_iff.1 HZ2.out).1).trans HZ2.out
  have HO3 : Hid (w3.heap[w.heap.size + 1 + 1]? = some (.cells #[.int .i64 k, .int .i64 f, .int .i64 t, .int .i64 v, .int .i64 b, .int .i64 q0, .int .i64 q1, .int .i64 q2, .int .i64 q3, .int .i64 0, .int .i64 0, .int .i64 0, .int .i64 0] 43 (0, 0))) := (b3.block _ (Array.getElem?_eq_some_iff.1 HO2.out).1).trans HO2.out
  clear b3 HB2 HA2 HZ2 HO2
  go_wp2_with (first
    | (refine wpList_store_part rfl _ _ _ rfl (w.heap.size + 1 + 1) 9 #[.int .i64 v0, .int .i64 v1, .int .i64 v2, .int .i64 v3] rfl rfl _ _ HO3.out (by kernel_rfl) (by simp) (by simp [Value.oneCell']) #[.int .i64 k, .int .i64 f, .int .i64 t, .int .i64 v, .int .i64 b, .int .i64 q0, .int .i64 q1, .int .i64 q2, .int .i64 q3, .int .i64 v0, .int .i64 v1, .int .i64 v2, .int .i64 v3] rfl ?_; intro w4 g4 k4; have HB4 : Hid (Below w.heap.size w w4) := HB3.out.grown g4 HB3.out.size (fun y hy => by cases hy; omega); have HZ4 : Hid (w4.heap[w.heap.size + 1]? = Option.some (.cells #[.int .i64 0, .int .i64 0, .int .i64 0, .int .i64 0, .int .i64 0, .int .i64 0, .int .i64 0, .int .i64 0, .int .i64 0, .int .i64 0, .int .i64 0, .int .i64 0, .int .i64 0] 43 (0, 0))) := (g4.block _ (Array.getElem?_eq_some_iff.1 HZ3.out).1 (fun e => by have := Option.some.inj e; omega)).trans HZ3.out; have d0 := blk_cell k4 0 (.int .i64 k) rfl; have d1 := blk_cell k4 1 (.int .i64 f) rfl; have d2 := blk_cell k4 2 (.int .i64 t) rfl; have d3 := blk_cell k4 3 (.int .i64 v) rfl; have d4 := blk_cell k4 4 (.int .i64 b) rfl; have d5 := blk_cell k4 5 (.int .i64 q0) rfl; have d6 := blk_cell k4 6 (.int .i64 q1) rfl; have d7 := blk_cell k4 7 (.int .i64 q2) rfl; have d8 := blk_cell k4 8 (.int .i64 q3) rfl; have d9 := blk_cell k4 9 (.int .i64 v0) rfl; have d10 := blk_cell k4 10 (.int .i64 v1) rfl; have d11 := blk_cell k4 11 (.int .i64 v2) rfl; have d12 := blk_cell k4 12 (.int .i64 v3) rfl; clear g4 k4 HB3 HZ3 HO3)
    | (refine wpList_store_blk rfl _ _ _ rfl (w.heap.size + 1) #[.int .i64 k, .int .i64 f, .int .i64 t, .int .i64 v, .int .i64 b, .int .i64 q0, .int .i64 q1, .int .i64 q2, .int .i64 q3, .int .i64 v0, .int .i64 v1, .int .i64 v2, .int .i64 v3] rfl rfl 43 #[.int .i64 0, .int .i64 0, .int .i64 0, .int .i64 0, .int .i64 0, .int .i64 0, .int .i64 0, .int .i64 0, .int .i64 0, .int .i64 0, .int .i64 0, .int .i64 0, .int .i64 0] HZ4.out (by kernel_rfl) rfl (by simp [Value.oneCell']) ?_; intro w5 g5 k5 s5; have HB5 : Hid (Below w.heap.size w w5) := HB4.out.grown g5 HB4.out.size (fun y hy => by cases hy; omega); have e0 := blk_cell k5 0 (.int .i64 k) rfl; have e1 := blk_cell k5 1 (.int .i64 f) rfl; have e2 := blk_cell k5 2 (.int .i64 t) rfl; have e3 := blk_cell k5 3 (.int .i64 v) rfl; have e4 := blk_cell k5 4 (.int .i64 b) rfl; have e5 := blk_cell k5 5 (.int .i64 q0) rfl; have e6 := blk_cell k5 6 (.int .i64 q1) rfl; have e7 := blk_cell k5 7 (.int .i64 q2) rfl; have e8 := blk_cell k5 8 (.int .i64 q3) rfl; have e9 := blk_cell k5 9 (.int .i64 v0) rfl; have e10 := blk_cell k5 10 (.int .i64 v1) rfl; have e11 := blk_cell k5 11 (.int .i64 v2) rfl; have e12 := blk_cell k5 12 (.int .i64 v3) rfl; clear s5 g5 k5))
  refine bodyPost_ret (v := .agg #[_, _, _, _, _, _, _, _, _, _, _, _, _]) (by simp [results, Try.results54, go_sem, *]) rfl ⟨rfl, ?_⟩
  exact HB5.out

end Go.Proofs.Ytdopefimjabigat
