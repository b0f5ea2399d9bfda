/-
  The contracts of the specification's texts of votes and of what enough signed, by their four numbers.
-/
import Derived.Test.YtnghhfgbobpnkapDoorLowS
import Derived.Test.YtnghhfgbobpnkapDoorJ0
namespace Go.Proofs.YtnghhfgbobpnkapDoor
open Go.RowKit Num

theorem four_cells {w : World} {N : Nat} {a b c d : Value} {t : TypeId} (h : w.heap[N]? = some (.cells #[a, b, c, d] t (0, 0))) : w.cell? ⟨N, 0, none⟩ = some a ∧ w.cell? ⟨N, 1, none⟩ = some b ∧ w.cell? ⟨N, 2, none⟩ = some c ∧ w.cell? ⟨N, 3, none⟩ = some d := by
  refine ⟨?_, ?_, ?_, ?_⟩
  · rw [cell_of_row _ N 0 _ _ (0, 0) h]; rfl
  · rw [cell_of_row _ N 1 _ _ (0, 0) h]; rfl
  · rw [cell_of_row _ N 2 _ _ (0, 0) h]; rfl
  · rw [cell_of_row _ N 3 _ _ (0, 0) h]; rfl

set_option maxRecDepth 100000 in
set_option maxHeartbeats 2000000 in
theorem fourV_s (a b c d : Int) (w : World) (h0 : a ≤ 9223372036854775807) (h1 : b ≤ 9223372036854775807) (h2 : c ≤ 9223372036854775807) (h3 : d ≤ 9223372036854775807) :
    Calls Tryd.prog 35 #[.agg #[.int .i64 a, .int .i64 b, .int .i64 c, .int .i64 d]] w fun e w' => e = .returned (.string (fourT a b c d)) ∧ Below w.heap.size w w' := by
  have za := lowT_size h0
  have zb := lowT_size h1
  have zc := lowT_size h2
  have zd := lowT_size h3
  have b1 : (lowT a).size + (lowT b).size ≤ 9223372036854775807 := by omega
  have b2 : (lowT a ++ lowT b).size + (lowT c).size ≤ 9223372036854775807 := by rw [ByteArray.size_append]; omega
  have b3 : (lowT a ++ lowT b ++ lowT c).size + (lowT d).size ≤ 9223372036854775807 := by rw [ByteArray.size_append, ByteArray.size_append]; omega
  obtain ⟨W1, hW1⟩ : ∃ W1, W1 = w.alloc (.cells #[.int .i64 a, .int .i64 b, .int .i64 c, .int .i64 d] 25) := ⟨_, rfl⟩
  have HW : Hid (W1.heap[w.heap.size]? = some (.cells #[.int .i64 a, .int .i64 b, .int .i64 c, .int .i64 d] 25 (0, 0)) ∧ Below w.heap.size w W1) := by
    rw [hW1]; exact ⟨heap_alloc_new w _, ba (Below.refl _ _) _⟩
  have l0 : w.heap.size < W1.heap.size := (Array.getElem?_eq_some_iff.1 HW.out.1).1
  have HX : Hid (∀ w', Below W1.heap.size W1 w' → w'.heap[w.heap.size]? = some (.cells #[.int .i64 a, .int .i64 b, .int .i64 c, .int .i64 d] 25 (0, 0))) := fun w' h' => (h'.block _ l0).trans HW.out.1
  have hne := bw_some W1
  have y0 : ∀ x : Bw W1, x.to.cell? ⟨w.heap.size, 0, none⟩ = some (.int .i64 a) := fun x => (four_cells (HX.out _ x.below)).1
  have y1 : ∀ x : Bw W1, x.to.cell? ⟨w.heap.size, 1, none⟩ = some (.int .i64 b) := fun x => (four_cells (HX.out _ x.below)).2.1
  have y2 : ∀ x : Bw W1, x.to.cell? ⟨w.heap.size, 2, none⟩ = some (.int .i64 c) := fun x => (four_cells (HX.out _ x.below)).2.2.1
  have y3 : ∀ x : Bw W1, x.to.cell? ⟨w.heap.size, 3, none⟩ = some (.int .i64 d) := fun x => (four_cells (HX.out _ x.below)).2.2.2
  clear za zb zc zd
  go_enter Tryd.func35, Tryd.ntmps35
  go_wp2
  rw [← hW1]
  clear hW1
  refine wp_region_bw (by kernel_rfl) (by kernel_rfl) ?_
  repeat (go_big_quiet_step (refine calls_bw (low_s _ _ (by assumption))))
  refine wpQuiet_nil ?_
  intro _ hw'
  obtain ⟨x, rfl⟩ := hw'
  go_wp2
  go_ret
  exact ⟨rfl, bt HW.out.2 x.below⟩
set_option maxRecDepth 100000 in
set_option maxHeartbeats 2000000 in
theorem fourQ_s (a b c d : Int) (w : World) (h0 : a ≤ 9223372036854775807) (h1 : b ≤ 9223372036854775807) (h2 : c ≤ 9223372036854775807) (h3 : d ≤ 9223372036854775807) :
    Calls Tryd.prog 34 #[.agg #[.int .i64 a, .int .i64 b, .int .i64 c, .int .i64 d]] w fun e w' => e = .returned (.string (fourT a b c d)) ∧ Below w.heap.size w w' := by
  have za := lowT_size h0
  have zb := lowT_size h1
  have zc := lowT_size h2
  have zd := lowT_size h3
  have b1 : (lowT a).size + (lowT b).size ≤ 9223372036854775807 := by omega
  have b2 : (lowT a ++ lowT b).size + (lowT c).size ≤ 9223372036854775807 := by rw [ByteArray.size_append]; omega
  have b3 : (lowT a ++ lowT b ++ lowT c).size + (lowT d).size ≤ 9223372036854775807 := by rw [ByteArray.size_append, ByteArray.size_append]; omega
  obtain ⟨W1, hW1⟩ : ∃ W1, W1 = w.alloc (.cells #[.int .i64 a, .int .i64 b, .int .i64 c, .int .i64 d] 23) := ⟨_, rfl⟩
  have HW : Hid (W1.heap[w.heap.size]? = some (.cells #[.int .i64 a, .int .i64 b, .int .i64 c, .int .i64 d] 23 (0, 0)) ∧ Below w.heap.size w W1) := by
    rw [hW1]; exact ⟨heap_alloc_new w _, ba (Below.refl _ _) _⟩
  have l0 : w.heap.size < W1.heap.size := (Array.getElem?_eq_some_iff.1 HW.out.1).1
  have HX : Hid (∀ w', Below W1.heap.size W1 w' → w'.heap[w.heap.size]? = some (.cells #[.int .i64 a, .int .i64 b, .int .i64 c, .int .i64 d] 23 (0, 0))) := fun w' h' => (h'.block _ l0).trans HW.out.1
  have hne := bw_some W1
  have y0 : ∀ x : Bw W1, x.to.cell? ⟨w.heap.size, 0, none⟩ = some (.int .i64 a) := fun x => (four_cells (HX.out _ x.below)).1
  have y1 : ∀ x : Bw W1, x.to.cell? ⟨w.heap.size, 1, none⟩ = some (.int .i64 b) := fun x => (four_cells (HX.out _ x.below)).2.1
  have y2 : ∀ x : Bw W1, x.to.cell? ⟨w.heap.size, 2, none⟩ = some (.int .i64 c) := fun x => (four_cells (HX.out _ x.below)).2.2.1
  have y3 : ∀ x : Bw W1, x.to.cell? ⟨w.heap.size, 3, none⟩ = some (.int .i64 d) := fun x => (four_cells (HX.out _ x.below)).2.2.2
  clear za zb zc zd
  go_enter Tryd.func34, Tryd.ntmps34
  go_wp2
  rw [← hW1]
  clear hW1
  refine wp_region_bw (by kernel_rfl) (by kernel_rfl) ?_
  repeat (go_big_quiet_step (refine calls_bw (low_s _ _ (by assumption))))
  refine wpQuiet_nil ?_
  intro _ hw'
  obtain ⟨x, rfl⟩ := hw'
  go_wp2
  go_ret
  exact ⟨rfl, bt HW.out.2 x.below⟩

end Go.Proofs.YtnghhfgbobpnkapDoor
