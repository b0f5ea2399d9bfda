/-
  A letter's text: the contract of the specification's.
-/
import Derived.Test.YtnghhfgbobpnkapDoorFourS
import Derived.Test.YtnghhfgbobpnkapDoorSealS
import Derived.Test.YtnghhfgbobpnkapDoorLetL
namespace Go.Proofs.YtnghhfgbobpnkapDoor
open Go.RowKit Num

/-- a letter's text, sealed -/
def letS (l : LT) : ByteArray := letT l ++ strOfNums (seal4 (sumT (letT l)))
/-- its numbers are not too great -/
def fitL (l : LT) : Prop := (l.1.1 ≤ 9223372036854775807 ∧ l.1.2.1 ≤ 9223372036854775807 ∧ l.1.2.2.1 ≤ 9223372036854775807 ∧ l.1.2.2.2.1 ≤ 9223372036854775807 ∧ l.1.2.2.2.2 ≤ 9223372036854775807) ∧ (l.2.1.1 ≤ 9223372036854775807 ∧ l.2.1.2.1 ≤ 9223372036854775807 ∧ l.2.1.2.2.1 ≤ 9223372036854775807 ∧ l.2.1.2.2.2 ≤ 9223372036854775807) ∧ (l.2.2.1 ≤ 9223372036854775807 ∧ l.2.2.2.1 ≤ 9223372036854775807 ∧ l.2.2.2.2.1 ≤ 9223372036854775807 ∧ l.2.2.2.2.2 ≤ 9223372036854775807)

set_option maxRecDepth 100000 in
set_option maxHeartbeats 4000000 in
theorem letterText_s (l : LT) (w : World) (hl : fitL l) :
    Calls Tryd.prog 22 #[letV l] w fun e w' => e = .returned (.string (letS l)) ∧ Below w.heap.size w w' := by
  obtain ⟨⟨k, f, t, v, b⟩, ⟨q0, q1, q2, q3⟩, ⟨v0, v1, v2, v3⟩⟩ := l
  obtain ⟨⟨h0, h1, h2, h3, h4⟩, ⟨h5, h6, h7, h8⟩, ⟨h9, h10, h11, h12⟩⟩ := hl
  unfold letV
  simp only at h0 h1 h2 h3 h4 h5 h6 h7 h8 h9 h10 h11 h12 ⊢
  have z0 := lowT_size h0
  have z1 := lowT_size h1
  have z2 := lowT_size h2
  have z3 := lowT_size h3
  have z4 := lowT_size h4
  have z5 := fourT_size h5 h6 h7 h8
  have z6 := fourT_size h9 h10 h11 h12
  have b1 : (lowT k).size + (lowT f).size ≤ 9223372036854775807 := by omega
  have b2 : (lowT k ++ lowT f).size + (lowT t).size ≤ 9223372036854775807 := by simp only [ByteArray.size_append]; omega
  have b3 : (lowT k ++ lowT f ++ lowT t).size + (lowT v).size ≤ 9223372036854775807 := by simp only [ByteArray.size_append]; omega
  have b4 : (lowT k ++ lowT f ++ lowT t ++ lowT v).size + (lowT b).size ≤ 9223372036854775807 := by simp only [ByteArray.size_append]; omega
  have b5 : (lowT k ++ lowT f ++ lowT t ++ lowT v ++ lowT b).size + (fourT q0 q1 q2 q3).size ≤ 9223372036854775807 := by simp only [ByteArray.size_append]; omega
  have b6 : (lowT k ++ lowT f ++ lowT t ++ lowT v ++ lowT b ++ fourT q0 q1 q2 q3).size + (fourT v0 v1 v2 v3).size ≤ 9223372036854775807 := by simp only [ByteArray.size_append]; omega
  have b7 : ((lowT k ++ lowT f ++ lowT t ++ lowT v ++ lowT b ++ fourT q0 q1 q2 q3 ++ fourT v0 v1 v2 v3).size : Int) ≤ 20000 := by simp only [ByteArray.size_append]; omega
  obtain ⟨W1, hW1⟩ : ∃ W1, W1 = w.alloc (.cells #[.int .i64 k, .int .i64 f, .int .i64 t, .int .i64 v, .int .i64 b, .int .i64 q0, .int .i64 q1, .int .i64 q2, .int .i64 q3, .int .i64 v0, .int .i64 v1, .int .i64 v2, .int .i64 v3] 27) := ⟨_, rfl⟩
  have HW : Hid (W1.heap[w.heap.size]? = some (.cells #[.int .i64 k, .int .i64 f, .int .i64 t, .int .i64 v, .int .i64 b, .int .i64 q0, .int .i64 q1, .int .i64 q2, .int .i64 q3, .int .i64 v0, .int .i64 v1, .int .i64 v2, .int .i64 v3] 27 (0, 0)) ∧ Below w.heap.size w W1) := by
    rw [hW1]; exact ⟨heap_alloc_new w _, ba (Below.refl _ _) _⟩
  have l0 : w.heap.size < W1.heap.size := (Array.getElem?_eq_some_iff.1 HW.out.1).1
  have HX : Hid (∀ w', Below W1.heap.size W1 w' → w'.heap[w.heap.size]? = some (.cells #[.int .i64 k, .int .i64 f, .int .i64 t, .int .i64 v, .int .i64 b, .int .i64 q0, .int .i64 q1, .int .i64 q2, .int .i64 q3, .int .i64 v0, .int .i64 v1, .int .i64 v2, .int .i64 v3] 27 (0, 0))) := fun w' h' => (h'.block _ l0).trans HW.out.1
  have hne := bw_some W1
  have y0 : ∀ x : Bw W1, x.to.cell? ⟨w.heap.size, 0, none⟩ = some (.int .i64 k) := fun x => blk_cell (HX.out _ x.below) 0 _ rfl
  have y1 : ∀ x : Bw W1, x.to.cell? ⟨w.heap.size, 1, none⟩ = some (.int .i64 f) := fun x => blk_cell (HX.out _ x.below) 1 _ rfl
  have y2 : ∀ x : Bw W1, x.to.cell? ⟨w.heap.size, 2, none⟩ = some (.int .i64 t) := fun x => blk_cell (HX.out _ x.below) 2 _ rfl
  have y3 : ∀ x : Bw W1, x.to.cell? ⟨w.heap.size, 3, none⟩ = some (.int .i64 v) := fun x => blk_cell (HX.out _ x.below) 3 _ rfl
  have y4 : ∀ x : Bw W1, x.to.cell? ⟨w.heap.size, 4, none⟩ = some (.int .i64 b) := fun x => blk_cell (HX.out _ x.below) 4 _ rfl
  have y5 : ∀ x : Bw W1, x.to.cell? ⟨w.heap.size, 5, none⟩ = some (.int .i64 q0) := fun x => blk_cell (HX.out _ x.below) 5 _ rfl
  have y6 : ∀ x : Bw W1, x.to.cell? ⟨w.heap.size, 6, none⟩ = some (.int .i64 q1) := fun x => blk_cell (HX.out _ x.below) 6 _ rfl
  have y7 : ∀ x : Bw W1, x.to.cell? ⟨w.heap.size, 7, none⟩ = some (.int .i64 q2) := fun x => blk_cell (HX.out _ x.below) 7 _ rfl
  have y8 : ∀ x : Bw W1, x.to.cell? ⟨w.heap.size, 8, none⟩ = some (.int .i64 q3) := fun x => blk_cell (HX.out _ x.below) 8 _ rfl
  have y9 : ∀ x : Bw W1, x.to.cell? ⟨w.heap.size, 9, none⟩ = some (.int .i64 v0) := fun x => blk_cell (HX.out _ x.below) 9 _ rfl
  have y10 : ∀ x : Bw W1, x.to.cell? ⟨w.heap.size, 10, none⟩ = some (.int .i64 v1) := fun x => blk_cell (HX.out _ x.below) 10 _ rfl
  have y11 : ∀ x : Bw W1, x.to.cell? ⟨w.heap.size, 11, none⟩ = some (.int .i64 v2) := fun x => blk_cell (HX.out _ x.below) 11 _ rfl
  have y12 : ∀ x : Bw W1, x.to.cell? ⟨w.heap.size, 12, none⟩ = some (.int .i64 v3) := fun x => blk_cell (HX.out _ x.below) 12 _ rfl
  clear z0 z1 z2 z3 z4 z5 z6
  go_enter Tryd.func22, Tryd.ntmps22
  go_wp2
  rw [← hW1]
  clear hW1
  refine wp_region_bw (by kernel_rfl) (by kernel_rfl) ?_
  repeat (go_big_quiet_step (first | (go_at_call 33; (with_reducible refine calls_bw (low_s _ _ (by assumption)))) | (go_at_call 34; (with_reducible refine calls_bw (fourQ_s q0 q1 q2 q3 _ h5 h6 h7 h8))) | (go_at_call 35; (with_reducible refine calls_bw (fourV_s v0 v1 v2 v3 _ h9 h10 h11 h12))) | (go_at_call 37; (with_reducible refine calls_bw (sealed_yes_s _ _ b7)))))
  refine wpQuiet_nil ?_
  intro _ hw'
  obtain ⟨x, rfl⟩ := hw'
  go_wp2
  go_ret
  exact ⟨rfl, bt HW.out.2 x.below⟩

end Go.Proofs.YtnghhfgbobpnkapDoor
