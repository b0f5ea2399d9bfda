/-
  The contracts of the specification's copies of blocks, and of PutBlock.
-/
import Derived.Test.YtfnneillakdopabTreeS
import Derived.Test.YtfnneillakdopabTreeX
namespace Go.Proofs.Ytfnneillakdopab
open Go.RowKit Num

set_option maxRecDepth 100000 in
set_option maxHeartbeats 4000000 in
theorem l05Block_s (b : BK) (cv : Value) (w : World) (hB : RowsR w cv 3 cmdF b.2.1) (hl : (b.2.1.length : Int) ≤ 1048576) :
    Calls Try.prog 85 #[blkV b cv] w fun e w' => ∃ cv', e = .returned (blkV b cv') ∧ w'.ownsRow w.heap.size 103 3 cv' b.2.1.length (flatR cmdF b.2.1) ∧ Below w.heap.size w w' := by
  have HB : Hid (RowsR w cv 3 cmdF b.2.1) := hB
  obtain ⟨ac, cc, rfl, _⟩ := hB
  obtain ⟨i0, hi, hz0, hz1, hz2⟩ := info_parts infoCm3
  have B4 : Below w.heap.size w ((((w.alloc (Obj.cells #[Value.int IntKind.i64 b.1.1, Value.int IntKind.i64 b.1.2, Value.slice ac b.2.1.length cc, Value.int IntKind.i64 b.2.2.1, Value.int IntKind.i64 b.2.2.2.1, Value.int IntKind.i64 b.2.2.2.2.1, Value.int IntKind.i64 b.2.2.2.2.2] 33)).alloc (Obj.cells #[Value.int IntKind.i64 0, Value.int IntKind.i64 0, Value.slice none 0 0, Value.int IntKind.i64 0, Value.int IntKind.i64 0, Value.int IntKind.i64 0, Value.int IntKind.i64 0] 33)).alloc (Obj.cells #[Value.int IntKind.i64 b.1.1, Value.int IntKind.i64 b.1.2, Value.slice ac b.2.1.length cc, Value.int IntKind.i64 b.2.2.1, Value.int IntKind.i64 b.2.2.2.1, Value.int IntKind.i64 b.2.2.2.2.1, Value.int IntKind.i64 b.2.2.2.2.2] 33)).alloc (Obj.cells #[] 103)) := ba (ba (ba (ba (Below.refl _ _) _) _) _) _
  have HB4 : Hid (Below w.heap.size w ((((w.alloc (Obj.cells #[Value.int IntKind.i64 b.1.1, Value.int IntKind.i64 b.1.2, Value.slice ac b.2.1.length cc, Value.int IntKind.i64 b.2.2.1, Value.int IntKind.i64 b.2.2.2.1, Value.int IntKind.i64 b.2.2.2.2.1, Value.int IntKind.i64 b.2.2.2.2.2] 33)).alloc (Obj.cells #[Value.int IntKind.i64 0, Value.int IntKind.i64 0, Value.slice none 0 0, Value.int IntKind.i64 0, Value.int IntKind.i64 0, Value.int IntKind.i64 0, Value.int IntKind.i64 0] 33)).alloc (Obj.cells #[Value.int IntKind.i64 b.1.1, Value.int IntKind.i64 b.1.2, Value.slice ac b.2.1.length cc, Value.int IntKind.i64 b.2.2.1, Value.int IntKind.i64 b.2.2.2.1, Value.int IntKind.i64 b.2.2.2.2.1, Value.int IntKind.i64 b.2.2.2.2.2] 33)).alloc (Obj.cells #[] 103))) := B4
  have HV4 : Hid (RowsR ((((w.alloc (Obj.cells #[Value.int IntKind.i64 b.1.1, Value.int IntKind.i64 b.1.2, Value.slice ac b.2.1.length cc, Value.int IntKind.i64 b.2.2.1, Value.int IntKind.i64 b.2.2.2.1, Value.int IntKind.i64 b.2.2.2.2.1, Value.int IntKind.i64 b.2.2.2.2.2] 33)).alloc (Obj.cells #[Value.int IntKind.i64 0, Value.int IntKind.i64 0, Value.slice none 0 0, Value.int IntKind.i64 0, Value.int IntKind.i64 0, Value.int IntKind.i64 0, Value.int IntKind.i64 0] 33)).alloc (Obj.cells #[Value.int IntKind.i64 b.1.1, Value.int IntKind.i64 b.1.2, Value.slice ac b.2.1.length cc, Value.int IntKind.i64 b.2.2.1, Value.int IntKind.i64 b.2.2.2.1, Value.int IntKind.i64 b.2.2.2.2.1, Value.int IntKind.i64 b.2.2.2.2.2] 33)).alloc (Obj.cells #[] 103)) (.slice ac b.2.1.length cc) 3 cmdF b.2.1) := HB.out.below B4
  have HO4 : Hid (((((w.alloc (Obj.cells #[Value.int IntKind.i64 b.1.1, Value.int IntKind.i64 b.1.2, Value.slice ac b.2.1.length cc, Value.int IntKind.i64 b.2.2.1, Value.int IntKind.i64 b.2.2.2.1, Value.int IntKind.i64 b.2.2.2.2.1, Value.int IntKind.i64 b.2.2.2.2.2] 33)).alloc (Obj.cells #[Value.int IntKind.i64 0, Value.int IntKind.i64 0, Value.slice none 0 0, Value.int IntKind.i64 0, Value.int IntKind.i64 0, Value.int IntKind.i64 0, Value.int IntKind.i64 0] 33)).alloc (Obj.cells #[Value.int IntKind.i64 b.1.1, Value.int IntKind.i64 b.1.2, Value.slice ac b.2.1.length cc, Value.int IntKind.i64 b.2.2.1, Value.int IntKind.i64 b.2.2.2.1, Value.int IntKind.i64 b.2.2.2.2.1, Value.int IntKind.i64 b.2.2.2.2.2] 33)).alloc (Obj.cells #[] 103)).ownsRow (w.heap.size + 1 + 1 + 1) 103 3 (.slice (some ⟨w.heap.size + 1 + 1 + 1, 0, none⟩) 0 0) ([] : List CM).length (flatR cmdF [])) := (by
    have := own_new (((w.alloc (Obj.cells #[Value.int IntKind.i64 b.1.1, Value.int IntKind.i64 b.1.2, Value.slice ac b.2.1.length cc, Value.int IntKind.i64 b.2.2.1, Value.int IntKind.i64 b.2.2.2.1, Value.int IntKind.i64 b.2.2.2.2.1, Value.int IntKind.i64 b.2.2.2.2.2] 33)).alloc (Obj.cells #[Value.int IntKind.i64 0, Value.int IntKind.i64 0, Value.slice none 0 0, Value.int IntKind.i64 0, Value.int IntKind.i64 0, Value.int IntKind.i64 0, Value.int IntKind.i64 0] 33)).alloc (Obj.cells #[Value.int IntKind.i64 b.1.1, Value.int IntKind.i64 b.1.2, Value.slice ac b.2.1.length cc, Value.int IntKind.i64 b.2.2.1, Value.int IntKind.i64 b.2.2.2.1, Value.int IntKind.i64 b.2.2.2.2.1, Value.int IntKind.i64 b.2.2.2.2.2] 33)) 103 3
    rw [show (((w.alloc (Obj.cells #[Value.int IntKind.i64 b.1.1, Value.int IntKind.i64 b.1.2, Value.slice ac b.2.1.length cc, Value.int IntKind.i64 b.2.2.1, Value.int IntKind.i64 b.2.2.2.1, Value.int IntKind.i64 b.2.2.2.2.1, Value.int IntKind.i64 b.2.2.2.2.2] 33)).alloc (Obj.cells #[Value.int IntKind.i64 0, Value.int IntKind.i64 0, Value.slice none 0 0, Value.int IntKind.i64 0, Value.int IntKind.i64 0, Value.int IntKind.i64 0, Value.int IntKind.i64 0] 33)).alloc (Obj.cells #[Value.int IntKind.i64 b.1.1, Value.int IntKind.i64 b.1.2, Value.slice ac b.2.1.length cc, Value.int IntKind.i64 b.2.2.1, Value.int IntKind.i64 b.2.2.2.1, Value.int IntKind.i64 b.2.2.2.2.1, Value.int IntKind.i64 b.2.2.2.2.2] 33)).heap.size = w.heap.size + 1 + 1 + 1 by simp] at this
    exact this : ((((w.alloc (Obj.cells #[Value.int IntKind.i64 b.1.1, Value.int IntKind.i64 b.1.2, Value.slice ac b.2.1.length cc, Value.int IntKind.i64 b.2.2.1, Value.int IntKind.i64 b.2.2.2.1, Value.int IntKind.i64 b.2.2.2.2.1, Value.int IntKind.i64 b.2.2.2.2.2] 33)).alloc (Obj.cells #[Value.int IntKind.i64 0, Value.int IntKind.i64 0, Value.slice none 0 0, Value.int IntKind.i64 0, Value.int IntKind.i64 0, Value.int IntKind.i64 0, Value.int IntKind.i64 0] 33)).alloc (Obj.cells #[Value.int IntKind.i64 b.1.1, Value.int IntKind.i64 b.1.2, Value.slice ac b.2.1.length cc, Value.int IntKind.i64 b.2.2.1, Value.int IntKind.i64 b.2.2.2.1, Value.int IntKind.i64 b.2.2.2.2.1, Value.int IntKind.i64 b.2.2.2.2.2] 33)).alloc (Obj.cells #[] 103)).ownsRow (w.heap.size + 1 + 1 + 1) 103 3 (.slice (some ⟨w.heap.size + 1 + 1 + 1, 0, none⟩) 0 0) ([] : List CM).length (flatR cmdF []))
  have HK1 : Hid (((((w.alloc (Obj.cells #[Value.int IntKind.i64 b.1.1, Value.int IntKind.i64 b.1.2, Value.slice ac b.2.1.length cc, Value.int IntKind.i64 b.2.2.1, Value.int IntKind.i64 b.2.2.2.1, Value.int IntKind.i64 b.2.2.2.2.1, Value.int IntKind.i64 b.2.2.2.2.2] 33)).alloc (Obj.cells #[Value.int IntKind.i64 0, Value.int IntKind.i64 0, Value.slice none 0 0, Value.int IntKind.i64 0, Value.int IntKind.i64 0, Value.int IntKind.i64 0, Value.int IntKind.i64 0] 33)).alloc (Obj.cells #[Value.int IntKind.i64 b.1.1, Value.int IntKind.i64 b.1.2, Value.slice ac b.2.1.length cc, Value.int IntKind.i64 b.2.2.1, Value.int IntKind.i64 b.2.2.2.1, Value.int IntKind.i64 b.2.2.2.2.1, Value.int IntKind.i64 b.2.2.2.2.2] 33)).alloc (Obj.cells #[] 103)).heap[w.heap.size + 1]? = some (.cells #[.int .i64 0, .int .i64 0, .slice none 0 0, .int .i64 0, .int .i64 0, .int .i64 0, .int .i64 0] 33 (0, 0))) := (by
    have := box_cells (w := (w.alloc (Obj.cells #[Value.int IntKind.i64 b.1.1, Value.int IntKind.i64 b.1.2, Value.slice ac b.2.1.length cc, Value.int IntKind.i64 b.2.2.1, Value.int IntKind.i64 b.2.2.2.1, Value.int IntKind.i64 b.2.2.2.2.1, Value.int IntKind.i64 b.2.2.2.2.2] 33))) (w' := ((((w.alloc (Obj.cells #[Value.int IntKind.i64 b.1.1, Value.int IntKind.i64 b.1.2, Value.slice ac b.2.1.length cc, Value.int IntKind.i64 b.2.2.1, Value.int IntKind.i64 b.2.2.2.1, Value.int IntKind.i64 b.2.2.2.2.1, Value.int IntKind.i64 b.2.2.2.2.2] 33)).alloc (Obj.cells #[Value.int IntKind.i64 0, Value.int IntKind.i64 0, Value.slice none 0 0, Value.int IntKind.i64 0, Value.int IntKind.i64 0, Value.int IntKind.i64 0, Value.int IntKind.i64 0] 33)).alloc (Obj.cells #[Value.int IntKind.i64 b.1.1, Value.int IntKind.i64 b.1.2, Value.slice ac b.2.1.length cc, Value.int IntKind.i64 b.2.2.1, Value.int IntKind.i64 b.2.2.2.1, Value.int IntKind.i64 b.2.2.2.2.1, Value.int IntKind.i64 b.2.2.2.2.2] 33)).alloc (Obj.cells #[] 103))) (ba (ba (Below.refl _ _) _) _)
    rw [show (w.alloc (Obj.cells #[Value.int IntKind.i64 b.1.1, Value.int IntKind.i64 b.1.2, Value.slice ac b.2.1.length cc, Value.int IntKind.i64 b.2.2.1, Value.int IntKind.i64 b.2.2.2.1, Value.int IntKind.i64 b.2.2.2.2.1, Value.int IntKind.i64 b.2.2.2.2.2] 33)).heap.size = w.heap.size + 1 by simp] at this
    exact this : ((((w.alloc (Obj.cells #[Value.int IntKind.i64 b.1.1, Value.int IntKind.i64 b.1.2, Value.slice ac b.2.1.length cc, Value.int IntKind.i64 b.2.2.1, Value.int IntKind.i64 b.2.2.2.1, Value.int IntKind.i64 b.2.2.2.2.1, Value.int IntKind.i64 b.2.2.2.2.2] 33)).alloc (Obj.cells #[Value.int IntKind.i64 0, Value.int IntKind.i64 0, Value.slice none 0 0, Value.int IntKind.i64 0, Value.int IntKind.i64 0, Value.int IntKind.i64 0, Value.int IntKind.i64 0] 33)).alloc (Obj.cells #[Value.int IntKind.i64 b.1.1, Value.int IntKind.i64 b.1.2, Value.slice ac b.2.1.length cc, Value.int IntKind.i64 b.2.2.1, Value.int IntKind.i64 b.2.2.2.1, Value.int IntKind.i64 b.2.2.2.2.1, Value.int IntKind.i64 b.2.2.2.2.2] 33)).alloc (Obj.cells #[] 103)).heap[w.heap.size + 1]? = some (.cells #[.int .i64 0, .int .i64 0, .slice none 0 0, .int .i64 0, .int .i64 0, .int .i64 0, .int .i64 0] 33 (0, 0)))
  have HK2 : Hid (((((w.alloc (Obj.cells #[Value.int IntKind.i64 b.1.1, Value.int IntKind.i64 b.1.2, Value.slice ac b.2.1.length cc, Value.int IntKind.i64 b.2.2.1, Value.int IntKind.i64 b.2.2.2.1, Value.int IntKind.i64 b.2.2.2.2.1, Value.int IntKind.i64 b.2.2.2.2.2] 33)).alloc (Obj.cells #[Value.int IntKind.i64 0, Value.int IntKind.i64 0, Value.slice none 0 0, Value.int IntKind.i64 0, Value.int IntKind.i64 0, Value.int IntKind.i64 0, Value.int IntKind.i64 0] 33)).alloc (Obj.cells #[Value.int IntKind.i64 b.1.1, Value.int IntKind.i64 b.1.2, Value.slice ac b.2.1.length cc, Value.int IntKind.i64 b.2.2.1, Value.int IntKind.i64 b.2.2.2.1, Value.int IntKind.i64 b.2.2.2.2.1, Value.int IntKind.i64 b.2.2.2.2.2] 33)).alloc (Obj.cells #[] 103)).heap[w.heap.size + 1 + 1]? = some (.cells (blkA b (.slice ac b.2.1.length cc)) 33 (0, 0))) := (by
    have := box_cells (w := ((w.alloc (Obj.cells #[Value.int IntKind.i64 b.1.1, Value.int IntKind.i64 b.1.2, Value.slice ac b.2.1.length cc, Value.int IntKind.i64 b.2.2.1, Value.int IntKind.i64 b.2.2.2.1, Value.int IntKind.i64 b.2.2.2.2.1, Value.int IntKind.i64 b.2.2.2.2.2] 33)).alloc (Obj.cells #[Value.int IntKind.i64 0, Value.int IntKind.i64 0, Value.slice none 0 0, Value.int IntKind.i64 0, Value.int IntKind.i64 0, Value.int IntKind.i64 0, Value.int IntKind.i64 0] 33))) (w' := ((((w.alloc (Obj.cells #[Value.int IntKind.i64 b.1.1, Value.int IntKind.i64 b.1.2, Value.slice ac b.2.1.length cc, Value.int IntKind.i64 b.2.2.1, Value.int IntKind.i64 b.2.2.2.1, Value.int IntKind.i64 b.2.2.2.2.1, Value.int IntKind.i64 b.2.2.2.2.2] 33)).alloc (Obj.cells #[Value.int IntKind.i64 0, Value.int IntKind.i64 0, Value.slice none 0 0, Value.int IntKind.i64 0, Value.int IntKind.i64 0, Value.int IntKind.i64 0, Value.int IntKind.i64 0] 33)).alloc (Obj.cells #[Value.int IntKind.i64 b.1.1, Value.int IntKind.i64 b.1.2, Value.slice ac b.2.1.length cc, Value.int IntKind.i64 b.2.2.1, Value.int IntKind.i64 b.2.2.2.1, Value.int IntKind.i64 b.2.2.2.2.1, Value.int IntKind.i64 b.2.2.2.2.2] 33)).alloc (Obj.cells #[] 103))) (ba (Below.refl _ _) _)
    rw [show ((w.alloc (Obj.cells #[Value.int IntKind.i64 b.1.1, Value.int IntKind.i64 b.1.2, Value.slice ac b.2.1.length cc, Value.int IntKind.i64 b.2.2.1, Value.int IntKind.i64 b.2.2.2.1, Value.int IntKind.i64 b.2.2.2.2.1, Value.int IntKind.i64 b.2.2.2.2.2] 33)).alloc (Obj.cells #[Value.int IntKind.i64 0, Value.int IntKind.i64 0, Value.slice none 0 0, Value.int IntKind.i64 0, Value.int IntKind.i64 0, Value.int IntKind.i64 0, Value.int IntKind.i64 0] 33)).heap.size = w.heap.size + 1 + 1 by simp] at this
    exact this : ((((w.alloc (Obj.cells #[Value.int IntKind.i64 b.1.1, Value.int IntKind.i64 b.1.2, Value.slice ac b.2.1.length cc, Value.int IntKind.i64 b.2.2.1, Value.int IntKind.i64 b.2.2.2.1, Value.int IntKind.i64 b.2.2.2.2.1, Value.int IntKind.i64 b.2.2.2.2.2] 33)).alloc (Obj.cells #[Value.int IntKind.i64 0, Value.int IntKind.i64 0, Value.slice none 0 0, Value.int IntKind.i64 0, Value.int IntKind.i64 0, Value.int IntKind.i64 0, Value.int IntKind.i64 0] 33)).alloc (Obj.cells #[Value.int IntKind.i64 b.1.1, Value.int IntKind.i64 b.1.2, Value.slice ac b.2.1.length cc, Value.int IntKind.i64 b.2.2.1, Value.int IntKind.i64 b.2.2.2.1, Value.int IntKind.i64 b.2.2.2.2.1, Value.int IntKind.i64 b.2.2.2.2.2] 33)).alloc (Obj.cells #[] 103)).heap[w.heap.size + 1 + 1]? = some (.cells (blkA b (.slice ac b.2.1.length cc)) 33 (0, 0)))
  have hs4 : ((((w.alloc (Obj.cells #[Value.int IntKind.i64 b.1.1, Value.int IntKind.i64 b.1.2, Value.slice ac b.2.1.length cc, Value.int IntKind.i64 b.2.2.1, Value.int IntKind.i64 b.2.2.2.1, Value.int IntKind.i64 b.2.2.2.2.1, Value.int IntKind.i64 b.2.2.2.2.2] 33)).alloc (Obj.cells #[Value.int IntKind.i64 0, Value.int IntKind.i64 0, Value.slice none 0 0, Value.int IntKind.i64 0, Value.int IntKind.i64 0, Value.int IntKind.i64 0, Value.int IntKind.i64 0] 33)).alloc (Obj.cells #[Value.int IntKind.i64 b.1.1, Value.int IntKind.i64 b.1.2, Value.slice ac b.2.1.length cc, Value.int IntKind.i64 b.2.2.1, Value.int IntKind.i64 b.2.2.2.1, Value.int IntKind.i64 b.2.2.2.2.1, Value.int IntKind.i64 b.2.2.2.2.2] 33)).alloc (Obj.cells #[] 103)).heap.size = w.heap.size + 1 + 1 + 1 + 1 := by simp
  clear B4
  unfold blkV
  go_enter Try.func85, Try.ntmps85
  go_wp2_with (at_builtin; refine wpList_append_rows _ rfl _ _ 29 rfl (w.heap.size + 1 + 1 + 1) 103 i0 _ 32 Try.underlying29 hi hz0 hz1 hz2 rfl (by decide) cmdF_len cmdF_one _ [] rfl HO4.out _ b.2.1 rfl HV4.out (by simp; unfold maxLen; omega) (by simp; omega) (by simp) ?_; intro v5 w5 hown5 hgrow5; obtain ⟨a5, cap5, rfl, _⟩ := own_form hown5; simp only [List.nil_append] at hown5; have HO5 : Hid (w5.ownsRow (w.heap.size + 1 + 1 + 1) 103 3 (.slice a5 b.2.1.length cap5) b.2.1.length (flatR cmdF b.2.1)) := hown5; have HB5 : Hid (Below w.heap.size w w5) := HB4.out.grown hgrow5 HB4.out.size (fun x hx => by have := (HO4.out.lt x hx).1; omega); have hk2 : w5.heap[w.heap.size + 1 + 1]? = some (.cells (blkA b (.slice ac b.2.1.length cc)) 33 (0, 0)) := (hgrow5.block _ (by rw [hs4]; omega) (fun e => by have := (HO4.out.lt _ e.symm).1; omega)).trans HK2.out; have hk1 : w5.heap[w.heap.size + 1]? = some (.cells #[.int .i64 0, .int .i64 0, .slice none 0 0, .int .i64 0, .int .i64 0, .int .i64 0, .int .i64 0] 33 (0, 0)) := (hgrow5.block _ (by rw [hs4]; omega) (fun e => by have := (HO4.out.lt _ e.symm).1; omega)).trans HK1.out; have x2 : w5.cell? ⟨w.heap.size + 1 + 1, 2, none⟩ = some (.slice ac b.2.1.length cc) := (blk_cells hk2).2.2.1; have f2 := frozen_of_row w5 (w.heap.size + 1 + 1) 2 _ _ hk2; have hk3 : (w5.setCell ⟨w.heap.size + 1 + 1, 2, none⟩ (.slice a5 b.2.1.length cap5)).heap[w.heap.size + 1 + 1]? = some (.cells (blkA b (.slice a5 b.2.1.length cap5)) 33 (0, 0)) := heap_setCell_same w5 (w.heap.size + 1 + 1) 2 _ _ _ hk2; have hg6 := set_grown w5 (w.heap.size + 1 + 1) 2 (.slice a5 b.2.1.length cap5); have hk4 : (w5.setCell ⟨w.heap.size + 1 + 1, 2, none⟩ (.slice a5 b.2.1.length cap5)).heap[w.heap.size + 1]? = some (.cells #[.int .i64 0, .int .i64 0, .slice none 0 0, .int .i64 0, .int .i64 0, .int .i64 0, .int .i64 0] 33 (0, 0)) := (hg6.block _ (Array.getElem?_eq_some_iff.1 hk1).1 (fun e => by have := Option.some.inj e; omega)).trans hk1; obtain ⟨z0, z1, z2, z3, z4, z5, z6⟩ := blk_cells hk3; obtain ⟨⟨p0, r0⟩, ⟨p1, r1⟩, ⟨p2, r2⟩, ⟨p3, r3⟩, ⟨p4, r4⟩, ⟨p5, r5⟩, ⟨p6, r6⟩, hk7, hg7⟩ := blk_seven hk4 (.int .i64 b.1.1) (.int .i64 b.1.2) (.slice a5 b.2.1.length cap5) (.int .i64 b.2.2.1) (.int .i64 b.2.2.2.1) (.int .i64 b.2.2.2.2.1) (.int .i64 b.2.2.2.2.2); clear hown5 hgrow5 hk1 hk2 hk3 hk4)
  obtain ⟨y0, y1, y2, y3, y4, y5, y6⟩ := blk_cells hk7
  have HG6 : Hid (World.grownBy _ _ (some (w.heap.size + 1 + 1))) := hg6
  have HG7 : Hid (World.grownBy _ _ (some (w.heap.size + 1))) := hg7
  clear hg6 hg7 hk7
  refine bodyPost_ret (v := .agg #[.int .i64 b.1.1, .int .i64 b.1.2, .slice a5 b.2.1.length cap5, .int .i64 b.2.2.1, .int .i64 b.2.2.2.1, .int .i64 b.2.2.2.2.1, .int .i64 b.2.2.2.2.2]) (by simp [results, Try.results85, go_sem, y0, y1, y2, y3, y4, y5, y6]) rfl ?_
  refine ⟨_, rfl, own_base (World.ownsRow.kept (World.ownsRow.kept HO5.out HG6.out (own_far HO5.out (by omega))) HG7.out (own_far (World.ownsRow.kept HO5.out HG6.out (own_far HO5.out (by omega))) (by omega))) (by omega), ?_⟩
  have B6 := HB5.out.grown HG6.out HB5.out.size fun k hk => by cases hk; omega
  exact B6.grown HG7.out B6.size fun k hk => by cases hk; omega

set_option maxRecDepth 100000 in
set_option maxHeartbeats 4000000 in
theorem l05Tree_s (ps : TL) (v : Value) (w : World) (hT : TreeR w v ps) (hk : okT (bks ps)) :
    Calls Try.prog 83 #[v] w fun e w' => ∃ v' qs, e = .returned v' ∧ bks qs = bks ps ∧ OwnT w' w.heap.size v' qs ∧ Below w.heap.size w w' := by
  have HT : Hid (TreeR w v ps) := hT
  have HK : Hid (okT (bks ps)) := hk
  obtain ⟨a, cap, rfl, _, hr⟩ := tree_cells hT
  have HR : Hid (0 < ps.length → _) := hr
  have hbl := bks_len ps
  have hl : (ps.length : Int) ≤ 1048576 := by have := hk.1; rw [hbl] at this; exact this
  obtain ⟨i0, hi, hz0, hz1, hz2⟩ := info_parts infoBlk
  clear hr hT hk
  go_enter Try.func83, Try.ntmps83
  go_wp2
  go_loopw [3, 4] (fun o i wr => ∃ (k : Nat) (qs : TL), k ≤ ps.length ∧ i = .int .i64 (k : Int) ∧ Hid (bks qs = (bks ps).take k) ∧ Hid (OwnT wr w.heap.size o qs) ∧ Below w.heap.size w wr) (fun _ i _ => ps.length - (intOf i).toNat)
  case atStart => exact ⟨0, [], Nat.zero_le _, rfl, rfl, ownT_nil w, ba (Below.refl _ _) _⟩
  case round =>
    obtain ⟨k, qs, hk, rfl, HS, HO, hbel⟩ := hrel
    have hbs := hbel.size
    have hql : qs.length = k := by have := congrArg List.length HS.out; rw [bks_len, List.length_take, hbl] at this; omega
    by_cases hlt : (k : Int) < ps.length
    · have hkn : k < ps.length := by omega
      have q0 : (0 : Int) ≤ (k : Int) := by omega
      obtain ⟨g, off, rfl, hg, hc⟩ := HR.out (by omega)
      have c0 : wr.cell? ⟨g, off + k * 7, none⟩ = some (.int .i64 ps[k].1.1.1) := by rw [hbel.cell (by exact hg)]; exact (hc k hkn).1
      have c1 : wr.cell? ⟨g, off + k * 7 + 1, none⟩ = some (.int .i64 ps[k].1.1.2) := by rw [hbel.cell (by exact hg)]; exact (hc k hkn).2.1
      have c2 : wr.cell? ⟨g, off + k * 7 + 2, none⟩ = some ps[k].2 := by rw [hbel.cell (by exact hg)]; exact (hc k hkn).2.2.1
      have c3 : wr.cell? ⟨g, off + k * 7 + 3, none⟩ = some (.int .i64 ps[k].1.2.2.1) := by rw [hbel.cell (by exact hg)]; exact (hc k hkn).2.2.2.1
      have c4 : wr.cell? ⟨g, off + k * 7 + 4, none⟩ = some (.int .i64 ps[k].1.2.2.2.1) := by rw [hbel.cell (by exact hg)]; exact (hc k hkn).2.2.2.2.1
      have c5 : wr.cell? ⟨g, off + k * 7 + 5, none⟩ = some (.int .i64 ps[k].1.2.2.2.2.1) := by rw [hbel.cell (by exact hg)]; exact (hc k hkn).2.2.2.2.2.1
      have c6 : wr.cell? ⟨g, off + k * 7 + 6, none⟩ = some (.int .i64 ps[k].1.2.2.2.2.2) := by rw [hbel.cell (by exact hg)]; exact (hc k hkn).2.2.2.2.2.2
      have HN : Hid ((bks ps).take (k + 1) = (bks ps).take k ++ [ps[k].1]) := (by rw [Go.Proofs.Ytfnneillakdopab.take_snoc (by rw [hbl]; exact hkn), bks_at hkn] : (bks ps).take (k + 1) = (bks ps).take k ++ [ps[k].1])
      clear hc
      go_wp2_with fail
      refine (l05Block_s ps[k].1 ps[k].2 wr ((HT.out.cmds _ (List.getElem_mem hkn)).below hbel) (okT_at HK.out hkn).1).mono ?_
      rintro e w2 ⟨cv, rfl, hown2, hb2⟩
      obtain ⟨ac, capc, rfl, _⟩ := own_form hown2
      have HC2 : Hid (w2.ownsRow wr.heap.size 103 3 (.slice ac ps[k].1.2.1.length capc) ps[k].1.2.1.length (flatR cmdF ps[k].1.2.1)) := hown2
      have HR2 : Hid (w2.ownsRow w.heap.size 33 7 u3 qs.length (flatR blkF qs)) := own_kept HO.out.row hb2
      have HB2 : Hid (Below wr.heap.size wr w2) := hb2
      have hs2 := hb2.size
      unfold blkV
      clear hown2 hb2 c0 c1 c2 c3 c4 c5 c6
      go_wp2_with (at_builtin; refine wpList_append_own _ rfl _ _ 24 rfl w.heap.size 33 i0 _ 7 72 Try.underlying24 hi hz0 hz1 hz2 rfl (by decide) _ _ _ rfl (World.ownsRow.alloc HR2.out _) ⟨World.heap _ |>.size, 0, none⟩ 1 1 (blkF (ps[k].1, .slice ac ps[k].1.2.1.length capc)) rfl rfl (newsB _ ps[k].1 _ _) (onesB _ _ _ _) (by unfold maxLen; omega) (by omega) (by simp; omega) ?_; intro v3 w3 hown3 hgrow3 _)
      have HO3 : Hid (OwnT w3 w.heap.size v3 (qs ++ [(ps[k].1, .slice ac ps[k].1.2.1.length capc)])) := HO.out.push HB2.out HC2.out hown3 hgrow3 hbs
      have HB3 : Below w.heap.size w w3 := (ba (bt hbel HB2.out) _).grown hgrow3 (by simp; omega) fun x hx => (HR2.out.lt x hx).1
      clear hown3 hgrow3
      go_roundw
      case rel => exact ⟨k + 1, _, by omega, by go_num, (by rw [bks_snoc, HN.out, HS.out] : bks (qs ++ [(ps[k].1, .slice ac ps[k].1.2.1.length capc)]) = (bks ps).take (k + 1)), HO3.out, HB3⟩
      case measure => simp [intOf]; omega
    · have hkl : k = ps.length := by omega
      have HF : Hid (bks qs = bks ps) := (by rw [HS.out, hkl, ← hbl, List.take_length] : bks qs = bks ps)
      clear hkl
      go_wp2
      go_ret
      exact ⟨_, rfl, qs, HF.out, HO.out, hbel⟩

set_option maxRecDepth 100000 in
theorem treeNew_s (w : World) : Calls Try.prog 75 #[] w fun e w' => ∃ v', e = .returned v' ∧ OwnT w' w.heap.size v' [(firstB, .slice none 0 0)] ∧ Below w.heap.size w w' := by
  go_enter Try.func75, Try.ntmps75
  go_wp2_with fail
  refine (first_s w).mono ?_
  rintro e w1 ⟨rfl, hb1⟩
  unfold blkV firstB
  go_wp2
  go_ret
  exact ⟨_, rfl, ownT_one (b := firstB) (cv := .slice none 0 0) hb1.size (World.ownsRow_nil _ _ _ _), ba hb1 _⟩

theorem ret_vi2 {v : Value} {a b : Int} (h : a = b) : Ending.returned (.tuple #[v, .int .i64 a]) = .returned (.tuple #[v, .int .i64 b]) := by rw [h]
set_option maxRecDepth 100000 in
set_option maxHeartbeats 4000000 in
theorem putBlock_s (ps : TL) (v : Value) (b : BK) (cv : Value) (w : World) (hT : TreeR w v ps) (hB : RowsR w cv 3 cmdF b.2.1) (hk : okT (bks ps)) (hkb : okB b) :
    Calls Try.prog 77 #[v, blkV b cv] w fun e w' => ∃ v' qs, e = .returned (.tuple #[v', .int .i64 (putAt (bks ps) b)]) ∧ bks qs = putT (bks ps) b ∧ OwnT w' w.heap.size v' qs ∧ Below w.heap.size w w' := by
  have HT : Hid (TreeR w v ps) := hT
  have HB : Hid (RowsR w cv 3 cmdF b.2.1) := hB
  have HK : Hid (okT (bks ps)) := hk
  have HKB : Hid (okB b) := hkb
  obtain ⟨a, cap, rfl, _, hr⟩ := tree_cells hT
  obtain ⟨ac, capc, rfl, _⟩ := hB
  have hbl := bks_len ps
  have hl : (ps.length : Int) ≤ 1048576 := by have := hk.1; rw [hbl] at this; exact this
  obtain ⟨i0, hi, hz0, hz1, hz2⟩ := info_parts infoBlk
  unfold blkV
  obtain ⟨W1, hW1⟩ : ∃ W1, W1 = w.alloc (.cells (blkA b (.slice ac b.2.1.length capc)) 33) := ⟨_, rfl⟩
  have HW : Hid (W1.heap[w.heap.size]? = some (.cells (blkA b (.slice ac b.2.1.length capc)) 33 (0, 0)) ∧ Below w.heap.size w W1) := by
    rw [hW1]; exact ⟨heap_alloc_new w _, ba (Below.refl _ _) _⟩
  have l0 : w.heap.size < W1.heap.size := (Array.getElem?_eq_some_iff.1 HW.out.1).1
  have HX : Hid (∀ w', Below W1.heap.size W1 w' → w'.heap[w.heap.size]? = some (.cells (blkA b (.slice ac b.2.1.length capc)) 33 (0, 0))) := fun w' h' => (h'.block _ l0).trans HW.out.1
  clear hr hT hk hkb
  go_enter Try.func77, Try.ntmps77
  go_wp2_with fail
  rw [← hW1]
  clear hW1
  refine (l05Tree_s ps _ W1 (HT.out.below HW.out.2) HK.out).mono ?_
  rintro e w2 ⟨v2, qs, rfl, hqs, hown2, hb2⟩
  have HQ : Hid (bks qs = bks ps) := hqs
  have HO2 : Hid (OwnT w2 W1.heap.size v2 qs) := hown2
  have hql : qs.length = ps.length := by rw [← bks_len, hqs, hbl]
  have B2 := bt HW.out.2 hb2
  obtain ⟨y0, y1, y2, y3, y4, y5, y6⟩ := blk_cells (HX.out _ hb2)
  have hs1 := HW.out.2.size
  clear hqs hown2
  go_wp2_with fail
  refine (blockAt_s ps _ b _ w2 (HT.out.below B2) (HB.out.below B2) HK.out HKB.out).mono ?_
  rintro e w3 ⟨rfl, hb3⟩
  have HO3 : Hid (OwnT w3 W1.heap.size v2 qs) := HO2.out.below hb3
  have hb13 := bt hb2 hb3
  have B3 := bt HW.out.2 hb13
  clear HO2 hb2 hb3 B2 y0 y1 y2 y3 y4 y5 y6
  by_cases hat : 0 ≤ blockAt (bks ps) b
  · have HP : Hid (putAt (bks ps) b = blockAt (bks ps) b ∧ putT (bks ps) b = bks ps) := put_there hat
    go_wp2
    go_ret2
    exact ⟨v2, qs, ret_vi2 HP.out.1.symm, by rw [HP.out.2]; exact HQ.out, HO3.out.base hs1, B3⟩
  · obtain ⟨y0, y1, y2, y3, y4, y5, y6⟩ := blk_cells (HX.out _ hb13)
    go_wp2_with fail
    refine (blockOk_s ps _ b _ w3 (HT.out.below B3) (HB.out.below B3) hl HKB.out).mono ?_
    rintro e w4 ⟨rfl, hb4⟩
    have HO4 : Hid (OwnT w4 W1.heap.size v2 qs) := HO3.out.below hb4
    have hb14 := bt hb13 hb4
    have B4 := bt HW.out.2 hb14
    clear HO3 hb4 hb13 B3 y0 y1 y2 y3 y4 y5 y6
    cases hbk : blockB (bks ps) b with
    | false =>
      have HP : Hid (putAt (bks ps) b = -1 ∧ putT (bks ps) b = bks ps) := put_not (Int.not_le.2 hat) (Or.inl hbk)
      go_wp2
      go_ret2
      exact ⟨v2, qs, ret_vi2 HP.out.1.symm, by rw [HP.out.2]; exact HQ.out, HO4.out.base hs1, B4⟩
    | true =>
      by_cases h60 : (60 : Int) ≤ ps.length
      · have HP : Hid (putAt (bks ps) b = -1 ∧ putT (bks ps) b = bks ps) := put_not (Int.not_le.2 hat) (Or.inr (by rw [hbl]; omega))
        go_wp2
        go_ret2
        exact ⟨v2, qs, ret_vi2 HP.out.1.symm, by rw [HP.out.2]; exact HQ.out, HO4.out.base hs1, B4⟩
      · have HP : Hid (putAt (bks ps) b = (ps.length : Int) ∧ putT (bks ps) b = bks ps ++ [b]) := (by have := put_new (Int.not_le.2 hat) (fun h => h.elim (fun h => by rw [hbk] at h; cases h) (fun h => by rw [hbl] at h; omega)); rw [hbl] at this; exact this : putAt (bks ps) b = (ps.length : Int) ∧ putT (bks ps) b = bks ps ++ [b])
        obtain ⟨y0, y1, y2, y3, y4, y5, y6⟩ := blk_cells (HX.out _ hb14)
        go_wp2_with fail
        refine (l05Block_s b _ w4 (HB.out.below B4) HKB.out.1).mono ?_
        rintro e w5 ⟨cv5, rfl, hown5, hb5⟩
        obtain ⟨a5, cap5, rfl, _⟩ := own_form hown5
        have HC5 : Hid (w5.ownsRow w4.heap.size 103 3 (.slice a5 b.2.1.length cap5) b.2.1.length (flatR cmdF b.2.1)) := hown5
        have HR5 : Hid (w5.ownsRow W1.heap.size 33 7 v2 qs.length (flatR blkF qs)) := own_kept HO4.out.row hb5
        have HB5 : Hid (Below w4.heap.size w4 w5) := hb5
        have hs5 := hb5.size
        have hs4 := hb14.size
        unfold blkV
        clear hown5 hb5 y0 y1 y2 y3 y4 y5 y6
        go_wp2_with (at_builtin; refine wpList_append_own _ rfl _ _ 24 rfl W1.heap.size 33 i0 _ 7 72 Try.underlying24 hi hz0 hz1 hz2 rfl (by decide) _ _ _ rfl (World.ownsRow.alloc HR5.out _) ⟨World.heap _ |>.size, 0, none⟩ 1 1 (blkF (b, .slice a5 b.2.1.length cap5)) rfl rfl (newsB _ b _ _) (onesB _ _ _ _) (by unfold maxLen; omega) (by omega) (by simp; omega) ?_; intro v6 w6 hown6 hgrow6 _; have HO6 : Hid (OwnT w6 W1.heap.size v6 (qs ++ [(b, .slice a5 b.2.1.length cap5)])) := HO4.out.push HB5.out HC5.out hown6 hgrow6 hs4; have HB6 : Below w.heap.size w w6 := (ba (bt B4 HB5.out) _).grown hgrow6 (by simp; omega) (fun x hx => Nat.le_trans hs1 (HR5.out.lt x hx).1); clear hown6 hgrow6)
        go_ret2
        exact ⟨v6, _, ret_vi2 HP.out.1.symm, by rw [bks_snoc, HP.out.2, HQ.out], HO6.out.base hs1, HB6⟩

end Go.Proofs.Ytfnneillakdopab
