/-
  The walk of the law FnExactFirstBlock: the specification's answer and the program's are the same; what is answered owns its memory.
-/
import Derived.Test.YtnghhfgbobpnkakBlkE
import Derived.Test.YtnghhfgbobpnkakBlkM
import Derived.Test.YtnghhfgbobpnkakBlockS
import Derived.Test.YtnghhfgbobpnkakBlockI
namespace Go.Proofs.Ytnghhfgbobpnkak.WFnExactFirstBlock
open Go.RowKit Num

set_option maxRecDepth 100000 in
set_option maxHeartbeats 4000000 in
theorem walk_of (HI : ∀ w : World, Calls Try.prog 21 #[] w fun e w' => ∃ cv', e = .returned (blkV firstB cv') ∧ w'.ownsRow w.heap.size 95 3 cv' firstB.2.1.length (flatR cmdF firstB.2.1) ∧ Below w.heap.size w w') (w : World) :
    Calls Try.prog 4 #[] w fun e w' => e = .returned (.bool true) ∧ Below w.heap.size w w' := by
  have HI : Hid (∀ w : World, Calls Try.prog 21 #[] w fun e w' => ∃ cv', e = .returned (blkV firstB cv') ∧ w'.ownsRow w.heap.size 95 3 cv' firstB.2.1.length (flatR cmdF firstB.2.1) ∧ Below w.heap.size w w') := HI
  have HR : Hid (∀ w' : World, RowsR w' (.slice none 0 0) 3 cmdF firstB.2.1) := fun w' => ⟨none, 0, rfl, fun h => by cases h⟩
  go_enter Try.func4, Try.ntmps4
  go_wp2_with fail
  refine (first_s w).mono ?_
  rintro e w1 ⟨rfl, B1⟩
  unfold blkV
  obtain ⟨W1, hW1⟩ : ∃ W1, W1 = w1.alloc (Obj.cells (blkA firstB (.slice none 0 0)) 40) := ⟨_, rfl⟩
  have hs1 : w1.heap.size < W1.heap.size := by rw [hW1]; simp
  have HB1 : Hid (Below w.heap.size w W1) := (by rw [hW1]; exact ba B1 _ : Below w.heap.size w W1)
  have HX1 : Hid (∀ w' : World, w'.heap[w1.heap.size]? = W1.heap[w1.heap.size]? → w'.cell? ⟨w1.heap.size, 0, none⟩ = some (.int .i64 firstB.1.1) ∧ w'.cell? ⟨w1.heap.size, 1, none⟩ = some (.int .i64 firstB.1.2) ∧ w'.cell? ⟨w1.heap.size, 2, none⟩ = some (.slice none 0 0) ∧ w'.cell? ⟨w1.heap.size, 3, none⟩ = some (.int .i64 firstB.2.2.1) ∧ w'.cell? ⟨w1.heap.size, 4, none⟩ = some (.int .i64 firstB.2.2.2.1) ∧ w'.cell? ⟨w1.heap.size, 5, none⟩ = some (.int .i64 firstB.2.2.2.2.1) ∧ w'.cell? ⟨w1.heap.size, 6, none⟩ = some (.int .i64 firstB.2.2.2.2.2)) := fun w' h' => blk_cells (h'.trans (by rw [hW1]; exact heap_alloc_new w1 _))
  go_wp2_with fail
  rw [← hW1]
  clear hW1
  refine (HI.out W1).mono ?_
  rintro e w2 ⟨cv2, rfl, ho2, hb2⟩
  obtain ⟨a2, p2, rfl, _⟩ := own_form ho2
  unfold blkV
  have hs2 := hb2.size
  obtain ⟨W2, hW2⟩ : ∃ W2, W2 = w2.alloc (Obj.cells (blkA firstB (.slice a2 firstB.2.1.length p2)) 40) := ⟨_, rfl⟩
  have hs2' : w2.heap.size < W2.heap.size := by rw [hW2]; simp
  have HB2 : Hid (Below W1.heap.size W1 W2) := (by rw [hW2]; exact ba hb2 _ : Below W1.heap.size W1 W2)
  have HO2 : Hid (W2.ownsRow W1.heap.size 95 3 (.slice a2 firstB.2.1.length p2) firstB.2.1.length (flatR cmdF firstB.2.1) ∧ ∀ g, Value.ownBlock (.slice a2 firstB.2.1.length p2) = some g → W1.heap.size ≤ g ∧ g < w2.heap.size) := ⟨(by rw [hW2]; exact World.ownsRow.alloc ho2 _), ho2.lt⟩
  have HX2 : Hid (∀ w' : World, w'.heap[w2.heap.size]? = W2.heap[w2.heap.size]? → w'.cell? ⟨w2.heap.size, 0, none⟩ = some (.int .i64 firstB.1.1) ∧ w'.cell? ⟨w2.heap.size, 1, none⟩ = some (.int .i64 firstB.1.2) ∧ w'.cell? ⟨w2.heap.size, 2, none⟩ = some (.slice a2 firstB.2.1.length p2) ∧ w'.cell? ⟨w2.heap.size, 3, none⟩ = some (.int .i64 firstB.2.2.1) ∧ w'.cell? ⟨w2.heap.size, 4, none⟩ = some (.int .i64 firstB.2.2.2.1) ∧ w'.cell? ⟨w2.heap.size, 5, none⟩ = some (.int .i64 firstB.2.2.2.2.1) ∧ w'.cell? ⟨w2.heap.size, 6, none⟩ = some (.int .i64 firstB.2.2.2.2.2)) := fun w' h' => blk_cells (h'.trans (by rw [hW2]; exact heap_alloc_new w2 _))
  clear ho2 hb2
  obtain ⟨y0, y1, y2, y3, y4, y5, y6⟩ := HX1.out W2 (HB2.out.block _ hs1)
  rw [hW2] at y0 y1 y2 y3 y4 y5 y6
  go_wp2_with fail
  rw [← hW2]
  clear hW2 y0 y1 y2 y3 y4 y5 y6
  refine (eqBlock_yes firstB (.slice a2 firstB.2.1.length p2) (.slice none 0 0) W2 (rows_of_own cmdF_len HO2.out.1) (HR.out W2) (by decide)).mono ?_
  rintro e w3 ⟨rfl, hb3⟩
  have HB3 : Hid (Below W2.heap.size W2 w3) := hb3
  clear hb3
  obtain ⟨z0, z1, z2, z3, z4, z5, z6⟩ := HX2.out w3 (HB3.out.block _ hs2')
  go_wp2_with fail
  clear z0 z1 z2 z3 z4 z5 z6
  refine (markBlock_own firstB (.slice a2 firstB.2.1.length p2) 1 0 W1.heap.size _ w3 (own_kept HO2.out.1 HB3.out) (by decide) (by decide) (by decide)).mono ?_
  rintro e w4 ⟨rfl, ho4, hg4⟩
  have hs3 := HB3.out.size
  have HO4 : Hid (w4.ownsRow W1.heap.size 95 3 (.slice a2 firstB.2.1.length p2) 0 (flatR cmdF (qmarks 1 0))) := ho4
  have HK4 : Hid (w4.heap[w1.heap.size]? = W1.heap[w1.heap.size]? ∧ w4.heap[w2.heap.size]? = W2.heap[w2.heap.size]?) := by
    refine ⟨(hg4.block _ (by omega) fun e => ?_).trans ((HB3.out.block _ (by omega)).trans (HB2.out.block _ hs1)), (hg4.block _ (by omega) fun e => ?_).trans (HB3.out.block _ hs2')⟩
    · have := HO2.out.2 _ e.symm; omega
    · have := HO2.out.2 _ e.symm; omega
  have B4 : Below w.heap.size w w4 := (bt HB1.out (bt HB2.out HB3.out)).grown hg4 (bt HB1.out (bt HB2.out HB3.out)).size fun g hg => Nat.le_trans HB1.out.size (HO2.out.2 g hg).1
  have hs4 := hg4.size
  clear ho4 hg4
  obtain ⟨z0, z1, z2, z3, z4, z5, z6⟩ := HX2.out w4 HK4.out.2
  go_wp2_with fail
  clear z0 z1 z2 z3 z4 z5 z6
  refine (heldBlock_any firstB (.slice a2 firstB.2.1.length p2) 1 0 w4 (rows_of_own (xs := qmarks 1 0) cmdF_len HO4.out) (by decide) (by decide) (by decide)).mono ?_
  rintro e w5 ⟨rfl, hb5⟩
  have HB5 : Hid (Below w4.heap.size w4 w5) := hb5
  have B5 := bt B4 hb5
  have hs5 := hb5.size
  clear hb5
  go_wp2_with fail
  refine (HI.out w5).mono ?_
  rintro e w6 ⟨cv6, rfl, ho6, hb6⟩
  obtain ⟨a6, p6, rfl, _⟩ := own_form ho6
  unfold blkV
  have hs6 := hb6.size
  obtain ⟨W6, hW6⟩ : ∃ W6, W6 = w6.alloc (Obj.cells (blkA firstB (.slice a6 firstB.2.1.length p6)) 40) := ⟨_, rfl⟩
  have HB6 : Hid (Below w4.heap.size w4 W6) := (by rw [hW6]; exact ba (bt HB5.out hb6) _ : Below w4.heap.size w4 W6)
  have HO6 : Hid (W6.ownsRow w5.heap.size 95 3 (.slice a6 firstB.2.1.length p6) firstB.2.1.length (flatR cmdF firstB.2.1)) := (by rw [hW6]; exact World.ownsRow.alloc ho6 _ : W6.ownsRow w5.heap.size 95 3 (.slice a6 firstB.2.1.length p6) firstB.2.1.length (flatR cmdF firstB.2.1))
  have B6 : Below w.heap.size w W6 := bt B4 HB6.out
  clear ho6 hb6
  obtain ⟨y0, y1, y2, y3, y4, y5, y6⟩ := HX1.out W6 ((HB6.out.block _ (by omega)).trans HK4.out.1)
  rw [hW6] at y0 y1 y2 y3 y4 y5 y6
  go_wp2_with fail
  rw [← hW6]
  clear hW6 y0 y1 y2 y3 y4 y5 y6
  refine (eqBlock_yes firstB (.slice a6 firstB.2.1.length p6) (.slice none 0 0) W6 (rows_of_own cmdF_len HO6.out) (HR.out W6) (by decide)).mono ?_
  rintro e w7 ⟨rfl, hb7⟩
  have HB7 : Hid (Below w4.heap.size w4 w7) := bt HB6.out hb7
  have B7 := bt B6 hb7
  clear hb7
  obtain ⟨z0, z1, z2, z3, z4, z5, z6⟩ := HX2.out w7 ((HB7.out.block _ (by omega)).trans HK4.out.2)
  go_wp2_with fail
  clear z0 z1 z2 z3 z4 z5 z6
  refine (heldBlock_any firstB (.slice a2 firstB.2.1.length p2) 1 0 w7 ((rows_of_own (xs := qmarks 1 0) cmdF_len HO4.out).below HB7.out) (by decide) (by decide) (by decide)).mono ?_
  rintro e w8 ⟨rfl, hb8⟩
  have B8 := bt B7 hb8
  clear hb8
  go_wp2
  go_ret
  exact ⟨rfl, B8⟩

theorem walk (w : World) :
    Calls Try.prog 4 #[] w fun e w' => e = .returned (.bool true) ∧ Below w.heap.size w w' :=
  walk_of firstBlock_i w

end Go.Proofs.Ytnghhfgbobpnkak.WFnExactFirstBlock
