/-
  The contracts of the laws' own helpers over blocks: turned into the program's.
-/
import Derived.Test.YtcfgfhodbjakoavBlkL
import Derived.Test.YtcfgfhodbjakoavAppR
import Derived.Test.YtcfgfhodbjakoavTreeX
namespace Go.Proofs.Ytcfgfhodbjakoav
open Go.RowKit Num

def qcV (q : QC) : Value := .agg #[.int .i64 q.1, .int .i64 q.2.1, .int .i64 q.2.2.1, .int .i64 q.2.2.2]

theorem toQc_any (q : QC) (w : World) :
    Calls Try.prog 44 #[qcV q] w fun e w' => e = .returned (qcV q) ∧ Below w.heap.size w w' := by
  obtain ⟨a, b, c, d⟩ := q
  unfold qcV
  go_enter Try.func44, Try.ntmps44
  go_wp2
  refine bodyPost_ret (v := .agg #[_, _, _, _]) (by simp [results, Try.results44, go_sem]) rfl ⟨rfl, ?_⟩
  exact ba (ba (ba (Below.refl _ _) _) _) _

theorem blk_two {w : World} {N : Nat} {u0 u1 u2 u3 u4 u5 u6 : Value} {t : TypeId} (h : w.heap[N]? = some (.cells #[u0, u1, u2, u3, u4, u5, u6] t (0, 0))) (c : Value) :
    w.cell? ⟨N, 2, none⟩ = some u2 ∧ w.frozen? ⟨N, 2, none⟩ = false ∧ (w.setCell ⟨N, 2, none⟩ c).heap[N]? = some (.cells #[u0, u1, c, u3, u4, u5, u6] t (0, 0)) ∧ w.grownBy (w.setCell ⟨N, 2, none⟩ c) (some N) :=
  ⟨by rw [cell_of_row _ N 2 _ _ (0, 0) h]; rfl, frozen_of_row _ N 2 _ _ h, heap_setCell_same _ N 2 _ t c h, set_grown _ N 2 c⟩

set_option maxRecDepth 100000 in
set_option maxHeartbeats 4000000 in
theorem toBlock_any (b : BK) (cv : Value) (w : World) (hB : RowsR w cv 3 cmdF b.2.1) (hl : (b.2.1.length : Int) ≤ 1048576) :
    Calls Try.prog 32 #[blkV b cv] w fun e w' => ∃ cv', e = .returned (blkV b cv') ∧ w'.ownsRow w.heap.size 93 3 cv' b.2.1.length (flatR cmdF b.2.1) ∧ Below w.heap.size w w' := by
  have HB : Hid (RowsR w cv 3 cmdF b.2.1) := hB
  obtain ⟨ac, cc, rfl, _⟩ := hB
  unfold blkV
  obtain ⟨W, hW⟩ : ∃ W, W = (((w.alloc (Obj.cells #[Value.int IntKind.i64 b.1.1, Value.int IntKind.i64 b.1.2, Value.slice ac b.2.1.length cc, Value.int IntKind.i64 b.2.2.1, Value.int IntKind.i64 b.2.2.2.1, Value.int IntKind.i64 b.2.2.2.2.1, Value.int IntKind.i64 b.2.2.2.2.2] 72)).alloc (Obj.cells #[Value.int IntKind.i64 0, Value.int IntKind.i64 0, Value.slice none 0 0, Value.int IntKind.i64 0, Value.int IntKind.i64 0, Value.int IntKind.i64 0, Value.int IntKind.i64 0] 55)).alloc (Obj.cells #[Value.int IntKind.i64 b.1.1, Value.int IntKind.i64 b.1.2, Value.slice none 0 0, Value.int IntKind.i64 0, Value.int IntKind.i64 0, Value.int IntKind.i64 0, Value.int IntKind.i64 0] 55)) := ⟨_, rfl⟩
  have HW : Hid (W.heap[w.heap.size]? = some (.cells (blkA b (.slice ac b.2.1.length cc)) 72 (0, 0)) ∧ W.heap[w.heap.size + 1]? = some (.cells #[.int .i64 0, .int .i64 0, .slice none 0 0, .int .i64 0, .int .i64 0, .int .i64 0, .int .i64 0] 55 (0, 0)) ∧ W.heap[w.heap.size + 1 + 1]? = some (.cells #[.int .i64 b.1.1, .int .i64 b.1.2, .slice none 0 0, .int .i64 0, .int .i64 0, .int .i64 0, .int .i64 0] 55 (0, 0)) ∧ Below w.heap.size w W ∧ W.heap.size = w.heap.size + 1 + 1 + 1) := by
    rw [hW]
    refine ⟨box_cells (ba (ba (Below.refl _ _) _) _), ?_, ?_, ba (ba (ba (Below.refl _ _) _) _) _, by simp⟩
    · have h1 := box_cells (ba (Below.refl _ ((w.alloc (Obj.cells #[Value.int IntKind.i64 b.1.1, Value.int IntKind.i64 b.1.2, Value.slice ac b.2.1.length cc, Value.int IntKind.i64 b.2.2.1, Value.int IntKind.i64 b.2.2.2.1, Value.int IntKind.i64 b.2.2.2.2.1, Value.int IntKind.i64 b.2.2.2.2.2] 72)).alloc (Obj.cells #[Value.int IntKind.i64 0, Value.int IntKind.i64 0, Value.slice none 0 0, Value.int IntKind.i64 0, Value.int IntKind.i64 0, Value.int IntKind.i64 0, Value.int IntKind.i64 0] 55))) (Obj.cells #[Value.int IntKind.i64 b.1.1, Value.int IntKind.i64 b.1.2, Value.slice none 0 0, Value.int IntKind.i64 0, Value.int IntKind.i64 0, Value.int IntKind.i64 0, Value.int IntKind.i64 0] 55))
      rw [show (w.alloc (Obj.cells #[Value.int IntKind.i64 b.1.1, Value.int IntKind.i64 b.1.2, Value.slice ac b.2.1.length cc, Value.int IntKind.i64 b.2.2.1, Value.int IntKind.i64 b.2.2.2.1, Value.int IntKind.i64 b.2.2.2.2.1, Value.int IntKind.i64 b.2.2.2.2.2] 72)).heap.size = w.heap.size + 1 by simp] at h1
      exact h1
    · have h1 := heap_alloc_new ((w.alloc (Obj.cells #[Value.int IntKind.i64 b.1.1, Value.int IntKind.i64 b.1.2, Value.slice ac b.2.1.length cc, Value.int IntKind.i64 b.2.2.1, Value.int IntKind.i64 b.2.2.2.1, Value.int IntKind.i64 b.2.2.2.2.1, Value.int IntKind.i64 b.2.2.2.2.2] 72)).alloc (Obj.cells #[Value.int IntKind.i64 0, Value.int IntKind.i64 0, Value.slice none 0 0, Value.int IntKind.i64 0, Value.int IntKind.i64 0, Value.int IntKind.i64 0, Value.int IntKind.i64 0] 55)) (Obj.cells #[Value.int IntKind.i64 b.1.1, Value.int IntKind.i64 b.1.2, Value.slice none 0 0, Value.int IntKind.i64 0, Value.int IntKind.i64 0, Value.int IntKind.i64 0, Value.int IntKind.i64 0] 55)
      rw [show ((w.alloc (Obj.cells #[Value.int IntKind.i64 b.1.1, Value.int IntKind.i64 b.1.2, Value.slice ac b.2.1.length cc, Value.int IntKind.i64 b.2.2.1, Value.int IntKind.i64 b.2.2.2.1, Value.int IntKind.i64 b.2.2.2.2.1, Value.int IntKind.i64 b.2.2.2.2.2] 72)).alloc (Obj.cells #[Value.int IntKind.i64 0, Value.int IntKind.i64 0, Value.slice none 0 0, Value.int IntKind.i64 0, Value.int IntKind.i64 0, Value.int IntKind.i64 0, Value.int IntKind.i64 0] 55)).heap.size = w.heap.size + 1 + 1 by simp] at h1
      exact h1
  have hs := HW.out.2.2.2.2
  go_enter Try.func32, Try.ntmps32
  go_wp2_with fail
  rw [← hW]
  clear hW
  refine (toCmds_any b.2.1 _ W (HB.out.below HW.out.2.2.2.1) hl).mono ?_
  rintro e w2 ⟨cv2, rfl, hown2, hb2⟩
  obtain ⟨a2, c2, rfl, _⟩ := own_form hown2
  have hs2 := hb2.size
  obtain ⟨x2, f2, k2, g2⟩ := blk_two ((hb2.block (w.heap.size + 1 + 1) (by omega)).trans HW.out.2.2.1) (.slice a2 b.2.1.length c2)
  have hs3 := g2.size
  have k0 := (g2.block w.heap.size (by omega) (fun e => by injection e; omega)).trans ((hb2.block w.heap.size (by omega)).trans HW.out.1)
  have k1 := (g2.block (w.heap.size + 1) (by omega) (fun e => by injection e; omega)).trans ((hb2.block (w.heap.size + 1) (by omega)).trans HW.out.2.1)
  obtain ⟨_, _, _, y3, y4, y5, y6⟩ := blk_cells k0
  have B2 : Below w.heap.size w w2 := bt HW.out.2.2.2.1 hb2
  have HB3 : Hid (Below w.heap.size w (w2.setCell ⟨w.heap.size + 1 + 1, 2, none⟩ (.slice a2 b.2.1.length c2))) := B2.grown g2 B2.size fun k hk => by cases hk; omega
  have HO3 : Hid ((w2.setCell ⟨w.heap.size + 1 + 1, 2, none⟩ (.slice a2 b.2.1.length c2)).ownsRow W.heap.size 93 3 (.slice a2 b.2.1.length c2) b.2.1.length (flatR cmdF b.2.1)) := World.ownsRow.kept hown2 g2 (own_far hown2 (by omega))
  have HK : Hid (_ ∧ _) := ⟨k1, k2⟩
  clear k0 k1 k2 g2 hown2 hb2 B2
  go_wp2_with fail
  refine (toQc_any b.2.2 _).mono ?_
  rintro e w4 ⟨rfl, hb4⟩
  unfold qcV
  have hs4 := hb4.size
  have HB4 : Hid (Below w.heap.size w w4) := bt HB3.out hb4
  have HO4 : Hid (w4.ownsRow W.heap.size 93 3 (.slice a2 b.2.1.length c2) b.2.1.length (flatR cmdF b.2.1)) := own_kept HO3.out hb4
  have k1 := (hb4.block (w.heap.size + 1) (by omega)).trans HK.out.1
  have k2 := (hb4.block (w.heap.size + 1 + 1) (by omega)).trans HK.out.2
  clear y3 y4 y5 y6 x2 f2 hb4 HK HB3 HO3
  obtain ⟨⟨z0, p0⟩, ⟨z1, p1⟩, ⟨z2, p2⟩, ⟨z3, p3⟩, k3, g3⟩ := blk_tail k2 (.int .i64 b.2.2.1) (.int .i64 b.2.2.2.1) (.int .i64 b.2.2.2.2.1) (.int .i64 b.2.2.2.2.2)
  have k4 := (g3.block (w.heap.size + 1) (by omega) (fun e => by injection e; omega)).trans k1
  have hs5 := g3.size
  obtain ⟨y0, y1, y2, y3, y4, y5, y6⟩ := blk_cells (b := b) k3
  obtain ⟨⟨u0, q0⟩, ⟨u1, q1⟩, ⟨u2, q2⟩, ⟨u3, q3⟩, ⟨u4, q4⟩, ⟨u5, q5⟩, ⟨u6, q6⟩, k7, g7⟩ := blk_seven k4 (.int .i64 b.1.1) (.int .i64 b.1.2) (.slice a2 b.2.1.length c2) (.int .i64 b.2.2.1) (.int .i64 b.2.2.2.1) (.int .i64 b.2.2.2.2.1) (.int .i64 b.2.2.2.2.2)
  obtain ⟨r0, r1, r2, r3, r4, r5, r6⟩ := blk_cells (b := b) k7
  have HG3 : Hid (World.grownBy _ _ (some (w.heap.size + 1 + 1))) := g3
  have HG7 : Hid (World.grownBy _ _ (some (w.heap.size + 1))) := g7
  clear k1 k2 k3 k4 k7 g3 g7
  go_wp2
  refine bodyPost_ret (v := .agg #[.int .i64 b.1.1, .int .i64 b.1.2, .slice a2 b.2.1.length c2, .int .i64 b.2.2.1, .int .i64 b.2.2.2.1, .int .i64 b.2.2.2.2.1, .int .i64 b.2.2.2.2.2]) (by simp [results, Try.results32, go_sem, r0, r1, r2, r3, r4, r5, r6]) rfl ?_
  have O5 := World.ownsRow.kept HO4.out HG3.out (own_far HO4.out (by omega))
  refine ⟨_, rfl, own_base (World.ownsRow.kept O5 HG7.out (own_far O5 (by omega))) (by omega), ?_⟩
  have B6 := HB4.out.grown HG3.out HB4.out.size fun k hk => by cases hk; omega
  exact B6.grown HG7.out B6.size fun k hk => by cases hk; omega

end Go.Proofs.Ytcfgfhodbjakoav
