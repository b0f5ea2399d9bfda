/-
  The walk of the law FnExactSameBlock: the specification's answer and the program's are the same; what came in is as it was.
-/
import Derived.Test.YtnghhfgbobpnkakBlkE
import Derived.Test.YtnghhfgbobpnkakBlkOpen
import Derived.Test.YtnghhfgbobpnkakBlockS
import Derived.Deep.RegionHeld3
import Derived.Test.YtnghhfgbobpnkakBlockI
namespace Go.Proofs.Ytnghhfgbobpnkak.WFnExactSameBlock
open Go.RowKit Num

set_option maxRecDepth 100000 in
set_option maxHeartbeats 8000000 in
theorem walk_of (HI : ∀ (b d : BK) (cb cd : Value) (w : World) (_ : RowsR w cb 3 cmdF b.2.1) (_ : RowsR w cd 3 cmdF d.2.1) (_ : okB b) (_ : okB d), Calls Try.prog 39 #[blkV b cb, blkV d cd] w fun e w' => e = .returned (.bool (decide (b = d))) ∧ Below w.heap.size w w') (w : World) (b : BK) (cb : Value) (hb : goodBlk w (b, cb)) (d : BK) (cd : Value) (hd : goodBlk w (d, cd)) :
    Calls Try.prog 8 #[blkV b cb, blkV d cd] w fun e w' => e = .returned (.bool true) ∧ Below w.heap.size w w' := by
  have HI : Hid (∀ (b d : BK) (cb cd : Value) (w : World) (_ : RowsR w cb 3 cmdF b.2.1) (_ : RowsR w cd 3 cmdF d.2.1) (_ : okB b) (_ : okB d), Calls Try.prog 39 #[blkV b cb, blkV d cd] w fun e w' => e = .returned (.bool (decide (b = d))) ∧ Below w.heap.size w w') := HI
  have HB0b : Hid (goodBlk w (b, cb)) := hb
  obtain ⟨ab, pb, eb⟩ := rows_form hb.1
  simp only at eb
  subst eb
  clear hb
  have HB0d : Hid (goodBlk w (d, cd)) := hd
  obtain ⟨ad, pd, ed⟩ := rows_form hd.1
  simp only at ed
  subst ed
  clear hd
  unfold blkV
  obtain ⟨W, hW⟩ : ∃ W, W = ((w.alloc (Obj.cells (blkA b (.slice ab b.2.1.length pb)) 53)).alloc (Obj.cells (blkA d (.slice ad d.2.1.length pd)) 53)) := ⟨_, rfl⟩
  have HW : Hid (Below w.heap.size w W ∧ W.heap.size = w.heap.size + 2 ∧ W.heap[w.heap.size]? = some (.cells (blkA b (.slice ab b.2.1.length pb)) 53 (0, 0)) ∧ W.heap[w.heap.size + 1]? = some (.cells (blkA d (.slice ad d.2.1.length pd)) 53 (0, 0))) := by
    rw [hW]
    refine ⟨ba (ba (Below.refl _ _) _) _, by simp, box_cells (ba (Below.refl _ _) _), ?_⟩
    have h1 := heap_alloc_new (w.alloc (Obj.cells (blkA b (.slice ab b.2.1.length pb)) 53)) (Obj.cells (blkA d (.slice ad d.2.1.length pd)) 53)
    rw [show (w.alloc (Obj.cells (blkA b (.slice ab b.2.1.length pb)) 53)).heap.size = w.heap.size + 1 by simp] at h1
    exact h1
  have hWs := HW.out.2.1
  have HKb : Hid (∀ w', Below W.heap.size W w' → w'.cell? ⟨w.heap.size, 0, none⟩ = some (.int .i64 b.1.1) ∧ w'.cell? ⟨w.heap.size, 1, none⟩ = some (.int .i64 b.1.2) ∧ w'.cell? ⟨w.heap.size, 2, none⟩ = some (.slice ab b.2.1.length pb) ∧ w'.cell? ⟨w.heap.size, 3, none⟩ = some (.int .i64 b.2.2.1) ∧ w'.cell? ⟨w.heap.size, 4, none⟩ = some (.int .i64 b.2.2.2.1) ∧ w'.cell? ⟨w.heap.size, 5, none⟩ = some (.int .i64 b.2.2.2.2.1) ∧ w'.cell? ⟨w.heap.size, 6, none⟩ = some (.int .i64 b.2.2.2.2.2)) := fun w' h' => blk_cells ((h'.block _ (by omega)).trans HW.out.2.2.1)
  have HBb : Hid (RowsR W (.slice ab b.2.1.length pb) 3 cmdF b.2.1) := HB0b.out.1.below HW.out.1
  have HKd : Hid (∀ w', Below W.heap.size W w' → w'.cell? ⟨w.heap.size + 1, 0, none⟩ = some (.int .i64 d.1.1) ∧ w'.cell? ⟨w.heap.size + 1, 1, none⟩ = some (.int .i64 d.1.2) ∧ w'.cell? ⟨w.heap.size + 1, 2, none⟩ = some (.slice ad d.2.1.length pd) ∧ w'.cell? ⟨w.heap.size + 1, 3, none⟩ = some (.int .i64 d.2.2.1) ∧ w'.cell? ⟨w.heap.size + 1, 4, none⟩ = some (.int .i64 d.2.2.2.1) ∧ w'.cell? ⟨w.heap.size + 1, 5, none⟩ = some (.int .i64 d.2.2.2.2.1) ∧ w'.cell? ⟨w.heap.size + 1, 6, none⟩ = some (.int .i64 d.2.2.2.2.2)) := fun w' h' => blk_cells ((h'.block _ (by omega)).trans HW.out.2.2.2)
  have HBd : Hid (RowsR W (.slice ad d.2.1.length pd) 3 cmdF d.2.1) := HB0d.out.1.below HW.out.1
  go_enter Try.func8, Try.ntmps8
  go_wp2_with fail
  rw [← hW]
  clear hW
  refine (szBlock_any b (.slice ab b.2.1.length pb) 1048576 W (by decide) (by decide) HBb.out HB0b.out.2.1).mono ?_
  rintro e w1 ⟨rfl, hb1⟩
  have B1 : Below W.heap.size W w1 := hb1
  by_cases hn1 : szBk b 1048576 < 0
  · go_wp2
    go_ret
    exact ⟨rfl, bt HW.out.1 B1⟩
  · have HOKb : Hid (okB b) := szBk_bd (left := 1048576) (by omega) (Int.not_lt.1 hn1)
    have hge1 := Int.not_lt.1 hn1
    have hle1 : szBk b 1048576 ≤ 1048576 := by have := szBk_le (b := b) (left := 1048576) (by omega); omega
    obtain ⟨l1, hl1⟩ : ∃ l1, l1 = szBk b 1048576 := ⟨_, rfl⟩
    rw [← hl1] at hn1 hle1 hge1 ⊢
    have HL1 : Hid (l1 = szBk b 1048576) := hl1
    clear hl1 hb1
    obtain ⟨kd0, kd1, kd2, kd3, kd4, kd5, kd6⟩ := HKd.out w1 B1
    go_wp2_with fail
    refine (szBlock_any d (.slice ad d.2.1.length pd) l1 w1 hge1 hle1 (HBd.out.below B1) HB0d.out.2.1).mono ?_
    clear kd0 kd1 kd2 kd3 kd4 kd5 kd6
    rintro e w2 ⟨rfl, hb2⟩
    have B2 : Below W.heap.size W w2 := bt B1 hb2
    by_cases hn2 : szBk d l1 < 0
    · go_wp2
      go_ret
      exact ⟨rfl, bt HW.out.1 B2⟩
    · have HOKd : Hid (okB d) := szBk_bd (left := l1) (by omega) (Int.not_lt.1 hn2)
      have hge2 := Int.not_lt.1 hn2
      have hle2 : szBk d l1 ≤ 1048576 := by have := szBk_le (b := d) (left := l1) (by omega); omega
      obtain ⟨l2, hl2⟩ : ∃ l2, l2 = szBk d l1 := ⟨_, rfl⟩
      rw [← hl2] at hn2 hle2 hge2 ⊢
      have HL2 : Hid (l2 = szBk d l1) := hl2
      clear hl2 hb2
      have HCb : Hid (∀ w', Below W.heap.size W w' → Calls Try.prog 34 #[.agg #[.int .i64 b.1.1, .int .i64 b.1.2, .slice ab b.2.1.length pb, .int .i64 b.2.2.1, .int .i64 b.2.2.2.1, .int .i64 b.2.2.2.2.1, .int .i64 b.2.2.2.2.2]] w' fun e w'' => ∃ cv', e = .returned (blkV b cv') ∧ w''.ownsRow w'.heap.size 95 3 cv' b.2.1.length (flatR cmdF b.2.1) ∧ Below w'.heap.size w' w'') := fun w' h' => toBlock_any b _ w' (HBb.out.below h') HOKb.out.1
      have HCd : Hid (∀ w', Below W.heap.size W w' → Calls Try.prog 34 #[.agg #[.int .i64 d.1.1, .int .i64 d.1.2, .slice ad d.2.1.length pd, .int .i64 d.2.2.1, .int .i64 d.2.2.2.1, .int .i64 d.2.2.2.2.1, .int .i64 d.2.2.2.2.2]] w' fun e w'' => ∃ cv', e = .returned (blkV d cv') ∧ w''.ownsRow w'.heap.size 95 3 cv' d.2.1.length (flatR cmdF d.2.1) ∧ Below w'.heap.size w' w'') := fun w' h' => toBlock_any d _ w' (HBd.out.below h') HOKd.out.1
      obtain ⟨kb0, kb1, kb2, kb3, kb4, kb5, kb6⟩ := HKb.out w2 B2
      obtain ⟨kd0, kd1, kd2, kd3, kd4, kd5, kd6⟩ := HKd.out w2 B2
      go_wp2
      go_region_held3 (fun w' => w'.cell? ⟨w.heap.size, 0, none⟩ = some (.int .i64 b.1.1) ∧ w'.cell? ⟨w.heap.size, 1, none⟩ = some (.int .i64 b.1.2) ∧ w'.cell? ⟨w.heap.size, 2, none⟩ = some (.slice ab b.2.1.length pb) ∧ w'.cell? ⟨w.heap.size, 3, none⟩ = some (.int .i64 b.2.2.1) ∧ w'.cell? ⟨w.heap.size, 4, none⟩ = some (.int .i64 b.2.2.2.1) ∧ w'.cell? ⟨w.heap.size, 5, none⟩ = some (.int .i64 b.2.2.2.2.1) ∧ w'.cell? ⟨w.heap.size, 6, none⟩ = some (.int .i64 b.2.2.2.2.2) ∧ w'.cell? ⟨w.heap.size + 1, 0, none⟩ = some (.int .i64 d.1.1) ∧ w'.cell? ⟨w.heap.size + 1, 1, none⟩ = some (.int .i64 d.1.2) ∧ w'.cell? ⟨w.heap.size + 1, 2, none⟩ = some (.slice ad d.2.1.length pd) ∧ w'.cell? ⟨w.heap.size + 1, 3, none⟩ = some (.int .i64 d.2.2.1) ∧ w'.cell? ⟨w.heap.size + 1, 4, none⟩ = some (.int .i64 d.2.2.2.1) ∧ w'.cell? ⟨w.heap.size + 1, 5, none⟩ = some (.int .i64 d.2.2.2.2.1) ∧ w'.cell? ⟨w.heap.size + 1, 6, none⟩ = some (.int .i64 d.2.2.2.2.2)) (first | exact (by obtain ⟨x0, x1, x2, x3, x4, x5, x6⟩ := HKb.out _ B2.drew; obtain ⟨y0, y1, y2, y3, y4, y5, y6⟩ := HKd.out _ B2.drew; exact ⟨x0, x1, x2, x3, x4, x5, x6, y0, y1, y2, y3, y4, y5, y6⟩) | exact (by obtain ⟨x0, x1, x2, x3, x4, x5, x6⟩ := HKb.out _ B3; obtain ⟨y0, y1, y2, y3, y4, y5, y6⟩ := HKd.out _ B3; exact ⟨x0, x1, x2, x3, x4, x5, x6, y0, y1, y2, y3, y4, y5, y6⟩) | exact (by obtain ⟨x0, x1, x2, x3, x4, x5, x6⟩ := HKb.out _ B4; obtain ⟨y0, y1, y2, y3, y4, y5, y6⟩ := HKd.out _ B4; exact ⟨x0, x1, x2, x3, x4, x5, x6, y0, y1, y2, y3, y4, y5, y6⟩) | exact (by obtain ⟨x0, x1, x2, x3, x4, x5, x6⟩ := HKb.out _ B5; obtain ⟨y0, y1, y2, y3, y4, y5, y6⟩ := HKd.out _ B5; exact ⟨x0, x1, x2, x3, x4, x5, x6, y0, y1, y2, y3, y4, y5, y6⟩)) (first
        | (go_at_call 34; have hbi := B3; clear hbi; refine Calls.mono (HCd.out _ B3) ?_; rintro e w4 ⟨cda, rfl, hown, hb4⟩; obtain ⟨ada, pda, rfl, _⟩ := own_form hown; have HOad : Hid (w4.ownsRow _ 95 3 (.slice ada d.2.1.length pda) d.2.1.length (flatR cmdF d.2.1)) := hown; have HB4 : Hid (Below _ _ w4) := hb4; have B4 : Below W.heap.size W w4 := bt B3 hb4; clear hown hb4; unfold blkV)
        | (go_at_call 34; have hbi := B2.drew; clear hbi; refine Calls.mono (HCb.out _ (B2.drew)) ?_; rintro e w3 ⟨cba, rfl, hown, hb3⟩; obtain ⟨aba, pba, rfl, _⟩ := own_form hown; have HOab : Hid (w3.ownsRow _ 95 3 (.slice aba b.2.1.length pba) b.2.1.length (flatR cmdF b.2.1)) := hown; have HB3 : Hid (Below _ _ w3) := hb3; have B3 : Below W.heap.size W w3 := bt B2.drew hb3; clear hown hb3; unfold blkV)
        | (go_at_call 38; have hsp := same_s b d (.slice aba b.2.1.length pba) (.slice ada d.2.1.length pda) _ ((rows_of_own cmdF_len HOab.out).below HB4.out) (rows_of_own cmdF_len HOad.out) HOKb.out.1 HOKd.out.1; refine hsp.mono ?_; clear hsp; rintro e w5 ⟨rfl, hb5⟩; have HB5 : Hid (Below _ _ w5) := hb5; have B5 : Below W.heap.size W w5 := bt B4 hb5; clear hb5))
      clear kb0 kb1 kb2 kb3 kb4 kb5 kb6
      clear kd0 kd1 kd2 kd3 kd4 kd5 kd6
      obtain ⟨kb0, kb1, kb2, kb3, kb4, kb5, kb6⟩ := HKb.out w5 B5
      go_wp2_with fail
      refine Calls.mono (HCb.out _ B5) ?_
      rintro e w6 ⟨cbx, rfl, hown, hb6⟩
      obtain ⟨abx, pbx, rfl, _⟩ := own_form hown
      have HOxb : Hid (w6.ownsRow _ 95 3 (.slice abx b.2.1.length pbx) b.2.1.length (flatR cmdF b.2.1)) := hown
      have HB6 : Hid (Below _ _ w6) := hb6
      have B6 : Below W.heap.size W w6 := bt B5 hb6
      clear hown hb6
      unfold blkV
      clear kb0 kb1 kb2 kb3 kb4 kb5 kb6
      obtain ⟨w7, hw7⟩ : ∃ w7, w7 = w6.alloc (Obj.cells (blkA b (.slice abx b.2.1.length pbx)) 40) := ⟨_, rfl⟩
      have HB7 : Hid (Below w6.heap.size w6 w7) := (by rw [hw7]; exact ba (Below.refl _ _) _ : Below w6.heap.size w6 w7)
      have B7 : Below W.heap.size W w7 := bt B6 HB7.out
      have HXb : Hid (∀ w', Below w7.heap.size w7 w' → w'.cell? ⟨w6.heap.size, 0, none⟩ = some (.int .i64 b.1.1) ∧ w'.cell? ⟨w6.heap.size, 1, none⟩ = some (.int .i64 b.1.2) ∧ w'.cell? ⟨w6.heap.size, 2, none⟩ = some (.slice abx b.2.1.length pbx) ∧ w'.cell? ⟨w6.heap.size, 3, none⟩ = some (.int .i64 b.2.2.1) ∧ w'.cell? ⟨w6.heap.size, 4, none⟩ = some (.int .i64 b.2.2.2.1) ∧ w'.cell? ⟨w6.heap.size, 5, none⟩ = some (.int .i64 b.2.2.2.2.1) ∧ w'.cell? ⟨w6.heap.size, 6, none⟩ = some (.int .i64 b.2.2.2.2.2)) := fun w' h' => blk_cells ((h'.block _ (by rw [hw7]; simp)).trans (by rw [hw7]; exact heap_alloc_new w6 _))
      obtain ⟨hd0, hd1, hd2, hd3, hd4, hd5, hd6⟩ := HKd.out w7 B7
      rw [hw7] at hd0 hd1 hd2 hd3 hd4 hd5 hd6
      go_wp2_with fail
      rw [← hw7]
      clear hw7
      clear hd0 hd1 hd2 hd3 hd4 hd5 hd6
      refine Calls.mono (HCd.out _ B7) ?_
      rintro e w8 ⟨cdx, rfl, hown, hb8⟩
      obtain ⟨adx, pdx, rfl, _⟩ := own_form hown
      have HOxd : Hid (w8.ownsRow _ 95 3 (.slice adx d.2.1.length pdx) d.2.1.length (flatR cmdF d.2.1)) := hown
      have HB8 : Hid (Below _ _ w8) := hb8
      have B8 : Below W.heap.size W w8 := bt B7 hb8
      clear hown hb8
      unfold blkV
      obtain ⟨w9, hw9⟩ : ∃ w9, w9 = w8.alloc (Obj.cells (blkA d (.slice adx d.2.1.length pdx)) 40) := ⟨_, rfl⟩
      have HB9 : Hid (Below w8.heap.size w8 w9) := (by rw [hw9]; exact ba (Below.refl _ _) _ : Below w8.heap.size w8 w9)
      have B9 : Below W.heap.size W w9 := bt B8 HB9.out
      have HXd : Hid (∀ w', Below w9.heap.size w9 w' → w'.cell? ⟨w8.heap.size, 0, none⟩ = some (.int .i64 d.1.1) ∧ w'.cell? ⟨w8.heap.size, 1, none⟩ = some (.int .i64 d.1.2) ∧ w'.cell? ⟨w8.heap.size, 2, none⟩ = some (.slice adx d.2.1.length pdx) ∧ w'.cell? ⟨w8.heap.size, 3, none⟩ = some (.int .i64 d.2.2.1) ∧ w'.cell? ⟨w8.heap.size, 4, none⟩ = some (.int .i64 d.2.2.2.1) ∧ w'.cell? ⟨w8.heap.size, 5, none⟩ = some (.int .i64 d.2.2.2.2.1) ∧ w'.cell? ⟨w8.heap.size, 6, none⟩ = some (.int .i64 d.2.2.2.2.2)) := fun w' h' => blk_cells ((h'.block _ (by rw [hw9]; simp)).trans (by rw [hw9]; exact heap_alloc_new w8 _))
      obtain ⟨zb0, zb1, zb2, zb3, zb4, zb5, zb6⟩ := HXb.out _ (bt HB8.out HB9.out)
      rw [hw9] at zb0 zb1 zb2 zb3 zb4 zb5 zb6
      go_wp2_with fail
      rw [← hw9]
      clear hw9
      clear zb0 zb1 zb2 zb3 zb4 zb5 zb6
      have himp := HI.out b d (.slice abx b.2.1.length pbx) (.slice adx d.2.1.length pdx) _ ((rows_of_own cmdF_len HOxb.out).below (bt (bt HB7.out HB8.out) HB9.out)) ((rows_of_own cmdF_len HOxd.out).below HB9.out) HOKb.out HOKd.out
      refine himp.mono ?_
      clear himp
      rintro e w10 ⟨rfl, hb10⟩
      have HB10 : Hid (Below _ _ w10) := hb10
      have B10 : Below W.heap.size W w10 := bt B9 hb10
      clear hb10
      obtain ⟨r, hr⟩ : ∃ r, r = decide (b = d) := ⟨_, rfl⟩
      rw [← hr]
      clear hr
      cases r
      all_goals
        obtain ⟨xb0, xb1, xb2, xb3, xb4, xb5, xb6⟩ := HXb.out _ (bt (bt HB8.out HB9.out) HB10.out)
        obtain ⟨kb0, kb1, kb2, kb3, kb4, kb5, kb6⟩ := HKb.out w10 B10
        go_wp2
        go_region_held3 (fun w' => w'.cell? ⟨w6.heap.size, 0, none⟩ = some (.int .i64 b.1.1) ∧ w'.cell? ⟨w6.heap.size, 1, none⟩ = some (.int .i64 b.1.2) ∧ w'.cell? ⟨w6.heap.size, 2, none⟩ = some (.slice abx b.2.1.length pbx) ∧ w'.cell? ⟨w6.heap.size, 3, none⟩ = some (.int .i64 b.2.2.1) ∧ w'.cell? ⟨w6.heap.size, 4, none⟩ = some (.int .i64 b.2.2.2.1) ∧ w'.cell? ⟨w6.heap.size, 5, none⟩ = some (.int .i64 b.2.2.2.2.1) ∧ w'.cell? ⟨w6.heap.size, 6, none⟩ = some (.int .i64 b.2.2.2.2.2) ∧ w'.cell? ⟨w.heap.size, 0, none⟩ = some (.int .i64 b.1.1) ∧ w'.cell? ⟨w.heap.size, 1, none⟩ = some (.int .i64 b.1.2) ∧ w'.cell? ⟨w.heap.size, 2, none⟩ = some (.slice ab b.2.1.length pb) ∧ w'.cell? ⟨w.heap.size, 3, none⟩ = some (.int .i64 b.2.2.1) ∧ w'.cell? ⟨w.heap.size, 4, none⟩ = some (.int .i64 b.2.2.2.1) ∧ w'.cell? ⟨w.heap.size, 5, none⟩ = some (.int .i64 b.2.2.2.2.1) ∧ w'.cell? ⟨w.heap.size, 6, none⟩ = some (.int .i64 b.2.2.2.2.2)) (first | exact (by obtain ⟨x0, x1, x2, x3, x4, x5, x6⟩ := HXb.out _ (bt (bt HB8.out HB9.out) HB10.out).drew; obtain ⟨y0, y1, y2, y3, y4, y5, y6⟩ := HKb.out _ B10.drew; exact ⟨x0, x1, x2, x3, x4, x5, x6, y0, y1, y2, y3, y4, y5, y6⟩) | exact (by obtain ⟨x0, x1, x2, x3, x4, x5, x6⟩ := HXb.out _ (bt (bt (bt HB8.out HB9.out) HB10.out).drew HB11.out); obtain ⟨y0, y1, y2, y3, y4, y5, y6⟩ := HKb.out _ B11; exact ⟨x0, x1, x2, x3, x4, x5, x6, y0, y1, y2, y3, y4, y5, y6⟩) | exact (by obtain ⟨x0, x1, x2, x3, x4, x5, x6⟩ := HXb.out _ (bt (bt (bt HB8.out HB9.out) HB10.out) HD12.out); obtain ⟨y0, y1, y2, y3, y4, y5, y6⟩ := HKb.out _ B12; exact ⟨x0, x1, x2, x3, x4, x5, x6, y0, y1, y2, y3, y4, y5, y6⟩)) (first
          | (go_at_call 34; refine Calls.mono (HCb.out _ (B10.drew)) ?_; rintro e w11 ⟨cby, rfl, hown, hb11⟩; obtain ⟨aby, pby, rfl, _⟩ := own_form hown; have HOyb : Hid (w11.ownsRow _ 95 3 (.slice aby b.2.1.length pby) b.2.1.length (flatR cmdF b.2.1)) := hown; have HB11 : Hid (Below _ _ w11) := hb11; have B11 : Below W.heap.size W w11 := bt B10.drew hb11; clear hown hb11; unfold blkV)
          | (go_at_call 22; refine (eqBlock_yes b (.slice abx b.2.1.length pbx) (.slice aby b.2.1.length pby) _ ((rows_of_own cmdF_len HOxb.out).below (bt (bt (bt (bt HB7.out HB8.out) HB9.out) HB10.out).drew HB11.out)) (rows_of_own cmdF_len HOyb.out) HOKb.out.1).mono ?_; rintro e w12 ⟨rfl, hb12⟩; have HB12 : Hid (Below _ _ w12) := hb12; have B12 : Below W.heap.size W w12 := bt B11 hb12; have HD12 : Hid (Below w10.heap.size w10 w12) := bt (Below.refl _ w10).drew (bt HB11.out hb12); clear hb12))
        clear kb0 kb1 kb2 kb3 kb4 kb5 kb6
        clear xb0 xb1 xb2 xb3 xb4 xb5 xb6
        obtain ⟨xd0, xd1, xd2, xd3, xd4, xd5, xd6⟩ := HXd.out _ (bt HB10.out HD12.out)
        obtain ⟨kd0, kd1, kd2, kd3, kd4, kd5, kd6⟩ := HKd.out w12 B12
        go_wp2
        go_region_held3 (fun w' => w'.cell? ⟨w8.heap.size, 0, none⟩ = some (.int .i64 d.1.1) ∧ w'.cell? ⟨w8.heap.size, 1, none⟩ = some (.int .i64 d.1.2) ∧ w'.cell? ⟨w8.heap.size, 2, none⟩ = some (.slice adx d.2.1.length pdx) ∧ w'.cell? ⟨w8.heap.size, 3, none⟩ = some (.int .i64 d.2.2.1) ∧ w'.cell? ⟨w8.heap.size, 4, none⟩ = some (.int .i64 d.2.2.2.1) ∧ w'.cell? ⟨w8.heap.size, 5, none⟩ = some (.int .i64 d.2.2.2.2.1) ∧ w'.cell? ⟨w8.heap.size, 6, none⟩ = some (.int .i64 d.2.2.2.2.2) ∧ w'.cell? ⟨w.heap.size + 1, 0, none⟩ = some (.int .i64 d.1.1) ∧ w'.cell? ⟨w.heap.size + 1, 1, none⟩ = some (.int .i64 d.1.2) ∧ w'.cell? ⟨w.heap.size + 1, 2, none⟩ = some (.slice ad d.2.1.length pd) ∧ w'.cell? ⟨w.heap.size + 1, 3, none⟩ = some (.int .i64 d.2.2.1) ∧ w'.cell? ⟨w.heap.size + 1, 4, none⟩ = some (.int .i64 d.2.2.2.1) ∧ w'.cell? ⟨w.heap.size + 1, 5, none⟩ = some (.int .i64 d.2.2.2.2.1) ∧ w'.cell? ⟨w.heap.size + 1, 6, none⟩ = some (.int .i64 d.2.2.2.2.2)) (first | exact (by obtain ⟨x0, x1, x2, x3, x4, x5, x6⟩ := HXd.out _ (bt HB10.out HD12.out).drew; obtain ⟨y0, y1, y2, y3, y4, y5, y6⟩ := HKd.out _ B12.drew; exact ⟨x0, x1, x2, x3, x4, x5, x6, y0, y1, y2, y3, y4, y5, y6⟩) | exact (by obtain ⟨x0, x1, x2, x3, x4, x5, x6⟩ := HXd.out _ (bt (bt HB10.out HD12.out).drew HB13.out); obtain ⟨y0, y1, y2, y3, y4, y5, y6⟩ := HKd.out _ B13; exact ⟨x0, x1, x2, x3, x4, x5, x6, y0, y1, y2, y3, y4, y5, y6⟩) | exact (by obtain ⟨x0, x1, x2, x3, x4, x5, x6⟩ := HXd.out _ (bt (bt HB10.out HD12.out) HD14.out); obtain ⟨y0, y1, y2, y3, y4, y5, y6⟩ := HKd.out _ B14; exact ⟨x0, x1, x2, x3, x4, x5, x6, y0, y1, y2, y3, y4, y5, y6⟩)) (first
          | (go_at_call 34; refine Calls.mono (HCd.out _ (B12.drew)) ?_; rintro e w13 ⟨cdy, rfl, hown, hb13⟩; obtain ⟨ady, pdy, rfl, _⟩ := own_form hown; have HOyd : Hid (w13.ownsRow _ 95 3 (.slice ady d.2.1.length pdy) d.2.1.length (flatR cmdF d.2.1)) := hown; have HB13 : Hid (Below _ _ w13) := hb13; have B13 : Below W.heap.size W w13 := bt B12.drew hb13; clear hown hb13; unfold blkV)
          | (go_at_call 22; refine (eqBlock_yes d (.slice adx d.2.1.length pdx) (.slice ady d.2.1.length pdy) _ ((rows_of_own cmdF_len HOxd.out).below (bt (bt (bt HB9.out HB10.out) HD12.out).drew HB13.out)) (rows_of_own cmdF_len HOyd.out) HOKd.out.1).mono ?_; rintro e w14 ⟨rfl, hb14⟩; have HB14 : Hid (Below _ _ w14) := hb14; have B14 : Below W.heap.size W w14 := bt B13 hb14; have HD14 : Hid (Below w12.heap.size w12 w14) := bt (Below.refl _ w12).drew (bt HB13.out hb14); clear hb14))
        clear kd0 kd1 kd2 kd3 kd4 kd5 kd6
        clear xd0 xd1 xd2 xd3 xd4 xd5 xd6
        go_wp2
        go_ret
        exact ⟨rfl, bt HW.out.1 B14⟩

theorem walk (w : World) (b : BK) (cb : Value) (hb : goodBlk w (b, cb)) (d : BK) (cd : Value) (hd : goodBlk w (d, cd)) :
    Calls Try.prog 8 #[blkV b cb, blkV d cd] w fun e w' => e = .returned (.bool true) ∧ Below w.heap.size w w' :=
  walk_of same_i w b cb hb d cd hd

end Go.Proofs.Ytnghhfgbobpnkak.WFnExactSameBlock
