/-
  The walk of the law FnExactBlockOk: the specification's answer and the program's are the same; what came in is as it was.
-/
import Derived.Test.YtnghhfgbobpnkakBlkE
import Derived.Test.YtnghhfgbobpnkakBlkOpen
import Derived.Test.YtnghhfgbobpnkakBlockS2
import Derived.Deep.RegionHeld3
import Derived.Test.YtnghhfgbobpnkakBlockI
namespace Go.Proofs.Ytnghhfgbobpnkak.WFnExactBlockOk
open Go.RowKit Num

set_option maxRecDepth 100000 in
set_option maxHeartbeats 8000000 in
theorem walk_of (HI : ∀ (ps : TL) (v : Value) (b : BK) (cb : Value) (w : World) (_ : TreeR w v ps) (_ : RowsR w cb 3 cmdF b.2.1) (_ : okT (bks ps)) (_ : okB b), Calls Try.prog 35 #[v, blkV b cb] w fun e w' => e = .returned (.bool (blockB (bks ps) b)) ∧ Below w.heap.size w w') (w : World) (v : Value) (ps : TL) (hT : TreeQ w v ps) (hl : ps.length ≤ maxLen) (hs : ∀ p ∈ ps, goodBk p.1 ∧ wfB p.1) (b : BK) (cb : Value) (hb : goodBlk w (b, cb)) :
    Calls Try.prog 6 #[v, blkV b cb] w fun e w' => e = .returned (.bool true) ∧ Below w.heap.size w w' := by
  have HI : Hid (∀ (ps : TL) (v : Value) (b : BK) (cb : Value) (w : World) (_ : TreeR w v ps) (_ : RowsR w cb 3 cmdF b.2.1) (_ : okT (bks ps)) (_ : okB b), Calls Try.prog 35 #[v, blkV b cb] w fun e w' => e = .returned (.bool (blockB (bks ps) b)) ∧ Below w.heap.size w w') := HI
  have HT0 : Hid (TreeQ w v ps) := hT
  have HS : Hid (∀ p ∈ ps, goodBk p.1 ∧ wfB p.1) := hs
  have hbl := bks_len ps
  clear hT hs
  have HB0b : Hid (goodBlk w (b, cb)) := hb
  obtain ⟨ab, pb, eb⟩ := rows_form hb.1
  simp only at eb
  subst eb
  clear hb
  unfold blkV
  obtain ⟨W, hW⟩ : ∃ W, W = (w.alloc (Obj.cells (blkA b (.slice ab b.2.1.length pb)) 53)) := ⟨_, rfl⟩
  have HW : Hid (Below w.heap.size w W ∧ W.heap.size = w.heap.size + 1 ∧ W.heap[w.heap.size]? = some (.cells (blkA b (.slice ab b.2.1.length pb)) 53 (0, 0))) := by
    rw [hW]
    exact ⟨ba (Below.refl _ _) _, by simp, heap_alloc_new w _⟩
  have hWs := HW.out.2.1
  have HT : Hid (TreeQ W v ps) := HT0.out.below HW.out.1
  have HKb : Hid (∀ w', Below W.heap.size W w' → w'.cell? ⟨w.heap.size, 0, none⟩ = some (.int .i64 b.1.1) ∧ w'.cell? ⟨w.heap.size, 1, none⟩ = some (.int .i64 b.1.2) ∧ w'.cell? ⟨w.heap.size, 2, none⟩ = some (.slice ab b.2.1.length pb) ∧ w'.cell? ⟨w.heap.size, 3, none⟩ = some (.int .i64 b.2.2.1) ∧ w'.cell? ⟨w.heap.size, 4, none⟩ = some (.int .i64 b.2.2.2.1) ∧ w'.cell? ⟨w.heap.size, 5, none⟩ = some (.int .i64 b.2.2.2.2.1) ∧ w'.cell? ⟨w.heap.size, 6, none⟩ = some (.int .i64 b.2.2.2.2.2)) := fun w' h' => blk_cells ((h'.block _ (by omega)).trans HW.out.2.2)
  have HBb : Hid (RowsR W (.slice ab b.2.1.length pb) 3 cmdF b.2.1) := HB0b.out.1.below HW.out.1
  go_enter Try.func6, Try.ntmps6
  go_wp2_with fail
  rw [← hW]
  clear hW
  refine (szBlocks_any ps v 1048576 W (by decide) (by decide) HT.out (by unfold maxLen at hl; omega) (fun p hp => (HS.out p hp).1)).mono ?_
  rintro e w1 ⟨rfl, B1⟩
  by_cases hn0 : szBlocksC (bks ps) 1048576 < 0
  · go_wp2
    go_ret
    exact ⟨rfl, bt HW.out.1 B1⟩
  · have hbd := szBlocks_bd (t := bks ps) (Int.le_refl _) (Int.not_lt.1 hn0)
    have HOK : Hid (okT (bks ps)) := hbd.1
    have hle0 := hbd.2
    have hge0 := Int.not_lt.1 hn0
    have hpl : (ps.length : Int) ≤ 1048576 := by have := hbd.1.1; rw [hbl] at this; exact this
    clear hbd
    obtain ⟨l0, hl0⟩ : ∃ l0, l0 = szBlocksC (bks ps) 1048576 := ⟨_, rfl⟩
    rw [← hl0] at hn0 hle0 hge0 ⊢
    have HL0 : Hid (l0 = szBlocksC (bks ps) 1048576) := hl0
    clear hl0
    obtain ⟨kb0, kb1, kb2, kb3, kb4, kb5, kb6⟩ := HKb.out w1 B1
    go_wp2_with fail
    refine (szBlock_any b (.slice ab b.2.1.length pb) l0 w1 hge0 hle0 (HBb.out.below B1) HB0b.out.2.1).mono ?_
    clear kb0 kb1 kb2 kb3 kb4 kb5 kb6
    rintro e w2 ⟨rfl, hb2⟩
    have B2 : Below W.heap.size W w2 := bt B1 hb2
    by_cases hn2 : szBk b l0 < 0
    · go_wp2
      go_ret
      exact ⟨rfl, bt HW.out.1 B2⟩
    · have HOKb : Hid (okB b) := szBk_bd (left := l0) (by omega) (Int.not_lt.1 hn2)
      have hge2 := Int.not_lt.1 hn2
      have hle2 : szBk b l0 ≤ 1048576 := by have := szBk_le (b := b) (left := l0) (by omega); omega
      obtain ⟨l2, hl2⟩ : ∃ l2, l2 = szBk b l0 := ⟨_, rfl⟩
      rw [← hl2] at hn2 hle2 hge2 ⊢
      have HL2 : Hid (l2 = szBk b l0) := hl2
      clear hl2 hb2
      have HCb : Hid (∀ w', Below W.heap.size W w' → Calls Try.prog 34 #[.agg #[.int .i64 b.1.1, .int .i64 b.1.2, .slice ab b.2.1.length pb, .int .i64 b.2.2.1, .int .i64 b.2.2.2.1, .int .i64 b.2.2.2.2.1, .int .i64 b.2.2.2.2.2]] w' fun e w'' => ∃ cv', e = .returned (blkV b cv') ∧ w''.ownsRow w'.heap.size 95 3 cv' b.2.1.length (flatR cmdF b.2.1) ∧ Below w'.heap.size w' w'') := fun w' h' => toBlock_any b _ w' (HBb.out.below h') HOKb.out.1
      obtain ⟨kb0, kb1, kb2, kb3, kb4, kb5, kb6⟩ := HKb.out w2 B2
      go_wp2
      go_region_held3 (fun w' => w'.cell? ⟨w.heap.size, 0, none⟩ = some (.int .i64 b.1.1) ∧ w'.cell? ⟨w.heap.size, 1, none⟩ = some (.int .i64 b.1.2) ∧ w'.cell? ⟨w.heap.size, 2, none⟩ = some (.slice ab b.2.1.length pb) ∧ w'.cell? ⟨w.heap.size, 3, none⟩ = some (.int .i64 b.2.2.1) ∧ w'.cell? ⟨w.heap.size, 4, none⟩ = some (.int .i64 b.2.2.2.1) ∧ w'.cell? ⟨w.heap.size, 5, none⟩ = some (.int .i64 b.2.2.2.2.1) ∧ w'.cell? ⟨w.heap.size, 6, none⟩ = some (.int .i64 b.2.2.2.2.2)) (first | exact HKb.out _ B2.drew | exact HKb.out _ B3 | exact HKb.out _ B4 | exact HKb.out _ B5) (first
        | (go_at_call 34; have hbi := B3; clear hbi; refine Calls.mono (HCb.out _ B3) ?_; rintro e w4 ⟨cba, rfl, hown, hb4⟩; obtain ⟨aba, pba, rfl, _⟩ := own_form hown; have HOab : Hid (w4.ownsRow _ 95 3 (.slice aba b.2.1.length pba) b.2.1.length (flatR cmdF b.2.1)) := hown; have HB4 : Hid (Below _ _ w4) := hb4; have B4 : Below W.heap.size W w4 := bt B3 hb4; clear hown hb4; unfold blkV)
        | (go_at_call 33; refine (toBlocks_any ps v _ (HT.out.below B2.drew) HOK.out).mono ?_; rintro e w3 ⟨va, qa, rfl, hqa, hown, hb3⟩; have HQa : Hid (bks qa = bks ps) := hqa; have HOa : Hid (OwnT w3 _ va qa) := hown; have HB3 : Hid (Below _ _ w3) := hb3; have B3 : Below W.heap.size W w3 := bt B2.drew hb3; clear hqa hown hb3)
        | (go_at_call 32; have hsp := blockOk_s qa va b (.slice aba b.2.1.length pba) _ (HOa.out.read.below HB4.out) (rows_of_own cmdF_len HOab.out) (by rw [← bks_len, HQa.out, hbl]; exact hpl) HOKb.out; rw [HQa.out] at hsp; refine hsp.mono ?_; clear hsp; rintro e w5 ⟨rfl, hb5⟩; have HB5 : Hid (Below _ _ w5) := hb5; have B5 : Below W.heap.size W w5 := bt B4 hb5; clear hb5))
      clear kb0 kb1 kb2 kb3 kb4 kb5 kb6
      go_wp2_with fail
      refine (toBlocks_any ps v _ (HT.out.below B5) HOK.out).mono ?_
      rintro e w6 ⟨vx, qx, rfl, hqx, hown, hb6⟩
      have HQx : Hid (bks qx = bks ps) := hqx
      have HOx : Hid (OwnT w6 _ vx qx) := hown
      have HB6 : Hid (Below _ _ w6) := hb6
      have B6 : Below W.heap.size W w6 := bt B5 hb6
      clear hqx hown hb6
      obtain ⟨kb0, kb1, kb2, kb3, kb4, kb5, kb6⟩ := HKb.out w6 B6
      go_wp2_with fail
      refine Calls.mono (HCb.out _ B6) ?_
      rintro e w7 ⟨cbx, rfl, hown, hb7⟩
      obtain ⟨abx, pbx, rfl, _⟩ := own_form hown
      have HOxb : Hid (w7.ownsRow _ 95 3 (.slice abx b.2.1.length pbx) b.2.1.length (flatR cmdF b.2.1)) := hown
      have HB7 : Hid (Below _ _ w7) := hb7
      have B7 : Below W.heap.size W w7 := bt B6 hb7
      clear hown hb7
      unfold blkV
      clear kb0 kb1 kb2 kb3 kb4 kb5 kb6
      obtain ⟨w8, hw8⟩ : ∃ w8, w8 = w7.alloc (Obj.cells (blkA b (.slice abx b.2.1.length pbx)) 40) := ⟨_, rfl⟩
      have HB8 : Hid (Below w7.heap.size w7 w8) := (by rw [hw8]; exact ba (Below.refl _ _) _ : Below w7.heap.size w7 w8)
      have B8 : Below W.heap.size W w8 := bt B7 HB8.out
      have HXb : Hid (∀ w', Below w8.heap.size w8 w' → w'.cell? ⟨w7.heap.size, 0, none⟩ = some (.int .i64 b.1.1) ∧ w'.cell? ⟨w7.heap.size, 1, none⟩ = some (.int .i64 b.1.2) ∧ w'.cell? ⟨w7.heap.size, 2, none⟩ = some (.slice abx b.2.1.length pbx) ∧ w'.cell? ⟨w7.heap.size, 3, none⟩ = some (.int .i64 b.2.2.1) ∧ w'.cell? ⟨w7.heap.size, 4, none⟩ = some (.int .i64 b.2.2.2.1) ∧ w'.cell? ⟨w7.heap.size, 5, none⟩ = some (.int .i64 b.2.2.2.2.1) ∧ w'.cell? ⟨w7.heap.size, 6, none⟩ = some (.int .i64 b.2.2.2.2.2)) := fun w' h' => blk_cells ((h'.block _ (by rw [hw8]; simp)).trans (by rw [hw8]; exact heap_alloc_new w7 _))
      go_wp2_with fail
      rw [← hw8]
      clear hw8
      have himp := HI.out qx vx b (.slice abx b.2.1.length pbx) _ (HOx.out.read.below (bt HB7.out HB8.out)) ((rows_of_own cmdF_len HOxb.out).below HB8.out) (by rw [HQx.out]; exact HOK.out) HOKb.out
      rw [HQx.out] at himp
      refine himp.mono ?_
      clear himp
      rintro e w9 ⟨rfl, hb9⟩
      have HB9 : Hid (Below _ _ w9) := hb9
      have B9 : Below W.heap.size W w9 := bt B8 hb9
      clear hb9
      obtain ⟨r, hr⟩ : ∃ r, r = blockB (bks ps) b := ⟨_, rfl⟩
      rw [← hr]
      clear hr
      cases r
      all_goals
        go_wp2_with fail
        refine (toBlocks_any ps v _ (HT.out.below B9) HOK.out).mono ?_
        rintro e w10 ⟨vy, qy, rfl, hqy, hown, hb10⟩
        have HQy : Hid (bks qy = bks ps) := hqy
        have HOy : Hid (OwnT w10 _ vy qy) := hown
        have HB10 : Hid (Below _ _ w10) := hb10
        have B10 : Below W.heap.size W w10 := bt B9 hb10
        clear hqy hown hb10
        go_wp2_with fail
        refine (eqBlocks_yes qx qy vx vy _ (HOx.out.read.below (bt (bt (bt HB7.out HB8.out) HB9.out) HB10.out)).q HOy.out.read.q (by rw [HQx.out, HQy.out]) (by rw [HQx.out]; exact HOK.out)).mono ?_
        rintro e w11 ⟨rfl, hb11⟩
        have HB11 : Hid (Below _ _ w11) := hb11
        have B11 : Below W.heap.size W w11 := bt B10 hb11
        clear hb11
        obtain ⟨xb0, xb1, xb2, xb3, xb4, xb5, xb6⟩ := HXb.out _ (bt (bt HB9.out HB10.out) HB11.out)
        obtain ⟨kb0, kb1, kb2, kb3, kb4, kb5, kb6⟩ := HKb.out w11 B11
        go_wp2
        go_region_held3 (fun w' => w'.cell? ⟨w7.heap.size, 0, none⟩ = some (.int .i64 b.1.1) ∧ w'.cell? ⟨w7.heap.size, 1, none⟩ = some (.int .i64 b.1.2) ∧ w'.cell? ⟨w7.heap.size, 2, none⟩ = some (.slice abx b.2.1.length pbx) ∧ w'.cell? ⟨w7.heap.size, 3, none⟩ = some (.int .i64 b.2.2.1) ∧ w'.cell? ⟨w7.heap.size, 4, none⟩ = some (.int .i64 b.2.2.2.1) ∧ w'.cell? ⟨w7.heap.size, 5, none⟩ = some (.int .i64 b.2.2.2.2.1) ∧ w'.cell? ⟨w7.heap.size, 6, none⟩ = some (.int .i64 b.2.2.2.2.2) ∧ w'.cell? ⟨w.heap.size, 0, none⟩ = some (.int .i64 b.1.1) ∧ w'.cell? ⟨w.heap.size, 1, none⟩ = some (.int .i64 b.1.2) ∧ w'.cell? ⟨w.heap.size, 2, none⟩ = some (.slice ab b.2.1.length pb) ∧ w'.cell? ⟨w.heap.size, 3, none⟩ = some (.int .i64 b.2.2.1) ∧ w'.cell? ⟨w.heap.size, 4, none⟩ = some (.int .i64 b.2.2.2.1) ∧ w'.cell? ⟨w.heap.size, 5, none⟩ = some (.int .i64 b.2.2.2.2.1) ∧ w'.cell? ⟨w.heap.size, 6, none⟩ = some (.int .i64 b.2.2.2.2.2)) (first | exact (by obtain ⟨x0, x1, x2, x3, x4, x5, x6⟩ := HXb.out _ (bt (bt HB9.out HB10.out) HB11.out).drew; obtain ⟨y0, y1, y2, y3, y4, y5, y6⟩ := HKb.out _ B11.drew; exact ⟨x0, x1, x2, x3, x4, x5, x6, y0, y1, y2, y3, y4, y5, y6⟩) | exact (by obtain ⟨x0, x1, x2, x3, x4, x5, x6⟩ := HXb.out _ (bt (bt (bt HB9.out HB10.out) HB11.out).drew HB12.out); obtain ⟨y0, y1, y2, y3, y4, y5, y6⟩ := HKb.out _ B12; exact ⟨x0, x1, x2, x3, x4, x5, x6, y0, y1, y2, y3, y4, y5, y6⟩) | exact (by obtain ⟨x0, x1, x2, x3, x4, x5, x6⟩ := HXb.out _ (bt (bt (bt HB9.out HB10.out) HB11.out) HD13.out); obtain ⟨y0, y1, y2, y3, y4, y5, y6⟩ := HKb.out _ B13; exact ⟨x0, x1, x2, x3, x4, x5, x6, y0, y1, y2, y3, y4, y5, y6⟩)) (first
          | (go_at_call 34; refine Calls.mono (HCb.out _ (B11.drew)) ?_; rintro e w12 ⟨cby, rfl, hown, hb12⟩; obtain ⟨aby, pby, rfl, _⟩ := own_form hown; have HOyb : Hid (w12.ownsRow _ 95 3 (.slice aby b.2.1.length pby) b.2.1.length (flatR cmdF b.2.1)) := hown; have HB12 : Hid (Below _ _ w12) := hb12; have B12 : Below W.heap.size W w12 := bt B11.drew hb12; clear hown hb12; unfold blkV)
          | (go_at_call 22; refine (eqBlock_yes b (.slice abx b.2.1.length pbx) (.slice aby b.2.1.length pby) _ ((rows_of_own cmdF_len HOxb.out).below (bt (bt (bt (bt HB8.out HB9.out) HB10.out) HB11.out).drew HB12.out)) (rows_of_own cmdF_len HOyb.out) HOKb.out.1).mono ?_; rintro e w13 ⟨rfl, hb13⟩; have HB13 : Hid (Below _ _ w13) := hb13; have B13 : Below W.heap.size W w13 := bt B12 hb13; have HD13 : Hid (Below w11.heap.size w11 w13) := bt (Below.refl _ w11).drew (bt HB12.out hb13); clear hb13))
        clear kb0 kb1 kb2 kb3 kb4 kb5 kb6
        clear xb0 xb1 xb2 xb3 xb4 xb5 xb6
        go_wp2
        go_ret
        exact ⟨rfl, bt HW.out.1 B13⟩

theorem walk (w : World) (v : Value) (ps : TL) (hT : TreeQ w v ps) (hl : ps.length ≤ maxLen) (hs : ∀ p ∈ ps, goodBk p.1 ∧ wfB p.1) (b : BK) (cb : Value) (hb : goodBlk w (b, cb)) :
    Calls Try.prog 6 #[v, blkV b cb] w fun e w' => e = .returned (.bool true) ∧ Below w.heap.size w w' :=
  walk_of blockOk_i w v ps hT hl hs b cb hb

end Go.Proofs.Ytnghhfgbobpnkak.WFnExactBlockOk
