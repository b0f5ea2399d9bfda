/-
  The walk of the law FnExactPutBlock: the specification's answer and the program's are the same; what came in is as it was.
-/
import Derived.Test.YtjdddcldbfhbialBlkE
import Derived.Test.YtjdddcldbfhbialBlkOpen
import Derived.Test.YtjdddcldbfhbialBlkW
import Derived.Test.YtjdddcldbfhbialPutBS
import Derived.Deep.RegionHeld3
import Derived.Test.YtjdddcldbfhbialPutBI2
namespace Go.Proofs.Ytjdddcldbfhbial.WFnExactPutBlock
open Go.RowKit Num

set_option maxRecDepth 100000 in
set_option maxHeartbeats 8000000 in
theorem walk_of (HI : ∀ (ps : TL) (v : Value) (b : BK) (cb : Value) (w : World) (_ : TreeR w v ps) (_ : RowsR w cb 3 cmdF b.2.1) (_ : okT (bks ps)) (_ : okB b), Calls Try.prog 18 #[v, blkV b cb] w fun e w' => ∃ v' qs, e = .returned (.tuple #[v', .int .i64 (putAt (bks ps) b)]) ∧ bks qs = putT (bks ps) b ∧ OwnT w' w.heap.size v' qs ∧ Below w.heap.size w w') (w : World) (v : Value) (ps : TL) (hT : TreeQ w v ps) (hl : ps.length ≤ maxLen) (hs : ∀ p ∈ ps, goodBk p.1 ∧ wfB p.1) (b : BK) (cb : Value) (hb : goodBlk w (b, cb)) :
    Calls Try.prog 4 #[v, blkV b cb] w fun e w' => e = .returned (.bool true) ∧ Below w.heap.size w w' := by
  have HI : Hid (∀ (ps : TL) (v : Value) (b : BK) (cb : Value) (w : World) (_ : TreeR w v ps) (_ : RowsR w cb 3 cmdF b.2.1) (_ : okT (bks ps)) (_ : okB b), Calls Try.prog 18 #[v, blkV b cb] w fun e w' => ∃ v' qs, e = .returned (.tuple #[v', .int .i64 (putAt (bks ps) b)]) ∧ bks qs = putT (bks ps) b ∧ OwnT w' w.heap.size v' qs ∧ Below w.heap.size w w') := HI
  have HT0 : Hid (TreeQ w v ps) := hT
  have HS : Hid (∀ p ∈ ps, goodBk p.1 ∧ wfB p.1) := hs
  have hbl := bks_len ps
  clear hT hs
  have HB0b : Hid (goodBlk w (b, cb)) := hb
  obtain ⟨ab, pb, eb⟩ := rows_form hb.1
  simp only at eb
  subst eb
  clear hb
  unfold blkV
  obtain ⟨W, hW⟩ : ∃ W, W = (w.alloc (Obj.cells (blkA b (.slice ab b.2.1.length pb)) 27)) := ⟨_, rfl⟩
  have HW : Hid (Below w.heap.size w W ∧ W.heap.size = w.heap.size + 1 ∧ W.heap[w.heap.size]? = some (.cells (blkA b (.slice ab b.2.1.length pb)) 27 (0, 0))) := by
    rw [hW]
    exact ⟨ba (Below.refl _ _) _, by simp, heap_alloc_new w _⟩
  have hWs := HW.out.2.1
  have HT : Hid (TreeQ W v ps) := HT0.out.below HW.out.1
  have HKb : Hid (∀ w', Below W.heap.size W w' → w'.cell? ⟨w.heap.size, 0, none⟩ = some (.int .i64 b.1.1) ∧ w'.cell? ⟨w.heap.size, 1, none⟩ = some (.int .i64 b.1.2) ∧ w'.cell? ⟨w.heap.size, 2, none⟩ = some (.slice ab b.2.1.length pb) ∧ w'.cell? ⟨w.heap.size, 3, none⟩ = some (.int .i64 b.2.2.1) ∧ w'.cell? ⟨w.heap.size, 4, none⟩ = some (.int .i64 b.2.2.2.1) ∧ w'.cell? ⟨w.heap.size, 5, none⟩ = some (.int .i64 b.2.2.2.2.1) ∧ w'.cell? ⟨w.heap.size, 6, none⟩ = some (.int .i64 b.2.2.2.2.2)) := fun w' h' => blk_cells ((h'.block _ (by omega)).trans HW.out.2.2)
  have HBb : Hid (RowsR W (.slice ab b.2.1.length pb) 3 cmdF b.2.1) := HB0b.out.1.below HW.out.1
  go_enter Try.func4, Try.ntmps4
  go_wp2_with fail
  rw [← hW]
  clear hW
  refine (szBlocks_any ps v 1048576 W (by decide) (by decide) HT.out (by unfold maxLen at hl; omega) (fun p hp => (HS.out p hp).1)).mono ?_
  rintro e w1 ⟨rfl, B1⟩
  by_cases hn0 : szBlocksC (bks ps) 1048576 < 0
  · go_wp2
    go_ret
    exact ⟨rfl, bt HW.out.1 B1⟩
  · have hbd := szBlocks_bd (t := bks ps) (Int.le_refl _) (Int.not_lt.1 hn0)
    have HOK : Hid (okT (bks ps)) := hbd.1
    have hle0 := hbd.2
    have hge0 := Int.not_lt.1 hn0
    have hpl : (ps.length : Int) ≤ 1048576 := by have := hbd.1.1; rw [hbl] at this; exact this
    clear hbd
    obtain ⟨l0, hl0⟩ : ∃ l0, l0 = szBlocksC (bks ps) 1048576 := ⟨_, rfl⟩
    rw [← hl0] at hn0 hle0 hge0 ⊢
    have HL0 : Hid (l0 = szBlocksC (bks ps) 1048576) := hl0
    clear hl0
    obtain ⟨kb0, kb1, kb2, kb3, kb4, kb5, kb6⟩ := HKb.out w1 B1
    go_wp2_with fail
    refine (szBlock_any b (.slice ab b.2.1.length pb) l0 w1 hge0 hle0 (HBb.out.below B1) HB0b.out.2.1).mono ?_
    clear kb0 kb1 kb2 kb3 kb4 kb5 kb6
    rintro e w2 ⟨rfl, hb2⟩
    have B2 : Below W.heap.size W w2 := bt B1 hb2
    by_cases hn2 : szBk b l0 < 0
    · go_wp2
      go_ret
      exact ⟨rfl, bt HW.out.1 B2⟩
    · have HOKb : Hid (okB b) := szBk_bd (left := l0) (by omega) (Int.not_lt.1 hn2)
      have hge2 := Int.not_lt.1 hn2
      have hle2 : szBk b l0 ≤ 1048576 := by have := szBk_le (b := b) (left := l0) (by omega); omega
      obtain ⟨l2, hl2⟩ : ∃ l2, l2 = szBk b l0 := ⟨_, rfl⟩
      rw [← hl2] at hn2 hle2 hge2 ⊢
      have HL2 : Hid (l2 = szBk b l0) := hl2
      clear hl2 hb2
      have HCb : Hid (∀ w', Below W.heap.size W w' → Calls Try.prog 13 #[.agg #[.int .i64 b.1.1, .int .i64 b.1.2, .slice ab b.2.1.length pb, .int .i64 b.2.2.1, .int .i64 b.2.2.2.1, .int .i64 b.2.2.2.2.1, .int .i64 b.2.2.2.2.2]] w' fun e w'' => ∃ cv', e = .returned (blkV b cv') ∧ w''.ownsRow w'.heap.size 76 3 cv' b.2.1.length (flatR cmdF b.2.1) ∧ Below w'.heap.size w' w'') := fun w' h' => toBlock_any b _ w' (HBb.out.below h') HOKb.out.1
      have HOP : Hid (okT (putT (bks ps) b)) := okT_put HOK.out HOKb.out
      have HWT : Hid (6 * (wtB (bks ps) + 1 + b.2.1.length) ≤ 6291462) := (by
        have h0 := HL0.out; have h2 := HL2.out
        have h3 : 0 ≤ szBlocksC (bks ps) 1048576 := by rw [← h0]; exact hge0
        have h4 := szBlocks_wt h3
        have h5 : 0 ≤ szBk b l0 := by rw [← h2]; exact hge2
        have h6 := szBk_wt h5
        omega : 6 * (wtB (bks ps) + 1 + b.2.1.length) ≤ 6291462)
      obtain ⟨kb0, kb1, kb2, kb3, kb4, kb5, kb6⟩ := HKb.out w2 B2
      go_wp2
      go_region_held3 (fun w' => w'.cell? ⟨w.heap.size, 0, none⟩ = some (.int .i64 b.1.1) ∧ w'.cell? ⟨w.heap.size, 1, none⟩ = some (.int .i64 b.1.2) ∧ w'.cell? ⟨w.heap.size, 2, none⟩ = some (.slice ab b.2.1.length pb) ∧ w'.cell? ⟨w.heap.size, 3, none⟩ = some (.int .i64 b.2.2.1) ∧ w'.cell? ⟨w.heap.size, 4, none⟩ = some (.int .i64 b.2.2.2.1) ∧ w'.cell? ⟨w.heap.size, 5, none⟩ = some (.int .i64 b.2.2.2.2.1) ∧ w'.cell? ⟨w.heap.size, 6, none⟩ = some (.int .i64 b.2.2.2.2.2)) (first | exact HKb.out _ B2.drew | exact HKb.out _ B3 | exact HKb.out _ B4 | exact HKb.out _ B5) (first
        | (go_at_call 13; have hbi := B3; clear hbi; refine Calls.mono (HCb.out _ B3) ?_; rintro e w4 ⟨cba, rfl, hown, hb4⟩; obtain ⟨aba, pba, rfl, _⟩ := own_form hown; have HOab : Hid (w4.ownsRow _ 76 3 (.slice aba b.2.1.length pba) b.2.1.length (flatR cmdF b.2.1)) := hown; have HB4 : Hid (Below _ _ w4) := hb4; have B4 : Below W.heap.size W w4 := bt B3 hb4; clear hown hb4; unfold blkV)
        | (go_at_call 12; refine (toBlocks_any ps v _ (HT.out.below B2.drew) HOK.out).mono ?_; rintro e w3 ⟨va, qa, rfl, hqa, hown, hb3⟩; have HQa : Hid (bks qa = bks ps) := hqa; have HOa : Hid (OwnT w3 _ va qa) := hown; have HB3 : Hid (Below _ _ w3) := hb3; have B3 : Below W.heap.size W w3 := bt B2.drew hb3; clear hqa hown hb3)
        | (go_at_call 17; have hsp := putBlock_s qa va b (.slice aba b.2.1.length pba) _ (HOa.out.read.below HB4.out) (rows_of_own cmdF_len HOab.out) (by rw [HQa.out]; exact HOK.out) HOKb.out; rw [HQa.out] at hsp; refine hsp.mono ?_; clear hsp; rintro e w5 ⟨v5, q5, rfl, hq, hown, hb5⟩; have HQ5 : Hid (bks q5 = putT (bks ps) b) := hq; have HO5 : Hid (OwnT w5 _ v5 q5) := hown; have HB5 : Hid (Below _ _ w5) := hb5; have B5 : Below W.heap.size W w5 := bt B4 hb5; have HD5 : Hid (Below w2.heap.size w2 w5) := bt (Below.refl _ w2).drew (bt (bt HB3.out HB4.out) hb5); clear hq hown hb5))
      clear kb0 kb1 kb2 kb3 kb4 kb5 kb6
      go_wp2_with fail
      refine (toBlocks_any ps v _ (HT.out.below B5) HOK.out).mono ?_
      rintro e w6 ⟨vx, qx, rfl, hqx, hown, hb6⟩
      have HQx : Hid (bks qx = bks ps) := hqx
      have HOx : Hid (OwnT w6 _ vx qx) := hown
      have HB6 : Hid (Below _ _ w6) := hb6
      have B6 : Below W.heap.size W w6 := bt B5 hb6
      clear hqx hown hb6
      obtain ⟨kb0, kb1, kb2, kb3, kb4, kb5, kb6⟩ := HKb.out w6 B6
      go_wp2_with fail
      refine Calls.mono (HCb.out _ B6) ?_
      rintro e w7 ⟨cbx, rfl, hown, hb7⟩
      obtain ⟨abx, pbx, rfl, _⟩ := own_form hown
      have HOxb : Hid (w7.ownsRow _ 76 3 (.slice abx b.2.1.length pbx) b.2.1.length (flatR cmdF b.2.1)) := hown
      have HB7 : Hid (Below _ _ w7) := hb7
      have B7 : Below W.heap.size W w7 := bt B6 hb7
      clear hown hb7
      unfold blkV
      clear kb0 kb1 kb2 kb3 kb4 kb5 kb6
      obtain ⟨w8, hw8⟩ : ∃ w8, w8 = w7.alloc (Obj.cells (blkA b (.slice abx b.2.1.length pbx)) 36) := ⟨_, rfl⟩
      have hsz8 : w7.heap.size < w8.heap.size := by rw [hw8]; simp
      have HB8 : Hid (Below w7.heap.size w7 w8) := (by rw [hw8]; exact ba (Below.refl _ _) _ : Below w7.heap.size w7 w8)
      have B8 : Below W.heap.size W w8 := bt B7 HB8.out
      have HXb : Hid (∀ w' : World, w'.heap[w7.heap.size]? = w8.heap[w7.heap.size]? → w'.cell? ⟨w7.heap.size, 0, none⟩ = some (.int .i64 b.1.1) ∧ w'.cell? ⟨w7.heap.size, 1, none⟩ = some (.int .i64 b.1.2) ∧ w'.cell? ⟨w7.heap.size, 2, none⟩ = some (.slice abx b.2.1.length pbx) ∧ w'.cell? ⟨w7.heap.size, 3, none⟩ = some (.int .i64 b.2.2.1) ∧ w'.cell? ⟨w7.heap.size, 4, none⟩ = some (.int .i64 b.2.2.2.1) ∧ w'.cell? ⟨w7.heap.size, 5, none⟩ = some (.int .i64 b.2.2.2.2.1) ∧ w'.cell? ⟨w7.heap.size, 6, none⟩ = some (.int .i64 b.2.2.2.2.2)) := fun w' h' => blk_cells (h'.trans (by rw [hw8]; exact heap_alloc_new w7 _))
      go_wp2_with fail
      rw [← hw8]
      clear hw8
      have himp := HI.out qx vx b (.slice abx b.2.1.length pbx) _ (HOx.out.read.below (bt HB7.out HB8.out)) ((rows_of_own cmdF_len HOxb.out).below HB8.out) (by rw [HQx.out]; exact HOK.out) HOKb.out
      rw [HQx.out] at himp
      refine himp.mono ?_
      clear himp
      rintro e w9 ⟨v9, q9, rfl, hq, hown, hb9⟩
      have HQ9 : Hid (bks q9 = putT (bks ps) b) := hq
      have HO9 : Hid (OwnT w9 w8.heap.size v9 q9) := hown
      have HB9 : Hid (Below _ _ w9) := hb9
      have B9 : Below W.heap.size W w9 := bt B8 hb9
      clear hq hown hb9
      obtain ⟨r, hr⟩ : ∃ r, r = putAt (bks ps) b := ⟨_, rfl⟩
      have HRR : Hid (putAt (bks ps) b = r) := hr.symm
      rw [← hr]
      clear hr
      go_wp2_with fail
      refine (eqBlocks_yes q9 q5 v9 v5 _ HO9.out.read.q (HO5.out.read.below (bt (bt (bt HB6.out HB7.out) HB8.out) HB9.out)).q (by rw [HQ9.out, HQ5.out]) (by rw [HQ9.out]; exact HOP.out)).mono ?_
      rintro e w10 ⟨rfl, hb10⟩
      have HB10 : Hid (Below _ _ w10) := hb10
      have B10 : Below W.heap.size W w10 := bt B9 hb10
      clear hb10
      go_wp2_with fail
      refine (toBlocks_any ps v _ (HT.out.below B10) HOK.out).mono ?_
      rintro e w11 ⟨vy, qy, rfl, hqy, hown, hb11⟩
      have HQy : Hid (bks qy = bks ps) := hqy
      have HOy : Hid (OwnT w11 _ vy qy) := hown
      have HB11 : Hid (Below _ _ w11) := hb11
      have B11 : Below W.heap.size W w11 := bt B10 hb11
      clear hqy hown hb11
      go_wp2_with fail
      refine (eqBlocks_yes qx qy vx vy _ (HOx.out.read.below (bt (bt (bt (bt HB7.out HB8.out) HB9.out) HB10.out) HB11.out)).q HOy.out.read.q (by rw [HQx.out, HQy.out]) (by rw [HQx.out]; exact HOK.out)).mono ?_
      rintro e w12 ⟨rfl, hb12⟩
      have HB12 : Hid (Below _ _ w12) := hb12
      have B12 : Below W.heap.size W w12 := bt B11 hb12
      clear hb12
      obtain ⟨x0, x1, x2, x3, x4, x5, x6⟩ := HXb.out _ ((bt (bt (bt HB9.out HB10.out) HB11.out) HB12.out).block _ hsz8)
      obtain ⟨kb0, kb1, kb2, kb3, kb4, kb5, kb6⟩ := HKb.out w12 B12
      go_wp2
      go_region_held3 (fun w' => w'.cell? ⟨w7.heap.size, 0, none⟩ = some (.int .i64 b.1.1) ∧ w'.cell? ⟨w7.heap.size, 1, none⟩ = some (.int .i64 b.1.2) ∧ w'.cell? ⟨w7.heap.size, 2, none⟩ = some (.slice abx b.2.1.length pbx) ∧ w'.cell? ⟨w7.heap.size, 3, none⟩ = some (.int .i64 b.2.2.1) ∧ w'.cell? ⟨w7.heap.size, 4, none⟩ = some (.int .i64 b.2.2.2.1) ∧ w'.cell? ⟨w7.heap.size, 5, none⟩ = some (.int .i64 b.2.2.2.2.1) ∧ w'.cell? ⟨w7.heap.size, 6, none⟩ = some (.int .i64 b.2.2.2.2.2) ∧ w'.cell? ⟨w.heap.size, 0, none⟩ = some (.int .i64 b.1.1) ∧ w'.cell? ⟨w.heap.size, 1, none⟩ = some (.int .i64 b.1.2) ∧ w'.cell? ⟨w.heap.size, 2, none⟩ = some (.slice ab b.2.1.length pb) ∧ w'.cell? ⟨w.heap.size, 3, none⟩ = some (.int .i64 b.2.2.1) ∧ w'.cell? ⟨w.heap.size, 4, none⟩ = some (.int .i64 b.2.2.2.1) ∧ w'.cell? ⟨w.heap.size, 5, none⟩ = some (.int .i64 b.2.2.2.2.1) ∧ w'.cell? ⟨w.heap.size, 6, none⟩ = some (.int .i64 b.2.2.2.2.2)) (first | exact (by obtain ⟨z0, z1, z2, z3, z4, z5, z6⟩ := HXb.out _ ((bt (bt (bt HB9.out HB10.out) HB11.out) HB12.out).drew.block _ hsz8); obtain ⟨y0, y1, y2, y3, y4, y5, y6⟩ := HKb.out _ B12.drew; exact ⟨z0, z1, z2, z3, z4, z5, z6, y0, y1, y2, y3, y4, y5, y6⟩) | exact (by obtain ⟨z0, z1, z2, z3, z4, z5, z6⟩ := HXb.out _ ((bt (bt (bt (bt HB9.out HB10.out) HB11.out) HB12.out).drew HB13.out).block _ hsz8); obtain ⟨y0, y1, y2, y3, y4, y5, y6⟩ := HKb.out _ B13; exact ⟨z0, z1, z2, z3, z4, z5, z6, y0, y1, y2, y3, y4, y5, y6⟩) | exact (by obtain ⟨z0, z1, z2, z3, z4, z5, z6⟩ := HXb.out _ ((bt (bt (bt (bt HB9.out HB10.out) HB11.out) HB12.out) HD14.out).block _ hsz8); obtain ⟨y0, y1, y2, y3, y4, y5, y6⟩ := HKb.out _ B14; exact ⟨z0, z1, z2, z3, z4, z5, z6, y0, y1, y2, y3, y4, y5, y6⟩)) (first
        | (go_at_call 13; refine Calls.mono (HCb.out _ (B12.drew)) ?_; rintro e w13 ⟨cby, rfl, hown, hb13⟩; obtain ⟨aby, pby, rfl, _⟩ := own_form hown; have HOyb : Hid (w13.ownsRow _ 76 3 (.slice aby b.2.1.length pby) b.2.1.length (flatR cmdF b.2.1)) := hown; have HB13 : Hid (Below _ _ w13) := hb13; have B13 : Below W.heap.size W w13 := bt B12.drew hb13; clear hown hb13; unfold blkV)
        | (go_at_call 16; refine (eqBlock_yes b (.slice abx b.2.1.length pbx) (.slice aby b.2.1.length pby) _ ((rows_of_own cmdF_len HOxb.out).below (bt (bt (bt (bt (bt HB8.out HB9.out) HB10.out) HB11.out) HB12.out).drew HB13.out)) (rows_of_own cmdF_len HOyb.out) HOKb.out.1).mono ?_; rintro e w14 ⟨rfl, hb14⟩; have HB14 : Hid (Below _ _ w14) := hb14; have B14 : Below W.heap.size W w14 := bt B13 hb14; have HD14 : Hid (Below w12.heap.size w12 w14) := bt (Below.refl _ w12).drew (bt HB13.out hb14); clear hb14))
      clear kb0 kb1 kb2 kb3 kb4 kb5 kb6
      clear x0 x1 x2 x3 x4 x5 x6
      have hs5 := B5.size
      have hsx : w5.heap.size ≤ w6.heap.size := HB6.out.size
      have hsb : w6.heap.size ≤ w7.heap.size := HB7.out.size
      have hsg : w8.heap.size ≤ w9.heap.size := HB9.out.size
      have hse : w9.heap.size ≤ w14.heap.size := (bt (bt (bt HB10.out HB11.out) HB12.out) HD14.out).size
      have HNX : Hid (tnum 1 qx ≤ 10000000) := (by have h1 := tnum_wt qx 1; rw [HQx.out] at h1; have h2 := HWT.out; omega : tnum 1 qx ≤ 10000000)
      have HNG : Hid (tnum 1 q9 ≤ 10000000) := (by have h1 := tnum_wt q9 1; rw [HQ9.out] at h1; have h2 := HWT.out; have h3 := putT_wt (bks ps) b; omega : tnum 1 q9 ≤ 10000000)
      have hn1 := tnum_le qx 1
      go_wp2_with fail
      refine (markBlocks_own qx 1 w5.heap.size w6.heap.size vx w14 (HOx.out.below (bt (bt (bt (bt (bt (bt HB7.out HB8.out) HB9.out) HB10.out) HB11.out) HB12.out) HD14.out)) HOx.out.lim (by decide) HNX.out (okT_len HOK.out HQx.out) (okT_cmds HOK.out HQx.out)).mono ?_
      rintro e w15 ⟨rfl, _, hw15⟩
      have hsm15 := hw15.size
      have B15 : Below W.heap.size W w15 := Wn.below B14 hw15 hs5 B14.size
      have HV15 : Hid (OwnT w15 _ v5 q5) := HO5.out.kp ((Kp.of_below (bt (bt (bt (bt (bt (bt (bt HB6.out HB7.out) HB8.out) HB9.out) HB10.out) HB11.out) HB12.out) HD14.out) (Nat.le_refl _)).trans (Kp.of_wn hw15 (by omega) (Or.inl (Nat.le_refl _))))
      have HG15 : Hid (OwnT w15 w8.heap.size v9 q9) := HO9.out.kp ((Kp.of_below (bt (bt (bt HB10.out HB11.out) HB12.out) HD14.out) (Nat.le_refl _)).trans (Kp.of_wn hw15 (by omega) (Or.inr (by omega))))
      have HC15 : Hid (w15.ownsRow w6.heap.size 76 3 (.slice abx b.2.1.length pbx) b.2.1.length (flatR cmdF b.2.1)) := own_kp HOxb.out ((Kp.of_below (bt (bt (bt (bt (bt HB8.out HB9.out) HB10.out) HB11.out) HB12.out) HD14.out) (Nat.le_refl _)).trans (Kp.of_wn hw15 (by omega) (Or.inr (Nat.le_refl _))))
      have HXB : Hid (w15.heap[w7.heap.size]? = w8.heap[w7.heap.size]?) := (hw15.block _ (by omega) (Or.inr (by omega))).trans ((bt (bt (bt (bt HB9.out HB10.out) HB11.out) HB12.out) HD14.out).block _ hsz8)
      clear hw15
      obtain ⟨t, ht⟩ : ∃ t, t = tnum 1 qx := ⟨_, rfl⟩
      rw [← ht] at hn1 ⊢
      have htl : t ≤ 10000000 := by rw [ht]; exact HNX.out
      clear ht
      obtain ⟨x0, x1, x2, x3, x4, x5, x6⟩ := HXb.out _ HXB.out
      go_wp2_with fail
      clear x0 x1 x2 x3 x4 x5 x6
      have hbl1 : b.2.1.length ≤ 1048576 := by have := HOKb.out.1; omega
      refine (markBlock_own b (.slice abx b.2.1.length pbx) t b.2.1.length w6.heap.size _ w15 HC15.out (by omega) htl hbl1).mono ?_
      rintro e w16 ⟨rfl, _, hg16⟩
      have hsm16 := hg16.size
      have hob : ∀ g, Value.ownBlock (.slice abx b.2.1.length pbx) = some g → w6.heap.size ≤ g ∧ g < w7.heap.size := HOxb.out.lt
      have B16 : Below W.heap.size W w16 := B15.grown hg16 B15.size fun g hg => by have := hob g hg; omega
      have HV16 : Hid (OwnT w16 _ v5 q5) := ownT_lim HV15.out HO5.out.lim fun g h1 h2 => hg16.block g (by omega) fun e => by have := hob g e.symm; omega
      have HG16 : Hid (OwnT w16 w8.heap.size v9 q9) := ownT_lim HG15.out HO9.out.lim fun g h1 h2 => hg16.block g (by omega) fun e => by have := hob g e.symm; omega
      clear hg16
      have hnn : ¬ (((t + 3 * b.2.1.length : Nat) : Int) < 0) := by omega
      go_wp2_with fail
      refine (eqBlocks_yes q9 q5 v9 v5 _ HG16.out.read.q HV16.out.read.q (by rw [HQ9.out, HQ5.out]) (by rw [HQ9.out]; exact HOP.out)).mono ?_
      rintro e w17 ⟨rfl, hb17⟩
      have HB17 : Hid (Below _ _ w17) := hb17
      have B17 : Below W.heap.size W w17 := bt B16 hb17
      clear hb17
      go_wp2_with fail
      refine (markBlocks_own q9 1 w8.heap.size w9.heap.size v9 w17 (HG16.out.below HB17.out) HO9.out.lim (by decide) HNG.out (okT_len HOP.out HQ9.out) (okT_cmds HOP.out HQ9.out)).mono ?_
      rintro e w18 ⟨rfl, ho18, hw18⟩
      have hsq := HB17.out.size
      have hsm18 := hw18.size
      have HM18 : Hid (OwnT w18 w8.heap.size v9 (tmarks 1 q9)) := ho18
      have B18 : Below W.heap.size W w18 := Wn.below B17 hw18 (by omega) B17.size
      have HV18 : Hid (OwnT w18 _ v5 q5) := ownT_lim (HV16.out.below HB17.out) HO5.out.lim fun g h1 h2 => hw18.block g (by omega) (Or.inl (by omega))
      clear ho18 hw18
      obtain ⟨u, hu⟩ : ∃ u, u = tnum 1 q9 := ⟨_, rfl⟩
      have HU : Hid (tnum 1 q9 = u) := hu.symm
      rw [← hu]
      have hul : u ≤ 10000000 := by rw [hu]; exact HNG.out
      clear hu
      go_wp2_with fail
      refine (heldBlocks_any q9 1 v9 w18 HM18.out.read.q (by decide) HNG.out (okT_len HOP.out HQ9.out) (okT_cmds HOP.out HQ9.out)).mono ?_
      rintro e w19 ⟨rfl, hb19⟩
      rw [HU.out]
      have HB19 : Hid (Below _ _ w19) := hb19
      have B19 : Below W.heap.size W w19 := bt B18 hb19
      clear hb19
      obtain ⟨kb0, kb1, kb2, kb3, kb4, kb5, kb6⟩ := HKb.out w19 B19
      go_wp2
      go_region_held3 (fun w' => w'.cell? ⟨w.heap.size, 0, none⟩ = some (.int .i64 b.1.1) ∧ w'.cell? ⟨w.heap.size, 1, none⟩ = some (.int .i64 b.1.2) ∧ w'.cell? ⟨w.heap.size, 2, none⟩ = some (.slice ab b.2.1.length pb) ∧ w'.cell? ⟨w.heap.size, 3, none⟩ = some (.int .i64 b.2.2.1) ∧ w'.cell? ⟨w.heap.size, 4, none⟩ = some (.int .i64 b.2.2.2.1) ∧ w'.cell? ⟨w.heap.size, 5, none⟩ = some (.int .i64 b.2.2.2.2.1) ∧ w'.cell? ⟨w.heap.size, 6, none⟩ = some (.int .i64 b.2.2.2.2.2)) (first | exact HKb.out _ B19.drew | exact HKb.out _ B20 | exact HKb.out _ B21 | exact HKb.out _ B22) (first
        | (go_at_call 13; have hbi := B20; clear hbi; refine Calls.mono (HCb.out _ B20) ?_; rintro e w21 ⟨cbh, rfl, hown, hb21⟩; obtain ⟨abh, pbh, rfl, _⟩ := own_form hown; have HOhb : Hid (w21.ownsRow _ 76 3 (.slice abh b.2.1.length pbh) b.2.1.length (flatR cmdF b.2.1)) := hown; have HB21 : Hid (Below _ _ w21) := hb21; have B21 : Below W.heap.size W w21 := bt B20 hb21; clear hown hb21; unfold blkV)
        | (go_at_call 12; refine (toBlocks_any ps v _ (HT.out.below B19.drew) HOK.out).mono ?_; rintro e w20 ⟨vh, qh, rfl, hqh, hown, hb20⟩; have HQh : Hid (bks qh = bks ps) := hqh; have HOh : Hid (OwnT w20 _ vh qh) := hown; have HB20 : Hid (Below _ _ w20) := hb20; have B20 : Below W.heap.size W w20 := bt B19.drew hb20; clear hqh hown hb20)
        | (go_at_call 18; have hsp := HI.out qh vh b (.slice abh b.2.1.length pbh) _ (HOh.out.read.below HB21.out) (rows_of_own cmdF_len HOhb.out) (by rw [HQh.out]; exact HOK.out) HOKb.out; rw [HQh.out] at hsp; refine hsp.mono ?_; clear hsp; rintro e w22 ⟨v22, q22, rfl, hq, hown, hb22⟩; have HQ22 : Hid (bks q22 = putT (bks ps) b) := hq; have HO22 : Hid (OwnT w22 _ v22 q22) := hown; have HB22 : Hid (Below _ _ w22) := hb22; have B22 : Below W.heap.size W w22 := bt B21 hb22; have HD22 : Hid (Below w19.heap.size w19 w22) := bt (Below.refl _ w19).drew (bt (bt HB20.out HB21.out) hb22); clear hq hown hb22))
      clear kb0 kb1 kb2 kb3 kb4 kb5 kb6
      rw [HRR.out]
      go_wp2_with fail
      refine (eqBlocks_yes q22 q5 v22 v5 _ HO22.out.read.q (HV18.out.read.below (bt HB19.out HD22.out)).q (by rw [HQ22.out, HQ5.out]) (by rw [HQ22.out]; exact HOP.out)).mono ?_
      rintro e w23 ⟨rfl, hb23⟩
      have HB23 : Hid (Below _ _ w23) := hb23
      have B23 : Below W.heap.size W w23 := bt B22 hb23
      clear hb23
      go_wp2_with fail
      refine (heldBlocks_any q9 1 v9 w23 (HM18.out.read.below (bt (bt HB19.out HD22.out) HB23.out)).q (by decide) HNG.out (okT_len HOP.out HQ9.out) (okT_cmds HOP.out HQ9.out)).mono ?_
      rintro e w24 ⟨rfl, hb24⟩
      rw [HU.out]
      have HB24 : Hid (Below _ _ w24) := hb24
      have B24 : Below W.heap.size W w24 := bt B23 hb24
      clear hb24
      go_wp2
      go_ret
      exact ⟨rfl, bt HW.out.1 B24⟩

theorem walk (w : World) (v : Value) (ps : TL) (hT : TreeQ w v ps) (hl : ps.length ≤ maxLen) (hs : ∀ p ∈ ps, goodBk p.1 ∧ wfB p.1) (b : BK) (cb : Value) (hb : goodBlk w (b, cb)) :
    Calls Try.prog 4 #[v, blkV b cb] w fun e w' => e = .returned (.bool true) ∧ Below w.heap.size w w' :=
  walk_of putBlock_i w v ps hT hl hs b cb hb

end Go.Proofs.Ytjdddcldbfhbial.WFnExactPutBlock
