/-
  The walk of the law FnExactRowCells: the specification's answer and the program's are the same; what came in is as it was; the answer's memory is its own. (Made by gw9r.py.)
-/
import Derived.Test.YtnghhfgbobpnkaqBlkE
import Derived.Test.YtnghhfgbobpnkaqBlkOpen
import Derived.Test.YtnghhfgbobpnkaqBlkM
import Derived.Test.YtnghhfgbobpnkaqBlkW
import Derived.Test.YtnghhfgbobpnkaqIntOpen
import Derived.Test.YtnghhfgbobpnkaqCellM
import Derived.Test.YtnghhfgbobpnkaqRowCS
namespace Go.Proofs.Ytnghhfgbobpnkaq.WFnExactRowCells
open Go.RowKit Num

/-- the program's contract -/
def Prg : Prop := ∀ (ps : TL) (v : Value) (row : List Int) (u : Value) (b1 b2 : Nat) (w : World) (_ : OwnT w b1 v ps) (_ : w.ownsRow b2 3 1 u row.length (flatR intF row)) (_ : okT (bks ps)) (_ : (row.length : Int) ≤ 1048576),
  Calls Try.prog 13 #[v, u] w fun e w' => ∃ v', e = .returned v' ∧ w'.ownsRow w.heap.size 88 2 v' (rowC (bks ps) [] row).length (flat (rowC (bks ps) [] row)) ∧ Below w.heap.size w w'

set_option maxRecDepth 100000 in
set_option maxHeartbeats 8000000 in
theorem walk_of (HI : Prg) (w : World) (v : Value) (ps : TL) (hT : TreeQ w v ps) (hl : ps.length ≤ maxLen) (hs : ∀ p ∈ ps, goodBk p.1 ∧ wfB p.1) (u : Value) (row : List Int) (hu : RowsR w u 1 intF row) (hul : row.length ≤ maxLen) (_ : ∀ x ∈ row, goodInt x) :
    Calls Try.prog 3 #[v, u] w fun e w' => e = .returned (.bool true) ∧ Below w.heap.size w w' := by
  have HT : Hid (TreeQ w v ps) := hT
  have HU : Hid (RowsR w u 1 intF row) := hu
  have HS : Hid (∀ p ∈ ps, goodBk p.1 ∧ wfB p.1) := hs
  have hbl := bks_len ps
  obtain ⟨au, cu, rfl, -⟩ := hu
  clear hT hs
  unfold maxLen at hul
  by_cases hbig : (1048576 : Int) < row.length
  · go_enter Try.func3, Try.ntmps3
    go_wp2
    go_ret
    exact ⟨rfl, Below.refl _ _⟩
  have HRW : Hid ((row.length : Int) ≤ 1048576) := (by omega : (row.length : Int) ≤ 1048576)
  have hrw : row.length ≤ 1048576 := by omega
  go_enter Try.func3, Try.ntmps3
  go_wp2_with fail
  refine (szBlocks_any ps v 1048576 w (by decide) (by decide) HT.out (by unfold maxLen at hl; omega) (fun p hp => (HS.out p hp).1)).mono ?_
  rintro e w1 ⟨rfl, hb1⟩
  have B1 : Below w.heap.size w w1 := hb1
  by_cases hn0 : szBlocksC (bks ps) 1048576 < 0
  · go_wp2
    go_ret
    exact ⟨rfl, B1⟩
  · have hbd := szBlocks_bd (t := bks ps) (Int.le_refl _) (Int.not_lt.1 hn0)
    have HK : Hid (okT (bks ps)) := hbd.1
    have hge0 := Int.not_lt.1 hn0
    have hpl : (ps.length : Int) ≤ 1048576 := by have := hbd.1.1; rw [hbl] at this; exact this
    have HWT : Hid (6 * wtB (bks ps) ≤ 6291456) := (by have := szBlocks_wt hge0; omega : 6 * wtB (bks ps) ≤ 6291456)
    have hle0 := hbd.2
    clear hbd
    obtain ⟨l0, hl0⟩ : ∃ l0, l0 = szBlocksC (bks ps) 1048576 := ⟨_, rfl⟩
    rw [← hl0] at hn0 hle0 hge0 ⊢
    clear hl0
    obtain ⟨r, hr⟩ : ∃ r, r = rowC (bks ps) [] row := ⟨_, rfl⟩
    have HRR : Hid (rowC (bks ps) [] row = r) := hr.symm
    have HRL : Hid ((r.length : Int) ≤ 1048576) := (by have := rowC_ok HK.out row [] ⟨by simp, fun c hc => by cases hc⟩; rw [HRR.out] at this; exact this.1 : (r.length : Int) ≤ 1048576)
    have hrl : r.length ≤ 1048576 := by have := HRL.out; omega
    clear hr
    go_wp2_with fail
    refine (toBlocks_any ps v _ (HT.out.below B1) HK.out).mono ?_
    rintro e w2 ⟨va, qa, rfl, hqa, hown, hb2⟩
    have HQa : Hid (bks qa = bks ps) := hqa
    have HOa : Hid (OwnT w2 _ va qa) := hown
    have B2 : Below w.heap.size w w2 := bt B1 hb2
    clear hqa hown hb2
    go_wp2_with fail
    refine (toInts_any row _ w2 (HU.out.below B2) HRW.out).mono ?_
    rintro e w2' ⟨ua, rfl, hown, hb2⟩
    have HUa : Hid (w2'.ownsRow w2.heap.size 3 1 ua row.length (flatR intF row)) := hown
    have HOa' : Hid (OwnT w2' _ va qa) := HOa.out.below hb2
    have B2' : Below w.heap.size w w2' := bt B2 hb2
    clear hown hb2
    go_wp2_with fail
    have hsp := rowCells_s qa va row ua w2' HOa'.out.read.q (rows_of_own intF_len HUa.out) (by rw [HQa.out]; exact HK.out) HRW.out
    rw [HQa.out, HRR.out] at hsp
    refine hsp.mono ?_
    clear hsp
    rintro e w3 ⟨v0, rfl, hown, hb3⟩
    have HO0 : Hid (w3.ownsRow w2'.heap.size 88 2 v0 r.length (flat r)) := hown
    have B3 : Below w.heap.size w w3 := bt B2' hb3
    clear hown hb3
    go_wp2_with fail
    refine (toBlocks_any ps v _ (HT.out.below B3) HK.out).mono ?_
    rintro e w4 ⟨vx, qx, rfl, hqx, hown, hb4⟩
    have HQx : Hid (bks qx = bks ps) := hqx
    have HOx : Hid (OwnT w4 w3.heap.size vx qx) := hown
    have HB4 : Hid (Below _ _ w4) := hb4
    have B4 : Below w.heap.size w w4 := bt B3 hb4
    clear hqx hown hb4
    go_wp2_with fail
    refine (toInts_any row _ w4 (HU.out.below B4) HRW.out).mono ?_
    rintro e w4' ⟨ux, rfl, hown, hb4⟩
    have HUx : Hid (w4'.ownsRow w4.heap.size 3 1 ux row.length (flatR intF row)) := hown
    have HB4' : Hid (Below _ _ w4') := hb4
    have B4' : Below w.heap.size w w4' := bt B4 hb4
    clear hown hb4
    go_wp2_with fail
    have hsp := HI qx vx row ux w3.heap.size w4.heap.size w4' (HOx.out.below HB4'.out) HUx.out (by rw [HQx.out]; exact HK.out) HRW.out
    rw [HQx.out, HRR.out] at hsp
    refine hsp.mono ?_
    clear hsp
    rintro e w5 ⟨vg, rfl, hown, hb5⟩
    have HOg : Hid (w5.ownsRow w4'.heap.size 88 2 vg r.length (flat r)) := hown
    have HB5 : Hid (Below _ _ w5) := hb5
    have B5 : Below w.heap.size w w5 := bt B4' hb5
    clear hown hb5
    go_wp2_with fail
    refine (eqCells_yes r vg v0 w5 (cells_of_own HOg.out) ((cells_of_own HO0.out).below (bt (bt HB4.out HB4'.out) HB5.out)) HRL.out).mono ?_
    rintro e w6 ⟨rfl, hb6⟩
    have HB6 : Hid (Below _ _ w6) := hb6
    have B6 : Below w.heap.size w w6 := bt B5 hb6
    clear hb6
    go_wp2_with fail
    refine (toBlocks_any ps v _ (HT.out.below B6) HK.out).mono ?_
    rintro e w7 ⟨vy, qy, rfl, hqy, hown, hb7⟩
    have HQy : Hid (bks qy = bks ps) := hqy
    have HOy : Hid (OwnT w7 _ vy qy) := hown
    have HB7 : Hid (Below _ _ w7) := hb7
    have B7 : Below w.heap.size w w7 := bt B6 hb7
    clear hqy hown hb7
    go_wp2_with fail
    refine (eqBlocks_yes qx qy vx vy w7 (HOx.out.read.below (bt (bt (bt HB4'.out HB5.out) HB6.out) HB7.out)).q HOy.out.read.q (by rw [HQx.out, HQy.out]) (by rw [HQx.out]; exact HK.out)).mono ?_
    rintro e w7a ⟨rfl, hb8⟩
    have HB7a : Hid (Below _ _ w7a) := hb8
    have B7a : Below w.heap.size w w7a := bt B7 hb8
    clear hb8
    go_wp2_with fail
    refine (toInts_any row _ w7a (HU.out.below B7a) HRW.out).mono ?_
    rintro e w7b ⟨uy, rfl, hown, hb8⟩
    have HUy : Hid (w7b.ownsRow w7a.heap.size 3 1 uy row.length (flatR intF row)) := hown
    have HB7b : Hid (Below _ _ w7b) := hb8
    have B7b : Below w.heap.size w w7b := bt B7a hb8
    clear hown hb8
    have HX7 : Hid (Below w4'.heap.size w4' w7b) := bt (bt (bt (bt HB5.out HB6.out) HB7.out) HB7a.out) HB7b.out
    go_wp2_with fail
    refine (eqInts_yes row ux uy w7b ((rows_of_own intF_len HUx.out).below HX7.out) (rows_of_own intF_len HUy.out) HRW.out).mono ?_
    rintro e w8 ⟨rfl, hb8⟩
    have HB8 : Hid (Below _ _ w8) := hb8
    have B8 : Below w.heap.size w w8 := bt B7b hb8
    have HX8 : Hid (Below w4'.heap.size w4' w8) := bt HX7.out hb8
    have HY8 : Hid (Below w5.heap.size w5 w8) := bt (bt (bt (bt HB6.out HB7.out) HB7a.out) HB7b.out) hb8
    clear hb8
    have hs3 := B3.size
    have hs4 := HB4.out.size
    have hs4' := HB4'.out.size
    have hs5 := HB5.out.size
    have hs8 := HY8.out.size
    have HNX : Hid (tnum 1 qx ≤ 8000000) := (by have h1 := tnum_wt qx 1; rw [HQx.out] at h1; have h2 := HWT.out; omega : tnum 1 qx ≤ 8000000)
    have hn1 := tnum_le qx 1
    go_wp2_with fail
    refine (markBlocks_own qx 1 w3.heap.size w4.heap.size vx w8 (HOx.out.below (bt HB4'.out HX8.out)) HOx.out.lim (by decide) (by have := HNX.out; omega) (okT_len HK.out HQx.out) (okT_cmds HK.out HQx.out)).mono ?_
    rintro e w9 ⟨rfl, _, hw9⟩
    have hs9 := hw9.size
    have B9 : Below w.heap.size w w9 := Wn.below B8 hw9 hs3 B8.size
    have HV9 : Hid (w9.ownsRow w2'.heap.size 88 2 v0 r.length (flat r)) := own_kp HO0.out ((Kp.of_below (bt (bt HB4.out HB4'.out) (bt HB5.out HY8.out)) (Nat.le_refl _)).trans (Kp.of_wn hw9 (by omega) (Or.inl (Nat.le_refl _))))
    have HG9 : Hid (w9.ownsRow w4'.heap.size 88 2 vg r.length (flat r)) := own_kp HOg.out ((Kp.of_below HY8.out (Nat.le_refl _)).trans (Kp.of_wn hw9 (by omega) (Or.inr (by omega))))
    have HU9 : Hid (w9.ownsRow w4.heap.size 3 1 ux row.length (flatR intF row)) := own_kp HUx.out ((Kp.of_below HX8.out (Nat.le_refl _)).trans (Kp.of_wn hw9 (by omega) (Or.inr (Nat.le_refl _))))
    clear hw9
    obtain ⟨t, ht⟩ : ∃ t, t = tnum 1 qx := ⟨_, rfl⟩
    have HT8 : Hid (t ≤ 8000000) := (by rw [ht]; exact HNX.out : t ≤ 8000000)
    rw [← ht] at hn1 ⊢
    clear ht
    have hou : ∀ g, ux.ownBlock = some g → w4.heap.size ≤ g ∧ g < w4'.heap.size := HUx.out.lt
    have hob : ∀ g, vg.ownBlock = some g → w4'.heap.size ≤ g ∧ g < w5.heap.size := HOg.out.lt
    have hoz : ∀ g, v0.ownBlock = some g → w2'.heap.size ≤ g ∧ g < w3.heap.size := HO0.out.lt
    go_wp2_with fail
    refine (markInts_any row.length t ux w4.heap.size _ w9 HU9.out (by have := HT8.out; omega) hrw).mono ?_
    rintro e wA ⟨rfl, -, hgA⟩
    have BA : Below w.heap.size w wA := B9.grown hgA B9.size fun g hg => by have := hou g hg; omega
    have HVA : Hid (wA.ownsRow w2'.heap.size 88 2 v0 r.length (flat r)) := own_same HV9.out fun g hg => hgA.block g (by have := hoz g hg; omega) fun e => by have := hou g e.symm; have := hoz g hg; omega
    have HGA : Hid (wA.ownsRow w4'.heap.size 88 2 vg r.length (flat r)) := own_same HG9.out fun g hg => hgA.block g (by have := hob g hg; omega) fun e => by have := hou g e.symm; have := hob g hg; omega
    have hsA := hgA.size
    clear hgA
    have hnn : ¬ (((t + row.length : Nat) : Int) < 0) := by omega
    have hnn2 : ¬ ((t : Int) + (row.length : Int) < 0) := by omega
    go_wp2_with fail
    refine (eqCells_yes r vg v0 wA (cells_of_own HGA.out) (cells_of_own HVA.out) HRL.out).mono ?_
    rintro e w10 ⟨rfl, hb10⟩
    have HB10 : Hid (Below _ _ w10) := hb10
    have B10 : Below w.heap.size w w10 := bt BA hb10
    clear hb10
    go_wp2_with fail
    refine (markCells_any r.length 1 vg w4'.heap.size _ w10 (own_kept HGA.out HB10.out) (by decide) (by decide) hrl).mono ?_
    rintro e w11 ⟨rfl, hown, hg11⟩
    have HM11 : Hid (w11.ownsRow w4'.heap.size 88 2 vg r.length (flat (cmarks 1 r.length))) := hown
    have B11 : Below w.heap.size w w11 := B10.grown hg11 B10.size fun g hg => by have := hob g hg; omega
    have hs10 := HB10.out.size
    have HV11 : Hid (w11.ownsRow w2'.heap.size 88 2 v0 r.length (flat r)) := own_same (own_kept HVA.out HB10.out) fun g hg => hg11.block g (by have := hoz g hg; omega) fun e => by have := hob g e.symm; have := hoz g hg; omega
    clear hown hg11
    have d0 : ((1 + 2 * (r.length : Int)) != (1 + 2 * (r.length : Int))) = false := by simp
    have d1 : (((1 + 2 * r.length : Nat) : Int) != ((1 + 2 * r.length : Nat) : Int)) = false := by simp
    go_wp2_with fail
    refine (heldCells_any r.length 1 vg w11 (cells_of_own (by rw [cmarks_len]; exact HM11.out)) (by decide) (by decide) hrl).mono ?_
    rintro e w12 ⟨rfl, hb12⟩
    have HB12 : Hid (Below _ _ w12) := hb12
    have B12 : Below w.heap.size w w12 := bt B11 hb12
    clear hb12
    go_wp2_with fail
    refine (toBlocks_any ps v _ (HT.out.below B12) HK.out).mono ?_
    rintro e w13 ⟨vh, qh, rfl, hqh, hown, hb13⟩
    have HQh : Hid (bks qh = bks ps) := hqh
    have HOh : Hid (OwnT w13 w12.heap.size vh qh) := hown
    have HB13 : Hid (Below _ _ w13) := hb13
    have B13 : Below w.heap.size w w13 := bt B12 hb13
    clear hqh hown hb13
    go_wp2_with fail
    refine (toInts_any row _ w13 (HU.out.below B13) HRW.out).mono ?_
    rintro e w13' ⟨uh, rfl, hown, hb13⟩
    have HUh : Hid (w13'.ownsRow w13.heap.size 3 1 uh row.length (flatR intF row)) := hown
    have HB13' : Hid (Below _ _ w13') := hb13
    have B13' : Below w.heap.size w w13' := bt B13 hb13
    clear hown hb13
    go_wp2_with fail
    have hsp := HI qh vh row uh w12.heap.size w13.heap.size w13' (HOh.out.below HB13'.out) HUh.out (by rw [HQh.out]; exact HK.out) HRW.out
    rw [HQh.out, HRR.out] at hsp
    refine hsp.mono ?_
    clear hsp
    rintro e w14 ⟨vz, rfl, hown, hb14⟩
    have HOz : Hid (w14.ownsRow w13'.heap.size 88 2 vz r.length (flat r)) := hown
    have HB14 : Hid (Below _ _ w14) := hb14
    have B14 : Below w.heap.size w w14 := bt B13' hb14
    clear hown hb14
    go_wp2_with fail
    refine (eqCells_yes r vz v0 w14 (cells_of_own HOz.out) ((cells_of_own HV11.out).below (bt (bt HB12.out HB13.out) (bt HB13'.out HB14.out))) HRL.out).mono ?_
    rintro e w15 ⟨rfl, hb15⟩
    have HB15 : Hid (Below _ _ w15) := hb15
    have B15 : Below w.heap.size w w15 := bt B14 hb15
    clear hb15
    go_wp2_with fail
    refine (heldCells_any r.length 1 vg w15 (cells_of_own (by rw [cmarks_len]; exact own_kept HM11.out (bt (bt HB12.out HB13.out) (bt (bt HB13'.out HB14.out) HB15.out)))) (by decide) (by decide) hrl).mono ?_
    rintro e w16 ⟨rfl, hb16⟩
    have B16 : Below w.heap.size w w16 := bt B15 hb16
    clear hb16
    go_wp2
    go_ret
    exact ⟨rfl, B16⟩

end Go.Proofs.Ytnghhfgbobpnkaq.WFnExactRowCells
