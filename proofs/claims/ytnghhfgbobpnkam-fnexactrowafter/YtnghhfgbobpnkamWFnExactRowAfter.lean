/-
  The walk of the law FnExactRowAfter: the specification's answer and the program's are the same; what came in is as it was; the answer's memory is its own.
-/
import Derived.Test.YtnghhfgbobpnkamBlkE
import Derived.Test.YtnghhfgbobpnkamBlkOpen
import Derived.Test.YtnghhfgbobpnkamBlkM
import Derived.Test.YtnghhfgbobpnkamBlkW
import Derived.Test.YtnghhfgbobpnkamRowS
import Derived.Test.YtnghhfgbobpnkamRowI
namespace Go.Proofs.Ytnghhfgbobpnkam.WFnExactRowAfter
open Go.RowKit Num

set_option maxRecDepth 100000 in
set_option maxHeartbeats 8000000 in
theorem walk (w : World) (v : Value) (ps : TL) (hT : TreeQ w v ps) (hl : ps.length ≤ maxLen) (hs : ∀ p ∈ ps, goodBk p.1 ∧ wfB p.1) (k : Int) (_ : (Lit.int .i64 k).wf = true) (under : Int) (_ : (Lit.int .i64 under).wf = true) :
    Calls Try.prog 3 #[v, .int .i64 k, .int .i64 under] w fun e w' => e = .returned (.bool true) ∧ Below w.heap.size w w' := by
  have HT : Hid (TreeQ w v ps) := hT
  have HS : Hid (∀ p ∈ ps, goodBk p.1 ∧ wfB p.1) := hs
  have hbl := bks_len ps
  clear hT hs
  go_enter Try.func3, Try.ntmps3
  go_wp2_with fail
  refine (szBlocks_any ps v 1048576 w (by decide) (by decide) HT.out (by unfold maxLen at hl; omega) (fun p hp => (HS.out p hp).1)).mono ?_
  rintro e w1 ⟨rfl, hb1⟩
  have B1 : Below w.heap.size w w1 := hb1
  by_cases hn0 : szBlocksC (bks ps) 1048576 < 0
  · go_wp2
    go_ret
    exact ⟨rfl, B1⟩
  · have hbd := szBlocks_bd (t := bks ps) (Int.le_refl _) (Int.not_lt.1 hn0)
    have HK : Hid (okT (bks ps)) := hbd.1
    have hge0 := Int.not_lt.1 hn0
    have hpl : (ps.length : Int) ≤ 1048576 := by have := hbd.1.1; rw [hbl] at this; exact this
    have HWT : Hid (6 * wtB (bks ps) ≤ 6291456) := (by have := szBlocks_wt hge0; omega : 6 * wtB (bks ps) ≤ 6291456)
    have hle0 := hbd.2
    clear hbd
    obtain ⟨l0, hl0⟩ : ∃ l0, l0 = szBlocksC (bks ps) 1048576 := ⟨_, rfl⟩
    rw [← hl0] at hn0 hle0 hge0 ⊢
    clear hl0
    obtain ⟨r, hr⟩ : ∃ r, r = afterI (bks ps) k under := ⟨_, rfl⟩
    have HRR : Hid (afterI (bks ps) k under = r) := hr.symm
    have hrl : r.length ≤ 1048576 := by
      have h1 : (afterI (bks ps) k under).length ≤ (bks ps).length := after_le _ _ _
      rw [← hr, hbl] at h1
      omega
    clear hr
    have HRL : Hid ((r.length : Int) ≤ 1048576) := (by omega : (r.length : Int) ≤ 1048576)
    go_wp2_with fail
    refine (toBlocks_any ps v _ (HT.out.below B1) HK.out).mono ?_
    rintro e w2 ⟨va, qa, rfl, hqa, hown, hb2⟩
    have HQa : Hid (bks qa = bks ps) := hqa
    have HOa : Hid (OwnT w2 _ va qa) := hown
    have B2 : Below w.heap.size w w2 := bt B1 hb2
    have HLa : Hid ((qa.length : Int) ≤ 1048576) := (by have := congrArg List.length hqa; rw [bks_len, bks_len] at this; omega : (qa.length : Int) ≤ 1048576)
    clear hqa hown hb2
    go_wp2_with fail
    have hsp := rowAfter_s qa va k under w2 HOa.out.read.q HLa.out
    rw [HQa.out, HRR.out] at hsp
    refine hsp.mono ?_
    clear hsp
    rintro e w3 ⟨v0, rfl, hown, hb3⟩
    have HO0 : Hid (w3.ownsRow w2.heap.size 3 1 v0 r.length (flatR intF r)) := hown
    have B3 : Below w.heap.size w w3 := bt B2 hb3
    clear hown hb3
    go_wp2_with fail
    refine (toBlocks_any ps v _ (HT.out.below B3) HK.out).mono ?_
    rintro e w4 ⟨vx, qx, rfl, hqx, hown, hb4⟩
    have HQx : Hid (bks qx = bks ps) := hqx
    have HOx : Hid (OwnT w4 w3.heap.size vx qx) := hown
    have HB4 : Hid (Below _ _ w4) := hb4
    have B4 : Below w.heap.size w w4 := bt B3 hb4
    have HLx : Hid ((qx.length : Int) ≤ 1048576) := (by have := congrArg List.length hqx; rw [bks_len, bks_len] at this; omega : (qx.length : Int) ≤ 1048576)
    clear hqx hown hb4
    go_wp2_with fail
    have hsp := rowAfter_i qx vx k under w4 HOx.out.read.q HLx.out
    rw [HQx.out, HRR.out] at hsp
    refine hsp.mono ?_
    clear hsp
    rintro e w5 ⟨vg, rfl, hown, hb5⟩
    have HOg : Hid (w5.ownsRow w4.heap.size 3 1 vg r.length (flatR intF r)) := hown
    have HB5 : Hid (Below _ _ w5) := hb5
    have B5 : Below w.heap.size w w5 := bt B4 hb5
    clear hown hb5
    go_wp2_with fail
    refine (eqInts_yes r vg v0 w5 (rows_of_own intF_len HOg.out) ((rows_of_own intF_len HO0.out).below (bt HB4.out HB5.out)) HRL.out).mono ?_
    rintro e w6 ⟨rfl, hb6⟩
    have HB6 : Hid (Below _ _ w6) := hb6
    have B6 : Below w.heap.size w w6 := bt B5 hb6
    clear hb6
    go_wp2_with fail
    refine (toBlocks_any ps v _ (HT.out.below B6) HK.out).mono ?_
    rintro e w7 ⟨vy, qy, rfl, hqy, hown, hb7⟩
    have HQy : Hid (bks qy = bks ps) := hqy
    have HOy : Hid (OwnT w7 _ vy qy) := hown
    have HB7 : Hid (Below _ _ w7) := hb7
    have B7 : Below w.heap.size w w7 := bt B6 hb7
    clear hqy hown hb7
    go_wp2_with fail
    refine (eqBlocks_yes qx qy vx vy w7 (HOx.out.read.below (bt (bt HB5.out HB6.out) HB7.out)).q HOy.out.read.q (by rw [HQx.out, HQy.out]) (by rw [HQx.out]; exact HK.out)).mono ?_
    rintro e w8 ⟨rfl, hb8⟩
    have HB8 : Hid (Below _ _ w8) := hb8
    have B8 : Below w.heap.size w w8 := bt B7 hb8
    clear hb8
    have hs3 := B3.size
    have hs4 := HB4.out.size
    have hs5 := HB5.out.size
    have hs8 := (bt (bt HB6.out HB7.out) HB8.out).size
    have HNX : Hid (tnum 1 qx ≤ 10000000) := (by have h1 := tnum_wt qx 1; rw [HQx.out] at h1; have h2 := HWT.out; omega : tnum 1 qx ≤ 10000000)
    have hn1 := tnum_le qx 1
    go_wp2_with fail
    refine (markBlocks_own qx 1 w3.heap.size w4.heap.size vx w8 (HOx.out.below (bt (bt (bt HB5.out HB6.out) HB7.out) HB8.out)) HOx.out.lim (by decide) HNX.out (okT_len HK.out HQx.out) (okT_cmds HK.out HQx.out)).mono ?_
    rintro e w9 ⟨rfl, _, hw9⟩
    have hs9 := hw9.size
    have B9 : Below w.heap.size w w9 := Wn.below B8 hw9 hs3 B8.size
    have HV9 : Hid (w9.ownsRow w2.heap.size 3 1 v0 r.length (flatR intF r)) := own_kp HO0.out ((Kp.of_below (bt (bt (bt (bt HB4.out HB5.out) HB6.out) HB7.out) HB8.out) (Nat.le_refl _)).trans (Kp.of_wn hw9 (by omega) (Or.inl (Nat.le_refl _))))
    have HG9 : Hid (w9.ownsRow w4.heap.size 3 1 vg r.length (flatR intF r)) := own_kp HOg.out ((Kp.of_below (bt (bt HB6.out HB7.out) HB8.out) (Nat.le_refl _)).trans (Kp.of_wn hw9 (by omega) (Or.inr (Nat.le_refl _))))
    clear hw9
    obtain ⟨t, ht⟩ : ∃ t, t = tnum 1 qx := ⟨_, rfl⟩
    rw [← ht] at hn1 ⊢
    clear ht
    have hnn : ¬ ((t : Int) < 0) := by omega
    go_wp2_with fail
    refine (eqInts_yes r vg v0 w9 (rows_of_own intF_len HG9.out) (rows_of_own intF_len HV9.out) HRL.out).mono ?_
    rintro e w10 ⟨rfl, hb10⟩
    have HB10 : Hid (Below _ _ w10) := hb10
    have B10 : Below w.heap.size w w10 := bt B9 hb10
    clear hb10
    go_wp2_with fail
    refine (markInts_any r.length 1 vg w4.heap.size _ w10 (own_kept HG9.out HB10.out) (by decide) hrl).mono ?_
    rintro e w11 ⟨rfl, hown, hg11⟩
    have HM11 : Hid (w11.ownsRow w4.heap.size 3 1 vg r.length (flatR intF (imarks 1 r.length))) := hown
    have hob : ∀ g, vg.ownBlock = some g → w4.heap.size ≤ g ∧ g < w5.heap.size := HOg.out.lt
    have hoz : ∀ g, v0.ownBlock = some g → w2.heap.size ≤ g ∧ g < w3.heap.size := HO0.out.lt
    have B11 : Below w.heap.size w w11 := B10.grown hg11 B10.size fun g hg => by have := hob g hg; omega
    have hs10 := HB10.out.size
    have HV11 : Hid (w11.ownsRow w2.heap.size 3 1 v0 r.length (flatR intF r)) := own_same (own_kept HV9.out HB10.out) fun g hg => hg11.block g (by have := hoz g hg; omega) fun e => by have := hob g e.symm; have := hoz g hg; omega
    clear hown hg11
    have d0 : ((1 + (r.length : Int)) != (1 + (r.length : Int))) = false := by simp
    have d1 : (((1 + r.length : Nat) : Int) != ((1 + r.length : Nat) : Int)) = false := by simp
    go_wp2_with fail
    refine (heldInts_any r.length 1 vg w11 (rows_of_own intF_len (by rw [imarks_len]; exact HM11.out)) (by decide) hrl).mono ?_
    rintro e w12 ⟨rfl, hb12⟩
    have HB12 : Hid (Below _ _ w12) := hb12
    have B12 : Below w.heap.size w w12 := bt B11 hb12
    clear hb12
    go_wp2_with fail
    refine (toBlocks_any ps v _ (HT.out.below B12) HK.out).mono ?_
    rintro e w13 ⟨vh, qh, rfl, hqh, hown, hb13⟩
    have HQh : Hid (bks qh = bks ps) := hqh
    have HOh : Hid (OwnT w13 _ vh qh) := hown
    have HB13 : Hid (Below _ _ w13) := hb13
    have B13 : Below w.heap.size w w13 := bt B12 hb13
    have HLh : Hid ((qh.length : Int) ≤ 1048576) := (by have := congrArg List.length hqh; rw [bks_len, bks_len] at this; omega : (qh.length : Int) ≤ 1048576)
    clear hqh hown hb13
    go_wp2_with fail
    have hsp := rowAfter_i qh vh k under w13 HOh.out.read.q HLh.out
    rw [HQh.out, HRR.out] at hsp
    refine hsp.mono ?_
    clear hsp
    rintro e w14 ⟨vz, rfl, hown, hb14⟩
    have HOz : Hid (w14.ownsRow w13.heap.size 3 1 vz r.length (flatR intF r)) := hown
    have HB14 : Hid (Below _ _ w14) := hb14
    have B14 : Below w.heap.size w w14 := bt B13 hb14
    clear hown hb14
    go_wp2_with fail
    refine (eqInts_yes r vz v0 w14 (rows_of_own intF_len HOz.out) ((rows_of_own intF_len HV11.out).below (bt (bt HB12.out HB13.out) HB14.out)) HRL.out).mono ?_
    rintro e w15 ⟨rfl, hb15⟩
    have HB15 : Hid (Below _ _ w15) := hb15
    have B15 : Below w.heap.size w w15 := bt B14 hb15
    clear hb15
    go_wp2_with fail
    refine (heldInts_any r.length 1 vg w15 (rows_of_own intF_len (by rw [imarks_len]; exact own_kept HM11.out (bt (bt (bt HB12.out HB13.out) HB14.out) HB15.out))) (by decide) hrl).mono ?_
    rintro e w16 ⟨rfl, hb16⟩
    have B16 : Below w.heap.size w w16 := bt B15 hb16
    clear hb16
    go_wp2
    go_ret
    exact ⟨rfl, B16⟩

end Go.Proofs.Ytnghhfgbobpnkam.WFnExactRowAfter
