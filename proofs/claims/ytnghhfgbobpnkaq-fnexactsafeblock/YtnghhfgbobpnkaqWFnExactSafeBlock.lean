/-
  The walk of the law FnExactSafeBlock: the specification's answer and the program's are the same; what came in is as it was.
-/
import Derived.Test.YtnghhfgbobpnkaqVotesL
import Derived.Test.YtnghhfgbobpnkaqSafeB
import Derived.Test.YtnghhfgbobpnkaqBlkE
import Derived.Test.YtnghhfgbobpnkaqBlkOpen
import Derived.OpenShut
import Derived.Deep.RegionHeld3
namespace Go.Proofs.Ytnghhfgbobpnkaq.WFnExactSafeBlock
open Go.RowKit Num

/-- the program's contract -/
def Prg : Prop := ∀ (ps : TL) (v : Value) (x : QC) (_ : wfQ x) (n : Int) (_ : (Lit.int .i64 n).wf = true) (w : World) (_ : TreeR w v ps) (_ : okT (bks ps)), Calls Try.prog 28 #[v, qcVal x, .int .i64 n] w fun e w' => e = .returned (.bool (safeB (bks ps) x n)) ∧ Below w.heap.size w w'

set_option maxRecDepth 100000 in
set_option maxHeartbeats 8000000 in
theorem walk_of (HI : Prg) (w : World) (v : Value) (ps : TL) (hT : TreeQ w v ps) (hl : ps.length ≤ maxLen) (hs : ∀ p ∈ ps, goodBk p.1 ∧ wfB p.1) (x : QC) (hx : wfQ x) (n : Int) (hn : (Lit.int .i64 n).wf = true) :
    Calls Try.prog 5 #[v, qcVal x, .int .i64 n] w fun e w' => e = .returned (.bool true) ∧ Below w.heap.size w w' := by
  have HI : Hid (∀ (ps : TL) (v : Value) (x : QC) (_ : wfQ x) (n : Int) (_ : (Lit.int .i64 n).wf = true) (w : World) (_ : TreeR w v ps) (_ : okT (bks ps)), Calls Try.prog 28 #[v, qcVal x, .int .i64 n] w fun e w' => e = .returned (.bool (safeB (bks ps) x n)) ∧ Below w.heap.size w w') := HI
  have HWX : Hid (wfQ x) := hx
  have HT0 : Hid (TreeQ w v ps) := hT
  have HS : Hid (∀ p ∈ ps, goodBk p.1 ∧ wfB p.1) := hs
  have hbl := bks_len ps
  clear hT hs hx
  obtain ⟨x0, x1, x2, x3⟩ := x
  unfold qcVal
  simp only
  obtain ⟨W, hW⟩ : ∃ W, W = w.alloc (Obj.cells #[.int .i64 x0, .int .i64 x1, .int .i64 x2, .int .i64 x3] 45) := ⟨_, rfl⟩
  have HW : Hid (Below w.heap.size w W ∧ W.heap[w.heap.size]? = some (.cells #[.int .i64 x0, .int .i64 x1, .int .i64 x2, .int .i64 x3] 45 (0, 0))) := by
    rw [hW]
    exact ⟨ba (Below.refl _ _) _, heap_alloc_new w _⟩
  have l0 : w.heap.size < W.heap.size := (Array.getElem?_eq_some_iff.1 HW.out.2).1
  have HKx : Hid (∀ w', Below W.heap.size W w' → w'.cell? ⟨w.heap.size, 0, none⟩ = some (.int .i64 x0) ∧ w'.cell? ⟨w.heap.size, 1, none⟩ = some (.int .i64 x1) ∧ w'.cell? ⟨w.heap.size, 2, none⟩ = some (.int .i64 x2) ∧ w'.cell? ⟨w.heap.size, 3, none⟩ = some (.int .i64 x3)) := fun w' h' => vote_cells ((h'.block _ l0).trans HW.out.2)
  have HCx : Hid (∀ w', Calls Try.prog 27 #[.agg #[.int .i64 x0, .int .i64 x1, .int .i64 x2, .int .i64 x3]] w' fun e w'' => e = .returned (.agg #[.int .i64 x0, .int .i64 x1, .int .i64 x2, .int .i64 x3]) ∧ Below w'.heap.size w' w'') := fun w' => toQc_any (x0, x1, x2, x3) w'
  have HT : Hid (TreeQ W v ps) := HT0.out.below HW.out.1
  go_enter Try.func5, Try.ntmps5
  go_wp2_with fail
  rw [← hW]
  clear hW
  refine (szBlocks_any ps v 1048576 W (by decide) (by decide) HT.out (by unfold maxLen at hl; omega) (fun p hp => (HS.out p hp).1)).mono ?_
  rintro e w1 ⟨rfl, B1⟩
  by_cases hn0 : szBlocksC (bks ps) 1048576 < 0
  · go_wp2
    go_ret
    exact ⟨rfl, bt HW.out.1 B1⟩
  · have hbd := szBlocks_bd (t := bks ps) (Int.le_refl _) (Int.not_lt.1 hn0)
    have HK : Hid (okT (bks ps)) := hbd.1
    have hge0 := Int.not_lt.1 hn0
    have hpl : (ps.length : Int) ≤ 1048576 := by have := hbd.1.1; rw [hbl] at this; exact this
    have hle0 := hbd.2
    clear hbd
    obtain ⟨l0', hl0⟩ : ∃ l0', l0' = szBlocksC (bks ps) 1048576 := ⟨_, rfl⟩
    rw [← hl0] at hn0 hle0 hge0 ⊢
    clear hl0
    obtain ⟨k0, k1, k2, k3⟩ := HKx.out w1 B1
    go_wp2
    go_region_held3 (fun w' => w'.cell? ⟨w.heap.size, 0, none⟩ = some (.int .i64 x0) ∧ w'.cell? ⟨w.heap.size, 1, none⟩ = some (.int .i64 x1) ∧ w'.cell? ⟨w.heap.size, 2, none⟩ = some (.int .i64 x2) ∧ w'.cell? ⟨w.heap.size, 3, none⟩ = some (.int .i64 x3)) (first | exact HKx.out _ B1.drew | exact HKx.out _ B2 | exact HKx.out _ B3 | exact HKx.out _ B4) (first
      | (go_at_call 27; have hbi := B2; clear hbi; refine (HCx.out _).mono ?_; rintro e w3 ⟨rfl, hb⟩; have HB3 : Hid (Below _ _ w3) := hb; have B3 : Below W.heap.size W w3 := bt B2 hb; clear hb)
      | (go_at_call 11; refine (toBlocks_any ps v _ (HT.out.below B1.drew) HK.out).mono ?_; rintro e w2 ⟨va, qa, rfl, hq, hown, hb⟩; have HQa : Hid (bks qa = bks ps) := hq; have HOa : Hid (OwnT w2 _ va qa) := hown; have HLa : Hid ((qa.length : Int) ≤ 1048576) := bks_fit hq hpl; have HB2 : Hid (Below _ _ w2) := hb; have B2 : Below W.heap.size W w2 := bt B1.drew hb; clear hq hown hb)
      | (go_at_call 26; have hsp := safeBlock_s qa va (x0, x1, x2, x3) n _ (HOa.out.read.below HB3.out).q HLa.out; rw [HQa.out] at hsp; refine hsp.mono ?_; clear hsp; rintro e w4 ⟨rfl, hb⟩; have B4 : Below W.heap.size W w4 := bt B3 hb; clear hb))
    clear k0 k1 k2 k3
    obtain ⟨r, hr⟩ : ∃ r, r = safeB (bks ps) (x0, x1, x2, x3) n := ⟨_, rfl⟩
    have HRR : Hid (safeB (bks ps) (x0, x1, x2, x3) n = r) := hr.symm
    rw [← hr]
    clear hr
    go_wp2_with fail
    refine (toBlocks_any ps v _ (HT.out.below B4) HK.out).mono ?_
    rintro e w5 ⟨vx, qx, rfl, hq, hown, hb⟩
    have HQx : Hid (bks qx = bks ps) := hq
    have HOx : Hid (OwnT w5 _ vx qx) := hown
    have HLx : Hid ((qx.length : Int) ≤ 1048576) := bks_fit hq hpl
    have B5 : Below W.heap.size W w5 := bt B4 hb
    clear hq hown hb
    obtain ⟨k0, k1, k2, k3⟩ := HKx.out w5 B5
    go_wp2_with fail
    clear k0 k1 k2 k3
    refine (HCx.out _).mono ?_
    rintro e w6 ⟨rfl, hb6⟩
    have HB6 : Hid (Below _ _ w6) := hb6
    have B6 : Below W.heap.size W w6 := bt B5 hb6
    clear hb6
    go_wp2_with fail
    have hsp := HI.out qx vx (x0, x1, x2, x3) HWX.out n hn w6 (HOx.out.read.below HB6.out) (by rw [HQx.out]; exact HK.out)
    rw [HQx.out] at hsp
    rw [HRR.out] at hsp
    refine hsp.mono ?_
    clear hsp
    rintro e w7 ⟨rfl, hb7⟩
    have HB7 : Hid (Below _ _ w7) := hb7
    have B7 : Below W.heap.size W w7 := bt B6 hb7
    clear hb7
    cases r
    all_goals
      go_wp2_with fail
      refine (toBlocks_any ps v _ (HT.out.below B7) HK.out).mono ?_
      rintro e w8 ⟨vy, qy, rfl, hq, hown, hb⟩
      have HQy : Hid (bks qy = bks ps) := hq
      have HOy : Hid (OwnT w8 _ vy qy) := hown
      have HLy : Hid ((qy.length : Int) ≤ 1048576) := bks_fit hq hpl
      have HB8 : Hid (Below _ _ w8) := hb
      have B8 : Below W.heap.size W w8 := bt B7 hb
      clear hq hown hb
      go_wp2_with fail
      refine (eqBlocks_yes qx qy vx vy w8 (HOx.out.read.below (bt (bt HB6.out HB7.out) HB8.out)).q HOy.out.read.q (by rw [HQx.out, HQy.out]) (by rw [HQx.out]; exact HK.out)).mono ?_
      rintro e w9 ⟨rfl, hb9⟩
      have B9 : Below W.heap.size W w9 := bt B8 hb9
      clear hb9
      go_wp2
      go_ret
      exact ⟨rfl, bt HW.out.1 B9⟩

end Go.Proofs.Ytnghhfgbobpnkaq.WFnExactSafeBlock
