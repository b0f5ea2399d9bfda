/-
  The walk of the law FnExactClash: the specification's answer and the program's are the same; what came in is as it was.
-/
import Derived.Test.YtnghhfgbobpnkalBlkE
import Derived.Test.YtnghhfgbobpnkalBlkOpen
import Derived.Test.YtnghhfgbobpnkalHeightS
import Derived.Test.YtnghhfgbobpnkalHeightI
namespace Go.Proofs.Ytnghhfgbobpnkal.WFnExactClash
open Go.RowKit Num

set_option maxRecDepth 100000 in
set_option maxHeartbeats 4000000 in
theorem walk_of (HI : ∀ (ps : TL) (v : Value) (x y : Int) (w : World) (_ : TreeR w v ps) (_ : okT (bks ps)), Calls Try.prog 32 #[v, .int .i64 x, .int .i64 y] w fun e w' => e = .returned (.bool (clashT (bks ps) x y)) ∧ Below w.heap.size w w') (w : World) (v : Value) (ps : TL) (hT : TreeQ w v ps) (hl : ps.length ≤ maxLen) (hs : ∀ p ∈ ps, goodBk p.1 ∧ wfB p.1) (x y : Int) :
    Calls Try.prog 8 #[v, .int .i64 x, .int .i64 y] w fun e w' => e = .returned (.bool true) ∧ Below w.heap.size w w' := by
  have HI : Hid (∀ (ps : TL) (v : Value) (x y : Int) (w : World) (_ : TreeR w v ps) (_ : okT (bks ps)), Calls Try.prog 32 #[v, .int .i64 x, .int .i64 y] w fun e w' => e = .returned (.bool (clashT (bks ps) x y)) ∧ Below w.heap.size w w') := HI
  have HT : Hid (TreeQ w v ps) := hT
  have HS : Hid (∀ p ∈ ps, goodBk p.1 ∧ wfB p.1) := hs
  have hbl := bks_len ps
  clear hT hs
  go_enter Try.func8, Try.ntmps8
  go_wp2_with fail
  refine (szBlocks_any ps v 1048576 w (by decide) (by decide) HT.out (by unfold maxLen at hl; omega) (fun p hp => (HS.out p hp).1)).mono ?_
  rintro e w1 ⟨rfl, hb1⟩
  have B1 : Below w.heap.size w w1 := hb1
  by_cases hn0 : szBlocksC (bks ps) 1048576 < 0
  · go_wp2
    go_ret
    exact ⟨rfl, B1⟩
  · have hbd := szBlocks_bd (t := bks ps) (Int.le_refl _) (Int.not_lt.1 hn0)
    have HK : Hid (okT (bks ps)) := hbd.1
    have hle0 := hbd.2
    have hge0 := Int.not_lt.1 hn0
    have hpl : (ps.length : Int) ≤ 1048576 := by have := hbd.1.1; rw [hbl] at this; exact this
    clear hbd
    obtain ⟨l0, hl0⟩ : ∃ l0, l0 = szBlocksC (bks ps) 1048576 := ⟨_, rfl⟩
    rw [← hl0] at hn0 hle0 hge0 ⊢
    clear hl0
    go_wp2_with fail
    refine (toBlocks_any ps v _ (HT.out.below B1) HK.out).mono ?_
    rintro e w2 ⟨va, qa, rfl, hqa, hown, hb2⟩
    have HQa : Hid (bks qa = bks ps) := hqa
    have HOa : Hid (OwnT w2 _ va qa) := hown
    have B2 : Below w.heap.size w w2 := bt B1 hb2
    have HLa : Hid ((qa.length : Int) ≤ 1048576) := (by have := congrArg List.length hqa; rw [bks_len, bks_len] at this; omega : (qa.length : Int) ≤ 1048576)
    clear hqa hown
    go_wp2_with fail
    refine (clash_s qa va x y _ HOa.out.read.q HLa.out).mono ?_
    rintro e w3 ⟨rfl, hw3⟩
    have B3 : Below w.heap.size w w3 := by rw [hw3]; exact B2
    clear hw3
    rw [HQa.out]
    go_wp2_with fail
    refine (toBlocks_any ps v _ (HT.out.below B3) HK.out).mono ?_
    rintro e w4 ⟨vx, qx, rfl, hqx, hown, hb4⟩
    have HQx : Hid (bks qx = bks ps) := hqx
    have HOx : Hid (OwnT w4 _ vx qx) := hown
    have B4 : Below w.heap.size w w4 := bt B3 hb4
    clear hqx hown
    go_wp2_with fail
    refine (HI.out qx vx x y _ HOx.out.read (by rw [HQx.out]; exact HK.out)).mono ?_
    rintro e w5 ⟨rfl, hb5⟩
    have B5 : Below w.heap.size w w5 := bt B4 hb5
    rw [HQx.out]
    obtain ⟨r, hr⟩ : ∃ r, r = clashT (bks ps) x y := ⟨_, rfl⟩
    rw [← hr]
    clear hr
    cases r
    all_goals
      go_wp2_with fail
      refine (toBlocks_any ps v _ (HT.out.below B5) HK.out).mono ?_
      rintro e w6 ⟨vy, qy, rfl, hqy, hown, hb6⟩
      have HQy : Hid (bks qy = bks ps) := hqy
      have HOy : Hid (OwnT w6 _ vy qy) := hown
      have B6 : Below w.heap.size w w6 := bt B5 hb6
      clear hqy hown
      go_wp2_with fail
      refine (eqBlocks_yes qx qy vx vy w6 (HOx.out.read.below (bt hb5 hb6)).q HOy.out.read.q (by rw [HQx.out, HQy.out]) (by rw [HQx.out]; exact HK.out)).mono ?_
      rintro e w7 ⟨rfl, hb7⟩
      have B7 : Below w.heap.size w w7 := bt B6 hb7
      go_wp2
      go_ret
      exact ⟨rfl, B7⟩

theorem walk (w : World) (v : Value) (ps : TL) (hT : TreeQ w v ps) (hl : ps.length ≤ maxLen) (hs : ∀ p ∈ ps, goodBk p.1 ∧ wfB p.1) (x : Int) (_ : (Lit.int .i64 x).wf = true) (y : Int) (_ : (Lit.int .i64 y).wf = true) :
    Calls Try.prog 8 #[v, .int .i64 x, .int .i64 y] w fun e w' => e = .returned (.bool true) ∧ Below w.heap.size w w' :=
  walk_of (fun ps v x y w hT hk => clash_i ps v x y w hT.q (by have := hk.1; rw [bks_len] at this; exact this)) w v ps hT hl hs x y

end Go.Proofs.Ytnghhfgbobpnkal.WFnExactClash
