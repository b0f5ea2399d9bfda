/-
  The walk of the law FnExactTooEarly: the specification's answer and the program's are the same; what came in is as it was; the program's answer owns its memory. (Made by gl10t.py.)
-/
import Derived.Test.YtnghhfgbobpnkarGreatREarN
import Derived.Test.YtnghhfgbobpnkarGreatRBlkE
import Derived.Test.YtnghhfgbobpnkarGreatRBlkM
import Derived.Test.YtnghhfgbobpnkarGreatRBlkOpen
namespace Go.Proofs.YtnghhfgbobpnkarGreatR.WFnExactTooEarly
open Go.RowKit Num

/-- the program's contract -/
def Prg : Prop := ∀ (ps : TL) (v : Value) (b : Nat) (p : PE) (s : PV) (lo hi : Nat) (k : Int) (w : World) (_ : OwnT w b v ps) (_ : okT (bks ps)) (_ : OwnD lo hi w p s) (_ : smallPe p) (_ : goodPe p) (_ : (Lit.int .i64 k).wf = true), Calls Tryz.prog 18 #[v, peerV p s, .int .i64 k] w fun e w' => ∃ s', e = .returned (peerV (earlyP (bks ps) p k) s') ∧ OwnD w.heap.size w'.heap.size w' (earlyP (bks ps) p k) s' ∧ Below w.heap.size w w'

set_option maxRecDepth 100000 in
set_option maxHeartbeats 32000000 in
theorem walk_of (HI : Prg) (w : World) (v : Value) (ps : TL) (hT : TreeQ w v ps) (hl : ps.length ≤ maxLen) (hs : ∀ p ∈ ps, goodBk p.1 ∧ wfB p.1) (p : PE) (s : PV) (hR : PeerR w p s) (hg : goodPe p) (k : Int) (hwk : (Lit.int .i64 k).wf = true) :
    Calls Tryz.prog 4 #[v, peerV p s, .int .i64 k] w fun e w' => e = .returned (.bool true) ∧ Below w.heap.size w w' := by
  have HT : Hid (TreeQ w v ps) := hT
  have HSB : Hid (∀ p ∈ ps, goodBk p.1 ∧ wfB p.1) := hs
  have HR : Hid (PeerR w p s) := hR
  have HG : Hid (goodPe p) := hg
  have HWk : Hid ((Lit.int .i64 k).wf = true) := hwk
  have hbl := bks_len ps
  unfold maxLen at hl
  clear hT hs hR hg hwk
  obtain ⟨X, hX⟩ : ∃ X, X = w.alloc (.cells (peerA p s) 33) := ⟨_, rfl⟩
  have HB : Hid (Below w.heap.size w X) := (by rw [hX]; exact ba (Below.refl _ _) _ : Below w.heap.size w X)
  have HKa : Hid (X.heap[w.heap.size]? = Option.some (.cells (peerA p s) 33 (0, 0))) := (by rw [hX]; exact heap_alloc_new w _ : X.heap[w.heap.size]? = _)
  have HZ0 : Hid (w.heap.size < X.heap.size) := (Array.getElem?_eq_some_iff.1 HKa.out).1
  go_enter Tryz.func4, Tryz.ntmps4
  go_wp2_with fail
  rw [← hX]
  clear hX
  refine (szBlocks_any ps v 1048576 X (by decide) (by decide) (HT.out.below HB.out) (by omega) (fun p hp => (HSB.out p hp).1)).mono ?_
  rintro e x1 ⟨rfl, hb⟩
  have HBN : Hid (Below w.heap.size w x1) := bt HB.out hb
  have HKaN : Hid (x1.heap[w.heap.size]? = Option.some (.cells (peerA p s) 33 (0, 0))) := (hb.block _ (Array.getElem?_eq_some_iff.1 HKa.out).1).trans HKa.out
  have HZ1 : Hid (X.heap.size ≤ x1.heap.size) := hb.size
  clear HB HKa
  have HB := HBN
  clear HBN
  have HKa := HKaN
  clear HKaN
  clear hb
  by_cases hn0 : szBlocksC (bks ps) 1048576 < 0
  · go_wp2
    go_ret
    exact ⟨rfl, HB.out⟩
  have hbd := szBlocks_bd (t := bks ps) (Int.le_refl _) (Int.not_lt.1 hn0)
  have HK : Hid (okT (bks ps)) := hbd.1
  have hge0 := Int.not_lt.1 hn0
  have hpl : (ps.length : Int) ≤ 1048576 := by have := hbd.1.1; rw [hbl] at this; exact this
  have hwt := szBlocks_wt hge0
  have hle0 := hbd.2
  obtain ⟨z0, hz0⟩ : ∃ z0, z0 = szBlocksC (bks ps) 1048576 := ⟨_, rfl⟩
  rw [← hz0] at hn0 hle0 hge0 hwt ⊢
  clear hz0 hbd
  have HWT : Hid (z0 ≤ 1048576 - (wtB (bks ps) : Int)) := hwt
  clear hwt
  go_wp2_with (first | (refine wpList_load_row rfl _ _ rfl w.heap.size rfl 33 _ (0, 0) _ HKa.out Tryz.underlying33 rfl (by kernel_rfl) ?_) | (refine wpList_load_row_w (by first | rfl | simp [Region.wanted, yielded] | simp [Region.wanted, yielded, hk0]) _ _ rfl w.heap.size rfl 33 _ (0, 0) _ HKa.out Tryz.underlying33 rfl (by kernel_rfl) ?_))
  refine (szPeer_any p s z0 x1 hge0 hle0 (HR.out.below HB.out) HG.out).mono ?_
  rintro e x2 ⟨z, rfl, hz, hb⟩
  have HBN : Hid (Below w.heap.size w x2) := bt HB.out hb
  have HKaN : Hid (x2.heap[w.heap.size]? = Option.some (.cells (peerA p s) 33 (0, 0))) := (hb.block _ (Array.getElem?_eq_some_iff.1 HKa.out).1).trans HKa.out
  have HZ2 : Hid (x1.heap.size ≤ x2.heap.size) := hb.size
  clear HB HKa
  have HB := HBN
  clear HBN
  have HKa := HKaN
  clear HKaN
  clear hb
  rcases hz with rfl | ⟨hz1, hsum, hsm⟩
  · go_wp2
    go_ret
    exact ⟨rfl, HB.out⟩
  have HS : Hid (smallPe p) := hsm
  have HLP : Hid (lenPe p + wtB (bks ps) ≤ 1048576) := (by have := HWT.out; unfold lenPe; omega : lenPe p + wtB (bks ps) ≤ 1048576)
  have HSM : Hid (sumPe p) := (by have a0 := hsm.row; have a1 := hsm.cells; have a2 := hsm.early; have a3 := hsm.undos; have a4 := hsm.votes; have a5 := hsm.news; have := HLP.out; exact ⟨by omega, by omega, by omega, by omega, by omega, by omega, by omega⟩ : sumPe p)
  have HSQ : Hid (smallPe (earlyP (bks ps) p k)) := early_small HS.out HK.out HLP.out
  have HMQ : Hid (sumPe (earlyP (bks ps) p k)) := early_sum HS.out HK.out HLP.out
  obtain ⟨Q, hQ⟩ : ∃ Q, Q = earlyP (bks ps) p k := ⟨_, rfl⟩
  have HQ : Hid (earlyP (bks ps) p k = Q) := hQ.symm
  rw [← hQ] at HSQ HMQ
  clear hQ hsm hsum
  go_wp2
  refine wp_region_H (Below x2.heap.size x2) (by kernel_rfl) ?_
  show wpAnyH Tryz.prog _ _ _ _ (7 + 1) (Array.replicate 8 false) _ _
  refine fl_in (i := 6) (d := some 8) (obj := .cells zeroA 43 (0, 0)) (base := x2.heap.size) (T := Below x2.heap.size x2) (f := 7) ?_ (Below.refl _ _).drew
  refine fl_take (j := 0) (e' := some 26) (v := v) rfl rfl rfl rfl (by kernel_rfl) (by kernel_rfl) (by kernel_rfl) (by kernel_rfl) (by kernel_rfl) (by decide) (by kernel_rfl) (fun _ _ _ h => h) (fun _ h => h) (Or.inl ⟨by rfl, ?_⟩) ?_
  · intro x hx
    go_simp
    try with_reducible rfl
  simp only [Act.put, List.setIfInBounds_toArray, List.set_cons_zero, List.set_cons_succ]
  refine fl_take (j := 2) (e' := some 28) (v := .agg (peerA p s)) rfl rfl rfl rfl (by kernel_rfl) (by kernel_rfl) (by kernel_rfl) (by kernel_rfl) (by kernel_rfl) (by decide) (by kernel_rfl) (fun _ _ _ h => h) (fun _ h => h) (Or.inl ⟨by rfl, ?_⟩) ?_
  · exact fun x hx => exec_load_blk _ _ rfl w.heap.size rfl _ _ _ _ ((hx.block _ (Array.getElem?_eq_some_iff.1 HKa.out).1).trans HKa.out) Tryz.underlying33 rfl (by kernel_rfl)
  simp only [Act.put, List.setIfInBounds_toArray, List.set_cons_zero, List.set_cons_succ]
  refine fl_take (j := 4) (e' := some 30) (v := .int .i64 k) rfl rfl rfl rfl (by kernel_rfl) (by kernel_rfl) (by kernel_rfl) (by kernel_rfl) (by kernel_rfl) (by decide) (by kernel_rfl) (fun _ _ _ h => h) (fun _ h => h) (Or.inl ⟨by rfl, ?_⟩) ?_
  · intro x hx
    go_simp
    try with_reducible rfl
  simp only [Act.put, List.setIfInBounds_toArray, List.set_cons_zero, List.set_cons_succ]
  refine fl_call (c := 1) (e' := some 27) (fn := 9) (args := #[v]) (T' := fun v' x => ∃ qa, bks qa = bks ps ∧ (OwnT x x2.heap.size v' qa ∧ Below x2.heap.size x2 x)) rfl rfl ⟨rfl, fun ρ x => ?_⟩ (fun _ h => h.size) (fun a b h hb => bt h hb) (fun _ h => h) rfl rfl (by kernel_rfl) (Or.inl (by kernel_rfl)) (by kernel_rfl) (by decide) (by kernel_rfl) (by rfl) (fun x => ?_) (fun x hx => (toBlocks_any ps v x (HT.out.below (bt HB.out hx)) HK.out).mono (fun e x' h => by obtain ⟨v', qs, he, hq, ho, hb⟩ := h; exact ⟨v', he, KpF.below hb, qs, hq, ho.base hx.size, bt hx hb⟩)) (fun _ _ h => by obtain ⟨_, _, _, h⟩ := h; exact h) ?_
  · unfold flP zeroA
    go_simp
    try with_reducible rfl
  · go_simp
    try with_reducible rfl
  intro va
  refine fl_ex (fun qa => fl_and (fun hqa => ?_))
  simp only [Act.put, List.setIfInBounds_toArray, List.set_cons_zero, List.set_cons_succ]
  have hka : okT (bks qa) := by rw [hqa]; exact HK.out
  refine fl_call (c := 3) (e' := some 29) (fn := 10) (args := #[.agg (peerA p s)]) (T' := fun v' x => ∃ sa, v' = peerV p sa ∧ (OwnT x x2.heap.size va qa ∧ OwnD x2.heap.size x.heap.size x p sa ∧ Below x2.heap.size x2 x)) rfl rfl ⟨rfl, fun ρ x => ?_⟩ (fun _ h => h.2.size) (fun a b h hb => ⟨h.1.below hb, bt h.2 hb⟩) (fun _ h => h.2) rfl rfl (by kernel_rfl) (Or.inl (by kernel_rfl)) (by kernel_rfl) (by decide) (by kernel_rfl) (by rfl) (fun x => ?_) (fun x hx => (toPeer_any p s x (HR.out.below (bt HB.out hx.2)) HS.out).mono (fun e x' h => by obtain ⟨sa, he, ho, hb⟩ := h; exact ⟨_, he, KpF.below hb, sa, rfl, hx.1.below hb, ho.toD.low hx.2.size, bt hx.2 hb⟩)) (fun _ _ h => by obtain ⟨_, _, _, _, h⟩ := h; exact h) ?_
  · unfold flP zeroA
    go_simp
    try with_reducible rfl
  · go_simp
    try with_reducible rfl
  intro vb
  refine fl_ex (fun sa => fl_and (fun hvb => ?_))
  subst hvb
  simp only [Act.put, List.setIfInBounds_toArray, List.set_cons_zero, List.set_cons_succ]
  refine fl_call (c := 5) (e' := some 31) (fn := 17) (args := #[va, peerV p sa, .int .i64 k]) (T' := fun v' x => ∃ sb, (v' = peerV Q sb ∧ (peerA Q sb).all (·.oneCell') = true) ∧ (OwnD x2.heap.size x.heap.size x Q sb ∧ Below x2.heap.size x2 x)) rfl rfl ⟨rfl, fun ρ x => ?_⟩ (fun _ h => h.2.2.size) (fun a b h hb => ⟨h.1.below hb, (h.2.1.below hb).wide hb.size (Nat.le_refl _), bt h.2.2 hb⟩) (fun _ h => h.2.2) rfl rfl (by kernel_rfl) (Or.inl (by kernel_rfl)) (by kernel_rfl) (by decide) (by kernel_rfl) (by rfl) (fun x => ?_) (fun x hx => by have hsp := tooEarly_s qa va p sa k x hx.1.read.q hka hx.2.1.reads HS.out; rw [hqa, HQ.out] at hsp; exact hsp.mono (fun e x' h => by obtain ⟨sb, he, ho, hb⟩ := h; exact ⟨_, he, KpF.below hb, sb, ⟨rfl, peerA_one ho.1⟩, ho.low hx.2.2.size, bt hx.2.2 hb⟩)) (fun _ _ h => by obtain ⟨_, _, _, h⟩ := h; exact h) ?_
  · unfold flP zeroA
    go_simp
    try with_reducible rfl
  · go_simp
    try with_reducible rfl
  intro vc
  refine fl_ex (fun s2 => fl_and (fun hvc => ?_))
  obtain ⟨rfl, hone⟩ := hvc
  simp only [Act.put, List.setIfInBounds_toArray, List.set_cons_zero, List.set_cons_succ]
  refine fl_end_b (s := 7) (cells := peerA Q s2) (f := 0) rfl rfl ⟨rfl, fun ρ x => ?_⟩ (fun _ h => h.2.size) (fun a b h hb => ⟨(h.1.below hb).wide hb.size (Nat.le_refl _), bt h.2 hb⟩) (fun _ h => h.2) rfl rfl rfl rfl (by kernel_rfl) (by kernel_rfl) (by kernel_rfl) (fun N => rfl) (fun N => rfl) rfl (by kernel_rfl) rfl hone ?_
  · unfold flP zeroA
    go_simp
    try with_reducible rfl
  intro N0 y x3 hT hN hold hgr hnew hlt
  have hb : Below x2.heap.size x2 x3 := hT.2.grown hgr hT.2.size (fun k hk => by cases hk; exact hN)
  have HO0A : Hid (OwnD x2.heap.size x3.heap.size x3 Q s2) := (hT.1.boxed hold hgr).wide hgr.size (Nat.le_refl _)
  have HK0A : Hid (x3.heap[N0]? = Option.some (.cells (peerA Q s2) 43 (0, 0))) := hnew
  have HNN0 : Hid (x2.heap.size ≤ N0 ∧ N0 < x3.heap.size) := ⟨hN, hlt⟩
  have HBN : Hid (Below w.heap.size w x3) := bt HB.out hb
  have HKaN : Hid (x3.heap[w.heap.size]? = Option.some (.cells (peerA p s) 33 (0, 0))) := (hb.block _ (Array.getElem?_eq_some_iff.1 HKa.out).1).trans HKa.out
  have HZ3 : Hid (x2.heap.size ≤ x3.heap.size) := hb.size
  clear HB HKa
  have HB := HBN
  clear HBN
  have HKa := HKaN
  clear HKaN
  have HO0 := HO0A
  clear HO0A
  have HK0 := HK0A
  clear HK0A
  refine ⟨hb, ?_⟩
  clear hT hN hold hgr hnew hlt hb hone hqa hka
  simp only [Act.put, List.setIfInBounds_toArray, List.set_cons_zero, List.set_cons_succ]
  unfold flP
  go_wp2_with (first | (refine wpList_load_row rfl _ _ rfl w.heap.size rfl 33 _ (0, 0) _ HKa.out Tryz.underlying33 rfl (by kernel_rfl) ?_) | (refine wpList_load_row rfl _ _ rfl N0 rfl 43 _ (0, 0) _ HK0.out Tryz.underlying43 rfl (by kernel_rfl) ?_) | (refine wpList_load_row_w (by first | rfl | simp [Region.wanted, yielded] | simp [Region.wanted, yielded, hk0]) _ _ rfl w.heap.size rfl 33 _ (0, 0) _ HKa.out Tryz.underlying33 rfl (by kernel_rfl) ?_) | (refine wpList_load_row_w (by first | rfl | simp [Region.wanted, yielded] | simp [Region.wanted, yielded, hk0]) _ _ rfl N0 rfl 43 _ (0, 0) _ HK0.out Tryz.underlying43 rfl (by kernel_rfl) ?_))
  refine (toBlocks_any ps v x3 (HT.out.below HB.out) HK.out).mono ?_
  rintro e x4 ⟨vx, qx, rfl, hq, ho, hb⟩
  have HTxA : Hid (OwnT x4 x3.heap.size vx qx) := ho
  have HBN : Hid (Below w.heap.size w x4) := bt HB.out hb
  have HKaN : Hid (x4.heap[w.heap.size]? = Option.some (.cells (peerA p s) 33 (0, 0))) := (hb.block _ (Array.getElem?_eq_some_iff.1 HKa.out).1).trans HKa.out
  have HO0N : Hid (OwnD x2.heap.size x3.heap.size x4 Q s2) := HO0.out.below hb
  have HK0N : Hid (x4.heap[N0]? = Option.some (.cells (peerA Q s2) 43 (0, 0))) := (hb.block _ (Array.getElem?_eq_some_iff.1 HK0.out).1).trans HK0.out
  have HZ4 : Hid (x3.heap.size ≤ x4.heap.size) := hb.size
  clear HB HKa HO0 HK0
  have HB := HBN
  clear HBN
  have HKa := HKaN
  clear HKaN
  have HO0 := HO0N
  clear HO0N
  have HK0 := HK0N
  clear HK0N
  have HTx := HTxA
  clear HTxA
  have HQx : Hid (bks qx = bks ps) := hq
  have HLx : Hid (LimT x4.heap.size vx qx) := ho.lim
  clear ho hb hq
  go_wp2_with (first | (refine wpList_load_row rfl _ _ rfl w.heap.size rfl 33 _ (0, 0) _ HKa.out Tryz.underlying33 rfl (by kernel_rfl) ?_) | (refine wpList_load_row rfl _ _ rfl N0 rfl 43 _ (0, 0) _ HK0.out Tryz.underlying43 rfl (by kernel_rfl) ?_) | (refine wpList_load_row_w (by first | rfl | simp [Region.wanted, yielded] | simp [Region.wanted, yielded, hk0]) _ _ rfl w.heap.size rfl 33 _ (0, 0) _ HKa.out Tryz.underlying33 rfl (by kernel_rfl) ?_) | (refine wpList_load_row_w (by first | rfl | simp [Region.wanted, yielded] | simp [Region.wanted, yielded, hk0]) _ _ rfl N0 rfl 43 _ (0, 0) _ HK0.out Tryz.underlying43 rfl (by kernel_rfl) ?_))
  refine (toPeer_any p s x4 (HR.out.below HB.out) HS.out).mono ?_
  rintro e x5 ⟨s3, rfl, ho, hb⟩
  have HO1A : Hid (OwnD x4.heap.size x5.heap.size x5 p s3) := ho.toD
  have HBN : Hid (Below w.heap.size w x5) := bt HB.out hb
  have HKaN : Hid (x5.heap[w.heap.size]? = Option.some (.cells (peerA p s) 33 (0, 0))) := (hb.block _ (Array.getElem?_eq_some_iff.1 HKa.out).1).trans HKa.out
  have HO0N : Hid (OwnD x2.heap.size x3.heap.size x5 Q s2) := HO0.out.below hb
  have HK0N : Hid (x5.heap[N0]? = Option.some (.cells (peerA Q s2) 43 (0, 0))) := (hb.block _ (Array.getElem?_eq_some_iff.1 HK0.out).1).trans HK0.out
  have HTxN : Hid (OwnT x5 x3.heap.size vx qx) := HTx.out.below hb
  have HZ5 : Hid (x4.heap.size ≤ x5.heap.size) := hb.size
  clear HB HKa HO0 HK0 HTx
  have HB := HBN
  clear HBN
  have HKa := HKaN
  clear HKaN
  have HO0 := HO0N
  clear HO0N
  have HK0 := HK0N
  clear HK0N
  have HTx := HTxN
  clear HTxN
  have HO1 := HO1A
  clear HO1A
  clear ho hb
  go_wp2_with (first | (refine wpList_store_blk rfl _ _ _ rfl x5.heap.size (peerA p s3) rfl rfl 43 zeroA (heap_alloc_new x5 _) (by kernel_rfl) rfl (peerA_one HO1.out.1) ?_; intro x6 hg hk hz; have hb : Below x5.heap.size x5 x6 := made_below hg; have hlt : x5.heap.size < x6.heap.size := (Array.getElem?_eq_some_iff.1 hk).1; have HBN : Hid (Below w.heap.size w x6) := bt HB.out hb; have HKaN : Hid (x6.heap[w.heap.size]? = Option.some (.cells (peerA p s) 33 (0, 0))) := (hb.block _ (Array.getElem?_eq_some_iff.1 HKa.out).1).trans HKa.out; have HO0N : Hid (OwnD x2.heap.size x3.heap.size x6 Q s2) := HO0.out.below hb; have HK0N : Hid (x6.heap[N0]? = Option.some (.cells (peerA Q s2) 43 (0, 0))) := (hb.block _ (Array.getElem?_eq_some_iff.1 HK0.out).1).trans HK0.out; have HTxN : Hid (OwnT x6 x3.heap.size vx qx) := HTx.out.below hb; have HO1N : Hid (OwnD x4.heap.size x5.heap.size x6 p s3) := HO1.out.below hb; have HZ6 : Hid (x5.heap.size < x6.heap.size) := hlt; clear HB HKa HO0 HK0 HTx HO1; have HB := HBN; clear HBN; have HKa := HKaN; clear HKaN; have HO0 := HO0N; clear HO0N; have HK0 := HK0N; clear HK0N; have HTx := HTxN; clear HTxN; have HO1 := HO1N; clear HO1N; have HK1 : Hid (x6.heap[x5.heap.size]? = Option.some (.cells (peerA p s3) 43 (0, 0))) := hk; clear hg hk hz hb hlt) | (refine wpList_load_row rfl _ _ rfl w.heap.size rfl 33 _ (0, 0) _ HKa.out Tryz.underlying33 rfl (by kernel_rfl) ?_) | (refine wpList_load_row rfl _ _ rfl N0 rfl 43 _ (0, 0) _ HK0.out Tryz.underlying43 rfl (by kernel_rfl) ?_) | (refine wpList_load_row rfl _ _ rfl x5.heap.size rfl 43 _ (0, 0) _ HK1.out Tryz.underlying43 rfl (by kernel_rfl) ?_) | (refine wpList_load_row_w (by first | rfl | simp [Region.wanted, yielded] | simp [Region.wanted, yielded, hk0]) _ _ rfl w.heap.size rfl 33 _ (0, 0) _ HKa.out Tryz.underlying33 rfl (by kernel_rfl) ?_) | (refine wpList_load_row_w (by first | rfl | simp [Region.wanted, yielded] | simp [Region.wanted, yielded, hk0]) _ _ rfl N0 rfl 43 _ (0, 0) _ HK0.out Tryz.underlying43 rfl (by kernel_rfl) ?_) | (refine wpList_load_row_w (by first | rfl | simp [Region.wanted, yielded] | simp [Region.wanted, yielded, hk0]) _ _ rfl x5.heap.size rfl 43 _ (0, 0) _ HK1.out Tryz.underlying43 rfl (by kernel_rfl) ?_))
  have hsp := HI qx vx _ p s3 x4.heap.size x5.heap.size k x6 HTx.out (by rw [HQx.out]; exact HK.out) HO1.out HS.out HG.out HWk.out
  rw [HQx.out, HQ.out] at hsp
  refine (hsp).mono ?_
  rintro e x7 ⟨s4, rfl, ho, hb⟩
  have HO2A : Hid (OwnD x6.heap.size x7.heap.size x7 Q s4) := ho
  have HBN : Hid (Below w.heap.size w x7) := bt HB.out hb
  have HKaN : Hid (x7.heap[w.heap.size]? = Option.some (.cells (peerA p s) 33 (0, 0))) := (hb.block _ (Array.getElem?_eq_some_iff.1 HKa.out).1).trans HKa.out
  have HO0N : Hid (OwnD x2.heap.size x3.heap.size x7 Q s2) := HO0.out.below hb
  have HK0N : Hid (x7.heap[N0]? = Option.some (.cells (peerA Q s2) 43 (0, 0))) := (hb.block _ (Array.getElem?_eq_some_iff.1 HK0.out).1).trans HK0.out
  have HTxN : Hid (OwnT x7 x3.heap.size vx qx) := HTx.out.below hb
  have HO1N : Hid (OwnD x4.heap.size x5.heap.size x7 p s3) := HO1.out.below hb
  have HK1N : Hid (x7.heap[x5.heap.size]? = Option.some (.cells (peerA p s3) 43 (0, 0))) := (hb.block _ (Array.getElem?_eq_some_iff.1 HK1.out).1).trans HK1.out
  have HZ7 : Hid (x6.heap.size ≤ x7.heap.size) := hb.size
  clear HB HKa HO0 HK0 HTx HO1 HK1
  have HB := HBN
  clear HBN
  have HKa := HKaN
  clear HKaN
  have HO0 := HO0N
  clear HO0N
  have HK0 := HK0N
  clear HK0N
  have HTx := HTxN
  clear HTxN
  have HO1 := HO1N
  clear HO1N
  have HK1 := HK1N
  clear HK1N
  have HO2 := HO2A
  clear HO2A
  clear ho hb hsp
  go_wp2_with (first | (refine wpList_store_blk rfl _ _ _ rfl x7.heap.size (peerA Q s4) rfl rfl 43 zeroA (heap_alloc_new x7 _) (by kernel_rfl) rfl (peerA_one HO2.out.1) ?_; intro x8 hg hk hz; have hb : Below x7.heap.size x7 x8 := made_below hg; have hlt : x7.heap.size < x8.heap.size := (Array.getElem?_eq_some_iff.1 hk).1; have HBN : Hid (Below w.heap.size w x8) := bt HB.out hb; have HKaN : Hid (x8.heap[w.heap.size]? = Option.some (.cells (peerA p s) 33 (0, 0))) := (hb.block _ (Array.getElem?_eq_some_iff.1 HKa.out).1).trans HKa.out; have HO0N : Hid (OwnD x2.heap.size x3.heap.size x8 Q s2) := HO0.out.below hb; have HK0N : Hid (x8.heap[N0]? = Option.some (.cells (peerA Q s2) 43 (0, 0))) := (hb.block _ (Array.getElem?_eq_some_iff.1 HK0.out).1).trans HK0.out; have HTxN : Hid (OwnT x8 x3.heap.size vx qx) := HTx.out.below hb; have HO1N : Hid (OwnD x4.heap.size x5.heap.size x8 p s3) := HO1.out.below hb; have HK1N : Hid (x8.heap[x5.heap.size]? = Option.some (.cells (peerA p s3) 43 (0, 0))) := (hb.block _ (Array.getElem?_eq_some_iff.1 HK1.out).1).trans HK1.out; have HO2N : Hid (OwnD x6.heap.size x7.heap.size x8 Q s4) := HO2.out.below hb; have HZ8 : Hid (x7.heap.size < x8.heap.size) := hlt; clear HB HKa HO0 HK0 HTx HO1 HK1 HO2; have HB := HBN; clear HBN; have HKa := HKaN; clear HKaN; have HO0 := HO0N; clear HO0N; have HK0 := HK0N; clear HK0N; have HTx := HTxN; clear HTxN; have HO1 := HO1N; clear HO1N; have HK1 := HK1N; clear HK1N; have HO2 := HO2N; clear HO2N; have HK2 : Hid (x8.heap[x7.heap.size]? = Option.some (.cells (peerA Q s4) 43 (0, 0))) := hk; clear hg hk hz hb hlt) | (refine wpList_load_row rfl _ _ rfl w.heap.size rfl 33 _ (0, 0) _ HKa.out Tryz.underlying33 rfl (by kernel_rfl) ?_) | (refine wpList_load_row rfl _ _ rfl N0 rfl 43 _ (0, 0) _ HK0.out Tryz.underlying43 rfl (by kernel_rfl) ?_) | (refine wpList_load_row rfl _ _ rfl x5.heap.size rfl 43 _ (0, 0) _ HK1.out Tryz.underlying43 rfl (by kernel_rfl) ?_) | (refine wpList_load_row rfl _ _ rfl x7.heap.size rfl 43 _ (0, 0) _ HK2.out Tryz.underlying43 rfl (by kernel_rfl) ?_) | (refine wpList_load_row_w (by first | rfl | simp [Region.wanted, yielded] | simp [Region.wanted, yielded, hk0]) _ _ rfl w.heap.size rfl 33 _ (0, 0) _ HKa.out Tryz.underlying33 rfl (by kernel_rfl) ?_) | (refine wpList_load_row_w (by first | rfl | simp [Region.wanted, yielded] | simp [Region.wanted, yielded, hk0]) _ _ rfl N0 rfl 43 _ (0, 0) _ HK0.out Tryz.underlying43 rfl (by kernel_rfl) ?_) | (refine wpList_load_row_w (by first | rfl | simp [Region.wanted, yielded] | simp [Region.wanted, yielded, hk0]) _ _ rfl x5.heap.size rfl 43 _ (0, 0) _ HK1.out Tryz.underlying43 rfl (by kernel_rfl) ?_) | (refine wpList_load_row_w (by first | rfl | simp [Region.wanted, yielded] | simp [Region.wanted, yielded, hk0]) _ _ rfl x7.heap.size rfl 43 _ (0, 0) _ HK2.out Tryz.underlying43 rfl (by kernel_rfl) ?_))
  refine (eqPeer_yes Q s4 s2 x8 HO2.out.reads HO0.out.reads HSQ.out).mono ?_
  rintro e x9 ⟨rfl, hb⟩
  have HBN : Hid (Below w.heap.size w x9) := bt HB.out hb
  have HKaN : Hid (x9.heap[w.heap.size]? = Option.some (.cells (peerA p s) 33 (0, 0))) := (hb.block _ (Array.getElem?_eq_some_iff.1 HKa.out).1).trans HKa.out
  have HO0N : Hid (OwnD x2.heap.size x3.heap.size x9 Q s2) := HO0.out.below hb
  have HK0N : Hid (x9.heap[N0]? = Option.some (.cells (peerA Q s2) 43 (0, 0))) := (hb.block _ (Array.getElem?_eq_some_iff.1 HK0.out).1).trans HK0.out
  have HTxN : Hid (OwnT x9 x3.heap.size vx qx) := HTx.out.below hb
  have HO1N : Hid (OwnD x4.heap.size x5.heap.size x9 p s3) := HO1.out.below hb
  have HK1N : Hid (x9.heap[x5.heap.size]? = Option.some (.cells (peerA p s3) 43 (0, 0))) := (hb.block _ (Array.getElem?_eq_some_iff.1 HK1.out).1).trans HK1.out
  have HO2N : Hid (OwnD x6.heap.size x7.heap.size x9 Q s4) := HO2.out.below hb
  have HK2N : Hid (x9.heap[x7.heap.size]? = Option.some (.cells (peerA Q s4) 43 (0, 0))) := (hb.block _ (Array.getElem?_eq_some_iff.1 HK2.out).1).trans HK2.out
  have HZ9 : Hid (x8.heap.size ≤ x9.heap.size) := hb.size
  clear HB HKa HO0 HK0 HTx HO1 HK1 HO2 HK2
  have HB := HBN
  clear HBN
  have HKa := HKaN
  clear HKaN
  have HO0 := HO0N
  clear HO0N
  have HK0 := HK0N
  clear HK0N
  have HTx := HTxN
  clear HTxN
  have HO1 := HO1N
  clear HO1N
  have HK1 := HK1N
  clear HK1N
  have HO2 := HO2N
  clear HO2N
  have HK2 := HK2N
  clear HK2N
  clear hb
  go_wp2_with (first | (refine wpList_load_row rfl _ _ rfl w.heap.size rfl 33 _ (0, 0) _ HKa.out Tryz.underlying33 rfl (by kernel_rfl) ?_) | (refine wpList_load_row rfl _ _ rfl N0 rfl 43 _ (0, 0) _ HK0.out Tryz.underlying43 rfl (by kernel_rfl) ?_) | (refine wpList_load_row rfl _ _ rfl x5.heap.size rfl 43 _ (0, 0) _ HK1.out Tryz.underlying43 rfl (by kernel_rfl) ?_) | (refine wpList_load_row rfl _ _ rfl x7.heap.size rfl 43 _ (0, 0) _ HK2.out Tryz.underlying43 rfl (by kernel_rfl) ?_) | (refine wpList_load_row_w (by first | rfl | simp [Region.wanted, yielded] | simp [Region.wanted, yielded, hk0]) _ _ rfl w.heap.size rfl 33 _ (0, 0) _ HKa.out Tryz.underlying33 rfl (by kernel_rfl) ?_) | (refine wpList_load_row_w (by first | rfl | simp [Region.wanted, yielded] | simp [Region.wanted, yielded, hk0]) _ _ rfl N0 rfl 43 _ (0, 0) _ HK0.out Tryz.underlying43 rfl (by kernel_rfl) ?_) | (refine wpList_load_row_w (by first | rfl | simp [Region.wanted, yielded] | simp [Region.wanted, yielded, hk0]) _ _ rfl x5.heap.size rfl 43 _ (0, 0) _ HK1.out Tryz.underlying43 rfl (by kernel_rfl) ?_) | (refine wpList_load_row_w (by first | rfl | simp [Region.wanted, yielded] | simp [Region.wanted, yielded, hk0]) _ _ rfl x7.heap.size rfl 43 _ (0, 0) _ HK2.out Tryz.underlying43 rfl (by kernel_rfl) ?_))
  refine (toBlocks_any ps v x9 (HT.out.below HB.out) HK.out).mono ?_
  rintro e x10 ⟨vy, qy, rfl, hq, ho, hb⟩
  have HTyA : Hid (OwnT x10 x9.heap.size vy qy) := ho
  have HBN : Hid (Below w.heap.size w x10) := bt HB.out hb
  have HKaN : Hid (x10.heap[w.heap.size]? = Option.some (.cells (peerA p s) 33 (0, 0))) := (hb.block _ (Array.getElem?_eq_some_iff.1 HKa.out).1).trans HKa.out
  have HO0N : Hid (OwnD x2.heap.size x3.heap.size x10 Q s2) := HO0.out.below hb
  have HK0N : Hid (x10.heap[N0]? = Option.some (.cells (peerA Q s2) 43 (0, 0))) := (hb.block _ (Array.getElem?_eq_some_iff.1 HK0.out).1).trans HK0.out
  have HTxN : Hid (OwnT x10 x3.heap.size vx qx) := HTx.out.below hb
  have HO1N : Hid (OwnD x4.heap.size x5.heap.size x10 p s3) := HO1.out.below hb
  have HK1N : Hid (x10.heap[x5.heap.size]? = Option.some (.cells (peerA p s3) 43 (0, 0))) := (hb.block _ (Array.getElem?_eq_some_iff.1 HK1.out).1).trans HK1.out
  have HO2N : Hid (OwnD x6.heap.size x7.heap.size x10 Q s4) := HO2.out.below hb
  have HK2N : Hid (x10.heap[x7.heap.size]? = Option.some (.cells (peerA Q s4) 43 (0, 0))) := (hb.block _ (Array.getElem?_eq_some_iff.1 HK2.out).1).trans HK2.out
  have HZ10 : Hid (x9.heap.size ≤ x10.heap.size) := hb.size
  clear HB HKa HO0 HK0 HTx HO1 HK1 HO2 HK2
  have HB := HBN
  clear HBN
  have HKa := HKaN
  clear HKaN
  have HO0 := HO0N
  clear HO0N
  have HK0 := HK0N
  clear HK0N
  have HTx := HTxN
  clear HTxN
  have HO1 := HO1N
  clear HO1N
  have HK1 := HK1N
  clear HK1N
  have HO2 := HO2N
  clear HO2N
  have HK2 := HK2N
  clear HK2N
  have HTy := HTyA
  clear HTyA
  have HQy : Hid (bks qy = bks ps) := hq
  clear ho hb hq
  go_wp2_with (first | (refine wpList_load_row rfl _ _ rfl w.heap.size rfl 33 _ (0, 0) _ HKa.out Tryz.underlying33 rfl (by kernel_rfl) ?_) | (refine wpList_load_row rfl _ _ rfl N0 rfl 43 _ (0, 0) _ HK0.out Tryz.underlying43 rfl (by kernel_rfl) ?_) | (refine wpList_load_row rfl _ _ rfl x5.heap.size rfl 43 _ (0, 0) _ HK1.out Tryz.underlying43 rfl (by kernel_rfl) ?_) | (refine wpList_load_row rfl _ _ rfl x7.heap.size rfl 43 _ (0, 0) _ HK2.out Tryz.underlying43 rfl (by kernel_rfl) ?_) | (refine wpList_load_row_w (by first | rfl | simp [Region.wanted, yielded] | simp [Region.wanted, yielded, hk0]) _ _ rfl w.heap.size rfl 33 _ (0, 0) _ HKa.out Tryz.underlying33 rfl (by kernel_rfl) ?_) | (refine wpList_load_row_w (by first | rfl | simp [Region.wanted, yielded] | simp [Region.wanted, yielded, hk0]) _ _ rfl N0 rfl 43 _ (0, 0) _ HK0.out Tryz.underlying43 rfl (by kernel_rfl) ?_) | (refine wpList_load_row_w (by first | rfl | simp [Region.wanted, yielded] | simp [Region.wanted, yielded, hk0]) _ _ rfl x5.heap.size rfl 43 _ (0, 0) _ HK1.out Tryz.underlying43 rfl (by kernel_rfl) ?_) | (refine wpList_load_row_w (by first | rfl | simp [Region.wanted, yielded] | simp [Region.wanted, yielded, hk0]) _ _ rfl x7.heap.size rfl 43 _ (0, 0) _ HK2.out Tryz.underlying43 rfl (by kernel_rfl) ?_))
  refine (eqBlocks_yes qx qy vx vy x10 HTx.out.read.q HTy.out.read.q (by rw [HQx.out, HQy.out]) (by rw [HQx.out]; exact HK.out)).mono ?_
  rintro e x11 ⟨rfl, hb⟩
  have HBN : Hid (Below w.heap.size w x11) := bt HB.out hb
  have HKaN : Hid (x11.heap[w.heap.size]? = Option.some (.cells (peerA p s) 33 (0, 0))) := (hb.block _ (Array.getElem?_eq_some_iff.1 HKa.out).1).trans HKa.out
  have HO0N : Hid (OwnD x2.heap.size x3.heap.size x11 Q s2) := HO0.out.below hb
  have HK0N : Hid (x11.heap[N0]? = Option.some (.cells (peerA Q s2) 43 (0, 0))) := (hb.block _ (Array.getElem?_eq_some_iff.1 HK0.out).1).trans HK0.out
  have HTxN : Hid (OwnT x11 x3.heap.size vx qx) := HTx.out.below hb
  have HO1N : Hid (OwnD x4.heap.size x5.heap.size x11 p s3) := HO1.out.below hb
  have HK1N : Hid (x11.heap[x5.heap.size]? = Option.some (.cells (peerA p s3) 43 (0, 0))) := (hb.block _ (Array.getElem?_eq_some_iff.1 HK1.out).1).trans HK1.out
  have HO2N : Hid (OwnD x6.heap.size x7.heap.size x11 Q s4) := HO2.out.below hb
  have HK2N : Hid (x11.heap[x7.heap.size]? = Option.some (.cells (peerA Q s4) 43 (0, 0))) := (hb.block _ (Array.getElem?_eq_some_iff.1 HK2.out).1).trans HK2.out
  have HTyN : Hid (OwnT x11 x9.heap.size vy qy) := HTy.out.below hb
  have HZ11 : Hid (x10.heap.size ≤ x11.heap.size) := hb.size
  clear HB HKa HO0 HK0 HTx HO1 HK1 HO2 HK2 HTy
  have HB := HBN
  clear HBN
  have HKa := HKaN
  clear HKaN
  have HO0 := HO0N
  clear HO0N
  have HK0 := HK0N
  clear HK0N
  have HTx := HTxN
  clear HTxN
  have HO1 := HO1N
  clear HO1N
  have HK1 := HK1N
  clear HK1N
  have HO2 := HO2N
  clear HO2N
  have HK2 := HK2N
  clear HK2N
  have HTy := HTyN
  clear HTyN
  clear hb
  clear HTy
  go_wp2
  refine wp_region_H (fun x => x.heap[w.heap.size]? = some (.cells (peerA p s) 33 (0, 0)) ∧ x.heap[x5.heap.size]? = some (.cells (peerA p s3) 43 (0, 0))) (by kernel_rfl) ?_
  show wpAnyH Tryz.prog _ _ _ _ (4 + 1) (Array.replicate 5 false) _ _
  have hS : x11.drew.heap[w.heap.size]? = some (.cells (peerA p s) 33 (0, 0)) ∧ x11.drew.heap[x5.heap.size]? = some (.cells (peerA p s3) 43 (0, 0)) := ⟨HKa.out, HK1.out⟩
  refine h_take (j := 0) (e' := some 49) (v := .agg (peerA p s3)) rfl rfl (by kernel_rfl) (by kernel_rfl) (by kernel_rfl) (fun _ _ _ h => h) (Or.inl ⟨by rfl, fun x hx => exec_load_blk _ _ rfl x5.heap.size rfl _ _ _ _ hx.2 Tryz.underlying43 rfl (by kernel_rfl)⟩) hS ?_
  simp only [Act.put, List.setIfInBounds_toArray, List.set_cons_zero, List.set_cons_succ]
  refine h_take (j := 1) (e' := some 50) (v := .agg (peerA p s)) rfl rfl (by kernel_rfl) (by kernel_rfl) (by kernel_rfl) (fun _ _ _ h => h) (Or.inl ⟨by rfl, fun x hx => exec_load_blk _ _ rfl w.heap.size rfl _ _ _ _ hx.1 Tryz.underlying33 rfl (by kernel_rfl)⟩) hS ?_
  simp only [Act.put, List.setIfInBounds_toArray, List.set_cons_zero, List.set_cons_succ]
  refine h_call (c := 2) (e' := some 51) (fn := 10) (args := #[.agg (peerA p s)]) rfl rfl (by kernel_rfl) (by rfl) ?_ ((toPeer_any p s x11.drew (HR.out.below (HB.out.trans (Below.refl _ _).drew)) HS.out).mono ?_)
  · go_simp
    try with_reducible rfl
  rintro e x12 ⟨s5, rfl, ho, hb0⟩
  have hb : Below x11.heap.size x11 x12 := ((Below.refl _ _).drew).trans hb0
  have HRb : Hid (PeerR x12 p s5) := ho.reads
  have HBN : Hid (Below w.heap.size w x12) := bt HB.out hb
  have HKaN : Hid (x12.heap[w.heap.size]? = Option.some (.cells (peerA p s) 33 (0, 0))) := (hb.block _ (Array.getElem?_eq_some_iff.1 HKa.out).1).trans HKa.out
  have HO0N : Hid (OwnD x2.heap.size x3.heap.size x12 Q s2) := HO0.out.below hb
  have HK0N : Hid (x12.heap[N0]? = Option.some (.cells (peerA Q s2) 43 (0, 0))) := (hb.block _ (Array.getElem?_eq_some_iff.1 HK0.out).1).trans HK0.out
  have HTxN : Hid (OwnT x12 x3.heap.size vx qx) := HTx.out.below hb
  have HO1N : Hid (OwnD x4.heap.size x5.heap.size x12 p s3) := HO1.out.below hb
  have HK1N : Hid (x12.heap[x5.heap.size]? = Option.some (.cells (peerA p s3) 43 (0, 0))) := (hb.block _ (Array.getElem?_eq_some_iff.1 HK1.out).1).trans HK1.out
  have HO2N : Hid (OwnD x6.heap.size x7.heap.size x12 Q s4) := HO2.out.below hb
  have HK2N : Hid (x12.heap[x7.heap.size]? = Option.some (.cells (peerA Q s4) 43 (0, 0))) := (hb.block _ (Array.getElem?_eq_some_iff.1 HK2.out).1).trans HK2.out
  have HZ12 : Hid (x11.heap.size ≤ x12.heap.size) := hb.size
  clear HB HKa HO0 HK0 HTx HO1 HK1 HO2 HK2
  have HB := HBN
  clear HBN
  have HKa := HKaN
  clear HKaN
  have HO0 := HO0N
  clear HO0N
  have HK0 := HK0N
  clear HK0N
  have HTx := HTxN
  clear HTxN
  have HO1 := HO1N
  clear HO1N
  have HK1 := HK1N
  clear HK1N
  have HO2 := HO2N
  clear HO2N
  have HK2 := HK2N
  clear HK2N
  have hS1 : x12.heap[w.heap.size]? = some (.cells (peerA p s) 33 (0, 0)) ∧ x12.heap[x5.heap.size]? = some (.cells (peerA p s3) 43 (0, 0)) := ⟨HKa.out, HK1.out⟩
  clear ho hb hb0 hS
  refine ⟨_, rfl, hS1, ?_⟩
  simp only [Act.put, List.setIfInBounds_toArray, List.set_cons_zero, List.set_cons_succ]
  refine h_call (c := 3) (e' := some 52) (fn := 12) (args := #[.agg (peerA p s3), .agg (peerA p s5)]) rfl rfl (by kernel_rfl) (by rfl) ?_ ((eqPeer_yes p s3 s5 x12 HO1.out.reads HRb.out HS.out).mono ?_)
  · go_simp
    try with_reducible rfl
  rintro e x13 ⟨rfl, hb⟩
  have HBN : Hid (Below w.heap.size w x13) := bt HB.out hb
  have HKaN : Hid (x13.heap[w.heap.size]? = Option.some (.cells (peerA p s) 33 (0, 0))) := (hb.block _ (Array.getElem?_eq_some_iff.1 HKa.out).1).trans HKa.out
  have HO0N : Hid (OwnD x2.heap.size x3.heap.size x13 Q s2) := HO0.out.below hb
  have HK0N : Hid (x13.heap[N0]? = Option.some (.cells (peerA Q s2) 43 (0, 0))) := (hb.block _ (Array.getElem?_eq_some_iff.1 HK0.out).1).trans HK0.out
  have HTxN : Hid (OwnT x13 x3.heap.size vx qx) := HTx.out.below hb
  have HO1N : Hid (OwnD x4.heap.size x5.heap.size x13 p s3) := HO1.out.below hb
  have HK1N : Hid (x13.heap[x5.heap.size]? = Option.some (.cells (peerA p s3) 43 (0, 0))) := (hb.block _ (Array.getElem?_eq_some_iff.1 HK1.out).1).trans HK1.out
  have HO2N : Hid (OwnD x6.heap.size x7.heap.size x13 Q s4) := HO2.out.below hb
  have HK2N : Hid (x13.heap[x7.heap.size]? = Option.some (.cells (peerA Q s4) 43 (0, 0))) := (hb.block _ (Array.getElem?_eq_some_iff.1 HK2.out).1).trans HK2.out
  have HZ13 : Hid (x12.heap.size ≤ x13.heap.size) := hb.size
  clear HB HKa HO0 HK0 HTx HO1 HK1 HO2 HK2
  have HB := HBN
  clear HBN
  have HKa := HKaN
  clear HKaN
  have HO0 := HO0N
  clear HO0N
  have HK0 := HK0N
  clear HK0N
  have HTx := HTxN
  clear HTxN
  have HO1 := HO1N
  clear HO1N
  have HK1 := HK1N
  clear HK1N
  have HO2 := HO2N
  clear HO2N
  have HK2 := HK2N
  clear HK2N
  have hS2 : x13.heap[w.heap.size]? = some (.cells (peerA p s) 33 (0, 0)) ∧ x13.heap[x5.heap.size]? = some (.cells (peerA p s3) 43 (0, 0)) := ⟨HKa.out, HK1.out⟩
  clear hb hS1 HRb
  refine ⟨_, rfl, hS2, ?_⟩
  simp only [Act.put, List.setIfInBounds_toArray, List.set_cons_zero, List.set_cons_succ]
  refine h_take (j := 4) (e' := some 53) (v := .bool false) rfl rfl (by kernel_rfl) (by kernel_rfl) (by kernel_rfl) (fun _ _ _ h => h) (Or.inl ⟨by rfl, ?_⟩) hS2 ?_
  · intro x hx
    go_simp
    try with_reducible rfl
  simp only [Act.put, List.setIfInBounds_toArray, List.set_cons_zero, List.set_cons_succ]
  refine wpAnyH_done (by kernel_rfl) ?_ _
  clear hS2
  go_wp2_with (first | (refine wpList_load_row rfl _ _ rfl w.heap.size rfl 33 _ (0, 0) _ HKa.out Tryz.underlying33 rfl (by kernel_rfl) ?_) | (refine wpList_load_row rfl _ _ rfl N0 rfl 43 _ (0, 0) _ HK0.out Tryz.underlying43 rfl (by kernel_rfl) ?_) | (refine wpList_load_row rfl _ _ rfl x5.heap.size rfl 43 _ (0, 0) _ HK1.out Tryz.underlying43 rfl (by kernel_rfl) ?_) | (refine wpList_load_row rfl _ _ rfl x7.heap.size rfl 43 _ (0, 0) _ HK2.out Tryz.underlying43 rfl (by kernel_rfl) ?_) | (refine wpList_load_row_w (by first | rfl | simp [Region.wanted, yielded] | simp [Region.wanted, yielded, hk0]) _ _ rfl w.heap.size rfl 33 _ (0, 0) _ HKa.out Tryz.underlying33 rfl (by kernel_rfl) ?_) | (refine wpList_load_row_w (by first | rfl | simp [Region.wanted, yielded] | simp [Region.wanted, yielded, hk0]) _ _ rfl N0 rfl 43 _ (0, 0) _ HK0.out Tryz.underlying43 rfl (by kernel_rfl) ?_) | (refine wpList_load_row_w (by first | rfl | simp [Region.wanted, yielded] | simp [Region.wanted, yielded, hk0]) _ _ rfl x5.heap.size rfl 43 _ (0, 0) _ HK1.out Tryz.underlying43 rfl (by kernel_rfl) ?_) | (refine wpList_load_row_w (by first | rfl | simp [Region.wanted, yielded] | simp [Region.wanted, yielded, hk0]) _ _ rfl x7.heap.size rfl 43 _ (0, 0) _ HK2.out Tryz.underlying43 rfl (by kernel_rfl) ?_))
  have HNX : Hid (tnum 1 qx ≤ 1 + 6 * wtB (bks ps)) := (by have h1 := tnum_wt qx 1; rw [HQx.out] at h1; exact h1 : tnum 1 qx ≤ 1 + 6 * wtB (bks ps))
  have hn1 := tnum_le qx 1
  refine (markBlocks_own qx 1 x3.heap.size x4.heap.size vx x13 HTx.out HLx.out (by decide) (by have := HNX.out; have := HLP.out; omega) (okT_len HK.out HQx.out) (okT_cmds HK.out HQx.out)).mono ?_
  rintro e x14 ⟨rfl, -, hwn⟩
  have hf : Fr x3.heap.size x4.heap.size x13 x14 := ⟨hwn.os, hwn.tape, hwn.output, hwn.size, hwn.block⟩
  have HBN : Hid (Below w.heap.size w x14) := HB.out.trans ⟨hf.os, hf.tape, hf.output, hf.size, fun k hk => hf.block k (Nat.lt_of_lt_of_le hk HB.out.size) (Or.inl (by have := HZ0.out; have := HZ1.out; have := HZ2.out; have := HZ3.out; have := HNN0.out; have := HZ4.out; have := HZ5.out; have := HZ6.out; have := HZ7.out; have := HZ8.out; have := HZ9.out; have := HZ10.out; have := HZ11.out; have := HZ12.out; have := HZ13.out; omega))⟩
  have HKaN : Hid (x14.heap[w.heap.size]? = Option.some (.cells (peerA p s) 33 (0, 0))) := (hf.block _ (Array.getElem?_eq_some_iff.1 HKa.out).1 (by have := HZ0.out; have := HZ1.out; have := HZ2.out; have := HZ3.out; have := HNN0.out; have := HZ4.out; have := HZ5.out; have := HZ6.out; have := HZ7.out; have := HZ8.out; have := HZ9.out; have := HZ10.out; have := HZ11.out; have := HZ12.out; have := HZ13.out; omega)).trans HKa.out
  have HO0N : Hid (OwnD x2.heap.size x3.heap.size x14 Q s2) := ⟨hf.own6 HO0.out.1 HO0.out.2.1 (by have := HZ0.out; have := HZ1.out; have := HZ2.out; have := HZ3.out; have := HNN0.out; have := HZ4.out; have := HZ5.out; have := HZ6.out; have := HZ7.out; have := HZ8.out; have := HZ9.out; have := HZ10.out; have := HZ11.out; have := HZ12.out; have := HZ13.out; omega), HO0.out.2.1, Nat.le_trans HO0.out.2.2 hf.size⟩
  have HK0N : Hid (x14.heap[N0]? = Option.some (.cells (peerA Q s2) 43 (0, 0))) := (hf.block _ (Array.getElem?_eq_some_iff.1 HK0.out).1 (by have := HZ0.out; have := HZ1.out; have := HZ2.out; have := HZ3.out; have := HNN0.out; have := HZ4.out; have := HZ5.out; have := HZ6.out; have := HZ7.out; have := HZ8.out; have := HZ9.out; have := HZ10.out; have := HZ11.out; have := HZ12.out; have := HZ13.out; omega)).trans HK0.out
  have HO1N : Hid (OwnD x4.heap.size x5.heap.size x14 p s3) := ⟨hf.own6 HO1.out.1 HO1.out.2.1 (by have := HZ0.out; have := HZ1.out; have := HZ2.out; have := HZ3.out; have := HNN0.out; have := HZ4.out; have := HZ5.out; have := HZ6.out; have := HZ7.out; have := HZ8.out; have := HZ9.out; have := HZ10.out; have := HZ11.out; have := HZ12.out; have := HZ13.out; omega), HO1.out.2.1, Nat.le_trans HO1.out.2.2 hf.size⟩
  have HK1N : Hid (x14.heap[x5.heap.size]? = Option.some (.cells (peerA p s3) 43 (0, 0))) := (hf.block _ (Array.getElem?_eq_some_iff.1 HK1.out).1 (by have := HZ0.out; have := HZ1.out; have := HZ2.out; have := HZ3.out; have := HNN0.out; have := HZ4.out; have := HZ5.out; have := HZ6.out; have := HZ7.out; have := HZ8.out; have := HZ9.out; have := HZ10.out; have := HZ11.out; have := HZ12.out; have := HZ13.out; omega)).trans HK1.out
  have HO2N : Hid (OwnD x6.heap.size x7.heap.size x14 Q s4) := ⟨hf.own6 HO2.out.1 HO2.out.2.1 (by have := HZ0.out; have := HZ1.out; have := HZ2.out; have := HZ3.out; have := HNN0.out; have := HZ4.out; have := HZ5.out; have := HZ6.out; have := HZ7.out; have := HZ8.out; have := HZ9.out; have := HZ10.out; have := HZ11.out; have := HZ12.out; have := HZ13.out; omega), HO2.out.2.1, Nat.le_trans HO2.out.2.2 hf.size⟩
  have HK2N : Hid (x14.heap[x7.heap.size]? = Option.some (.cells (peerA Q s4) 43 (0, 0))) := (hf.block _ (Array.getElem?_eq_some_iff.1 HK2.out).1 (by have := HZ0.out; have := HZ1.out; have := HZ2.out; have := HZ3.out; have := HNN0.out; have := HZ4.out; have := HZ5.out; have := HZ6.out; have := HZ7.out; have := HZ8.out; have := HZ9.out; have := HZ10.out; have := HZ11.out; have := HZ12.out; have := HZ13.out; omega)).trans HK2.out
  have HZ14 : Hid (x13.heap.size ≤ x14.heap.size) := hf.size
  clear HB HKa HO0 HK0 HO1 HK1 HO2 HK2
  have HB := HBN
  clear HBN
  have HKa := HKaN
  clear HKaN
  have HO0 := HO0N
  clear HO0N
  have HK0 := HK0N
  clear HK0N
  have HO1 := HO1N
  clear HO1N
  have HK1 := HK1N
  clear HK1N
  have HO2 := HO2N
  clear HO2N
  have HK2 := HK2N
  clear HK2N
  clear HTx hf hwn
  obtain ⟨tn, htn⟩ : ∃ tn, tn = tnum 1 qx := ⟨_, rfl⟩
  rw [← htn] at HNX hn1 ⊢
  clear htn
  go_wp2_with (first | (refine wpList_load_row rfl _ _ rfl w.heap.size rfl 33 _ (0, 0) _ HKa.out Tryz.underlying33 rfl (by kernel_rfl) ?_) | (refine wpList_load_row rfl _ _ rfl N0 rfl 43 _ (0, 0) _ HK0.out Tryz.underlying43 rfl (by kernel_rfl) ?_) | (refine wpList_load_row rfl _ _ rfl x5.heap.size rfl 43 _ (0, 0) _ HK1.out Tryz.underlying43 rfl (by kernel_rfl) ?_) | (refine wpList_load_row rfl _ _ rfl x7.heap.size rfl 43 _ (0, 0) _ HK2.out Tryz.underlying43 rfl (by kernel_rfl) ?_) | (refine wpList_load_row_w (by first | rfl | simp [Region.wanted, yielded] | simp [Region.wanted, yielded, hk0]) _ _ rfl w.heap.size rfl 33 _ (0, 0) _ HKa.out Tryz.underlying33 rfl (by kernel_rfl) ?_) | (refine wpList_load_row_w (by first | rfl | simp [Region.wanted, yielded] | simp [Region.wanted, yielded, hk0]) _ _ rfl N0 rfl 43 _ (0, 0) _ HK0.out Tryz.underlying43 rfl (by kernel_rfl) ?_) | (refine wpList_load_row_w (by first | rfl | simp [Region.wanted, yielded] | simp [Region.wanted, yielded, hk0]) _ _ rfl x5.heap.size rfl 43 _ (0, 0) _ HK1.out Tryz.underlying43 rfl (by kernel_rfl) ?_) | (refine wpList_load_row_w (by first | rfl | simp [Region.wanted, yielded] | simp [Region.wanted, yielded, hk0]) _ _ rfl x7.heap.size rfl 43 _ (0, 0) _ HK2.out Tryz.underlying43 rfl (by kernel_rfl) ?_))
  refine (markPeer_own p s3 tn x4.heap.size x5.heap.size x14 HO1.out HSM.out (by omega) (by have := HLP.out; have := HNX.out; omega)).mono ?_
  rintro e x15 ⟨rfl, hm, hf⟩
  have HAP15 : Hid (Apart6 x4.heap.size x5.heap.size s3) := HO1.out.2.1
  have hmA : Hid (MarkD tn x4.heap.size x15 p s3) := hm
  clear hm
  have HBN : Hid (Below w.heap.size w x15) := HB.out.trans ⟨hf.os, hf.tape, hf.output, hf.size, fun k hk => hf.block k (Nat.lt_of_lt_of_le hk HB.out.size) (Or.inl (by have := HZ0.out; have := HZ1.out; have := HZ2.out; have := HZ3.out; have := HNN0.out; have := HZ4.out; have := HZ5.out; have := HZ6.out; have := HZ7.out; have := HZ8.out; have := HZ9.out; have := HZ10.out; have := HZ11.out; have := HZ12.out; have := HZ13.out; have := HZ14.out; omega))⟩
  have HKaN : Hid (x15.heap[w.heap.size]? = Option.some (.cells (peerA p s) 33 (0, 0))) := (hf.block _ (Array.getElem?_eq_some_iff.1 HKa.out).1 (by have := HZ0.out; have := HZ1.out; have := HZ2.out; have := HZ3.out; have := HNN0.out; have := HZ4.out; have := HZ5.out; have := HZ6.out; have := HZ7.out; have := HZ8.out; have := HZ9.out; have := HZ10.out; have := HZ11.out; have := HZ12.out; have := HZ13.out; have := HZ14.out; omega)).trans HKa.out
  have HO0N : Hid (OwnD x2.heap.size x3.heap.size x15 Q s2) := ⟨hf.own6 HO0.out.1 HO0.out.2.1 (by have := HZ0.out; have := HZ1.out; have := HZ2.out; have := HZ3.out; have := HNN0.out; have := HZ4.out; have := HZ5.out; have := HZ6.out; have := HZ7.out; have := HZ8.out; have := HZ9.out; have := HZ10.out; have := HZ11.out; have := HZ12.out; have := HZ13.out; have := HZ14.out; omega), HO0.out.2.1, Nat.le_trans HO0.out.2.2 hf.size⟩
  have HK0N : Hid (x15.heap[N0]? = Option.some (.cells (peerA Q s2) 43 (0, 0))) := (hf.block _ (Array.getElem?_eq_some_iff.1 HK0.out).1 (by have := HZ0.out; have := HZ1.out; have := HZ2.out; have := HZ3.out; have := HNN0.out; have := HZ4.out; have := HZ5.out; have := HZ6.out; have := HZ7.out; have := HZ8.out; have := HZ9.out; have := HZ10.out; have := HZ11.out; have := HZ12.out; have := HZ13.out; have := HZ14.out; omega)).trans HK0.out
  have HK1N : Hid (x15.heap[x5.heap.size]? = Option.some (.cells (peerA p s3) 43 (0, 0))) := (hf.block _ (Array.getElem?_eq_some_iff.1 HK1.out).1 (by have := HZ0.out; have := HZ1.out; have := HZ2.out; have := HZ3.out; have := HNN0.out; have := HZ4.out; have := HZ5.out; have := HZ6.out; have := HZ7.out; have := HZ8.out; have := HZ9.out; have := HZ10.out; have := HZ11.out; have := HZ12.out; have := HZ13.out; have := HZ14.out; omega)).trans HK1.out
  have HO2N : Hid (OwnD x6.heap.size x7.heap.size x15 Q s4) := ⟨hf.own6 HO2.out.1 HO2.out.2.1 (by have := HZ0.out; have := HZ1.out; have := HZ2.out; have := HZ3.out; have := HNN0.out; have := HZ4.out; have := HZ5.out; have := HZ6.out; have := HZ7.out; have := HZ8.out; have := HZ9.out; have := HZ10.out; have := HZ11.out; have := HZ12.out; have := HZ13.out; have := HZ14.out; omega), HO2.out.2.1, Nat.le_trans HO2.out.2.2 hf.size⟩
  have HK2N : Hid (x15.heap[x7.heap.size]? = Option.some (.cells (peerA Q s4) 43 (0, 0))) := (hf.block _ (Array.getElem?_eq_some_iff.1 HK2.out).1 (by have := HZ0.out; have := HZ1.out; have := HZ2.out; have := HZ3.out; have := HNN0.out; have := HZ4.out; have := HZ5.out; have := HZ6.out; have := HZ7.out; have := HZ8.out; have := HZ9.out; have := HZ10.out; have := HZ11.out; have := HZ12.out; have := HZ13.out; have := HZ14.out; omega)).trans HK2.out
  have HZ15 : Hid (x14.heap.size ≤ x15.heap.size) := hf.size
  clear HB HKa HO0 HK0 HK1 HO2 HK2
  have HB := HBN
  clear HBN
  have HKa := HKaN
  clear HKaN
  have HO0 := HO0N
  clear HO0N
  have HK0 := HK0N
  clear HK0N
  have HK1 := HK1N
  clear HK1N
  have HO2 := HO2N
  clear HO2N
  have HK2 := HK2N
  clear HK2N
  clear HO1 hf
  have HM1 : Hid (MarkD tn x4.heap.size x15 p s3) := hmA
  clear hmA
  have hk0 : ¬ (((mk6 tn p : Nat) : Int) < 0) := by omega
  clear HM1
  clear HK1
  go_wp2_with (first | (refine wpList_load_row rfl _ _ rfl w.heap.size rfl 33 _ (0, 0) _ HKa.out Tryz.underlying33 rfl (by kernel_rfl) ?_) | (refine wpList_load_row rfl _ _ rfl N0 rfl 43 _ (0, 0) _ HK0.out Tryz.underlying43 rfl (by kernel_rfl) ?_) | (refine wpList_load_row rfl _ _ rfl x7.heap.size rfl 43 _ (0, 0) _ HK2.out Tryz.underlying43 rfl (by kernel_rfl) ?_) | (refine wpList_load_row_w (by first | rfl | simp [Region.wanted, yielded] | simp [Region.wanted, yielded, hk0]) _ _ rfl w.heap.size rfl 33 _ (0, 0) _ HKa.out Tryz.underlying33 rfl (by kernel_rfl) ?_) | (refine wpList_load_row_w (by first | rfl | simp [Region.wanted, yielded] | simp [Region.wanted, yielded, hk0]) _ _ rfl N0 rfl 43 _ (0, 0) _ HK0.out Tryz.underlying43 rfl (by kernel_rfl) ?_) | (refine wpList_load_row_w (by first | rfl | simp [Region.wanted, yielded] | simp [Region.wanted, yielded, hk0]) _ _ rfl x7.heap.size rfl 43 _ (0, 0) _ HK2.out Tryz.underlying43 rfl (by kernel_rfl) ?_))
  refine (eqPeer_yes Q s4 s2 x15 HO2.out.reads HO0.out.reads HSQ.out).mono ?_
  rintro e x16 ⟨rfl, hb⟩
  have HBN : Hid (Below w.heap.size w x16) := bt HB.out hb
  have HKaN : Hid (x16.heap[w.heap.size]? = Option.some (.cells (peerA p s) 33 (0, 0))) := (hb.block _ (Array.getElem?_eq_some_iff.1 HKa.out).1).trans HKa.out
  have HO0N : Hid (OwnD x2.heap.size x3.heap.size x16 Q s2) := HO0.out.below hb
  have HK0N : Hid (x16.heap[N0]? = Option.some (.cells (peerA Q s2) 43 (0, 0))) := (hb.block _ (Array.getElem?_eq_some_iff.1 HK0.out).1).trans HK0.out
  have HO2N : Hid (OwnD x6.heap.size x7.heap.size x16 Q s4) := HO2.out.below hb
  have HK2N : Hid (x16.heap[x7.heap.size]? = Option.some (.cells (peerA Q s4) 43 (0, 0))) := (hb.block _ (Array.getElem?_eq_some_iff.1 HK2.out).1).trans HK2.out
  have HZ16 : Hid (x15.heap.size ≤ x16.heap.size) := hb.size
  clear HB HKa HO0 HK0 HO2 HK2
  have HB := HBN
  clear HBN
  have HKa := HKaN
  clear HKaN
  have HO0 := HO0N
  clear HO0N
  have HK0 := HK0N
  clear HK0N
  have HO2 := HO2N
  clear HO2N
  have HK2 := HK2N
  clear HK2N
  clear hb
  clear hk0
  go_wp2_with (first | (refine wpList_load_row rfl _ _ rfl w.heap.size rfl 33 _ (0, 0) _ HKa.out Tryz.underlying33 rfl (by kernel_rfl) ?_) | (refine wpList_load_row rfl _ _ rfl N0 rfl 43 _ (0, 0) _ HK0.out Tryz.underlying43 rfl (by kernel_rfl) ?_) | (refine wpList_load_row rfl _ _ rfl x7.heap.size rfl 43 _ (0, 0) _ HK2.out Tryz.underlying43 rfl (by kernel_rfl) ?_) | (refine wpList_load_row_w (by first | rfl | simp [Region.wanted, yielded] | simp [Region.wanted, yielded, hk0]) _ _ rfl w.heap.size rfl 33 _ (0, 0) _ HKa.out Tryz.underlying33 rfl (by kernel_rfl) ?_) | (refine wpList_load_row_w (by first | rfl | simp [Region.wanted, yielded] | simp [Region.wanted, yielded, hk0]) _ _ rfl N0 rfl 43 _ (0, 0) _ HK0.out Tryz.underlying43 rfl (by kernel_rfl) ?_) | (refine wpList_load_row_w (by first | rfl | simp [Region.wanted, yielded] | simp [Region.wanted, yielded, hk0]) _ _ rfl x7.heap.size rfl 43 _ (0, 0) _ HK2.out Tryz.underlying43 rfl (by kernel_rfl) ?_))
  refine (markPeer_own Q s4 1 x6.heap.size x7.heap.size x16 HO2.out HMQ.out (by decide) (by have := HMQ.out.1; omega)).mono ?_
  rintro e x17 ⟨rfl, hm, hf⟩
  have HAP17 : Hid (Apart6 x6.heap.size x7.heap.size s4) := HO2.out.2.1
  have hmA : Hid (MarkD 1 x6.heap.size x17 Q s4) := hm
  clear hm
  have HBN : Hid (Below w.heap.size w x17) := HB.out.trans ⟨hf.os, hf.tape, hf.output, hf.size, fun k hk => hf.block k (Nat.lt_of_lt_of_le hk HB.out.size) (Or.inl (by have := HZ0.out; have := HZ1.out; have := HZ2.out; have := HZ3.out; have := HNN0.out; have := HZ4.out; have := HZ5.out; have := HZ6.out; have := HZ7.out; have := HZ8.out; have := HZ9.out; have := HZ10.out; have := HZ11.out; have := HZ12.out; have := HZ13.out; have := HZ14.out; have := HZ15.out; have := HZ16.out; omega))⟩
  have HKaN : Hid (x17.heap[w.heap.size]? = Option.some (.cells (peerA p s) 33 (0, 0))) := (hf.block _ (Array.getElem?_eq_some_iff.1 HKa.out).1 (by have := HZ0.out; have := HZ1.out; have := HZ2.out; have := HZ3.out; have := HNN0.out; have := HZ4.out; have := HZ5.out; have := HZ6.out; have := HZ7.out; have := HZ8.out; have := HZ9.out; have := HZ10.out; have := HZ11.out; have := HZ12.out; have := HZ13.out; have := HZ14.out; have := HZ15.out; have := HZ16.out; omega)).trans HKa.out
  have HO0N : Hid (OwnD x2.heap.size x3.heap.size x17 Q s2) := ⟨hf.own6 HO0.out.1 HO0.out.2.1 (by have := HZ0.out; have := HZ1.out; have := HZ2.out; have := HZ3.out; have := HNN0.out; have := HZ4.out; have := HZ5.out; have := HZ6.out; have := HZ7.out; have := HZ8.out; have := HZ9.out; have := HZ10.out; have := HZ11.out; have := HZ12.out; have := HZ13.out; have := HZ14.out; have := HZ15.out; have := HZ16.out; omega), HO0.out.2.1, Nat.le_trans HO0.out.2.2 hf.size⟩
  have HK0N : Hid (x17.heap[N0]? = Option.some (.cells (peerA Q s2) 43 (0, 0))) := (hf.block _ (Array.getElem?_eq_some_iff.1 HK0.out).1 (by have := HZ0.out; have := HZ1.out; have := HZ2.out; have := HZ3.out; have := HNN0.out; have := HZ4.out; have := HZ5.out; have := HZ6.out; have := HZ7.out; have := HZ8.out; have := HZ9.out; have := HZ10.out; have := HZ11.out; have := HZ12.out; have := HZ13.out; have := HZ14.out; have := HZ15.out; have := HZ16.out; omega)).trans HK0.out
  have HK2N : Hid (x17.heap[x7.heap.size]? = Option.some (.cells (peerA Q s4) 43 (0, 0))) := (hf.block _ (Array.getElem?_eq_some_iff.1 HK2.out).1 (by have := HZ0.out; have := HZ1.out; have := HZ2.out; have := HZ3.out; have := HNN0.out; have := HZ4.out; have := HZ5.out; have := HZ6.out; have := HZ7.out; have := HZ8.out; have := HZ9.out; have := HZ10.out; have := HZ11.out; have := HZ12.out; have := HZ13.out; have := HZ14.out; have := HZ15.out; have := HZ16.out; omega)).trans HK2.out
  have HZ17 : Hid (x16.heap.size ≤ x17.heap.size) := hf.size
  clear HB HKa HO0 HK0 HK2
  have HB := HBN
  clear HBN
  have HKa := HKaN
  clear HKaN
  have HO0 := HO0N
  clear HO0N
  have HK0 := HK0N
  clear HK0N
  have HK2 := HK2N
  clear HK2N
  clear HO2 hf
  have HM2 : Hid (MarkD 1 x6.heap.size x17 Q s4) := hmA
  clear hmA
  go_wp2_with (first | (refine wpList_load_row rfl _ _ rfl w.heap.size rfl 33 _ (0, 0) _ HKa.out Tryz.underlying33 rfl (by kernel_rfl) ?_) | (refine wpList_load_row rfl _ _ rfl N0 rfl 43 _ (0, 0) _ HK0.out Tryz.underlying43 rfl (by kernel_rfl) ?_) | (refine wpList_load_row rfl _ _ rfl x7.heap.size rfl 43 _ (0, 0) _ HK2.out Tryz.underlying43 rfl (by kernel_rfl) ?_) | (refine wpList_load_row_w (by first | rfl | simp [Region.wanted, yielded] | simp [Region.wanted, yielded, hk0]) _ _ rfl w.heap.size rfl 33 _ (0, 0) _ HKa.out Tryz.underlying33 rfl (by kernel_rfl) ?_) | (refine wpList_load_row_w (by first | rfl | simp [Region.wanted, yielded] | simp [Region.wanted, yielded, hk0]) _ _ rfl N0 rfl 43 _ (0, 0) _ HK0.out Tryz.underlying43 rfl (by kernel_rfl) ?_) | (refine wpList_load_row_w (by first | rfl | simp [Region.wanted, yielded] | simp [Region.wanted, yielded, hk0]) _ _ rfl x7.heap.size rfl 43 _ (0, 0) _ HK2.out Tryz.underlying43 rfl (by kernel_rfl) ?_))
  have hk0 : ¬ (((mk6 1 Q : Nat) : Int) < 0) := by omega
  refine (heldPeer_own Q s4 1 x6.heap.size x17 HM2.out HMQ.out (by decide) (by have := HMQ.out.1; omega)).mono ?_
  rintro e x18 ⟨rfl, hb⟩
  have HBN : Hid (Below w.heap.size w x18) := bt HB.out hb
  have HKaN : Hid (x18.heap[w.heap.size]? = Option.some (.cells (peerA p s) 33 (0, 0))) := (hb.block _ (Array.getElem?_eq_some_iff.1 HKa.out).1).trans HKa.out
  have HO0N : Hid (OwnD x2.heap.size x3.heap.size x18 Q s2) := HO0.out.below hb
  have HK0N : Hid (x18.heap[N0]? = Option.some (.cells (peerA Q s2) 43 (0, 0))) := (hb.block _ (Array.getElem?_eq_some_iff.1 HK0.out).1).trans HK0.out
  have HK2N : Hid (x18.heap[x7.heap.size]? = Option.some (.cells (peerA Q s4) 43 (0, 0))) := (hb.block _ (Array.getElem?_eq_some_iff.1 HK2.out).1).trans HK2.out
  have HM2N : Hid (MarkD 1 x6.heap.size x18 Q s4) := Own6.below HM2.out hb
  have HZ18 : Hid (x17.heap.size ≤ x18.heap.size) := hb.size
  clear HB HKa HO0 HK0 HK2 HM2
  have HB := HBN
  clear HBN
  have HKa := HKaN
  clear HKaN
  have HO0 := HO0N
  clear HO0N
  have HK0 := HK0N
  clear HK0N
  have HK2 := HK2N
  clear HK2N
  have HM2 := HM2N
  clear HM2N
  clear hb
  go_wp2
  refine wp_region_H (Below x18.heap.size x18) (by kernel_rfl) ?_
  show wpAnyH Tryz.prog _ _ _ _ (7 + 1) (Array.replicate 8 false) _ _
  refine fl_in (i := 6) (d := some 15) (obj := .cells zeroA 43 (0, 0)) (base := x18.heap.size) (T := Below x18.heap.size x18) (f := 7) ?_ (Below.refl _ _).drew
  refine fl_take (j := 0) (e' := some 79) (v := v) rfl rfl rfl rfl (by kernel_rfl) (by kernel_rfl) (by kernel_rfl) (by kernel_rfl) (by kernel_rfl) (by decide) (by kernel_rfl) (fun _ _ _ h => h) (fun _ h => h) (Or.inl ⟨by rfl, ?_⟩) ?_
  · intro x hx
    go_simp
    try with_reducible rfl
  simp only [Act.put, List.setIfInBounds_toArray, List.set_cons_zero, List.set_cons_succ]
  refine fl_take (j := 2) (e' := some 81) (v := .agg (peerA p s)) rfl rfl rfl rfl (by kernel_rfl) (by kernel_rfl) (by kernel_rfl) (by kernel_rfl) (by kernel_rfl) (by decide) (by kernel_rfl) (fun _ _ _ h => h) (fun _ h => h) (Or.inl ⟨by rfl, ?_⟩) ?_
  · exact fun x hx => exec_load_blk _ _ rfl w.heap.size rfl _ _ _ _ ((hx.block _ (Array.getElem?_eq_some_iff.1 HKa.out).1).trans HKa.out) Tryz.underlying33 rfl (by kernel_rfl)
  simp only [Act.put, List.setIfInBounds_toArray, List.set_cons_zero, List.set_cons_succ]
  refine fl_take (j := 4) (e' := some 83) (v := .int .i64 k) rfl rfl rfl rfl (by kernel_rfl) (by kernel_rfl) (by kernel_rfl) (by kernel_rfl) (by kernel_rfl) (by decide) (by kernel_rfl) (fun _ _ _ h => h) (fun _ h => h) (Or.inl ⟨by rfl, ?_⟩) ?_
  · intro x hx
    go_simp
    try with_reducible rfl
  simp only [Act.put, List.setIfInBounds_toArray, List.set_cons_zero, List.set_cons_succ]
  refine fl_call (c := 1) (e' := some 80) (fn := 9) (args := #[v]) (T' := fun v' x => ∃ qa, bks qa = bks ps ∧ (OwnT x x18.heap.size v' qa ∧ Below x18.heap.size x18 x)) rfl rfl ⟨rfl, fun ρ x => ?_⟩ (fun _ h => h.size) (fun a b h hb => bt h hb) (fun _ h => h) rfl rfl (by kernel_rfl) (Or.inl (by kernel_rfl)) (by kernel_rfl) (by decide) (by kernel_rfl) (by rfl) (fun x => ?_) (fun x hx => (toBlocks_any ps v x (HT.out.below (bt HB.out hx)) HK.out).mono (fun e x' h => by obtain ⟨v', qs, he, hq, ho, hb⟩ := h; exact ⟨v', he, KpF.below hb, qs, hq, ho.base hx.size, bt hx hb⟩)) (fun _ _ h => by obtain ⟨_, _, _, h⟩ := h; exact h) ?_
  · unfold flP zeroA
    go_simp
    try with_reducible rfl
  · go_simp
    try with_reducible rfl
  intro va
  refine fl_ex (fun qa => fl_and (fun hqa => ?_))
  simp only [Act.put, List.setIfInBounds_toArray, List.set_cons_zero, List.set_cons_succ]
  have hka : okT (bks qa) := by rw [hqa]; exact HK.out
  refine fl_call (c := 3) (e' := some 82) (fn := 10) (args := #[.agg (peerA p s)]) (T' := fun v' x => ∃ sa, v' = peerV p sa ∧ (OwnT x x18.heap.size va qa ∧ OwnD x18.heap.size x.heap.size x p sa ∧ Below x18.heap.size x18 x)) rfl rfl ⟨rfl, fun ρ x => ?_⟩ (fun _ h => h.2.size) (fun a b h hb => ⟨h.1.below hb, bt h.2 hb⟩) (fun _ h => h.2) rfl rfl (by kernel_rfl) (Or.inl (by kernel_rfl)) (by kernel_rfl) (by decide) (by kernel_rfl) (by rfl) (fun x => ?_) (fun x hx => (toPeer_any p s x (HR.out.below (bt HB.out hx.2)) HS.out).mono (fun e x' h => by obtain ⟨sa, he, ho, hb⟩ := h; exact ⟨_, he, KpF.below hb, sa, rfl, hx.1.below hb, ho.toD.low hx.2.size, bt hx.2 hb⟩)) (fun _ _ h => by obtain ⟨_, _, _, _, h⟩ := h; exact h) ?_
  · unfold flP zeroA
    go_simp
    try with_reducible rfl
  · go_simp
    try with_reducible rfl
  intro vb
  refine fl_ex (fun sa => fl_and (fun hvb => ?_))
  subst hvb
  simp only [Act.put, List.setIfInBounds_toArray, List.set_cons_zero, List.set_cons_succ]
  refine fl_call (c := 5) (e' := some 84) (fn := 18) (args := #[va, peerV p sa, .int .i64 k]) (T' := fun v' x => ∃ sb, (v' = peerV Q sb ∧ (peerA Q sb).all (·.oneCell') = true) ∧ (OwnD x18.heap.size x.heap.size x Q sb ∧ Below x18.heap.size x18 x)) rfl rfl ⟨rfl, fun ρ x => ?_⟩ (fun _ h => h.2.2.size) (fun a b h hb => ⟨h.1.below hb, (h.2.1.below hb).wide hb.size (Nat.le_refl _), bt h.2.2 hb⟩) (fun _ h => h.2.2) rfl rfl (by kernel_rfl) (Or.inl (by kernel_rfl)) (by kernel_rfl) (by decide) (by kernel_rfl) (by rfl) (fun x => ?_) (fun x hx => by have hsp := HI qa va _ p sa _ _ k x hx.1 hka hx.2.1 HS.out HG.out HWk.out; rw [hqa, HQ.out] at hsp; exact hsp.mono (fun e x' h => by obtain ⟨sb, he, ho, hb⟩ := h; exact ⟨_, he, KpF.below hb, sb, ⟨rfl, peerA_one ho.1⟩, ho.low hx.2.2.size, bt hx.2.2 hb⟩)) (fun _ _ h => by obtain ⟨_, _, _, h⟩ := h; exact h) ?_
  · unfold flP zeroA
    go_simp
    try with_reducible rfl
  · go_simp
    try with_reducible rfl
  intro vc
  refine fl_ex (fun s7 => fl_and (fun hvc => ?_))
  obtain ⟨rfl, hone⟩ := hvc
  simp only [Act.put, List.setIfInBounds_toArray, List.set_cons_zero, List.set_cons_succ]
  refine fl_end_b (s := 7) (cells := peerA Q s7) (f := 0) rfl rfl ⟨rfl, fun ρ x => ?_⟩ (fun _ h => h.2.size) (fun a b h hb => ⟨(h.1.below hb).wide hb.size (Nat.le_refl _), bt h.2 hb⟩) (fun _ h => h.2) rfl rfl rfl rfl (by kernel_rfl) (by kernel_rfl) (by kernel_rfl) (fun N => rfl) (fun N => rfl) rfl (by kernel_rfl) rfl hone ?_
  · unfold flP zeroA
    go_simp
    try with_reducible rfl
  intro N3 y x19 hT hN hold hgr hnew hlt
  have hb : Below x18.heap.size x18 x19 := hT.2.grown hgr hT.2.size (fun k hk => by cases hk; exact hN)
  have HO4A : Hid (OwnD x18.heap.size x19.heap.size x19 Q s7) := (hT.1.boxed hold hgr).wide hgr.size (Nat.le_refl _)
  have HK3A : Hid (x19.heap[N3]? = Option.some (.cells (peerA Q s7) 43 (0, 0))) := hnew
  have HNN3 : Hid (x18.heap.size ≤ N3 ∧ N3 < x19.heap.size) := ⟨hN, hlt⟩
  have HBN : Hid (Below w.heap.size w x19) := bt HB.out hb
  have HKaN : Hid (x19.heap[w.heap.size]? = Option.some (.cells (peerA p s) 33 (0, 0))) := (hb.block _ (Array.getElem?_eq_some_iff.1 HKa.out).1).trans HKa.out
  have HO0N : Hid (OwnD x2.heap.size x3.heap.size x19 Q s2) := HO0.out.below hb
  have HK0N : Hid (x19.heap[N0]? = Option.some (.cells (peerA Q s2) 43 (0, 0))) := (hb.block _ (Array.getElem?_eq_some_iff.1 HK0.out).1).trans HK0.out
  have HK2N : Hid (x19.heap[x7.heap.size]? = Option.some (.cells (peerA Q s4) 43 (0, 0))) := (hb.block _ (Array.getElem?_eq_some_iff.1 HK2.out).1).trans HK2.out
  have HM2N : Hid (MarkD 1 x6.heap.size x19 Q s4) := Own6.below HM2.out hb
  have HZ19 : Hid (x18.heap.size ≤ x19.heap.size) := hb.size
  clear HB HKa HO0 HK0 HK2 HM2
  have HB := HBN
  clear HBN
  have HKa := HKaN
  clear HKaN
  have HO0 := HO0N
  clear HO0N
  have HK0 := HK0N
  clear HK0N
  have HK2 := HK2N
  clear HK2N
  have HM2 := HM2N
  clear HM2N
  have HO4 := HO4A
  clear HO4A
  have HK3 := HK3A
  clear HK3A
  refine ⟨hb, ?_⟩
  clear hT hN hold hgr hnew hlt hb hone hqa hka
  simp only [Act.put, List.setIfInBounds_toArray, List.set_cons_zero, List.set_cons_succ]
  unfold flP
  go_wp2_with (first | (refine wpList_load_row rfl _ _ rfl w.heap.size rfl 33 _ (0, 0) _ HKa.out Tryz.underlying33 rfl (by kernel_rfl) ?_) | (refine wpList_load_row rfl _ _ rfl N0 rfl 43 _ (0, 0) _ HK0.out Tryz.underlying43 rfl (by kernel_rfl) ?_) | (refine wpList_load_row rfl _ _ rfl x7.heap.size rfl 43 _ (0, 0) _ HK2.out Tryz.underlying43 rfl (by kernel_rfl) ?_) | (refine wpList_load_row rfl _ _ rfl N3 rfl 43 _ (0, 0) _ HK3.out Tryz.underlying43 rfl (by kernel_rfl) ?_) | (refine wpList_load_row_w (by first | rfl | simp [Region.wanted, yielded] | simp [Region.wanted, yielded, hk0]) _ _ rfl w.heap.size rfl 33 _ (0, 0) _ HKa.out Tryz.underlying33 rfl (by kernel_rfl) ?_) | (refine wpList_load_row_w (by first | rfl | simp [Region.wanted, yielded] | simp [Region.wanted, yielded, hk0]) _ _ rfl N0 rfl 43 _ (0, 0) _ HK0.out Tryz.underlying43 rfl (by kernel_rfl) ?_) | (refine wpList_load_row_w (by first | rfl | simp [Region.wanted, yielded] | simp [Region.wanted, yielded, hk0]) _ _ rfl x7.heap.size rfl 43 _ (0, 0) _ HK2.out Tryz.underlying43 rfl (by kernel_rfl) ?_) | (refine wpList_load_row_w (by first | rfl | simp [Region.wanted, yielded] | simp [Region.wanted, yielded, hk0]) _ _ rfl N3 rfl 43 _ (0, 0) _ HK3.out Tryz.underlying43 rfl (by kernel_rfl) ?_))
  refine (eqPeer_yes Q s7 s2 x19 HO4.out.reads HO0.out.reads HSQ.out).mono ?_
  rintro e x20 ⟨rfl, hb⟩
  have HBN : Hid (Below w.heap.size w x20) := bt HB.out hb
  have HKaN : Hid (x20.heap[w.heap.size]? = Option.some (.cells (peerA p s) 33 (0, 0))) := (hb.block _ (Array.getElem?_eq_some_iff.1 HKa.out).1).trans HKa.out
  have HO0N : Hid (OwnD x2.heap.size x3.heap.size x20 Q s2) := HO0.out.below hb
  have HK0N : Hid (x20.heap[N0]? = Option.some (.cells (peerA Q s2) 43 (0, 0))) := (hb.block _ (Array.getElem?_eq_some_iff.1 HK0.out).1).trans HK0.out
  have HK2N : Hid (x20.heap[x7.heap.size]? = Option.some (.cells (peerA Q s4) 43 (0, 0))) := (hb.block _ (Array.getElem?_eq_some_iff.1 HK2.out).1).trans HK2.out
  have HM2N : Hid (MarkD 1 x6.heap.size x20 Q s4) := Own6.below HM2.out hb
  have HO4N : Hid (OwnD x18.heap.size x19.heap.size x20 Q s7) := HO4.out.below hb
  have HK3N : Hid (x20.heap[N3]? = Option.some (.cells (peerA Q s7) 43 (0, 0))) := (hb.block _ (Array.getElem?_eq_some_iff.1 HK3.out).1).trans HK3.out
  have HZ20 : Hid (x19.heap.size ≤ x20.heap.size) := hb.size
  clear HB HKa HO0 HK0 HK2 HM2 HO4 HK3
  have HB := HBN
  clear HBN
  have HKa := HKaN
  clear HKaN
  have HO0 := HO0N
  clear HO0N
  have HK0 := HK0N
  clear HK0N
  have HK2 := HK2N
  clear HK2N
  have HM2 := HM2N
  clear HM2N
  have HO4 := HO4N
  clear HO4N
  have HK3 := HK3N
  clear HK3N
  clear hb
  go_wp2_with (first | (refine wpList_load_row rfl _ _ rfl w.heap.size rfl 33 _ (0, 0) _ HKa.out Tryz.underlying33 rfl (by kernel_rfl) ?_) | (refine wpList_load_row rfl _ _ rfl N0 rfl 43 _ (0, 0) _ HK0.out Tryz.underlying43 rfl (by kernel_rfl) ?_) | (refine wpList_load_row rfl _ _ rfl x7.heap.size rfl 43 _ (0, 0) _ HK2.out Tryz.underlying43 rfl (by kernel_rfl) ?_) | (refine wpList_load_row rfl _ _ rfl N3 rfl 43 _ (0, 0) _ HK3.out Tryz.underlying43 rfl (by kernel_rfl) ?_) | (refine wpList_load_row_w (by first | rfl | simp [Region.wanted, yielded] | simp [Region.wanted, yielded, hk0]) _ _ rfl w.heap.size rfl 33 _ (0, 0) _ HKa.out Tryz.underlying33 rfl (by kernel_rfl) ?_) | (refine wpList_load_row_w (by first | rfl | simp [Region.wanted, yielded] | simp [Region.wanted, yielded, hk0]) _ _ rfl N0 rfl 43 _ (0, 0) _ HK0.out Tryz.underlying43 rfl (by kernel_rfl) ?_) | (refine wpList_load_row_w (by first | rfl | simp [Region.wanted, yielded] | simp [Region.wanted, yielded, hk0]) _ _ rfl x7.heap.size rfl 43 _ (0, 0) _ HK2.out Tryz.underlying43 rfl (by kernel_rfl) ?_) | (refine wpList_load_row_w (by first | rfl | simp [Region.wanted, yielded] | simp [Region.wanted, yielded, hk0]) _ _ rfl N3 rfl 43 _ (0, 0) _ HK3.out Tryz.underlying43 rfl (by kernel_rfl) ?_))
  refine (heldPeer_own Q s4 1 x6.heap.size x20 HM2.out HMQ.out (by decide) (by have := HMQ.out.1; omega)).mono ?_
  rintro e x21 ⟨rfl, hb⟩
  have HBN : Hid (Below w.heap.size w x21) := bt HB.out hb
  have HKaN : Hid (x21.heap[w.heap.size]? = Option.some (.cells (peerA p s) 33 (0, 0))) := (hb.block _ (Array.getElem?_eq_some_iff.1 HKa.out).1).trans HKa.out
  have HO0N : Hid (OwnD x2.heap.size x3.heap.size x21 Q s2) := HO0.out.below hb
  have HK0N : Hid (x21.heap[N0]? = Option.some (.cells (peerA Q s2) 43 (0, 0))) := (hb.block _ (Array.getElem?_eq_some_iff.1 HK0.out).1).trans HK0.out
  have HK2N : Hid (x21.heap[x7.heap.size]? = Option.some (.cells (peerA Q s4) 43 (0, 0))) := (hb.block _ (Array.getElem?_eq_some_iff.1 HK2.out).1).trans HK2.out
  have HM2N : Hid (MarkD 1 x6.heap.size x21 Q s4) := Own6.below HM2.out hb
  have HO4N : Hid (OwnD x18.heap.size x19.heap.size x21 Q s7) := HO4.out.below hb
  have HK3N : Hid (x21.heap[N3]? = Option.some (.cells (peerA Q s7) 43 (0, 0))) := (hb.block _ (Array.getElem?_eq_some_iff.1 HK3.out).1).trans HK3.out
  have HZ21 : Hid (x20.heap.size ≤ x21.heap.size) := hb.size
  clear HB HKa HO0 HK0 HK2 HM2 HO4 HK3
  have HB := HBN
  clear HBN
  have HKa := HKaN
  clear HKaN
  have HO0 := HO0N
  clear HO0N
  have HK0 := HK0N
  clear HK0N
  have HK2 := HK2N
  clear HK2N
  have HM2 := HM2N
  clear HM2N
  have HO4 := HO4N
  clear HO4N
  have HK3 := HK3N
  clear HK3N
  clear hb
  go_wp2
  go_ret
  exact ⟨rfl, HB.out⟩

end Go.Proofs.YtnghhfgbobpnkarGreatR.WFnExactTooEarly
