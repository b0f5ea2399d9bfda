/-
  The walk of the law FnExactShows: the specification's answer and the program's are the same; what came in is as it was; the program's answer owns its memory. (Made by gl13s.py.)
-/
import Derived.Test.YtjdddcldbfhbiasGreatShowsS
import Derived.Test.YtjdddcldbfhbiasGreatTreeO
import Derived.Test.YtjdddcldbfhbiasGreatFloatY
import Derived.Test.YtjdddcldbfhbiasGreatCmdsB
import Derived.Test.YtjdddcldbfhbiasGreatCmdOpen
import Derived.Test.YtjdddcldbfhbiasGreatVotedS
import Derived.Test.YtjdddcldbfhbiasGreatBlkE
import Derived.Test.YtjdddcldbfhbiasGreatBlkOpen
namespace Go.Proofs.YtjdddcldbfhbiasGreat.WFnExactShows
open Go.RowKit Num

theorem shows_small {t : List BK} {p : PE} {cmds : List CM} (h : smallPe p) : smallPe (showsP t p cmds) := by
  unfold showsP
  split
  · exact h
  · exact ⟨h.row, h.cells, h.early, h.undos, h.votes, h.news, h.kcells, h.kundos⟩
theorem shows_len (t : List BK) (p : PE) (cmds : List CM) : lenPe (showsP t p cmds) = lenPe p := by
  unfold showsP
  split <;> rfl
theorem shows_sum {t : List BK} {p : PE} {cmds : List CM} (h : sumPe p) : sumPe (showsP t p cmds) := by
  unfold showsP
  split
  · exact h
  · exact h

/-- the program's contract -/
def Prg : Prop := ∀ (ps : TL) (v : Value) (b : Nat) (p : PE) (s : PV) (lo hi : Nat) (cmds : List CM) (cv : Value) (cb : Nat) (w : World) (_ : OwnT w b v ps) (_ : okT (bks ps)) (_ : OwnD lo hi w p s) (_ : smallPe p) (_ : goodPe p) (_ : w.ownsRow cb 116 3 cv cmds.length (flatR cmdF cmds)) (_ : (cmds.length : Int) ≤ 1048576 ∧ ∀ c ∈ cmds, (c.2.1.size : Int) ≤ 1048576) (_ : ∀ c ∈ cmds, goodCmd c), Calls Tryz.prog 23 #[v, peerV p s, cv] w fun e w' => ∃ v' s', e = .returned (.tuple #[v', peerV (showsP (bks ps) p cmds) s', .int .i64 (showsK (bks ps) p cmds)]) ∧ (∃ qs a b c d, bks qs = putT (bks ps) (showB p cmds) ∧ OwnT w' a v' qs ∧ LimT b v' qs ∧ OwnD c d w' (showsP (bks ps) p cmds) s' ∧ w.heap.size ≤ a ∧ w.heap.size ≤ c ∧ b ≤ w'.heap.size ∧ (b ≤ c ∨ d ≤ a)) ∧ Below w.heap.size w w'

set_option maxRecDepth 100000 in
set_option maxHeartbeats 32000000 in
theorem walk_of (HI : Prg) (w : World) (v : Value) (ps : TL) (hT : TreeQ w v ps) (hl : ps.length ≤ maxLen) (hs : ∀ p ∈ ps, goodBk p.1 ∧ wfB p.1) (p : PE) (s : PV) (hR : PeerR w p s) (hg : goodPe p) (cv : Value) (cmds : List CM) (hC : RowsR w cv 3 cmdF cmds) (hlc : cmds.length ≤ maxLen) (hgc : ∀ c ∈ cmds, goodCmd c) :
    Calls Tryz.prog 4 #[v, peerV p s, cv] w fun e w' => e = .returned (.bool true) ∧ Below w.heap.size w w' := by
  have HT : Hid (TreeQ w v ps) := hT
  have HSB : Hid (∀ p ∈ ps, goodBk p.1 ∧ wfB p.1) := hs
  have HR : Hid (PeerR w p s) := hR
  have HG : Hid (goodPe p) := hg
  have HCR : Hid (RowsR w cv 3 cmdF cmds) := hC
  have HCG : Hid (∀ c ∈ cmds, goodCmd c) := hgc
  have hbl := bks_len ps
  unfold maxLen at hl hlc
  clear hT hs hR hg hC hgc
  obtain ⟨X, hX⟩ : ∃ X, X = w.alloc (.cells (peerA p s) 33) := ⟨_, rfl⟩
  have HB : Hid (Below w.heap.size w X) := (by rw [hX]; exact ba (Below.refl _ _) _ : Below w.heap.size w X)
  have HKa : Hid (X.heap[w.heap.size]? = Option.some (.cells (peerA p s) 33 (0, 0))) := (by rw [hX]; exact heap_alloc_new w _ : X.heap[w.heap.size]? = _)
  have HZ0 : Hid (w.heap.size < X.heap.size) := (Array.getElem?_eq_some_iff.1 HKa.out).1
  go_enter Tryz.func4, Tryz.ntmps4
  go_wp2_with fail
  rw [← hX]
  clear hX
  refine (szBlocks_any ps v 1048576 X (by decide) (by decide) (HT.out.below HB.out) (by omega) (fun p hp => (HSB.out p hp).1)).mono ?_
  rintro e x1 ⟨rfl, hb⟩
  have HBN : Hid (Below w.heap.size w x1) := bt HB.out hb
  have HKaN : Hid (x1.heap[w.heap.size]? = Option.some (.cells (peerA p s) 33 (0, 0))) := (hb.block _ (Array.getElem?_eq_some_iff.1 HKa.out).1).trans HKa.out
  have HZ1 : Hid (X.heap.size ≤ x1.heap.size) := hb.size
  clear HB HKa
  have HB := HBN
  clear HBN
  have HKa := HKaN
  clear HKaN
  clear hb
  by_cases hn0 : szBlocksC (bks ps) 1048576 < 0
  · go_wp2
    go_ret
    exact ⟨rfl, HB.out⟩
  have hbd := szBlocks_bd (t := bks ps) (Int.le_refl _) (Int.not_lt.1 hn0)
  have HK : Hid (okT (bks ps)) := hbd.1
  have hge0 := Int.not_lt.1 hn0
  have hpl : (ps.length : Int) ≤ 1048576 := by have := hbd.1.1; rw [hbl] at this; exact this
  have hwt := szBlocks_wt hge0
  have hle0 := hbd.2
  obtain ⟨z0, hz0⟩ : ∃ z0, z0 = szBlocksC (bks ps) 1048576 := ⟨_, rfl⟩
  rw [← hz0] at hn0 hle0 hge0 hwt ⊢
  clear hz0 hbd
  have HWT : Hid (z0 ≤ 1048576 - (wtB (bks ps) : Int)) := hwt
  clear hwt
  go_wp2_with (first | (refine wpList_load_row rfl _ _ rfl w.heap.size rfl 33 _ (0, 0) _ HKa.out Tryz.underlying33 rfl (by kernel_rfl) ?_) | (refine wpList_load_row_w (by first | rfl | simp [Region.wanted, yielded] | simp [Region.wanted, yielded, hk0]) _ _ rfl w.heap.size rfl 33 _ (0, 0) _ HKa.out Tryz.underlying33 rfl (by kernel_rfl) ?_))
  refine (szPeer_any p s z0 x1 hge0 hle0 (HR.out.below HB.out) HG.out).mono ?_
  rintro e x2 ⟨z, rfl, hz, hb⟩
  have HBN : Hid (Below w.heap.size w x2) := bt HB.out hb
  have HKaN : Hid (x2.heap[w.heap.size]? = Option.some (.cells (peerA p s) 33 (0, 0))) := (hb.block _ (Array.getElem?_eq_some_iff.1 HKa.out).1).trans HKa.out
  have HZ2 : Hid (x1.heap.size ≤ x2.heap.size) := hb.size
  clear HB HKa
  have HB := HBN
  clear HBN
  have HKa := HKaN
  clear HKaN
  clear hb
  rcases hz with rfl | ⟨hz1, hsum, hsm⟩
  · go_wp2
    go_ret
    exact ⟨rfl, HB.out⟩
  have HS : Hid (smallPe p) := hsm
  have HLZ : Hid ((lenPe p : Int) + wtB (bks ps) + z ≤ 1048576) := (by have := HWT.out; unfold lenPe; omega : (lenPe p : Int) + wtB (bks ps) + z ≤ 1048576)
  have hz2 : z ≤ 1048576 := by omega
  have hz3 : ¬ z < 0 := by omega
  go_wp2_with (first | (refine wpList_load_row rfl _ _ rfl w.heap.size rfl 33 _ (0, 0) _ HKa.out Tryz.underlying33 rfl (by kernel_rfl) ?_) | (refine wpList_load_row_w (by first | rfl | simp [Region.wanted, yielded] | simp [Region.wanted, yielded, hk0]) _ _ rfl w.heap.size rfl 33 _ (0, 0) _ HKa.out Tryz.underlying33 rfl (by kernel_rfl) ?_))
  refine (szCmds_any cmds cv z x2 hz1 hz2 (HCR.out.below HB.out) (by omega) (fun c hc => by have := (HCG.out c hc).2.1; unfold maxLen at this; omega)).mono ?_
  rintro e x3 ⟨rfl, hb⟩
  have HBN : Hid (Below w.heap.size w x3) := bt HB.out hb
  have HKaN : Hid (x3.heap[w.heap.size]? = Option.some (.cells (peerA p s) 33 (0, 0))) := (hb.block _ (Array.getElem?_eq_some_iff.1 HKa.out).1).trans HKa.out
  have HZ3 : Hid (x2.heap.size ≤ x3.heap.size) := hb.size
  clear HB HKa
  have HB := HBN
  clear HBN
  have HKa := HKaN
  clear HKaN
  clear hb
  by_cases hn1 : szCmdsC cmds z < 0
  · go_wp2
    go_ret
    exact ⟨rfl, HB.out⟩
  have HCB : Hid ((cmds.length : Int) ≤ 1048576 ∧ ∀ c ∈ cmds, (c.2.1.size : Int) ≤ 1048576) := szCmds_bd hz2 (Int.not_lt.1 hn1)
  have hwc := szCmds_wt (Int.not_lt.1 hn1)
  have hnn1 := Int.not_lt.1 hn1
  have HLP : Hid (lenPe p + wtB (bks ps) + cmds.length ≤ 1048576) := (by have := HLZ.out; omega : lenPe p + wtB (bks ps) + cmds.length ≤ 1048576)
  obtain ⟨z5, hz5⟩ : ∃ z5, z5 = szCmdsC cmds z := ⟨_, rfl⟩
  rw [← hz5] at hn1 ⊢
  clear hz5 hwc hnn1
  have HSM : Hid (sumPe p) := (by have a0 := hsm.row; have a1 := hsm.cells; have a2 := hsm.early; have a3 := hsm.undos; have a4 := hsm.votes; have a5 := hsm.news; have := HLP.out; exact ⟨by omega, by omega, by omega, by omega, by omega, by omega, by omega⟩ : sumPe p)
  have HSQ : Hid (smallPe (showsP (bks ps) p cmds)) := shows_small HS.out
  have HMQ : Hid (sumPe (showsP (bks ps) p cmds) ∧ lenPe (showsP (bks ps) p cmds) = lenPe p) := ⟨shows_sum HSM.out, shows_len _ _ _⟩
  have HTT : Hid (okT (putT (bks ps) (showB p cmds)) ∧ wtB (putT (bks ps) (showB p cmds)) ≤ wtB (bks ps) + 1 + cmds.length) := ⟨okT_put HK.out HCB.out, putT_wt _ _⟩
  obtain ⟨Q, hQ⟩ : ∃ Q, Q = showsP (bks ps) p cmds := ⟨_, rfl⟩
  obtain ⟨KK, hKK⟩ : ∃ KK, KK = showsK (bks ps) p cmds := ⟨_, rfl⟩
  obtain ⟨TT, hTT⟩ : ∃ TT, TT = putT (bks ps) (showB p cmds) := ⟨_, rfl⟩
  have HQ : Hid (showsP (bks ps) p cmds = Q ∧ showsK (bks ps) p cmds = KK ∧ putT (bks ps) (showB p cmds) = TT) := ⟨hQ.symm, hKK.symm, hTT.symm⟩
  rw [← hQ] at HSQ HMQ
  rw [← hTT] at HTT
  clear hQ hKK hTT hsm hsum
  have hqq : (KK != KK) = false := by simp
  go_wp2
  refine wp_region_H (Below x3.heap.size x3) (by kernel_rfl) ?_
  show wpAnyH Tryz.prog _ _ _ _ (14 + 1) (Array.replicate 15 false) _ _
  refine fl_in (i := 11) (d := some 9) (obj := .cells zeroA 45 (0, 0)) (base := x3.heap.size) (T := Below x3.heap.size x3) (f := 14) ?_ (Below.refl _ _).drew
  refine fl_take (j := 0) (e' := some 39) (v := v) rfl rfl rfl rfl (by kernel_rfl) (by kernel_rfl) (by kernel_rfl) (by kernel_rfl) (by kernel_rfl) (by decide) (by kernel_rfl) (fun _ _ _ h => h) (fun _ h => h) (Or.inl ⟨by rfl, ?_⟩) ?_
  · intro x hx
    go_simp
    try with_reducible rfl
  simp only [Act.put, List.setIfInBounds_toArray, List.set_cons_zero, List.set_cons_succ]
  refine fl_take (j := 2) (e' := some 41) (v := .agg (peerA p s)) rfl rfl rfl rfl (by kernel_rfl) (by kernel_rfl) (by kernel_rfl) (by kernel_rfl) (by kernel_rfl) (by decide) (by kernel_rfl) (fun _ _ _ h => h) (fun _ h => h) (Or.inl ⟨by rfl, ?_⟩) ?_
  · exact fun x hx => exec_load_blk _ _ rfl w.heap.size rfl _ _ _ _ ((hx.block _ (Array.getElem?_eq_some_iff.1 HKa.out).1).trans HKa.out) Tryz.underlying33 rfl (by kernel_rfl)
  simp only [Act.put, List.setIfInBounds_toArray, List.set_cons_zero, List.set_cons_succ]
  refine fl_take (j := 4) (e' := some 43) (v := cv) rfl rfl rfl rfl (by kernel_rfl) (by kernel_rfl) (by kernel_rfl) (by kernel_rfl) (by kernel_rfl) (by decide) (by kernel_rfl) (fun _ _ _ h => h) (fun _ h => h) (Or.inl ⟨by rfl, ?_⟩) ?_
  · intro x hx
    go_simp
    try with_reducible rfl
  simp only [Act.put, List.setIfInBounds_toArray, List.set_cons_zero, List.set_cons_succ]
  refine fl_call (c := 1) (e' := some 40) (fn := 8) (args := #[v]) (T' := fun v' x => ∃ qa, bks qa = bks ps ∧ (OwnT x x3.heap.size v' qa ∧ Below x3.heap.size x3 x)) rfl rfl ⟨rfl, fun ρ x => ?_⟩ (fun _ h => h.size) (fun a b h hb => bt h hb) (fun _ h => h) rfl rfl (by kernel_rfl) (Or.inl (by kernel_rfl)) (by kernel_rfl) (by decide) (by kernel_rfl) (by rfl) (fun x => ?_) (fun x hx => (toBlocks_any ps v x (HT.out.below (bt HB.out hx)) HK.out).mono (fun e x' h => by obtain ⟨v', qs, he, hq, ho, hb⟩ := h; exact ⟨v', he, KpF.below hb, qs, hq, ho.base hx.size, bt hx hb⟩)) (fun _ _ h => by obtain ⟨_, _, _, h⟩ := h; exact h) ?_
  · unfold flP zeroA
    go_simp
    try with_reducible rfl
  · go_simp
    try with_reducible rfl
  intro va
  refine fl_ex (fun qa => fl_and (fun hqa => ?_))
  simp only [Act.put, List.setIfInBounds_toArray, List.set_cons_zero, List.set_cons_succ]
  have hka : okT (bks qa) := by rw [hqa]; exact HK.out
  refine fl_call (c := 3) (e' := some 42) (fn := 9) (args := #[.agg (peerA p s)]) (T' := fun v' x => ∃ sa, v' = peerV p sa ∧ (OwnT x x3.heap.size va qa ∧ OwnD x3.heap.size x.heap.size x p sa ∧ Below x3.heap.size x3 x)) rfl rfl ⟨rfl, fun ρ x => ?_⟩ (fun _ h => h.2.size) (fun a b h hb => ⟨h.1.below hb, bt h.2 hb⟩) (fun _ h => h.2) rfl rfl (by kernel_rfl) (Or.inl (by kernel_rfl)) (by kernel_rfl) (by decide) (by kernel_rfl) (by rfl) (fun x => ?_) (fun x hx => (toPeer_any p s x (HR.out.below (bt HB.out hx.2)) HS.out).mono (fun e x' h => by obtain ⟨sa, he, ho, hb⟩ := h; exact ⟨_, he, KpF.below hb, sa, rfl, hx.1.below hb, ho.toD.low hx.2.size, bt hx.2 hb⟩)) (fun _ _ h => by obtain ⟨_, _, _, _, h⟩ := h; exact h) ?_
  · unfold flP zeroA
    go_simp
    try with_reducible rfl
  · go_simp
    try with_reducible rfl
  intro vb
  refine fl_ex (fun sa => fl_and (fun hvb => ?_))
  subst hvb
  simp only [Act.put, List.setIfInBounds_toArray, List.set_cons_zero, List.set_cons_succ]
  refine fl_call (c := 5) (e' := some 44) (fn := 22) (args := #[cv]) (T' := fun v' x => OwnT x x3.heap.size va qa ∧ OwnD x3.heap.size x.heap.size x p sa ∧ x.ownsRow x3.heap.size 116 3 v' cmds.length (flatR cmdF cmds) ∧ Below x3.heap.size x3 x) rfl rfl ⟨rfl, fun ρ x => ?_⟩ (fun _ h => h.2.2.size) (fun a b h hb => ⟨h.1.below hb, (h.2.1.below hb).wide hb.size (Nat.le_refl _), bt h.2.2 hb⟩) (fun _ h => h.2.2) rfl rfl (by kernel_rfl) (Or.inl (by kernel_rfl)) (by kernel_rfl) (by decide) (by kernel_rfl) (by rfl) (fun x => ?_) (fun x hx => (toCmds_any cmds cv x (HCR.out.below (bt HB.out hx.2.2)) HCB.out.1).mono (fun e x' h => by obtain ⟨v', he, ho, hb⟩ := h; exact ⟨v', he, KpF.below hb, hx.1.below hb, (hx.2.1.below hb).wide hb.size (Nat.le_refl _), own_base ho hx.2.2.size, bt hx.2.2 hb⟩)) (fun _ _ h => h.2.2.2) ?_
  · unfold flP zeroA
    go_simp
    try with_reducible rfl
  · go_simp
    try with_reducible rfl
  intro vd
  simp only [Act.put, List.setIfInBounds_toArray, List.set_cons_zero, List.set_cons_succ]
  refine fl_call (c := 6) (e' := some 45) (fn := 21) (args := #[va, peerV p sa, vd]) (T' := fun v' x => ∃ vt, ∃ sb, ∃ qs, (v' = .tuple #[vt, peerV Q sb, .int .i64 KK] ∧ (peerA Q sb).all (·.oneCell') = true ∧ bks qs = TT) ∧ (OwnT x x3.heap.size vt qs ∧ OwnD x3.heap.size x.heap.size x Q sb ∧ Below x3.heap.size x3 x)) rfl rfl ⟨rfl, fun ρ x => ?_⟩ (fun _ h => h.2.2.2.size) (fun a b h hb => ⟨h.1.below hb, (h.2.1.below hb).wide hb.size (Nat.le_refl _), own_kept h.2.2.1 hb, bt h.2.2.2 hb⟩) (fun _ h => h.2.2.2) rfl rfl (by kernel_rfl) (Or.inl (by kernel_rfl)) (by kernel_rfl) (by decide) (by kernel_rfl) (by rfl) (fun x => ?_) (fun x hx => by have hsp := shows_s qa va p sa cmds vd x hx.1.read hka hx.2.1.reads HS.out (rows_of_own cmdF_len hx.2.2.1) HCB.out; rw [hqa, HQ.out.1, HQ.out.2.1, HQ.out.2.2] at hsp; exact hsp.mono (fun e x' h => by obtain ⟨vt, sb, he, ⟨qs, mid, hqs, hot, hli, ho2, hlo2⟩, hb⟩ := h; have hlo := Nat.le_refl x.heap.size; exact ⟨_, he, KpF.below hb, vt, sb, qs, ⟨rfl, peerA_one ho2.1, hqs⟩, hot.base (Nat.le_trans hx.2.2.2.size hlo), (ho2.low (Nat.le_trans hx.2.2.2.size hlo2)).wide ho2.2.2 (Nat.le_refl _), bt hx.2.2.2 hb⟩)) (fun _ _ h => by obtain ⟨_, _, _, _, h⟩ := h; exact h.2.2) ?_
  · unfold flP zeroA
    go_simp
    try with_reducible rfl
  · go_simp
    try with_reducible rfl
  intro vc
  refine fl_ex (fun v2 => fl_ex (fun s2 => fl_ex (fun q2 => fl_and (fun hvc => ?_))))
  obtain ⟨rfl, hone, hqs⟩ := hvc
  simp only [Act.put, List.setIfInBounds_toArray, List.set_cons_zero, List.set_cons_succ]
  refine fl_take (j := 7) (e' := some 38) (v := .tuple #[v2, peerV Q s2, .int .i64 KK]) rfl rfl rfl rfl (by kernel_rfl) (by kernel_rfl) (by kernel_rfl) (by kernel_rfl) (by kernel_rfl) (by decide) (by kernel_rfl) (fun _ _ _ h => h) (fun _ h => h.2.2) (Or.inl ⟨by rfl, ?_⟩) ?_
  · intro x hx
    go_simp
    try with_reducible rfl
  simp only [Act.put, List.setIfInBounds_toArray, List.set_cons_zero, List.set_cons_succ]
  refine fl_take (j := 8) (e' := some 46) (v := v2) rfl rfl rfl rfl (by kernel_rfl) (by kernel_rfl) (by kernel_rfl) (by kernel_rfl) (by kernel_rfl) (by decide) (by kernel_rfl) (fun _ _ _ h => h) (fun _ h => h.2.2) (Or.inl ⟨by rfl, ?_⟩) ?_
  · intro x hx
    go_simp
    try with_reducible rfl
  simp only [Act.put, List.setIfInBounds_toArray, List.set_cons_zero, List.set_cons_succ]
  refine fl_take (j := 9) (e' := some 47) (v := peerV Q s2) rfl rfl rfl rfl (by kernel_rfl) (by kernel_rfl) (by kernel_rfl) (by kernel_rfl) (by kernel_rfl) (by decide) (by kernel_rfl) (fun _ _ _ h => h) (fun _ h => h.2.2) (Or.inl ⟨by rfl, ?_⟩) ?_
  · intro x hx
    go_simp
    try with_reducible rfl
  simp only [Act.put, List.setIfInBounds_toArray, List.set_cons_zero, List.set_cons_succ]
  refine fl_take (j := 10) (e' := some 48) (v := .int .i64 KK) rfl rfl rfl rfl (by kernel_rfl) (by kernel_rfl) (by kernel_rfl) (by kernel_rfl) (by kernel_rfl) (by decide) (by kernel_rfl) (fun _ _ _ h => h) (fun _ h => h.2.2) (Or.inl ⟨by rfl, ?_⟩) ?_
  · intro x hx
    go_simp
    try with_reducible rfl
  simp only [Act.put, List.setIfInBounds_toArray, List.set_cons_zero, List.set_cons_succ]
  refine fl_out (f := 3) rfl rfl ⟨rfl, fun ρ x => ?_⟩ (fun _ h => h.2.2.size) (fun a b h hb => ⟨h.1.below hb, (h.2.1.below hb).wide hb.size (Nat.le_refl _), bt h.2.2 hb⟩) (fun _ h => h.2.2) (by kernel_rfl) ?_
  · unfold flP zeroA
    go_simp
    try with_reducible rfl
  intro N0 y hT hN hold
  simp only [Act.put, List.setIfInBounds_toArray, List.set_cons_zero, List.set_cons_succ]
  refine h_take (j := 12) (e' := some 8) (v := v2) rfl rfl (by kernel_rfl) (by kernel_rfl) (by kernel_rfl) (fun _ _ _ h => h) (Or.inl ⟨by rfl, ?_⟩) hT.2.2 ?_
  · intro x hx
    go_simp
    try with_reducible rfl
  simp only [Act.put, List.setIfInBounds_toArray, List.set_cons_zero, List.set_cons_succ]
  refine h_store (s := 13) (N := N0) (cells := peerA Q s2) rfl rfl rfl rfl (by kernel_rfl) rfl rfl hold (by kernel_rfl) rfl hone ?_
  intro x4 hgr hnew
  have hlt : N0 < x4.heap.size := (Array.getElem?_eq_some_iff.1 hnew).1
  have hb : Below x3.heap.size x3 x4 := hT.2.2.grown hgr hT.2.2.size (fun k hk => by cases hk; exact hN)
  refine ⟨hb, ?_⟩
  refine h_take (j := 14) (e' := some 10) (v := .int .i64 KK) rfl rfl (by kernel_rfl) (by kernel_rfl) (by kernel_rfl) (fun _ _ _ h => h) (Or.inl ⟨by rfl, ?_⟩) hb ?_
  · intro x hx
    go_simp
    try with_reducible rfl
  simp only [Act.put, List.setIfInBounds_toArray, List.set_cons_zero, List.set_cons_succ]
  refine wpAnyH_done (by kernel_rfl) ?_ _
  have HT0A : Hid (TreeO x4 x3.heap.size x4.heap.size v2 q2) := tree_o (tree_boxed hT.1 hold hgr)
  have HO0A : Hid (OwnD x3.heap.size x4.heap.size x4 Q s2) := (hT.2.1.boxed hold hgr).wide hgr.size (Nat.le_refl _)
  have HK0A : Hid (x4.heap[N0]? = Option.some (.cells (peerA Q s2) 45 (0, 0))) := hnew
  have HNN0 : Hid (x3.heap.size ≤ N0 ∧ N0 < x4.heap.size) := ⟨hN, hlt⟩
  have HQq2 : Hid (bks q2 = TT) := hqs
  have HBN : Hid (Below w.heap.size w x4) := bt HB.out hb
  have HKaN : Hid (x4.heap[w.heap.size]? = Option.some (.cells (peerA p s) 33 (0, 0))) := (hb.block _ (Array.getElem?_eq_some_iff.1 HKa.out).1).trans HKa.out
  have HZ4 : Hid (x3.heap.size ≤ x4.heap.size) := hb.size
  clear HB HKa
  have HB := HBN
  clear HBN
  have HKa := HKaN
  clear HKaN
  have HO0 := HO0A
  clear HO0A
  have HK0 := HK0A
  clear HK0A
  have HT0 := HT0A
  clear HT0A
  clear hT hN hold hgr hnew hlt hb hone hqa hka hqs
  unfold flP
  go_wp2_with (first | (refine wpList_load_row rfl _ _ rfl w.heap.size rfl 33 _ (0, 0) _ HKa.out Tryz.underlying33 rfl (by kernel_rfl) ?_) | (refine wpList_load_row rfl _ _ rfl N0 rfl 45 _ (0, 0) _ HK0.out Tryz.underlying45 rfl (by kernel_rfl) ?_) | (refine wpList_load_row_w (by first | rfl | simp [Region.wanted, yielded] | simp [Region.wanted, yielded, hk0]) _ _ rfl w.heap.size rfl 33 _ (0, 0) _ HKa.out Tryz.underlying33 rfl (by kernel_rfl) ?_) | (refine wpList_load_row_w (by first | rfl | simp [Region.wanted, yielded] | simp [Region.wanted, yielded, hk0]) _ _ rfl N0 rfl 45 _ (0, 0) _ HK0.out Tryz.underlying45 rfl (by kernel_rfl) ?_))
  refine (toBlocks_any ps v x4 (HT.out.below HB.out) HK.out).mono ?_
  rintro e x5 ⟨vx, qx, rfl, hq, ho, hb⟩
  have HTxA : Hid (TreeO x5 x4.heap.size x5.heap.size vx qx) := tree_o ho
  have HBN : Hid (Below w.heap.size w x5) := bt HB.out hb
  have HKaN : Hid (x5.heap[w.heap.size]? = Option.some (.cells (peerA p s) 33 (0, 0))) := (hb.block _ (Array.getElem?_eq_some_iff.1 HKa.out).1).trans HKa.out
  have HO0N : Hid (OwnD x3.heap.size x4.heap.size x5 Q s2) := HO0.out.below hb
  have HK0N : Hid (x5.heap[N0]? = Option.some (.cells (peerA Q s2) 45 (0, 0))) := (hb.block _ (Array.getElem?_eq_some_iff.1 HK0.out).1).trans HK0.out
  have HT0N : Hid (TreeO x5 x3.heap.size x4.heap.size v2 q2) := HT0.out.below hb
  have HZ5 : Hid (x4.heap.size ≤ x5.heap.size) := hb.size
  clear HB HKa HO0 HK0 HT0
  have HB := HBN
  clear HBN
  have HKa := HKaN
  clear HKaN
  have HO0 := HO0N
  clear HO0N
  have HK0 := HK0N
  clear HK0N
  have HT0 := HT0N
  clear HT0N
  have HTx := HTxA
  clear HTxA
  have HQx : Hid (bks qx = bks ps) := hq
  clear ho hb hq
  go_wp2_with (first | (refine wpList_load_row rfl _ _ rfl w.heap.size rfl 33 _ (0, 0) _ HKa.out Tryz.underlying33 rfl (by kernel_rfl) ?_) | (refine wpList_load_row rfl _ _ rfl N0 rfl 45 _ (0, 0) _ HK0.out Tryz.underlying45 rfl (by kernel_rfl) ?_) | (refine wpList_load_row_w (by first | rfl | simp [Region.wanted, yielded] | simp [Region.wanted, yielded, hk0]) _ _ rfl w.heap.size rfl 33 _ (0, 0) _ HKa.out Tryz.underlying33 rfl (by kernel_rfl) ?_) | (refine wpList_load_row_w (by first | rfl | simp [Region.wanted, yielded] | simp [Region.wanted, yielded, hk0]) _ _ rfl N0 rfl 45 _ (0, 0) _ HK0.out Tryz.underlying45 rfl (by kernel_rfl) ?_))
  refine (toPeer_any p s x5 (HR.out.below HB.out) HS.out).mono ?_
  rintro e x6 ⟨s3, rfl, ho, hb⟩
  have HO1A : Hid (OwnD x5.heap.size x6.heap.size x6 p s3) := ho.toD
  have HBN : Hid (Below w.heap.size w x6) := bt HB.out hb
  have HKaN : Hid (x6.heap[w.heap.size]? = Option.some (.cells (peerA p s) 33 (0, 0))) := (hb.block _ (Array.getElem?_eq_some_iff.1 HKa.out).1).trans HKa.out
  have HO0N : Hid (OwnD x3.heap.size x4.heap.size x6 Q s2) := HO0.out.below hb
  have HK0N : Hid (x6.heap[N0]? = Option.some (.cells (peerA Q s2) 45 (0, 0))) := (hb.block _ (Array.getElem?_eq_some_iff.1 HK0.out).1).trans HK0.out
  have HT0N : Hid (TreeO x6 x3.heap.size x4.heap.size v2 q2) := HT0.out.below hb
  have HTxN : Hid (TreeO x6 x4.heap.size x5.heap.size vx qx) := HTx.out.below hb
  have HZ6 : Hid (x5.heap.size ≤ x6.heap.size) := hb.size
  clear HB HKa HO0 HK0 HT0 HTx
  have HB := HBN
  clear HBN
  have HKa := HKaN
  clear HKaN
  have HO0 := HO0N
  clear HO0N
  have HK0 := HK0N
  clear HK0N
  have HT0 := HT0N
  clear HT0N
  have HTx := HTxN
  clear HTxN
  have HO1 := HO1A
  clear HO1A
  clear ho hb
  go_wp2_with (first | (refine wpList_store_blk rfl _ _ _ rfl x6.heap.size (peerA p s3) rfl rfl 45 zeroA (heap_alloc_new x6 _) (by kernel_rfl) rfl (peerA_one HO1.out.1) ?_; intro x7 hg hk hz; have hb : Below x6.heap.size x6 x7 := made_below hg; have hlt : x6.heap.size < x7.heap.size := (Array.getElem?_eq_some_iff.1 hk).1; have HBN : Hid (Below w.heap.size w x7) := bt HB.out hb; have HKaN : Hid (x7.heap[w.heap.size]? = Option.some (.cells (peerA p s) 33 (0, 0))) := (hb.block _ (Array.getElem?_eq_some_iff.1 HKa.out).1).trans HKa.out; have HO0N : Hid (OwnD x3.heap.size x4.heap.size x7 Q s2) := HO0.out.below hb; have HK0N : Hid (x7.heap[N0]? = Option.some (.cells (peerA Q s2) 45 (0, 0))) := (hb.block _ (Array.getElem?_eq_some_iff.1 HK0.out).1).trans HK0.out; have HT0N : Hid (TreeO x7 x3.heap.size x4.heap.size v2 q2) := HT0.out.below hb; have HTxN : Hid (TreeO x7 x4.heap.size x5.heap.size vx qx) := HTx.out.below hb; have HO1N : Hid (OwnD x5.heap.size x6.heap.size x7 p s3) := HO1.out.below hb; have HZ7 : Hid (x6.heap.size < x7.heap.size) := hlt; clear HB HKa HO0 HK0 HT0 HTx HO1; have HB := HBN; clear HBN; have HKa := HKaN; clear HKaN; have HO0 := HO0N; clear HO0N; have HK0 := HK0N; clear HK0N; have HT0 := HT0N; clear HT0N; have HTx := HTxN; clear HTxN; have HO1 := HO1N; clear HO1N; have HK1 : Hid (x7.heap[x6.heap.size]? = Option.some (.cells (peerA p s3) 45 (0, 0))) := hk; clear hg hk hz hb hlt) | (refine wpList_load_row rfl _ _ rfl w.heap.size rfl 33 _ (0, 0) _ HKa.out Tryz.underlying33 rfl (by kernel_rfl) ?_) | (refine wpList_load_row rfl _ _ rfl N0 rfl 45 _ (0, 0) _ HK0.out Tryz.underlying45 rfl (by kernel_rfl) ?_) | (refine wpList_load_row rfl _ _ rfl x6.heap.size rfl 45 _ (0, 0) _ HK1.out Tryz.underlying45 rfl (by kernel_rfl) ?_) | (refine wpList_load_row_w (by first | rfl | simp [Region.wanted, yielded] | simp [Region.wanted, yielded, hk0]) _ _ rfl w.heap.size rfl 33 _ (0, 0) _ HKa.out Tryz.underlying33 rfl (by kernel_rfl) ?_) | (refine wpList_load_row_w (by first | rfl | simp [Region.wanted, yielded] | simp [Region.wanted, yielded, hk0]) _ _ rfl N0 rfl 45 _ (0, 0) _ HK0.out Tryz.underlying45 rfl (by kernel_rfl) ?_) | (refine wpList_load_row_w (by first | rfl | simp [Region.wanted, yielded] | simp [Region.wanted, yielded, hk0]) _ _ rfl x6.heap.size rfl 45 _ (0, 0) _ HK1.out Tryz.underlying45 rfl (by kernel_rfl) ?_))
  refine (toCmds_any cmds cv x7 (HCR.out.below HB.out) HCB.out.1).mono ?_
  rintro e x8 ⟨vm, rfl, ho, hb⟩
  have HCxA : Hid (CmdsO x8 x7.heap.size x8.heap.size vm cmds.length (flatR cmdF cmds)) := cmds_o ho
  have HBN : Hid (Below w.heap.size w x8) := bt HB.out hb
  have HKaN : Hid (x8.heap[w.heap.size]? = Option.some (.cells (peerA p s) 33 (0, 0))) := (hb.block _ (Array.getElem?_eq_some_iff.1 HKa.out).1).trans HKa.out
  have HO0N : Hid (OwnD x3.heap.size x4.heap.size x8 Q s2) := HO0.out.below hb
  have HK0N : Hid (x8.heap[N0]? = Option.some (.cells (peerA Q s2) 45 (0, 0))) := (hb.block _ (Array.getElem?_eq_some_iff.1 HK0.out).1).trans HK0.out
  have HT0N : Hid (TreeO x8 x3.heap.size x4.heap.size v2 q2) := HT0.out.below hb
  have HTxN : Hid (TreeO x8 x4.heap.size x5.heap.size vx qx) := HTx.out.below hb
  have HO1N : Hid (OwnD x5.heap.size x6.heap.size x8 p s3) := HO1.out.below hb
  have HK1N : Hid (x8.heap[x6.heap.size]? = Option.some (.cells (peerA p s3) 45 (0, 0))) := (hb.block _ (Array.getElem?_eq_some_iff.1 HK1.out).1).trans HK1.out
  have HZ8 : Hid (x7.heap.size ≤ x8.heap.size) := hb.size
  clear HB HKa HO0 HK0 HT0 HTx HO1 HK1
  have HB := HBN
  clear HBN
  have HKa := HKaN
  clear HKaN
  have HO0 := HO0N
  clear HO0N
  have HK0 := HK0N
  clear HK0N
  have HT0 := HT0N
  clear HT0N
  have HTx := HTxN
  clear HTxN
  have HO1 := HO1N
  clear HO1N
  have HK1 := HK1N
  clear HK1N
  have HCx := HCxA
  clear HCxA
  clear ho hb
  go_wp2_with (first | (refine wpList_load_row rfl _ _ rfl w.heap.size rfl 33 _ (0, 0) _ HKa.out Tryz.underlying33 rfl (by kernel_rfl) ?_) | (refine wpList_load_row rfl _ _ rfl N0 rfl 45 _ (0, 0) _ HK0.out Tryz.underlying45 rfl (by kernel_rfl) ?_) | (refine wpList_load_row rfl _ _ rfl x6.heap.size rfl 45 _ (0, 0) _ HK1.out Tryz.underlying45 rfl (by kernel_rfl) ?_) | (refine wpList_load_row_w (by first | rfl | simp [Region.wanted, yielded] | simp [Region.wanted, yielded, hk0]) _ _ rfl w.heap.size rfl 33 _ (0, 0) _ HKa.out Tryz.underlying33 rfl (by kernel_rfl) ?_) | (refine wpList_load_row_w (by first | rfl | simp [Region.wanted, yielded] | simp [Region.wanted, yielded, hk0]) _ _ rfl N0 rfl 45 _ (0, 0) _ HK0.out Tryz.underlying45 rfl (by kernel_rfl) ?_) | (refine wpList_load_row_w (by first | rfl | simp [Region.wanted, yielded] | simp [Region.wanted, yielded, hk0]) _ _ rfl x6.heap.size rfl 45 _ (0, 0) _ HK1.out Tryz.underlying45 rfl (by kernel_rfl) ?_))
  have hsp := HI qx vx _ p s3 x5.heap.size x6.heap.size cmds vm _ x8 HTx.out.own (by rw [HQx.out]; exact HK.out) HO1.out HS.out HG.out HCx.out.own HCB.out HCG.out
  rw [HQx.out, HQ.out.1, HQ.out.2.1, HQ.out.2.2] at hsp
  refine (hsp).mono ?_
  rintro e x9 ⟨vg, s4, rfl, ⟨qg, ga, gb, gc, gd, hqg, hog, hlg, hpg, hga, hgc, hgb, hgx⟩, hb⟩
  have HTgA : Hid (TreeO x9 ga gb vg qg) := ⟨hog, hlg⟩
  have HO2A : Hid (OwnD gc gd x9 Q s4) := hpg
  have HBN : Hid (Below w.heap.size w x9) := bt HB.out hb
  have HKaN : Hid (x9.heap[w.heap.size]? = Option.some (.cells (peerA p s) 33 (0, 0))) := (hb.block _ (Array.getElem?_eq_some_iff.1 HKa.out).1).trans HKa.out
  have HO0N : Hid (OwnD x3.heap.size x4.heap.size x9 Q s2) := HO0.out.below hb
  have HK0N : Hid (x9.heap[N0]? = Option.some (.cells (peerA Q s2) 45 (0, 0))) := (hb.block _ (Array.getElem?_eq_some_iff.1 HK0.out).1).trans HK0.out
  have HT0N : Hid (TreeO x9 x3.heap.size x4.heap.size v2 q2) := HT0.out.below hb
  have HTxN : Hid (TreeO x9 x4.heap.size x5.heap.size vx qx) := HTx.out.below hb
  have HO1N : Hid (OwnD x5.heap.size x6.heap.size x9 p s3) := HO1.out.below hb
  have HK1N : Hid (x9.heap[x6.heap.size]? = Option.some (.cells (peerA p s3) 45 (0, 0))) := (hb.block _ (Array.getElem?_eq_some_iff.1 HK1.out).1).trans HK1.out
  have HCxN : Hid (CmdsO x9 x7.heap.size x8.heap.size vm cmds.length (flatR cmdF cmds)) := HCx.out.below hb
  have HZ9 : Hid (x8.heap.size ≤ x9.heap.size) := hb.size
  clear HB HKa HO0 HK0 HT0 HTx HO1 HK1 HCx
  have HB := HBN
  clear HBN
  have HKa := HKaN
  clear HKaN
  have HO0 := HO0N
  clear HO0N
  have HK0 := HK0N
  clear HK0N
  have HT0 := HT0N
  clear HT0N
  have HTx := HTxN
  clear HTxN
  have HO1 := HO1N
  clear HO1N
  have HK1 := HK1N
  clear HK1N
  have HCx := HCxN
  clear HCxN
  have HTg := HTgA
  clear HTgA
  have HO2 := HO2A
  clear HO2A
  have HGG : Hid (x8.heap.size ≤ ga ∧ x8.heap.size ≤ gc ∧ gb ≤ x9.heap.size ∧ gd ≤ x9.heap.size ∧ (gb ≤ gc ∨ gd ≤ ga)) := ⟨hga, hgc, hgb, hpg.2.2, hgx⟩
  have HQg : Hid (bks qg = TT) := hqg
  clear hqg hog hlg hpg hga hgc hgb hgx hb hsp
  go_wp2_with (first | (refine wpList_store_blk rfl _ _ _ rfl x9.heap.size (peerA Q s4) rfl rfl 45 zeroA (heap_alloc_new x9 _) (by kernel_rfl) rfl (peerA_one HO2.out.1) ?_; intro x10 hg hk hz; have hb : Below x9.heap.size x9 x10 := made_below hg; have hlt : x9.heap.size < x10.heap.size := (Array.getElem?_eq_some_iff.1 hk).1; have HBN : Hid (Below w.heap.size w x10) := bt HB.out hb; have HKaN : Hid (x10.heap[w.heap.size]? = Option.some (.cells (peerA p s) 33 (0, 0))) := (hb.block _ (Array.getElem?_eq_some_iff.1 HKa.out).1).trans HKa.out; have HO0N : Hid (OwnD x3.heap.size x4.heap.size x10 Q s2) := HO0.out.below hb; have HK0N : Hid (x10.heap[N0]? = Option.some (.cells (peerA Q s2) 45 (0, 0))) := (hb.block _ (Array.getElem?_eq_some_iff.1 HK0.out).1).trans HK0.out; have HT0N : Hid (TreeO x10 x3.heap.size x4.heap.size v2 q2) := HT0.out.below hb; have HTxN : Hid (TreeO x10 x4.heap.size x5.heap.size vx qx) := HTx.out.below hb; have HO1N : Hid (OwnD x5.heap.size x6.heap.size x10 p s3) := HO1.out.below hb; have HK1N : Hid (x10.heap[x6.heap.size]? = Option.some (.cells (peerA p s3) 45 (0, 0))) := (hb.block _ (Array.getElem?_eq_some_iff.1 HK1.out).1).trans HK1.out; have HCxN : Hid (CmdsO x10 x7.heap.size x8.heap.size vm cmds.length (flatR cmdF cmds)) := HCx.out.below hb; have HTgN : Hid (TreeO x10 ga gb vg qg) := HTg.out.below hb; have HO2N : Hid (OwnD gc gd x10 Q s4) := HO2.out.below hb; have HZ10 : Hid (x9.heap.size < x10.heap.size) := hlt; clear HB HKa HO0 HK0 HT0 HTx HO1 HK1 HCx HTg HO2; have HB := HBN; clear HBN; have HKa := HKaN; clear HKaN; have HO0 := HO0N; clear HO0N; have HK0 := HK0N; clear HK0N; have HT0 := HT0N; clear HT0N; have HTx := HTxN; clear HTxN; have HO1 := HO1N; clear HO1N; have HK1 := HK1N; clear HK1N; have HCx := HCxN; clear HCxN; have HTg := HTgN; clear HTgN; have HO2 := HO2N; clear HO2N; have HK2 : Hid (x10.heap[x9.heap.size]? = Option.some (.cells (peerA Q s4) 45 (0, 0))) := hk; clear hg hk hz hb hlt) | (refine wpList_load_row rfl _ _ rfl w.heap.size rfl 33 _ (0, 0) _ HKa.out Tryz.underlying33 rfl (by kernel_rfl) ?_) | (refine wpList_load_row rfl _ _ rfl N0 rfl 45 _ (0, 0) _ HK0.out Tryz.underlying45 rfl (by kernel_rfl) ?_) | (refine wpList_load_row rfl _ _ rfl x6.heap.size rfl 45 _ (0, 0) _ HK1.out Tryz.underlying45 rfl (by kernel_rfl) ?_) | (refine wpList_load_row rfl _ _ rfl x9.heap.size rfl 45 _ (0, 0) _ HK2.out Tryz.underlying45 rfl (by kernel_rfl) ?_) | (refine wpList_load_row_w (by first | rfl | simp [Region.wanted, yielded] | simp [Region.wanted, yielded, hk0]) _ _ rfl w.heap.size rfl 33 _ (0, 0) _ HKa.out Tryz.underlying33 rfl (by kernel_rfl) ?_) | (refine wpList_load_row_w (by first | rfl | simp [Region.wanted, yielded] | simp [Region.wanted, yielded, hk0]) _ _ rfl N0 rfl 45 _ (0, 0) _ HK0.out Tryz.underlying45 rfl (by kernel_rfl) ?_) | (refine wpList_load_row_w (by first | rfl | simp [Region.wanted, yielded] | simp [Region.wanted, yielded, hk0]) _ _ rfl x6.heap.size rfl 45 _ (0, 0) _ HK1.out Tryz.underlying45 rfl (by kernel_rfl) ?_) | (refine wpList_load_row_w (by first | rfl | simp [Region.wanted, yielded] | simp [Region.wanted, yielded, hk0]) _ _ rfl x9.heap.size rfl 45 _ (0, 0) _ HK2.out Tryz.underlying45 rfl (by kernel_rfl) ?_))
  refine (eqBlocks_yes qg q2 vg v2 x10 HTg.out.own.read.q HT0.out.own.read.q (by rw [HQg.out, HQq2.out]) (by rw [HQg.out]; exact HTT.out.1)).mono ?_
  rintro e x11 ⟨rfl, hb⟩
  have HBN : Hid (Below w.heap.size w x11) := bt HB.out hb
  have HKaN : Hid (x11.heap[w.heap.size]? = Option.some (.cells (peerA p s) 33 (0, 0))) := (hb.block _ (Array.getElem?_eq_some_iff.1 HKa.out).1).trans HKa.out
  have HO0N : Hid (OwnD x3.heap.size x4.heap.size x11 Q s2) := HO0.out.below hb
  have HK0N : Hid (x11.heap[N0]? = Option.some (.cells (peerA Q s2) 45 (0, 0))) := (hb.block _ (Array.getElem?_eq_some_iff.1 HK0.out).1).trans HK0.out
  have HT0N : Hid (TreeO x11 x3.heap.size x4.heap.size v2 q2) := HT0.out.below hb
  have HTxN : Hid (TreeO x11 x4.heap.size x5.heap.size vx qx) := HTx.out.below hb
  have HO1N : Hid (OwnD x5.heap.size x6.heap.size x11 p s3) := HO1.out.below hb
  have HK1N : Hid (x11.heap[x6.heap.size]? = Option.some (.cells (peerA p s3) 45 (0, 0))) := (hb.block _ (Array.getElem?_eq_some_iff.1 HK1.out).1).trans HK1.out
  have HCxN : Hid (CmdsO x11 x7.heap.size x8.heap.size vm cmds.length (flatR cmdF cmds)) := HCx.out.below hb
  have HTgN : Hid (TreeO x11 ga gb vg qg) := HTg.out.below hb
  have HO2N : Hid (OwnD gc gd x11 Q s4) := HO2.out.below hb
  have HK2N : Hid (x11.heap[x9.heap.size]? = Option.some (.cells (peerA Q s4) 45 (0, 0))) := (hb.block _ (Array.getElem?_eq_some_iff.1 HK2.out).1).trans HK2.out
  have HZ11 : Hid (x10.heap.size ≤ x11.heap.size) := hb.size
  clear HB HKa HO0 HK0 HT0 HTx HO1 HK1 HCx HTg HO2 HK2
  have HB := HBN
  clear HBN
  have HKa := HKaN
  clear HKaN
  have HO0 := HO0N
  clear HO0N
  have HK0 := HK0N
  clear HK0N
  have HT0 := HT0N
  clear HT0N
  have HTx := HTxN
  clear HTxN
  have HO1 := HO1N
  clear HO1N
  have HK1 := HK1N
  clear HK1N
  have HCx := HCxN
  clear HCxN
  have HTg := HTgN
  clear HTgN
  have HO2 := HO2N
  clear HO2N
  have HK2 := HK2N
  clear HK2N
  clear hb
  go_wp2_with (first | (refine wpList_load_row rfl _ _ rfl w.heap.size rfl 33 _ (0, 0) _ HKa.out Tryz.underlying33 rfl (by kernel_rfl) ?_) | (refine wpList_load_row rfl _ _ rfl N0 rfl 45 _ (0, 0) _ HK0.out Tryz.underlying45 rfl (by kernel_rfl) ?_) | (refine wpList_load_row rfl _ _ rfl x6.heap.size rfl 45 _ (0, 0) _ HK1.out Tryz.underlying45 rfl (by kernel_rfl) ?_) | (refine wpList_load_row rfl _ _ rfl x9.heap.size rfl 45 _ (0, 0) _ HK2.out Tryz.underlying45 rfl (by kernel_rfl) ?_) | (refine wpList_load_row_w (by first | rfl | simp [Region.wanted, yielded] | simp [Region.wanted, yielded, hk0]) _ _ rfl w.heap.size rfl 33 _ (0, 0) _ HKa.out Tryz.underlying33 rfl (by kernel_rfl) ?_) | (refine wpList_load_row_w (by first | rfl | simp [Region.wanted, yielded] | simp [Region.wanted, yielded, hk0]) _ _ rfl N0 rfl 45 _ (0, 0) _ HK0.out Tryz.underlying45 rfl (by kernel_rfl) ?_) | (refine wpList_load_row_w (by first | rfl | simp [Region.wanted, yielded] | simp [Region.wanted, yielded, hk0]) _ _ rfl x6.heap.size rfl 45 _ (0, 0) _ HK1.out Tryz.underlying45 rfl (by kernel_rfl) ?_) | (refine wpList_load_row_w (by first | rfl | simp [Region.wanted, yielded] | simp [Region.wanted, yielded, hk0]) _ _ rfl x9.heap.size rfl 45 _ (0, 0) _ HK2.out Tryz.underlying45 rfl (by kernel_rfl) ?_))
  refine (eqPeer_yes Q s4 s2 x11 HO2.out.reads HO0.out.reads HSQ.out).mono ?_
  rintro e x12 ⟨rfl, hb⟩
  have HBN : Hid (Below w.heap.size w x12) := bt HB.out hb
  have HKaN : Hid (x12.heap[w.heap.size]? = Option.some (.cells (peerA p s) 33 (0, 0))) := (hb.block _ (Array.getElem?_eq_some_iff.1 HKa.out).1).trans HKa.out
  have HO0N : Hid (OwnD x3.heap.size x4.heap.size x12 Q s2) := HO0.out.below hb
  have HK0N : Hid (x12.heap[N0]? = Option.some (.cells (peerA Q s2) 45 (0, 0))) := (hb.block _ (Array.getElem?_eq_some_iff.1 HK0.out).1).trans HK0.out
  have HT0N : Hid (TreeO x12 x3.heap.size x4.heap.size v2 q2) := HT0.out.below hb
  have HTxN : Hid (TreeO x12 x4.heap.size x5.heap.size vx qx) := HTx.out.below hb
  have HO1N : Hid (OwnD x5.heap.size x6.heap.size x12 p s3) := HO1.out.below hb
  have HK1N : Hid (x12.heap[x6.heap.size]? = Option.some (.cells (peerA p s3) 45 (0, 0))) := (hb.block _ (Array.getElem?_eq_some_iff.1 HK1.out).1).trans HK1.out
  have HCxN : Hid (CmdsO x12 x7.heap.size x8.heap.size vm cmds.length (flatR cmdF cmds)) := HCx.out.below hb
  have HTgN : Hid (TreeO x12 ga gb vg qg) := HTg.out.below hb
  have HO2N : Hid (OwnD gc gd x12 Q s4) := HO2.out.below hb
  have HK2N : Hid (x12.heap[x9.heap.size]? = Option.some (.cells (peerA Q s4) 45 (0, 0))) := (hb.block _ (Array.getElem?_eq_some_iff.1 HK2.out).1).trans HK2.out
  have HZ12 : Hid (x11.heap.size ≤ x12.heap.size) := hb.size
  clear HB HKa HO0 HK0 HT0 HTx HO1 HK1 HCx HTg HO2 HK2
  have HB := HBN
  clear HBN
  have HKa := HKaN
  clear HKaN
  have HO0 := HO0N
  clear HO0N
  have HK0 := HK0N
  clear HK0N
  have HT0 := HT0N
  clear HT0N
  have HTx := HTxN
  clear HTxN
  have HO1 := HO1N
  clear HO1N
  have HK1 := HK1N
  clear HK1N
  have HCx := HCxN
  clear HCxN
  have HTg := HTgN
  clear HTgN
  have HO2 := HO2N
  clear HO2N
  have HK2 := HK2N
  clear HK2N
  clear hb
  go_wp2_with (first | (refine wpList_load_row rfl _ _ rfl w.heap.size rfl 33 _ (0, 0) _ HKa.out Tryz.underlying33 rfl (by kernel_rfl) ?_) | (refine wpList_load_row rfl _ _ rfl N0 rfl 45 _ (0, 0) _ HK0.out Tryz.underlying45 rfl (by kernel_rfl) ?_) | (refine wpList_load_row rfl _ _ rfl x6.heap.size rfl 45 _ (0, 0) _ HK1.out Tryz.underlying45 rfl (by kernel_rfl) ?_) | (refine wpList_load_row rfl _ _ rfl x9.heap.size rfl 45 _ (0, 0) _ HK2.out Tryz.underlying45 rfl (by kernel_rfl) ?_) | (refine wpList_load_row_w (by first | rfl | simp [Region.wanted, yielded] | simp [Region.wanted, yielded, hk0]) _ _ rfl w.heap.size rfl 33 _ (0, 0) _ HKa.out Tryz.underlying33 rfl (by kernel_rfl) ?_) | (refine wpList_load_row_w (by first | rfl | simp [Region.wanted, yielded] | simp [Region.wanted, yielded, hk0]) _ _ rfl N0 rfl 45 _ (0, 0) _ HK0.out Tryz.underlying45 rfl (by kernel_rfl) ?_) | (refine wpList_load_row_w (by first | rfl | simp [Region.wanted, yielded] | simp [Region.wanted, yielded, hk0]) _ _ rfl x6.heap.size rfl 45 _ (0, 0) _ HK1.out Tryz.underlying45 rfl (by kernel_rfl) ?_) | (refine wpList_load_row_w (by first | rfl | simp [Region.wanted, yielded] | simp [Region.wanted, yielded, hk0]) _ _ rfl x9.heap.size rfl 45 _ (0, 0) _ HK2.out Tryz.underlying45 rfl (by kernel_rfl) ?_))
  refine (toBlocks_any ps v x12 (HT.out.below HB.out) HK.out).mono ?_
  rintro e x13 ⟨vy, qy, rfl, hq, ho, hb⟩
  have HTyA : Hid (OwnT x13 x12.heap.size vy qy) := ho
  have HBN : Hid (Below w.heap.size w x13) := bt HB.out hb
  have HKaN : Hid (x13.heap[w.heap.size]? = Option.some (.cells (peerA p s) 33 (0, 0))) := (hb.block _ (Array.getElem?_eq_some_iff.1 HKa.out).1).trans HKa.out
  have HO0N : Hid (OwnD x3.heap.size x4.heap.size x13 Q s2) := HO0.out.below hb
  have HK0N : Hid (x13.heap[N0]? = Option.some (.cells (peerA Q s2) 45 (0, 0))) := (hb.block _ (Array.getElem?_eq_some_iff.1 HK0.out).1).trans HK0.out
  have HT0N : Hid (TreeO x13 x3.heap.size x4.heap.size v2 q2) := HT0.out.below hb
  have HTxN : Hid (TreeO x13 x4.heap.size x5.heap.size vx qx) := HTx.out.below hb
  have HO1N : Hid (OwnD x5.heap.size x6.heap.size x13 p s3) := HO1.out.below hb
  have HK1N : Hid (x13.heap[x6.heap.size]? = Option.some (.cells (peerA p s3) 45 (0, 0))) := (hb.block _ (Array.getElem?_eq_some_iff.1 HK1.out).1).trans HK1.out
  have HCxN : Hid (CmdsO x13 x7.heap.size x8.heap.size vm cmds.length (flatR cmdF cmds)) := HCx.out.below hb
  have HTgN : Hid (TreeO x13 ga gb vg qg) := HTg.out.below hb
  have HO2N : Hid (OwnD gc gd x13 Q s4) := HO2.out.below hb
  have HK2N : Hid (x13.heap[x9.heap.size]? = Option.some (.cells (peerA Q s4) 45 (0, 0))) := (hb.block _ (Array.getElem?_eq_some_iff.1 HK2.out).1).trans HK2.out
  have HZ13 : Hid (x12.heap.size ≤ x13.heap.size) := hb.size
  clear HB HKa HO0 HK0 HT0 HTx HO1 HK1 HCx HTg HO2 HK2
  have HB := HBN
  clear HBN
  have HKa := HKaN
  clear HKaN
  have HO0 := HO0N
  clear HO0N
  have HK0 := HK0N
  clear HK0N
  have HT0 := HT0N
  clear HT0N
  have HTx := HTxN
  clear HTxN
  have HO1 := HO1N
  clear HO1N
  have HK1 := HK1N
  clear HK1N
  have HCx := HCxN
  clear HCxN
  have HTg := HTgN
  clear HTgN
  have HO2 := HO2N
  clear HO2N
  have HK2 := HK2N
  clear HK2N
  have HTy := HTyA
  clear HTyA
  have HQy : Hid (bks qy = bks ps) := hq
  clear ho hb hq
  go_wp2_with (first | (refine wpList_load_row rfl _ _ rfl w.heap.size rfl 33 _ (0, 0) _ HKa.out Tryz.underlying33 rfl (by kernel_rfl) ?_) | (refine wpList_load_row rfl _ _ rfl N0 rfl 45 _ (0, 0) _ HK0.out Tryz.underlying45 rfl (by kernel_rfl) ?_) | (refine wpList_load_row rfl _ _ rfl x6.heap.size rfl 45 _ (0, 0) _ HK1.out Tryz.underlying45 rfl (by kernel_rfl) ?_) | (refine wpList_load_row rfl _ _ rfl x9.heap.size rfl 45 _ (0, 0) _ HK2.out Tryz.underlying45 rfl (by kernel_rfl) ?_) | (refine wpList_load_row_w (by first | rfl | simp [Region.wanted, yielded] | simp [Region.wanted, yielded, hk0]) _ _ rfl w.heap.size rfl 33 _ (0, 0) _ HKa.out Tryz.underlying33 rfl (by kernel_rfl) ?_) | (refine wpList_load_row_w (by first | rfl | simp [Region.wanted, yielded] | simp [Region.wanted, yielded, hk0]) _ _ rfl N0 rfl 45 _ (0, 0) _ HK0.out Tryz.underlying45 rfl (by kernel_rfl) ?_) | (refine wpList_load_row_w (by first | rfl | simp [Region.wanted, yielded] | simp [Region.wanted, yielded, hk0]) _ _ rfl x6.heap.size rfl 45 _ (0, 0) _ HK1.out Tryz.underlying45 rfl (by kernel_rfl) ?_) | (refine wpList_load_row_w (by first | rfl | simp [Region.wanted, yielded] | simp [Region.wanted, yielded, hk0]) _ _ rfl x9.heap.size rfl 45 _ (0, 0) _ HK2.out Tryz.underlying45 rfl (by kernel_rfl) ?_))
  refine (eqBlocks_yes qx qy vx vy x13 HTx.out.own.read.q HTy.out.read.q (by rw [HQx.out, HQy.out]) (by rw [HQx.out]; exact HK.out)).mono ?_
  rintro e x14 ⟨rfl, hb⟩
  have HBN : Hid (Below w.heap.size w x14) := bt HB.out hb
  have HKaN : Hid (x14.heap[w.heap.size]? = Option.some (.cells (peerA p s) 33 (0, 0))) := (hb.block _ (Array.getElem?_eq_some_iff.1 HKa.out).1).trans HKa.out
  have HO0N : Hid (OwnD x3.heap.size x4.heap.size x14 Q s2) := HO0.out.below hb
  have HK0N : Hid (x14.heap[N0]? = Option.some (.cells (peerA Q s2) 45 (0, 0))) := (hb.block _ (Array.getElem?_eq_some_iff.1 HK0.out).1).trans HK0.out
  have HT0N : Hid (TreeO x14 x3.heap.size x4.heap.size v2 q2) := HT0.out.below hb
  have HTxN : Hid (TreeO x14 x4.heap.size x5.heap.size vx qx) := HTx.out.below hb
  have HO1N : Hid (OwnD x5.heap.size x6.heap.size x14 p s3) := HO1.out.below hb
  have HK1N : Hid (x14.heap[x6.heap.size]? = Option.some (.cells (peerA p s3) 45 (0, 0))) := (hb.block _ (Array.getElem?_eq_some_iff.1 HK1.out).1).trans HK1.out
  have HCxN : Hid (CmdsO x14 x7.heap.size x8.heap.size vm cmds.length (flatR cmdF cmds)) := HCx.out.below hb
  have HTgN : Hid (TreeO x14 ga gb vg qg) := HTg.out.below hb
  have HO2N : Hid (OwnD gc gd x14 Q s4) := HO2.out.below hb
  have HK2N : Hid (x14.heap[x9.heap.size]? = Option.some (.cells (peerA Q s4) 45 (0, 0))) := (hb.block _ (Array.getElem?_eq_some_iff.1 HK2.out).1).trans HK2.out
  have HTyN : Hid (OwnT x14 x12.heap.size vy qy) := HTy.out.below hb
  have HZ14 : Hid (x13.heap.size ≤ x14.heap.size) := hb.size
  clear HB HKa HO0 HK0 HT0 HTx HO1 HK1 HCx HTg HO2 HK2 HTy
  have HB := HBN
  clear HBN
  have HKa := HKaN
  clear HKaN
  have HO0 := HO0N
  clear HO0N
  have HK0 := HK0N
  clear HK0N
  have HT0 := HT0N
  clear HT0N
  have HTx := HTxN
  clear HTxN
  have HO1 := HO1N
  clear HO1N
  have HK1 := HK1N
  clear HK1N
  have HCx := HCxN
  clear HCxN
  have HTg := HTgN
  clear HTgN
  have HO2 := HO2N
  clear HO2N
  have HK2 := HK2N
  clear HK2N
  have HTy := HTyN
  clear HTyN
  clear hb
  clear HTy
  go_wp2
  refine wp_region_H (fun x => x.heap[w.heap.size]? = some (.cells (peerA p s) 33 (0, 0)) ∧ x.heap[x6.heap.size]? = some (.cells (peerA p s3) 45 (0, 0))) (by kernel_rfl) ?_
  show wpAnyH Tryz.prog _ _ _ _ (4 + 1) (Array.replicate 5 false) _ _
  have hS : x14.drew.heap[w.heap.size]? = some (.cells (peerA p s) 33 (0, 0)) ∧ x14.drew.heap[x6.heap.size]? = some (.cells (peerA p s3) 45 (0, 0)) := ⟨HKa.out, HK1.out⟩
  refine h_take (j := 0) (e' := some 83) (v := .agg (peerA p s3)) rfl rfl (by kernel_rfl) (by kernel_rfl) (by kernel_rfl) (fun _ _ _ h => h) (Or.inl ⟨by rfl, fun x hx => exec_load_blk _ _ rfl x6.heap.size rfl _ _ _ _ hx.2 Tryz.underlying45 rfl (by kernel_rfl)⟩) hS ?_
  simp only [Act.put, List.setIfInBounds_toArray, List.set_cons_zero, List.set_cons_succ]
  refine h_take (j := 1) (e' := some 84) (v := .agg (peerA p s)) rfl rfl (by kernel_rfl) (by kernel_rfl) (by kernel_rfl) (fun _ _ _ h => h) (Or.inl ⟨by rfl, fun x hx => exec_load_blk _ _ rfl w.heap.size rfl _ _ _ _ hx.1 Tryz.underlying33 rfl (by kernel_rfl)⟩) hS ?_
  simp only [Act.put, List.setIfInBounds_toArray, List.set_cons_zero, List.set_cons_succ]
  refine h_call (c := 2) (e' := some 85) (fn := 9) (args := #[.agg (peerA p s)]) rfl rfl (by kernel_rfl) (by rfl) ?_ ((toPeer_any p s x14.drew (HR.out.below (HB.out.trans (Below.refl _ _).drew)) HS.out).mono ?_)
  · go_simp
    try with_reducible rfl
  rintro e x15 ⟨s5, rfl, ho, hb0⟩
  have hb : Below x14.heap.size x14 x15 := ((Below.refl _ _).drew).trans hb0
  have HRb : Hid (PeerR x15 p s5) := ho.reads
  have HBN : Hid (Below w.heap.size w x15) := bt HB.out hb
  have HKaN : Hid (x15.heap[w.heap.size]? = Option.some (.cells (peerA p s) 33 (0, 0))) := (hb.block _ (Array.getElem?_eq_some_iff.1 HKa.out).1).trans HKa.out
  have HO0N : Hid (OwnD x3.heap.size x4.heap.size x15 Q s2) := HO0.out.below hb
  have HK0N : Hid (x15.heap[N0]? = Option.some (.cells (peerA Q s2) 45 (0, 0))) := (hb.block _ (Array.getElem?_eq_some_iff.1 HK0.out).1).trans HK0.out
  have HT0N : Hid (TreeO x15 x3.heap.size x4.heap.size v2 q2) := HT0.out.below hb
  have HTxN : Hid (TreeO x15 x4.heap.size x5.heap.size vx qx) := HTx.out.below hb
  have HO1N : Hid (OwnD x5.heap.size x6.heap.size x15 p s3) := HO1.out.below hb
  have HK1N : Hid (x15.heap[x6.heap.size]? = Option.some (.cells (peerA p s3) 45 (0, 0))) := (hb.block _ (Array.getElem?_eq_some_iff.1 HK1.out).1).trans HK1.out
  have HCxN : Hid (CmdsO x15 x7.heap.size x8.heap.size vm cmds.length (flatR cmdF cmds)) := HCx.out.below hb
  have HTgN : Hid (TreeO x15 ga gb vg qg) := HTg.out.below hb
  have HO2N : Hid (OwnD gc gd x15 Q s4) := HO2.out.below hb
  have HK2N : Hid (x15.heap[x9.heap.size]? = Option.some (.cells (peerA Q s4) 45 (0, 0))) := (hb.block _ (Array.getElem?_eq_some_iff.1 HK2.out).1).trans HK2.out
  have HZ15 : Hid (x14.heap.size ≤ x15.heap.size) := hb.size
  clear HB HKa HO0 HK0 HT0 HTx HO1 HK1 HCx HTg HO2 HK2
  have HB := HBN
  clear HBN
  have HKa := HKaN
  clear HKaN
  have HO0 := HO0N
  clear HO0N
  have HK0 := HK0N
  clear HK0N
  have HT0 := HT0N
  clear HT0N
  have HTx := HTxN
  clear HTxN
  have HO1 := HO1N
  clear HO1N
  have HK1 := HK1N
  clear HK1N
  have HCx := HCxN
  clear HCxN
  have HTg := HTgN
  clear HTgN
  have HO2 := HO2N
  clear HO2N
  have HK2 := HK2N
  clear HK2N
  have hS1 : x15.heap[w.heap.size]? = some (.cells (peerA p s) 33 (0, 0)) ∧ x15.heap[x6.heap.size]? = some (.cells (peerA p s3) 45 (0, 0)) := ⟨HKa.out, HK1.out⟩
  clear ho hb hb0 hS
  refine ⟨_, rfl, hS1, ?_⟩
  simp only [Act.put, List.setIfInBounds_toArray, List.set_cons_zero, List.set_cons_succ]
  refine h_call (c := 3) (e' := some 86) (fn := 12) (args := #[.agg (peerA p s3), .agg (peerA p s5)]) rfl rfl (by kernel_rfl) (by rfl) ?_ ((eqPeer_yes p s3 s5 x15 HO1.out.reads HRb.out HS.out).mono ?_)
  · go_simp
    try with_reducible rfl
  rintro e x16 ⟨rfl, hb⟩
  have HBN : Hid (Below w.heap.size w x16) := bt HB.out hb
  have HKaN : Hid (x16.heap[w.heap.size]? = Option.some (.cells (peerA p s) 33 (0, 0))) := (hb.block _ (Array.getElem?_eq_some_iff.1 HKa.out).1).trans HKa.out
  have HO0N : Hid (OwnD x3.heap.size x4.heap.size x16 Q s2) := HO0.out.below hb
  have HK0N : Hid (x16.heap[N0]? = Option.some (.cells (peerA Q s2) 45 (0, 0))) := (hb.block _ (Array.getElem?_eq_some_iff.1 HK0.out).1).trans HK0.out
  have HT0N : Hid (TreeO x16 x3.heap.size x4.heap.size v2 q2) := HT0.out.below hb
  have HTxN : Hid (TreeO x16 x4.heap.size x5.heap.size vx qx) := HTx.out.below hb
  have HO1N : Hid (OwnD x5.heap.size x6.heap.size x16 p s3) := HO1.out.below hb
  have HK1N : Hid (x16.heap[x6.heap.size]? = Option.some (.cells (peerA p s3) 45 (0, 0))) := (hb.block _ (Array.getElem?_eq_some_iff.1 HK1.out).1).trans HK1.out
  have HCxN : Hid (CmdsO x16 x7.heap.size x8.heap.size vm cmds.length (flatR cmdF cmds)) := HCx.out.below hb
  have HTgN : Hid (TreeO x16 ga gb vg qg) := HTg.out.below hb
  have HO2N : Hid (OwnD gc gd x16 Q s4) := HO2.out.below hb
  have HK2N : Hid (x16.heap[x9.heap.size]? = Option.some (.cells (peerA Q s4) 45 (0, 0))) := (hb.block _ (Array.getElem?_eq_some_iff.1 HK2.out).1).trans HK2.out
  have HZ16 : Hid (x15.heap.size ≤ x16.heap.size) := hb.size
  clear HB HKa HO0 HK0 HT0 HTx HO1 HK1 HCx HTg HO2 HK2
  have HB := HBN
  clear HBN
  have HKa := HKaN
  clear HKaN
  have HO0 := HO0N
  clear HO0N
  have HK0 := HK0N
  clear HK0N
  have HT0 := HT0N
  clear HT0N
  have HTx := HTxN
  clear HTxN
  have HO1 := HO1N
  clear HO1N
  have HK1 := HK1N
  clear HK1N
  have HCx := HCxN
  clear HCxN
  have HTg := HTgN
  clear HTgN
  have HO2 := HO2N
  clear HO2N
  have HK2 := HK2N
  clear HK2N
  have hS2 : x16.heap[w.heap.size]? = some (.cells (peerA p s) 33 (0, 0)) ∧ x16.heap[x6.heap.size]? = some (.cells (peerA p s3) 45 (0, 0)) := ⟨HKa.out, HK1.out⟩
  clear hb hS1 HRb
  refine ⟨_, rfl, hS2, ?_⟩
  simp only [Act.put, List.setIfInBounds_toArray, List.set_cons_zero, List.set_cons_succ]
  refine h_take (j := 4) (e' := some 87) (v := .bool false) rfl rfl (by kernel_rfl) (by kernel_rfl) (by kernel_rfl) (fun _ _ _ h => h) (Or.inl ⟨by rfl, ?_⟩) hS2 ?_
  · intro x hx
    go_simp
    try with_reducible rfl
  simp only [Act.put, List.setIfInBounds_toArray, List.set_cons_zero, List.set_cons_succ]
  refine wpAnyH_done (by kernel_rfl) ?_ _
  clear hS2
  go_wp2_with (first | (refine wpList_load_row rfl _ _ rfl w.heap.size rfl 33 _ (0, 0) _ HKa.out Tryz.underlying33 rfl (by kernel_rfl) ?_) | (refine wpList_load_row rfl _ _ rfl N0 rfl 45 _ (0, 0) _ HK0.out Tryz.underlying45 rfl (by kernel_rfl) ?_) | (refine wpList_load_row rfl _ _ rfl x6.heap.size rfl 45 _ (0, 0) _ HK1.out Tryz.underlying45 rfl (by kernel_rfl) ?_) | (refine wpList_load_row rfl _ _ rfl x9.heap.size rfl 45 _ (0, 0) _ HK2.out Tryz.underlying45 rfl (by kernel_rfl) ?_) | (refine wpList_load_row_w (by first | rfl | simp [Region.wanted, yielded] | simp [Region.wanted, yielded, hk0]) _ _ rfl w.heap.size rfl 33 _ (0, 0) _ HKa.out Tryz.underlying33 rfl (by kernel_rfl) ?_) | (refine wpList_load_row_w (by first | rfl | simp [Region.wanted, yielded] | simp [Region.wanted, yielded, hk0]) _ _ rfl N0 rfl 45 _ (0, 0) _ HK0.out Tryz.underlying45 rfl (by kernel_rfl) ?_) | (refine wpList_load_row_w (by first | rfl | simp [Region.wanted, yielded] | simp [Region.wanted, yielded, hk0]) _ _ rfl x6.heap.size rfl 45 _ (0, 0) _ HK1.out Tryz.underlying45 rfl (by kernel_rfl) ?_) | (refine wpList_load_row_w (by first | rfl | simp [Region.wanted, yielded] | simp [Region.wanted, yielded, hk0]) _ _ rfl x9.heap.size rfl 45 _ (0, 0) _ HK2.out Tryz.underlying45 rfl (by kernel_rfl) ?_))
  refine (toCmds_any cmds cv x16 (HCR.out.below HB.out) HCB.out.1).mono ?_
  rintro e x17 ⟨vn, rfl, ho, hb⟩
  have HCyA : Hid (CmdsO x17 x16.heap.size x17.heap.size vn cmds.length (flatR cmdF cmds)) := cmds_o ho
  have HBN : Hid (Below w.heap.size w x17) := bt HB.out hb
  have HKaN : Hid (x17.heap[w.heap.size]? = Option.some (.cells (peerA p s) 33 (0, 0))) := (hb.block _ (Array.getElem?_eq_some_iff.1 HKa.out).1).trans HKa.out
  have HO0N : Hid (OwnD x3.heap.size x4.heap.size x17 Q s2) := HO0.out.below hb
  have HK0N : Hid (x17.heap[N0]? = Option.some (.cells (peerA Q s2) 45 (0, 0))) := (hb.block _ (Array.getElem?_eq_some_iff.1 HK0.out).1).trans HK0.out
  have HT0N : Hid (TreeO x17 x3.heap.size x4.heap.size v2 q2) := HT0.out.below hb
  have HTxN : Hid (TreeO x17 x4.heap.size x5.heap.size vx qx) := HTx.out.below hb
  have HO1N : Hid (OwnD x5.heap.size x6.heap.size x17 p s3) := HO1.out.below hb
  have HK1N : Hid (x17.heap[x6.heap.size]? = Option.some (.cells (peerA p s3) 45 (0, 0))) := (hb.block _ (Array.getElem?_eq_some_iff.1 HK1.out).1).trans HK1.out
  have HCxN : Hid (CmdsO x17 x7.heap.size x8.heap.size vm cmds.length (flatR cmdF cmds)) := HCx.out.below hb
  have HTgN : Hid (TreeO x17 ga gb vg qg) := HTg.out.below hb
  have HO2N : Hid (OwnD gc gd x17 Q s4) := HO2.out.below hb
  have HK2N : Hid (x17.heap[x9.heap.size]? = Option.some (.cells (peerA Q s4) 45 (0, 0))) := (hb.block _ (Array.getElem?_eq_some_iff.1 HK2.out).1).trans HK2.out
  have HZ17 : Hid (x16.heap.size ≤ x17.heap.size) := hb.size
  clear HB HKa HO0 HK0 HT0 HTx HO1 HK1 HCx HTg HO2 HK2
  have HB := HBN
  clear HBN
  have HKa := HKaN
  clear HKaN
  have HO0 := HO0N
  clear HO0N
  have HK0 := HK0N
  clear HK0N
  have HT0 := HT0N
  clear HT0N
  have HTx := HTxN
  clear HTxN
  have HO1 := HO1N
  clear HO1N
  have HK1 := HK1N
  clear HK1N
  have HCx := HCxN
  clear HCxN
  have HTg := HTgN
  clear HTgN
  have HO2 := HO2N
  clear HO2N
  have HK2 := HK2N
  clear HK2N
  have HCy := HCyA
  clear HCyA
  clear ho hb
  go_wp2_with (first | (refine wpList_load_row rfl _ _ rfl w.heap.size rfl 33 _ (0, 0) _ HKa.out Tryz.underlying33 rfl (by kernel_rfl) ?_) | (refine wpList_load_row rfl _ _ rfl N0 rfl 45 _ (0, 0) _ HK0.out Tryz.underlying45 rfl (by kernel_rfl) ?_) | (refine wpList_load_row rfl _ _ rfl x6.heap.size rfl 45 _ (0, 0) _ HK1.out Tryz.underlying45 rfl (by kernel_rfl) ?_) | (refine wpList_load_row rfl _ _ rfl x9.heap.size rfl 45 _ (0, 0) _ HK2.out Tryz.underlying45 rfl (by kernel_rfl) ?_) | (refine wpList_load_row_w (by first | rfl | simp [Region.wanted, yielded] | simp [Region.wanted, yielded, hk0]) _ _ rfl w.heap.size rfl 33 _ (0, 0) _ HKa.out Tryz.underlying33 rfl (by kernel_rfl) ?_) | (refine wpList_load_row_w (by first | rfl | simp [Region.wanted, yielded] | simp [Region.wanted, yielded, hk0]) _ _ rfl N0 rfl 45 _ (0, 0) _ HK0.out Tryz.underlying45 rfl (by kernel_rfl) ?_) | (refine wpList_load_row_w (by first | rfl | simp [Region.wanted, yielded] | simp [Region.wanted, yielded, hk0]) _ _ rfl x6.heap.size rfl 45 _ (0, 0) _ HK1.out Tryz.underlying45 rfl (by kernel_rfl) ?_) | (refine wpList_load_row_w (by first | rfl | simp [Region.wanted, yielded] | simp [Region.wanted, yielded, hk0]) _ _ rfl x9.heap.size rfl 45 _ (0, 0) _ HK2.out Tryz.underlying45 rfl (by kernel_rfl) ?_))
  refine (eqCmds_yes cmds vm vn x17 HCx.out.reads HCy.out.reads HCB.out.1).mono ?_
  rintro e x18 ⟨rfl, hb⟩
  have HBN : Hid (Below w.heap.size w x18) := bt HB.out hb
  have HKaN : Hid (x18.heap[w.heap.size]? = Option.some (.cells (peerA p s) 33 (0, 0))) := (hb.block _ (Array.getElem?_eq_some_iff.1 HKa.out).1).trans HKa.out
  have HO0N : Hid (OwnD x3.heap.size x4.heap.size x18 Q s2) := HO0.out.below hb
  have HK0N : Hid (x18.heap[N0]? = Option.some (.cells (peerA Q s2) 45 (0, 0))) := (hb.block _ (Array.getElem?_eq_some_iff.1 HK0.out).1).trans HK0.out
  have HT0N : Hid (TreeO x18 x3.heap.size x4.heap.size v2 q2) := HT0.out.below hb
  have HTxN : Hid (TreeO x18 x4.heap.size x5.heap.size vx qx) := HTx.out.below hb
  have HO1N : Hid (OwnD x5.heap.size x6.heap.size x18 p s3) := HO1.out.below hb
  have HK1N : Hid (x18.heap[x6.heap.size]? = Option.some (.cells (peerA p s3) 45 (0, 0))) := (hb.block _ (Array.getElem?_eq_some_iff.1 HK1.out).1).trans HK1.out
  have HCxN : Hid (CmdsO x18 x7.heap.size x8.heap.size vm cmds.length (flatR cmdF cmds)) := HCx.out.below hb
  have HTgN : Hid (TreeO x18 ga gb vg qg) := HTg.out.below hb
  have HO2N : Hid (OwnD gc gd x18 Q s4) := HO2.out.below hb
  have HK2N : Hid (x18.heap[x9.heap.size]? = Option.some (.cells (peerA Q s4) 45 (0, 0))) := (hb.block _ (Array.getElem?_eq_some_iff.1 HK2.out).1).trans HK2.out
  have HCyN : Hid (CmdsO x18 x16.heap.size x17.heap.size vn cmds.length (flatR cmdF cmds)) := HCy.out.below hb
  have HZ18 : Hid (x17.heap.size ≤ x18.heap.size) := hb.size
  clear HB HKa HO0 HK0 HT0 HTx HO1 HK1 HCx HTg HO2 HK2 HCy
  have HB := HBN
  clear HBN
  have HKa := HKaN
  clear HKaN
  have HO0 := HO0N
  clear HO0N
  have HK0 := HK0N
  clear HK0N
  have HT0 := HT0N
  clear HT0N
  have HTx := HTxN
  clear HTxN
  have HO1 := HO1N
  clear HO1N
  have HK1 := HK1N
  clear HK1N
  have HCx := HCxN
  clear HCxN
  have HTg := HTgN
  clear HTgN
  have HO2 := HO2N
  clear HO2N
  have HK2 := HK2N
  clear HK2N
  have HCy := HCyN
  clear HCyN
  clear hb
  clear HCy
  go_wp2_with (first | (refine wpList_load_row rfl _ _ rfl w.heap.size rfl 33 _ (0, 0) _ HKa.out Tryz.underlying33 rfl (by kernel_rfl) ?_) | (refine wpList_load_row rfl _ _ rfl N0 rfl 45 _ (0, 0) _ HK0.out Tryz.underlying45 rfl (by kernel_rfl) ?_) | (refine wpList_load_row rfl _ _ rfl x6.heap.size rfl 45 _ (0, 0) _ HK1.out Tryz.underlying45 rfl (by kernel_rfl) ?_) | (refine wpList_load_row rfl _ _ rfl x9.heap.size rfl 45 _ (0, 0) _ HK2.out Tryz.underlying45 rfl (by kernel_rfl) ?_) | (refine wpList_load_row_w (by first | rfl | simp [Region.wanted, yielded] | simp [Region.wanted, yielded, hk0]) _ _ rfl w.heap.size rfl 33 _ (0, 0) _ HKa.out Tryz.underlying33 rfl (by kernel_rfl) ?_) | (refine wpList_load_row_w (by first | rfl | simp [Region.wanted, yielded] | simp [Region.wanted, yielded, hk0]) _ _ rfl N0 rfl 45 _ (0, 0) _ HK0.out Tryz.underlying45 rfl (by kernel_rfl) ?_) | (refine wpList_load_row_w (by first | rfl | simp [Region.wanted, yielded] | simp [Region.wanted, yielded, hk0]) _ _ rfl x6.heap.size rfl 45 _ (0, 0) _ HK1.out Tryz.underlying45 rfl (by kernel_rfl) ?_) | (refine wpList_load_row_w (by first | rfl | simp [Region.wanted, yielded] | simp [Region.wanted, yielded, hk0]) _ _ rfl x9.heap.size rfl 45 _ (0, 0) _ HK2.out Tryz.underlying45 rfl (by kernel_rfl) ?_))
  have HNHTx : Hid (tnum 1 qx ≤ 1 + 6 * wtB (bks ps)) := (by have h1 := tnum_wt qx 1; rw [HQx.out] at h1; exact h1 : tnum 1 qx ≤ 1 + 6 * wtB (bks ps))
  have hnHTx := tnum_le qx 1
  refine (markBlocks_own qx 1 x4.heap.size x5.heap.size vx x18 HTx.out.own HTx.out.lim (by decide) (by have := HNHTx.out; have := HLP.out; have := HTT.out.2; omega) (okT_len HK.out HQx.out) (okT_cmds HK.out HQx.out)).mono ?_
  rintro e x19 ⟨rfl, hom, hwn⟩
  have hf : Fr x4.heap.size x5.heap.size x18 x19 := ⟨hwn.os, hwn.tape, hwn.output, hwn.size, hwn.block⟩
  have HBN : Hid (Below w.heap.size w x19) := HB.out.trans ⟨hf.os, hf.tape, hf.output, hf.size, fun k hk => hf.block k (Nat.lt_of_lt_of_le hk HB.out.size) (Or.inl (by have := HZ0.out; have := HZ1.out; have := HZ2.out; have := HZ3.out; have := HZ4.out; have := HNN0.out; have := HZ5.out; have := HZ6.out; have := HZ7.out; have := HZ8.out; have := HZ9.out; have := HGG.out; have := HZ10.out; have := HZ11.out; have := HZ12.out; have := HZ13.out; have := HZ14.out; have := HZ15.out; have := HZ16.out; have := HZ17.out; have := HZ18.out; omega))⟩
  have HKaN : Hid (x19.heap[w.heap.size]? = Option.some (.cells (peerA p s) 33 (0, 0))) := (hf.block _ (Array.getElem?_eq_some_iff.1 HKa.out).1 (by have := HZ0.out; have := HZ1.out; have := HZ2.out; have := HZ3.out; have := HZ4.out; have := HNN0.out; have := HZ5.out; have := HZ6.out; have := HZ7.out; have := HZ8.out; have := HZ9.out; have := HGG.out; have := HZ10.out; have := HZ11.out; have := HZ12.out; have := HZ13.out; have := HZ14.out; have := HZ15.out; have := HZ16.out; have := HZ17.out; have := HZ18.out; omega)).trans HKa.out
  have HO0N : Hid (OwnD x3.heap.size x4.heap.size x19 Q s2) := ⟨hf.own6 HO0.out.1 HO0.out.2.1 (by have := HZ0.out; have := HZ1.out; have := HZ2.out; have := HZ3.out; have := HZ4.out; have := HNN0.out; have := HZ5.out; have := HZ6.out; have := HZ7.out; have := HZ8.out; have := HZ9.out; have := HGG.out; have := HZ10.out; have := HZ11.out; have := HZ12.out; have := HZ13.out; have := HZ14.out; have := HZ15.out; have := HZ16.out; have := HZ17.out; have := HZ18.out; omega), HO0.out.2.1, Nat.le_trans HO0.out.2.2 hf.size⟩
  have HK0N : Hid (x19.heap[N0]? = Option.some (.cells (peerA Q s2) 45 (0, 0))) := (hf.block _ (Array.getElem?_eq_some_iff.1 HK0.out).1 (by have := HZ0.out; have := HZ1.out; have := HZ2.out; have := HZ3.out; have := HZ4.out; have := HNN0.out; have := HZ5.out; have := HZ6.out; have := HZ7.out; have := HZ8.out; have := HZ9.out; have := HGG.out; have := HZ10.out; have := HZ11.out; have := HZ12.out; have := HZ13.out; have := HZ14.out; have := HZ15.out; have := HZ16.out; have := HZ17.out; have := HZ18.out; omega)).trans HK0.out
  have HT0N : Hid (TreeO x19 x3.heap.size x4.heap.size v2 q2) := HT0.out.fr hf (by have := HZ0.out; have := HZ1.out; have := HZ2.out; have := HZ3.out; have := HZ4.out; have := HNN0.out; have := HZ5.out; have := HZ6.out; have := HZ7.out; have := HZ8.out; have := HZ9.out; have := HGG.out; have := HZ10.out; have := HZ11.out; have := HZ12.out; have := HZ13.out; have := HZ14.out; have := HZ15.out; have := HZ16.out; have := HZ17.out; have := HZ18.out; omega)
  have HO1N : Hid (OwnD x5.heap.size x6.heap.size x19 p s3) := ⟨hf.own6 HO1.out.1 HO1.out.2.1 (by have := HZ0.out; have := HZ1.out; have := HZ2.out; have := HZ3.out; have := HZ4.out; have := HNN0.out; have := HZ5.out; have := HZ6.out; have := HZ7.out; have := HZ8.out; have := HZ9.out; have := HGG.out; have := HZ10.out; have := HZ11.out; have := HZ12.out; have := HZ13.out; have := HZ14.out; have := HZ15.out; have := HZ16.out; have := HZ17.out; have := HZ18.out; omega), HO1.out.2.1, Nat.le_trans HO1.out.2.2 hf.size⟩
  have HK1N : Hid (x19.heap[x6.heap.size]? = Option.some (.cells (peerA p s3) 45 (0, 0))) := (hf.block _ (Array.getElem?_eq_some_iff.1 HK1.out).1 (by have := HZ0.out; have := HZ1.out; have := HZ2.out; have := HZ3.out; have := HZ4.out; have := HNN0.out; have := HZ5.out; have := HZ6.out; have := HZ7.out; have := HZ8.out; have := HZ9.out; have := HGG.out; have := HZ10.out; have := HZ11.out; have := HZ12.out; have := HZ13.out; have := HZ14.out; have := HZ15.out; have := HZ16.out; have := HZ17.out; have := HZ18.out; omega)).trans HK1.out
  have HCxN : Hid (CmdsO x19 x7.heap.size x8.heap.size vm cmds.length (flatR cmdF cmds)) := HCx.out.fr hf (by have := HZ0.out; have := HZ1.out; have := HZ2.out; have := HZ3.out; have := HZ4.out; have := HNN0.out; have := HZ5.out; have := HZ6.out; have := HZ7.out; have := HZ8.out; have := HZ9.out; have := HGG.out; have := HZ10.out; have := HZ11.out; have := HZ12.out; have := HZ13.out; have := HZ14.out; have := HZ15.out; have := HZ16.out; have := HZ17.out; have := HZ18.out; omega)
  have HTgN : Hid (TreeO x19 ga gb vg qg) := HTg.out.fr hf (by have := HZ0.out; have := HZ1.out; have := HZ2.out; have := HZ3.out; have := HZ4.out; have := HNN0.out; have := HZ5.out; have := HZ6.out; have := HZ7.out; have := HZ8.out; have := HZ9.out; have := HGG.out; have := HZ10.out; have := HZ11.out; have := HZ12.out; have := HZ13.out; have := HZ14.out; have := HZ15.out; have := HZ16.out; have := HZ17.out; have := HZ18.out; omega)
  have HO2N : Hid (OwnD gc gd x19 Q s4) := ⟨hf.own6 HO2.out.1 HO2.out.2.1 (by have := HZ0.out; have := HZ1.out; have := HZ2.out; have := HZ3.out; have := HZ4.out; have := HNN0.out; have := HZ5.out; have := HZ6.out; have := HZ7.out; have := HZ8.out; have := HZ9.out; have := HGG.out; have := HZ10.out; have := HZ11.out; have := HZ12.out; have := HZ13.out; have := HZ14.out; have := HZ15.out; have := HZ16.out; have := HZ17.out; have := HZ18.out; omega), HO2.out.2.1, Nat.le_trans HO2.out.2.2 hf.size⟩
  have HK2N : Hid (x19.heap[x9.heap.size]? = Option.some (.cells (peerA Q s4) 45 (0, 0))) := (hf.block _ (Array.getElem?_eq_some_iff.1 HK2.out).1 (by have := HZ0.out; have := HZ1.out; have := HZ2.out; have := HZ3.out; have := HZ4.out; have := HNN0.out; have := HZ5.out; have := HZ6.out; have := HZ7.out; have := HZ8.out; have := HZ9.out; have := HGG.out; have := HZ10.out; have := HZ11.out; have := HZ12.out; have := HZ13.out; have := HZ14.out; have := HZ15.out; have := HZ16.out; have := HZ17.out; have := HZ18.out; omega)).trans HK2.out
  have HZ19 : Hid (x18.heap.size ≤ x19.heap.size) := hf.size
  clear HB HKa HO0 HK0 HT0 HO1 HK1 HCx HTg HO2 HK2
  have HB := HBN
  clear HBN
  have HKa := HKaN
  clear HKaN
  have HO0 := HO0N
  clear HO0N
  have HK0 := HK0N
  clear HK0N
  have HT0 := HT0N
  clear HT0N
  have HO1 := HO1N
  clear HO1N
  have HK1 := HK1N
  clear HK1N
  have HCx := HCxN
  clear HCxN
  have HTg := HTgN
  clear HTgN
  have HO2 := HO2N
  clear HO2N
  have HK2 := HK2N
  clear HK2N
  clear HTx hf hwn hom
  obtain ⟨tn, htn⟩ : ∃ tn, tn = tnum 1 qx := ⟨_, rfl⟩
  have HEtn : Hid (tnum 1 qx = tn) := htn.symm
  rw [← htn] at HNHTx hnHTx ⊢
  clear htn
  go_wp2_with (first | (refine wpList_load_row rfl _ _ rfl w.heap.size rfl 33 _ (0, 0) _ HKa.out Tryz.underlying33 rfl (by kernel_rfl) ?_) | (refine wpList_load_row rfl _ _ rfl N0 rfl 45 _ (0, 0) _ HK0.out Tryz.underlying45 rfl (by kernel_rfl) ?_) | (refine wpList_load_row rfl _ _ rfl x6.heap.size rfl 45 _ (0, 0) _ HK1.out Tryz.underlying45 rfl (by kernel_rfl) ?_) | (refine wpList_load_row rfl _ _ rfl x9.heap.size rfl 45 _ (0, 0) _ HK2.out Tryz.underlying45 rfl (by kernel_rfl) ?_) | (refine wpList_load_row_w (by first | rfl | simp [Region.wanted, yielded] | simp [Region.wanted, yielded, hk0]) _ _ rfl w.heap.size rfl 33 _ (0, 0) _ HKa.out Tryz.underlying33 rfl (by kernel_rfl) ?_) | (refine wpList_load_row_w (by first | rfl | simp [Region.wanted, yielded] | simp [Region.wanted, yielded, hk0]) _ _ rfl N0 rfl 45 _ (0, 0) _ HK0.out Tryz.underlying45 rfl (by kernel_rfl) ?_) | (refine wpList_load_row_w (by first | rfl | simp [Region.wanted, yielded] | simp [Region.wanted, yielded, hk0]) _ _ rfl x6.heap.size rfl 45 _ (0, 0) _ HK1.out Tryz.underlying45 rfl (by kernel_rfl) ?_) | (refine wpList_load_row_w (by first | rfl | simp [Region.wanted, yielded] | simp [Region.wanted, yielded, hk0]) _ _ rfl x9.heap.size rfl 45 _ (0, 0) _ HK2.out Tryz.underlying45 rfl (by kernel_rfl) ?_))
  refine (markPeer_own p s3 tn x5.heap.size x6.heap.size x19 HO1.out HSM.out (by omega) (by have := HLP.out; have := HNHTx.out; omega)).mono ?_
  rintro e x20 ⟨rfl, hm, hf⟩
  have HAP20 : Hid (Apart6 x5.heap.size x6.heap.size s3) := HO1.out.2.1
  have hmA : Hid (MarkD tn x5.heap.size x20 p s3) := hm
  clear hm
  have HBN : Hid (Below w.heap.size w x20) := HB.out.trans ⟨hf.os, hf.tape, hf.output, hf.size, fun k hk => hf.block k (Nat.lt_of_lt_of_le hk HB.out.size) (Or.inl (by have := HZ0.out; have := HZ1.out; have := HZ2.out; have := HZ3.out; have := HZ4.out; have := HNN0.out; have := HZ5.out; have := HZ6.out; have := HZ7.out; have := HZ8.out; have := HZ9.out; have := HGG.out; have := HZ10.out; have := HZ11.out; have := HZ12.out; have := HZ13.out; have := HZ14.out; have := HZ15.out; have := HZ16.out; have := HZ17.out; have := HZ18.out; have := HZ19.out; omega))⟩
  have HKaN : Hid (x20.heap[w.heap.size]? = Option.some (.cells (peerA p s) 33 (0, 0))) := (hf.block _ (Array.getElem?_eq_some_iff.1 HKa.out).1 (by have := HZ0.out; have := HZ1.out; have := HZ2.out; have := HZ3.out; have := HZ4.out; have := HNN0.out; have := HZ5.out; have := HZ6.out; have := HZ7.out; have := HZ8.out; have := HZ9.out; have := HGG.out; have := HZ10.out; have := HZ11.out; have := HZ12.out; have := HZ13.out; have := HZ14.out; have := HZ15.out; have := HZ16.out; have := HZ17.out; have := HZ18.out; have := HZ19.out; omega)).trans HKa.out
  have HO0N : Hid (OwnD x3.heap.size x4.heap.size x20 Q s2) := ⟨hf.own6 HO0.out.1 HO0.out.2.1 (by have := HZ0.out; have := HZ1.out; have := HZ2.out; have := HZ3.out; have := HZ4.out; have := HNN0.out; have := HZ5.out; have := HZ6.out; have := HZ7.out; have := HZ8.out; have := HZ9.out; have := HGG.out; have := HZ10.out; have := HZ11.out; have := HZ12.out; have := HZ13.out; have := HZ14.out; have := HZ15.out; have := HZ16.out; have := HZ17.out; have := HZ18.out; have := HZ19.out; omega), HO0.out.2.1, Nat.le_trans HO0.out.2.2 hf.size⟩
  have HK0N : Hid (x20.heap[N0]? = Option.some (.cells (peerA Q s2) 45 (0, 0))) := (hf.block _ (Array.getElem?_eq_some_iff.1 HK0.out).1 (by have := HZ0.out; have := HZ1.out; have := HZ2.out; have := HZ3.out; have := HZ4.out; have := HNN0.out; have := HZ5.out; have := HZ6.out; have := HZ7.out; have := HZ8.out; have := HZ9.out; have := HGG.out; have := HZ10.out; have := HZ11.out; have := HZ12.out; have := HZ13.out; have := HZ14.out; have := HZ15.out; have := HZ16.out; have := HZ17.out; have := HZ18.out; have := HZ19.out; omega)).trans HK0.out
  have HT0N : Hid (TreeO x20 x3.heap.size x4.heap.size v2 q2) := HT0.out.fr hf (by have := HZ0.out; have := HZ1.out; have := HZ2.out; have := HZ3.out; have := HZ4.out; have := HNN0.out; have := HZ5.out; have := HZ6.out; have := HZ7.out; have := HZ8.out; have := HZ9.out; have := HGG.out; have := HZ10.out; have := HZ11.out; have := HZ12.out; have := HZ13.out; have := HZ14.out; have := HZ15.out; have := HZ16.out; have := HZ17.out; have := HZ18.out; have := HZ19.out; omega)
  have HK1N : Hid (x20.heap[x6.heap.size]? = Option.some (.cells (peerA p s3) 45 (0, 0))) := (hf.block _ (Array.getElem?_eq_some_iff.1 HK1.out).1 (by have := HZ0.out; have := HZ1.out; have := HZ2.out; have := HZ3.out; have := HZ4.out; have := HNN0.out; have := HZ5.out; have := HZ6.out; have := HZ7.out; have := HZ8.out; have := HZ9.out; have := HGG.out; have := HZ10.out; have := HZ11.out; have := HZ12.out; have := HZ13.out; have := HZ14.out; have := HZ15.out; have := HZ16.out; have := HZ17.out; have := HZ18.out; have := HZ19.out; omega)).trans HK1.out
  have HCxN : Hid (CmdsO x20 x7.heap.size x8.heap.size vm cmds.length (flatR cmdF cmds)) := HCx.out.fr hf (by have := HZ0.out; have := HZ1.out; have := HZ2.out; have := HZ3.out; have := HZ4.out; have := HNN0.out; have := HZ5.out; have := HZ6.out; have := HZ7.out; have := HZ8.out; have := HZ9.out; have := HGG.out; have := HZ10.out; have := HZ11.out; have := HZ12.out; have := HZ13.out; have := HZ14.out; have := HZ15.out; have := HZ16.out; have := HZ17.out; have := HZ18.out; have := HZ19.out; omega)
  have HTgN : Hid (TreeO x20 ga gb vg qg) := HTg.out.fr hf (by have := HZ0.out; have := HZ1.out; have := HZ2.out; have := HZ3.out; have := HZ4.out; have := HNN0.out; have := HZ5.out; have := HZ6.out; have := HZ7.out; have := HZ8.out; have := HZ9.out; have := HGG.out; have := HZ10.out; have := HZ11.out; have := HZ12.out; have := HZ13.out; have := HZ14.out; have := HZ15.out; have := HZ16.out; have := HZ17.out; have := HZ18.out; have := HZ19.out; omega)
  have HO2N : Hid (OwnD gc gd x20 Q s4) := ⟨hf.own6 HO2.out.1 HO2.out.2.1 (by have := HZ0.out; have := HZ1.out; have := HZ2.out; have := HZ3.out; have := HZ4.out; have := HNN0.out; have := HZ5.out; have := HZ6.out; have := HZ7.out; have := HZ8.out; have := HZ9.out; have := HGG.out; have := HZ10.out; have := HZ11.out; have := HZ12.out; have := HZ13.out; have := HZ14.out; have := HZ15.out; have := HZ16.out; have := HZ17.out; have := HZ18.out; have := HZ19.out; omega), HO2.out.2.1, Nat.le_trans HO2.out.2.2 hf.size⟩
  have HK2N : Hid (x20.heap[x9.heap.size]? = Option.some (.cells (peerA Q s4) 45 (0, 0))) := (hf.block _ (Array.getElem?_eq_some_iff.1 HK2.out).1 (by have := HZ0.out; have := HZ1.out; have := HZ2.out; have := HZ3.out; have := HZ4.out; have := HNN0.out; have := HZ5.out; have := HZ6.out; have := HZ7.out; have := HZ8.out; have := HZ9.out; have := HGG.out; have := HZ10.out; have := HZ11.out; have := HZ12.out; have := HZ13.out; have := HZ14.out; have := HZ15.out; have := HZ16.out; have := HZ17.out; have := HZ18.out; have := HZ19.out; omega)).trans HK2.out
  have HZ20 : Hid (x19.heap.size ≤ x20.heap.size) := hf.size
  clear HB HKa HO0 HK0 HT0 HK1 HCx HTg HO2 HK2
  have HB := HBN
  clear HBN
  have HKa := HKaN
  clear HKaN
  have HO0 := HO0N
  clear HO0N
  have HK0 := HK0N
  clear HK0N
  have HT0 := HT0N
  clear HT0N
  have HK1 := HK1N
  clear HK1N
  have HCx := HCxN
  clear HCxN
  have HTg := HTgN
  clear HTgN
  have HO2 := HO2N
  clear HO2N
  have HK2 := HK2N
  clear HK2N
  clear HO1 hf
  have HM1 : Hid (MarkD tn x5.heap.size x20 p s3) := hmA
  clear hmA
  clear HM1
  clear HK1
  have HK6 : Hid (0 < mk6 tn p ∧ mk6 tn p ≤ 99000000) := (by have h1 := HLP.out; have h2 := HNHTx.out; unfold mk6 mk5 mk4 mk3 mk2; unfold lenPe at h1; omega : 0 < mk6 tn p ∧ mk6 tn p ≤ 99000000)
  obtain ⟨k6, hk6⟩ : ∃ k6, k6 = mk6 tn p := ⟨_, rfl⟩
  rw [← hk6] at HK6 ⊢
  clear hk6
  go_wp2_with (first | (refine wpList_load_row rfl _ _ rfl w.heap.size rfl 33 _ (0, 0) _ HKa.out Tryz.underlying33 rfl (by kernel_rfl) ?_) | (refine wpList_load_row rfl _ _ rfl N0 rfl 45 _ (0, 0) _ HK0.out Tryz.underlying45 rfl (by kernel_rfl) ?_) | (refine wpList_load_row rfl _ _ rfl x9.heap.size rfl 45 _ (0, 0) _ HK2.out Tryz.underlying45 rfl (by kernel_rfl) ?_) | (refine wpList_load_row_w (by first | rfl | simp [Region.wanted, yielded] | simp [Region.wanted, yielded, hk0]) _ _ rfl w.heap.size rfl 33 _ (0, 0) _ HKa.out Tryz.underlying33 rfl (by kernel_rfl) ?_) | (refine wpList_load_row_w (by first | rfl | simp [Region.wanted, yielded] | simp [Region.wanted, yielded, hk0]) _ _ rfl N0 rfl 45 _ (0, 0) _ HK0.out Tryz.underlying45 rfl (by kernel_rfl) ?_) | (refine wpList_load_row_w (by first | rfl | simp [Region.wanted, yielded] | simp [Region.wanted, yielded, hk0]) _ _ rfl x9.heap.size rfl 45 _ (0, 0) _ HK2.out Tryz.underlying45 rfl (by kernel_rfl) ?_))
  refine (markCmds_big cmds.length k6 vm x7.heap.size _ x20 HCx.out.own HK6.out.1 (by have := HK6.out.2; omega) (by have := HLP.out; omega)).mono ?_
  rintro e x21 ⟨rfl, hgr⟩
  have hf : Fr x7.heap.size x8.heap.size x20 x21 := fr_grown hgr HCx.out.lim
  have HBN : Hid (Below w.heap.size w x21) := HB.out.trans ⟨hf.os, hf.tape, hf.output, hf.size, fun k hk => hf.block k (Nat.lt_of_lt_of_le hk HB.out.size) (Or.inl (by have := HZ0.out; have := HZ1.out; have := HZ2.out; have := HZ3.out; have := HZ4.out; have := HNN0.out; have := HZ5.out; have := HZ6.out; have := HZ7.out; have := HZ8.out; have := HZ9.out; have := HGG.out; have := HZ10.out; have := HZ11.out; have := HZ12.out; have := HZ13.out; have := HZ14.out; have := HZ15.out; have := HZ16.out; have := HZ17.out; have := HZ18.out; have := HZ19.out; have := HZ20.out; omega))⟩
  have HKaN : Hid (x21.heap[w.heap.size]? = Option.some (.cells (peerA p s) 33 (0, 0))) := (hf.block _ (Array.getElem?_eq_some_iff.1 HKa.out).1 (by have := HZ0.out; have := HZ1.out; have := HZ2.out; have := HZ3.out; have := HZ4.out; have := HNN0.out; have := HZ5.out; have := HZ6.out; have := HZ7.out; have := HZ8.out; have := HZ9.out; have := HGG.out; have := HZ10.out; have := HZ11.out; have := HZ12.out; have := HZ13.out; have := HZ14.out; have := HZ15.out; have := HZ16.out; have := HZ17.out; have := HZ18.out; have := HZ19.out; have := HZ20.out; omega)).trans HKa.out
  have HO0N : Hid (OwnD x3.heap.size x4.heap.size x21 Q s2) := ⟨hf.own6 HO0.out.1 HO0.out.2.1 (by have := HZ0.out; have := HZ1.out; have := HZ2.out; have := HZ3.out; have := HZ4.out; have := HNN0.out; have := HZ5.out; have := HZ6.out; have := HZ7.out; have := HZ8.out; have := HZ9.out; have := HGG.out; have := HZ10.out; have := HZ11.out; have := HZ12.out; have := HZ13.out; have := HZ14.out; have := HZ15.out; have := HZ16.out; have := HZ17.out; have := HZ18.out; have := HZ19.out; have := HZ20.out; omega), HO0.out.2.1, Nat.le_trans HO0.out.2.2 hf.size⟩
  have HK0N : Hid (x21.heap[N0]? = Option.some (.cells (peerA Q s2) 45 (0, 0))) := (hf.block _ (Array.getElem?_eq_some_iff.1 HK0.out).1 (by have := HZ0.out; have := HZ1.out; have := HZ2.out; have := HZ3.out; have := HZ4.out; have := HNN0.out; have := HZ5.out; have := HZ6.out; have := HZ7.out; have := HZ8.out; have := HZ9.out; have := HGG.out; have := HZ10.out; have := HZ11.out; have := HZ12.out; have := HZ13.out; have := HZ14.out; have := HZ15.out; have := HZ16.out; have := HZ17.out; have := HZ18.out; have := HZ19.out; have := HZ20.out; omega)).trans HK0.out
  have HT0N : Hid (TreeO x21 x3.heap.size x4.heap.size v2 q2) := HT0.out.fr hf (by have := HZ0.out; have := HZ1.out; have := HZ2.out; have := HZ3.out; have := HZ4.out; have := HNN0.out; have := HZ5.out; have := HZ6.out; have := HZ7.out; have := HZ8.out; have := HZ9.out; have := HGG.out; have := HZ10.out; have := HZ11.out; have := HZ12.out; have := HZ13.out; have := HZ14.out; have := HZ15.out; have := HZ16.out; have := HZ17.out; have := HZ18.out; have := HZ19.out; have := HZ20.out; omega)
  have HTgN : Hid (TreeO x21 ga gb vg qg) := HTg.out.fr hf (by have := HZ0.out; have := HZ1.out; have := HZ2.out; have := HZ3.out; have := HZ4.out; have := HNN0.out; have := HZ5.out; have := HZ6.out; have := HZ7.out; have := HZ8.out; have := HZ9.out; have := HGG.out; have := HZ10.out; have := HZ11.out; have := HZ12.out; have := HZ13.out; have := HZ14.out; have := HZ15.out; have := HZ16.out; have := HZ17.out; have := HZ18.out; have := HZ19.out; have := HZ20.out; omega)
  have HO2N : Hid (OwnD gc gd x21 Q s4) := ⟨hf.own6 HO2.out.1 HO2.out.2.1 (by have := HZ0.out; have := HZ1.out; have := HZ2.out; have := HZ3.out; have := HZ4.out; have := HNN0.out; have := HZ5.out; have := HZ6.out; have := HZ7.out; have := HZ8.out; have := HZ9.out; have := HGG.out; have := HZ10.out; have := HZ11.out; have := HZ12.out; have := HZ13.out; have := HZ14.out; have := HZ15.out; have := HZ16.out; have := HZ17.out; have := HZ18.out; have := HZ19.out; have := HZ20.out; omega), HO2.out.2.1, Nat.le_trans HO2.out.2.2 hf.size⟩
  have HK2N : Hid (x21.heap[x9.heap.size]? = Option.some (.cells (peerA Q s4) 45 (0, 0))) := (hf.block _ (Array.getElem?_eq_some_iff.1 HK2.out).1 (by have := HZ0.out; have := HZ1.out; have := HZ2.out; have := HZ3.out; have := HZ4.out; have := HNN0.out; have := HZ5.out; have := HZ6.out; have := HZ7.out; have := HZ8.out; have := HZ9.out; have := HGG.out; have := HZ10.out; have := HZ11.out; have := HZ12.out; have := HZ13.out; have := HZ14.out; have := HZ15.out; have := HZ16.out; have := HZ17.out; have := HZ18.out; have := HZ19.out; have := HZ20.out; omega)).trans HK2.out
  have HZ21 : Hid (x20.heap.size ≤ x21.heap.size) := hf.size
  clear HB HKa HO0 HK0 HT0 HTg HO2 HK2
  have HB := HBN
  clear HBN
  have HKa := HKaN
  clear HKaN
  have HO0 := HO0N
  clear HO0N
  have HK0 := HK0N
  clear HK0N
  have HT0 := HT0N
  clear HT0N
  have HTg := HTgN
  clear HTgN
  have HO2 := HO2N
  clear HO2N
  have HK2 := HK2N
  clear HK2N
  clear HCx hf hgr
  obtain ⟨k7, hk7⟩ : ∃ k7 : Nat, k7 = k6 + 3 * cmds.length := ⟨_, rfl⟩
  rw [← hk7]
  clear hk7
  have hk0 : ¬ (((k7 : Nat) : Int) < 0) := by omega
  go_wp2_with (first | (refine wpList_load_row rfl _ _ rfl w.heap.size rfl 33 _ (0, 0) _ HKa.out Tryz.underlying33 rfl (by kernel_rfl) ?_) | (refine wpList_load_row rfl _ _ rfl N0 rfl 45 _ (0, 0) _ HK0.out Tryz.underlying45 rfl (by kernel_rfl) ?_) | (refine wpList_load_row rfl _ _ rfl x9.heap.size rfl 45 _ (0, 0) _ HK2.out Tryz.underlying45 rfl (by kernel_rfl) ?_) | (refine wpList_load_row_w (by first | rfl | simp [Region.wanted, yielded] | simp [Region.wanted, yielded, hk0]) _ _ rfl w.heap.size rfl 33 _ (0, 0) _ HKa.out Tryz.underlying33 rfl (by kernel_rfl) ?_) | (refine wpList_load_row_w (by first | rfl | simp [Region.wanted, yielded] | simp [Region.wanted, yielded, hk0]) _ _ rfl N0 rfl 45 _ (0, 0) _ HK0.out Tryz.underlying45 rfl (by kernel_rfl) ?_) | (refine wpList_load_row_w (by first | rfl | simp [Region.wanted, yielded] | simp [Region.wanted, yielded, hk0]) _ _ rfl x9.heap.size rfl 45 _ (0, 0) _ HK2.out Tryz.underlying45 rfl (by kernel_rfl) ?_))
  refine (eqBlocks_yes qg q2 vg v2 x21 HTg.out.own.read.q HT0.out.own.read.q (by rw [HQg.out, HQq2.out]) (by rw [HQg.out]; exact HTT.out.1)).mono ?_
  rintro e x22 ⟨rfl, hb⟩
  have HBN : Hid (Below w.heap.size w x22) := bt HB.out hb
  have HKaN : Hid (x22.heap[w.heap.size]? = Option.some (.cells (peerA p s) 33 (0, 0))) := (hb.block _ (Array.getElem?_eq_some_iff.1 HKa.out).1).trans HKa.out
  have HO0N : Hid (OwnD x3.heap.size x4.heap.size x22 Q s2) := HO0.out.below hb
  have HK0N : Hid (x22.heap[N0]? = Option.some (.cells (peerA Q s2) 45 (0, 0))) := (hb.block _ (Array.getElem?_eq_some_iff.1 HK0.out).1).trans HK0.out
  have HT0N : Hid (TreeO x22 x3.heap.size x4.heap.size v2 q2) := HT0.out.below hb
  have HTgN : Hid (TreeO x22 ga gb vg qg) := HTg.out.below hb
  have HO2N : Hid (OwnD gc gd x22 Q s4) := HO2.out.below hb
  have HK2N : Hid (x22.heap[x9.heap.size]? = Option.some (.cells (peerA Q s4) 45 (0, 0))) := (hb.block _ (Array.getElem?_eq_some_iff.1 HK2.out).1).trans HK2.out
  have HZ22 : Hid (x21.heap.size ≤ x22.heap.size) := hb.size
  clear HB HKa HO0 HK0 HT0 HTg HO2 HK2
  have HB := HBN
  clear HBN
  have HKa := HKaN
  clear HKaN
  have HO0 := HO0N
  clear HO0N
  have HK0 := HK0N
  clear HK0N
  have HT0 := HT0N
  clear HT0N
  have HTg := HTgN
  clear HTgN
  have HO2 := HO2N
  clear HO2N
  have HK2 := HK2N
  clear HK2N
  clear hb
  go_wp2_with (first | (refine wpList_load_row rfl _ _ rfl w.heap.size rfl 33 _ (0, 0) _ HKa.out Tryz.underlying33 rfl (by kernel_rfl) ?_) | (refine wpList_load_row rfl _ _ rfl N0 rfl 45 _ (0, 0) _ HK0.out Tryz.underlying45 rfl (by kernel_rfl) ?_) | (refine wpList_load_row rfl _ _ rfl x9.heap.size rfl 45 _ (0, 0) _ HK2.out Tryz.underlying45 rfl (by kernel_rfl) ?_) | (refine wpList_load_row_w (by first | rfl | simp [Region.wanted, yielded] | simp [Region.wanted, yielded, hk0]) _ _ rfl w.heap.size rfl 33 _ (0, 0) _ HKa.out Tryz.underlying33 rfl (by kernel_rfl) ?_) | (refine wpList_load_row_w (by first | rfl | simp [Region.wanted, yielded] | simp [Region.wanted, yielded, hk0]) _ _ rfl N0 rfl 45 _ (0, 0) _ HK0.out Tryz.underlying45 rfl (by kernel_rfl) ?_) | (refine wpList_load_row_w (by first | rfl | simp [Region.wanted, yielded] | simp [Region.wanted, yielded, hk0]) _ _ rfl x9.heap.size rfl 45 _ (0, 0) _ HK2.out Tryz.underlying45 rfl (by kernel_rfl) ?_))
  refine (eqPeer_yes Q s4 s2 x22 HO2.out.reads HO0.out.reads HSQ.out).mono ?_
  rintro e x23 ⟨rfl, hb⟩
  have HBN : Hid (Below w.heap.size w x23) := bt HB.out hb
  have HKaN : Hid (x23.heap[w.heap.size]? = Option.some (.cells (peerA p s) 33 (0, 0))) := (hb.block _ (Array.getElem?_eq_some_iff.1 HKa.out).1).trans HKa.out
  have HO0N : Hid (OwnD x3.heap.size x4.heap.size x23 Q s2) := HO0.out.below hb
  have HK0N : Hid (x23.heap[N0]? = Option.some (.cells (peerA Q s2) 45 (0, 0))) := (hb.block _ (Array.getElem?_eq_some_iff.1 HK0.out).1).trans HK0.out
  have HT0N : Hid (TreeO x23 x3.heap.size x4.heap.size v2 q2) := HT0.out.below hb
  have HTgN : Hid (TreeO x23 ga gb vg qg) := HTg.out.below hb
  have HO2N : Hid (OwnD gc gd x23 Q s4) := HO2.out.below hb
  have HK2N : Hid (x23.heap[x9.heap.size]? = Option.some (.cells (peerA Q s4) 45 (0, 0))) := (hb.block _ (Array.getElem?_eq_some_iff.1 HK2.out).1).trans HK2.out
  have HZ23 : Hid (x22.heap.size ≤ x23.heap.size) := hb.size
  clear HB HKa HO0 HK0 HT0 HTg HO2 HK2
  have HB := HBN
  clear HBN
  have HKa := HKaN
  clear HKaN
  have HO0 := HO0N
  clear HO0N
  have HK0 := HK0N
  clear HK0N
  have HT0 := HT0N
  clear HT0N
  have HTg := HTgN
  clear HTgN
  have HO2 := HO2N
  clear HO2N
  have HK2 := HK2N
  clear HK2N
  clear hb
  clear hk0
  go_wp2_with (first | (refine wpList_load_row rfl _ _ rfl w.heap.size rfl 33 _ (0, 0) _ HKa.out Tryz.underlying33 rfl (by kernel_rfl) ?_) | (refine wpList_load_row rfl _ _ rfl N0 rfl 45 _ (0, 0) _ HK0.out Tryz.underlying45 rfl (by kernel_rfl) ?_) | (refine wpList_load_row rfl _ _ rfl x9.heap.size rfl 45 _ (0, 0) _ HK2.out Tryz.underlying45 rfl (by kernel_rfl) ?_) | (refine wpList_load_row_w (by first | rfl | simp [Region.wanted, yielded] | simp [Region.wanted, yielded, hk0]) _ _ rfl w.heap.size rfl 33 _ (0, 0) _ HKa.out Tryz.underlying33 rfl (by kernel_rfl) ?_) | (refine wpList_load_row_w (by first | rfl | simp [Region.wanted, yielded] | simp [Region.wanted, yielded, hk0]) _ _ rfl N0 rfl 45 _ (0, 0) _ HK0.out Tryz.underlying45 rfl (by kernel_rfl) ?_) | (refine wpList_load_row_w (by first | rfl | simp [Region.wanted, yielded] | simp [Region.wanted, yielded, hk0]) _ _ rfl x9.heap.size rfl 45 _ (0, 0) _ HK2.out Tryz.underlying45 rfl (by kernel_rfl) ?_))
  have HNHTg : Hid (tnum 1 qg ≤ 1 + 6 * wtB (TT)) := (by have h1 := tnum_wt qg 1; rw [HQg.out] at h1; exact h1 : tnum 1 qg ≤ 1 + 6 * wtB (TT))
  have hnHTg := tnum_le qg 1
  refine (markBlocks_own qg 1 ga gb vg x23 HTg.out.own HTg.out.lim (by decide) (by have := HNHTg.out; have := HLP.out; have := HTT.out.2; omega) (okT_len HTT.out.1 HQg.out) (okT_cmds HTT.out.1 HQg.out)).mono ?_
  rintro e x24 ⟨rfl, hom, hwn⟩
  have hf : Fr ga gb x23 x24 := ⟨hwn.os, hwn.tape, hwn.output, hwn.size, hwn.block⟩
  have hmA : Hid (TreeO x24 ga gb vg (tmarks 1 qg)) := ⟨hom, lim_marks _ _ HTg.out.lim⟩
  have HBN : Hid (Below w.heap.size w x24) := HB.out.trans ⟨hf.os, hf.tape, hf.output, hf.size, fun k hk => hf.block k (Nat.lt_of_lt_of_le hk HB.out.size) (Or.inl (by have := HZ0.out; have := HZ1.out; have := HZ2.out; have := HZ3.out; have := HZ4.out; have := HNN0.out; have := HZ5.out; have := HZ6.out; have := HZ7.out; have := HZ8.out; have := HZ9.out; have := HGG.out; have := HZ10.out; have := HZ11.out; have := HZ12.out; have := HZ13.out; have := HZ14.out; have := HZ15.out; have := HZ16.out; have := HZ17.out; have := HZ18.out; have := HZ19.out; have := HZ20.out; have := HZ21.out; have := HZ22.out; have := HZ23.out; omega))⟩
  have HKaN : Hid (x24.heap[w.heap.size]? = Option.some (.cells (peerA p s) 33 (0, 0))) := (hf.block _ (Array.getElem?_eq_some_iff.1 HKa.out).1 (by have := HZ0.out; have := HZ1.out; have := HZ2.out; have := HZ3.out; have := HZ4.out; have := HNN0.out; have := HZ5.out; have := HZ6.out; have := HZ7.out; have := HZ8.out; have := HZ9.out; have := HGG.out; have := HZ10.out; have := HZ11.out; have := HZ12.out; have := HZ13.out; have := HZ14.out; have := HZ15.out; have := HZ16.out; have := HZ17.out; have := HZ18.out; have := HZ19.out; have := HZ20.out; have := HZ21.out; have := HZ22.out; have := HZ23.out; omega)).trans HKa.out
  have HO0N : Hid (OwnD x3.heap.size x4.heap.size x24 Q s2) := ⟨hf.own6 HO0.out.1 HO0.out.2.1 (by have := HZ0.out; have := HZ1.out; have := HZ2.out; have := HZ3.out; have := HZ4.out; have := HNN0.out; have := HZ5.out; have := HZ6.out; have := HZ7.out; have := HZ8.out; have := HZ9.out; have := HGG.out; have := HZ10.out; have := HZ11.out; have := HZ12.out; have := HZ13.out; have := HZ14.out; have := HZ15.out; have := HZ16.out; have := HZ17.out; have := HZ18.out; have := HZ19.out; have := HZ20.out; have := HZ21.out; have := HZ22.out; have := HZ23.out; omega), HO0.out.2.1, Nat.le_trans HO0.out.2.2 hf.size⟩
  have HK0N : Hid (x24.heap[N0]? = Option.some (.cells (peerA Q s2) 45 (0, 0))) := (hf.block _ (Array.getElem?_eq_some_iff.1 HK0.out).1 (by have := HZ0.out; have := HZ1.out; have := HZ2.out; have := HZ3.out; have := HZ4.out; have := HNN0.out; have := HZ5.out; have := HZ6.out; have := HZ7.out; have := HZ8.out; have := HZ9.out; have := HGG.out; have := HZ10.out; have := HZ11.out; have := HZ12.out; have := HZ13.out; have := HZ14.out; have := HZ15.out; have := HZ16.out; have := HZ17.out; have := HZ18.out; have := HZ19.out; have := HZ20.out; have := HZ21.out; have := HZ22.out; have := HZ23.out; omega)).trans HK0.out
  have HT0N : Hid (TreeO x24 x3.heap.size x4.heap.size v2 q2) := HT0.out.fr hf (by have := HZ0.out; have := HZ1.out; have := HZ2.out; have := HZ3.out; have := HZ4.out; have := HNN0.out; have := HZ5.out; have := HZ6.out; have := HZ7.out; have := HZ8.out; have := HZ9.out; have := HGG.out; have := HZ10.out; have := HZ11.out; have := HZ12.out; have := HZ13.out; have := HZ14.out; have := HZ15.out; have := HZ16.out; have := HZ17.out; have := HZ18.out; have := HZ19.out; have := HZ20.out; have := HZ21.out; have := HZ22.out; have := HZ23.out; omega)
  have HO2N : Hid (OwnD gc gd x24 Q s4) := ⟨hf.own6 HO2.out.1 HO2.out.2.1 (by have := HZ0.out; have := HZ1.out; have := HZ2.out; have := HZ3.out; have := HZ4.out; have := HNN0.out; have := HZ5.out; have := HZ6.out; have := HZ7.out; have := HZ8.out; have := HZ9.out; have := HGG.out; have := HZ10.out; have := HZ11.out; have := HZ12.out; have := HZ13.out; have := HZ14.out; have := HZ15.out; have := HZ16.out; have := HZ17.out; have := HZ18.out; have := HZ19.out; have := HZ20.out; have := HZ21.out; have := HZ22.out; have := HZ23.out; omega), HO2.out.2.1, Nat.le_trans HO2.out.2.2 hf.size⟩
  have HK2N : Hid (x24.heap[x9.heap.size]? = Option.some (.cells (peerA Q s4) 45 (0, 0))) := (hf.block _ (Array.getElem?_eq_some_iff.1 HK2.out).1 (by have := HZ0.out; have := HZ1.out; have := HZ2.out; have := HZ3.out; have := HZ4.out; have := HNN0.out; have := HZ5.out; have := HZ6.out; have := HZ7.out; have := HZ8.out; have := HZ9.out; have := HGG.out; have := HZ10.out; have := HZ11.out; have := HZ12.out; have := HZ13.out; have := HZ14.out; have := HZ15.out; have := HZ16.out; have := HZ17.out; have := HZ18.out; have := HZ19.out; have := HZ20.out; have := HZ21.out; have := HZ22.out; have := HZ23.out; omega)).trans HK2.out
  have HZ24 : Hid (x23.heap.size ≤ x24.heap.size) := hf.size
  clear HB HKa HO0 HK0 HT0 HO2 HK2
  have HB := HBN
  clear HBN
  have HKa := HKaN
  clear HKaN
  have HO0 := HO0N
  clear HO0N
  have HK0 := HK0N
  clear HK0N
  have HT0 := HT0N
  clear HT0N
  have HO2 := HO2N
  clear HO2N
  have HK2 := HK2N
  clear HK2N
  clear HTg hf hwn hom
  have HMT := hmA
  clear hmA
  obtain ⟨tg, htn⟩ : ∃ tg, tg = tnum 1 qg := ⟨_, rfl⟩
  have HEtg : Hid (tnum 1 qg = tg) := htn.symm
  rw [← htn] at HNHTg hnHTg ⊢
  clear htn
  go_wp2_with (first | (refine wpList_load_row rfl _ _ rfl w.heap.size rfl 33 _ (0, 0) _ HKa.out Tryz.underlying33 rfl (by kernel_rfl) ?_) | (refine wpList_load_row rfl _ _ rfl N0 rfl 45 _ (0, 0) _ HK0.out Tryz.underlying45 rfl (by kernel_rfl) ?_) | (refine wpList_load_row rfl _ _ rfl x9.heap.size rfl 45 _ (0, 0) _ HK2.out Tryz.underlying45 rfl (by kernel_rfl) ?_) | (refine wpList_load_row_w (by first | rfl | simp [Region.wanted, yielded] | simp [Region.wanted, yielded, hk0]) _ _ rfl w.heap.size rfl 33 _ (0, 0) _ HKa.out Tryz.underlying33 rfl (by kernel_rfl) ?_) | (refine wpList_load_row_w (by first | rfl | simp [Region.wanted, yielded] | simp [Region.wanted, yielded, hk0]) _ _ rfl N0 rfl 45 _ (0, 0) _ HK0.out Tryz.underlying45 rfl (by kernel_rfl) ?_) | (refine wpList_load_row_w (by first | rfl | simp [Region.wanted, yielded] | simp [Region.wanted, yielded, hk0]) _ _ rfl x9.heap.size rfl 45 _ (0, 0) _ HK2.out Tryz.underlying45 rfl (by kernel_rfl) ?_))
  refine (markPeer_own Q s4 tg gc gd x24 HO2.out HMQ.out.1 (by omega) (by have := HLP.out; have := HNHTg.out; have := HTT.out.2; have := HMQ.out.2; omega)).mono ?_
  rintro e x25 ⟨rfl, hm, hf⟩
  have HAP25 : Hid (Apart6 gc gd s4) := HO2.out.2.1
  have hmA : Hid (MarkD tg gc x25 Q s4) := hm
  clear hm
  have HBN : Hid (Below w.heap.size w x25) := HB.out.trans ⟨hf.os, hf.tape, hf.output, hf.size, fun k hk => hf.block k (Nat.lt_of_lt_of_le hk HB.out.size) (Or.inl (by have := HZ0.out; have := HZ1.out; have := HZ2.out; have := HZ3.out; have := HZ4.out; have := HNN0.out; have := HZ5.out; have := HZ6.out; have := HZ7.out; have := HZ8.out; have := HZ9.out; have := HGG.out; have := HZ10.out; have := HZ11.out; have := HZ12.out; have := HZ13.out; have := HZ14.out; have := HZ15.out; have := HZ16.out; have := HZ17.out; have := HZ18.out; have := HZ19.out; have := HZ20.out; have := HZ21.out; have := HZ22.out; have := HZ23.out; have := HZ24.out; omega))⟩
  have HKaN : Hid (x25.heap[w.heap.size]? = Option.some (.cells (peerA p s) 33 (0, 0))) := (hf.block _ (Array.getElem?_eq_some_iff.1 HKa.out).1 (by have := HZ0.out; have := HZ1.out; have := HZ2.out; have := HZ3.out; have := HZ4.out; have := HNN0.out; have := HZ5.out; have := HZ6.out; have := HZ7.out; have := HZ8.out; have := HZ9.out; have := HGG.out; have := HZ10.out; have := HZ11.out; have := HZ12.out; have := HZ13.out; have := HZ14.out; have := HZ15.out; have := HZ16.out; have := HZ17.out; have := HZ18.out; have := HZ19.out; have := HZ20.out; have := HZ21.out; have := HZ22.out; have := HZ23.out; have := HZ24.out; omega)).trans HKa.out
  have HO0N : Hid (OwnD x3.heap.size x4.heap.size x25 Q s2) := ⟨hf.own6 HO0.out.1 HO0.out.2.1 (by have := HZ0.out; have := HZ1.out; have := HZ2.out; have := HZ3.out; have := HZ4.out; have := HNN0.out; have := HZ5.out; have := HZ6.out; have := HZ7.out; have := HZ8.out; have := HZ9.out; have := HGG.out; have := HZ10.out; have := HZ11.out; have := HZ12.out; have := HZ13.out; have := HZ14.out; have := HZ15.out; have := HZ16.out; have := HZ17.out; have := HZ18.out; have := HZ19.out; have := HZ20.out; have := HZ21.out; have := HZ22.out; have := HZ23.out; have := HZ24.out; omega), HO0.out.2.1, Nat.le_trans HO0.out.2.2 hf.size⟩
  have HK0N : Hid (x25.heap[N0]? = Option.some (.cells (peerA Q s2) 45 (0, 0))) := (hf.block _ (Array.getElem?_eq_some_iff.1 HK0.out).1 (by have := HZ0.out; have := HZ1.out; have := HZ2.out; have := HZ3.out; have := HZ4.out; have := HNN0.out; have := HZ5.out; have := HZ6.out; have := HZ7.out; have := HZ8.out; have := HZ9.out; have := HGG.out; have := HZ10.out; have := HZ11.out; have := HZ12.out; have := HZ13.out; have := HZ14.out; have := HZ15.out; have := HZ16.out; have := HZ17.out; have := HZ18.out; have := HZ19.out; have := HZ20.out; have := HZ21.out; have := HZ22.out; have := HZ23.out; have := HZ24.out; omega)).trans HK0.out
  have HT0N : Hid (TreeO x25 x3.heap.size x4.heap.size v2 q2) := HT0.out.fr hf (by have := HZ0.out; have := HZ1.out; have := HZ2.out; have := HZ3.out; have := HZ4.out; have := HNN0.out; have := HZ5.out; have := HZ6.out; have := HZ7.out; have := HZ8.out; have := HZ9.out; have := HGG.out; have := HZ10.out; have := HZ11.out; have := HZ12.out; have := HZ13.out; have := HZ14.out; have := HZ15.out; have := HZ16.out; have := HZ17.out; have := HZ18.out; have := HZ19.out; have := HZ20.out; have := HZ21.out; have := HZ22.out; have := HZ23.out; have := HZ24.out; omega)
  have HK2N : Hid (x25.heap[x9.heap.size]? = Option.some (.cells (peerA Q s4) 45 (0, 0))) := (hf.block _ (Array.getElem?_eq_some_iff.1 HK2.out).1 (by have := HZ0.out; have := HZ1.out; have := HZ2.out; have := HZ3.out; have := HZ4.out; have := HNN0.out; have := HZ5.out; have := HZ6.out; have := HZ7.out; have := HZ8.out; have := HZ9.out; have := HGG.out; have := HZ10.out; have := HZ11.out; have := HZ12.out; have := HZ13.out; have := HZ14.out; have := HZ15.out; have := HZ16.out; have := HZ17.out; have := HZ18.out; have := HZ19.out; have := HZ20.out; have := HZ21.out; have := HZ22.out; have := HZ23.out; have := HZ24.out; omega)).trans HK2.out
  have HMTN : Hid (TreeO x25 ga gb vg (tmarks 1 qg)) := HMT.out.fr hf (by have := HZ0.out; have := HZ1.out; have := HZ2.out; have := HZ3.out; have := HZ4.out; have := HNN0.out; have := HZ5.out; have := HZ6.out; have := HZ7.out; have := HZ8.out; have := HZ9.out; have := HGG.out; have := HZ10.out; have := HZ11.out; have := HZ12.out; have := HZ13.out; have := HZ14.out; have := HZ15.out; have := HZ16.out; have := HZ17.out; have := HZ18.out; have := HZ19.out; have := HZ20.out; have := HZ21.out; have := HZ22.out; have := HZ23.out; have := HZ24.out; omega)
  have HZ25 : Hid (x24.heap.size ≤ x25.heap.size) := hf.size
  clear HB HKa HO0 HK0 HT0 HK2 HMT
  have HB := HBN
  clear HBN
  have HKa := HKaN
  clear HKaN
  have HO0 := HO0N
  clear HO0N
  have HK0 := HK0N
  clear HK0N
  have HT0 := HT0N
  clear HT0N
  have HK2 := HK2N
  clear HK2N
  have HMT := HMTN
  clear HMTN
  clear HO2 hf
  have HM2 : Hid (MarkD tg gc x25 Q s4) := hmA
  clear hmA
  have hk0 : ¬ (((mk6 tg Q : Nat) : Int) < 0) := by omega
  have hk1 : ¬ (((tg : Nat) : Int) < 0) := by omega
  go_wp2_with (first | (refine wpList_load_row rfl _ _ rfl w.heap.size rfl 33 _ (0, 0) _ HKa.out Tryz.underlying33 rfl (by kernel_rfl) ?_) | (refine wpList_load_row rfl _ _ rfl N0 rfl 45 _ (0, 0) _ HK0.out Tryz.underlying45 rfl (by kernel_rfl) ?_) | (refine wpList_load_row rfl _ _ rfl x9.heap.size rfl 45 _ (0, 0) _ HK2.out Tryz.underlying45 rfl (by kernel_rfl) ?_) | (refine wpList_load_row_w (by first | rfl | simp [Region.wanted, yielded] | simp [Region.wanted, yielded, hk0]) _ _ rfl w.heap.size rfl 33 _ (0, 0) _ HKa.out Tryz.underlying33 rfl (by kernel_rfl) ?_) | (refine wpList_load_row_w (by first | rfl | simp [Region.wanted, yielded] | simp [Region.wanted, yielded, hk0]) _ _ rfl N0 rfl 45 _ (0, 0) _ HK0.out Tryz.underlying45 rfl (by kernel_rfl) ?_) | (refine wpList_load_row_w (by first | rfl | simp [Region.wanted, yielded] | simp [Region.wanted, yielded, hk0]) _ _ rfl x9.heap.size rfl 45 _ (0, 0) _ HK2.out Tryz.underlying45 rfl (by kernel_rfl) ?_))
  refine (heldBlocks_any qg 1 vg x25 HMT.out.own.read.q (by decide) (by rw [HEtg.out]; have := HNHTg.out; have := HLP.out; have := HTT.out.2; omega) (okT_len HTT.out.1 HQg.out) (okT_cmds HTT.out.1 HQg.out)).mono ?_
  rintro e x26 ⟨rfl, hb⟩
  have HBN : Hid (Below w.heap.size w x26) := bt HB.out hb
  have HKaN : Hid (x26.heap[w.heap.size]? = Option.some (.cells (peerA p s) 33 (0, 0))) := (hb.block _ (Array.getElem?_eq_some_iff.1 HKa.out).1).trans HKa.out
  have HO0N : Hid (OwnD x3.heap.size x4.heap.size x26 Q s2) := HO0.out.below hb
  have HK0N : Hid (x26.heap[N0]? = Option.some (.cells (peerA Q s2) 45 (0, 0))) := (hb.block _ (Array.getElem?_eq_some_iff.1 HK0.out).1).trans HK0.out
  have HT0N : Hid (TreeO x26 x3.heap.size x4.heap.size v2 q2) := HT0.out.below hb
  have HK2N : Hid (x26.heap[x9.heap.size]? = Option.some (.cells (peerA Q s4) 45 (0, 0))) := (hb.block _ (Array.getElem?_eq_some_iff.1 HK2.out).1).trans HK2.out
  have HMTN : Hid (TreeO x26 ga gb vg (tmarks 1 qg)) := HMT.out.below hb
  have HM2N : Hid (MarkD tg gc x26 Q s4) := Own6.below HM2.out hb
  have HZ26 : Hid (x25.heap.size ≤ x26.heap.size) := hb.size
  clear HB HKa HO0 HK0 HT0 HK2 HMT HM2
  have HB := HBN
  clear HBN
  have HKa := HKaN
  clear HKaN
  have HO0 := HO0N
  clear HO0N
  have HK0 := HK0N
  clear HK0N
  have HT0 := HT0N
  clear HT0N
  have HK2 := HK2N
  clear HK2N
  have HMT := HMTN
  clear HMTN
  have HM2 := HM2N
  clear HM2N
  clear hb
  rw [HEtg.out]
  go_wp2_with (first | (refine wpList_load_row rfl _ _ rfl w.heap.size rfl 33 _ (0, 0) _ HKa.out Tryz.underlying33 rfl (by kernel_rfl) ?_) | (refine wpList_load_row rfl _ _ rfl N0 rfl 45 _ (0, 0) _ HK0.out Tryz.underlying45 rfl (by kernel_rfl) ?_) | (refine wpList_load_row rfl _ _ rfl x9.heap.size rfl 45 _ (0, 0) _ HK2.out Tryz.underlying45 rfl (by kernel_rfl) ?_) | (refine wpList_load_row_w (by first | rfl | simp [Region.wanted, yielded] | simp [Region.wanted, yielded, hk0]) _ _ rfl w.heap.size rfl 33 _ (0, 0) _ HKa.out Tryz.underlying33 rfl (by kernel_rfl) ?_) | (refine wpList_load_row_w (by first | rfl | simp [Region.wanted, yielded] | simp [Region.wanted, yielded, hk0]) _ _ rfl N0 rfl 45 _ (0, 0) _ HK0.out Tryz.underlying45 rfl (by kernel_rfl) ?_) | (refine wpList_load_row_w (by first | rfl | simp [Region.wanted, yielded] | simp [Region.wanted, yielded, hk0]) _ _ rfl x9.heap.size rfl 45 _ (0, 0) _ HK2.out Tryz.underlying45 rfl (by kernel_rfl) ?_))
  refine (heldPeer_own Q s4 tg gc x26 HM2.out HMQ.out.1 (by omega) (by have := HLP.out; have := HNHTg.out; have := HTT.out.2; have := HMQ.out.2; omega)).mono ?_
  rintro e x27 ⟨rfl, hb⟩
  have HBN : Hid (Below w.heap.size w x27) := bt HB.out hb
  have HKaN : Hid (x27.heap[w.heap.size]? = Option.some (.cells (peerA p s) 33 (0, 0))) := (hb.block _ (Array.getElem?_eq_some_iff.1 HKa.out).1).trans HKa.out
  have HO0N : Hid (OwnD x3.heap.size x4.heap.size x27 Q s2) := HO0.out.below hb
  have HK0N : Hid (x27.heap[N0]? = Option.some (.cells (peerA Q s2) 45 (0, 0))) := (hb.block _ (Array.getElem?_eq_some_iff.1 HK0.out).1).trans HK0.out
  have HT0N : Hid (TreeO x27 x3.heap.size x4.heap.size v2 q2) := HT0.out.below hb
  have HK2N : Hid (x27.heap[x9.heap.size]? = Option.some (.cells (peerA Q s4) 45 (0, 0))) := (hb.block _ (Array.getElem?_eq_some_iff.1 HK2.out).1).trans HK2.out
  have HMTN : Hid (TreeO x27 ga gb vg (tmarks 1 qg)) := HMT.out.below hb
  have HM2N : Hid (MarkD tg gc x27 Q s4) := Own6.below HM2.out hb
  have HZ27 : Hid (x26.heap.size ≤ x27.heap.size) := hb.size
  clear HB HKa HO0 HK0 HT0 HK2 HMT HM2
  have HB := HBN
  clear HBN
  have HKa := HKaN
  clear HKaN
  have HO0 := HO0N
  clear HO0N
  have HK0 := HK0N
  clear HK0N
  have HT0 := HT0N
  clear HT0N
  have HK2 := HK2N
  clear HK2N
  have HMT := HMTN
  clear HMTN
  have HM2 := HM2N
  clear HM2N
  clear hb
  go_wp2
  refine wp_region_H (Below x27.heap.size x27) (by kernel_rfl) ?_
  show wpAnyH Tryz.prog _ _ _ _ (14 + 1) (Array.replicate 15 false) _ _
  refine fl_in (i := 11) (d := some 21) (obj := .cells zeroA 45 (0, 0)) (base := x27.heap.size) (T := Below x27.heap.size x27) (f := 14) ?_ (Below.refl _ _).drew
  refine fl_take (j := 0) (e' := some 141) (v := v) rfl rfl rfl rfl (by kernel_rfl) (by kernel_rfl) (by kernel_rfl) (by kernel_rfl) (by kernel_rfl) (by decide) (by kernel_rfl) (fun _ _ _ h => h) (fun _ h => h) (Or.inl ⟨by rfl, ?_⟩) ?_
  · intro x hx
    go_simp
    try with_reducible rfl
  simp only [Act.put, List.setIfInBounds_toArray, List.set_cons_zero, List.set_cons_succ]
  refine fl_take (j := 2) (e' := some 143) (v := .agg (peerA p s)) rfl rfl rfl rfl (by kernel_rfl) (by kernel_rfl) (by kernel_rfl) (by kernel_rfl) (by kernel_rfl) (by decide) (by kernel_rfl) (fun _ _ _ h => h) (fun _ h => h) (Or.inl ⟨by rfl, ?_⟩) ?_
  · exact fun x hx => exec_load_blk _ _ rfl w.heap.size rfl _ _ _ _ ((hx.block _ (Array.getElem?_eq_some_iff.1 HKa.out).1).trans HKa.out) Tryz.underlying33 rfl (by kernel_rfl)
  simp only [Act.put, List.setIfInBounds_toArray, List.set_cons_zero, List.set_cons_succ]
  refine fl_take (j := 4) (e' := some 145) (v := cv) rfl rfl rfl rfl (by kernel_rfl) (by kernel_rfl) (by kernel_rfl) (by kernel_rfl) (by kernel_rfl) (by decide) (by kernel_rfl) (fun _ _ _ h => h) (fun _ h => h) (Or.inl ⟨by rfl, ?_⟩) ?_
  · intro x hx
    go_simp
    try with_reducible rfl
  simp only [Act.put, List.setIfInBounds_toArray, List.set_cons_zero, List.set_cons_succ]
  refine fl_call (c := 1) (e' := some 142) (fn := 8) (args := #[v]) (T' := fun v' x => ∃ qa, bks qa = bks ps ∧ (OwnT x x27.heap.size v' qa ∧ Below x27.heap.size x27 x)) rfl rfl ⟨rfl, fun ρ x => ?_⟩ (fun _ h => h.size) (fun a b h hb => bt h hb) (fun _ h => h) rfl rfl (by kernel_rfl) (Or.inl (by kernel_rfl)) (by kernel_rfl) (by decide) (by kernel_rfl) (by rfl) (fun x => ?_) (fun x hx => (toBlocks_any ps v x (HT.out.below (bt HB.out hx)) HK.out).mono (fun e x' h => by obtain ⟨v', qs, he, hq, ho, hb⟩ := h; exact ⟨v', he, KpF.below hb, qs, hq, ho.base hx.size, bt hx hb⟩)) (fun _ _ h => by obtain ⟨_, _, _, h⟩ := h; exact h) ?_
  · unfold flP zeroA
    go_simp
    try with_reducible rfl
  · go_simp
    try with_reducible rfl
  intro va
  refine fl_ex (fun qa => fl_and (fun hqa => ?_))
  simp only [Act.put, List.setIfInBounds_toArray, List.set_cons_zero, List.set_cons_succ]
  have hka : okT (bks qa) := by rw [hqa]; exact HK.out
  refine fl_call (c := 3) (e' := some 144) (fn := 9) (args := #[.agg (peerA p s)]) (T' := fun v' x => ∃ sa, v' = peerV p sa ∧ (OwnT x x27.heap.size va qa ∧ OwnD x27.heap.size x.heap.size x p sa ∧ Below x27.heap.size x27 x)) rfl rfl ⟨rfl, fun ρ x => ?_⟩ (fun _ h => h.2.size) (fun a b h hb => ⟨h.1.below hb, bt h.2 hb⟩) (fun _ h => h.2) rfl rfl (by kernel_rfl) (Or.inl (by kernel_rfl)) (by kernel_rfl) (by decide) (by kernel_rfl) (by rfl) (fun x => ?_) (fun x hx => (toPeer_any p s x (HR.out.below (bt HB.out hx.2)) HS.out).mono (fun e x' h => by obtain ⟨sa, he, ho, hb⟩ := h; exact ⟨_, he, KpF.below hb, sa, rfl, hx.1.below hb, ho.toD.low hx.2.size, bt hx.2 hb⟩)) (fun _ _ h => by obtain ⟨_, _, _, _, h⟩ := h; exact h) ?_
  · unfold flP zeroA
    go_simp
    try with_reducible rfl
  · go_simp
    try with_reducible rfl
  intro vb
  refine fl_ex (fun sa => fl_and (fun hvb => ?_))
  subst hvb
  simp only [Act.put, List.setIfInBounds_toArray, List.set_cons_zero, List.set_cons_succ]
  refine fl_call (c := 5) (e' := some 146) (fn := 22) (args := #[cv]) (T' := fun v' x => OwnT x x27.heap.size va qa ∧ OwnD x27.heap.size x.heap.size x p sa ∧ x.ownsRow x27.heap.size 116 3 v' cmds.length (flatR cmdF cmds) ∧ Below x27.heap.size x27 x) rfl rfl ⟨rfl, fun ρ x => ?_⟩ (fun _ h => h.2.2.size) (fun a b h hb => ⟨h.1.below hb, (h.2.1.below hb).wide hb.size (Nat.le_refl _), bt h.2.2 hb⟩) (fun _ h => h.2.2) rfl rfl (by kernel_rfl) (Or.inl (by kernel_rfl)) (by kernel_rfl) (by decide) (by kernel_rfl) (by rfl) (fun x => ?_) (fun x hx => (toCmds_any cmds cv x (HCR.out.below (bt HB.out hx.2.2)) HCB.out.1).mono (fun e x' h => by obtain ⟨v', he, ho, hb⟩ := h; exact ⟨v', he, KpF.below hb, hx.1.below hb, (hx.2.1.below hb).wide hb.size (Nat.le_refl _), own_base ho hx.2.2.size, bt hx.2.2 hb⟩)) (fun _ _ h => h.2.2.2) ?_
  · unfold flP zeroA
    go_simp
    try with_reducible rfl
  · go_simp
    try with_reducible rfl
  intro vd
  simp only [Act.put, List.setIfInBounds_toArray, List.set_cons_zero, List.set_cons_succ]
  refine fl_call (c := 6) (e' := some 147) (fn := 23) (args := #[va, peerV p sa, vd]) (T' := fun v' x => ∃ vt, ∃ sb, ∃ qs, (v' = .tuple #[vt, peerV Q sb, .int .i64 KK] ∧ (peerA Q sb).all (·.oneCell') = true ∧ bks qs = TT) ∧ (OwnT x x27.heap.size vt qs ∧ OwnD x27.heap.size x.heap.size x Q sb ∧ Below x27.heap.size x27 x)) rfl rfl ⟨rfl, fun ρ x => ?_⟩ (fun _ h => h.2.2.2.size) (fun a b h hb => ⟨h.1.below hb, (h.2.1.below hb).wide hb.size (Nat.le_refl _), own_kept h.2.2.1 hb, bt h.2.2.2 hb⟩) (fun _ h => h.2.2.2) rfl rfl (by kernel_rfl) (Or.inl (by kernel_rfl)) (by kernel_rfl) (by decide) (by kernel_rfl) (by rfl) (fun x => ?_) (fun x hx => by have hsp := HI qa va _ p sa _ _ cmds vd _ x hx.1 hka hx.2.1 HS.out HG.out hx.2.2.1 HCB.out HCG.out; rw [hqa, HQ.out.1, HQ.out.2.1, HQ.out.2.2] at hsp; exact hsp.mono (fun e x' h => by obtain ⟨vt, sb, he, ⟨qs, ga_, gb_, gc_, gd_, hqs, hot, hli, ho2, hlo, hlo2, -, -⟩, hb⟩ := h; exact ⟨_, he, KpF.below hb, vt, sb, qs, ⟨rfl, peerA_one ho2.1, hqs⟩, hot.base (Nat.le_trans hx.2.2.2.size hlo), (ho2.low (Nat.le_trans hx.2.2.2.size hlo2)).wide ho2.2.2 (Nat.le_refl _), bt hx.2.2.2 hb⟩)) (fun _ _ h => by obtain ⟨_, _, _, _, h⟩ := h; exact h.2.2) ?_
  · unfold flP zeroA
    go_simp
    try with_reducible rfl
  · go_simp
    try with_reducible rfl
  intro vc
  refine fl_ex (fun v7 => fl_ex (fun s7 => fl_ex (fun q7 => fl_and (fun hvc => ?_))))
  obtain ⟨rfl, hone, hqs⟩ := hvc
  simp only [Act.put, List.setIfInBounds_toArray, List.set_cons_zero, List.set_cons_succ]
  refine fl_take (j := 7) (e' := some 140) (v := .tuple #[v7, peerV Q s7, .int .i64 KK]) rfl rfl rfl rfl (by kernel_rfl) (by kernel_rfl) (by kernel_rfl) (by kernel_rfl) (by kernel_rfl) (by decide) (by kernel_rfl) (fun _ _ _ h => h) (fun _ h => h.2.2) (Or.inl ⟨by rfl, ?_⟩) ?_
  · intro x hx
    go_simp
    try with_reducible rfl
  simp only [Act.put, List.setIfInBounds_toArray, List.set_cons_zero, List.set_cons_succ]
  refine fl_take (j := 8) (e' := some 148) (v := v7) rfl rfl rfl rfl (by kernel_rfl) (by kernel_rfl) (by kernel_rfl) (by kernel_rfl) (by kernel_rfl) (by decide) (by kernel_rfl) (fun _ _ _ h => h) (fun _ h => h.2.2) (Or.inl ⟨by rfl, ?_⟩) ?_
  · intro x hx
    go_simp
    try with_reducible rfl
  simp only [Act.put, List.setIfInBounds_toArray, List.set_cons_zero, List.set_cons_succ]
  refine fl_take (j := 9) (e' := some 149) (v := peerV Q s7) rfl rfl rfl rfl (by kernel_rfl) (by kernel_rfl) (by kernel_rfl) (by kernel_rfl) (by kernel_rfl) (by decide) (by kernel_rfl) (fun _ _ _ h => h) (fun _ h => h.2.2) (Or.inl ⟨by rfl, ?_⟩) ?_
  · intro x hx
    go_simp
    try with_reducible rfl
  simp only [Act.put, List.setIfInBounds_toArray, List.set_cons_zero, List.set_cons_succ]
  refine fl_take (j := 10) (e' := some 150) (v := .int .i64 KK) rfl rfl rfl rfl (by kernel_rfl) (by kernel_rfl) (by kernel_rfl) (by kernel_rfl) (by kernel_rfl) (by decide) (by kernel_rfl) (fun _ _ _ h => h) (fun _ h => h.2.2) (Or.inl ⟨by rfl, ?_⟩) ?_
  · intro x hx
    go_simp
    try with_reducible rfl
  simp only [Act.put, List.setIfInBounds_toArray, List.set_cons_zero, List.set_cons_succ]
  refine fl_out (f := 3) rfl rfl ⟨rfl, fun ρ x => ?_⟩ (fun _ h => h.2.2.size) (fun a b h hb => ⟨h.1.below hb, (h.2.1.below hb).wide hb.size (Nat.le_refl _), bt h.2.2 hb⟩) (fun _ h => h.2.2) (by kernel_rfl) ?_
  · unfold flP zeroA
    go_simp
    try with_reducible rfl
  intro N3 y hT hN hold
  simp only [Act.put, List.setIfInBounds_toArray, List.set_cons_zero, List.set_cons_succ]
  refine h_take (j := 12) (e' := some 20) (v := v7) rfl rfl (by kernel_rfl) (by kernel_rfl) (by kernel_rfl) (fun _ _ _ h => h) (Or.inl ⟨by rfl, ?_⟩) hT.2.2 ?_
  · intro x hx
    go_simp
    try with_reducible rfl
  simp only [Act.put, List.setIfInBounds_toArray, List.set_cons_zero, List.set_cons_succ]
  refine h_store (s := 13) (N := N3) (cells := peerA Q s7) rfl rfl rfl rfl (by kernel_rfl) rfl rfl hold (by kernel_rfl) rfl hone ?_
  intro x28 hgr hnew
  have hlt : N3 < x28.heap.size := (Array.getElem?_eq_some_iff.1 hnew).1
  have hb : Below x27.heap.size x27 x28 := hT.2.2.grown hgr hT.2.2.size (fun k hk => by cases hk; exact hN)
  refine ⟨hb, ?_⟩
  refine h_take (j := 14) (e' := some 22) (v := .int .i64 KK) rfl rfl (by kernel_rfl) (by kernel_rfl) (by kernel_rfl) (fun _ _ _ h => h) (Or.inl ⟨by rfl, ?_⟩) hb ?_
  · intro x hx
    go_simp
    try with_reducible rfl
  simp only [Act.put, List.setIfInBounds_toArray, List.set_cons_zero, List.set_cons_succ]
  refine wpAnyH_done (by kernel_rfl) ?_ _
  have HT4A : Hid (TreeO x28 x27.heap.size x28.heap.size v7 q7) := tree_o (tree_boxed hT.1 hold hgr)
  have HO4A : Hid (OwnD x27.heap.size x28.heap.size x28 Q s7) := (hT.2.1.boxed hold hgr).wide hgr.size (Nat.le_refl _)
  have HK3A : Hid (x28.heap[N3]? = Option.some (.cells (peerA Q s7) 45 (0, 0))) := hnew
  have HNN3 : Hid (x27.heap.size ≤ N3 ∧ N3 < x28.heap.size) := ⟨hN, hlt⟩
  have HQq7 : Hid (bks q7 = TT) := hqs
  have HBN : Hid (Below w.heap.size w x28) := bt HB.out hb
  have HKaN : Hid (x28.heap[w.heap.size]? = Option.some (.cells (peerA p s) 33 (0, 0))) := (hb.block _ (Array.getElem?_eq_some_iff.1 HKa.out).1).trans HKa.out
  have HO0N : Hid (OwnD x3.heap.size x4.heap.size x28 Q s2) := HO0.out.below hb
  have HK0N : Hid (x28.heap[N0]? = Option.some (.cells (peerA Q s2) 45 (0, 0))) := (hb.block _ (Array.getElem?_eq_some_iff.1 HK0.out).1).trans HK0.out
  have HT0N : Hid (TreeO x28 x3.heap.size x4.heap.size v2 q2) := HT0.out.below hb
  have HK2N : Hid (x28.heap[x9.heap.size]? = Option.some (.cells (peerA Q s4) 45 (0, 0))) := (hb.block _ (Array.getElem?_eq_some_iff.1 HK2.out).1).trans HK2.out
  have HMTN : Hid (TreeO x28 ga gb vg (tmarks 1 qg)) := HMT.out.below hb
  have HM2N : Hid (MarkD tg gc x28 Q s4) := Own6.below HM2.out hb
  have HZ28 : Hid (x27.heap.size ≤ x28.heap.size) := hb.size
  clear HB HKa HO0 HK0 HT0 HK2 HMT HM2
  have HB := HBN
  clear HBN
  have HKa := HKaN
  clear HKaN
  have HO0 := HO0N
  clear HO0N
  have HK0 := HK0N
  clear HK0N
  have HT0 := HT0N
  clear HT0N
  have HK2 := HK2N
  clear HK2N
  have HMT := HMTN
  clear HMTN
  have HM2 := HM2N
  clear HM2N
  have HO4 := HO4A
  clear HO4A
  have HK3 := HK3A
  clear HK3A
  have HT4 := HT4A
  clear HT4A
  clear hT hN hold hgr hnew hlt hb hone hqa hka hqs
  unfold flP
  go_wp2_with (first | (refine wpList_load_row rfl _ _ rfl w.heap.size rfl 33 _ (0, 0) _ HKa.out Tryz.underlying33 rfl (by kernel_rfl) ?_) | (refine wpList_load_row rfl _ _ rfl N0 rfl 45 _ (0, 0) _ HK0.out Tryz.underlying45 rfl (by kernel_rfl) ?_) | (refine wpList_load_row rfl _ _ rfl x9.heap.size rfl 45 _ (0, 0) _ HK2.out Tryz.underlying45 rfl (by kernel_rfl) ?_) | (refine wpList_load_row rfl _ _ rfl N3 rfl 45 _ (0, 0) _ HK3.out Tryz.underlying45 rfl (by kernel_rfl) ?_) | (refine wpList_load_row_w (by first | rfl | simp [Region.wanted, yielded] | simp [Region.wanted, yielded, hk0]) _ _ rfl w.heap.size rfl 33 _ (0, 0) _ HKa.out Tryz.underlying33 rfl (by kernel_rfl) ?_) | (refine wpList_load_row_w (by first | rfl | simp [Region.wanted, yielded] | simp [Region.wanted, yielded, hk0]) _ _ rfl N0 rfl 45 _ (0, 0) _ HK0.out Tryz.underlying45 rfl (by kernel_rfl) ?_) | (refine wpList_load_row_w (by first | rfl | simp [Region.wanted, yielded] | simp [Region.wanted, yielded, hk0]) _ _ rfl x9.heap.size rfl 45 _ (0, 0) _ HK2.out Tryz.underlying45 rfl (by kernel_rfl) ?_) | (refine wpList_load_row_w (by first | rfl | simp [Region.wanted, yielded] | simp [Region.wanted, yielded, hk0]) _ _ rfl N3 rfl 45 _ (0, 0) _ HK3.out Tryz.underlying45 rfl (by kernel_rfl) ?_))
  refine (eqBlocks_yes q7 q2 v7 v2 x28 HT4.out.own.read.q HT0.out.own.read.q (by rw [HQq7.out, HQq2.out]) (by rw [HQq7.out]; exact HTT.out.1)).mono ?_
  rintro e x29 ⟨rfl, hb⟩
  have HBN : Hid (Below w.heap.size w x29) := bt HB.out hb
  have HKaN : Hid (x29.heap[w.heap.size]? = Option.some (.cells (peerA p s) 33 (0, 0))) := (hb.block _ (Array.getElem?_eq_some_iff.1 HKa.out).1).trans HKa.out
  have HO0N : Hid (OwnD x3.heap.size x4.heap.size x29 Q s2) := HO0.out.below hb
  have HK0N : Hid (x29.heap[N0]? = Option.some (.cells (peerA Q s2) 45 (0, 0))) := (hb.block _ (Array.getElem?_eq_some_iff.1 HK0.out).1).trans HK0.out
  have HT0N : Hid (TreeO x29 x3.heap.size x4.heap.size v2 q2) := HT0.out.below hb
  have HK2N : Hid (x29.heap[x9.heap.size]? = Option.some (.cells (peerA Q s4) 45 (0, 0))) := (hb.block _ (Array.getElem?_eq_some_iff.1 HK2.out).1).trans HK2.out
  have HMTN : Hid (TreeO x29 ga gb vg (tmarks 1 qg)) := HMT.out.below hb
  have HM2N : Hid (MarkD tg gc x29 Q s4) := Own6.below HM2.out hb
  have HO4N : Hid (OwnD x27.heap.size x28.heap.size x29 Q s7) := HO4.out.below hb
  have HK3N : Hid (x29.heap[N3]? = Option.some (.cells (peerA Q s7) 45 (0, 0))) := (hb.block _ (Array.getElem?_eq_some_iff.1 HK3.out).1).trans HK3.out
  have HT4N : Hid (TreeO x29 x27.heap.size x28.heap.size v7 q7) := HT4.out.below hb
  have HZ29 : Hid (x28.heap.size ≤ x29.heap.size) := hb.size
  clear HB HKa HO0 HK0 HT0 HK2 HMT HM2 HO4 HK3 HT4
  have HB := HBN
  clear HBN
  have HKa := HKaN
  clear HKaN
  have HO0 := HO0N
  clear HO0N
  have HK0 := HK0N
  clear HK0N
  have HT0 := HT0N
  clear HT0N
  have HK2 := HK2N
  clear HK2N
  have HMT := HMTN
  clear HMTN
  have HM2 := HM2N
  clear HM2N
  have HO4 := HO4N
  clear HO4N
  have HK3 := HK3N
  clear HK3N
  have HT4 := HT4N
  clear HT4N
  clear hb
  go_wp2_with (first | (refine wpList_load_row rfl _ _ rfl w.heap.size rfl 33 _ (0, 0) _ HKa.out Tryz.underlying33 rfl (by kernel_rfl) ?_) | (refine wpList_load_row rfl _ _ rfl N0 rfl 45 _ (0, 0) _ HK0.out Tryz.underlying45 rfl (by kernel_rfl) ?_) | (refine wpList_load_row rfl _ _ rfl x9.heap.size rfl 45 _ (0, 0) _ HK2.out Tryz.underlying45 rfl (by kernel_rfl) ?_) | (refine wpList_load_row rfl _ _ rfl N3 rfl 45 _ (0, 0) _ HK3.out Tryz.underlying45 rfl (by kernel_rfl) ?_) | (refine wpList_load_row_w (by first | rfl | simp [Region.wanted, yielded] | simp [Region.wanted, yielded, hk0]) _ _ rfl w.heap.size rfl 33 _ (0, 0) _ HKa.out Tryz.underlying33 rfl (by kernel_rfl) ?_) | (refine wpList_load_row_w (by first | rfl | simp [Region.wanted, yielded] | simp [Region.wanted, yielded, hk0]) _ _ rfl N0 rfl 45 _ (0, 0) _ HK0.out Tryz.underlying45 rfl (by kernel_rfl) ?_) | (refine wpList_load_row_w (by first | rfl | simp [Region.wanted, yielded] | simp [Region.wanted, yielded, hk0]) _ _ rfl x9.heap.size rfl 45 _ (0, 0) _ HK2.out Tryz.underlying45 rfl (by kernel_rfl) ?_) | (refine wpList_load_row_w (by first | rfl | simp [Region.wanted, yielded] | simp [Region.wanted, yielded, hk0]) _ _ rfl N3 rfl 45 _ (0, 0) _ HK3.out Tryz.underlying45 rfl (by kernel_rfl) ?_))
  refine (eqPeer_yes Q s7 s2 x29 HO4.out.reads HO0.out.reads HSQ.out).mono ?_
  rintro e x30 ⟨rfl, hb⟩
  have HBN : Hid (Below w.heap.size w x30) := bt HB.out hb
  have HKaN : Hid (x30.heap[w.heap.size]? = Option.some (.cells (peerA p s) 33 (0, 0))) := (hb.block _ (Array.getElem?_eq_some_iff.1 HKa.out).1).trans HKa.out
  have HO0N : Hid (OwnD x3.heap.size x4.heap.size x30 Q s2) := HO0.out.below hb
  have HK0N : Hid (x30.heap[N0]? = Option.some (.cells (peerA Q s2) 45 (0, 0))) := (hb.block _ (Array.getElem?_eq_some_iff.1 HK0.out).1).trans HK0.out
  have HT0N : Hid (TreeO x30 x3.heap.size x4.heap.size v2 q2) := HT0.out.below hb
  have HK2N : Hid (x30.heap[x9.heap.size]? = Option.some (.cells (peerA Q s4) 45 (0, 0))) := (hb.block _ (Array.getElem?_eq_some_iff.1 HK2.out).1).trans HK2.out
  have HMTN : Hid (TreeO x30 ga gb vg (tmarks 1 qg)) := HMT.out.below hb
  have HM2N : Hid (MarkD tg gc x30 Q s4) := Own6.below HM2.out hb
  have HO4N : Hid (OwnD x27.heap.size x28.heap.size x30 Q s7) := HO4.out.below hb
  have HK3N : Hid (x30.heap[N3]? = Option.some (.cells (peerA Q s7) 45 (0, 0))) := (hb.block _ (Array.getElem?_eq_some_iff.1 HK3.out).1).trans HK3.out
  have HT4N : Hid (TreeO x30 x27.heap.size x28.heap.size v7 q7) := HT4.out.below hb
  have HZ30 : Hid (x29.heap.size ≤ x30.heap.size) := hb.size
  clear HB HKa HO0 HK0 HT0 HK2 HMT HM2 HO4 HK3 HT4
  have HB := HBN
  clear HBN
  have HKa := HKaN
  clear HKaN
  have HO0 := HO0N
  clear HO0N
  have HK0 := HK0N
  clear HK0N
  have HT0 := HT0N
  clear HT0N
  have HK2 := HK2N
  clear HK2N
  have HMT := HMTN
  clear HMTN
  have HM2 := HM2N
  clear HM2N
  have HO4 := HO4N
  clear HO4N
  have HK3 := HK3N
  clear HK3N
  have HT4 := HT4N
  clear HT4N
  clear hb
  go_wp2_with (first | (refine wpList_load_row rfl _ _ rfl w.heap.size rfl 33 _ (0, 0) _ HKa.out Tryz.underlying33 rfl (by kernel_rfl) ?_) | (refine wpList_load_row rfl _ _ rfl N0 rfl 45 _ (0, 0) _ HK0.out Tryz.underlying45 rfl (by kernel_rfl) ?_) | (refine wpList_load_row rfl _ _ rfl x9.heap.size rfl 45 _ (0, 0) _ HK2.out Tryz.underlying45 rfl (by kernel_rfl) ?_) | (refine wpList_load_row rfl _ _ rfl N3 rfl 45 _ (0, 0) _ HK3.out Tryz.underlying45 rfl (by kernel_rfl) ?_) | (refine wpList_load_row_w (by first | rfl | simp [Region.wanted, yielded] | simp [Region.wanted, yielded, hk0]) _ _ rfl w.heap.size rfl 33 _ (0, 0) _ HKa.out Tryz.underlying33 rfl (by kernel_rfl) ?_) | (refine wpList_load_row_w (by first | rfl | simp [Region.wanted, yielded] | simp [Region.wanted, yielded, hk0]) _ _ rfl N0 rfl 45 _ (0, 0) _ HK0.out Tryz.underlying45 rfl (by kernel_rfl) ?_) | (refine wpList_load_row_w (by first | rfl | simp [Region.wanted, yielded] | simp [Region.wanted, yielded, hk0]) _ _ rfl x9.heap.size rfl 45 _ (0, 0) _ HK2.out Tryz.underlying45 rfl (by kernel_rfl) ?_) | (refine wpList_load_row_w (by first | rfl | simp [Region.wanted, yielded] | simp [Region.wanted, yielded, hk0]) _ _ rfl N3 rfl 45 _ (0, 0) _ HK3.out Tryz.underlying45 rfl (by kernel_rfl) ?_))
  refine (heldBlocks_any qg 1 vg x30 HMT.out.own.read.q (by decide) (by rw [HEtg.out]; have := HNHTg.out; have := HLP.out; have := HTT.out.2; omega) (okT_len HTT.out.1 HQg.out) (okT_cmds HTT.out.1 HQg.out)).mono ?_
  rintro e x31 ⟨rfl, hb⟩
  have HBN : Hid (Below w.heap.size w x31) := bt HB.out hb
  have HKaN : Hid (x31.heap[w.heap.size]? = Option.some (.cells (peerA p s) 33 (0, 0))) := (hb.block _ (Array.getElem?_eq_some_iff.1 HKa.out).1).trans HKa.out
  have HO0N : Hid (OwnD x3.heap.size x4.heap.size x31 Q s2) := HO0.out.below hb
  have HK0N : Hid (x31.heap[N0]? = Option.some (.cells (peerA Q s2) 45 (0, 0))) := (hb.block _ (Array.getElem?_eq_some_iff.1 HK0.out).1).trans HK0.out
  have HT0N : Hid (TreeO x31 x3.heap.size x4.heap.size v2 q2) := HT0.out.below hb
  have HK2N : Hid (x31.heap[x9.heap.size]? = Option.some (.cells (peerA Q s4) 45 (0, 0))) := (hb.block _ (Array.getElem?_eq_some_iff.1 HK2.out).1).trans HK2.out
  have HMTN : Hid (TreeO x31 ga gb vg (tmarks 1 qg)) := HMT.out.below hb
  have HM2N : Hid (MarkD tg gc x31 Q s4) := Own6.below HM2.out hb
  have HO4N : Hid (OwnD x27.heap.size x28.heap.size x31 Q s7) := HO4.out.below hb
  have HK3N : Hid (x31.heap[N3]? = Option.some (.cells (peerA Q s7) 45 (0, 0))) := (hb.block _ (Array.getElem?_eq_some_iff.1 HK3.out).1).trans HK3.out
  have HT4N : Hid (TreeO x31 x27.heap.size x28.heap.size v7 q7) := HT4.out.below hb
  have HZ31 : Hid (x30.heap.size ≤ x31.heap.size) := hb.size
  clear HB HKa HO0 HK0 HT0 HK2 HMT HM2 HO4 HK3 HT4
  have HB := HBN
  clear HBN
  have HKa := HKaN
  clear HKaN
  have HO0 := HO0N
  clear HO0N
  have HK0 := HK0N
  clear HK0N
  have HT0 := HT0N
  clear HT0N
  have HK2 := HK2N
  clear HK2N
  have HMT := HMTN
  clear HMTN
  have HM2 := HM2N
  clear HM2N
  have HO4 := HO4N
  clear HO4N
  have HK3 := HK3N
  clear HK3N
  have HT4 := HT4N
  clear HT4N
  clear hb
  rw [HEtg.out]
  go_wp2_with (first | (refine wpList_load_row rfl _ _ rfl w.heap.size rfl 33 _ (0, 0) _ HKa.out Tryz.underlying33 rfl (by kernel_rfl) ?_) | (refine wpList_load_row rfl _ _ rfl N0 rfl 45 _ (0, 0) _ HK0.out Tryz.underlying45 rfl (by kernel_rfl) ?_) | (refine wpList_load_row rfl _ _ rfl x9.heap.size rfl 45 _ (0, 0) _ HK2.out Tryz.underlying45 rfl (by kernel_rfl) ?_) | (refine wpList_load_row rfl _ _ rfl N3 rfl 45 _ (0, 0) _ HK3.out Tryz.underlying45 rfl (by kernel_rfl) ?_) | (refine wpList_load_row_w (by first | rfl | simp [Region.wanted, yielded] | simp [Region.wanted, yielded, hk0]) _ _ rfl w.heap.size rfl 33 _ (0, 0) _ HKa.out Tryz.underlying33 rfl (by kernel_rfl) ?_) | (refine wpList_load_row_w (by first | rfl | simp [Region.wanted, yielded] | simp [Region.wanted, yielded, hk0]) _ _ rfl N0 rfl 45 _ (0, 0) _ HK0.out Tryz.underlying45 rfl (by kernel_rfl) ?_) | (refine wpList_load_row_w (by first | rfl | simp [Region.wanted, yielded] | simp [Region.wanted, yielded, hk0]) _ _ rfl x9.heap.size rfl 45 _ (0, 0) _ HK2.out Tryz.underlying45 rfl (by kernel_rfl) ?_) | (refine wpList_load_row_w (by first | rfl | simp [Region.wanted, yielded] | simp [Region.wanted, yielded, hk0]) _ _ rfl N3 rfl 45 _ (0, 0) _ HK3.out Tryz.underlying45 rfl (by kernel_rfl) ?_))
  refine (heldPeer_own Q s4 tg gc x31 HM2.out HMQ.out.1 (by omega) (by have := HLP.out; have := HNHTg.out; have := HTT.out.2; have := HMQ.out.2; omega)).mono ?_
  rintro e x32 ⟨rfl, hb⟩
  have HBN : Hid (Below w.heap.size w x32) := bt HB.out hb
  have HKaN : Hid (x32.heap[w.heap.size]? = Option.some (.cells (peerA p s) 33 (0, 0))) := (hb.block _ (Array.getElem?_eq_some_iff.1 HKa.out).1).trans HKa.out
  have HO0N : Hid (OwnD x3.heap.size x4.heap.size x32 Q s2) := HO0.out.below hb
  have HK0N : Hid (x32.heap[N0]? = Option.some (.cells (peerA Q s2) 45 (0, 0))) := (hb.block _ (Array.getElem?_eq_some_iff.1 HK0.out).1).trans HK0.out
  have HT0N : Hid (TreeO x32 x3.heap.size x4.heap.size v2 q2) := HT0.out.below hb
  have HK2N : Hid (x32.heap[x9.heap.size]? = Option.some (.cells (peerA Q s4) 45 (0, 0))) := (hb.block _ (Array.getElem?_eq_some_iff.1 HK2.out).1).trans HK2.out
  have HMTN : Hid (TreeO x32 ga gb vg (tmarks 1 qg)) := HMT.out.below hb
  have HM2N : Hid (MarkD tg gc x32 Q s4) := Own6.below HM2.out hb
  have HO4N : Hid (OwnD x27.heap.size x28.heap.size x32 Q s7) := HO4.out.below hb
  have HK3N : Hid (x32.heap[N3]? = Option.some (.cells (peerA Q s7) 45 (0, 0))) := (hb.block _ (Array.getElem?_eq_some_iff.1 HK3.out).1).trans HK3.out
  have HT4N : Hid (TreeO x32 x27.heap.size x28.heap.size v7 q7) := HT4.out.below hb
  have HZ32 : Hid (x31.heap.size ≤ x32.heap.size) := hb.size
  clear HB HKa HO0 HK0 HT0 HK2 HMT HM2 HO4 HK3 HT4
  have HB := HBN
  clear HBN
  have HKa := HKaN
  clear HKaN
  have HO0 := HO0N
  clear HO0N
  have HK0 := HK0N
  clear HK0N
  have HT0 := HT0N
  clear HT0N
  have HK2 := HK2N
  clear HK2N
  have HMT := HMTN
  clear HMTN
  have HM2 := HM2N
  clear HM2N
  have HO4 := HO4N
  clear HO4N
  have HK3 := HK3N
  clear HK3N
  have HT4 := HT4N
  clear HT4N
  clear hb
  go_wp2
  go_ret
  exact ⟨rfl, HB.out⟩

end Go.Proofs.YtjdddcldbfhbiasGreat.WFnExactShows
