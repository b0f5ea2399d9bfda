/-
  A block shown: the contract of the program's Shows. (Made by gsi13.py.)
-/
import Derived.Test.YtjdddcldbfhbiasGreatShowsS
import Derived.Test.YtjdddcldbfhbiasGreatBestI
import Derived.Test.YtjdddcldbfhbiasGreatPutBI2
import Derived.Test.YtjdddcldbfhbiasGreatPeerCI
namespace Go.Proofs.YtjdddcldbfhbiasGreat
open Go.RowKit Num

/-- what is there when the block is put: the tree, the replica's copy in the box of the one that came in, what is the highest, the answer's box -/
structure ShwI (w y : World) (M mid : Nat) (O : Array Value) (q : PE) (s : PV) (v : Value) (qs : TL) : Prop where
  below : Below w.heap.size w y
  box : y.heap[w.heap.size]? = some (.cells (peerA q s) 45 (0, 0))
  zero : y.heap[w.heap.size + 1]? = some (.cells zeroA 45 (0, 0))
  qc : y.heap[M]? = some (.cells O 38 (0, 0))
  own : OwnD mid y.heap.size y q s
  tree : OwnT y w.heap.size v qs
theorem ShwI.put {w y x : World} {M mid : Nat} {O : Array Value} {q q' : PE} {s : PV} {v : Value} {qs : TL} (h : ShwI w y M mid O q s v qs) (hg : y.grownBy x (some w.heap.size)) (hk : x.heap[w.heap.size]? = some (.cells (peerA q' s) 45 (0, 0))) (e0 : q'.row = q.row) (e1 : q'.cells = q.cells) (e2 : q'.early = q.early) (e3 : q'.undos = q.undos) (e4 : q'.votes = q.votes) (e5 : q'.news = q.news) : ShwI w x M mid O q' s v qs := by
  have hM : M ≠ w.heap.size := fun e => by
    have h1 := h.qc
    rw [e, h.box] at h1
    injection h1 with h1
    injection h1 with _ h2
    exact absurd h2 (by decide)
  exact ⟨h.below.grown hg h.below.size (fun k hk => by cases hk; omega), hk, (hg.block _ (Array.getElem?_eq_some_iff.1 h.zero).1 (fun e => by have := Option.some.inj e; omega)).trans h.zero, (hg.block _ (Array.getElem?_eq_some_iff.1 h.qc).1 (fun e => hM (Option.some.inj e))).trans h.qc, ((h.own.boxed h.box hg).wide hg.size (Nat.le_refl _)).other e0 e1 e2 e3 e4 e5, h.tree.boxed h.box hg⟩
theorem blockAt_low (t : List BK) (b : BK) : ¬ putAt t b < 0 ∨ putAt t b = -1 := by
  unfold putAt
  split
  · exact Or.inl (by omega)
  · split
    · exact Or.inr rfl
    · exact Or.inl (by omega)

theorem ShwI.drew {w y : World} {M mid : Nat} {O : Array Value} {q : PE} {s : PV} {v : Value} {qs : TL} (h : ShwI w y M mid O q s v qs) : ShwI w y.drew M mid O q s v qs := by
  have hd : Below y.heap.size y y.drew := (Below.refl _ _).drew
  exact ⟨bt h.below hd, h.box, h.zero, h.qc, h.own.below hd, h.tree.below hd⟩

set_option maxRecDepth 100000 in
set_option maxHeartbeats 8000000 in
theorem showsR_i (ps : TL) (v : Value) (p : PE) (s : PV) (cmds : List CM) (cv : Value) (w : World) (hT : TreeR w v ps) (hk : okT (bks ps)) (hR : PeerR w p s) (hs : smallPe p) (hC : RowsR w cv 3 cmdF cmds) (hcb : (cmds.length : Int) ≤ 1048576 ∧ ∀ c ∈ cmds, (c.2.1.size : Int) ≤ 1048576) :
    Calls Tryz.prog 23 #[v, peerV p s, cv] w fun e w' => ∃ v' s', e = .returned (.tuple #[v', peerV (showsP (bks ps) p cmds) s', .int .i64 (showsK (bks ps) p cmds)]) ∧ (∃ qs mid, bks qs = putT (bks ps) (showB p cmds) ∧ OwnT w' w.heap.size v' qs ∧ LimT mid v' qs ∧ OwnD mid w'.heap.size w' (showsP (bks ps) p cmds) s' ∧ w.heap.size ≤ mid ∧ mid ≤ w'.heap.size) ∧ Below w.heap.size w w' := by
  have HT := hid hT
  have HK := hid hk
  have HR := hid hR
  have HS := hid hs
  have HCC := hid hC
  have HCB := hid hcb
  obtain ⟨av, bv, rfl, -⟩ := hT.q.1
  obtain ⟨ac, bc, rfl, -⟩ := hC
  clear hT hk hR hs hcb
  obtain ⟨W, hW⟩ : ∃ W, W = (w.alloc (.cells (peerA p s) 45)).alloc (.cells zeroA 45) := ⟨_, rfl⟩
  have HC0 : Hid (Below w.heap.size w W ∧ W.heap[w.heap.size]? = some (.cells (peerA p s) 45 (0, 0)) ∧ W.heap[w.heap.size + 1]? = some (.cells zeroA 45 (0, 0)) ∧ w.heap.size + 1 < W.heap.size) := by
    rw [hW]; exact ⟨ba (ba (Below.refl _ _) _) _, (alloc2 w _ _).1, (alloc2 w _ _).2, by simp⟩
  unfold zeroA at hW
  obtain ⟨q, hq⟩ : ∃ q, q = bestT p := ⟨_, rfl⟩
  obtain ⟨b, hb0⟩ : ∃ b : BK, b = ((q.2.2.1, p.view), cmds, q) := ⟨_, rfl⟩
  have HB0 : Hid (showB p cmds = b) := (by rw [hb0, hq]; rfl : showB p cmds = b)
  have HBV : Hid (∀ cw, blkV b cw = .agg #[.int .i64 q.2.2.1, .int .i64 p.view, cw, .int .i64 q.1, .int .i64 q.2.1, .int .i64 q.2.2.1, .int .i64 q.2.2.2]) := fun cw => by rw [hb0]; rfl
  have HBC : Hid (b.2.1 = cmds) := (by rw [hb0] : b.2.1 = cmds)
  have HQ : Hid (bestT p = q) := hq.symm
  clear hq hb0
  go_enter Tryz.func23, Tryz.ntmps23
  go_wp2_with (rw [← hW]; clear hW; refine wpList_load_row rfl _ _ rfl w.heap.size rfl 45 _ (0, 0) _ HC0.out.2.1 Tryz.underlying45 rfl (by kernel_rfl) ?_)
  refine (bestQcR_i p s W (HR.out.below HC0.out.1) HS.out.news).mono ?_
  rw [HQ.out]
  rintro e x1 ⟨rfl, hb⟩
  have HX1 : Hid (Below w.heap.size w x1 ∧ x1.heap[w.heap.size]? = some (.cells (peerA p s) 45 (0, 0)) ∧ x1.heap[w.heap.size + 1]? = some (.cells zeroA 45 (0, 0)) ∧ w.heap.size + 1 < x1.heap.size) := ⟨bt HC0.out.1 hb, (hb.block _ (Array.getElem?_eq_some_iff.1 HC0.out.2.1).1).trans HC0.out.2.1, (hb.block _ (Array.getElem?_eq_some_iff.1 HC0.out.2.2.1).1).trans HC0.out.2.2.1, Nat.lt_of_lt_of_le HC0.out.2.2.2 hb.size⟩
  clear hb HC0
  go_wp2_with (first
    | (refine wpList_store_blk rfl _ _ _ rfl x1.heap.size #[.int .i64 q.1, .int .i64 q.2.1, .int .i64 q.2.2.1, .int .i64 q.2.2.2] rfl rfl 38 #[.int .i64 0, .int .i64 0, .int .i64 0, .int .i64 0] (heap_alloc_new x1 _) (by kernel_rfl) rfl (by simp [Value.oneCell']) ?_; intro y1 hg hk hz; have hb1 : Below x1.heap.size x1 y1 := made_below hg; have HY1 : Hid (Below w.heap.size w y1 ∧ y1.heap[w.heap.size]? = Option.some (.cells (peerA p s) 45 (0, 0)) ∧ y1.heap[w.heap.size + 1]? = Option.some (.cells zeroA 45 (0, 0)) ∧ y1.heap[x1.heap.size]? = Option.some (.cells #[.int .i64 q.1, .int .i64 q.2.1, .int .i64 q.2.2.1, .int .i64 q.2.2.2] 38 (0, 0))) := ⟨bt HX1.out.1 hb1, (hb1.block _ (Array.getElem?_eq_some_iff.1 HX1.out.2.1).1).trans HX1.out.2.1, (hb1.block _ (Array.getElem?_eq_some_iff.1 HX1.out.2.2.1).1).trans HX1.out.2.2.1, hk⟩; have HF1 : Hid (w.heap.size + 1 < x1.heap.size) := HX1.out.2.2.2; clear hg hk hz hb1 HX1; have c2 := blk_cell HY1.out.2.2.2 2 (.int .i64 q.2.2.1) rfl; have cp := blk_cell HY1.out.2.1 1 (.int .i64 p.view) rfl)
    | (refine wpList_load_row rfl _ _ rfl x1.heap.size rfl 38 _ (0, 0) _ HY1.out.2.2.2 Tryz.underlying38 rfl (by kernel_rfl) ?_))
  have hput := putBlock_i ps _ b (.slice ac cmds.length bc) y1 (HT.out.below HY1.out.1) (by rw [HBC.out]; exact HCC.out.below HY1.out.1) HK.out (by unfold okB; rw [HBC.out]; exact HCB.out)
  rw [HBV.out] at hput
  refine hput.mono ?_
  rintro e x2 ⟨v2, qs, rfl, hqs, ho, hb⟩
  have HX2 : Hid (Below w.heap.size w x2 ∧ x2.heap[w.heap.size]? = some (.cells (peerA p s) 45 (0, 0)) ∧ x2.heap[w.heap.size + 1]? = some (.cells zeroA 45 (0, 0)) ∧ x2.heap[x1.heap.size]? = some (.cells #[.int .i64 q.1, .int .i64 q.2.1, .int .i64 q.2.2.1, .int .i64 q.2.2.2] 38 (0, 0))) := ⟨bt HY1.out.1 hb, (hb.block _ (Array.getElem?_eq_some_iff.1 HY1.out.2.1).1).trans HY1.out.2.1, (hb.block _ (Array.getElem?_eq_some_iff.1 HY1.out.2.2.1).1).trans HY1.out.2.2.1, (hb.block _ (Array.getElem?_eq_some_iff.1 HY1.out.2.2.2).1).trans HY1.out.2.2.2⟩
  have HO2 : Hid (OwnT x2 w.heap.size v2 qs ∧ LimT x2.heap.size v2 qs ∧ bks qs = putT (bks ps) b) := ⟨ho.base HY1.out.1.size, ho.lim, hqs⟩
  obtain ⟨kk, hkk⟩ : ∃ kk, kk = putAt (bks ps) b := ⟨_, rfl⟩
  have HKK : Hid (putAt (bks ps) b = kk) := hkk.symm
  have HLOW : Hid (¬ kk < 0 ∨ kk = -1) := (by rw [hkk]; exact blockAt_low _ _ : ¬ kk < 0 ∨ kk = -1)
  rw [← hkk]
  clear ho hb hqs hput hkk HY1 c2 cp
  go_wp2_with (refine wpList_load_row rfl _ _ rfl w.heap.size rfl 45 _ (0, 0) _ HX2.out.2.1 Tryz.underlying45 rfl (by kernel_rfl) ?_)
  refine (copyPeer_i p s x2 (HR.out.below HX2.out.1) HS.out).mono ?_
  rintro e x3 ⟨s1, rfl, ho, hb⟩
  have HX3 : Hid (Below w.heap.size w x3 ∧ x3.heap[w.heap.size]? = some (.cells (peerA p s) 45 (0, 0)) ∧ x3.heap[w.heap.size + 1]? = some (.cells zeroA 45 (0, 0)) ∧ x3.heap[x1.heap.size]? = some (.cells #[.int .i64 q.1, .int .i64 q.2.1, .int .i64 q.2.2.1, .int .i64 q.2.2.2] 38 (0, 0))) := ⟨bt HX2.out.1 hb, (hb.block _ (Array.getElem?_eq_some_iff.1 HX2.out.2.1).1).trans HX2.out.2.1, (hb.block _ (Array.getElem?_eq_some_iff.1 HX2.out.2.2.1).1).trans HX2.out.2.2.1, (hb.block _ (Array.getElem?_eq_some_iff.1 HX2.out.2.2.2).1).trans HX2.out.2.2.2⟩
  have HO3 : Hid (OwnD x2.heap.size x3.heap.size x3 p s1) := ho
  have HT3 : Hid (OwnT x3 w.heap.size v2 qs ∧ LimT x2.heap.size v2 qs ∧ bks qs = putT (bks ps) b ∧ w.heap.size ≤ x2.heap.size ∧ x2.heap.size ≤ x3.heap.size) := ⟨HO2.out.1.below hb, HO2.out.2.1, HO2.out.2.2, HX2.out.1.size, hb.size⟩
  clear ho hb HX2 HO2

  by_cases hkn : kk = -1
  · have HE : Hid (showsP (bks ps) p cmds = p ∧ showsK (bks ps) p cmds = -1) := (by unfold showsP showsK; rw [HB0.out, HKK.out, hkn]; exact ⟨rfl, rfl⟩ : _ ∧ _)
    obtain rfl := hkn
    clear HLOW
    go_wp2_with (refine wpList_store_blk rfl _ _ _ rfl w.heap.size (peerA p s1) rfl rfl 45 (peerA p s) HX3.out.2.1 (by kernel_rfl) rfl (peerA_one HO3.out.1) ?_; intro y3 hg hk hz; have HY3 : Hid (ShwI w y3 x1.heap.size x2.heap.size #[.int .i64 q.1, .int .i64 q.2.1, .int .i64 q.2.2.1, .int .i64 q.2.2.2] p s1 v2 qs) := ⟨HX3.out.1.grown hg HX3.out.1.size (fun k hk => by cases hk; omega), hk, (hg.block _ (Array.getElem?_eq_some_iff.1 HX3.out.2.2.1).1 (fun e => by have := Option.some.inj e; omega)).trans HX3.out.2.2.1, (hg.block _ (Array.getElem?_eq_some_iff.1 HX3.out.2.2.2).1 (fun e => by have := Option.some.inj e; have := HF1.out; omega)).trans HX3.out.2.2.2, (HO3.out.boxed HX3.out.2.1 hg).wide hg.size (Nat.le_refl _), HT3.out.1.boxed HX3.out.2.1 hg⟩; have HL3 : Hid (LimT x2.heap.size v2 qs ∧ bks qs = putT (bks ps) b ∧ w.heap.size ≤ x2.heap.size ∧ x2.heap.size ≤ y3.heap.size) := ⟨HT3.out.2.1, HT3.out.2.2.1, HT3.out.2.2.2.1, Nat.le_trans HT3.out.2.2.2.2 hg.size⟩; clear hg hk hz HX3 HO3 HT3 HF1)
    refine wp_region_H (fun x => x.heap[w.heap.size]? = some (.cells (peerA p s1) 45 (0, 0))) (by kernel_rfl) ?_
    show wpAnyH Tryz.prog _ _ _ _ (5 + 1) (Array.replicate 6 false) _ _
    have hS : y3.drew.heap[w.heap.size]? = some (.cells (peerA p s1) 45 (0, 0)) := HY3.out.box
    refine h_take (j := 0) (e' := some 34) (v := v2) rfl rfl (by kernel_rfl) (by kernel_rfl) (by kernel_rfl) (fun _ _ _ h => h) (Or.inl ⟨by rfl, ?_⟩) hS ?_
    · intro x hx
      go_simp
      try with_reducible rfl
    simp only [Act.put, List.setIfInBounds_toArray, List.set_cons_zero, List.set_cons_succ]
    refine h_take (j := 1) (e' := some 35) (v := .agg (peerA p s1)) rfl rfl (by kernel_rfl) (by kernel_rfl) (by kernel_rfl) (fun _ _ _ h => h) (Or.inl ⟨by rfl, fun x hx => exec_load_blk _ _ rfl w.heap.size rfl _ _ _ _ hx Tryz.underlying45 rfl (by kernel_rfl)⟩) hS ?_
    simp only [Act.put, List.setIfInBounds_toArray, List.set_cons_zero, List.set_cons_succ]
    refine h_take (j := 2) (e' := some 36) (v := .int .i64 (-1)) rfl rfl (by kernel_rfl) (by kernel_rfl) (by kernel_rfl) (fun _ _ _ h => h) (Or.inl ⟨by rfl, ?_⟩) hS ?_
    · intro x hx
      go_simp
      try with_reducible rfl
    simp only [Act.put, List.setIfInBounds_toArray, List.set_cons_zero, List.set_cons_succ]
    refine h_take (j := 3) (e' := some 6) (v := v2) rfl rfl (by kernel_rfl) (by kernel_rfl) (by kernel_rfl) (fun _ _ _ h => h) (Or.inl ⟨by rfl, ?_⟩) hS ?_
    · intro x hx
      go_simp
      try with_reducible rfl
    simp only [Act.put, List.setIfInBounds_toArray, List.set_cons_zero, List.set_cons_succ]
    refine h_store (s := 4) (N := w.heap.size + 1) (old := zeroA) (cells := peerA p s1) rfl rfl rfl rfl (by kernel_rfl) rfl rfl HY3.out.zero (by kernel_rfl) rfl (peerA_one HY3.out.own.1) ?_
    intro z hg hk
    have hd : Below y3.heap.size y3 y3.drew := (Below.refl _ _).drew
    have HBz : Hid (Below w.heap.size w z) := (bt HY3.out.below hd).grown hg HY3.out.below.size (fun k hk => by cases hk; omega)
    have HKz : Hid (z.heap[w.heap.size + 1]? = Option.some (.cells (peerA p s1) 45 (0, 0))) := hk
    have HFz : Hid (OwnD x2.heap.size z.heap.size z p s1) := ((HY3.out.own.below hd).boxed HY3.out.zero hg).wide hg.size (Nat.le_refl _)
    have HTz : Hid (OwnT z w.heap.size v2 qs) := (HY3.out.tree.below hd).boxed HY3.out.zero hg
    have HSz : Hid (z.heap[w.heap.size]? = some (.cells (peerA p s1) 45 (0, 0))) := (hg.block _ (Array.getElem?_eq_some_iff.1 HY3.out.box).1 (fun e => by have := Option.some.inj e; omega)).trans HY3.out.box
    have HLz : Hid (x2.heap.size ≤ z.heap.size) := Nat.le_trans HL3.out.2.2.2 hg.size
    clear hg hk hd hS
    refine ⟨HSz.out, ?_⟩
    refine h_take (j := 5) (e' := some 8) (v := .int .i64 (-1)) rfl rfl (by kernel_rfl) (by kernel_rfl) (by kernel_rfl) (fun _ _ _ h => h) (Or.inl ⟨by rfl, ?_⟩) HSz.out ?_
    · intro x hx
      go_simp
      try with_reducible rfl
    simp only [Act.put, List.setIfInBounds_toArray, List.set_cons_zero, List.set_cons_succ]
    refine wpAnyH_done (by kernel_rfl) ?_ _
    go_wp2
    refine bodyPost_ret (v := .tuple #[v2, .agg (peerA p s1), .int .i64 (-1)]) (results_tct Tryz.results23 _ _ (w.heap.size + 1) 45 _ (0, 0) _ _ _ rfl HKz.out Tryz.underlying45 rfl (by kernel_rfl) rfl rfl) rfl ?_
    rw [HE.out.1, HE.out.2, HB0.out]
    exact ⟨_, _, rfl, ⟨qs, _, HL3.out.2.1, HTz.out, HL3.out.1, HFz.out, HL3.out.2.2.1, HLz.out⟩, HBz.out⟩
  · obtain ⟨q2, hq2⟩ : ∃ q2 : PE, q2 = { p with shown := p.view, high := q } := ⟨_, rfl⟩
    have hlt : ¬ kk < 0 := by have := HLOW.out; omega
    have HE : Hid (showsP (bks ps) p cmds = q2 ∧ showsK (bks ps) p cmds = kk) := (by unfold showsP showsK; rw [HB0.out, HKK.out, if_neg hlt, if_neg hlt, hq2, HQ.out]; exact ⟨rfl, rfl⟩ : _ ∧ _)
    clear HLOW hlt
    go_wp2_with (refine wpList_store_blk rfl _ _ _ rfl w.heap.size (peerA p s1) rfl rfl 45 (peerA p s) HX3.out.2.1 (by kernel_rfl) rfl (peerA_one HO3.out.1) ?_; intro y3 hg hk hz; have HY3 : Hid (ShwI w y3 x1.heap.size x2.heap.size #[.int .i64 q.1, .int .i64 q.2.1, .int .i64 q.2.2.1, .int .i64 q.2.2.2] p s1 v2 qs) := ⟨HX3.out.1.grown hg HX3.out.1.size (fun k hk => by cases hk; omega), hk, (hg.block _ (Array.getElem?_eq_some_iff.1 HX3.out.2.2.1).1 (fun e => by have := Option.some.inj e; omega)).trans HX3.out.2.2.1, (hg.block _ (Array.getElem?_eq_some_iff.1 HX3.out.2.2.2).1 (fun e => by have := Option.some.inj e; have := HF1.out; omega)).trans HX3.out.2.2.2, (HO3.out.boxed HX3.out.2.1 hg).wide hg.size (Nat.le_refl _), HT3.out.1.boxed HX3.out.2.1 hg⟩; have HL3 : Hid (LimT x2.heap.size v2 qs ∧ bks qs = putT (bks ps) b ∧ w.heap.size ≤ x2.heap.size ∧ x2.heap.size ≤ y3.heap.size) := ⟨HT3.out.2.1, HT3.out.2.2.1, HT3.out.2.2.2.1, Nat.le_trans HT3.out.2.2.2.2 hg.size⟩; clear hg hk hz HX3 HO3 HT3 HF1)
    have cp := blk_cell HY3.out.box 1 (.int .i64 p.view) rfl
    refine wp_region_P (fun _ => true) (fun x => x.cell? ⟨w.heap.size, 1, none⟩ = some (.int .i64 p.view) ∧ x.heap[x1.heap.size]? = some (.cells #[.int .i64 q.1, .int .i64 q.2.1, .int .i64 q.2.2.1, .int .i64 q.2.2.2] 38 (0, 0))) (by kernel_rfl) ?_
    show wpAnyP Tryz.prog _ _ _ _ _ (6 + 1) (Array.replicate 7 false) _ _
    have hS : y3.drew.cell? ⟨w.heap.size, 1, none⟩ = some (.int .i64 p.view) ∧ y3.drew.heap[x1.heap.size]? = some (.cells #[.int .i64 q.1, .int .i64 q.2.1, .int .i64 q.2.2.1, .int .i64 q.2.2.2] 38 (0, 0)) := ⟨cp, HY3.out.qc⟩
    refine p_take (j := 0) (e' := some 29) (v := .pointer (some ⟨w.heap.size, 1, none⟩)) rfl rfl (by kernel_rfl) (by kernel_rfl) (by kernel_rfl) (by kernel_rfl) (by kernel_rfl) (fun _ _ _ h => h) (Or.inl ⟨by rfl, ?_⟩) hS ?_
    · intro x hx
      go_simp
      try with_reducible rfl
    simp only [Act.put, List.setIfInBounds_toArray, List.set_cons_zero, List.set_cons_succ]
    refine p_take (j := 1) (e' := some 30) (v := .int .i64 p.view) rfl rfl (by kernel_rfl) (by kernel_rfl) (by kernel_rfl) (by kernel_rfl) (by kernel_rfl) (fun _ _ _ h => h) (Or.inl ⟨by rfl, ?_⟩) hS ?_
    · intro x hx
      have hx1 := hx.1
      go_simp
      try with_reducible rfl
    simp only [Act.put, List.setIfInBounds_toArray, List.set_cons_zero, List.set_cons_succ]
    refine p_take (j := 2) (e' := some 31) (v := .agg #[.int .i64 q.1, .int .i64 q.2.1, .int .i64 q.2.2.1, .int .i64 q.2.2.2]) rfl rfl (by kernel_rfl) (by kernel_rfl) (by kernel_rfl) (by kernel_rfl) (by kernel_rfl) (fun _ _ _ h => h) (Or.inl ⟨by rfl, fun x hx => exec_load_blk _ _ rfl x1.heap.size rfl _ _ _ _ hx.2 Tryz.underlying38 rfl (by kernel_rfl)⟩) hS ?_
    simp only [Act.put, List.setIfInBounds_toArray, List.set_cons_zero, List.set_cons_succ]
    refine p_take (j := 3) (e' := some 32) (v := .pointer (some ⟨w.heap.size, 20, none⟩)) rfl rfl (by kernel_rfl) (by kernel_rfl) (by kernel_rfl) (by kernel_rfl) (by kernel_rfl) (fun _ _ _ h => h) (Or.inl ⟨by rfl, ?_⟩) hS ?_
    · intro x hx
      go_simp
      try with_reducible rfl
    simp only [Act.put, List.setIfInBounds_toArray, List.set_cons_zero, List.set_cons_succ]
    refine p_cell (s := 4) (N := w.heap.size) (o := 20) (u := .int .i64 p.view) (old := peerA p s1) (new := peerA { p with shown := p.view } s1) rfl rfl rfl rfl (by kernel_rfl) rfl rfl HY3.out.box (by kernel_rfl) (by simp [peerA]) rfl rfl ?_
    intro y4 hg hk
    have hd : Below y3.heap.size y3 y3.drew := (Below.refl _ _).drew
    have HY4 : Hid (ShwI w y4 x1.heap.size x2.heap.size #[.int .i64 q.1, .int .i64 q.2.1, .int .i64 q.2.2.1, .int .i64 q.2.2.2] { p with shown := p.view } s1 v2 qs) := (HY3.out.drew).put hg hk rfl rfl rfl rfl rfl rfl
    have HL4 : Hid (x2.heap.size ≤ y4.heap.size) := Nat.le_trans HL3.out.2.2.2 hg.size
    clear hg hk hd hS cp HY3
    have hS : y4.cell? ⟨w.heap.size, 1, none⟩ = some (.int .i64 p.view) ∧ y4.heap[x1.heap.size]? = some (.cells #[.int .i64 q.1, .int .i64 q.2.1, .int .i64 q.2.2.1, .int .i64 q.2.2.2] 38 (0, 0)) := ⟨blk_cell HY4.out.box 1 (.int .i64 p.view) rfl, HY4.out.qc⟩
    refine ⟨fun _ => hS, ?_⟩
    refine p_take (j := 5) (e' := some 33) (v := .pointer (some ⟨w.heap.size, 2, none⟩)) rfl rfl (by kernel_rfl) (by kernel_rfl) (by kernel_rfl) (by kernel_rfl) (by kernel_rfl) (fun _ _ _ h => h) (Or.inl ⟨by rfl, ?_⟩) hS ?_
    · intro x hx
      go_simp
      try with_reducible rfl
    simp only [Act.put, List.setIfInBounds_toArray, List.set_cons_zero, List.set_cons_succ]
    refine p_part (s := 6) (N := w.heap.size) (o := 2) (cells := #[.int .i64 q.1, .int .i64 q.2.1, .int .i64 q.2.2.1, .int .i64 q.2.2.2]) (old := peerA { p with shown := p.view } s1) (new := peerA q2 s1) rfl rfl rfl rfl (by kernel_rfl) rfl rfl HY4.out.box (by kernel_rfl) (by simp [peerA]) (by simp [Value.oneCell']) (by rw [hq2]; rfl) ?_
    intro y5 hg hk
    have HY5 : Hid (ShwI w y5 x1.heap.size x2.heap.size #[.int .i64 q.1, .int .i64 q.2.1, .int .i64 q.2.2.1, .int .i64 q.2.2.2] q2 s1 v2 qs) := HY4.out.put hg hk (by rw [hq2]) (by rw [hq2]) (by rw [hq2]) (by rw [hq2]) (by rw [hq2]) (by rw [hq2])
    have HL5 : Hid (LimT x2.heap.size v2 qs ∧ bks qs = putT (bks ps) b ∧ w.heap.size ≤ x2.heap.size ∧ x2.heap.size ≤ y5.heap.size) := ⟨HL3.out.1, HL3.out.2.1, HL3.out.2.2.1, Nat.le_trans HL4.out hg.size⟩
    have hS5 : y5.cell? ⟨w.heap.size, 1, none⟩ = some (.int .i64 p.view) ∧ y5.heap[x1.heap.size]? = some (.cells #[.int .i64 q.1, .int .i64 q.2.1, .int .i64 q.2.2.1, .int .i64 q.2.2.2] 38 (0, 0)) := ⟨blk_cell HY5.out.box 1 (.int .i64 p.view) (by rw [hq2]; rfl), HY5.out.qc⟩
    clear hg hk HY4 hq2 HL3 HL4 hS
    have HL3 := HL5
    clear HL5
    refine ⟨fun _ => hS5, ?_⟩
    clear hS5
    refine wpAnyP_done (by kernel_rfl) ?_ _
    go_wp2_with fail
    refine wp_region_H (fun x => x.heap[w.heap.size]? = some (.cells (peerA q2 s1) 45 (0, 0))) (by kernel_rfl) ?_
    show wpAnyH Tryz.prog _ _ _ _ (5 + 1) (Array.replicate 6 false) _ _
    have hS : y5.drew.heap[w.heap.size]? = some (.cells (peerA q2 s1) 45 (0, 0)) := HY5.out.box
    refine h_take (j := 0) (e' := some 34) (v := v2) rfl rfl (by kernel_rfl) (by kernel_rfl) (by kernel_rfl) (fun _ _ _ h => h) (Or.inl ⟨by rfl, ?_⟩) hS ?_
    · intro x hx
      go_simp
      try with_reducible rfl
    simp only [Act.put, List.setIfInBounds_toArray, List.set_cons_zero, List.set_cons_succ]
    refine h_take (j := 1) (e' := some 35) (v := .agg (peerA q2 s1)) rfl rfl (by kernel_rfl) (by kernel_rfl) (by kernel_rfl) (fun _ _ _ h => h) (Or.inl ⟨by rfl, fun x hx => exec_load_blk _ _ rfl w.heap.size rfl _ _ _ _ hx Tryz.underlying45 rfl (by kernel_rfl)⟩) hS ?_
    simp only [Act.put, List.setIfInBounds_toArray, List.set_cons_zero, List.set_cons_succ]
    refine h_take (j := 2) (e' := some 36) (v := .int .i64 kk) rfl rfl (by kernel_rfl) (by kernel_rfl) (by kernel_rfl) (fun _ _ _ h => h) (Or.inl ⟨by rfl, ?_⟩) hS ?_
    · intro x hx
      go_simp
      try with_reducible rfl
    simp only [Act.put, List.setIfInBounds_toArray, List.set_cons_zero, List.set_cons_succ]
    refine h_take (j := 3) (e' := some 6) (v := v2) rfl rfl (by kernel_rfl) (by kernel_rfl) (by kernel_rfl) (fun _ _ _ h => h) (Or.inl ⟨by rfl, ?_⟩) hS ?_
    · intro x hx
      go_simp
      try with_reducible rfl
    simp only [Act.put, List.setIfInBounds_toArray, List.set_cons_zero, List.set_cons_succ]
    refine h_store (s := 4) (N := w.heap.size + 1) (old := zeroA) (cells := peerA q2 s1) rfl rfl rfl rfl (by kernel_rfl) rfl rfl HY5.out.zero (by kernel_rfl) rfl (peerA_one HY5.out.own.1) ?_
    intro z hg hk
    have hd : Below y5.heap.size y5 y5.drew := (Below.refl _ _).drew
    have HBz : Hid (Below w.heap.size w z) := (bt HY5.out.below hd).grown hg HY5.out.below.size (fun k hk => by cases hk; omega)
    have HKz : Hid (z.heap[w.heap.size + 1]? = Option.some (.cells (peerA q2 s1) 45 (0, 0))) := hk
    have HFz : Hid (OwnD x2.heap.size z.heap.size z q2 s1) := ((HY5.out.own.below hd).boxed HY5.out.zero hg).wide hg.size (Nat.le_refl _)
    have HTz : Hid (OwnT z w.heap.size v2 qs) := (HY5.out.tree.below hd).boxed HY5.out.zero hg
    have HSz : Hid (z.heap[w.heap.size]? = some (.cells (peerA q2 s1) 45 (0, 0))) := (hg.block _ (Array.getElem?_eq_some_iff.1 HY5.out.box).1 (fun e => by have := Option.some.inj e; omega)).trans HY5.out.box
    have HLz : Hid (x2.heap.size ≤ z.heap.size) := Nat.le_trans HL3.out.2.2.2 hg.size
    clear hg hk hd hS
    refine ⟨HSz.out, ?_⟩
    refine h_take (j := 5) (e' := some 8) (v := .int .i64 kk) rfl rfl (by kernel_rfl) (by kernel_rfl) (by kernel_rfl) (fun _ _ _ h => h) (Or.inl ⟨by rfl, ?_⟩) HSz.out ?_
    · intro x hx
      go_simp
      try with_reducible rfl
    simp only [Act.put, List.setIfInBounds_toArray, List.set_cons_zero, List.set_cons_succ]
    refine wpAnyH_done (by kernel_rfl) ?_ _
    go_wp2
    refine bodyPost_ret (v := .tuple #[v2, .agg (peerA q2 s1), .int .i64 kk]) (results_tct Tryz.results23 _ _ (w.heap.size + 1) 45 _ (0, 0) _ _ _ rfl HKz.out Tryz.underlying45 rfl (by kernel_rfl) rfl rfl) rfl ?_
    rw [HE.out.1, HE.out.2, HB0.out]
    exact ⟨_, _, rfl, ⟨qs, _, HL3.out.2.1, HTz.out, HL3.out.1, HFz.out, HL3.out.2.2.1, HLz.out⟩, HBz.out⟩

end Go.Proofs.YtjdddcldbfhbiasGreat