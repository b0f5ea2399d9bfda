/-
  A block that is put in by hand: the contracts of the program's tried and HandBlock. (Made by ghb16b.py.)
-/
import Derived.Test.YtcfgfhodbjakoavGreatDoorHandBI
namespace Go.Proofs.YtcfgfhodbjakoavGreatDoor
open Go.RowKit Num

set_option maxRecDepth 100000 in
set_option maxHeartbeats 4000000 in
theorem handedBlock_i (b : BK) (cb : Value) (w : World) : Calls Tryz.prog 60 #[blkV b cb] w fun e w' => e = .returned (.func (.func 97) #[] #[.pointer (some ⟨w.heap.size, 0, none⟩)]) ∧ w' = w.alloc (.cells (blkA b cb) 61) := by
  unfold blkV blkA
  go_enter Tryz.func60, Tryz.ntmps60
  go_wp2
  go_ret
  exact ⟨rfl, rfl⟩
set_option maxRecDepth 100000 in
set_option maxHeartbeats 8000000 in
theorem tried_step (c : CU) (b : BK) (Bb One K : Nat) (w : World) (hone : w.heap[One]? = some (.cells #[.func (.func 97) #[] #[.pointer (some ⟨Bb, 0, none⟩)]] 95 (0, 0))) (hK : w.heap[K]? = some (.cells #[.int .i64 0] 3 (0, 0))) (hv : ErrVar w) (hh : HandOk c b Bb w) (hK0 : 0 < K) :
    StepK 82 (.pointer (some ⟨One, 0, none⟩)) (.pointer (some ⟨K, 0, none⟩)) K (handCode c b) w c (handCu c b) (handCode c b == 0) := fun w1 N lo hi s1 hb0 hbox hown hw1 hlo hw2 => by
  have HH := hid (hh w1 N lo hi s1 hb0 hbox hown hw1 hlo hw2)
  have hKw := (Array.getElem?_eq_some_iff.1 hK).1
  have HLO : Hid (w.heap.size ≤ lo ∧ lo ≤ hi ∧ w.heap.size ≤ N ∧ hi ≤ w1.heap.size ∧ K < w.heap.size ∧ 0 < K ∧ w.heap.size ≤ w1.heap.size) := ⟨hw1, hlo, hw2, hown.size, hKw, hK0, hb0.size⟩
  have HV : Hid (ErrVar w1) := hv.below hb0
  have HK1 : Hid (w1.heap[K]? = some (.cells #[.int .i64 0] 3 (0, 0))) := (hb0.block K hKw).trans hK
  have c1 := blk_cell ((hb0.block _ (Array.getElem?_eq_some_iff.1 hone).1).trans hone) 0 (.func (.func 97) #[] #[.pointer (some ⟨Bb, 0, none⟩)]) rfl
  obtain ⟨R, hR⟩ : ∃ R, R = handCode c b := ⟨_, rfl⟩
  have HR : Hid (handCode c b = R) := hR.symm
  rw [← hR] at HH ⊢
  clear hR hone hK hv hh hb0 hbox hown hw1 hlo hw2 hKw hK0
  go_enter Tryz.func82, Tryz.ntmps82
  go_wp2_with fail
  refine HH.out.mono ?_
  rintro e w2 ⟨rfl, s2, hin⟩
  have HI := hid hin
  have HV2 : Hid (ErrVar w2) := HV.out.block (hin.fr.block 0 HV.out.pos (fun e => by have := HLO.out; omega))
  have HK2 : Hid (w2.heap[K]? = some (.cells #[.int .i64 0] 3 (0, 0))) := (hin.fr.block K (Array.getElem?_eq_some_iff.1 HK1.out).1 (fun e => by have := HLO.out; omega)).trans HK1.out
  clear hin HH c1
  go_wp2_with fail
  refine (codeOf_i R w2 HV2.out).mono ?_
  rintro e w3 ⟨rfl, hb⟩
  have HB3 := hid hb
  have HK3 : Hid (w3.heap[K]? = some (.cells #[.int .i64 0] 3 (0, 0))) := (hb.block K (Array.getElem?_eq_some_iff.1 HK2.out).1).trans HK2.out
  clear hb
  go_wp2_with (refine wpList_store_cell rfl _ _ _ rfl K 0 (.int .i64 R) rfl rfl _ _ HK3.out (by kernel_rfl) (by simp) (by rfl) #[.int .i64 R] rfl ?_; intro y hgy hk; have HY : Hid (y.heap[K]? = some (.cells #[.int .i64 R] 3 (0, 0)) ∧ w3.grownBy y (some K)) := ⟨hk, hgy⟩; have y0 := blk_cell hk 0 (.int .i64 R) rfl; clear hgy hk)
  go_ret
  have hown3 := HI.out.own.below HB3.out
  refine ⟨rfl, s2, (HY.out.2.block N (Array.getElem?_eq_some_iff.1 ((HB3.out.block N (Array.getElem?_eq_some_iff.1 HI.out.box).1).trans HI.out.box)).1 (fun e => by have := Option.some.inj e; have := HLO.out; omega)).trans ((HB3.out.block N (Array.getElem?_eq_some_iff.1 HI.out.box).1).trans HI.out.box), (hown3.boxed HY.out.2 (Or.inl (by have := HLO.out; omega))).wide (Nat.le_trans HB3.out.size HY.out.2.size) (Nat.le_refl _), HY.out.1, ?_⟩
  exact ((HI.out.fr.mono (fun k hk => Or.inl hk)).trans (FrS.of_below HB3.out)).trans (FrS.of_grown HY.out.2 (fun k e => by cases e; exact Or.inr rfl))
theorem BelowBut.lift {n K : Nat} {w x y : World} (h : Below n w x) (h2 : BelowBut x.heap.size K x y) (hn : n ≤ x.heap.size) (hK : n ≤ K) : Below n w y :=
  ⟨h2.os.trans h.os, h2.tape.trans h.tape, h2.output.trans h.output, Nat.le_trans h.size h2.size, fun k hk => (h2.block k (by omega) (by omega)).trans (h.block k hk)⟩
set_option maxRecDepth 100000 in
set_option maxHeartbeats 8000000 in
theorem tried_i (c : CU) (b : BK) (cb : Value) (Bb : Nat) (w : World) (hbx : w.heap[Bb]? = some (.cells (blkA b cb) 61 (0, 0))) (hB : RowsR w cb 3 cmdF b.2.1) (hk : okC c) (hg : goodC c) (hkb : okB b) (hq : wfQ b.2.2) (s : CW) (lo hi : Nat) (hO : OwnC lo hi w c s) (hv : ErrVar w) :
    Calls Tryz.prog 46 #[clusV c s, .func (.func 97) #[] #[.pointer (some ⟨Bb, 0, none⟩)]] w fun e w' => ∃ s', e = .returned (.tuple #[clusV (handCu c b) s', .int .i64 (handCode c b)]) ∧ OwnC w.heap.size w'.heap.size w' (handCu c b) s' ∧ Below w.heap.size w w' := by
  obtain ⟨R, hR⟩ : ∃ R, R = handCode c b := ⟨_, rfl⟩
  obtain ⟨Q, hQ⟩ : ∃ Q, Q = handCu c b := ⟨_, rfl⟩
  have HQR : Hid (handCu c b = Q ∧ handCode c b = R) := ⟨hQ.symm, hR.symm⟩
  rw [← hR, ← hQ]
  clear hR hQ
  obtain ⟨W, hW⟩ : ∃ W, W = ((w.alloc (.cells (clusA c s) 43)).alloc (.cells #[.func (.func 97) #[] #[.pointer (some ⟨Bb, 0, none⟩)]] 95)).alloc (.cells zeroC 43) := ⟨_, rfl⟩
  have HC : Hid (Below w.heap.size w W ∧ W.heap[w.heap.size]? = some (.cells (clusA c s) 43 (0, 0)) ∧ W.heap[w.heap.size + 1]? = some (.cells #[.func (.func 97) #[] #[.pointer (some ⟨Bb, 0, none⟩)]] 95 (0, 0)) ∧ W.heap[w.heap.size + 1 + 1]? = some (.cells zeroC 43 (0, 0))) := by
    rw [hW]; exact ⟨ba (ba (ba (Below.refl _ _) _) _) _, alloc3 w _ _ _⟩
  obtain ⟨X, hX⟩ : ∃ X, X = W.alloc (.cells #[.int .i64 0] 3) := ⟨_, rfl⟩
  have HX : Hid (Below W.heap.size W X ∧ X.heap[W.heap.size]? = some (.cells #[.int .i64 0] 3 (0, 0)) ∧ W.heap.size < X.heap.size) := by
    rw [hX]; exact ⟨alloc_below _ _, alloc_new _ _, by simp⟩
  have HWS : Hid (w.heap.size + 1 + 1 < W.heap.size ∧ 0 < w.heap.size) := ⟨(Array.getElem?_eq_some_iff.1 HC.out.2.2.2).1, hv.pos⟩
  have HBX : Hid (Below w.heap.size w X) := bt HC.out.1 HX.out.1
  have HRST := hid (And.intro hbx (And.intro hB (And.intro hk (And.intro hg (And.intro hkb (And.intro hq (And.intro hO hv)))))))
  unfold zeroC at hW
  clear hbx hB hk hg hkb hq hO hv
  go_enter Tryz.func46, Tryz.ntmps46
  go_wp2_with (first
    | (rw [← hW]; clear hW)
    | (rw [← hX]; clear hX)
    | (refine wpList_store_cell rfl _ _ _ rfl W.heap.size 0 (.int .i64 0) rfl rfl _ _ HX.out.2.1 (by kernel_rfl) (by simp) (by rfl) #[.int .i64 0] rfl ?_; intro y hgy hk; have HY : Hid (y.heap[W.heap.size]? = some (.cells #[.int .i64 0] 3 (0, 0)) ∧ X.grownBy y (some W.heap.size)) := ⟨hk, hgy⟩; have HYB : Hid (Below W.heap.size W y) := HX.out.1.grown hgy HX.out.1.size (fun k hk => by cases hk; exact Nat.le_refl _); clear hgy hk)
    | (refine wpList_load_row rfl _ _ rfl w.heap.size rfl 43 _ (0, 0) _ ((HYB.out.block _ (Array.getElem?_eq_some_iff.1 HC.out.2.1).1).trans HC.out.2.1) Tryz.underlying43 rfl (by kernel_rfl) ?_))
  have HWY : Hid (Below w.heap.size w y) := bt HC.out.1 HYB.out
  have hrs := HRST.out
  have hst := tried_step c b Bb (w.heap.size + 1) W.heap.size y ((HYB.out.block _ (Array.getElem?_eq_some_iff.1 HC.out.2.2.1).1).trans HC.out.2.2.1) HY.out.1 (hrs.2.2.2.2.2.2.2.below HWY.out) (handed_step c b cb Bb y ((HWY.out.block _ (Array.getElem?_eq_some_iff.1 hrs.1).1).trans hrs.1) (hrs.2.1.below HWY.out) hrs.2.2.1 hrs.2.2.2.1 hrs.2.2.2.2.1 hrs.2.2.2.2.2.1) (by have := HWS.out; omega)
  have hcon := steppedK_i 82 tried_e (.pointer (some ⟨(w.heap.size + 1), 0, none⟩)) (.pointer (some ⟨W.heap.size, 0, none⟩)) W.heap.size (handCode c b) c (handCu c b) s (handCode c b == 0) lo hi y (hrs.2.2.2.2.2.2.1.below HWY.out) hrs.2.2.1 (Array.getElem?_eq_some_iff.1 HY.out.1).1 hst
  rw [HQR.out.1, HQR.out.2] at hcon
  clear hrs hst
  refine hcon.mono ?_
  clear hcon
  rintro e y1 ⟨s1, rfl, ho, hbb, hk1⟩
  have H1 : Hid (OwnC y.heap.size y1.heap.size y1 Q s1 ∧ Below w.heap.size w y1 ∧ y1.heap[W.heap.size]? = some (.cells #[.int .i64 R] 3 (0, 0)) ∧ y1.heap[w.heap.size + 1 + 1]? = some (.cells zeroC 43 (0, 0)) ∧ W.heap.size < y.heap.size ∧ y.heap.size ≤ y1.heap.size ∧ w.heap.size ≤ y.heap.size) := ⟨ho, BelowBut.lift HWY.out hbb HWY.out.size (by have := HWS.out; omega), hk1, (hbb.block _ (by have := HWS.out; have := HYB.out.size; omega) (by have := HWS.out; omega)).trans ((HYB.out.block _ (Array.getElem?_eq_some_iff.1 HC.out.2.2.2).1).trans HC.out.2.2.2), (Array.getElem?_eq_some_iff.1 HY.out.1).1, hbb.size, HWY.out.size⟩
  clear ho hbb hk1 HY HYB HWY HC HX HBX HRST
  go_wp2_with (refine wpList_store_blk rfl _ _ _ rfl y1.heap.size (clusA Q s1) rfl rfl 43 zeroC (heap_alloc_new y1 _) (by kernel_rfl) rfl (clusA_one H1.out.1) ?_; intro y2 hg2 hk2 hz2; have hb2 : Below y1.heap.size y1 y2 := made_below hg2; have H2 : Hid (OwnC y.heap.size y1.heap.size y2 Q s1 ∧ Below w.heap.size w y2 ∧ y2.heap[W.heap.size]? = some (.cells #[.int .i64 R] 3 (0, 0)) ∧ y2.heap[w.heap.size + 1 + 1]? = some (.cells zeroC 43 (0, 0)) ∧ y2.heap[y1.heap.size]? = some (.cells (clusA Q s1) 43 (0, 0))) := ⟨H1.out.1.below hb2, bt H1.out.2.1 hb2, (hb2.block _ (Array.getElem?_eq_some_iff.1 H1.out.2.2.1).1).trans H1.out.2.2.1, (hb2.block _ (Array.getElem?_eq_some_iff.1 H1.out.2.2.2.1).1).trans H1.out.2.2.2.1, hk2⟩; clear hg2 hk2 hz2 hb2)
  refine wp_region_H (fun x => x.heap[W.heap.size]? = some (.cells #[.int .i64 R] 3 (0, 0)) ∧ x.heap[y1.heap.size]? = some (.cells (clusA Q s1) 43 (0, 0))) (by kernel_rfl) ?_
  show wpAnyH Tryz.prog _ _ _ _ (3 + 1) (Array.replicate 4 false) _ _
  have hS : y2.drew.heap[W.heap.size]? = some (.cells #[.int .i64 R] 3 (0, 0)) ∧ y2.drew.heap[y1.heap.size]? = some (.cells (clusA Q s1) 43 (0, 0)) := ⟨H2.out.2.2.1, H2.out.2.2.2.2⟩
  refine h_take (j := 0) (e' := some 15) (v := clusV Q s1) rfl rfl (by kernel_rfl) (by kernel_rfl) (by kernel_rfl) (fun _ _ _ h => h) (Or.inl ⟨by rfl, fun x hx => exec_load_blk _ _ rfl y1.heap.size rfl _ _ _ _ hx.2 Tryz.underlying43 rfl (by kernel_rfl)⟩) hS ?_
  simp only [Act.put, List.setIfInBounds_toArray, List.set_cons_zero, List.set_cons_succ]
  refine h_take (j := 1) (e' := some 16) (v := .int .i64 R) rfl rfl (by kernel_rfl) (by kernel_rfl) (by kernel_rfl) (fun _ _ _ h => h) (Or.inl ⟨by rfl, ?_⟩) hS ?_
  · intro x hx
    have k0 := blk_cell hx.1 0 (.int .i64 R) rfl
    go_simp
    try with_reducible rfl
  simp only [Act.put, List.setIfInBounds_toArray, List.set_cons_zero, List.set_cons_succ]
  refine h_store (s := 2) (N := w.heap.size + 1 + 1) (cells := clusA Q s1) rfl rfl rfl rfl (by kernel_rfl) rfl rfl (show y2.drew.heap[w.heap.size + 1 + 1]? = _ from H2.out.2.2.2.1) (by kernel_rfl) rfl (clusA_one H1.out.1) ?_
  intro z hgr hnew
  have hS2 : z.heap[W.heap.size]? = some (.cells #[.int .i64 R] 3 (0, 0)) ∧ z.heap[y1.heap.size]? = some (.cells (clusA Q s1) 43 (0, 0)) := ⟨(hgr.block _ (Array.getElem?_eq_some_iff.1 hS.1).1 (fun e => by have := Option.some.inj e; have := HWS.out; omega)).trans hS.1, (hgr.block _ (Array.getElem?_eq_some_iff.1 hS.2).1 (fun e => by have := Option.some.inj e; have := HWS.out; have := H1.out.2.2.2.2; omega)).trans hS.2⟩
  have HBz : Hid (Below w.heap.size w z ∧ z.heap[w.heap.size + 1 + 1]? = some (.cells (clusA Q s1) 43 (0, 0)) ∧ OwnC w.heap.size z.heap.size z Q s1) := ⟨(H2.out.2.1.trans (Below.refl _ _).drew).grown hgr H2.out.2.1.size (fun k hk => by cases hk; omega), hnew, (((H2.out.1.below (Below.refl _ _).drew).boxT (show y2.drew.heap[w.heap.size + 1 + 1]? = _ from H2.out.2.2.2.1) hgr).low H1.out.2.2.2.2.2.2).wide (Nat.le_trans (Nat.le_of_lt (Array.getElem?_eq_some_iff.1 H2.out.2.2.2.2).1) hgr.size) (Nat.le_refl _)⟩
  clear hgr hnew hS
  refine ⟨hS2, ?_⟩
  refine h_take (j := 3) (e' := some 5) (v := .int .i64 R) rfl rfl (by kernel_rfl) (by kernel_rfl) (by kernel_rfl) (fun _ _ _ h => h) (Or.inl ⟨by rfl, ?_⟩) hS2 ?_
  · intro x hx
    go_simp
    try with_reducible rfl
  simp only [Act.put, List.setIfInBounds_toArray, List.set_cons_zero, List.set_cons_succ]
  refine wpAnyH_done (by kernel_rfl) ?_ _
  clear hS2
  go_wp2
  refine bodyPost_ret (v := .tuple #[.agg (clusA Q s1), .int .i64 R]) (results_ct Tryz.results46 _ _ (w.heap.size + 1 + 1) 43 _ (0, 0) _ _ rfl HBz.out.2.1 Tryz.underlying43 rfl (by kernel_rfl) rfl) rfl ?_
  exact ⟨s1, rfl, HBz.out.2.2, HBz.out.1⟩
set_option maxRecDepth 100000 in
set_option maxHeartbeats 16000000 in
theorem handBlock_i (c : CU) (b : BK) (cb : Value) (w : World) (hB : RowsR w cb 3 cmdF b.2.1) (hk : okC c) (hg : goodC c) (hkb : okB b) (hq : wfQ b.2.2) (s : CW) (lo hi : Nat) (hO : OwnC lo hi w c s) (hv : ErrVar w) :
    Calls Tryz.prog 19 #[clusV c s, blkV b cb] w fun e w' => ∃ s', e = .returned (.tuple #[clusV (handBlockF c b).1 s', .int .i64 (handBlockF c b).2]) ∧ OwnC w.heap.size w'.heap.size w' (handBlockF c b).1 s' ∧ Below w.heap.size w w' := by
  obtain ⟨R, hR⟩ : ∃ R, R = handCode c b := ⟨_, rfl⟩
  obtain ⟨Q, hQ⟩ : ∃ Q, Q = handCu c b := ⟨_, rfl⟩
  have HQ : Hid (handCu c b = Q ∧ handCode c b = R) := ⟨hQ.symm, hR.symm⟩
  obtain ⟨W, hW⟩ : ∃ W, W = ((w.alloc (.cells (clusA c s) 43)).alloc (.cells (blkA b cb) 61)).alloc (.cells zeroC 43) := ⟨_, rfl⟩
  have HC : Hid (Below w.heap.size w W ∧ W.heap[w.heap.size]? = some (.cells (clusA c s) 43 (0, 0)) ∧ W.heap[w.heap.size + 1]? = some (.cells (blkA b cb) 61 (0, 0)) ∧ W.heap[w.heap.size + 1 + 1]? = some (.cells zeroC 43 (0, 0))) := by
    rw [hW]; exact ⟨ba (ba (ba (Below.refl _ _) _) _) _, alloc3 w _ _ _⟩
  have HWS : Hid (w.heap.size + 1 + 1 < W.heap.size) := (Array.getElem?_eq_some_iff.1 HC.out.2.2.2).1
  have HCB := hid hB
  have HOK := hid hk
  have HG := hid hg
  have HKB := hid hkb
  have HQQ := hid hq
  have HO := hid hO
  have HEV : Hid (∀ y, Below W.heap.size W y → ErrVar y) := fun y hy => (hv.below HC.out.1).below hy
  clear hB hk hg hkb hq hO hv
  unfold zeroC at hW
  unfold blkV
  by_cases hr : R = 0
  · have HF : Hid (handBlockF c b = (Q, putAt c.tree b) ∧ Q.tree = putT c.tree b ∧ blockAt (putT c.tree b) b = putAt c.tree b ∧ okT (putT c.tree b)) := by
      rcases handCode_cases c b with ⟨h1, _⟩ | ⟨_, _, h3, h4, h5⟩
      · exact absurd (hR ▸ hr) h1
      · refine ⟨by rw [h4, hQ, h5], by rw [hQ, h5], ?_, okT_put HOK.out.tree HKB.out⟩
        rcases putAt_cases c.tree b with ⟨h6, _⟩ | ⟨_, h7⟩
        · omega
        · exact h7
    rw [HF.out.1]
    have b0 : (R != (0 : Int)) = false := by simp [hr]
    obtain ⟨A, hA⟩ : ∃ A, A = putAt c.tree b := ⟨_, rfl⟩
    have HA : Hid (putAt c.tree b = A) := hA.symm
    rw [← hA]
    clear hR hQ hr hA
    go_enter Tryz.func19, Tryz.ntmps19
    go_wp2_with (rw [← hW]; clear hW)
    refine wp_region_H (Below W.heap.size W) (by kernel_rfl) ?_
    show wpAnyH Tryz.prog _ _ _ _ (9 + 1) (Array.replicate 10 false) _ _
    refine fl_in (i := 7) (d := some 6) (obj := .cells zeroC 43 (0, 0)) (base := W.heap.size) (T := Below W.heap.size W) (f := 9) ?_ (Below.refl _ _).drew
    refine fl_take (j := 0) (e' := some 9) (v := clusV c s) rfl rfl rfl rfl (by kernel_rfl) (by kernel_rfl) (by kernel_rfl) (by kernel_rfl) (by kernel_rfl) (by decide) (by kernel_rfl) (fun _ _ _ h => h) (fun _ h => h) (Or.inl ⟨by rfl, ?_⟩) ?_
    · exact fun y hy => exec_load_blk _ _ rfl w.heap.size rfl _ _ _ _ ((hy.block _ (Array.getElem?_eq_some_iff.1 HC.out.2.1).1).trans HC.out.2.1) Tryz.underlying43 rfl (by kernel_rfl)
    simp only [Act.put, List.setIfInBounds_toArray, List.set_cons_zero, List.set_cons_succ]
    refine fl_take (j := 1) (e' := some 10) (v := blkV b cb) rfl rfl rfl rfl (by kernel_rfl) (by kernel_rfl) (by kernel_rfl) (by kernel_rfl) (by kernel_rfl) (by decide) (by kernel_rfl) (fun _ _ _ h => h) (fun _ h => h) (Or.inl ⟨by rfl, ?_⟩) ?_
    · exact fun y hy => exec_load_blk _ _ rfl (w.heap.size + 1) rfl _ _ _ _ ((hy.block _ (Array.getElem?_eq_some_iff.1 HC.out.2.2.1).1).trans HC.out.2.2.1) Tryz.underlying61 rfl (by kernel_rfl)
    simp only [Act.put, List.setIfInBounds_toArray, List.set_cons_zero, List.set_cons_succ]
    refine fl_call (c := 2) (e' := some 11) (fn := 60) (args := #[blkV b cb]) (T' := fun v' y => ∃ Bb, v' = .func (.func 97) #[] #[.pointer (some ⟨Bb, 0, none⟩)] ∧ (y.heap[Bb]? = some (.cells (blkA b cb) 61 (0, 0)) ∧ Below W.heap.size W y)) rfl rfl ⟨rfl, fun ρ x => ?_⟩ (fun _ h => h.size) (fun a b h hb => bt h hb) (fun _ h => h) rfl rfl (by kernel_rfl) (Or.inl (by kernel_rfl)) (by kernel_rfl) (by decide) (by kernel_rfl) (by rfl) (fun x => ?_) (fun y hy => (handedBlock_i b cb y).mono (fun e x' h => by obtain ⟨he, rfl⟩ := h; exact ⟨_, he, KpF.below (alloc_below y _), y.heap.size, rfl, alloc_new y _, bt hy (alloc_below y _)⟩)) (fun _ _ h => by obtain ⟨_, _, _, h⟩ := h; exact h) ?_
    · unfold flP zeroC
      go_simp
      try with_reducible rfl
    · go_simp
      try with_reducible rfl
    intro va
    refine fl_ex (fun Bb => fl_and (fun hva => ?_))
    subst hva
    simp only [Act.put, List.setIfInBounds_toArray, List.set_cons_zero, List.set_cons_succ]
    refine fl_call (c := 3) (e' := some 12) (fn := 46) (args := #[clusV c s, .func (.func 97) #[] #[.pointer (some ⟨Bb, 0, none⟩)]]) (T' := fun v' y => ∃ sb, (v' = .tuple #[clusV Q sb, .int .i64 R] ∧ (clusA Q sb).all (·.oneCell') = true) ∧ (OwnC W.heap.size y.heap.size y Q sb ∧ Below W.heap.size W y)) rfl rfl ⟨rfl, fun ρ x => ?_⟩ (fun _ h => h.2.size) (fun a b h hb => ⟨(hb.block _ (Array.getElem?_eq_some_iff.1 h.1).1).trans h.1, bt h.2 hb⟩) (fun _ h => h.2) rfl rfl (by kernel_rfl) (Or.inl (by kernel_rfl)) (by kernel_rfl) (by decide) (by kernel_rfl) (by rfl) (fun x => ?_) (fun y hy => by have hsp := tried_i c b cb Bb y hy.1 ((HCB.out.below (bt HC.out.1 hy.2))) HOK.out HG.out HKB.out HQQ.out s lo hi ((HO.out.below HC.out.1).below hy.2) (HEV.out y hy.2); rw [HQ.out.1, HQ.out.2] at hsp; exact hsp.mono (fun e x' h => by obtain ⟨sb, he, ho, hb⟩ := h; exact ⟨_, he, KpF.below hb, sb, ⟨rfl, clusA_one ho⟩, ho.low hy.2.size, bt hy.2 hb⟩)) (fun _ _ h => by obtain ⟨_, _, h⟩ := h; exact h.2) ?_
    · unfold flP zeroC
      go_simp
      try with_reducible rfl
    · go_simp
      try with_reducible rfl
    intro vc
    refine fl_ex (fun sb => fl_and (fun hvc => ?_))
    obtain ⟨rfl, hone⟩ := hvc
    simp only [Act.put, List.setIfInBounds_toArray, List.set_cons_zero, List.set_cons_succ]
    refine fl_take (j := 4) (e' := some 8) (v := .tuple #[clusV Q sb, .int .i64 R]) rfl rfl rfl rfl (by kernel_rfl) (by kernel_rfl) (by kernel_rfl) (by kernel_rfl) (by kernel_rfl) (by decide) (by kernel_rfl) (fun _ _ _ h => h) (fun _ h => h.2) (Or.inl ⟨by rfl, ?_⟩) ?_
    · intro x hx
      go_simp
      try with_reducible rfl
    simp only [Act.put, List.setIfInBounds_toArray, List.set_cons_zero, List.set_cons_succ]
    refine fl_take (j := 5) (e' := some 13) (v := clusV Q sb) rfl rfl rfl rfl (by kernel_rfl) (by kernel_rfl) (by kernel_rfl) (by kernel_rfl) (by kernel_rfl) (by decide) (by kernel_rfl) (fun _ _ _ h => h) (fun _ h => h.2) (Or.inl ⟨by rfl, ?_⟩) ?_
    · intro x hx
      go_simp
      try with_reducible rfl
    simp only [Act.put, List.setIfInBounds_toArray, List.set_cons_zero, List.set_cons_succ]
    refine fl_take (j := 6) (e' := some 14) (v := .int .i64 R) rfl rfl rfl rfl (by kernel_rfl) (by kernel_rfl) (by kernel_rfl) (by kernel_rfl) (by kernel_rfl) (by decide) (by kernel_rfl) (fun _ _ _ h => h) (fun _ h => h.2) (Or.inl ⟨by rfl, ?_⟩) ?_
    · intro x hx
      go_simp
      try with_reducible rfl
    simp only [Act.put, List.setIfInBounds_toArray, List.set_cons_zero, List.set_cons_succ]
    refine fl_out (f := 2) rfl rfl ⟨rfl, fun ρ x => ?_⟩ (fun _ h => h.2.size) (fun a b h hb => ⟨(h.1.below hb).wide hb.size (Nat.le_refl _), bt h.2 hb⟩) (fun _ h => h.2) (by kernel_rfl) ?_
    · unfold flP zeroC
      go_simp
      try with_reducible rfl
    intro N0 y hT hN hold
    simp only [Act.put, List.setIfInBounds_toArray, List.set_cons_zero, List.set_cons_succ]
    refine h_store (s := 8) (N := N0) (cells := clusA Q sb) rfl rfl rfl rfl (by kernel_rfl) rfl rfl hold (by kernel_rfl) rfl hone ?_
    intro x1 hgr hnew
    have hlt : N0 < x1.heap.size := (Array.getElem?_eq_some_iff.1 hnew).1
    have hb : Below W.heap.size W x1 := hT.2.grown hgr hT.2.size (fun k hk => by cases hk; exact hN)
    refine ⟨hb, ?_⟩
    refine h_take (j := 9) (e' := some 7) (v := .int .i64 R) rfl rfl (by kernel_rfl) (by kernel_rfl) (by kernel_rfl) (fun _ _ _ h => h) (Or.inl ⟨by rfl, ?_⟩) hb ?_
    · intro x hx
      go_simp
      try with_reducible rfl
    simp only [Act.put, List.setIfInBounds_toArray, List.set_cons_zero, List.set_cons_succ]
    refine wpAnyH_done (by kernel_rfl) ?_ _
    have HX1 : Hid (Below w.heap.size w x1 ∧ x1.heap[N0]? = some (.cells (clusA Q sb) 43 (0, 0)) ∧ OwnC W.heap.size x1.heap.size x1 Q sb ∧ x1.heap[w.heap.size + 1]? = some (.cells (blkA b cb) 61 (0, 0)) ∧ x1.heap[w.heap.size + 1 + 1]? = some (.cells zeroC 43 (0, 0)) ∧ W.heap.size ≤ N0 ∧ N0 < x1.heap.size ∧ W.heap.size ≤ x1.heap.size) := ⟨bt HC.out.1 hb, hnew, (hT.1.boxT hold hgr).wide hgr.size (Nat.le_refl _), (hb.block _ (Array.getElem?_eq_some_iff.1 HC.out.2.2.1).1).trans HC.out.2.2.1, (hb.block _ (Array.getElem?_eq_some_iff.1 HC.out.2.2.2).1).trans HC.out.2.2.2, hN, hlt, hb.size⟩
    have HBX1 : Hid (Below W.heap.size W x1) := hb
    clear hT hN hold hgr hnew hlt hb hone
    unfold flP
    go_wp2
    refine wp_region_H (fun x => x.heap[N0]? = some (.cells (clusA Q sb) 43 (0, 0)) ∧ x.heap[w.heap.size + 1]? = some (.cells (blkA b cb) 61 (0, 0))) (by kernel_rfl) ?_
    show wpAnyH Tryz.prog _ _ _ _ (6 + 1) (Array.replicate 7 false) _ _
    have hS : x1.drew.heap[N0]? = some (.cells (clusA Q sb) 43 (0, 0)) ∧ x1.drew.heap[w.heap.size + 1]? = some (.cells (blkA b cb) 61 (0, 0)) := ⟨HX1.out.2.1, HX1.out.2.2.2.1⟩
    refine h_take (j := 0) (e' := some 18) (v := clusV Q sb) rfl rfl (by kernel_rfl) (by kernel_rfl) (by kernel_rfl) (fun _ _ _ h => h) (Or.inl ⟨by rfl, fun x hx => exec_load_blk _ _ rfl N0 rfl _ _ _ _ hx.1 Tryz.underlying43 rfl (by kernel_rfl)⟩) hS ?_
    simp only [Act.put, List.setIfInBounds_toArray, List.set_cons_zero, List.set_cons_succ]
    refine h_take (j := 1) (e' := some 19) (v := .pointer (some ⟨N0, 3, none⟩)) rfl rfl (by kernel_rfl) (by kernel_rfl) (by kernel_rfl) (fun _ _ _ h => h) (Or.inl ⟨by rfl, ?_⟩) hS ?_
    · intro x hx
      go_simp
      try with_reducible rfl
    simp only [Act.put, List.setIfInBounds_toArray, List.set_cons_zero, List.set_cons_succ]
    refine h_take (j := 2) (e' := some 20) (v := sb.treeV) rfl rfl (by kernel_rfl) (by kernel_rfl) (by kernel_rfl) (fun _ _ _ h => h) (Or.inl ⟨by rfl, ?_⟩) hS ?_
    · intro x hx
      have c3 := blk_cell hx.1 3 sb.treeV rfl
      go_simp
      try with_reducible rfl
    simp only [Act.put, List.setIfInBounds_toArray, List.set_cons_zero, List.set_cons_succ]
    refine h_take (j := 3) (e' := some 21) (v := blkV b cb) rfl rfl (by kernel_rfl) (by kernel_rfl) (by kernel_rfl) (fun _ _ _ h => h) (Or.inl ⟨by rfl, fun x hx => exec_load_blk _ _ rfl (w.heap.size + 1) rfl _ _ _ _ hx.2 Tryz.underlying61 rfl (by kernel_rfl)⟩) hS ?_
    simp only [Act.put, List.setIfInBounds_toArray, List.set_cons_zero, List.set_cons_succ]
    have hat := blockAt_i sb.tree sb.treeV b cb x1.drew ((HX1.out.2.2.1.tree.read.below (Below.refl _ _).drew)) ((HCB.out.below HX1.out.1).below (Below.refl _ _).drew) (by rw [HX1.out.2.2.1.etree, HF.out.2.1]; exact HF.out.2.2.2) HKB.out
    rw [HX1.out.2.2.1.etree, HF.out.2.1, HF.out.2.2.1, HA.out] at hat
    refine h_call (c := 4) (e' := some 22) (fn := 61) (args := #[sb.treeV, blkV b cb]) rfl rfl (by kernel_rfl) (by rfl) ?_ (hat.mono ?_)
    · go_simp
      try with_reducible rfl
    rintro e x2 ⟨rfl, hb0⟩
    have hb : Below x1.heap.size x1 x2 := ((Below.refl _ _).drew).trans hb0
    have hS2 : x2.heap[N0]? = some (.cells (clusA Q sb) 43 (0, 0)) ∧ x2.heap[w.heap.size + 1]? = some (.cells (blkA b cb) 61 (0, 0)) := ⟨(hb.block _ (Array.getElem?_eq_some_iff.1 HX1.out.2.1).1).trans HX1.out.2.1, (hb.block _ (Array.getElem?_eq_some_iff.1 HX1.out.2.2.2.1).1).trans HX1.out.2.2.2.1⟩
    have hold : x2.heap[w.heap.size + 1 + 1]? = some (.cells zeroC 43 (0, 0)) := (hb.block _ (Array.getElem?_eq_some_iff.1 HX1.out.2.2.2.2.1).1).trans HX1.out.2.2.2.2.1
    have hbw : Below w.heap.size w x2 := bt HX1.out.1 hb
    have ho2 : OwnC W.heap.size x1.heap.size x2 Q sb := HX1.out.2.2.1.below hb
    have hsz := hb.size
    clear hS hat hb0 hb
    refine ⟨_, rfl, hS2, ?_⟩
    simp only [Act.put, List.setIfInBounds_toArray, List.set_cons_zero, List.set_cons_succ]
    refine h_store (s := 5) (N := w.heap.size + 1 + 1) (cells := clusA Q sb) rfl rfl rfl rfl (by kernel_rfl) rfl rfl hold (by kernel_rfl) rfl (clusA_one ho2) ?_
    intro z hgr hnew
    have hS3 : z.heap[N0]? = some (.cells (clusA Q sb) 43 (0, 0)) ∧ z.heap[w.heap.size + 1]? = some (.cells (blkA b cb) 61 (0, 0)) := ⟨(hgr.block _ (Array.getElem?_eq_some_iff.1 hS2.1).1 (fun e => by have := Option.some.inj e; have := HWS.out; have := HX1.out.2.2.2.2.2; omega)).trans hS2.1, (hgr.block _ (Array.getElem?_eq_some_iff.1 hS2.2).1 (fun e => by have := Option.some.inj e; omega)).trans hS2.2⟩
    have HBz : Hid (Below w.heap.size w z ∧ z.heap[w.heap.size + 1 + 1]? = some (.cells (clusA Q sb) 43 (0, 0)) ∧ OwnC w.heap.size z.heap.size z Q sb) := ⟨hbw.grown hgr hbw.size (fun k hk => by cases hk; omega), hnew, ((ho2.boxT hold hgr).low (by have := HWS.out; omega)).wide (Nat.le_trans hsz hgr.size) (Nat.le_refl _)⟩
    clear hgr hnew ho2 hbw hold hS2 hsz
    refine ⟨hS3, ?_⟩
    refine h_take (j := 6) (e' := some 5) (v := .int .i64 A) rfl rfl (by kernel_rfl) (by kernel_rfl) (by kernel_rfl) (fun _ _ _ h => h) (Or.inl ⟨by rfl, ?_⟩) hS3 ?_
    · intro x hx
      go_simp
      try with_reducible rfl
    simp only [Act.put, List.setIfInBounds_toArray, List.set_cons_zero, List.set_cons_succ]
    refine wpAnyH_done (by kernel_rfl) ?_ _
    clear hS3
    go_wp2
    refine bodyPost_ret (v := .tuple #[.agg (clusA Q sb), .int .i64 A]) (results_ct Tryz.results19 _ _ (w.heap.size + 1 + 1) 43 _ (0, 0) _ _ rfl HBz.out.2.1 Tryz.underlying43 rfl (by kernel_rfl) rfl) rfl ?_
    exact ⟨sb, rfl, HBz.out.2.2, HBz.out.1⟩
  · have HF : Hid (handBlockF c b = (Q, -1)) := by
      refine (?_ : handBlockF c b = (Q, -1))
      rcases handCode_cases c b with ⟨_, h2, h3⟩ | ⟨h1, _⟩
      · rw [h2, hQ, h3]
      · exact absurd (hR.trans h1) hr
    rw [HF.out]
    have b0 : (R != (0 : Int)) = true := by simpa using hr
    clear hR hQ hr
    go_enter Tryz.func19, Tryz.ntmps19
    go_wp2_with (rw [← hW]; clear hW)
    refine wp_region_H (Below W.heap.size W) (by kernel_rfl) ?_
    show wpAnyH Tryz.prog _ _ _ _ (9 + 1) (Array.replicate 10 false) _ _
    refine fl_in (i := 7) (d := some 6) (obj := .cells zeroC 43 (0, 0)) (base := W.heap.size) (T := Below W.heap.size W) (f := 9) ?_ (Below.refl _ _).drew
    refine fl_take (j := 0) (e' := some 9) (v := clusV c s) rfl rfl rfl rfl (by kernel_rfl) (by kernel_rfl) (by kernel_rfl) (by kernel_rfl) (by kernel_rfl) (by decide) (by kernel_rfl) (fun _ _ _ h => h) (fun _ h => h) (Or.inl ⟨by rfl, ?_⟩) ?_
    · exact fun y hy => exec_load_blk _ _ rfl w.heap.size rfl _ _ _ _ ((hy.block _ (Array.getElem?_eq_some_iff.1 HC.out.2.1).1).trans HC.out.2.1) Tryz.underlying43 rfl (by kernel_rfl)
    simp only [Act.put, List.setIfInBounds_toArray, List.set_cons_zero, List.set_cons_succ]
    refine fl_take (j := 1) (e' := some 10) (v := blkV b cb) rfl rfl rfl rfl (by kernel_rfl) (by kernel_rfl) (by kernel_rfl) (by kernel_rfl) (by kernel_rfl) (by decide) (by kernel_rfl) (fun _ _ _ h => h) (fun _ h => h) (Or.inl ⟨by rfl, ?_⟩) ?_
    · exact fun y hy => exec_load_blk _ _ rfl (w.heap.size + 1) rfl _ _ _ _ ((hy.block _ (Array.getElem?_eq_some_iff.1 HC.out.2.2.1).1).trans HC.out.2.2.1) Tryz.underlying61 rfl (by kernel_rfl)
    simp only [Act.put, List.setIfInBounds_toArray, List.set_cons_zero, List.set_cons_succ]
    refine fl_call (c := 2) (e' := some 11) (fn := 60) (args := #[blkV b cb]) (T' := fun v' y => ∃ Bb, v' = .func (.func 97) #[] #[.pointer (some ⟨Bb, 0, none⟩)] ∧ (y.heap[Bb]? = some (.cells (blkA b cb) 61 (0, 0)) ∧ Below W.heap.size W y)) rfl rfl ⟨rfl, fun ρ x => ?_⟩ (fun _ h => h.size) (fun a b h hb => bt h hb) (fun _ h => h) rfl rfl (by kernel_rfl) (Or.inl (by kernel_rfl)) (by kernel_rfl) (by decide) (by kernel_rfl) (by rfl) (fun x => ?_) (fun y hy => (handedBlock_i b cb y).mono (fun e x' h => by obtain ⟨he, rfl⟩ := h; exact ⟨_, he, KpF.below (alloc_below y _), y.heap.size, rfl, alloc_new y _, bt hy (alloc_below y _)⟩)) (fun _ _ h => by obtain ⟨_, _, _, h⟩ := h; exact h) ?_
    · unfold flP zeroC
      go_simp
      try with_reducible rfl
    · go_simp
      try with_reducible rfl
    intro va
    refine fl_ex (fun Bb => fl_and (fun hva => ?_))
    subst hva
    simp only [Act.put, List.setIfInBounds_toArray, List.set_cons_zero, List.set_cons_succ]
    refine fl_call (c := 3) (e' := some 12) (fn := 46) (args := #[clusV c s, .func (.func 97) #[] #[.pointer (some ⟨Bb, 0, none⟩)]]) (T' := fun v' y => ∃ sb, (v' = .tuple #[clusV Q sb, .int .i64 R] ∧ (clusA Q sb).all (·.oneCell') = true) ∧ (OwnC W.heap.size y.heap.size y Q sb ∧ Below W.heap.size W y)) rfl rfl ⟨rfl, fun ρ x => ?_⟩ (fun _ h => h.2.size) (fun a b h hb => ⟨(hb.block _ (Array.getElem?_eq_some_iff.1 h.1).1).trans h.1, bt h.2 hb⟩) (fun _ h => h.2) rfl rfl (by kernel_rfl) (Or.inl (by kernel_rfl)) (by kernel_rfl) (by decide) (by kernel_rfl) (by rfl) (fun x => ?_) (fun y hy => by have hsp := tried_i c b cb Bb y hy.1 ((HCB.out.below (bt HC.out.1 hy.2))) HOK.out HG.out HKB.out HQQ.out s lo hi ((HO.out.below HC.out.1).below hy.2) (HEV.out y hy.2); rw [HQ.out.1, HQ.out.2] at hsp; exact hsp.mono (fun e x' h => by obtain ⟨sb, he, ho, hb⟩ := h; exact ⟨_, he, KpF.below hb, sb, ⟨rfl, clusA_one ho⟩, ho.low hy.2.size, bt hy.2 hb⟩)) (fun _ _ h => by obtain ⟨_, _, h⟩ := h; exact h.2) ?_
    · unfold flP zeroC
      go_simp
      try with_reducible rfl
    · go_simp
      try with_reducible rfl
    intro vc
    refine fl_ex (fun sb => fl_and (fun hvc => ?_))
    obtain ⟨rfl, hone⟩ := hvc
    simp only [Act.put, List.setIfInBounds_toArray, List.set_cons_zero, List.set_cons_succ]
    refine fl_take (j := 4) (e' := some 8) (v := .tuple #[clusV Q sb, .int .i64 R]) rfl rfl rfl rfl (by kernel_rfl) (by kernel_rfl) (by kernel_rfl) (by kernel_rfl) (by kernel_rfl) (by decide) (by kernel_rfl) (fun _ _ _ h => h) (fun _ h => h.2) (Or.inl ⟨by rfl, ?_⟩) ?_
    · intro x hx
      go_simp
      try with_reducible rfl
    simp only [Act.put, List.setIfInBounds_toArray, List.set_cons_zero, List.set_cons_succ]
    refine fl_take (j := 5) (e' := some 13) (v := clusV Q sb) rfl rfl rfl rfl (by kernel_rfl) (by kernel_rfl) (by kernel_rfl) (by kernel_rfl) (by kernel_rfl) (by decide) (by kernel_rfl) (fun _ _ _ h => h) (fun _ h => h.2) (Or.inl ⟨by rfl, ?_⟩) ?_
    · intro x hx
      go_simp
      try with_reducible rfl
    simp only [Act.put, List.setIfInBounds_toArray, List.set_cons_zero, List.set_cons_succ]
    refine fl_take (j := 6) (e' := some 14) (v := .int .i64 R) rfl rfl rfl rfl (by kernel_rfl) (by kernel_rfl) (by kernel_rfl) (by kernel_rfl) (by kernel_rfl) (by decide) (by kernel_rfl) (fun _ _ _ h => h) (fun _ h => h.2) (Or.inl ⟨by rfl, ?_⟩) ?_
    · intro x hx
      go_simp
      try with_reducible rfl
    simp only [Act.put, List.setIfInBounds_toArray, List.set_cons_zero, List.set_cons_succ]
    refine fl_out (f := 2) rfl rfl ⟨rfl, fun ρ x => ?_⟩ (fun _ h => h.2.size) (fun a b h hb => ⟨(h.1.below hb).wide hb.size (Nat.le_refl _), bt h.2 hb⟩) (fun _ h => h.2) (by kernel_rfl) ?_
    · unfold flP zeroC
      go_simp
      try with_reducible rfl
    intro N0 y hT hN hold
    simp only [Act.put, List.setIfInBounds_toArray, List.set_cons_zero, List.set_cons_succ]
    refine h_store (s := 8) (N := N0) (cells := clusA Q sb) rfl rfl rfl rfl (by kernel_rfl) rfl rfl hold (by kernel_rfl) rfl hone ?_
    intro x1 hgr hnew
    have hlt : N0 < x1.heap.size := (Array.getElem?_eq_some_iff.1 hnew).1
    have hb : Below W.heap.size W x1 := hT.2.grown hgr hT.2.size (fun k hk => by cases hk; exact hN)
    refine ⟨hb, ?_⟩
    refine h_take (j := 9) (e' := some 7) (v := .int .i64 R) rfl rfl (by kernel_rfl) (by kernel_rfl) (by kernel_rfl) (fun _ _ _ h => h) (Or.inl ⟨by rfl, ?_⟩) hb ?_
    · intro x hx
      go_simp
      try with_reducible rfl
    simp only [Act.put, List.setIfInBounds_toArray, List.set_cons_zero, List.set_cons_succ]
    refine wpAnyH_done (by kernel_rfl) ?_ _
    have HX1 : Hid (Below w.heap.size w x1 ∧ x1.heap[N0]? = some (.cells (clusA Q sb) 43 (0, 0)) ∧ OwnC W.heap.size x1.heap.size x1 Q sb ∧ x1.heap[w.heap.size + 1]? = some (.cells (blkA b cb) 61 (0, 0)) ∧ x1.heap[w.heap.size + 1 + 1]? = some (.cells zeroC 43 (0, 0)) ∧ W.heap.size ≤ N0 ∧ N0 < x1.heap.size ∧ W.heap.size ≤ x1.heap.size) := ⟨bt HC.out.1 hb, hnew, (hT.1.boxT hold hgr).wide hgr.size (Nat.le_refl _), (hb.block _ (Array.getElem?_eq_some_iff.1 HC.out.2.2.1).1).trans HC.out.2.2.1, (hb.block _ (Array.getElem?_eq_some_iff.1 HC.out.2.2.2).1).trans HC.out.2.2.2, hN, hlt, hb.size⟩
    have HBX1 : Hid (Below W.heap.size W x1) := hb
    clear hT hN hold hgr hnew hlt hb hone
    unfold flP
    go_wp2_with (first
      | (refine wpList_load_row rfl _ _ rfl N0 rfl 43 _ (0, 0) _ HX1.out.2.1 Tryz.underlying43 rfl (by kernel_rfl) ?_)
      | (refine wpList_store_blk rfl _ _ _ rfl (w.heap.size + 1 + 1) (clusA Q sb) rfl rfl 43 zeroC HX1.out.2.2.2.2.1 (by kernel_rfl) rfl (clusA_one HX1.out.2.2.1) ?_; intro z hgr hnew hz; have HBz : Hid (Below w.heap.size w z ∧ z.heap[w.heap.size + 1 + 1]? = some (.cells (clusA Q sb) 43 (0, 0)) ∧ OwnC w.heap.size z.heap.size z Q sb) := ⟨HX1.out.1.grown hgr HX1.out.1.size (fun k hk => by cases hk; omega), hnew, ((HX1.out.2.2.1.boxT HX1.out.2.2.2.2.1 hgr).low (by have := HWS.out; omega)).wide hgr.size (Nat.le_refl _)⟩; clear hgr hnew hz))
    refine bodyPost_ret (v := .tuple #[.agg (clusA Q sb), .int .i64 (-1)]) (results_ct Tryz.results19 _ _ (w.heap.size + 1 + 1) 43 _ (0, 0) _ _ rfl HBz.out.2.1 Tryz.underlying43 rfl (by kernel_rfl) rfl) rfl ?_
    exact ⟨sb, rfl, HBz.out.2.2, HBz.out.1⟩

end Go.Proofs.YtcfgfhodbjakoavGreatDoor
