/-
  The walk of the law FnExactHandBlock: the specification's answer and the program's are the same; what came in is as it was; the program's answer owns its memory. (Made by ghw16.py.)
-/
import Derived.Test.YtcfgfhodbjakoavGreatDoorJ3
import Derived.Test.YtcfgfhodbjakoavGreatDoorRegH
import Derived.Test.YtcfgfhodbjakoavGreatDoorFloatY
import Derived.Test.YtcfgfhodbjakoavGreatDoorTreeO
import Derived.Test.YtcfgfhodbjakoavGreatDoorJ2
import Derived.Test.YtcfgfhodbjakoavGreatDoorClusP
import Derived.Test.YtcfgfhodbjakoavGreatDoorErrV
namespace Go.Proofs.YtcfgfhodbjakoavGreatDoor
open Go.RowKit Num
/-- a function of a cluster and a block -/
def ConHB (f : FuncId) (F : CU → BK → CU × Int) : Prop := ∀ (c : CU) (b : BK) (cb : Value) (w : World) (_ : RowsR w cb 3 cmdF b.2.1) (_ : okC c) (_ : goodC c) (_ : okB b) (_ : wfQ b.2.2) (s : CW) (lo hi : Nat) (_ : OwnC lo hi w c s) (_ : ErrVar w), Calls Tryz.prog f #[clusV c s, blkV b cb] w fun e w' => ∃ s', e = .returned (.tuple #[clusV (F c b).1 s', .int .i64 (F c b).2]) ∧ OwnC w.heap.size w'.heap.size w' (F c b).1 s' ∧ Below w.heap.size w w'
def FitHB (F : CU → BK → CU × Int) : Prop := ∀ (c : CU) (b : BK), okC c → okB b → wtCl c + b.2.1.length ≤ 1048576 → okC (F c b).1 ∧ wtCl (F c b).1 ≤ 1200000
set_option maxRecDepth 100000 in
theorem markBlock_big (b : BK) (cv : Value) (k n base : Nat) (xs : List Value) (w : World) (h : w.ownsRow base 126 3 cv n xs) (hk : 0 < k) (hk2 : k ≤ 100000000) (hn : n ≤ 1048576) :
    Calls Tryz.prog 21 #[blkV b cv, .int .i64 k] w fun e w' => e = .returned (.int .i64 ((k + 3 * n : Nat) : Int)) ∧ w.grownBy w' cv.ownBlock := by
  have HO : Hid (w.ownsRow base 126 3 cv n xs) := h
  obtain ⟨a, cap, rfl, _⟩ := own_form h
  unfold blkV
  clear h
  go_enter Tryz.func21, Tryz.ntmps21
  go_wp2_with fail
  refine (markCmds_set n k _ base xs _ (World.ownsRow.alloc HO.out _) hk hk2 hn).mono ?_
  rintro e w2 ⟨rfl, hown, hg⟩
  have HR : Hid (w.grownBy w2 (Value.slice a n cap).ownBlock) := grown_trans (grown_any (below_grown (ba (Below.refl _ _) _))) hg
  clear hown hg
  go_wp2
  go_ret
  exact ⟨rfl, HR.out⟩
theorem blkA_one {b : BK} {cv : Value} (h : cv.oneCell' = true) : (blkA b cv).all (·.oneCell') = true := by simp [blkA, h, show ∀ x : Int, (Value.int .i64 x).oneCell' = true from fun _ => rfl]
end Go.Proofs.YtcfgfhodbjakoavGreatDoor
namespace Go.Proofs.YtcfgfhodbjakoavGreatDoor.WFnExactHandBlock
open Go.RowKit Num

set_option maxRecDepth 100000 in
set_option maxHeartbeats 16000000 in
theorem walk_of (F : CU → BK → CU × Int) (HF : FitHB F) (HSp : ConHB 17 F) (HI : ConHB 19 F) (w : World) (hev : ErrVar w) (c : CU) (s : CW) (hR : ClusR w c s) (hg : goodC c) (b : BK) (cb : Value) (hbk : goodBlk w (b, cb)) :
    Calls Tryz.prog 5 #[clusV c s, blkV b cb] w fun e w' => e = .returned (.bool true) ∧ Below w.heap.size w w' := by
  have HR : Hid (ClusR w c s) := hR
  have HG : Hid (goodC c) := hg
  have HEV : Hid (ErrVar w) := hev
  have HBK : Hid (RowsR w cb 3 cmdF b.2.1 ∧ goodBk b ∧ wfB b) := hbk
  clear hR hg hev hbk
  rw [show blkV b cb = .agg (blkA b cb) from rfl]
  obtain ⟨X, hX⟩ : ∃ X, X = (w.alloc (.cells (clusA c s) 28)).alloc (.cells (blkA b cb) 56) := ⟨_, rfl⟩
  have HB : Hid (Below w.heap.size w X) := (by rw [hX]; exact ba (ba (Below.refl _ _) _) _ : Below w.heap.size w X)
  have HKa : Hid (X.heap[w.heap.size]? = Option.some (.cells (clusA c s) 28 (0, 0))) := (by rw [hX]; exact (alloc2 w _ _).1 : X.heap[w.heap.size]? = _)
  have HKx : Hid (X.heap[(w.heap.size + 1)]? = Option.some (.cells (blkA b cb) 56 (0, 0))) := (by rw [hX]; exact (alloc2 w _ _).2 : X.heap[w.heap.size + 1]? = _)
  have HZ0 : Hid (w.heap.size + 1 < X.heap.size) := (Array.getElem?_eq_some_iff.1 HKx.out).1
  go_enter Tryz.func5, Tryz.ntmps5
  go_wp2_with (first | (rw [← hX]; clear hX; (refine wpList_load_row rfl _ _ rfl w.heap.size rfl 28 _ (0, 0) _ HKa.out Tryz.underlying28 rfl (by kernel_rfl) ?_)) | (refine wpList_load_row rfl _ _ rfl w.heap.size rfl 28 _ (0, 0) _ HKa.out Tryz.underlying28 rfl (by kernel_rfl) ?_))
  refine (szCluster_any c s 1048576 X (by decide) (by decide) (HR.out.below HB.out) HG.out).mono ?_
  rintro e x1 ⟨z, rfl, hz, hb⟩
  have HBN : Hid (Below w.heap.size w x1) := bt HB.out hb
  have HKaN : Hid (x1.heap[w.heap.size]? = Option.some (.cells (clusA c s) 28 (0, 0))) := (hb.block _ (Array.getElem?_eq_some_iff.1 HKa.out).1).trans HKa.out
  have HKxN : Hid (x1.heap[(w.heap.size + 1)]? = Option.some (.cells (blkA b cb) 56 (0, 0))) := (hb.block _ (Array.getElem?_eq_some_iff.1 HKx.out).1).trans HKx.out
  have HZ1 : Hid (X.heap.size ≤ x1.heap.size) := hb.size
  clear HB HKa HKx
  have HB := HBN
  clear HBN
  have HKa := HKaN
  clear HKaN
  have HKx := HKxN
  clear HKxN
  clear hb
  rcases hz with rfl | ⟨z0, hsum, hok⟩
  · go_wp2
    go_ret
    exact ⟨rfl, HB.out⟩
  have HO : Hid (okC c) := hok
  have HZZ : Hid (z ≤ 1048576 ∧ 0 ≤ z ∧ z + (wtCl c : Int) ≤ 1048576) := (by omega : _ ∧ _ ∧ _)
  have hzn : ¬ z < 0 := by omega
  clear hok hsum
  go_wp2_with (first | (refine wpList_load_row rfl _ _ rfl w.heap.size rfl 28 _ (0, 0) _ HKa.out Tryz.underlying28 rfl (by kernel_rfl) ?_) | (refine wpList_load_row rfl _ _ rfl (w.heap.size + 1) rfl 56 _ (0, 0) _ HKx.out Tryz.underlying56 rfl (by kernel_rfl) ?_) | (refine wpList_load_row_w (by first | rfl | simp [Region.wanted, yielded] | simp [Region.wanted, yielded, hk0]) _ _ rfl w.heap.size rfl 28 _ (0, 0) _ HKa.out Tryz.underlying28 rfl (by kernel_rfl) ?_) | (refine wpList_load_row_w (by first | rfl | simp [Region.wanted, yielded] | simp [Region.wanted, yielded, hk0]) _ _ rfl (w.heap.size + 1) rfl 56 _ (0, 0) _ HKx.out Tryz.underlying56 rfl (by kernel_rfl) ?_))
  refine (szBlock_any b cb z x1 z0 HZZ.out.1 (HBK.out.1.below HB.out) HBK.out.2.1).mono ?_
  rintro e x2 ⟨rfl, hb⟩
  have HBN : Hid (Below w.heap.size w x2) := bt HB.out hb
  have HKaN : Hid (x2.heap[w.heap.size]? = Option.some (.cells (clusA c s) 28 (0, 0))) := (hb.block _ (Array.getElem?_eq_some_iff.1 HKa.out).1).trans HKa.out
  have HKxN : Hid (x2.heap[(w.heap.size + 1)]? = Option.some (.cells (blkA b cb) 56 (0, 0))) := (hb.block _ (Array.getElem?_eq_some_iff.1 HKx.out).1).trans HKx.out
  have HZ2 : Hid (x1.heap.size ≤ x2.heap.size) := hb.size
  clear HB HKa HKx
  have HB := HBN
  clear HBN
  have HKa := HKaN
  clear HKaN
  have HKx := HKxN
  clear HKxN
  clear hb
  by_cases hn1 : szBk b z < 0
  · go_wp2
    go_ret
    exact ⟨rfl, HB.out⟩
  have HKB : Hid (okB b) := szBk_bd HZZ.out.1 (Int.not_lt.1 hn1)
  have HWT : Hid (wtCl c + b.2.1.length ≤ 1048576) := (by have h1 := szBk_wt (b := b) (left := z) (Int.not_lt.1 hn1); have := HZZ.out; omega : wtCl c + b.2.1.length ≤ 1048576)
  have HFQ : Hid (okC (F c b).1 ∧ wtCl (F c b).1 ≤ 1200000) := HF c b HO.out HKB.out HWT.out
  obtain ⟨Q, hQ⟩ : ∃ Q, Q = (F c b).1 := ⟨_, rfl⟩
  obtain ⟨A, hAA⟩ : ∃ A, A = (F c b).2 := ⟨_, rfl⟩
  have HQ : Hid ((F c b).1 = Q ∧ (F c b).2 = A) := ⟨hQ.symm, hAA.symm⟩
  rw [← hQ] at HFQ
  clear hQ hAA
  have hqq : (A != A) = false := by simp
  obtain ⟨z2, hz2⟩ : ∃ z2, z2 = szBk b z := ⟨_, rfl⟩
  rw [← hz2] at hn1 ⊢
  clear hz2
  go_wp2
  refine wp_region_H (Below x2.heap.size x2) (by kernel_rfl) ?_
  show wpAnyH Tryz.prog _ _ _ _ (10 + 1) (Array.replicate 11 false) _ _
  refine fl_in (i := 8) (d := some 6) (obj := .cells zeroC 43 (0, 0)) (base := x2.heap.size) (T := Below x2.heap.size x2) (f := 10) ?_ (Below.refl _ _).drew
  refine fl_take (j := 0) (e' := some 28) (v := .agg (clusA c s)) rfl rfl rfl rfl (by kernel_rfl) (by kernel_rfl) (by kernel_rfl) (by kernel_rfl) (by kernel_rfl) (by decide) (by kernel_rfl) (fun _ _ _ h => h) (fun _ h => h) (Or.inl ⟨by rfl, ?_⟩) ?_
  · exact fun y hy => exec_load_blk _ _ rfl w.heap.size rfl _ _ _ _ ((hy.block _ (Array.getElem?_eq_some_iff.1 HKa.out).1).trans HKa.out) Tryz.underlying28 rfl (by kernel_rfl)
  simp only [Act.put, List.setIfInBounds_toArray, List.set_cons_zero, List.set_cons_succ]
  refine fl_take (j := 2) (e' := some 30) (v := .agg (blkA b cb)) rfl rfl rfl rfl (by kernel_rfl) (by kernel_rfl) (by kernel_rfl) (by kernel_rfl) (by kernel_rfl) (by decide) (by kernel_rfl) (fun _ _ _ h => h) (fun _ h => h) (Or.inl ⟨by rfl, ?_⟩) ?_
  · exact fun y hy => exec_load_blk _ _ rfl (w.heap.size + 1) rfl _ _ _ _ ((hy.block _ (Array.getElem?_eq_some_iff.1 HKx.out).1).trans HKx.out) Tryz.underlying56 rfl (by kernel_rfl)
  simp only [Act.put, List.setIfInBounds_toArray, List.set_cons_zero, List.set_cons_succ]
  refine fl_call (c := 1) (e' := some 29) (fn := 8) (args := #[.agg (clusA c s)]) (T' := fun v' y => ∃ sa, v' = clusV c sa ∧ (OwnC x2.heap.size y.heap.size y c sa ∧ Below x2.heap.size x2 y)) rfl rfl ⟨rfl, fun ρ x => ?_⟩ (fun _ h => h.size) (fun a b h hb => bt h hb) (fun _ h => h) rfl rfl (by kernel_rfl) (Or.inl (by kernel_rfl)) (by kernel_rfl) (by decide) (by kernel_rfl) (by rfl) (fun x => ?_) (fun y hy => (toCluster_any c s y (HR.out.below (bt HB.out hy)) HO.out).mono (fun e x' h => by obtain ⟨sa, he, ho, hb⟩ := h; exact ⟨_, he, KpF.below hb, sa, rfl, ho.low hy.size, bt hy hb⟩)) (fun _ _ h => by obtain ⟨_, _, _, h⟩ := h; exact h) ?_
  · unfold flP zeroC
    go_simp
    try with_reducible rfl
  · go_simp
    try with_reducible rfl
  intro va
  refine fl_ex (fun sa => fl_and (fun hva => ?_))
  subst hva
  simp only [Act.put, List.setIfInBounds_toArray, List.set_cons_zero, List.set_cons_succ]
  refine fl_call (c := 3) (e' := some 31) (fn := 18) (args := #[.agg (blkA b cb)]) (T' := fun v' y => ∃ cz, v' = .agg (blkA b cz) ∧ (RowsR y cz 3 cmdF b.2.1 ∧ OwnC x2.heap.size y.heap.size y c sa ∧ Below x2.heap.size x2 y)) rfl rfl ⟨rfl, fun ρ x => ?_⟩ (fun _ h => h.2.size) (fun a b h hb => ⟨(h.1.below hb).wide hb.size (Nat.le_refl _), bt h.2 hb⟩) (fun _ h => h.2) rfl rfl (by kernel_rfl) (Or.inl (by kernel_rfl)) (by kernel_rfl) (by decide) (by kernel_rfl) (by rfl) (fun x => ?_) (fun y hy => (toBlock_any b cb y ((HBK.out.1).below (bt HB.out hy.2)) HKB.out.1).mono (fun e x' h => by obtain ⟨cz, he, ho, hb⟩ := h; exact ⟨_, he, KpF.below hb, cz, rfl, rows_of_own cmdF_len ho, (hy.1.below hb).wide hb.size (Nat.le_refl _), bt hy.2 hb⟩)) (fun _ _ h => by obtain ⟨_, _, _, _, h⟩ := h; exact h) ?_
  · unfold flP zeroC
    go_simp
    try with_reducible rfl
  · go_simp
    try with_reducible rfl
  intro vb
  refine fl_ex (fun cz => fl_and (fun hvb => ?_))
  subst hvb
  simp only [Act.put, List.setIfInBounds_toArray, List.set_cons_zero, List.set_cons_succ]
  refine fl_call (c := 4) (e' := some 32) (fn := 17) (args := #[clusV c sa, .agg (blkA b cz)]) (T' := fun v' y => ∃ sb, (v' = .tuple #[clusV Q sb, .int .i64 A] ∧ (clusA Q sb).all (·.oneCell') = true) ∧ (OwnC x2.heap.size y.heap.size y Q sb ∧ Below x2.heap.size x2 y)) rfl rfl ⟨rfl, fun ρ x => ?_⟩ (fun _ h => h.2.2.size) (fun a b h hb => ⟨h.1.below hb, (h.2.1.below hb).wide hb.size (Nat.le_refl _), bt h.2.2 hb⟩) (fun _ h => h.2.2) rfl rfl (by kernel_rfl) (Or.inl (by kernel_rfl)) (by kernel_rfl) (by decide) (by kernel_rfl) (by rfl) (fun x => ?_) (fun y hy => by have hsp := HSp c b cz y hy.1 HO.out HG.out HKB.out HBK.out.2.2.2.2.1 sa x2.heap.size y.heap.size hy.2.1 (HEV.out.below (bt HB.out hy.2.2)); rw [HQ.out.1, HQ.out.2] at hsp; exact hsp.mono (fun e x' h => by obtain ⟨sb, he, ho, hb⟩ := h; exact ⟨_, he, KpF.below hb, sb, ⟨rfl, clusA_one ho⟩, ho.low hy.2.2.size, bt hy.2.2 hb⟩)) (fun _ _ h => by obtain ⟨_, _, h⟩ := h; exact h.2) ?_
  · unfold flP zeroC
    go_simp
    try with_reducible rfl
  · go_simp
    try with_reducible rfl
  intro vc
  refine fl_ex (fun s2 => fl_and (fun hvc => ?_))
  obtain ⟨rfl, hone⟩ := hvc
  simp only [Act.put, List.setIfInBounds_toArray, List.set_cons_zero, List.set_cons_succ]
  refine fl_take (j := 5) (e' := some 27) (v := .tuple #[clusV Q s2, .int .i64 A]) rfl rfl rfl rfl (by kernel_rfl) (by kernel_rfl) (by kernel_rfl) (by kernel_rfl) (by kernel_rfl) (by decide) (by kernel_rfl) (fun _ _ _ h => h) (fun _ h => h.2) (Or.inl ⟨by rfl, ?_⟩) ?_
  · intro x hx
    go_simp
    try with_reducible rfl
  simp only [Act.put, List.setIfInBounds_toArray, List.set_cons_zero, List.set_cons_succ]
  refine fl_take (j := 6) (e' := some 33) (v := clusV Q s2) rfl rfl rfl rfl (by kernel_rfl) (by kernel_rfl) (by kernel_rfl) (by kernel_rfl) (by kernel_rfl) (by decide) (by kernel_rfl) (fun _ _ _ h => h) (fun _ h => h.2) (Or.inl ⟨by rfl, ?_⟩) ?_
  · intro x hx
    go_simp
    try with_reducible rfl
  simp only [Act.put, List.setIfInBounds_toArray, List.set_cons_zero, List.set_cons_succ]
  refine fl_take (j := 7) (e' := some 34) (v := .int .i64 A) rfl rfl rfl rfl (by kernel_rfl) (by kernel_rfl) (by kernel_rfl) (by kernel_rfl) (by kernel_rfl) (by decide) (by kernel_rfl) (fun _ _ _ h => h) (fun _ h => h.2) (Or.inl ⟨by rfl, ?_⟩) ?_
  · intro x hx
    go_simp
    try with_reducible rfl
  simp only [Act.put, List.setIfInBounds_toArray, List.set_cons_zero, List.set_cons_succ]
  refine fl_out (f := 2) rfl rfl ⟨rfl, fun ρ x => ?_⟩ (fun _ h => h.2.size) (fun a b h hb => ⟨(h.1.below hb).wide hb.size (Nat.le_refl _), bt h.2 hb⟩) (fun _ h => h.2) (by kernel_rfl) ?_
  · unfold flP zeroC
    go_simp
    try with_reducible rfl
  intro N0 y hT hN hold
  simp only [Act.put, List.setIfInBounds_toArray, List.set_cons_zero, List.set_cons_succ]
  refine h_store (s := 9) (N := N0) (cells := clusA Q s2) rfl rfl rfl rfl (by kernel_rfl) rfl rfl hold (by kernel_rfl) rfl hone ?_
  intro x3 hgr hnew
  have hlt : N0 < x3.heap.size := (Array.getElem?_eq_some_iff.1 hnew).1
  have hb : Below x2.heap.size x2 x3 := hT.2.grown hgr hT.2.size (fun k hk => by cases hk; exact hN)
  refine ⟨hb, ?_⟩
  refine h_take (j := 10) (e' := some 7) (v := .int .i64 A) rfl rfl (by kernel_rfl) (by kernel_rfl) (by kernel_rfl) (fun _ _ _ h => h) (Or.inl ⟨by rfl, ?_⟩) hb ?_
  · intro x hx
    go_simp
    try with_reducible rfl
  simp only [Act.put, List.setIfInBounds_toArray, List.set_cons_zero, List.set_cons_succ]
  refine wpAnyH_done (by kernel_rfl) ?_ _
  have HC0A : Hid (OwnC x2.heap.size x3.heap.size x3 Q s2) := (hT.1.boxT hold hgr).wide hgr.size (Nat.le_refl _)
  have HK0A : Hid (x3.heap[N0]? = Option.some (.cells (clusA Q s2) 43 (0, 0))) := hnew
  have HNN0 : Hid (x2.heap.size ≤ N0 ∧ N0 < x3.heap.size) := ⟨hN, hlt⟩
  have HBN : Hid (Below w.heap.size w x3) := bt HB.out hb
  have HKaN : Hid (x3.heap[w.heap.size]? = Option.some (.cells (clusA c s) 28 (0, 0))) := (hb.block _ (Array.getElem?_eq_some_iff.1 HKa.out).1).trans HKa.out
  have HKxN : Hid (x3.heap[(w.heap.size + 1)]? = Option.some (.cells (blkA b cb) 56 (0, 0))) := (hb.block _ (Array.getElem?_eq_some_iff.1 HKx.out).1).trans HKx.out
  have HZ3 : Hid (x2.heap.size ≤ x3.heap.size) := hb.size
  clear HB HKa HKx
  have HB := HBN
  clear HBN
  have HKa := HKaN
  clear HKaN
  have HKx := HKxN
  clear HKxN
  have HC0 := HC0A
  clear HC0A
  have HK0 := HK0A
  clear HK0A
  clear hT hN hold hgr hnew hlt hb hone
  unfold flP
  go_wp2_with (first | (refine wpList_load_row rfl _ _ rfl w.heap.size rfl 28 _ (0, 0) _ HKa.out Tryz.underlying28 rfl (by kernel_rfl) ?_) | (refine wpList_load_row rfl _ _ rfl (w.heap.size + 1) rfl 56 _ (0, 0) _ HKx.out Tryz.underlying56 rfl (by kernel_rfl) ?_) | (refine wpList_load_row rfl _ _ rfl N0 rfl 43 _ (0, 0) _ HK0.out Tryz.underlying43 rfl (by kernel_rfl) ?_) | (refine wpList_load_row_w (by first | rfl | simp [Region.wanted, yielded] | simp [Region.wanted, yielded, hk0]) _ _ rfl w.heap.size rfl 28 _ (0, 0) _ HKa.out Tryz.underlying28 rfl (by kernel_rfl) ?_) | (refine wpList_load_row_w (by first | rfl | simp [Region.wanted, yielded] | simp [Region.wanted, yielded, hk0]) _ _ rfl (w.heap.size + 1) rfl 56 _ (0, 0) _ HKx.out Tryz.underlying56 rfl (by kernel_rfl) ?_) | (refine wpList_load_row_w (by first | rfl | simp [Region.wanted, yielded] | simp [Region.wanted, yielded, hk0]) _ _ rfl N0 rfl 43 _ (0, 0) _ HK0.out Tryz.underlying43 rfl (by kernel_rfl) ?_))
  refine (toCluster_any c s x3 (HR.out.below HB.out) HO.out).mono ?_
  rintro e x4 ⟨s3, rfl, ho, hb⟩
  have HC1A : Hid (OwnC x3.heap.size x4.heap.size x4 c s3) := ho
  have HBN : Hid (Below w.heap.size w x4) := bt HB.out hb
  have HKaN : Hid (x4.heap[w.heap.size]? = Option.some (.cells (clusA c s) 28 (0, 0))) := (hb.block _ (Array.getElem?_eq_some_iff.1 HKa.out).1).trans HKa.out
  have HKxN : Hid (x4.heap[(w.heap.size + 1)]? = Option.some (.cells (blkA b cb) 56 (0, 0))) := (hb.block _ (Array.getElem?_eq_some_iff.1 HKx.out).1).trans HKx.out
  have HC0N : Hid (OwnC x2.heap.size x3.heap.size x4 Q s2) := HC0.out.below hb
  have HK0N : Hid (x4.heap[N0]? = Option.some (.cells (clusA Q s2) 43 (0, 0))) := (hb.block _ (Array.getElem?_eq_some_iff.1 HK0.out).1).trans HK0.out
  have HZ4 : Hid (x3.heap.size ≤ x4.heap.size) := hb.size
  clear HB HKa HKx HC0 HK0
  have HB := HBN
  clear HBN
  have HKa := HKaN
  clear HKaN
  have HKx := HKxN
  clear HKxN
  have HC0 := HC0N
  clear HC0N
  have HK0 := HK0N
  clear HK0N
  have HC1 := HC1A
  clear HC1A
  clear ho hb
  go_wp2_with (first | (refine wpList_store_blk rfl _ _ _ rfl x4.heap.size (clusA c s3) rfl rfl 43 zeroC (heap_alloc_new x4 _) (by kernel_rfl) rfl (clusA_one HC1.out) ?_; intro x5 hg hk hz; have hb : Below x4.heap.size x4 x5 := made_below hg; have hlt : x4.heap.size < x5.heap.size := (Array.getElem?_eq_some_iff.1 hk).1; have HBN : Hid (Below w.heap.size w x5) := bt HB.out hb; have HKaN : Hid (x5.heap[w.heap.size]? = Option.some (.cells (clusA c s) 28 (0, 0))) := (hb.block _ (Array.getElem?_eq_some_iff.1 HKa.out).1).trans HKa.out; have HKxN : Hid (x5.heap[(w.heap.size + 1)]? = Option.some (.cells (blkA b cb) 56 (0, 0))) := (hb.block _ (Array.getElem?_eq_some_iff.1 HKx.out).1).trans HKx.out; have HC0N : Hid (OwnC x2.heap.size x3.heap.size x5 Q s2) := HC0.out.below hb; have HK0N : Hid (x5.heap[N0]? = Option.some (.cells (clusA Q s2) 43 (0, 0))) := (hb.block _ (Array.getElem?_eq_some_iff.1 HK0.out).1).trans HK0.out; have HC1N : Hid (OwnC x3.heap.size x4.heap.size x5 c s3) := HC1.out.below hb; have HZ5 : Hid (x4.heap.size < x5.heap.size) := hlt; clear HB HKa HKx HC0 HK0 HC1; have HB := HBN; clear HBN; have HKa := HKaN; clear HKaN; have HKx := HKxN; clear HKxN; have HC0 := HC0N; clear HC0N; have HK0 := HK0N; clear HK0N; have HC1 := HC1N; clear HC1N; have HK1 : Hid (x5.heap[x4.heap.size]? = Option.some (.cells (clusA c s3) 43 (0, 0))) := hk; clear hg hk hz hb hlt) | (refine wpList_load_row rfl _ _ rfl w.heap.size rfl 28 _ (0, 0) _ HKa.out Tryz.underlying28 rfl (by kernel_rfl) ?_) | (refine wpList_load_row rfl _ _ rfl (w.heap.size + 1) rfl 56 _ (0, 0) _ HKx.out Tryz.underlying56 rfl (by kernel_rfl) ?_) | (refine wpList_load_row rfl _ _ rfl N0 rfl 43 _ (0, 0) _ HK0.out Tryz.underlying43 rfl (by kernel_rfl) ?_) | (refine wpList_load_row rfl _ _ rfl x4.heap.size rfl 43 _ (0, 0) _ HK1.out Tryz.underlying43 rfl (by kernel_rfl) ?_) | (refine wpList_load_row_w (by first | rfl | simp [Region.wanted, yielded] | simp [Region.wanted, yielded, hk0]) _ _ rfl w.heap.size rfl 28 _ (0, 0) _ HKa.out Tryz.underlying28 rfl (by kernel_rfl) ?_) | (refine wpList_load_row_w (by first | rfl | simp [Region.wanted, yielded] | simp [Region.wanted, yielded, hk0]) _ _ rfl (w.heap.size + 1) rfl 56 _ (0, 0) _ HKx.out Tryz.underlying56 rfl (by kernel_rfl) ?_) | (refine wpList_load_row_w (by first | rfl | simp [Region.wanted, yielded] | simp [Region.wanted, yielded, hk0]) _ _ rfl N0 rfl 43 _ (0, 0) _ HK0.out Tryz.underlying43 rfl (by kernel_rfl) ?_) | (refine wpList_load_row_w (by first | rfl | simp [Region.wanted, yielded] | simp [Region.wanted, yielded, hk0]) _ _ rfl x4.heap.size rfl 43 _ (0, 0) _ HK1.out Tryz.underlying43 rfl (by kernel_rfl) ?_))
  refine (toBlock_any b cb x5 (HBK.out.1.below HB.out) HKB.out.1).mono ?_
  rintro e x6 ⟨cx, rfl, ho, hb⟩
  have HLxA : Hid (CmdsO x6 x5.heap.size x6.heap.size cx b.2.1.length (flatR cmdF b.2.1)) := cmds_o ho
  have HBN : Hid (Below w.heap.size w x6) := bt HB.out hb
  have HKaN : Hid (x6.heap[w.heap.size]? = Option.some (.cells (clusA c s) 28 (0, 0))) := (hb.block _ (Array.getElem?_eq_some_iff.1 HKa.out).1).trans HKa.out
  have HKxN : Hid (x6.heap[(w.heap.size + 1)]? = Option.some (.cells (blkA b cb) 56 (0, 0))) := (hb.block _ (Array.getElem?_eq_some_iff.1 HKx.out).1).trans HKx.out
  have HC0N : Hid (OwnC x2.heap.size x3.heap.size x6 Q s2) := HC0.out.below hb
  have HK0N : Hid (x6.heap[N0]? = Option.some (.cells (clusA Q s2) 43 (0, 0))) := (hb.block _ (Array.getElem?_eq_some_iff.1 HK0.out).1).trans HK0.out
  have HC1N : Hid (OwnC x3.heap.size x4.heap.size x6 c s3) := HC1.out.below hb
  have HK1N : Hid (x6.heap[x4.heap.size]? = Option.some (.cells (clusA c s3) 43 (0, 0))) := (hb.block _ (Array.getElem?_eq_some_iff.1 HK1.out).1).trans HK1.out
  have HZ6 : Hid (x5.heap.size ≤ x6.heap.size) := hb.size
  clear HB HKa HKx HC0 HK0 HC1 HK1
  have HB := HBN
  clear HBN
  have HKa := HKaN
  clear HKaN
  have HKx := HKxN
  clear HKxN
  have HC0 := HC0N
  clear HC0N
  have HK0 := HK0N
  clear HK0N
  have HC1 := HC1N
  clear HC1N
  have HK1 := HK1N
  clear HK1N
  have HLx := HLxA
  clear HLxA
  have HCX : Hid (cx.oneCell' = true) := own_oneC ho
  clear ho hb
  rw [show blkV b cx = .agg (blkA b cx) from rfl]
  go_wp2_with (first | (refine wpList_store_blk rfl _ _ _ rfl x6.heap.size (blkA b cx) rfl rfl 61 #[.int .i64 0, .int .i64 0, .slice none 0 0, .int .i64 0, .int .i64 0, .int .i64 0, .int .i64 0] (heap_alloc_new x6 _) (by kernel_rfl) rfl (blkA_one HCX.out) ?_; intro x7 hg hk hz; have hb : Below x6.heap.size x6 x7 := made_below hg; have hlt : x6.heap.size < x7.heap.size := (Array.getElem?_eq_some_iff.1 hk).1; have HBN : Hid (Below w.heap.size w x7) := bt HB.out hb; have HKaN : Hid (x7.heap[w.heap.size]? = Option.some (.cells (clusA c s) 28 (0, 0))) := (hb.block _ (Array.getElem?_eq_some_iff.1 HKa.out).1).trans HKa.out; have HKxN : Hid (x7.heap[(w.heap.size + 1)]? = Option.some (.cells (blkA b cb) 56 (0, 0))) := (hb.block _ (Array.getElem?_eq_some_iff.1 HKx.out).1).trans HKx.out; have HC0N : Hid (OwnC x2.heap.size x3.heap.size x7 Q s2) := HC0.out.below hb; have HK0N : Hid (x7.heap[N0]? = Option.some (.cells (clusA Q s2) 43 (0, 0))) := (hb.block _ (Array.getElem?_eq_some_iff.1 HK0.out).1).trans HK0.out; have HC1N : Hid (OwnC x3.heap.size x4.heap.size x7 c s3) := HC1.out.below hb; have HK1N : Hid (x7.heap[x4.heap.size]? = Option.some (.cells (clusA c s3) 43 (0, 0))) := (hb.block _ (Array.getElem?_eq_some_iff.1 HK1.out).1).trans HK1.out; have HLxN : Hid (CmdsO x7 x5.heap.size x6.heap.size cx b.2.1.length (flatR cmdF b.2.1)) := HLx.out.below hb; have HZ7 : Hid (x6.heap.size < x7.heap.size) := hlt; clear HB HKa HKx HC0 HK0 HC1 HK1 HLx; have HB := HBN; clear HBN; have HKa := HKaN; clear HKaN; have HKx := HKxN; clear HKxN; have HC0 := HC0N; clear HC0N; have HK0 := HK0N; clear HK0N; have HC1 := HC1N; clear HC1N; have HK1 := HK1N; clear HK1N; have HLx := HLxN; clear HLxN; have HKy : Hid (x7.heap[x6.heap.size]? = Option.some (.cells (blkA b cx) 61 (0, 0))) := hk; clear hg hk hz hb hlt) | (refine wpList_load_row rfl _ _ rfl w.heap.size rfl 28 _ (0, 0) _ HKa.out Tryz.underlying28 rfl (by kernel_rfl) ?_) | (refine wpList_load_row rfl _ _ rfl (w.heap.size + 1) rfl 56 _ (0, 0) _ HKx.out Tryz.underlying56 rfl (by kernel_rfl) ?_) | (refine wpList_load_row rfl _ _ rfl N0 rfl 43 _ (0, 0) _ HK0.out Tryz.underlying43 rfl (by kernel_rfl) ?_) | (refine wpList_load_row rfl _ _ rfl x4.heap.size rfl 43 _ (0, 0) _ HK1.out Tryz.underlying43 rfl (by kernel_rfl) ?_) | (refine wpList_load_row rfl _ _ rfl x6.heap.size rfl 61 _ (0, 0) _ HKy.out Tryz.underlying61 rfl (by kernel_rfl) ?_) | (refine wpList_load_row_w (by first | rfl | simp [Region.wanted, yielded] | simp [Region.wanted, yielded, hk0]) _ _ rfl w.heap.size rfl 28 _ (0, 0) _ HKa.out Tryz.underlying28 rfl (by kernel_rfl) ?_) | (refine wpList_load_row_w (by first | rfl | simp [Region.wanted, yielded] | simp [Region.wanted, yielded, hk0]) _ _ rfl (w.heap.size + 1) rfl 56 _ (0, 0) _ HKx.out Tryz.underlying56 rfl (by kernel_rfl) ?_) | (refine wpList_load_row_w (by first | rfl | simp [Region.wanted, yielded] | simp [Region.wanted, yielded, hk0]) _ _ rfl N0 rfl 43 _ (0, 0) _ HK0.out Tryz.underlying43 rfl (by kernel_rfl) ?_) | (refine wpList_load_row_w (by first | rfl | simp [Region.wanted, yielded] | simp [Region.wanted, yielded, hk0]) _ _ rfl x4.heap.size rfl 43 _ (0, 0) _ HK1.out Tryz.underlying43 rfl (by kernel_rfl) ?_) | (refine wpList_load_row_w (by first | rfl | simp [Region.wanted, yielded] | simp [Region.wanted, yielded, hk0]) _ _ rfl x6.heap.size rfl 61 _ (0, 0) _ HKy.out Tryz.underlying61 rfl (by kernel_rfl) ?_))
  have hsp := HI c b cx x7 HLx.out.reads HO.out HG.out HKB.out HBK.out.2.2.2.2.1 s3 x3.heap.size x4.heap.size HC1.out (HEV.out.below HB.out)
  rw [HQ.out.1, HQ.out.2] at hsp
  refine (hsp).mono ?_
  rintro e x8 ⟨s4, rfl, ho, hb⟩
  have HC2A : Hid (OwnC x7.heap.size x8.heap.size x8 Q s4) := ho
  have HBN : Hid (Below w.heap.size w x8) := bt HB.out hb
  have HKaN : Hid (x8.heap[w.heap.size]? = Option.some (.cells (clusA c s) 28 (0, 0))) := (hb.block _ (Array.getElem?_eq_some_iff.1 HKa.out).1).trans HKa.out
  have HKxN : Hid (x8.heap[(w.heap.size + 1)]? = Option.some (.cells (blkA b cb) 56 (0, 0))) := (hb.block _ (Array.getElem?_eq_some_iff.1 HKx.out).1).trans HKx.out
  have HC0N : Hid (OwnC x2.heap.size x3.heap.size x8 Q s2) := HC0.out.below hb
  have HK0N : Hid (x8.heap[N0]? = Option.some (.cells (clusA Q s2) 43 (0, 0))) := (hb.block _ (Array.getElem?_eq_some_iff.1 HK0.out).1).trans HK0.out
  have HC1N : Hid (OwnC x3.heap.size x4.heap.size x8 c s3) := HC1.out.below hb
  have HK1N : Hid (x8.heap[x4.heap.size]? = Option.some (.cells (clusA c s3) 43 (0, 0))) := (hb.block _ (Array.getElem?_eq_some_iff.1 HK1.out).1).trans HK1.out
  have HLxN : Hid (CmdsO x8 x5.heap.size x6.heap.size cx b.2.1.length (flatR cmdF b.2.1)) := HLx.out.below hb
  have HKyN : Hid (x8.heap[x6.heap.size]? = Option.some (.cells (blkA b cx) 61 (0, 0))) := (hb.block _ (Array.getElem?_eq_some_iff.1 HKy.out).1).trans HKy.out
  have HZ8 : Hid (x7.heap.size ≤ x8.heap.size) := hb.size
  clear HB HKa HKx HC0 HK0 HC1 HK1 HLx HKy
  have HB := HBN
  clear HBN
  have HKa := HKaN
  clear HKaN
  have HKx := HKxN
  clear HKxN
  have HC0 := HC0N
  clear HC0N
  have HK0 := HK0N
  clear HK0N
  have HC1 := HC1N
  clear HC1N
  have HK1 := HK1N
  clear HK1N
  have HLx := HLxN
  clear HLxN
  have HKy := HKyN
  clear HKyN
  have HC2 := HC2A
  clear HC2A
  clear ho hb hsp
  go_wp2_with (first | (refine wpList_store_blk rfl _ _ _ rfl x8.heap.size (clusA Q s4) rfl rfl 43 zeroC (heap_alloc_new x8 _) (by kernel_rfl) rfl (clusA_one HC2.out) ?_; intro x9 hg hk hz; have hb : Below x8.heap.size x8 x9 := made_below hg; have hlt : x8.heap.size < x9.heap.size := (Array.getElem?_eq_some_iff.1 hk).1; have HBN : Hid (Below w.heap.size w x9) := bt HB.out hb; have HKaN : Hid (x9.heap[w.heap.size]? = Option.some (.cells (clusA c s) 28 (0, 0))) := (hb.block _ (Array.getElem?_eq_some_iff.1 HKa.out).1).trans HKa.out; have HKxN : Hid (x9.heap[(w.heap.size + 1)]? = Option.some (.cells (blkA b cb) 56 (0, 0))) := (hb.block _ (Array.getElem?_eq_some_iff.1 HKx.out).1).trans HKx.out; have HC0N : Hid (OwnC x2.heap.size x3.heap.size x9 Q s2) := HC0.out.below hb; have HK0N : Hid (x9.heap[N0]? = Option.some (.cells (clusA Q s2) 43 (0, 0))) := (hb.block _ (Array.getElem?_eq_some_iff.1 HK0.out).1).trans HK0.out; have HC1N : Hid (OwnC x3.heap.size x4.heap.size x9 c s3) := HC1.out.below hb; have HK1N : Hid (x9.heap[x4.heap.size]? = Option.some (.cells (clusA c s3) 43 (0, 0))) := (hb.block _ (Array.getElem?_eq_some_iff.1 HK1.out).1).trans HK1.out; have HLxN : Hid (CmdsO x9 x5.heap.size x6.heap.size cx b.2.1.length (flatR cmdF b.2.1)) := HLx.out.below hb; have HKyN : Hid (x9.heap[x6.heap.size]? = Option.some (.cells (blkA b cx) 61 (0, 0))) := (hb.block _ (Array.getElem?_eq_some_iff.1 HKy.out).1).trans HKy.out; have HC2N : Hid (OwnC x7.heap.size x8.heap.size x9 Q s4) := HC2.out.below hb; have HZ9 : Hid (x8.heap.size < x9.heap.size) := hlt; clear HB HKa HKx HC0 HK0 HC1 HK1 HLx HKy HC2; have HB := HBN; clear HBN; have HKa := HKaN; clear HKaN; have HKx := HKxN; clear HKxN; have HC0 := HC0N; clear HC0N; have HK0 := HK0N; clear HK0N; have HC1 := HC1N; clear HC1N; have HK1 := HK1N; clear HK1N; have HLx := HLxN; clear HLxN; have HKy := HKyN; clear HKyN; have HC2 := HC2N; clear HC2N; have HK2 : Hid (x9.heap[x8.heap.size]? = Option.some (.cells (clusA Q s4) 43 (0, 0))) := hk; clear hg hk hz hb hlt) | (refine wpList_load_row rfl _ _ rfl w.heap.size rfl 28 _ (0, 0) _ HKa.out Tryz.underlying28 rfl (by kernel_rfl) ?_) | (refine wpList_load_row rfl _ _ rfl (w.heap.size + 1) rfl 56 _ (0, 0) _ HKx.out Tryz.underlying56 rfl (by kernel_rfl) ?_) | (refine wpList_load_row rfl _ _ rfl N0 rfl 43 _ (0, 0) _ HK0.out Tryz.underlying43 rfl (by kernel_rfl) ?_) | (refine wpList_load_row rfl _ _ rfl x4.heap.size rfl 43 _ (0, 0) _ HK1.out Tryz.underlying43 rfl (by kernel_rfl) ?_) | (refine wpList_load_row rfl _ _ rfl x6.heap.size rfl 61 _ (0, 0) _ HKy.out Tryz.underlying61 rfl (by kernel_rfl) ?_) | (refine wpList_load_row rfl _ _ rfl x8.heap.size rfl 43 _ (0, 0) _ HK2.out Tryz.underlying43 rfl (by kernel_rfl) ?_) | (refine wpList_load_row_w (by first | rfl | simp [Region.wanted, yielded] | simp [Region.wanted, yielded, hk0]) _ _ rfl w.heap.size rfl 28 _ (0, 0) _ HKa.out Tryz.underlying28 rfl (by kernel_rfl) ?_) | (refine wpList_load_row_w (by first | rfl | simp [Region.wanted, yielded] | simp [Region.wanted, yielded, hk0]) _ _ rfl (w.heap.size + 1) rfl 56 _ (0, 0) _ HKx.out Tryz.underlying56 rfl (by kernel_rfl) ?_) | (refine wpList_load_row_w (by first | rfl | simp [Region.wanted, yielded] | simp [Region.wanted, yielded, hk0]) _ _ rfl N0 rfl 43 _ (0, 0) _ HK0.out Tryz.underlying43 rfl (by kernel_rfl) ?_) | (refine wpList_load_row_w (by first | rfl | simp [Region.wanted, yielded] | simp [Region.wanted, yielded, hk0]) _ _ rfl x4.heap.size rfl 43 _ (0, 0) _ HK1.out Tryz.underlying43 rfl (by kernel_rfl) ?_) | (refine wpList_load_row_w (by first | rfl | simp [Region.wanted, yielded] | simp [Region.wanted, yielded, hk0]) _ _ rfl x6.heap.size rfl 61 _ (0, 0) _ HKy.out Tryz.underlying61 rfl (by kernel_rfl) ?_) | (refine wpList_load_row_w (by first | rfl | simp [Region.wanted, yielded] | simp [Region.wanted, yielded, hk0]) _ _ rfl x8.heap.size rfl 43 _ (0, 0) _ HK2.out Tryz.underlying43 rfl (by kernel_rfl) ?_))
  refine (eqCluster_yes Q s4 s2 x9 HC2.out.reads HC0.out.reads HFQ.out.1).mono ?_
  rintro e x10 ⟨rfl, hb⟩
  have HBN : Hid (Below w.heap.size w x10) := bt HB.out hb
  have HKaN : Hid (x10.heap[w.heap.size]? = Option.some (.cells (clusA c s) 28 (0, 0))) := (hb.block _ (Array.getElem?_eq_some_iff.1 HKa.out).1).trans HKa.out
  have HKxN : Hid (x10.heap[(w.heap.size + 1)]? = Option.some (.cells (blkA b cb) 56 (0, 0))) := (hb.block _ (Array.getElem?_eq_some_iff.1 HKx.out).1).trans HKx.out
  have HC0N : Hid (OwnC x2.heap.size x3.heap.size x10 Q s2) := HC0.out.below hb
  have HK0N : Hid (x10.heap[N0]? = Option.some (.cells (clusA Q s2) 43 (0, 0))) := (hb.block _ (Array.getElem?_eq_some_iff.1 HK0.out).1).trans HK0.out
  have HC1N : Hid (OwnC x3.heap.size x4.heap.size x10 c s3) := HC1.out.below hb
  have HK1N : Hid (x10.heap[x4.heap.size]? = Option.some (.cells (clusA c s3) 43 (0, 0))) := (hb.block _ (Array.getElem?_eq_some_iff.1 HK1.out).1).trans HK1.out
  have HLxN : Hid (CmdsO x10 x5.heap.size x6.heap.size cx b.2.1.length (flatR cmdF b.2.1)) := HLx.out.below hb
  have HKyN : Hid (x10.heap[x6.heap.size]? = Option.some (.cells (blkA b cx) 61 (0, 0))) := (hb.block _ (Array.getElem?_eq_some_iff.1 HKy.out).1).trans HKy.out
  have HC2N : Hid (OwnC x7.heap.size x8.heap.size x10 Q s4) := HC2.out.below hb
  have HK2N : Hid (x10.heap[x8.heap.size]? = Option.some (.cells (clusA Q s4) 43 (0, 0))) := (hb.block _ (Array.getElem?_eq_some_iff.1 HK2.out).1).trans HK2.out
  have HZ10 : Hid (x9.heap.size ≤ x10.heap.size) := hb.size
  clear HB HKa HKx HC0 HK0 HC1 HK1 HLx HKy HC2 HK2
  have HB := HBN
  clear HBN
  have HKa := HKaN
  clear HKaN
  have HKx := HKxN
  clear HKxN
  have HC0 := HC0N
  clear HC0N
  have HK0 := HK0N
  clear HK0N
  have HC1 := HC1N
  clear HC1N
  have HK1 := HK1N
  clear HK1N
  have HLx := HLxN
  clear HLxN
  have HKy := HKyN
  clear HKyN
  have HC2 := HC2N
  clear HC2N
  have HK2 := HK2N
  clear HK2N
  clear hb
  go_wp2
  refine wp_region_H (fun x => x.heap[w.heap.size]? = some (.cells (clusA c s) 28 (0, 0)) ∧ x.heap[x4.heap.size]? = some (.cells (clusA c s3) 43 (0, 0))) (by kernel_rfl) ?_
  show wpAnyH Tryz.prog _ _ _ _ (4 + 1) (Array.replicate 5 false) _ _
  have hS : x10.drew.heap[w.heap.size]? = some (.cells (clusA c s) 28 (0, 0)) ∧ x10.drew.heap[x4.heap.size]? = some (.cells (clusA c s3) 43 (0, 0)) := ⟨HKa.out, HK1.out⟩
  refine h_take (j := 0) (e' := some 54) (v := .agg (clusA c s3)) rfl rfl (by kernel_rfl) (by kernel_rfl) (by kernel_rfl) (fun _ _ _ h => h) (Or.inl ⟨by rfl, fun x hx => exec_load_blk _ _ rfl x4.heap.size rfl _ _ _ _ hx.2 Tryz.underlying43 rfl (by kernel_rfl)⟩) hS ?_
  simp only [Act.put, List.setIfInBounds_toArray, List.set_cons_zero, List.set_cons_succ]
  refine h_take (j := 1) (e' := some 55) (v := .agg (clusA c s)) rfl rfl (by kernel_rfl) (by kernel_rfl) (by kernel_rfl) (fun _ _ _ h => h) (Or.inl ⟨by rfl, fun x hx => exec_load_blk _ _ rfl w.heap.size rfl _ _ _ _ hx.1 Tryz.underlying28 rfl (by kernel_rfl)⟩) hS ?_
  simp only [Act.put, List.setIfInBounds_toArray, List.set_cons_zero, List.set_cons_succ]
  refine h_call (c := 2) (e' := some 56) (fn := 8) (args := #[.agg (clusA c s)]) rfl rfl (by kernel_rfl) (by rfl) ?_ ((toCluster_any c s x10.drew (HR.out.below (HB.out.trans (Below.refl _ _).drew)) HO.out).mono ?_)
  · go_simp
    try with_reducible rfl
  rintro e x11 ⟨s5, rfl, ho, hb0⟩
  have hb : Below x10.heap.size x10 x11 := ((Below.refl _ _).drew).trans hb0
  have HRb : Hid (ClusR x11 c s5) := ho.reads
  have HBN : Hid (Below w.heap.size w x11) := bt HB.out hb
  have HKaN : Hid (x11.heap[w.heap.size]? = Option.some (.cells (clusA c s) 28 (0, 0))) := (hb.block _ (Array.getElem?_eq_some_iff.1 HKa.out).1).trans HKa.out
  have HKxN : Hid (x11.heap[(w.heap.size + 1)]? = Option.some (.cells (blkA b cb) 56 (0, 0))) := (hb.block _ (Array.getElem?_eq_some_iff.1 HKx.out).1).trans HKx.out
  have HC0N : Hid (OwnC x2.heap.size x3.heap.size x11 Q s2) := HC0.out.below hb
  have HK0N : Hid (x11.heap[N0]? = Option.some (.cells (clusA Q s2) 43 (0, 0))) := (hb.block _ (Array.getElem?_eq_some_iff.1 HK0.out).1).trans HK0.out
  have HC1N : Hid (OwnC x3.heap.size x4.heap.size x11 c s3) := HC1.out.below hb
  have HK1N : Hid (x11.heap[x4.heap.size]? = Option.some (.cells (clusA c s3) 43 (0, 0))) := (hb.block _ (Array.getElem?_eq_some_iff.1 HK1.out).1).trans HK1.out
  have HLxN : Hid (CmdsO x11 x5.heap.size x6.heap.size cx b.2.1.length (flatR cmdF b.2.1)) := HLx.out.below hb
  have HKyN : Hid (x11.heap[x6.heap.size]? = Option.some (.cells (blkA b cx) 61 (0, 0))) := (hb.block _ (Array.getElem?_eq_some_iff.1 HKy.out).1).trans HKy.out
  have HC2N : Hid (OwnC x7.heap.size x8.heap.size x11 Q s4) := HC2.out.below hb
  have HK2N : Hid (x11.heap[x8.heap.size]? = Option.some (.cells (clusA Q s4) 43 (0, 0))) := (hb.block _ (Array.getElem?_eq_some_iff.1 HK2.out).1).trans HK2.out
  have HZ11 : Hid (x10.heap.size ≤ x11.heap.size) := hb.size
  clear HB HKa HKx HC0 HK0 HC1 HK1 HLx HKy HC2 HK2
  have HB := HBN
  clear HBN
  have HKa := HKaN
  clear HKaN
  have HKx := HKxN
  clear HKxN
  have HC0 := HC0N
  clear HC0N
  have HK0 := HK0N
  clear HK0N
  have HC1 := HC1N
  clear HC1N
  have HK1 := HK1N
  clear HK1N
  have HLx := HLxN
  clear HLxN
  have HKy := HKyN
  clear HKyN
  have HC2 := HC2N
  clear HC2N
  have HK2 := HK2N
  clear HK2N
  have hS1 : x11.heap[w.heap.size]? = some (.cells (clusA c s) 28 (0, 0)) ∧ x11.heap[x4.heap.size]? = some (.cells (clusA c s3) 43 (0, 0)) := ⟨HKa.out, HK1.out⟩
  clear ho hb hb0 hS
  refine ⟨_, rfl, hS1, ?_⟩
  simp only [Act.put, List.setIfInBounds_toArray, List.set_cons_zero, List.set_cons_succ]
  refine h_call (c := 3) (e' := some 57) (fn := 11) (args := #[.agg (clusA c s3), .agg (clusA c s5)]) rfl rfl (by kernel_rfl) (by rfl) ?_ ((eqCluster_yes c s3 s5 x11 HC1.out.reads HRb.out HO.out).mono ?_)
  · go_simp
    try with_reducible rfl
  rintro e x12 ⟨rfl, hb⟩
  have HBN : Hid (Below w.heap.size w x12) := bt HB.out hb
  have HKaN : Hid (x12.heap[w.heap.size]? = Option.some (.cells (clusA c s) 28 (0, 0))) := (hb.block _ (Array.getElem?_eq_some_iff.1 HKa.out).1).trans HKa.out
  have HKxN : Hid (x12.heap[(w.heap.size + 1)]? = Option.some (.cells (blkA b cb) 56 (0, 0))) := (hb.block _ (Array.getElem?_eq_some_iff.1 HKx.out).1).trans HKx.out
  have HC0N : Hid (OwnC x2.heap.size x3.heap.size x12 Q s2) := HC0.out.below hb
  have HK0N : Hid (x12.heap[N0]? = Option.some (.cells (clusA Q s2) 43 (0, 0))) := (hb.block _ (Array.getElem?_eq_some_iff.1 HK0.out).1).trans HK0.out
  have HC1N : Hid (OwnC x3.heap.size x4.heap.size x12 c s3) := HC1.out.below hb
  have HK1N : Hid (x12.heap[x4.heap.size]? = Option.some (.cells (clusA c s3) 43 (0, 0))) := (hb.block _ (Array.getElem?_eq_some_iff.1 HK1.out).1).trans HK1.out
  have HLxN : Hid (CmdsO x12 x5.heap.size x6.heap.size cx b.2.1.length (flatR cmdF b.2.1)) := HLx.out.below hb
  have HKyN : Hid (x12.heap[x6.heap.size]? = Option.some (.cells (blkA b cx) 61 (0, 0))) := (hb.block _ (Array.getElem?_eq_some_iff.1 HKy.out).1).trans HKy.out
  have HC2N : Hid (OwnC x7.heap.size x8.heap.size x12 Q s4) := HC2.out.below hb
  have HK2N : Hid (x12.heap[x8.heap.size]? = Option.some (.cells (clusA Q s4) 43 (0, 0))) := (hb.block _ (Array.getElem?_eq_some_iff.1 HK2.out).1).trans HK2.out
  have HZ12 : Hid (x11.heap.size ≤ x12.heap.size) := hb.size
  clear HB HKa HKx HC0 HK0 HC1 HK1 HLx HKy HC2 HK2
  have HB := HBN
  clear HBN
  have HKa := HKaN
  clear HKaN
  have HKx := HKxN
  clear HKxN
  have HC0 := HC0N
  clear HC0N
  have HK0 := HK0N
  clear HK0N
  have HC1 := HC1N
  clear HC1N
  have HK1 := HK1N
  clear HK1N
  have HLx := HLxN
  clear HLxN
  have HKy := HKyN
  clear HKyN
  have HC2 := HC2N
  clear HC2N
  have HK2 := HK2N
  clear HK2N
  have hS2 : x12.heap[w.heap.size]? = some (.cells (clusA c s) 28 (0, 0)) ∧ x12.heap[x4.heap.size]? = some (.cells (clusA c s3) 43 (0, 0)) := ⟨HKa.out, HK1.out⟩
  clear hb hS1 HRb
  refine ⟨_, rfl, hS2, ?_⟩
  simp only [Act.put, List.setIfInBounds_toArray, List.set_cons_zero, List.set_cons_succ]
  refine h_take (j := 4) (e' := some 58) (v := .bool false) rfl rfl (by kernel_rfl) (by kernel_rfl) (by kernel_rfl) (fun _ _ _ h => h) (Or.inl ⟨by rfl, ?_⟩) hS2 ?_
  · intro x hx
    go_simp
    try with_reducible rfl
  simp only [Act.put, List.setIfInBounds_toArray, List.set_cons_zero, List.set_cons_succ]
  refine wpAnyH_done (by kernel_rfl) ?_ _
  clear hS2
  go_wp2
  refine wp_region_H (fun x => x.heap[w.heap.size + 1]? = some (.cells (blkA b cb) 56 (0, 0)) ∧ x.heap[x6.heap.size]? = some (.cells (blkA b cx) 61 (0, 0))) (by kernel_rfl) ?_
  show wpAnyH Tryz.prog _ _ _ _ (4 + 1) (Array.replicate 5 false) _ _
  have hS : x12.drew.heap[w.heap.size + 1]? = some (.cells (blkA b cb) 56 (0, 0)) ∧ x12.drew.heap[x6.heap.size]? = some (.cells (blkA b cx) 61 (0, 0)) := ⟨HKx.out, HKy.out⟩
  refine h_take (j := 0) (e' := some 59) (v := .agg (blkA b cx)) rfl rfl (by kernel_rfl) (by kernel_rfl) (by kernel_rfl) (fun _ _ _ h => h) (Or.inl ⟨by rfl, fun x hx => exec_load_blk _ _ rfl x6.heap.size rfl _ _ _ _ hx.2 Tryz.underlying61 rfl (by kernel_rfl)⟩) hS ?_
  simp only [Act.put, List.setIfInBounds_toArray, List.set_cons_zero, List.set_cons_succ]
  refine h_take (j := 1) (e' := some 60) (v := .agg (blkA b cb)) rfl rfl (by kernel_rfl) (by kernel_rfl) (by kernel_rfl) (fun _ _ _ h => h) (Or.inl ⟨by rfl, fun x hx => exec_load_blk _ _ rfl (w.heap.size + 1) rfl _ _ _ _ hx.1 Tryz.underlying56 rfl (by kernel_rfl)⟩) hS ?_
  simp only [Act.put, List.setIfInBounds_toArray, List.set_cons_zero, List.set_cons_succ]
  refine h_call (c := 2) (e' := some 61) (fn := 18) (args := #[.agg (blkA b cb)]) rfl rfl (by kernel_rfl) (by rfl) ?_ ((toBlock_any b cb x12.drew (HBK.out.1.below (HB.out.trans (Below.refl _ _).drew)) HKB.out.1).mono ?_)
  · go_simp
    try with_reducible rfl
  rintro e x13 ⟨c5, rfl, ho, hb0⟩
  have hb : Below x12.heap.size x12 x13 := ((Below.refl _ _).drew).trans hb0
  have HRb : Hid (RowsR x13 c5 3 cmdF b.2.1) := rows_of_own cmdF_len ho
  have HBN : Hid (Below w.heap.size w x13) := bt HB.out hb
  have HKaN : Hid (x13.heap[w.heap.size]? = Option.some (.cells (clusA c s) 28 (0, 0))) := (hb.block _ (Array.getElem?_eq_some_iff.1 HKa.out).1).trans HKa.out
  have HKxN : Hid (x13.heap[(w.heap.size + 1)]? = Option.some (.cells (blkA b cb) 56 (0, 0))) := (hb.block _ (Array.getElem?_eq_some_iff.1 HKx.out).1).trans HKx.out
  have HC0N : Hid (OwnC x2.heap.size x3.heap.size x13 Q s2) := HC0.out.below hb
  have HK0N : Hid (x13.heap[N0]? = Option.some (.cells (clusA Q s2) 43 (0, 0))) := (hb.block _ (Array.getElem?_eq_some_iff.1 HK0.out).1).trans HK0.out
  have HC1N : Hid (OwnC x3.heap.size x4.heap.size x13 c s3) := HC1.out.below hb
  have HK1N : Hid (x13.heap[x4.heap.size]? = Option.some (.cells (clusA c s3) 43 (0, 0))) := (hb.block _ (Array.getElem?_eq_some_iff.1 HK1.out).1).trans HK1.out
  have HLxN : Hid (CmdsO x13 x5.heap.size x6.heap.size cx b.2.1.length (flatR cmdF b.2.1)) := HLx.out.below hb
  have HKyN : Hid (x13.heap[x6.heap.size]? = Option.some (.cells (blkA b cx) 61 (0, 0))) := (hb.block _ (Array.getElem?_eq_some_iff.1 HKy.out).1).trans HKy.out
  have HC2N : Hid (OwnC x7.heap.size x8.heap.size x13 Q s4) := HC2.out.below hb
  have HK2N : Hid (x13.heap[x8.heap.size]? = Option.some (.cells (clusA Q s4) 43 (0, 0))) := (hb.block _ (Array.getElem?_eq_some_iff.1 HK2.out).1).trans HK2.out
  have HZ13 : Hid (x12.heap.size ≤ x13.heap.size) := hb.size
  clear HB HKa HKx HC0 HK0 HC1 HK1 HLx HKy HC2 HK2
  have HB := HBN
  clear HBN
  have HKa := HKaN
  clear HKaN
  have HKx := HKxN
  clear HKxN
  have HC0 := HC0N
  clear HC0N
  have HK0 := HK0N
  clear HK0N
  have HC1 := HC1N
  clear HC1N
  have HK1 := HK1N
  clear HK1N
  have HLx := HLxN
  clear HLxN
  have HKy := HKyN
  clear HKyN
  have HC2 := HC2N
  clear HC2N
  have HK2 := HK2N
  clear HK2N
  have hS1 : x13.heap[w.heap.size + 1]? = some (.cells (blkA b cb) 56 (0, 0)) ∧ x13.heap[x6.heap.size]? = some (.cells (blkA b cx) 61 (0, 0)) := ⟨HKx.out, HKy.out⟩
  clear ho hb hb0 hS
  refine ⟨_, rfl, hS1, ?_⟩
  simp only [Act.put, List.setIfInBounds_toArray, List.set_cons_zero, List.set_cons_succ]
  refine h_call (c := 3) (e' := some 62) (fn := 20) (args := #[.agg (blkA b cx), .agg (blkA b c5)]) rfl rfl (by kernel_rfl) (by rfl) ?_ ((eqBlock_yes b cx c5 x13 HLx.out.reads HRb.out HKB.out.1).mono ?_)
  · go_simp
    try rfl
  rintro e x14 ⟨rfl, hb⟩
  have HBN : Hid (Below w.heap.size w x14) := bt HB.out hb
  have HKaN : Hid (x14.heap[w.heap.size]? = Option.some (.cells (clusA c s) 28 (0, 0))) := (hb.block _ (Array.getElem?_eq_some_iff.1 HKa.out).1).trans HKa.out
  have HKxN : Hid (x14.heap[(w.heap.size + 1)]? = Option.some (.cells (blkA b cb) 56 (0, 0))) := (hb.block _ (Array.getElem?_eq_some_iff.1 HKx.out).1).trans HKx.out
  have HC0N : Hid (OwnC x2.heap.size x3.heap.size x14 Q s2) := HC0.out.below hb
  have HK0N : Hid (x14.heap[N0]? = Option.some (.cells (clusA Q s2) 43 (0, 0))) := (hb.block _ (Array.getElem?_eq_some_iff.1 HK0.out).1).trans HK0.out
  have HC1N : Hid (OwnC x3.heap.size x4.heap.size x14 c s3) := HC1.out.below hb
  have HK1N : Hid (x14.heap[x4.heap.size]? = Option.some (.cells (clusA c s3) 43 (0, 0))) := (hb.block _ (Array.getElem?_eq_some_iff.1 HK1.out).1).trans HK1.out
  have HLxN : Hid (CmdsO x14 x5.heap.size x6.heap.size cx b.2.1.length (flatR cmdF b.2.1)) := HLx.out.below hb
  have HKyN : Hid (x14.heap[x6.heap.size]? = Option.some (.cells (blkA b cx) 61 (0, 0))) := (hb.block _ (Array.getElem?_eq_some_iff.1 HKy.out).1).trans HKy.out
  have HC2N : Hid (OwnC x7.heap.size x8.heap.size x14 Q s4) := HC2.out.below hb
  have HK2N : Hid (x14.heap[x8.heap.size]? = Option.some (.cells (clusA Q s4) 43 (0, 0))) := (hb.block _ (Array.getElem?_eq_some_iff.1 HK2.out).1).trans HK2.out
  have HZ14 : Hid (x13.heap.size ≤ x14.heap.size) := hb.size
  clear HB HKa HKx HC0 HK0 HC1 HK1 HLx HKy HC2 HK2
  have HB := HBN
  clear HBN
  have HKa := HKaN
  clear HKaN
  have HKx := HKxN
  clear HKxN
  have HC0 := HC0N
  clear HC0N
  have HK0 := HK0N
  clear HK0N
  have HC1 := HC1N
  clear HC1N
  have HK1 := HK1N
  clear HK1N
  have HLx := HLxN
  clear HLxN
  have HKy := HKyN
  clear HKyN
  have HC2 := HC2N
  clear HC2N
  have HK2 := HK2N
  clear HK2N
  have hS2 : x14.heap[w.heap.size + 1]? = some (.cells (blkA b cb) 56 (0, 0)) ∧ x14.heap[x6.heap.size]? = some (.cells (blkA b cx) 61 (0, 0)) := ⟨HKx.out, HKy.out⟩
  clear hb hS1 HRb
  refine ⟨_, rfl, hS2, ?_⟩
  simp only [Act.put, List.setIfInBounds_toArray, List.set_cons_zero, List.set_cons_succ]
  refine h_take (j := 4) (e' := some 63) (v := .bool false) rfl rfl (by kernel_rfl) (by kernel_rfl) (by kernel_rfl) (fun _ _ _ h => h) (Or.inl ⟨by rfl, ?_⟩) hS2 ?_
  · intro x hx
    go_simp
    try with_reducible rfl
  simp only [Act.put, List.setIfInBounds_toArray, List.set_cons_zero, List.set_cons_succ]
  refine wpAnyH_done (by kernel_rfl) ?_ _
  clear hS2
  go_wp2_with (first | (refine wpList_load_row rfl _ _ rfl w.heap.size rfl 28 _ (0, 0) _ HKa.out Tryz.underlying28 rfl (by kernel_rfl) ?_) | (refine wpList_load_row rfl _ _ rfl (w.heap.size + 1) rfl 56 _ (0, 0) _ HKx.out Tryz.underlying56 rfl (by kernel_rfl) ?_) | (refine wpList_load_row rfl _ _ rfl N0 rfl 43 _ (0, 0) _ HK0.out Tryz.underlying43 rfl (by kernel_rfl) ?_) | (refine wpList_load_row rfl _ _ rfl x4.heap.size rfl 43 _ (0, 0) _ HK1.out Tryz.underlying43 rfl (by kernel_rfl) ?_) | (refine wpList_load_row rfl _ _ rfl x6.heap.size rfl 61 _ (0, 0) _ HKy.out Tryz.underlying61 rfl (by kernel_rfl) ?_) | (refine wpList_load_row rfl _ _ rfl x8.heap.size rfl 43 _ (0, 0) _ HK2.out Tryz.underlying43 rfl (by kernel_rfl) ?_) | (refine wpList_load_row_w (by first | rfl | simp [Region.wanted, yielded] | simp [Region.wanted, yielded, hk0]) _ _ rfl w.heap.size rfl 28 _ (0, 0) _ HKa.out Tryz.underlying28 rfl (by kernel_rfl) ?_) | (refine wpList_load_row_w (by first | rfl | simp [Region.wanted, yielded] | simp [Region.wanted, yielded, hk0]) _ _ rfl (w.heap.size + 1) rfl 56 _ (0, 0) _ HKx.out Tryz.underlying56 rfl (by kernel_rfl) ?_) | (refine wpList_load_row_w (by first | rfl | simp [Region.wanted, yielded] | simp [Region.wanted, yielded, hk0]) _ _ rfl N0 rfl 43 _ (0, 0) _ HK0.out Tryz.underlying43 rfl (by kernel_rfl) ?_) | (refine wpList_load_row_w (by first | rfl | simp [Region.wanted, yielded] | simp [Region.wanted, yielded, hk0]) _ _ rfl x4.heap.size rfl 43 _ (0, 0) _ HK1.out Tryz.underlying43 rfl (by kernel_rfl) ?_) | (refine wpList_load_row_w (by first | rfl | simp [Region.wanted, yielded] | simp [Region.wanted, yielded, hk0]) _ _ rfl x6.heap.size rfl 61 _ (0, 0) _ HKy.out Tryz.underlying61 rfl (by kernel_rfl) ?_) | (refine wpList_load_row_w (by first | rfl | simp [Region.wanted, yielded] | simp [Region.wanted, yielded, hk0]) _ _ rfl x8.heap.size rfl 43 _ (0, 0) _ HK2.out Tryz.underlying43 rfl (by kernel_rfl) ?_))
  have HM1e : Hid (bks s3.tree = c.tree ∧ pes s3.peers = c.peers) := ⟨HC1.out.etree, HC1.out.epeers⟩
  refine (markCluster_own c s3 1 x3.heap.size x4.heap.size x14 HC1.out (mkC_of HC1.out.etree HC1.out.epeers (by decide) (by decide) HO.out (by have := HWT.out; omega))).mono ?_
  rintro e x15 ⟨rfl, hm, hf⟩
  have hmA : Hid (OwnC x3.heap.size x4.heap.size x15 (cmC 1 c s3) (cmS 1 s3)) := hm
  clear hm
  have HBN : Hid (Below w.heap.size w x15) := HB.out.trans ⟨hf.os, hf.tape, hf.output, hf.size, fun k hk => hf.block k (Nat.lt_of_lt_of_le hk HB.out.size) (Or.inl (by have := HZ0.out; have := HZ1.out; have := HZ2.out; have := HZ3.out; have := HNN0.out; have := HZ4.out; have := HZ5.out; have := HZ6.out; have := HZ7.out; have := HZ8.out; have := HZ9.out; have := HZ10.out; have := HZ11.out; have := HZ12.out; have := HZ13.out; have := HZ14.out; omega))⟩
  have HKaN : Hid (x15.heap[w.heap.size]? = Option.some (.cells (clusA c s) 28 (0, 0))) := (hf.block _ (Array.getElem?_eq_some_iff.1 HKa.out).1 (by have := HZ0.out; have := HZ1.out; have := HZ2.out; have := HZ3.out; have := HNN0.out; have := HZ4.out; have := HZ5.out; have := HZ6.out; have := HZ7.out; have := HZ8.out; have := HZ9.out; have := HZ10.out; have := HZ11.out; have := HZ12.out; have := HZ13.out; have := HZ14.out; omega)).trans HKa.out
  have HKxN : Hid (x15.heap[(w.heap.size + 1)]? = Option.some (.cells (blkA b cb) 56 (0, 0))) := (hf.block _ (Array.getElem?_eq_some_iff.1 HKx.out).1 (by have := HZ0.out; have := HZ1.out; have := HZ2.out; have := HZ3.out; have := HNN0.out; have := HZ4.out; have := HZ5.out; have := HZ6.out; have := HZ7.out; have := HZ8.out; have := HZ9.out; have := HZ10.out; have := HZ11.out; have := HZ12.out; have := HZ13.out; have := HZ14.out; omega)).trans HKx.out
  have HC0N : Hid (OwnC x2.heap.size x3.heap.size x15 Q s2) := HC0.out.fr hf (by have := HZ0.out; have := HZ1.out; have := HZ2.out; have := HZ3.out; have := HNN0.out; have := HZ4.out; have := HZ5.out; have := HZ6.out; have := HZ7.out; have := HZ8.out; have := HZ9.out; have := HZ10.out; have := HZ11.out; have := HZ12.out; have := HZ13.out; have := HZ14.out; omega)
  have HK0N : Hid (x15.heap[N0]? = Option.some (.cells (clusA Q s2) 43 (0, 0))) := (hf.block _ (Array.getElem?_eq_some_iff.1 HK0.out).1 (by have := HZ0.out; have := HZ1.out; have := HZ2.out; have := HZ3.out; have := HNN0.out; have := HZ4.out; have := HZ5.out; have := HZ6.out; have := HZ7.out; have := HZ8.out; have := HZ9.out; have := HZ10.out; have := HZ11.out; have := HZ12.out; have := HZ13.out; have := HZ14.out; omega)).trans HK0.out
  have HK1N : Hid (x15.heap[x4.heap.size]? = Option.some (.cells (clusA c s3) 43 (0, 0))) := (hf.block _ (Array.getElem?_eq_some_iff.1 HK1.out).1 (by have := HZ0.out; have := HZ1.out; have := HZ2.out; have := HZ3.out; have := HNN0.out; have := HZ4.out; have := HZ5.out; have := HZ6.out; have := HZ7.out; have := HZ8.out; have := HZ9.out; have := HZ10.out; have := HZ11.out; have := HZ12.out; have := HZ13.out; have := HZ14.out; omega)).trans HK1.out
  have HLxN : Hid (CmdsO x15 x5.heap.size x6.heap.size cx b.2.1.length (flatR cmdF b.2.1)) := HLx.out.fr hf (by have := HZ0.out; have := HZ1.out; have := HZ2.out; have := HZ3.out; have := HNN0.out; have := HZ4.out; have := HZ5.out; have := HZ6.out; have := HZ7.out; have := HZ8.out; have := HZ9.out; have := HZ10.out; have := HZ11.out; have := HZ12.out; have := HZ13.out; have := HZ14.out; omega)
  have HKyN : Hid (x15.heap[x6.heap.size]? = Option.some (.cells (blkA b cx) 61 (0, 0))) := (hf.block _ (Array.getElem?_eq_some_iff.1 HKy.out).1 (by have := HZ0.out; have := HZ1.out; have := HZ2.out; have := HZ3.out; have := HNN0.out; have := HZ4.out; have := HZ5.out; have := HZ6.out; have := HZ7.out; have := HZ8.out; have := HZ9.out; have := HZ10.out; have := HZ11.out; have := HZ12.out; have := HZ13.out; have := HZ14.out; omega)).trans HKy.out
  have HC2N : Hid (OwnC x7.heap.size x8.heap.size x15 Q s4) := HC2.out.fr hf (by have := HZ0.out; have := HZ1.out; have := HZ2.out; have := HZ3.out; have := HNN0.out; have := HZ4.out; have := HZ5.out; have := HZ6.out; have := HZ7.out; have := HZ8.out; have := HZ9.out; have := HZ10.out; have := HZ11.out; have := HZ12.out; have := HZ13.out; have := HZ14.out; omega)
  have HK2N : Hid (x15.heap[x8.heap.size]? = Option.some (.cells (clusA Q s4) 43 (0, 0))) := (hf.block _ (Array.getElem?_eq_some_iff.1 HK2.out).1 (by have := HZ0.out; have := HZ1.out; have := HZ2.out; have := HZ3.out; have := HNN0.out; have := HZ4.out; have := HZ5.out; have := HZ6.out; have := HZ7.out; have := HZ8.out; have := HZ9.out; have := HZ10.out; have := HZ11.out; have := HZ12.out; have := HZ13.out; have := HZ14.out; omega)).trans HK2.out
  have HZ15 : Hid (x14.heap.size ≤ x15.heap.size) := hf.size
  clear HB HKa HKx HC0 HK0 HK1 HLx HKy HC2 HK2
  have HB := HBN
  clear HBN
  have HKa := HKaN
  clear HKaN
  have HKx := HKxN
  clear HKxN
  have HC0 := HC0N
  clear HC0N
  have HK0 := HK0N
  clear HK0N
  have HK1 := HK1N
  clear HK1N
  have HLx := HLxN
  clear HLxN
  have HKy := HKyN
  clear HKyN
  have HC2 := HC2N
  clear HC2N
  have HK2 := HK2N
  clear HK2N
  clear HC1 hf
  have HM1 : Hid (OwnC x3.heap.size x4.heap.size x15 (cmC 1 c s3) (cmS 1 s3)) := hmA
  clear hmA
  have HKP0 : Hid (0 < cnum 1 c s3) := (by have h1 := tnum_le s3.tree 1; have h2 := pnum_le s3.peers (tnum 1 s3.tree); unfold cnum; omega : 0 < cnum 1 c s3)
  have HCN : Hid (cnum 1 c s3 ≤ 19000000) := (mkC_of (k := 1) (c := c) (s := s3) HM1e.out.1 HM1e.out.2 (by decide) (by decide) HO.out (by have := HWT.out; omega)).num
  clear HM1 HK1
  obtain ⟨kc, hkc⟩ : ∃ kc, kc = cnum 1 c s3 := ⟨_, rfl⟩
  rw [← hkc] at HCN HKP0 ⊢
  have HKP := HKP0
  clear HKP0
  clear hkc
  go_wp2_with (first | (refine wpList_load_row rfl _ _ rfl w.heap.size rfl 28 _ (0, 0) _ HKa.out Tryz.underlying28 rfl (by kernel_rfl) ?_) | (refine wpList_load_row rfl _ _ rfl (w.heap.size + 1) rfl 56 _ (0, 0) _ HKx.out Tryz.underlying56 rfl (by kernel_rfl) ?_) | (refine wpList_load_row rfl _ _ rfl N0 rfl 43 _ (0, 0) _ HK0.out Tryz.underlying43 rfl (by kernel_rfl) ?_) | (refine wpList_load_row rfl _ _ rfl x6.heap.size rfl 61 _ (0, 0) _ HKy.out Tryz.underlying61 rfl (by kernel_rfl) ?_) | (refine wpList_load_row rfl _ _ rfl x8.heap.size rfl 43 _ (0, 0) _ HK2.out Tryz.underlying43 rfl (by kernel_rfl) ?_) | (refine wpList_load_row_w (by first | rfl | simp [Region.wanted, yielded] | simp [Region.wanted, yielded, hk0]) _ _ rfl w.heap.size rfl 28 _ (0, 0) _ HKa.out Tryz.underlying28 rfl (by kernel_rfl) ?_) | (refine wpList_load_row_w (by first | rfl | simp [Region.wanted, yielded] | simp [Region.wanted, yielded, hk0]) _ _ rfl (w.heap.size + 1) rfl 56 _ (0, 0) _ HKx.out Tryz.underlying56 rfl (by kernel_rfl) ?_) | (refine wpList_load_row_w (by first | rfl | simp [Region.wanted, yielded] | simp [Region.wanted, yielded, hk0]) _ _ rfl N0 rfl 43 _ (0, 0) _ HK0.out Tryz.underlying43 rfl (by kernel_rfl) ?_) | (refine wpList_load_row_w (by first | rfl | simp [Region.wanted, yielded] | simp [Region.wanted, yielded, hk0]) _ _ rfl x6.heap.size rfl 61 _ (0, 0) _ HKy.out Tryz.underlying61 rfl (by kernel_rfl) ?_) | (refine wpList_load_row_w (by first | rfl | simp [Region.wanted, yielded] | simp [Region.wanted, yielded, hk0]) _ _ rfl x8.heap.size rfl 43 _ (0, 0) _ HK2.out Tryz.underlying43 rfl (by kernel_rfl) ?_))
  refine (markBlock_big b cx kc b.2.1.length x5.heap.size _ x15 HLx.out.own HKP.out (by have := HCN.out; omega) (by have := HKB.out.1; omega)).mono ?_
  rintro e x16 ⟨rfl, hgr⟩
  have hf : Fr x5.heap.size x6.heap.size x15 x16 := fr_grown hgr HLx.out.lim
  have HBN : Hid (Below w.heap.size w x16) := HB.out.trans ⟨hf.os, hf.tape, hf.output, hf.size, fun k hk => hf.block k (Nat.lt_of_lt_of_le hk HB.out.size) (Or.inl (by have := HZ0.out; have := HZ1.out; have := HZ2.out; have := HZ3.out; have := HNN0.out; have := HZ4.out; have := HZ5.out; have := HZ6.out; have := HZ7.out; have := HZ8.out; have := HZ9.out; have := HZ10.out; have := HZ11.out; have := HZ12.out; have := HZ13.out; have := HZ14.out; have := HZ15.out; omega))⟩
  have HKaN : Hid (x16.heap[w.heap.size]? = Option.some (.cells (clusA c s) 28 (0, 0))) := (hf.block _ (Array.getElem?_eq_some_iff.1 HKa.out).1 (by have := HZ0.out; have := HZ1.out; have := HZ2.out; have := HZ3.out; have := HNN0.out; have := HZ4.out; have := HZ5.out; have := HZ6.out; have := HZ7.out; have := HZ8.out; have := HZ9.out; have := HZ10.out; have := HZ11.out; have := HZ12.out; have := HZ13.out; have := HZ14.out; have := HZ15.out; omega)).trans HKa.out
  have HKxN : Hid (x16.heap[(w.heap.size + 1)]? = Option.some (.cells (blkA b cb) 56 (0, 0))) := (hf.block _ (Array.getElem?_eq_some_iff.1 HKx.out).1 (by have := HZ0.out; have := HZ1.out; have := HZ2.out; have := HZ3.out; have := HNN0.out; have := HZ4.out; have := HZ5.out; have := HZ6.out; have := HZ7.out; have := HZ8.out; have := HZ9.out; have := HZ10.out; have := HZ11.out; have := HZ12.out; have := HZ13.out; have := HZ14.out; have := HZ15.out; omega)).trans HKx.out
  have HC0N : Hid (OwnC x2.heap.size x3.heap.size x16 Q s2) := HC0.out.fr hf (by have := HZ0.out; have := HZ1.out; have := HZ2.out; have := HZ3.out; have := HNN0.out; have := HZ4.out; have := HZ5.out; have := HZ6.out; have := HZ7.out; have := HZ8.out; have := HZ9.out; have := HZ10.out; have := HZ11.out; have := HZ12.out; have := HZ13.out; have := HZ14.out; have := HZ15.out; omega)
  have HK0N : Hid (x16.heap[N0]? = Option.some (.cells (clusA Q s2) 43 (0, 0))) := (hf.block _ (Array.getElem?_eq_some_iff.1 HK0.out).1 (by have := HZ0.out; have := HZ1.out; have := HZ2.out; have := HZ3.out; have := HNN0.out; have := HZ4.out; have := HZ5.out; have := HZ6.out; have := HZ7.out; have := HZ8.out; have := HZ9.out; have := HZ10.out; have := HZ11.out; have := HZ12.out; have := HZ13.out; have := HZ14.out; have := HZ15.out; omega)).trans HK0.out
  have HKyN : Hid (x16.heap[x6.heap.size]? = Option.some (.cells (blkA b cx) 61 (0, 0))) := (hf.block _ (Array.getElem?_eq_some_iff.1 HKy.out).1 (by have := HZ0.out; have := HZ1.out; have := HZ2.out; have := HZ3.out; have := HNN0.out; have := HZ4.out; have := HZ5.out; have := HZ6.out; have := HZ7.out; have := HZ8.out; have := HZ9.out; have := HZ10.out; have := HZ11.out; have := HZ12.out; have := HZ13.out; have := HZ14.out; have := HZ15.out; omega)).trans HKy.out
  have HC2N : Hid (OwnC x7.heap.size x8.heap.size x16 Q s4) := HC2.out.fr hf (by have := HZ0.out; have := HZ1.out; have := HZ2.out; have := HZ3.out; have := HNN0.out; have := HZ4.out; have := HZ5.out; have := HZ6.out; have := HZ7.out; have := HZ8.out; have := HZ9.out; have := HZ10.out; have := HZ11.out; have := HZ12.out; have := HZ13.out; have := HZ14.out; have := HZ15.out; omega)
  have HK2N : Hid (x16.heap[x8.heap.size]? = Option.some (.cells (clusA Q s4) 43 (0, 0))) := (hf.block _ (Array.getElem?_eq_some_iff.1 HK2.out).1 (by have := HZ0.out; have := HZ1.out; have := HZ2.out; have := HZ3.out; have := HNN0.out; have := HZ4.out; have := HZ5.out; have := HZ6.out; have := HZ7.out; have := HZ8.out; have := HZ9.out; have := HZ10.out; have := HZ11.out; have := HZ12.out; have := HZ13.out; have := HZ14.out; have := HZ15.out; omega)).trans HK2.out
  have HZ16 : Hid (x15.heap.size ≤ x16.heap.size) := hf.size
  clear HB HKa HKx HC0 HK0 HKy HC2 HK2
  have HB := HBN
  clear HBN
  have HKa := HKaN
  clear HKaN
  have HKx := HKxN
  clear HKxN
  have HC0 := HC0N
  clear HC0N
  have HK0 := HK0N
  clear HK0N
  have HKy := HKyN
  clear HKyN
  have HC2 := HC2N
  clear HC2N
  have HK2 := HK2N
  clear HK2N
  clear HLx hf hgr
  obtain ⟨kd, hkd⟩ : ∃ kd : Nat, kd = kc + 3 * b.2.1.length := ⟨_, rfl⟩
  rw [← hkd]
  clear hkd
  have hk0 : ¬ (((kd : Nat) : Int) < 0) := by omega
  clear HKy
  go_wp2_with (first | (refine wpList_load_row rfl _ _ rfl w.heap.size rfl 28 _ (0, 0) _ HKa.out Tryz.underlying28 rfl (by kernel_rfl) ?_) | (refine wpList_load_row rfl _ _ rfl (w.heap.size + 1) rfl 56 _ (0, 0) _ HKx.out Tryz.underlying56 rfl (by kernel_rfl) ?_) | (refine wpList_load_row rfl _ _ rfl N0 rfl 43 _ (0, 0) _ HK0.out Tryz.underlying43 rfl (by kernel_rfl) ?_) | (refine wpList_load_row rfl _ _ rfl x8.heap.size rfl 43 _ (0, 0) _ HK2.out Tryz.underlying43 rfl (by kernel_rfl) ?_) | (refine wpList_load_row_w (by first | rfl | simp [Region.wanted, yielded] | simp [Region.wanted, yielded, hk0]) _ _ rfl w.heap.size rfl 28 _ (0, 0) _ HKa.out Tryz.underlying28 rfl (by kernel_rfl) ?_) | (refine wpList_load_row_w (by first | rfl | simp [Region.wanted, yielded] | simp [Region.wanted, yielded, hk0]) _ _ rfl (w.heap.size + 1) rfl 56 _ (0, 0) _ HKx.out Tryz.underlying56 rfl (by kernel_rfl) ?_) | (refine wpList_load_row_w (by first | rfl | simp [Region.wanted, yielded] | simp [Region.wanted, yielded, hk0]) _ _ rfl N0 rfl 43 _ (0, 0) _ HK0.out Tryz.underlying43 rfl (by kernel_rfl) ?_) | (refine wpList_load_row_w (by first | rfl | simp [Region.wanted, yielded] | simp [Region.wanted, yielded, hk0]) _ _ rfl x8.heap.size rfl 43 _ (0, 0) _ HK2.out Tryz.underlying43 rfl (by kernel_rfl) ?_))
  refine (eqCluster_yes Q s4 s2 x16 HC2.out.reads HC0.out.reads HFQ.out.1).mono ?_
  rintro e x17 ⟨rfl, hb⟩
  have HBN : Hid (Below w.heap.size w x17) := bt HB.out hb
  have HKaN : Hid (x17.heap[w.heap.size]? = Option.some (.cells (clusA c s) 28 (0, 0))) := (hb.block _ (Array.getElem?_eq_some_iff.1 HKa.out).1).trans HKa.out
  have HKxN : Hid (x17.heap[(w.heap.size + 1)]? = Option.some (.cells (blkA b cb) 56 (0, 0))) := (hb.block _ (Array.getElem?_eq_some_iff.1 HKx.out).1).trans HKx.out
  have HC0N : Hid (OwnC x2.heap.size x3.heap.size x17 Q s2) := HC0.out.below hb
  have HK0N : Hid (x17.heap[N0]? = Option.some (.cells (clusA Q s2) 43 (0, 0))) := (hb.block _ (Array.getElem?_eq_some_iff.1 HK0.out).1).trans HK0.out
  have HC2N : Hid (OwnC x7.heap.size x8.heap.size x17 Q s4) := HC2.out.below hb
  have HK2N : Hid (x17.heap[x8.heap.size]? = Option.some (.cells (clusA Q s4) 43 (0, 0))) := (hb.block _ (Array.getElem?_eq_some_iff.1 HK2.out).1).trans HK2.out
  have HZ17 : Hid (x16.heap.size ≤ x17.heap.size) := hb.size
  clear HB HKa HKx HC0 HK0 HC2 HK2
  have HB := HBN
  clear HBN
  have HKa := HKaN
  clear HKaN
  have HKx := HKxN
  clear HKxN
  have HC0 := HC0N
  clear HC0N
  have HK0 := HK0N
  clear HK0N
  have HC2 := HC2N
  clear HC2N
  have HK2 := HK2N
  clear HK2N
  clear hb
  clear hk0
  go_wp2_with (first | (refine wpList_load_row rfl _ _ rfl w.heap.size rfl 28 _ (0, 0) _ HKa.out Tryz.underlying28 rfl (by kernel_rfl) ?_) | (refine wpList_load_row rfl _ _ rfl (w.heap.size + 1) rfl 56 _ (0, 0) _ HKx.out Tryz.underlying56 rfl (by kernel_rfl) ?_) | (refine wpList_load_row rfl _ _ rfl N0 rfl 43 _ (0, 0) _ HK0.out Tryz.underlying43 rfl (by kernel_rfl) ?_) | (refine wpList_load_row rfl _ _ rfl x8.heap.size rfl 43 _ (0, 0) _ HK2.out Tryz.underlying43 rfl (by kernel_rfl) ?_) | (refine wpList_load_row_w (by first | rfl | simp [Region.wanted, yielded] | simp [Region.wanted, yielded, hk0]) _ _ rfl w.heap.size rfl 28 _ (0, 0) _ HKa.out Tryz.underlying28 rfl (by kernel_rfl) ?_) | (refine wpList_load_row_w (by first | rfl | simp [Region.wanted, yielded] | simp [Region.wanted, yielded, hk0]) _ _ rfl (w.heap.size + 1) rfl 56 _ (0, 0) _ HKx.out Tryz.underlying56 rfl (by kernel_rfl) ?_) | (refine wpList_load_row_w (by first | rfl | simp [Region.wanted, yielded] | simp [Region.wanted, yielded, hk0]) _ _ rfl N0 rfl 43 _ (0, 0) _ HK0.out Tryz.underlying43 rfl (by kernel_rfl) ?_) | (refine wpList_load_row_w (by first | rfl | simp [Region.wanted, yielded] | simp [Region.wanted, yielded, hk0]) _ _ rfl x8.heap.size rfl 43 _ (0, 0) _ HK2.out Tryz.underlying43 rfl (by kernel_rfl) ?_))
  have HMK : Hid (mkC 1 Q s4) := mkC_of HC2.out.etree HC2.out.epeers (by decide) (by decide) HFQ.out.1 HFQ.out.2
  refine (markCluster_own Q s4 1 x7.heap.size x8.heap.size x17 HC2.out HMK.out).mono ?_
  rintro e x18 ⟨rfl, hm, hf⟩
  have hmA : Hid (OwnC x7.heap.size x8.heap.size x18 (cmC 1 Q s4) (cmS 1 s4)) := hm
  clear hm
  have HBN : Hid (Below w.heap.size w x18) := HB.out.trans ⟨hf.os, hf.tape, hf.output, hf.size, fun k hk => hf.block k (Nat.lt_of_lt_of_le hk HB.out.size) (Or.inl (by have := HZ0.out; have := HZ1.out; have := HZ2.out; have := HZ3.out; have := HNN0.out; have := HZ4.out; have := HZ5.out; have := HZ6.out; have := HZ7.out; have := HZ8.out; have := HZ9.out; have := HZ10.out; have := HZ11.out; have := HZ12.out; have := HZ13.out; have := HZ14.out; have := HZ15.out; have := HZ16.out; have := HZ17.out; omega))⟩
  have HKaN : Hid (x18.heap[w.heap.size]? = Option.some (.cells (clusA c s) 28 (0, 0))) := (hf.block _ (Array.getElem?_eq_some_iff.1 HKa.out).1 (by have := HZ0.out; have := HZ1.out; have := HZ2.out; have := HZ3.out; have := HNN0.out; have := HZ4.out; have := HZ5.out; have := HZ6.out; have := HZ7.out; have := HZ8.out; have := HZ9.out; have := HZ10.out; have := HZ11.out; have := HZ12.out; have := HZ13.out; have := HZ14.out; have := HZ15.out; have := HZ16.out; have := HZ17.out; omega)).trans HKa.out
  have HKxN : Hid (x18.heap[(w.heap.size + 1)]? = Option.some (.cells (blkA b cb) 56 (0, 0))) := (hf.block _ (Array.getElem?_eq_some_iff.1 HKx.out).1 (by have := HZ0.out; have := HZ1.out; have := HZ2.out; have := HZ3.out; have := HNN0.out; have := HZ4.out; have := HZ5.out; have := HZ6.out; have := HZ7.out; have := HZ8.out; have := HZ9.out; have := HZ10.out; have := HZ11.out; have := HZ12.out; have := HZ13.out; have := HZ14.out; have := HZ15.out; have := HZ16.out; have := HZ17.out; omega)).trans HKx.out
  have HC0N : Hid (OwnC x2.heap.size x3.heap.size x18 Q s2) := HC0.out.fr hf (by have := HZ0.out; have := HZ1.out; have := HZ2.out; have := HZ3.out; have := HNN0.out; have := HZ4.out; have := HZ5.out; have := HZ6.out; have := HZ7.out; have := HZ8.out; have := HZ9.out; have := HZ10.out; have := HZ11.out; have := HZ12.out; have := HZ13.out; have := HZ14.out; have := HZ15.out; have := HZ16.out; have := HZ17.out; omega)
  have HK0N : Hid (x18.heap[N0]? = Option.some (.cells (clusA Q s2) 43 (0, 0))) := (hf.block _ (Array.getElem?_eq_some_iff.1 HK0.out).1 (by have := HZ0.out; have := HZ1.out; have := HZ2.out; have := HZ3.out; have := HNN0.out; have := HZ4.out; have := HZ5.out; have := HZ6.out; have := HZ7.out; have := HZ8.out; have := HZ9.out; have := HZ10.out; have := HZ11.out; have := HZ12.out; have := HZ13.out; have := HZ14.out; have := HZ15.out; have := HZ16.out; have := HZ17.out; omega)).trans HK0.out
  have HK2N : Hid (x18.heap[x8.heap.size]? = Option.some (.cells (clusA Q s4) 43 (0, 0))) := (hf.block _ (Array.getElem?_eq_some_iff.1 HK2.out).1 (by have := HZ0.out; have := HZ1.out; have := HZ2.out; have := HZ3.out; have := HNN0.out; have := HZ4.out; have := HZ5.out; have := HZ6.out; have := HZ7.out; have := HZ8.out; have := HZ9.out; have := HZ10.out; have := HZ11.out; have := HZ12.out; have := HZ13.out; have := HZ14.out; have := HZ15.out; have := HZ16.out; have := HZ17.out; omega)).trans HK2.out
  have HZ18 : Hid (x17.heap.size ≤ x18.heap.size) := hf.size
  clear HB HKa HKx HC0 HK0 HK2
  have HB := HBN
  clear HBN
  have HKa := HKaN
  clear HKaN
  have HKx := HKxN
  clear HKxN
  have HC0 := HC0N
  clear HC0N
  have HK0 := HK0N
  clear HK0N
  have HK2 := HK2N
  clear HK2N
  clear HC2 hf
  have HM2 : Hid (OwnC x7.heap.size x8.heap.size x18 (cmC 1 Q s4) (cmS 1 s4)) := hmA
  clear hmA
  have hk0 : ¬ (((cnum 1 Q s4 : Nat) : Int) < 0) := by omega
  go_wp2_with (first | (refine wpList_load_row rfl _ _ rfl w.heap.size rfl 28 _ (0, 0) _ HKa.out Tryz.underlying28 rfl (by kernel_rfl) ?_) | (refine wpList_load_row rfl _ _ rfl (w.heap.size + 1) rfl 56 _ (0, 0) _ HKx.out Tryz.underlying56 rfl (by kernel_rfl) ?_) | (refine wpList_load_row rfl _ _ rfl N0 rfl 43 _ (0, 0) _ HK0.out Tryz.underlying43 rfl (by kernel_rfl) ?_) | (refine wpList_load_row rfl _ _ rfl x8.heap.size rfl 43 _ (0, 0) _ HK2.out Tryz.underlying43 rfl (by kernel_rfl) ?_) | (refine wpList_load_row_w (by first | rfl | simp [Region.wanted, yielded] | simp [Region.wanted, yielded, hk0]) _ _ rfl w.heap.size rfl 28 _ (0, 0) _ HKa.out Tryz.underlying28 rfl (by kernel_rfl) ?_) | (refine wpList_load_row_w (by first | rfl | simp [Region.wanted, yielded] | simp [Region.wanted, yielded, hk0]) _ _ rfl (w.heap.size + 1) rfl 56 _ (0, 0) _ HKx.out Tryz.underlying56 rfl (by kernel_rfl) ?_) | (refine wpList_load_row_w (by first | rfl | simp [Region.wanted, yielded] | simp [Region.wanted, yielded, hk0]) _ _ rfl N0 rfl 43 _ (0, 0) _ HK0.out Tryz.underlying43 rfl (by kernel_rfl) ?_) | (refine wpList_load_row_w (by first | rfl | simp [Region.wanted, yielded] | simp [Region.wanted, yielded, hk0]) _ _ rfl x8.heap.size rfl 43 _ (0, 0) _ HK2.out Tryz.underlying43 rfl (by kernel_rfl) ?_))
  refine (heldCluster_own Q s4 1 x7.heap.size x8.heap.size x18 HM2.out HMK.out Q).mono ?_
  rintro e x19 ⟨rfl, hb⟩
  have HBN : Hid (Below w.heap.size w x19) := bt HB.out hb
  have HKaN : Hid (x19.heap[w.heap.size]? = Option.some (.cells (clusA c s) 28 (0, 0))) := (hb.block _ (Array.getElem?_eq_some_iff.1 HKa.out).1).trans HKa.out
  have HKxN : Hid (x19.heap[(w.heap.size + 1)]? = Option.some (.cells (blkA b cb) 56 (0, 0))) := (hb.block _ (Array.getElem?_eq_some_iff.1 HKx.out).1).trans HKx.out
  have HC0N : Hid (OwnC x2.heap.size x3.heap.size x19 Q s2) := HC0.out.below hb
  have HK0N : Hid (x19.heap[N0]? = Option.some (.cells (clusA Q s2) 43 (0, 0))) := (hb.block _ (Array.getElem?_eq_some_iff.1 HK0.out).1).trans HK0.out
  have HK2N : Hid (x19.heap[x8.heap.size]? = Option.some (.cells (clusA Q s4) 43 (0, 0))) := (hb.block _ (Array.getElem?_eq_some_iff.1 HK2.out).1).trans HK2.out
  have HM2N : Hid (OwnC x7.heap.size x8.heap.size x19 (cmC 1 Q s4) (cmS 1 s4)) := HM2.out.below hb
  have HZ19 : Hid (x18.heap.size ≤ x19.heap.size) := hb.size
  clear HB HKa HKx HC0 HK0 HK2 HM2
  have HB := HBN
  clear HBN
  have HKa := HKaN
  clear HKaN
  have HKx := HKxN
  clear HKxN
  have HC0 := HC0N
  clear HC0N
  have HK0 := HK0N
  clear HK0N
  have HK2 := HK2N
  clear HK2N
  have HM2 := HM2N
  clear HM2N
  clear hb
  go_wp2
  refine wp_region_H (Below x19.heap.size x19) (by kernel_rfl) ?_
  show wpAnyH Tryz.prog _ _ _ _ (10 + 1) (Array.replicate 11 false) _ _
  refine fl_in (i := 8) (d := some 15) (obj := .cells zeroC 43 (0, 0)) (base := x19.heap.size) (T := Below x19.heap.size x19) (f := 10) ?_ (Below.refl _ _).drew
  refine fl_take (j := 0) (e' := some 95) (v := .agg (clusA c s)) rfl rfl rfl rfl (by kernel_rfl) (by kernel_rfl) (by kernel_rfl) (by kernel_rfl) (by kernel_rfl) (by decide) (by kernel_rfl) (fun _ _ _ h => h) (fun _ h => h) (Or.inl ⟨by rfl, ?_⟩) ?_
  · exact fun y hy => exec_load_blk _ _ rfl w.heap.size rfl _ _ _ _ ((hy.block _ (Array.getElem?_eq_some_iff.1 HKa.out).1).trans HKa.out) Tryz.underlying28 rfl (by kernel_rfl)
  simp only [Act.put, List.setIfInBounds_toArray, List.set_cons_zero, List.set_cons_succ]
  refine fl_take (j := 2) (e' := some 97) (v := .agg (blkA b cb)) rfl rfl rfl rfl (by kernel_rfl) (by kernel_rfl) (by kernel_rfl) (by kernel_rfl) (by kernel_rfl) (by decide) (by kernel_rfl) (fun _ _ _ h => h) (fun _ h => h) (Or.inl ⟨by rfl, ?_⟩) ?_
  · exact fun y hy => exec_load_blk _ _ rfl (w.heap.size + 1) rfl _ _ _ _ ((hy.block _ (Array.getElem?_eq_some_iff.1 HKx.out).1).trans HKx.out) Tryz.underlying56 rfl (by kernel_rfl)
  simp only [Act.put, List.setIfInBounds_toArray, List.set_cons_zero, List.set_cons_succ]
  refine fl_call (c := 1) (e' := some 96) (fn := 8) (args := #[.agg (clusA c s)]) (T' := fun v' y => ∃ sa, v' = clusV c sa ∧ (OwnC x19.heap.size y.heap.size y c sa ∧ Below x19.heap.size x19 y)) rfl rfl ⟨rfl, fun ρ x => ?_⟩ (fun _ h => h.size) (fun a b h hb => bt h hb) (fun _ h => h) rfl rfl (by kernel_rfl) (Or.inl (by kernel_rfl)) (by kernel_rfl) (by decide) (by kernel_rfl) (by rfl) (fun x => ?_) (fun y hy => (toCluster_any c s y (HR.out.below (bt HB.out hy)) HO.out).mono (fun e x' h => by obtain ⟨sa, he, ho, hb⟩ := h; exact ⟨_, he, KpF.below hb, sa, rfl, ho.low hy.size, bt hy hb⟩)) (fun _ _ h => by obtain ⟨_, _, _, h⟩ := h; exact h) ?_
  · unfold flP zeroC
    go_simp
    try with_reducible rfl
  · go_simp
    try with_reducible rfl
  intro va
  refine fl_ex (fun sa => fl_and (fun hva => ?_))
  subst hva
  simp only [Act.put, List.setIfInBounds_toArray, List.set_cons_zero, List.set_cons_succ]
  refine fl_call (c := 3) (e' := some 98) (fn := 18) (args := #[.agg (blkA b cb)]) (T' := fun v' y => ∃ cz, v' = .agg (blkA b cz) ∧ (RowsR y cz 3 cmdF b.2.1 ∧ OwnC x19.heap.size y.heap.size y c sa ∧ Below x19.heap.size x19 y)) rfl rfl ⟨rfl, fun ρ x => ?_⟩ (fun _ h => h.2.size) (fun a b h hb => ⟨(h.1.below hb).wide hb.size (Nat.le_refl _), bt h.2 hb⟩) (fun _ h => h.2) rfl rfl (by kernel_rfl) (Or.inl (by kernel_rfl)) (by kernel_rfl) (by decide) (by kernel_rfl) (by rfl) (fun x => ?_) (fun y hy => (toBlock_any b cb y ((HBK.out.1).below (bt HB.out hy.2)) HKB.out.1).mono (fun e x' h => by obtain ⟨cz, he, ho, hb⟩ := h; exact ⟨_, he, KpF.below hb, cz, rfl, rows_of_own cmdF_len ho, (hy.1.below hb).wide hb.size (Nat.le_refl _), bt hy.2 hb⟩)) (fun _ _ h => by obtain ⟨_, _, _, _, h⟩ := h; exact h) ?_
  · unfold flP zeroC
    go_simp
    try with_reducible rfl
  · go_simp
    try with_reducible rfl
  intro vb
  refine fl_ex (fun cz => fl_and (fun hvb => ?_))
  subst hvb
  simp only [Act.put, List.setIfInBounds_toArray, List.set_cons_zero, List.set_cons_succ]
  refine fl_call (c := 4) (e' := some 99) (fn := 19) (args := #[clusV c sa, .agg (blkA b cz)]) (T' := fun v' y => ∃ sb, (v' = .tuple #[clusV Q sb, .int .i64 A] ∧ (clusA Q sb).all (·.oneCell') = true) ∧ (OwnC x19.heap.size y.heap.size y Q sb ∧ Below x19.heap.size x19 y)) rfl rfl ⟨rfl, fun ρ x => ?_⟩ (fun _ h => h.2.2.size) (fun a b h hb => ⟨h.1.below hb, (h.2.1.below hb).wide hb.size (Nat.le_refl _), bt h.2.2 hb⟩) (fun _ h => h.2.2) rfl rfl (by kernel_rfl) (Or.inl (by kernel_rfl)) (by kernel_rfl) (by decide) (by kernel_rfl) (by rfl) (fun x => ?_) (fun y hy => by have hsp := HI c b cz y hy.1 HO.out HG.out HKB.out HBK.out.2.2.2.2.1 sa x19.heap.size y.heap.size hy.2.1 (HEV.out.below (bt HB.out hy.2.2)); rw [HQ.out.1, HQ.out.2] at hsp; exact hsp.mono (fun e x' h => by obtain ⟨sb, he, ho, hb⟩ := h; exact ⟨_, he, KpF.below hb, sb, ⟨rfl, clusA_one ho⟩, ho.low hy.2.2.size, bt hy.2.2 hb⟩)) (fun _ _ h => by obtain ⟨_, _, h⟩ := h; exact h.2) ?_
  · unfold flP zeroC
    go_simp
    try with_reducible rfl
  · go_simp
    try with_reducible rfl
  intro vc
  refine fl_ex (fun s7 => fl_and (fun hvc => ?_))
  obtain ⟨rfl, hone⟩ := hvc
  simp only [Act.put, List.setIfInBounds_toArray, List.set_cons_zero, List.set_cons_succ]
  refine fl_take (j := 5) (e' := some 94) (v := .tuple #[clusV Q s7, .int .i64 A]) rfl rfl rfl rfl (by kernel_rfl) (by kernel_rfl) (by kernel_rfl) (by kernel_rfl) (by kernel_rfl) (by decide) (by kernel_rfl) (fun _ _ _ h => h) (fun _ h => h.2) (Or.inl ⟨by rfl, ?_⟩) ?_
  · intro x hx
    go_simp
    try with_reducible rfl
  simp only [Act.put, List.setIfInBounds_toArray, List.set_cons_zero, List.set_cons_succ]
  refine fl_take (j := 6) (e' := some 100) (v := clusV Q s7) rfl rfl rfl rfl (by kernel_rfl) (by kernel_rfl) (by kernel_rfl) (by kernel_rfl) (by kernel_rfl) (by decide) (by kernel_rfl) (fun _ _ _ h => h) (fun _ h => h.2) (Or.inl ⟨by rfl, ?_⟩) ?_
  · intro x hx
    go_simp
    try with_reducible rfl
  simp only [Act.put, List.setIfInBounds_toArray, List.set_cons_zero, List.set_cons_succ]
  refine fl_take (j := 7) (e' := some 101) (v := .int .i64 A) rfl rfl rfl rfl (by kernel_rfl) (by kernel_rfl) (by kernel_rfl) (by kernel_rfl) (by kernel_rfl) (by decide) (by kernel_rfl) (fun _ _ _ h => h) (fun _ h => h.2) (Or.inl ⟨by rfl, ?_⟩) ?_
  · intro x hx
    go_simp
    try with_reducible rfl
  simp only [Act.put, List.setIfInBounds_toArray, List.set_cons_zero, List.set_cons_succ]
  refine fl_out (f := 2) rfl rfl ⟨rfl, fun ρ x => ?_⟩ (fun _ h => h.2.size) (fun a b h hb => ⟨(h.1.below hb).wide hb.size (Nat.le_refl _), bt h.2 hb⟩) (fun _ h => h.2) (by kernel_rfl) ?_
  · unfold flP zeroC
    go_simp
    try with_reducible rfl
  intro N3 y hT hN hold
  simp only [Act.put, List.setIfInBounds_toArray, List.set_cons_zero, List.set_cons_succ]
  refine h_store (s := 9) (N := N3) (cells := clusA Q s7) rfl rfl rfl rfl (by kernel_rfl) rfl rfl hold (by kernel_rfl) rfl hone ?_
  intro x20 hgr hnew
  have hlt : N3 < x20.heap.size := (Array.getElem?_eq_some_iff.1 hnew).1
  have hb : Below x19.heap.size x19 x20 := hT.2.grown hgr hT.2.size (fun k hk => by cases hk; exact hN)
  refine ⟨hb, ?_⟩
  refine h_take (j := 10) (e' := some 16) (v := .int .i64 A) rfl rfl (by kernel_rfl) (by kernel_rfl) (by kernel_rfl) (fun _ _ _ h => h) (Or.inl ⟨by rfl, ?_⟩) hb ?_
  · intro x hx
    go_simp
    try with_reducible rfl
  simp only [Act.put, List.setIfInBounds_toArray, List.set_cons_zero, List.set_cons_succ]
  refine wpAnyH_done (by kernel_rfl) ?_ _
  have HC4A : Hid (OwnC x19.heap.size x20.heap.size x20 Q s7) := (hT.1.boxT hold hgr).wide hgr.size (Nat.le_refl _)
  have HK3A : Hid (x20.heap[N3]? = Option.some (.cells (clusA Q s7) 43 (0, 0))) := hnew
  have HNN3 : Hid (x19.heap.size ≤ N3 ∧ N3 < x20.heap.size) := ⟨hN, hlt⟩
  have HBN : Hid (Below w.heap.size w x20) := bt HB.out hb
  have HKaN : Hid (x20.heap[w.heap.size]? = Option.some (.cells (clusA c s) 28 (0, 0))) := (hb.block _ (Array.getElem?_eq_some_iff.1 HKa.out).1).trans HKa.out
  have HKxN : Hid (x20.heap[(w.heap.size + 1)]? = Option.some (.cells (blkA b cb) 56 (0, 0))) := (hb.block _ (Array.getElem?_eq_some_iff.1 HKx.out).1).trans HKx.out
  have HC0N : Hid (OwnC x2.heap.size x3.heap.size x20 Q s2) := HC0.out.below hb
  have HK0N : Hid (x20.heap[N0]? = Option.some (.cells (clusA Q s2) 43 (0, 0))) := (hb.block _ (Array.getElem?_eq_some_iff.1 HK0.out).1).trans HK0.out
  have HK2N : Hid (x20.heap[x8.heap.size]? = Option.some (.cells (clusA Q s4) 43 (0, 0))) := (hb.block _ (Array.getElem?_eq_some_iff.1 HK2.out).1).trans HK2.out
  have HM2N : Hid (OwnC x7.heap.size x8.heap.size x20 (cmC 1 Q s4) (cmS 1 s4)) := HM2.out.below hb
  have HZ20 : Hid (x19.heap.size ≤ x20.heap.size) := hb.size
  clear HB HKa HKx HC0 HK0 HK2 HM2
  have HB := HBN
  clear HBN
  have HKa := HKaN
  clear HKaN
  have HKx := HKxN
  clear HKxN
  have HC0 := HC0N
  clear HC0N
  have HK0 := HK0N
  clear HK0N
  have HK2 := HK2N
  clear HK2N
  have HM2 := HM2N
  clear HM2N
  have HC4 := HC4A
  clear HC4A
  have HK3 := HK3A
  clear HK3A
  clear hT hN hold hgr hnew hlt hb hone
  unfold flP
  go_wp2_with (first | (refine wpList_load_row rfl _ _ rfl w.heap.size rfl 28 _ (0, 0) _ HKa.out Tryz.underlying28 rfl (by kernel_rfl) ?_) | (refine wpList_load_row rfl _ _ rfl (w.heap.size + 1) rfl 56 _ (0, 0) _ HKx.out Tryz.underlying56 rfl (by kernel_rfl) ?_) | (refine wpList_load_row rfl _ _ rfl N0 rfl 43 _ (0, 0) _ HK0.out Tryz.underlying43 rfl (by kernel_rfl) ?_) | (refine wpList_load_row rfl _ _ rfl x8.heap.size rfl 43 _ (0, 0) _ HK2.out Tryz.underlying43 rfl (by kernel_rfl) ?_) | (refine wpList_load_row rfl _ _ rfl N3 rfl 43 _ (0, 0) _ HK3.out Tryz.underlying43 rfl (by kernel_rfl) ?_) | (refine wpList_load_row_w (by first | rfl | simp [Region.wanted, yielded] | simp [Region.wanted, yielded, hk0]) _ _ rfl w.heap.size rfl 28 _ (0, 0) _ HKa.out Tryz.underlying28 rfl (by kernel_rfl) ?_) | (refine wpList_load_row_w (by first | rfl | simp [Region.wanted, yielded] | simp [Region.wanted, yielded, hk0]) _ _ rfl (w.heap.size + 1) rfl 56 _ (0, 0) _ HKx.out Tryz.underlying56 rfl (by kernel_rfl) ?_) | (refine wpList_load_row_w (by first | rfl | simp [Region.wanted, yielded] | simp [Region.wanted, yielded, hk0]) _ _ rfl N0 rfl 43 _ (0, 0) _ HK0.out Tryz.underlying43 rfl (by kernel_rfl) ?_) | (refine wpList_load_row_w (by first | rfl | simp [Region.wanted, yielded] | simp [Region.wanted, yielded, hk0]) _ _ rfl x8.heap.size rfl 43 _ (0, 0) _ HK2.out Tryz.underlying43 rfl (by kernel_rfl) ?_) | (refine wpList_load_row_w (by first | rfl | simp [Region.wanted, yielded] | simp [Region.wanted, yielded, hk0]) _ _ rfl N3 rfl 43 _ (0, 0) _ HK3.out Tryz.underlying43 rfl (by kernel_rfl) ?_))
  refine (eqCluster_yes Q s7 s2 x20 HC4.out.reads HC0.out.reads HFQ.out.1).mono ?_
  rintro e x21 ⟨rfl, hb⟩
  have HBN : Hid (Below w.heap.size w x21) := bt HB.out hb
  have HKaN : Hid (x21.heap[w.heap.size]? = Option.some (.cells (clusA c s) 28 (0, 0))) := (hb.block _ (Array.getElem?_eq_some_iff.1 HKa.out).1).trans HKa.out
  have HKxN : Hid (x21.heap[(w.heap.size + 1)]? = Option.some (.cells (blkA b cb) 56 (0, 0))) := (hb.block _ (Array.getElem?_eq_some_iff.1 HKx.out).1).trans HKx.out
  have HC0N : Hid (OwnC x2.heap.size x3.heap.size x21 Q s2) := HC0.out.below hb
  have HK0N : Hid (x21.heap[N0]? = Option.some (.cells (clusA Q s2) 43 (0, 0))) := (hb.block _ (Array.getElem?_eq_some_iff.1 HK0.out).1).trans HK0.out
  have HK2N : Hid (x21.heap[x8.heap.size]? = Option.some (.cells (clusA Q s4) 43 (0, 0))) := (hb.block _ (Array.getElem?_eq_some_iff.1 HK2.out).1).trans HK2.out
  have HM2N : Hid (OwnC x7.heap.size x8.heap.size x21 (cmC 1 Q s4) (cmS 1 s4)) := HM2.out.below hb
  have HC4N : Hid (OwnC x19.heap.size x20.heap.size x21 Q s7) := HC4.out.below hb
  have HK3N : Hid (x21.heap[N3]? = Option.some (.cells (clusA Q s7) 43 (0, 0))) := (hb.block _ (Array.getElem?_eq_some_iff.1 HK3.out).1).trans HK3.out
  have HZ21 : Hid (x20.heap.size ≤ x21.heap.size) := hb.size
  clear HB HKa HKx HC0 HK0 HK2 HM2 HC4 HK3
  have HB := HBN
  clear HBN
  have HKa := HKaN
  clear HKaN
  have HKx := HKxN
  clear HKxN
  have HC0 := HC0N
  clear HC0N
  have HK0 := HK0N
  clear HK0N
  have HK2 := HK2N
  clear HK2N
  have HM2 := HM2N
  clear HM2N
  have HC4 := HC4N
  clear HC4N
  have HK3 := HK3N
  clear HK3N
  clear hb
  go_wp2_with (first | (refine wpList_load_row rfl _ _ rfl w.heap.size rfl 28 _ (0, 0) _ HKa.out Tryz.underlying28 rfl (by kernel_rfl) ?_) | (refine wpList_load_row rfl _ _ rfl (w.heap.size + 1) rfl 56 _ (0, 0) _ HKx.out Tryz.underlying56 rfl (by kernel_rfl) ?_) | (refine wpList_load_row rfl _ _ rfl N0 rfl 43 _ (0, 0) _ HK0.out Tryz.underlying43 rfl (by kernel_rfl) ?_) | (refine wpList_load_row rfl _ _ rfl x8.heap.size rfl 43 _ (0, 0) _ HK2.out Tryz.underlying43 rfl (by kernel_rfl) ?_) | (refine wpList_load_row rfl _ _ rfl N3 rfl 43 _ (0, 0) _ HK3.out Tryz.underlying43 rfl (by kernel_rfl) ?_) | (refine wpList_load_row_w (by first | rfl | simp [Region.wanted, yielded] | simp [Region.wanted, yielded, hk0]) _ _ rfl w.heap.size rfl 28 _ (0, 0) _ HKa.out Tryz.underlying28 rfl (by kernel_rfl) ?_) | (refine wpList_load_row_w (by first | rfl | simp [Region.wanted, yielded] | simp [Region.wanted, yielded, hk0]) _ _ rfl (w.heap.size + 1) rfl 56 _ (0, 0) _ HKx.out Tryz.underlying56 rfl (by kernel_rfl) ?_) | (refine wpList_load_row_w (by first | rfl | simp [Region.wanted, yielded] | simp [Region.wanted, yielded, hk0]) _ _ rfl N0 rfl 43 _ (0, 0) _ HK0.out Tryz.underlying43 rfl (by kernel_rfl) ?_) | (refine wpList_load_row_w (by first | rfl | simp [Region.wanted, yielded] | simp [Region.wanted, yielded, hk0]) _ _ rfl x8.heap.size rfl 43 _ (0, 0) _ HK2.out Tryz.underlying43 rfl (by kernel_rfl) ?_) | (refine wpList_load_row_w (by first | rfl | simp [Region.wanted, yielded] | simp [Region.wanted, yielded, hk0]) _ _ rfl N3 rfl 43 _ (0, 0) _ HK3.out Tryz.underlying43 rfl (by kernel_rfl) ?_))
  refine (heldCluster_own Q s4 1 x7.heap.size x8.heap.size x21 HM2.out HMK.out Q).mono ?_
  rintro e x22 ⟨rfl, hb⟩
  have HBN : Hid (Below w.heap.size w x22) := bt HB.out hb
  have HKaN : Hid (x22.heap[w.heap.size]? = Option.some (.cells (clusA c s) 28 (0, 0))) := (hb.block _ (Array.getElem?_eq_some_iff.1 HKa.out).1).trans HKa.out
  have HKxN : Hid (x22.heap[(w.heap.size + 1)]? = Option.some (.cells (blkA b cb) 56 (0, 0))) := (hb.block _ (Array.getElem?_eq_some_iff.1 HKx.out).1).trans HKx.out
  have HC0N : Hid (OwnC x2.heap.size x3.heap.size x22 Q s2) := HC0.out.below hb
  have HK0N : Hid (x22.heap[N0]? = Option.some (.cells (clusA Q s2) 43 (0, 0))) := (hb.block _ (Array.getElem?_eq_some_iff.1 HK0.out).1).trans HK0.out
  have HK2N : Hid (x22.heap[x8.heap.size]? = Option.some (.cells (clusA Q s4) 43 (0, 0))) := (hb.block _ (Array.getElem?_eq_some_iff.1 HK2.out).1).trans HK2.out
  have HM2N : Hid (OwnC x7.heap.size x8.heap.size x22 (cmC 1 Q s4) (cmS 1 s4)) := HM2.out.below hb
  have HC4N : Hid (OwnC x19.heap.size x20.heap.size x22 Q s7) := HC4.out.below hb
  have HK3N : Hid (x22.heap[N3]? = Option.some (.cells (clusA Q s7) 43 (0, 0))) := (hb.block _ (Array.getElem?_eq_some_iff.1 HK3.out).1).trans HK3.out
  have HZ22 : Hid (x21.heap.size ≤ x22.heap.size) := hb.size
  clear HB HKa HKx HC0 HK0 HK2 HM2 HC4 HK3
  have HB := HBN
  clear HBN
  have HKa := HKaN
  clear HKaN
  have HKx := HKxN
  clear HKxN
  have HC0 := HC0N
  clear HC0N
  have HK0 := HK0N
  clear HK0N
  have HK2 := HK2N
  clear HK2N
  have HM2 := HM2N
  clear HM2N
  have HC4 := HC4N
  clear HC4N
  have HK3 := HK3N
  clear HK3N
  clear hb
  go_wp2
  go_ret
  exact ⟨rfl, HB.out⟩

end Go.Proofs.YtcfgfhodbjakoavGreatDoor.WFnExactHandBlock
