/-
  The walk of the law FnExactOffer: the specification's answer and the program's are the same; what came in is as it was; the program's answer owns its memory. (Made by gof16.py.)
-/
import Derived.Test.YtjieklilojmifatGreatClusP
import Derived.Test.YtjieklilojmifatGreatVotedS
import Derived.Test.YtjieklilojmifatGreatRegH
import Derived.Test.YtjieklilojmifatGreatFloatY
import Derived.Test.YtjieklilojmifatGreatJ2
namespace Go.Proofs.YtjieklilojmifatGreat
open Go.RowKit Num
/-- a function of a cluster and a command -/
def ConO (f : FuncId) (F : CU → CM → CU × Bool) : Prop := ∀ (c : CU) (s : CW) (lo hi : Nat) (x : CM) (w : World) (_ : OwnC lo hi w c s) (_ : okC c) (_ : goodC c) (_ : wtCl c ≤ 1048576) (_ : (x.2.1.size : Int) ≤ 1048576), Calls Tryz.prog f #[clusV c s, cmdV x] w fun e w' => ∃ s', e = .returned (.tuple #[clusV (F c x).1 s', .bool (F c x).2]) ∧ OwnC w.heap.size w'.heap.size w' (F c x).1 s' ∧ Below w.heap.size w w'
def FitO (F : CU → CM → CU × Bool) : Prop := ∀ (c : CU) (x : CM), okC c → wtCl c ≤ 1048576 → (x.2.1.size : Int) ≤ 1048576 → okC (F c x).1 ∧ wtCl (F c x).1 ≤ 1200000
end Go.Proofs.YtjieklilojmifatGreat
namespace Go.Proofs.YtjieklilojmifatGreat.WFnExactOffer
open Go.RowKit Num

set_option maxRecDepth 100000 in
set_option maxHeartbeats 16000000 in
theorem walk_of (F : CU → CM → CU × Bool) (HF : FitO F) (HSp : ConO 7 F) (HI : ConO 10 F) (w : World) (c : CU) (s : CW) (hR : ClusR w c s) (hg : goodC c) (x : CM) (_ : (Lit.int .i64 x.1).wf = true) (hx : x.2.1.size ≤ maxLen) (_ : (Lit.int .i64 x.2.2).wf = true) :
    Calls Tryz.prog 3 #[clusV c s, cmdV x] w fun e w' => e = .returned (.bool true) ∧ Below w.heap.size w w' := by
  have HR : Hid (ClusR w c s) := hR
  have HG : Hid (goodC c) := hg
  have HXM : Hid (x.2.1.size ≤ maxLen) := hx
  clear hR hg hx
  unfold cmdV
  obtain ⟨X, hX⟩ : ∃ X, X = (w.alloc (.cells (clusA c s) 28)).alloc (.cells #[.int .i64 x.1, .string x.2.1, .int .i64 x.2.2] 30) := ⟨_, rfl⟩
  have HB : Hid (Below w.heap.size w X) := (by rw [hX]; exact ba (ba (Below.refl _ _) _) _ : Below w.heap.size w X)
  have HKa : Hid (X.heap[w.heap.size]? = Option.some (.cells (clusA c s) 28 (0, 0))) := (by rw [hX]; exact (alloc2 w _ _).1 : X.heap[w.heap.size]? = _)
  have HKx : Hid (X.heap[(w.heap.size + 1)]? = Option.some (.cells #[.int .i64 x.1, .string x.2.1, .int .i64 x.2.2] 30 (0, 0))) := (by rw [hX]; exact (alloc2 w _ _).2 : X.heap[w.heap.size + 1]? = _)
  have HZ0 : Hid (w.heap.size + 1 < X.heap.size) := (Array.getElem?_eq_some_iff.1 HKx.out).1
  go_enter Tryz.func3, Tryz.ntmps3
  go_wp2_with (first | (rw [← hX]; clear hX; (refine wpList_load_row rfl _ _ rfl w.heap.size rfl 28 _ (0, 0) _ HKa.out Tryz.underlying28 rfl (by kernel_rfl) ?_)) | (refine wpList_load_row rfl _ _ rfl w.heap.size rfl 28 _ (0, 0) _ HKa.out Tryz.underlying28 rfl (by kernel_rfl) ?_))
  refine (szCluster_any c s 1048576 X (by decide) (by decide) (HR.out.below HB.out) HG.out).mono ?_
  rintro e x1 ⟨z, rfl, hz, hb⟩
  have HBN : Hid (Below w.heap.size w x1) := bt HB.out hb
  have HKaN : Hid (x1.heap[w.heap.size]? = Option.some (.cells (clusA c s) 28 (0, 0))) := (hb.block _ (Array.getElem?_eq_some_iff.1 HKa.out).1).trans HKa.out
  have HKxN : Hid (x1.heap[(w.heap.size + 1)]? = Option.some (.cells #[.int .i64 x.1, .string x.2.1, .int .i64 x.2.2] 30 (0, 0))) := (hb.block _ (Array.getElem?_eq_some_iff.1 HKx.out).1).trans HKx.out
  have HZ1 : Hid (X.heap.size ≤ x1.heap.size) := hb.size
  clear HB HKa HKx
  have HB := HBN
  clear HBN
  have HKa := HKaN
  clear HKaN
  have HKx := HKxN
  clear HKxN
  clear hb
  rcases hz with rfl | ⟨z0, hsum, hok⟩
  · go_wp2
    go_ret
    exact ⟨rfl, HB.out⟩
  have HO : Hid (okC c) := hok
  have HZZ : Hid (z ≤ 1048576) := (by omega : z ≤ 1048576)
  have HWT : Hid (wtCl c ≤ 1048576) := (by omega : wtCl c ≤ 1048576)
  have hzn : ¬ z < 0 := by omega
  clear hok hsum
  go_wp2_with (first | (refine wpList_load_row rfl _ _ rfl w.heap.size rfl 28 _ (0, 0) _ HKa.out Tryz.underlying28 rfl (by kernel_rfl) ?_) | (refine wpList_load_row rfl _ _ rfl (w.heap.size + 1) rfl 30 _ (0, 0) _ HKx.out Tryz.underlying30 rfl (by kernel_rfl) ?_) | (refine wpList_load_row_w (by first | rfl | simp [Region.wanted, yielded] | simp [Region.wanted, yielded, hk0]) _ _ rfl w.heap.size rfl 28 _ (0, 0) _ HKa.out Tryz.underlying28 rfl (by kernel_rfl) ?_) | (refine wpList_load_row_w (by first | rfl | simp [Region.wanted, yielded] | simp [Region.wanted, yielded, hk0]) _ _ rfl (w.heap.size + 1) rfl 30 _ (0, 0) _ HKx.out Tryz.underlying30 rfl (by kernel_rfl) ?_))
  refine (szCmd_any x z x1 z0 HZZ.out (by have := HXM.out; unfold maxLen at this; omega)).mono ?_
  rintro e x2 ⟨rfl, hb⟩
  have HBN : Hid (Below w.heap.size w x2) := bt HB.out hb
  have HKaN : Hid (x2.heap[w.heap.size]? = Option.some (.cells (clusA c s) 28 (0, 0))) := (hb.block _ (Array.getElem?_eq_some_iff.1 HKa.out).1).trans HKa.out
  have HKxN : Hid (x2.heap[(w.heap.size + 1)]? = Option.some (.cells #[.int .i64 x.1, .string x.2.1, .int .i64 x.2.2] 30 (0, 0))) := (hb.block _ (Array.getElem?_eq_some_iff.1 HKx.out).1).trans HKx.out
  have HZ2 : Hid (x1.heap.size ≤ x2.heap.size) := hb.size
  clear HB HKa HKx
  have HB := HBN
  clear HBN
  have HKa := HKaN
  clear HKaN
  have HKx := HKxN
  clear HKxN
  clear hb
  by_cases hn1 : z - (x.2.1.size : Int) < 0
  · rw [if_pos hn1]
    go_wp2
    go_ret
    exact ⟨rfl, HB.out⟩
  rw [if_neg hn1]
  have HXS : Hid ((x.2.1.size : Int) ≤ 1048576) := (by have := HZZ.out; omega : (x.2.1.size : Int) ≤ 1048576)
  have HFQ : Hid (okC (F c x).1 ∧ wtCl (F c x).1 ≤ 1200000) := HF c x HO.out HWT.out HXS.out
  obtain ⟨Q, hQ⟩ : ∃ Q, Q = (F c x).1 := ⟨_, rfl⟩
  obtain ⟨B, hBB⟩ : ∃ B, B = (F c x).2 := ⟨_, rfl⟩
  have HQ : Hid ((F c x).1 = Q ∧ (F c x).2 = B) := ⟨hQ.symm, hBB.symm⟩
  rw [← hQ] at HFQ
  clear hQ hBB
  have hqq : (B != B) = false := by simp
  obtain ⟨z2, hz2⟩ : ∃ z2, z2 = z - (x.2.1.size : Int) := ⟨_, rfl⟩
  rw [← hz2] at hn1 ⊢
  clear hz2
  go_wp2
  refine wp_region_H (Below x2.heap.size x2) (by kernel_rfl) ?_
  show wpAnyH Tryz.prog _ _ _ _ (10 + 1) (Array.replicate 11 false) _ _
  refine fl_in (i := 8) (d := some 6) (obj := .cells zeroC 39 (0, 0)) (base := x2.heap.size) (T := Below x2.heap.size x2) (f := 10) ?_ (Below.refl _ _).drew
  refine fl_take (j := 0) (e' := some 27) (v := .agg (clusA c s)) rfl rfl rfl rfl (by kernel_rfl) (by kernel_rfl) (by kernel_rfl) (by kernel_rfl) (by kernel_rfl) (by decide) (by kernel_rfl) (fun _ _ _ h => h) (fun _ h => h) (Or.inl ⟨by rfl, ?_⟩) ?_
  · exact fun y hy => exec_load_blk _ _ rfl w.heap.size rfl _ _ _ _ ((hy.block _ (Array.getElem?_eq_some_iff.1 HKa.out).1).trans HKa.out) Tryz.underlying28 rfl (by kernel_rfl)
  simp only [Act.put, List.setIfInBounds_toArray, List.set_cons_zero, List.set_cons_succ]
  refine fl_take (j := 2) (e' := some 29) (v := .agg #[.int .i64 x.1, .string x.2.1, .int .i64 x.2.2]) rfl rfl rfl rfl (by kernel_rfl) (by kernel_rfl) (by kernel_rfl) (by kernel_rfl) (by kernel_rfl) (by decide) (by kernel_rfl) (fun _ _ _ h => h) (fun _ h => h) (Or.inl ⟨by rfl, ?_⟩) ?_
  · exact fun y hy => exec_load_blk _ _ rfl (w.heap.size + 1) rfl _ _ _ _ ((hy.block _ (Array.getElem?_eq_some_iff.1 HKx.out).1).trans HKx.out) Tryz.underlying30 rfl (by kernel_rfl)
  simp only [Act.put, List.setIfInBounds_toArray, List.set_cons_zero, List.set_cons_succ]
  refine fl_call (c := 1) (e' := some 28) (fn := 8) (args := #[.agg (clusA c s)]) (T' := fun v' y => ∃ sa, v' = clusV c sa ∧ (OwnC x2.heap.size y.heap.size y c sa ∧ Below x2.heap.size x2 y)) rfl rfl ⟨rfl, fun ρ x => ?_⟩ (fun _ h => h.size) (fun a b h hb => bt h hb) (fun _ h => h) rfl rfl (by kernel_rfl) (Or.inl (by kernel_rfl)) (by kernel_rfl) (by decide) (by kernel_rfl) (by rfl) (fun x => ?_) (fun y hy => (toCluster_any c s y (HR.out.below (bt HB.out hy)) HO.out).mono (fun e x' h => by obtain ⟨sa, he, ho, hb⟩ := h; exact ⟨_, he, KpF.below hb, sa, rfl, ho.low hy.size, bt hy hb⟩)) (fun _ _ h => by obtain ⟨_, _, _, h⟩ := h; exact h) ?_
  · unfold flP zeroC
    go_simp
    try with_reducible rfl
  · go_simp
    try with_reducible rfl
  intro va
  refine fl_ex (fun sa => fl_and (fun hva => ?_))
  subst hva
  simp only [Act.put, List.setIfInBounds_toArray, List.set_cons_zero, List.set_cons_succ]
  refine fl_call_v (c := 3) (e' := some 30) (fn := 9) (args := #[.agg #[.int .i64 x.1, .string x.2.1, .int .i64 x.2.2]]) (v := .agg #[.int .i64 x.1, .string x.2.1, .int .i64 x.2.2]) rfl rfl ⟨rfl, fun ρ x => ?_⟩ (fun _ h => h.2.size) (fun a b h hb => ⟨(h.1.below hb).wide hb.size (Nat.le_refl _), bt h.2 hb⟩) (fun _ h => h.2) rfl rfl (by kernel_rfl) (Or.inl (by kernel_rfl)) (by kernel_rfl) (by decide) (by kernel_rfl) (by rfl) (fun x => ?_) (fun y _ => toCmd_any x y) ?_
  · unfold flP zeroC
    go_simp
    try with_reducible rfl
  · go_simp
    try with_reducible rfl
  simp only [Act.put, List.setIfInBounds_toArray, List.set_cons_zero, List.set_cons_succ]
  refine fl_call (c := 4) (e' := some 31) (fn := 7) (args := #[.agg (clusA c sa), .agg #[.int .i64 x.1, .string x.2.1, .int .i64 x.2.2]]) (T' := fun v' y => ∃ sb, (v' = .tuple #[clusV Q sb, .bool B] ∧ (clusA Q sb).all (·.oneCell') = true) ∧ (OwnC x2.heap.size y.heap.size y Q sb ∧ Below x2.heap.size x2 y)) rfl rfl ⟨rfl, fun ρ x => ?_⟩ (fun _ h => h.2.size) (fun a b h hb => ⟨(h.1.below hb).wide hb.size (Nat.le_refl _), bt h.2 hb⟩) (fun _ h => h.2) rfl rfl (by kernel_rfl) (Or.inl (by kernel_rfl)) (by kernel_rfl) (by decide) (by kernel_rfl) (by rfl) (fun x => ?_) (fun y hy => by have hsp := HSp c sa x2.heap.size y.heap.size x y hy.1 HO.out HG.out HWT.out HXS.out; rw [HQ.out.1, HQ.out.2] at hsp; exact hsp.mono (fun e x' h => by obtain ⟨sb, he, ho, hb⟩ := h; exact ⟨_, he, KpF.below hb, sb, ⟨rfl, clusA_one ho⟩, ho.low hy.2.size, bt hy.2 hb⟩)) (fun _ _ h => by obtain ⟨_, _, h⟩ := h; exact h.2) ?_
  · unfold flP zeroC
    go_simp
    try with_reducible rfl
  · go_simp
    try with_reducible rfl
  intro vc
  refine fl_ex (fun s2 => fl_and (fun hvc => ?_))
  obtain ⟨rfl, hone⟩ := hvc
  simp only [Act.put, List.setIfInBounds_toArray, List.set_cons_zero, List.set_cons_succ]
  refine fl_take (j := 5) (e' := some 26) (v := .tuple #[clusV Q s2, .bool B]) rfl rfl rfl rfl (by kernel_rfl) (by kernel_rfl) (by kernel_rfl) (by kernel_rfl) (by kernel_rfl) (by decide) (by kernel_rfl) (fun _ _ _ h => h) (fun _ h => h.2) (Or.inl ⟨by rfl, ?_⟩) ?_
  · intro x hx
    go_simp
    try with_reducible rfl
  simp only [Act.put, List.setIfInBounds_toArray, List.set_cons_zero, List.set_cons_succ]
  refine fl_take (j := 6) (e' := some 32) (v := clusV Q s2) rfl rfl rfl rfl (by kernel_rfl) (by kernel_rfl) (by kernel_rfl) (by kernel_rfl) (by kernel_rfl) (by decide) (by kernel_rfl) (fun _ _ _ h => h) (fun _ h => h.2) (Or.inl ⟨by rfl, ?_⟩) ?_
  · intro x hx
    go_simp
    try with_reducible rfl
  simp only [Act.put, List.setIfInBounds_toArray, List.set_cons_zero, List.set_cons_succ]
  refine fl_take (j := 7) (e' := some 33) (v := .bool B) rfl rfl rfl rfl (by kernel_rfl) (by kernel_rfl) (by kernel_rfl) (by kernel_rfl) (by kernel_rfl) (by decide) (by kernel_rfl) (fun _ _ _ h => h) (fun _ h => h.2) (Or.inl ⟨by rfl, ?_⟩) ?_
  · intro x hx
    go_simp
    try with_reducible rfl
  simp only [Act.put, List.setIfInBounds_toArray, List.set_cons_zero, List.set_cons_succ]
  refine fl_out (f := 2) rfl rfl ⟨rfl, fun ρ x => ?_⟩ (fun _ h => h.2.size) (fun a b h hb => ⟨(h.1.below hb).wide hb.size (Nat.le_refl _), bt h.2 hb⟩) (fun _ h => h.2) (by kernel_rfl) ?_
  · unfold flP zeroC
    go_simp
    try with_reducible rfl
  intro N0 y hT hN hold
  simp only [Act.put, List.setIfInBounds_toArray, List.set_cons_zero, List.set_cons_succ]
  refine h_store (s := 9) (N := N0) (cells := clusA Q s2) rfl rfl rfl rfl (by kernel_rfl) rfl rfl hold (by kernel_rfl) rfl hone ?_
  intro x3 hgr hnew
  have hlt : N0 < x3.heap.size := (Array.getElem?_eq_some_iff.1 hnew).1
  have hb : Below x2.heap.size x2 x3 := hT.2.grown hgr hT.2.size (fun k hk => by cases hk; exact hN)
  refine ⟨hb, ?_⟩
  refine h_take (j := 10) (e' := some 7) (v := .bool B) rfl rfl (by kernel_rfl) (by kernel_rfl) (by kernel_rfl) (fun _ _ _ h => h) (Or.inl ⟨by rfl, ?_⟩) hb ?_
  · intro x hx
    go_simp
    try with_reducible rfl
  simp only [Act.put, List.setIfInBounds_toArray, List.set_cons_zero, List.set_cons_succ]
  refine wpAnyH_done (by kernel_rfl) ?_ _
  have HC0A : Hid (OwnC x2.heap.size x3.heap.size x3 Q s2) := (hT.1.boxT hold hgr).wide hgr.size (Nat.le_refl _)
  have HK0A : Hid (x3.heap[N0]? = Option.some (.cells (clusA Q s2) 39 (0, 0))) := hnew
  have HNN0 : Hid (x2.heap.size ≤ N0 ∧ N0 < x3.heap.size) := ⟨hN, hlt⟩
  have HBN : Hid (Below w.heap.size w x3) := bt HB.out hb
  have HKaN : Hid (x3.heap[w.heap.size]? = Option.some (.cells (clusA c s) 28 (0, 0))) := (hb.block _ (Array.getElem?_eq_some_iff.1 HKa.out).1).trans HKa.out
  have HKxN : Hid (x3.heap[(w.heap.size + 1)]? = Option.some (.cells #[.int .i64 x.1, .string x.2.1, .int .i64 x.2.2] 30 (0, 0))) := (hb.block _ (Array.getElem?_eq_some_iff.1 HKx.out).1).trans HKx.out
  have HZ3 : Hid (x2.heap.size ≤ x3.heap.size) := hb.size
  clear HB HKa HKx
  have HB := HBN
  clear HBN
  have HKa := HKaN
  clear HKaN
  have HKx := HKxN
  clear HKxN
  have HC0 := HC0A
  clear HC0A
  have HK0 := HK0A
  clear HK0A
  clear hT hN hold hgr hnew hlt hb hone
  unfold flP
  go_wp2_with (first | (refine wpList_load_row rfl _ _ rfl w.heap.size rfl 28 _ (0, 0) _ HKa.out Tryz.underlying28 rfl (by kernel_rfl) ?_) | (refine wpList_load_row rfl _ _ rfl (w.heap.size + 1) rfl 30 _ (0, 0) _ HKx.out Tryz.underlying30 rfl (by kernel_rfl) ?_) | (refine wpList_load_row rfl _ _ rfl N0 rfl 39 _ (0, 0) _ HK0.out Tryz.underlying39 rfl (by kernel_rfl) ?_) | (refine wpList_load_row_w (by first | rfl | simp [Region.wanted, yielded] | simp [Region.wanted, yielded, hk0]) _ _ rfl w.heap.size rfl 28 _ (0, 0) _ HKa.out Tryz.underlying28 rfl (by kernel_rfl) ?_) | (refine wpList_load_row_w (by first | rfl | simp [Region.wanted, yielded] | simp [Region.wanted, yielded, hk0]) _ _ rfl (w.heap.size + 1) rfl 30 _ (0, 0) _ HKx.out Tryz.underlying30 rfl (by kernel_rfl) ?_) | (refine wpList_load_row_w (by first | rfl | simp [Region.wanted, yielded] | simp [Region.wanted, yielded, hk0]) _ _ rfl N0 rfl 39 _ (0, 0) _ HK0.out Tryz.underlying39 rfl (by kernel_rfl) ?_))
  refine (toCluster_any c s x3 (HR.out.below HB.out) HO.out).mono ?_
  rintro e x4 ⟨s3, rfl, ho, hb⟩
  have HC1A : Hid (OwnC x3.heap.size x4.heap.size x4 c s3) := ho
  have HBN : Hid (Below w.heap.size w x4) := bt HB.out hb
  have HKaN : Hid (x4.heap[w.heap.size]? = Option.some (.cells (clusA c s) 28 (0, 0))) := (hb.block _ (Array.getElem?_eq_some_iff.1 HKa.out).1).trans HKa.out
  have HKxN : Hid (x4.heap[(w.heap.size + 1)]? = Option.some (.cells #[.int .i64 x.1, .string x.2.1, .int .i64 x.2.2] 30 (0, 0))) := (hb.block _ (Array.getElem?_eq_some_iff.1 HKx.out).1).trans HKx.out
  have HC0N : Hid (OwnC x2.heap.size x3.heap.size x4 Q s2) := HC0.out.below hb
  have HK0N : Hid (x4.heap[N0]? = Option.some (.cells (clusA Q s2) 39 (0, 0))) := (hb.block _ (Array.getElem?_eq_some_iff.1 HK0.out).1).trans HK0.out
  have HZ4 : Hid (x3.heap.size ≤ x4.heap.size) := hb.size
  clear HB HKa HKx HC0 HK0
  have HB := HBN
  clear HBN
  have HKa := HKaN
  clear HKaN
  have HKx := HKxN
  clear HKxN
  have HC0 := HC0N
  clear HC0N
  have HK0 := HK0N
  clear HK0N
  have HC1 := HC1A
  clear HC1A
  clear ho hb
  go_wp2_with (first | (refine wpList_store_blk rfl _ _ _ rfl x4.heap.size (clusA c s3) rfl rfl 39 zeroC (heap_alloc_new x4 _) (by kernel_rfl) rfl (clusA_one HC1.out) ?_; intro x5 hg hk hz; have hb : Below x4.heap.size x4 x5 := made_below hg; have hlt : x4.heap.size < x5.heap.size := (Array.getElem?_eq_some_iff.1 hk).1; have HBN : Hid (Below w.heap.size w x5) := bt HB.out hb; have HKaN : Hid (x5.heap[w.heap.size]? = Option.some (.cells (clusA c s) 28 (0, 0))) := (hb.block _ (Array.getElem?_eq_some_iff.1 HKa.out).1).trans HKa.out; have HKxN : Hid (x5.heap[(w.heap.size + 1)]? = Option.some (.cells #[.int .i64 x.1, .string x.2.1, .int .i64 x.2.2] 30 (0, 0))) := (hb.block _ (Array.getElem?_eq_some_iff.1 HKx.out).1).trans HKx.out; have HC0N : Hid (OwnC x2.heap.size x3.heap.size x5 Q s2) := HC0.out.below hb; have HK0N : Hid (x5.heap[N0]? = Option.some (.cells (clusA Q s2) 39 (0, 0))) := (hb.block _ (Array.getElem?_eq_some_iff.1 HK0.out).1).trans HK0.out; have HC1N : Hid (OwnC x3.heap.size x4.heap.size x5 c s3) := HC1.out.below hb; have HZ5 : Hid (x4.heap.size < x5.heap.size) := hlt; clear HB HKa HKx HC0 HK0 HC1; have HB := HBN; clear HBN; have HKa := HKaN; clear HKaN; have HKx := HKxN; clear HKxN; have HC0 := HC0N; clear HC0N; have HK0 := HK0N; clear HK0N; have HC1 := HC1N; clear HC1N; have HK1 : Hid (x5.heap[x4.heap.size]? = Option.some (.cells (clusA c s3) 39 (0, 0))) := hk; clear hg hk hz hb hlt) | (refine wpList_load_row rfl _ _ rfl w.heap.size rfl 28 _ (0, 0) _ HKa.out Tryz.underlying28 rfl (by kernel_rfl) ?_) | (refine wpList_load_row rfl _ _ rfl (w.heap.size + 1) rfl 30 _ (0, 0) _ HKx.out Tryz.underlying30 rfl (by kernel_rfl) ?_) | (refine wpList_load_row rfl _ _ rfl N0 rfl 39 _ (0, 0) _ HK0.out Tryz.underlying39 rfl (by kernel_rfl) ?_) | (refine wpList_load_row rfl _ _ rfl x4.heap.size rfl 39 _ (0, 0) _ HK1.out Tryz.underlying39 rfl (by kernel_rfl) ?_) | (refine wpList_load_row_w (by first | rfl | simp [Region.wanted, yielded] | simp [Region.wanted, yielded, hk0]) _ _ rfl w.heap.size rfl 28 _ (0, 0) _ HKa.out Tryz.underlying28 rfl (by kernel_rfl) ?_) | (refine wpList_load_row_w (by first | rfl | simp [Region.wanted, yielded] | simp [Region.wanted, yielded, hk0]) _ _ rfl (w.heap.size + 1) rfl 30 _ (0, 0) _ HKx.out Tryz.underlying30 rfl (by kernel_rfl) ?_) | (refine wpList_load_row_w (by first | rfl | simp [Region.wanted, yielded] | simp [Region.wanted, yielded, hk0]) _ _ rfl N0 rfl 39 _ (0, 0) _ HK0.out Tryz.underlying39 rfl (by kernel_rfl) ?_) | (refine wpList_load_row_w (by first | rfl | simp [Region.wanted, yielded] | simp [Region.wanted, yielded, hk0]) _ _ rfl x4.heap.size rfl 39 _ (0, 0) _ HK1.out Tryz.underlying39 rfl (by kernel_rfl) ?_))
  go_wp2
  refine wp_region_H (Below x5.heap.size x5) (by kernel_rfl) ?_
  show wpAnyH Tryz.prog _ _ _ _ (9 + 1) (Array.replicate 10 false) _ _
  refine fl_in (i := 7) (d := some 9) (obj := .cells zeroC 39 (0, 0)) (base := x5.heap.size) (T := Below x5.heap.size x5) (f := 9) ?_ (Below.refl _ _).drew
  refine fl_take (j := 0) (e' := some 37) (v := .agg (clusA c s3)) rfl rfl rfl rfl (by kernel_rfl) (by kernel_rfl) (by kernel_rfl) (by kernel_rfl) (by kernel_rfl) (by decide) (by kernel_rfl) (fun _ _ _ h => h) (fun _ h => h) (Or.inl ⟨by rfl, ?_⟩) ?_
  · exact fun y hy => exec_load_blk _ _ rfl x4.heap.size rfl _ _ _ _ ((hy.block _ (Array.getElem?_eq_some_iff.1 HK1.out).1).trans HK1.out) Tryz.underlying39 rfl (by kernel_rfl)
  simp only [Act.put, List.setIfInBounds_toArray, List.set_cons_zero, List.set_cons_succ]
  refine fl_take (j := 1) (e' := some 38) (v := .agg #[.int .i64 x.1, .string x.2.1, .int .i64 x.2.2]) rfl rfl rfl rfl (by kernel_rfl) (by kernel_rfl) (by kernel_rfl) (by kernel_rfl) (by kernel_rfl) (by decide) (by kernel_rfl) (fun _ _ _ h => h) (fun _ h => h) (Or.inl ⟨by rfl, ?_⟩) ?_
  · exact fun y hy => exec_load_blk _ _ rfl (w.heap.size + 1) rfl _ _ _ _ ((hy.block _ (Array.getElem?_eq_some_iff.1 HKx.out).1).trans HKx.out) Tryz.underlying30 rfl (by kernel_rfl)
  simp only [Act.put, List.setIfInBounds_toArray, List.set_cons_zero, List.set_cons_succ]
  refine fl_call_v (c := 2) (e' := some 39) (fn := 9) (args := #[.agg #[.int .i64 x.1, .string x.2.1, .int .i64 x.2.2]]) (v := .agg #[.int .i64 x.1, .string x.2.1, .int .i64 x.2.2]) rfl rfl ⟨rfl, fun ρ x => ?_⟩ (fun _ h => h.size) (fun a b h hb => bt h hb) (fun _ h => h) rfl rfl (by kernel_rfl) (Or.inl (by kernel_rfl)) (by kernel_rfl) (by decide) (by kernel_rfl) (by rfl) (fun x => ?_) (fun y _ => toCmd_any x y) ?_
  · unfold flP zeroC
    go_simp
    try with_reducible rfl
  · go_simp
    try with_reducible rfl
  simp only [Act.put, List.setIfInBounds_toArray, List.set_cons_zero, List.set_cons_succ]
  refine fl_call (c := 3) (e' := some 40) (fn := 10) (args := #[.agg (clusA c s3), .agg #[.int .i64 x.1, .string x.2.1, .int .i64 x.2.2]]) (T' := fun v' y => ∃ sb, (v' = .tuple #[clusV Q sb, .bool B] ∧ (clusA Q sb).all (·.oneCell') = true) ∧ (OwnC x5.heap.size y.heap.size y Q sb ∧ Below x5.heap.size x5 y)) rfl rfl ⟨rfl, fun ρ x => ?_⟩ (fun _ h => h.size) (fun a b h hb => bt h hb) (fun _ h => h) rfl rfl (by kernel_rfl) (Or.inl (by kernel_rfl)) (by kernel_rfl) (by decide) (by kernel_rfl) (by rfl) (fun x => ?_) (fun y hy => by have hsp := HI c s3 x3.heap.size x4.heap.size x y (HC1.out.below hy) HO.out HG.out HWT.out HXS.out; rw [HQ.out.1, HQ.out.2] at hsp; exact hsp.mono (fun e x' h => by obtain ⟨sb, he, ho, hb⟩ := h; exact ⟨_, he, KpF.below hb, sb, ⟨rfl, clusA_one ho⟩, ho.low hy.size, bt hy hb⟩)) (fun _ _ h => by obtain ⟨_, _, h⟩ := h; exact h.2) ?_
  · unfold flP zeroC
    go_simp
    try with_reducible rfl
  · go_simp
    try with_reducible rfl
  intro vc
  refine fl_ex (fun s4 => fl_and (fun hvc => ?_))
  obtain ⟨rfl, hone⟩ := hvc
  simp only [Act.put, List.setIfInBounds_toArray, List.set_cons_zero, List.set_cons_succ]
  refine fl_take (j := 4) (e' := some 36) (v := .tuple #[clusV Q s4, .bool B]) rfl rfl rfl rfl (by kernel_rfl) (by kernel_rfl) (by kernel_rfl) (by kernel_rfl) (by kernel_rfl) (by decide) (by kernel_rfl) (fun _ _ _ h => h) (fun _ h => h.2) (Or.inl ⟨by rfl, ?_⟩) ?_
  · intro x hx
    go_simp
    try with_reducible rfl
  simp only [Act.put, List.setIfInBounds_toArray, List.set_cons_zero, List.set_cons_succ]
  refine fl_take (j := 5) (e' := some 41) (v := clusV Q s4) rfl rfl rfl rfl (by kernel_rfl) (by kernel_rfl) (by kernel_rfl) (by kernel_rfl) (by kernel_rfl) (by decide) (by kernel_rfl) (fun _ _ _ h => h) (fun _ h => h.2) (Or.inl ⟨by rfl, ?_⟩) ?_
  · intro x hx
    go_simp
    try with_reducible rfl
  simp only [Act.put, List.setIfInBounds_toArray, List.set_cons_zero, List.set_cons_succ]
  refine fl_take (j := 6) (e' := some 42) (v := .bool B) rfl rfl rfl rfl (by kernel_rfl) (by kernel_rfl) (by kernel_rfl) (by kernel_rfl) (by kernel_rfl) (by decide) (by kernel_rfl) (fun _ _ _ h => h) (fun _ h => h.2) (Or.inl ⟨by rfl, ?_⟩) ?_
  · intro x hx
    go_simp
    try with_reducible rfl
  simp only [Act.put, List.setIfInBounds_toArray, List.set_cons_zero, List.set_cons_succ]
  refine fl_out (f := 2) rfl rfl ⟨rfl, fun ρ x => ?_⟩ (fun _ h => h.2.size) (fun a b h hb => ⟨(h.1.below hb).wide hb.size (Nat.le_refl _), bt h.2 hb⟩) (fun _ h => h.2) (by kernel_rfl) ?_
  · unfold flP zeroC
    go_simp
    try with_reducible rfl
  intro N2 y hT hN hold
  simp only [Act.put, List.setIfInBounds_toArray, List.set_cons_zero, List.set_cons_succ]
  refine h_store (s := 8) (N := N2) (cells := clusA Q s4) rfl rfl rfl rfl (by kernel_rfl) rfl rfl hold (by kernel_rfl) rfl hone ?_
  intro x6 hgr hnew
  have hlt : N2 < x6.heap.size := (Array.getElem?_eq_some_iff.1 hnew).1
  have hb : Below x5.heap.size x5 x6 := hT.2.grown hgr hT.2.size (fun k hk => by cases hk; exact hN)
  refine ⟨hb, ?_⟩
  refine h_take (j := 9) (e' := some 10) (v := .bool B) rfl rfl (by kernel_rfl) (by kernel_rfl) (by kernel_rfl) (fun _ _ _ h => h) (Or.inl ⟨by rfl, ?_⟩) hb ?_
  · intro x hx
    go_simp
    try with_reducible rfl
  simp only [Act.put, List.setIfInBounds_toArray, List.set_cons_zero, List.set_cons_succ]
  refine wpAnyH_done (by kernel_rfl) ?_ _
  have HC2A : Hid (OwnC x5.heap.size x6.heap.size x6 Q s4) := (hT.1.boxT hold hgr).wide hgr.size (Nat.le_refl _)
  have HK2A : Hid (x6.heap[N2]? = Option.some (.cells (clusA Q s4) 39 (0, 0))) := hnew
  have HNN2 : Hid (x5.heap.size ≤ N2 ∧ N2 < x6.heap.size) := ⟨hN, hlt⟩
  have HBN : Hid (Below w.heap.size w x6) := bt HB.out hb
  have HKaN : Hid (x6.heap[w.heap.size]? = Option.some (.cells (clusA c s) 28 (0, 0))) := (hb.block _ (Array.getElem?_eq_some_iff.1 HKa.out).1).trans HKa.out
  have HKxN : Hid (x6.heap[(w.heap.size + 1)]? = Option.some (.cells #[.int .i64 x.1, .string x.2.1, .int .i64 x.2.2] 30 (0, 0))) := (hb.block _ (Array.getElem?_eq_some_iff.1 HKx.out).1).trans HKx.out
  have HC0N : Hid (OwnC x2.heap.size x3.heap.size x6 Q s2) := HC0.out.below hb
  have HK0N : Hid (x6.heap[N0]? = Option.some (.cells (clusA Q s2) 39 (0, 0))) := (hb.block _ (Array.getElem?_eq_some_iff.1 HK0.out).1).trans HK0.out
  have HC1N : Hid (OwnC x3.heap.size x4.heap.size x6 c s3) := HC1.out.below hb
  have HK1N : Hid (x6.heap[x4.heap.size]? = Option.some (.cells (clusA c s3) 39 (0, 0))) := (hb.block _ (Array.getElem?_eq_some_iff.1 HK1.out).1).trans HK1.out
  have HZ6 : Hid (x5.heap.size ≤ x6.heap.size) := hb.size
  clear HB HKa HKx HC0 HK0 HC1 HK1
  have HB := HBN
  clear HBN
  have HKa := HKaN
  clear HKaN
  have HKx := HKxN
  clear HKxN
  have HC0 := HC0N
  clear HC0N
  have HK0 := HK0N
  clear HK0N
  have HC1 := HC1N
  clear HC1N
  have HK1 := HK1N
  clear HK1N
  have HC2 := HC2A
  clear HC2A
  have HK2 := HK2A
  clear HK2A
  clear hT hN hold hgr hnew hlt hb hone
  unfold flP
  go_wp2_with (first | (refine wpList_load_row rfl _ _ rfl w.heap.size rfl 28 _ (0, 0) _ HKa.out Tryz.underlying28 rfl (by kernel_rfl) ?_) | (refine wpList_load_row rfl _ _ rfl (w.heap.size + 1) rfl 30 _ (0, 0) _ HKx.out Tryz.underlying30 rfl (by kernel_rfl) ?_) | (refine wpList_load_row rfl _ _ rfl N0 rfl 39 _ (0, 0) _ HK0.out Tryz.underlying39 rfl (by kernel_rfl) ?_) | (refine wpList_load_row rfl _ _ rfl x4.heap.size rfl 39 _ (0, 0) _ HK1.out Tryz.underlying39 rfl (by kernel_rfl) ?_) | (refine wpList_load_row rfl _ _ rfl N2 rfl 39 _ (0, 0) _ HK2.out Tryz.underlying39 rfl (by kernel_rfl) ?_) | (refine wpList_load_row_w (by first | rfl | simp [Region.wanted, yielded] | simp [Region.wanted, yielded, hk0]) _ _ rfl w.heap.size rfl 28 _ (0, 0) _ HKa.out Tryz.underlying28 rfl (by kernel_rfl) ?_) | (refine wpList_load_row_w (by first | rfl | simp [Region.wanted, yielded] | simp [Region.wanted, yielded, hk0]) _ _ rfl (w.heap.size + 1) rfl 30 _ (0, 0) _ HKx.out Tryz.underlying30 rfl (by kernel_rfl) ?_) | (refine wpList_load_row_w (by first | rfl | simp [Region.wanted, yielded] | simp [Region.wanted, yielded, hk0]) _ _ rfl N0 rfl 39 _ (0, 0) _ HK0.out Tryz.underlying39 rfl (by kernel_rfl) ?_) | (refine wpList_load_row_w (by first | rfl | simp [Region.wanted, yielded] | simp [Region.wanted, yielded, hk0]) _ _ rfl x4.heap.size rfl 39 _ (0, 0) _ HK1.out Tryz.underlying39 rfl (by kernel_rfl) ?_) | (refine wpList_load_row_w (by first | rfl | simp [Region.wanted, yielded] | simp [Region.wanted, yielded, hk0]) _ _ rfl N2 rfl 39 _ (0, 0) _ HK2.out Tryz.underlying39 rfl (by kernel_rfl) ?_))
  refine (eqCluster_yes Q s4 s2 x6 HC2.out.reads HC0.out.reads HFQ.out.1).mono ?_
  rintro e x7 ⟨rfl, hb⟩
  have HBN : Hid (Below w.heap.size w x7) := bt HB.out hb
  have HKaN : Hid (x7.heap[w.heap.size]? = Option.some (.cells (clusA c s) 28 (0, 0))) := (hb.block _ (Array.getElem?_eq_some_iff.1 HKa.out).1).trans HKa.out
  have HKxN : Hid (x7.heap[(w.heap.size + 1)]? = Option.some (.cells #[.int .i64 x.1, .string x.2.1, .int .i64 x.2.2] 30 (0, 0))) := (hb.block _ (Array.getElem?_eq_some_iff.1 HKx.out).1).trans HKx.out
  have HC0N : Hid (OwnC x2.heap.size x3.heap.size x7 Q s2) := HC0.out.below hb
  have HK0N : Hid (x7.heap[N0]? = Option.some (.cells (clusA Q s2) 39 (0, 0))) := (hb.block _ (Array.getElem?_eq_some_iff.1 HK0.out).1).trans HK0.out
  have HC1N : Hid (OwnC x3.heap.size x4.heap.size x7 c s3) := HC1.out.below hb
  have HK1N : Hid (x7.heap[x4.heap.size]? = Option.some (.cells (clusA c s3) 39 (0, 0))) := (hb.block _ (Array.getElem?_eq_some_iff.1 HK1.out).1).trans HK1.out
  have HC2N : Hid (OwnC x5.heap.size x6.heap.size x7 Q s4) := HC2.out.below hb
  have HK2N : Hid (x7.heap[N2]? = Option.some (.cells (clusA Q s4) 39 (0, 0))) := (hb.block _ (Array.getElem?_eq_some_iff.1 HK2.out).1).trans HK2.out
  have HZ7 : Hid (x6.heap.size ≤ x7.heap.size) := hb.size
  clear HB HKa HKx HC0 HK0 HC1 HK1 HC2 HK2
  have HB := HBN
  clear HBN
  have HKa := HKaN
  clear HKaN
  have HKx := HKxN
  clear HKxN
  have HC0 := HC0N
  clear HC0N
  have HK0 := HK0N
  clear HK0N
  have HC1 := HC1N
  clear HC1N
  have HK1 := HK1N
  clear HK1N
  have HC2 := HC2N
  clear HC2N
  have HK2 := HK2N
  clear HK2N
  clear hb
  go_wp2
  refine wp_region_H (fun x => x.heap[w.heap.size]? = some (.cells (clusA c s) 28 (0, 0)) ∧ x.heap[x4.heap.size]? = some (.cells (clusA c s3) 39 (0, 0))) (by kernel_rfl) ?_
  show wpAnyH Tryz.prog _ _ _ _ (4 + 1) (Array.replicate 5 false) _ _
  have hS : x7.drew.heap[w.heap.size]? = some (.cells (clusA c s) 28 (0, 0)) ∧ x7.drew.heap[x4.heap.size]? = some (.cells (clusA c s3) 39 (0, 0)) := ⟨HKa.out, HK1.out⟩
  refine h_take (j := 0) (e' := some 52) (v := .agg (clusA c s3)) rfl rfl (by kernel_rfl) (by kernel_rfl) (by kernel_rfl) (fun _ _ _ h => h) (Or.inl ⟨by rfl, fun x hx => exec_load_blk _ _ rfl x4.heap.size rfl _ _ _ _ hx.2 Tryz.underlying39 rfl (by kernel_rfl)⟩) hS ?_
  simp only [Act.put, List.setIfInBounds_toArray, List.set_cons_zero, List.set_cons_succ]
  refine h_take (j := 1) (e' := some 53) (v := .agg (clusA c s)) rfl rfl (by kernel_rfl) (by kernel_rfl) (by kernel_rfl) (fun _ _ _ h => h) (Or.inl ⟨by rfl, fun x hx => exec_load_blk _ _ rfl w.heap.size rfl _ _ _ _ hx.1 Tryz.underlying28 rfl (by kernel_rfl)⟩) hS ?_
  simp only [Act.put, List.setIfInBounds_toArray, List.set_cons_zero, List.set_cons_succ]
  refine h_call (c := 2) (e' := some 54) (fn := 8) (args := #[.agg (clusA c s)]) rfl rfl (by kernel_rfl) (by rfl) ?_ ((toCluster_any c s x7.drew (HR.out.below (HB.out.trans (Below.refl _ _).drew)) HO.out).mono ?_)
  · go_simp
    try with_reducible rfl
  rintro e x8 ⟨s5, rfl, ho, hb0⟩
  have hb : Below x7.heap.size x7 x8 := ((Below.refl _ _).drew).trans hb0
  have HRb : Hid (ClusR x8 c s5) := ho.reads
  have HBN : Hid (Below w.heap.size w x8) := bt HB.out hb
  have HKaN : Hid (x8.heap[w.heap.size]? = Option.some (.cells (clusA c s) 28 (0, 0))) := (hb.block _ (Array.getElem?_eq_some_iff.1 HKa.out).1).trans HKa.out
  have HKxN : Hid (x8.heap[(w.heap.size + 1)]? = Option.some (.cells #[.int .i64 x.1, .string x.2.1, .int .i64 x.2.2] 30 (0, 0))) := (hb.block _ (Array.getElem?_eq_some_iff.1 HKx.out).1).trans HKx.out
  have HC0N : Hid (OwnC x2.heap.size x3.heap.size x8 Q s2) := HC0.out.below hb
  have HK0N : Hid (x8.heap[N0]? = Option.some (.cells (clusA Q s2) 39 (0, 0))) := (hb.block _ (Array.getElem?_eq_some_iff.1 HK0.out).1).trans HK0.out
  have HC1N : Hid (OwnC x3.heap.size x4.heap.size x8 c s3) := HC1.out.below hb
  have HK1N : Hid (x8.heap[x4.heap.size]? = Option.some (.cells (clusA c s3) 39 (0, 0))) := (hb.block _ (Array.getElem?_eq_some_iff.1 HK1.out).1).trans HK1.out
  have HC2N : Hid (OwnC x5.heap.size x6.heap.size x8 Q s4) := HC2.out.below hb
  have HK2N : Hid (x8.heap[N2]? = Option.some (.cells (clusA Q s4) 39 (0, 0))) := (hb.block _ (Array.getElem?_eq_some_iff.1 HK2.out).1).trans HK2.out
  have HZ8 : Hid (x7.heap.size ≤ x8.heap.size) := hb.size
  clear HB HKa HKx HC0 HK0 HC1 HK1 HC2 HK2
  have HB := HBN
  clear HBN
  have HKa := HKaN
  clear HKaN
  have HKx := HKxN
  clear HKxN
  have HC0 := HC0N
  clear HC0N
  have HK0 := HK0N
  clear HK0N
  have HC1 := HC1N
  clear HC1N
  have HK1 := HK1N
  clear HK1N
  have HC2 := HC2N
  clear HC2N
  have HK2 := HK2N
  clear HK2N
  have hS1 : x8.heap[w.heap.size]? = some (.cells (clusA c s) 28 (0, 0)) ∧ x8.heap[x4.heap.size]? = some (.cells (clusA c s3) 39 (0, 0)) := ⟨HKa.out, HK1.out⟩
  clear ho hb hb0 hS
  refine ⟨_, rfl, hS1, ?_⟩
  simp only [Act.put, List.setIfInBounds_toArray, List.set_cons_zero, List.set_cons_succ]
  refine h_call (c := 3) (e' := some 55) (fn := 11) (args := #[.agg (clusA c s3), .agg (clusA c s5)]) rfl rfl (by kernel_rfl) (by rfl) ?_ ((eqCluster_yes c s3 s5 x8 HC1.out.reads HRb.out HO.out).mono ?_)
  · go_simp
    try with_reducible rfl
  rintro e x9 ⟨rfl, hb⟩
  have HBN : Hid (Below w.heap.size w x9) := bt HB.out hb
  have HKaN : Hid (x9.heap[w.heap.size]? = Option.some (.cells (clusA c s) 28 (0, 0))) := (hb.block _ (Array.getElem?_eq_some_iff.1 HKa.out).1).trans HKa.out
  have HKxN : Hid (x9.heap[(w.heap.size + 1)]? = Option.some (.cells #[.int .i64 x.1, .string x.2.1, .int .i64 x.2.2] 30 (0, 0))) := (hb.block _ (Array.getElem?_eq_some_iff.1 HKx.out).1).trans HKx.out
  have HC0N : Hid (OwnC x2.heap.size x3.heap.size x9 Q s2) := HC0.out.below hb
  have HK0N : Hid (x9.heap[N0]? = Option.some (.cells (clusA Q s2) 39 (0, 0))) := (hb.block _ (Array.getElem?_eq_some_iff.1 HK0.out).1).trans HK0.out
  have HC1N : Hid (OwnC x3.heap.size x4.heap.size x9 c s3) := HC1.out.below hb
  have HK1N : Hid (x9.heap[x4.heap.size]? = Option.some (.cells (clusA c s3) 39 (0, 0))) := (hb.block _ (Array.getElem?_eq_some_iff.1 HK1.out).1).trans HK1.out
  have HC2N : Hid (OwnC x5.heap.size x6.heap.size x9 Q s4) := HC2.out.below hb
  have HK2N : Hid (x9.heap[N2]? = Option.some (.cells (clusA Q s4) 39 (0, 0))) := (hb.block _ (Array.getElem?_eq_some_iff.1 HK2.out).1).trans HK2.out
  have HZ9 : Hid (x8.heap.size ≤ x9.heap.size) := hb.size
  clear HB HKa HKx HC0 HK0 HC1 HK1 HC2 HK2
  have HB := HBN
  clear HBN
  have HKa := HKaN
  clear HKaN
  have HKx := HKxN
  clear HKxN
  have HC0 := HC0N
  clear HC0N
  have HK0 := HK0N
  clear HK0N
  have HC1 := HC1N
  clear HC1N
  have HK1 := HK1N
  clear HK1N
  have HC2 := HC2N
  clear HC2N
  have HK2 := HK2N
  clear HK2N
  have hS2 : x9.heap[w.heap.size]? = some (.cells (clusA c s) 28 (0, 0)) ∧ x9.heap[x4.heap.size]? = some (.cells (clusA c s3) 39 (0, 0)) := ⟨HKa.out, HK1.out⟩
  clear hb hS1 HRb
  refine ⟨_, rfl, hS2, ?_⟩
  simp only [Act.put, List.setIfInBounds_toArray, List.set_cons_zero, List.set_cons_succ]
  refine h_take (j := 4) (e' := some 56) (v := .bool false) rfl rfl (by kernel_rfl) (by kernel_rfl) (by kernel_rfl) (fun _ _ _ h => h) (Or.inl ⟨by rfl, ?_⟩) hS2 ?_
  · intro x hx
    go_simp
    try with_reducible rfl
  simp only [Act.put, List.setIfInBounds_toArray, List.set_cons_zero, List.set_cons_succ]
  refine wpAnyH_done (by kernel_rfl) ?_ _
  clear hS2
  go_wp2_with (first | (refine wpList_load_row rfl _ _ rfl w.heap.size rfl 28 _ (0, 0) _ HKa.out Tryz.underlying28 rfl (by kernel_rfl) ?_) | (refine wpList_load_row rfl _ _ rfl (w.heap.size + 1) rfl 30 _ (0, 0) _ HKx.out Tryz.underlying30 rfl (by kernel_rfl) ?_) | (refine wpList_load_row rfl _ _ rfl N0 rfl 39 _ (0, 0) _ HK0.out Tryz.underlying39 rfl (by kernel_rfl) ?_) | (refine wpList_load_row rfl _ _ rfl x4.heap.size rfl 39 _ (0, 0) _ HK1.out Tryz.underlying39 rfl (by kernel_rfl) ?_) | (refine wpList_load_row rfl _ _ rfl N2 rfl 39 _ (0, 0) _ HK2.out Tryz.underlying39 rfl (by kernel_rfl) ?_) | (refine wpList_load_row_w (by first | rfl | simp [Region.wanted, yielded] | simp [Region.wanted, yielded, hk0]) _ _ rfl w.heap.size rfl 28 _ (0, 0) _ HKa.out Tryz.underlying28 rfl (by kernel_rfl) ?_) | (refine wpList_load_row_w (by first | rfl | simp [Region.wanted, yielded] | simp [Region.wanted, yielded, hk0]) _ _ rfl (w.heap.size + 1) rfl 30 _ (0, 0) _ HKx.out Tryz.underlying30 rfl (by kernel_rfl) ?_) | (refine wpList_load_row_w (by first | rfl | simp [Region.wanted, yielded] | simp [Region.wanted, yielded, hk0]) _ _ rfl N0 rfl 39 _ (0, 0) _ HK0.out Tryz.underlying39 rfl (by kernel_rfl) ?_) | (refine wpList_load_row_w (by first | rfl | simp [Region.wanted, yielded] | simp [Region.wanted, yielded, hk0]) _ _ rfl x4.heap.size rfl 39 _ (0, 0) _ HK1.out Tryz.underlying39 rfl (by kernel_rfl) ?_) | (refine wpList_load_row_w (by first | rfl | simp [Region.wanted, yielded] | simp [Region.wanted, yielded, hk0]) _ _ rfl N2 rfl 39 _ (0, 0) _ HK2.out Tryz.underlying39 rfl (by kernel_rfl) ?_))
  refine (markCluster_own c s3 1 x3.heap.size x4.heap.size x9 HC1.out (mkC_of HC1.out.etree HC1.out.epeers (by decide) (by decide) HO.out (by have := HWT.out; omega))).mono ?_
  rintro e x10 ⟨rfl, hm, hf⟩
  have hmA : Hid (OwnC x3.heap.size x4.heap.size x10 (cmC 1 c s3) (cmS 1 s3)) := hm
  clear hm
  have HBN : Hid (Below w.heap.size w x10) := HB.out.trans ⟨hf.os, hf.tape, hf.output, hf.size, fun k hk => hf.block k (Nat.lt_of_lt_of_le hk HB.out.size) (Or.inl (by have := HZ0.out; have := HZ1.out; have := HZ2.out; have := HZ3.out; have := HNN0.out; have := HZ4.out; have := HZ5.out; have := HZ6.out; have := HNN2.out; have := HZ7.out; have := HZ8.out; have := HZ9.out; omega))⟩
  have HKaN : Hid (x10.heap[w.heap.size]? = Option.some (.cells (clusA c s) 28 (0, 0))) := (hf.block _ (Array.getElem?_eq_some_iff.1 HKa.out).1 (by have := HZ0.out; have := HZ1.out; have := HZ2.out; have := HZ3.out; have := HNN0.out; have := HZ4.out; have := HZ5.out; have := HZ6.out; have := HNN2.out; have := HZ7.out; have := HZ8.out; have := HZ9.out; omega)).trans HKa.out
  have HKxN : Hid (x10.heap[(w.heap.size + 1)]? = Option.some (.cells #[.int .i64 x.1, .string x.2.1, .int .i64 x.2.2] 30 (0, 0))) := (hf.block _ (Array.getElem?_eq_some_iff.1 HKx.out).1 (by have := HZ0.out; have := HZ1.out; have := HZ2.out; have := HZ3.out; have := HNN0.out; have := HZ4.out; have := HZ5.out; have := HZ6.out; have := HNN2.out; have := HZ7.out; have := HZ8.out; have := HZ9.out; omega)).trans HKx.out
  have HC0N : Hid (OwnC x2.heap.size x3.heap.size x10 Q s2) := HC0.out.fr hf (by have := HZ0.out; have := HZ1.out; have := HZ2.out; have := HZ3.out; have := HNN0.out; have := HZ4.out; have := HZ5.out; have := HZ6.out; have := HNN2.out; have := HZ7.out; have := HZ8.out; have := HZ9.out; omega)
  have HK0N : Hid (x10.heap[N0]? = Option.some (.cells (clusA Q s2) 39 (0, 0))) := (hf.block _ (Array.getElem?_eq_some_iff.1 HK0.out).1 (by have := HZ0.out; have := HZ1.out; have := HZ2.out; have := HZ3.out; have := HNN0.out; have := HZ4.out; have := HZ5.out; have := HZ6.out; have := HNN2.out; have := HZ7.out; have := HZ8.out; have := HZ9.out; omega)).trans HK0.out
  have HK1N : Hid (x10.heap[x4.heap.size]? = Option.some (.cells (clusA c s3) 39 (0, 0))) := (hf.block _ (Array.getElem?_eq_some_iff.1 HK1.out).1 (by have := HZ0.out; have := HZ1.out; have := HZ2.out; have := HZ3.out; have := HNN0.out; have := HZ4.out; have := HZ5.out; have := HZ6.out; have := HNN2.out; have := HZ7.out; have := HZ8.out; have := HZ9.out; omega)).trans HK1.out
  have HC2N : Hid (OwnC x5.heap.size x6.heap.size x10 Q s4) := HC2.out.fr hf (by have := HZ0.out; have := HZ1.out; have := HZ2.out; have := HZ3.out; have := HNN0.out; have := HZ4.out; have := HZ5.out; have := HZ6.out; have := HNN2.out; have := HZ7.out; have := HZ8.out; have := HZ9.out; omega)
  have HK2N : Hid (x10.heap[N2]? = Option.some (.cells (clusA Q s4) 39 (0, 0))) := (hf.block _ (Array.getElem?_eq_some_iff.1 HK2.out).1 (by have := HZ0.out; have := HZ1.out; have := HZ2.out; have := HZ3.out; have := HNN0.out; have := HZ4.out; have := HZ5.out; have := HZ6.out; have := HNN2.out; have := HZ7.out; have := HZ8.out; have := HZ9.out; omega)).trans HK2.out
  have HZ10 : Hid (x9.heap.size ≤ x10.heap.size) := hf.size
  clear HB HKa HKx HC0 HK0 HK1 HC2 HK2
  have HB := HBN
  clear HBN
  have HKa := HKaN
  clear HKaN
  have HKx := HKxN
  clear HKxN
  have HC0 := HC0N
  clear HC0N
  have HK0 := HK0N
  clear HK0N
  have HK1 := HK1N
  clear HK1N
  have HC2 := HC2N
  clear HC2N
  have HK2 := HK2N
  clear HK2N
  clear HC1 hf
  have HM1 : Hid (OwnC x3.heap.size x4.heap.size x10 (cmC 1 c s3) (cmS 1 s3)) := hmA
  clear hmA
  have hk0 : ¬ (((cnum 1 c s3 : Nat) : Int) < 0) := by omega
  clear HM1 HK1
  go_wp2_with (first | (refine wpList_load_row rfl _ _ rfl w.heap.size rfl 28 _ (0, 0) _ HKa.out Tryz.underlying28 rfl (by kernel_rfl) ?_) | (refine wpList_load_row rfl _ _ rfl (w.heap.size + 1) rfl 30 _ (0, 0) _ HKx.out Tryz.underlying30 rfl (by kernel_rfl) ?_) | (refine wpList_load_row rfl _ _ rfl N0 rfl 39 _ (0, 0) _ HK0.out Tryz.underlying39 rfl (by kernel_rfl) ?_) | (refine wpList_load_row rfl _ _ rfl N2 rfl 39 _ (0, 0) _ HK2.out Tryz.underlying39 rfl (by kernel_rfl) ?_) | (refine wpList_load_row_w (by first | rfl | simp [Region.wanted, yielded] | simp [Region.wanted, yielded, hk0]) _ _ rfl w.heap.size rfl 28 _ (0, 0) _ HKa.out Tryz.underlying28 rfl (by kernel_rfl) ?_) | (refine wpList_load_row_w (by first | rfl | simp [Region.wanted, yielded] | simp [Region.wanted, yielded, hk0]) _ _ rfl (w.heap.size + 1) rfl 30 _ (0, 0) _ HKx.out Tryz.underlying30 rfl (by kernel_rfl) ?_) | (refine wpList_load_row_w (by first | rfl | simp [Region.wanted, yielded] | simp [Region.wanted, yielded, hk0]) _ _ rfl N0 rfl 39 _ (0, 0) _ HK0.out Tryz.underlying39 rfl (by kernel_rfl) ?_) | (refine wpList_load_row_w (by first | rfl | simp [Region.wanted, yielded] | simp [Region.wanted, yielded, hk0]) _ _ rfl N2 rfl 39 _ (0, 0) _ HK2.out Tryz.underlying39 rfl (by kernel_rfl) ?_))
  refine (eqCluster_yes Q s4 s2 x10 HC2.out.reads HC0.out.reads HFQ.out.1).mono ?_
  rintro e x11 ⟨rfl, hb⟩
  have HBN : Hid (Below w.heap.size w x11) := bt HB.out hb
  have HKaN : Hid (x11.heap[w.heap.size]? = Option.some (.cells (clusA c s) 28 (0, 0))) := (hb.block _ (Array.getElem?_eq_some_iff.1 HKa.out).1).trans HKa.out
  have HKxN : Hid (x11.heap[(w.heap.size + 1)]? = Option.some (.cells #[.int .i64 x.1, .string x.2.1, .int .i64 x.2.2] 30 (0, 0))) := (hb.block _ (Array.getElem?_eq_some_iff.1 HKx.out).1).trans HKx.out
  have HC0N : Hid (OwnC x2.heap.size x3.heap.size x11 Q s2) := HC0.out.below hb
  have HK0N : Hid (x11.heap[N0]? = Option.some (.cells (clusA Q s2) 39 (0, 0))) := (hb.block _ (Array.getElem?_eq_some_iff.1 HK0.out).1).trans HK0.out
  have HC2N : Hid (OwnC x5.heap.size x6.heap.size x11 Q s4) := HC2.out.below hb
  have HK2N : Hid (x11.heap[N2]? = Option.some (.cells (clusA Q s4) 39 (0, 0))) := (hb.block _ (Array.getElem?_eq_some_iff.1 HK2.out).1).trans HK2.out
  have HZ11 : Hid (x10.heap.size ≤ x11.heap.size) := hb.size
  clear HB HKa HKx HC0 HK0 HC2 HK2
  have HB := HBN
  clear HBN
  have HKa := HKaN
  clear HKaN
  have HKx := HKxN
  clear HKxN
  have HC0 := HC0N
  clear HC0N
  have HK0 := HK0N
  clear HK0N
  have HC2 := HC2N
  clear HC2N
  have HK2 := HK2N
  clear HK2N
  clear hb
  clear hk0
  go_wp2_with (first | (refine wpList_load_row rfl _ _ rfl w.heap.size rfl 28 _ (0, 0) _ HKa.out Tryz.underlying28 rfl (by kernel_rfl) ?_) | (refine wpList_load_row rfl _ _ rfl (w.heap.size + 1) rfl 30 _ (0, 0) _ HKx.out Tryz.underlying30 rfl (by kernel_rfl) ?_) | (refine wpList_load_row rfl _ _ rfl N0 rfl 39 _ (0, 0) _ HK0.out Tryz.underlying39 rfl (by kernel_rfl) ?_) | (refine wpList_load_row rfl _ _ rfl N2 rfl 39 _ (0, 0) _ HK2.out Tryz.underlying39 rfl (by kernel_rfl) ?_) | (refine wpList_load_row_w (by first | rfl | simp [Region.wanted, yielded] | simp [Region.wanted, yielded, hk0]) _ _ rfl w.heap.size rfl 28 _ (0, 0) _ HKa.out Tryz.underlying28 rfl (by kernel_rfl) ?_) | (refine wpList_load_row_w (by first | rfl | simp [Region.wanted, yielded] | simp [Region.wanted, yielded, hk0]) _ _ rfl (w.heap.size + 1) rfl 30 _ (0, 0) _ HKx.out Tryz.underlying30 rfl (by kernel_rfl) ?_) | (refine wpList_load_row_w (by first | rfl | simp [Region.wanted, yielded] | simp [Region.wanted, yielded, hk0]) _ _ rfl N0 rfl 39 _ (0, 0) _ HK0.out Tryz.underlying39 rfl (by kernel_rfl) ?_) | (refine wpList_load_row_w (by first | rfl | simp [Region.wanted, yielded] | simp [Region.wanted, yielded, hk0]) _ _ rfl N2 rfl 39 _ (0, 0) _ HK2.out Tryz.underlying39 rfl (by kernel_rfl) ?_))
  have HMK : Hid (mkC 1 Q s4) := mkC_of HC2.out.etree HC2.out.epeers (by decide) (by decide) HFQ.out.1 HFQ.out.2
  have HNB : Hid (∀ i, i < 5 → ¬ partC s4 i N2) := HC2.out.noBox HK2.out
  refine (markCluster_set Q s4 1 x5.heap.size x6.heap.size x11 HC2.out HMK.out).mono ?_
  rintro e x12 ⟨rfl, hm, hfs⟩
  have hf : Fr x5.heap.size x6.heap.size x11 x12 := hfs.fr (fun g hg => by obtain ⟨i, hi, hg⟩ := hg; exact HC2.out.lim i g hi hg)
  have hmA : Hid (OwnC x5.heap.size x6.heap.size x12 (cmC 1 Q s4) (cmS 1 s4)) := hm
  have HK2A : Hid (x12.heap[N2]? = Option.some (.cells (clusA Q s4) 39 (0, 0))) := (hfs.block _ (Array.getElem?_eq_some_iff.1 HK2.out).1 (fun h => by obtain ⟨i, hi, hg⟩ := h; exact HNB.out i hi hg)).trans HK2.out
  clear hm hfs
  have HBN : Hid (Below w.heap.size w x12) := HB.out.trans ⟨hf.os, hf.tape, hf.output, hf.size, fun k hk => hf.block k (Nat.lt_of_lt_of_le hk HB.out.size) (Or.inl (by have := HZ0.out; have := HZ1.out; have := HZ2.out; have := HZ3.out; have := HNN0.out; have := HZ4.out; have := HZ5.out; have := HZ6.out; have := HNN2.out; have := HZ7.out; have := HZ8.out; have := HZ9.out; have := HZ10.out; have := HZ11.out; omega))⟩
  have HKaN : Hid (x12.heap[w.heap.size]? = Option.some (.cells (clusA c s) 28 (0, 0))) := (hf.block _ (Array.getElem?_eq_some_iff.1 HKa.out).1 (by have := HZ0.out; have := HZ1.out; have := HZ2.out; have := HZ3.out; have := HNN0.out; have := HZ4.out; have := HZ5.out; have := HZ6.out; have := HNN2.out; have := HZ7.out; have := HZ8.out; have := HZ9.out; have := HZ10.out; have := HZ11.out; omega)).trans HKa.out
  have HKxN : Hid (x12.heap[(w.heap.size + 1)]? = Option.some (.cells #[.int .i64 x.1, .string x.2.1, .int .i64 x.2.2] 30 (0, 0))) := (hf.block _ (Array.getElem?_eq_some_iff.1 HKx.out).1 (by have := HZ0.out; have := HZ1.out; have := HZ2.out; have := HZ3.out; have := HNN0.out; have := HZ4.out; have := HZ5.out; have := HZ6.out; have := HNN2.out; have := HZ7.out; have := HZ8.out; have := HZ9.out; have := HZ10.out; have := HZ11.out; omega)).trans HKx.out
  have HC0N : Hid (OwnC x2.heap.size x3.heap.size x12 Q s2) := HC0.out.fr hf (by have := HZ0.out; have := HZ1.out; have := HZ2.out; have := HZ3.out; have := HNN0.out; have := HZ4.out; have := HZ5.out; have := HZ6.out; have := HNN2.out; have := HZ7.out; have := HZ8.out; have := HZ9.out; have := HZ10.out; have := HZ11.out; omega)
  have HK0N : Hid (x12.heap[N0]? = Option.some (.cells (clusA Q s2) 39 (0, 0))) := (hf.block _ (Array.getElem?_eq_some_iff.1 HK0.out).1 (by have := HZ0.out; have := HZ1.out; have := HZ2.out; have := HZ3.out; have := HNN0.out; have := HZ4.out; have := HZ5.out; have := HZ6.out; have := HNN2.out; have := HZ7.out; have := HZ8.out; have := HZ9.out; have := HZ10.out; have := HZ11.out; omega)).trans HK0.out
  have HK2N : Hid (x12.heap[N2]? = Option.some (.cells (clusA Q s4) 39 (0, 0))) := HK2A.out
  have HZ12 : Hid (x11.heap.size ≤ x12.heap.size) := hf.size
  clear HB HKa HKx HC0 HK0 HK2
  have HB := HBN
  clear HBN
  have HKa := HKaN
  clear HKaN
  have HKx := HKxN
  clear HKxN
  have HC0 := HC0N
  clear HC0N
  have HK0 := HK0N
  clear HK0N
  have HK2 := HK2N
  clear HK2N
  clear HC2 hf HK2A HNB
  have HM2 : Hid (OwnC x5.heap.size x6.heap.size x12 (cmC 1 Q s4) (cmS 1 s4)) := hmA
  clear hmA
  have hk0 : ¬ (((cnum 1 Q s4 : Nat) : Int) < 0) := by omega
  go_wp2_with (first | (refine wpList_load_row rfl _ _ rfl w.heap.size rfl 28 _ (0, 0) _ HKa.out Tryz.underlying28 rfl (by kernel_rfl) ?_) | (refine wpList_load_row rfl _ _ rfl (w.heap.size + 1) rfl 30 _ (0, 0) _ HKx.out Tryz.underlying30 rfl (by kernel_rfl) ?_) | (refine wpList_load_row rfl _ _ rfl N0 rfl 39 _ (0, 0) _ HK0.out Tryz.underlying39 rfl (by kernel_rfl) ?_) | (refine wpList_load_row rfl _ _ rfl N2 rfl 39 _ (0, 0) _ HK2.out Tryz.underlying39 rfl (by kernel_rfl) ?_) | (refine wpList_load_row_w (by first | rfl | simp [Region.wanted, yielded] | simp [Region.wanted, yielded, hk0]) _ _ rfl w.heap.size rfl 28 _ (0, 0) _ HKa.out Tryz.underlying28 rfl (by kernel_rfl) ?_) | (refine wpList_load_row_w (by first | rfl | simp [Region.wanted, yielded] | simp [Region.wanted, yielded, hk0]) _ _ rfl (w.heap.size + 1) rfl 30 _ (0, 0) _ HKx.out Tryz.underlying30 rfl (by kernel_rfl) ?_) | (refine wpList_load_row_w (by first | rfl | simp [Region.wanted, yielded] | simp [Region.wanted, yielded, hk0]) _ _ rfl N0 rfl 39 _ (0, 0) _ HK0.out Tryz.underlying39 rfl (by kernel_rfl) ?_) | (refine wpList_load_row_w (by first | rfl | simp [Region.wanted, yielded] | simp [Region.wanted, yielded, hk0]) _ _ rfl N2 rfl 39 _ (0, 0) _ HK2.out Tryz.underlying39 rfl (by kernel_rfl) ?_))
  refine (heldCluster_own Q s4 1 x5.heap.size x6.heap.size x12 HM2.out HMK.out Q).mono ?_
  rintro e x13 ⟨rfl, hb⟩
  have HBN : Hid (Below w.heap.size w x13) := bt HB.out hb
  have HKaN : Hid (x13.heap[w.heap.size]? = Option.some (.cells (clusA c s) 28 (0, 0))) := (hb.block _ (Array.getElem?_eq_some_iff.1 HKa.out).1).trans HKa.out
  have HKxN : Hid (x13.heap[(w.heap.size + 1)]? = Option.some (.cells #[.int .i64 x.1, .string x.2.1, .int .i64 x.2.2] 30 (0, 0))) := (hb.block _ (Array.getElem?_eq_some_iff.1 HKx.out).1).trans HKx.out
  have HC0N : Hid (OwnC x2.heap.size x3.heap.size x13 Q s2) := HC0.out.below hb
  have HK0N : Hid (x13.heap[N0]? = Option.some (.cells (clusA Q s2) 39 (0, 0))) := (hb.block _ (Array.getElem?_eq_some_iff.1 HK0.out).1).trans HK0.out
  have HK2N : Hid (x13.heap[N2]? = Option.some (.cells (clusA Q s4) 39 (0, 0))) := (hb.block _ (Array.getElem?_eq_some_iff.1 HK2.out).1).trans HK2.out
  have HM2N : Hid (OwnC x5.heap.size x6.heap.size x13 (cmC 1 Q s4) (cmS 1 s4)) := HM2.out.below hb
  have HZ13 : Hid (x12.heap.size ≤ x13.heap.size) := hb.size
  clear HB HKa HKx HC0 HK0 HK2 HM2
  have HB := HBN
  clear HBN
  have HKa := HKaN
  clear HKaN
  have HKx := HKxN
  clear HKxN
  have HC0 := HC0N
  clear HC0N
  have HK0 := HK0N
  clear HK0N
  have HK2 := HK2N
  clear HK2N
  have HM2 := HM2N
  clear HM2N
  clear hb
  go_wp2
  refine wp_region_H (Below x13.heap.size x13) (by kernel_rfl) ?_
  show wpAnyH Tryz.prog _ _ _ _ (10 + 1) (Array.replicate 11 false) _ _
  refine fl_in (i := 8) (d := some 14) (obj := .cells zeroC 39 (0, 0)) (base := x13.heap.size) (T := Below x13.heap.size x13) (f := 10) ?_ (Below.refl _ _).drew
  refine fl_take (j := 0) (e' := some 85) (v := .agg (clusA c s)) rfl rfl rfl rfl (by kernel_rfl) (by kernel_rfl) (by kernel_rfl) (by kernel_rfl) (by kernel_rfl) (by decide) (by kernel_rfl) (fun _ _ _ h => h) (fun _ h => h) (Or.inl ⟨by rfl, ?_⟩) ?_
  · exact fun y hy => exec_load_blk _ _ rfl w.heap.size rfl _ _ _ _ ((hy.block _ (Array.getElem?_eq_some_iff.1 HKa.out).1).trans HKa.out) Tryz.underlying28 rfl (by kernel_rfl)
  simp only [Act.put, List.setIfInBounds_toArray, List.set_cons_zero, List.set_cons_succ]
  refine fl_take (j := 2) (e' := some 87) (v := .agg #[.int .i64 x.1, .string x.2.1, .int .i64 x.2.2]) rfl rfl rfl rfl (by kernel_rfl) (by kernel_rfl) (by kernel_rfl) (by kernel_rfl) (by kernel_rfl) (by decide) (by kernel_rfl) (fun _ _ _ h => h) (fun _ h => h) (Or.inl ⟨by rfl, ?_⟩) ?_
  · exact fun y hy => exec_load_blk _ _ rfl (w.heap.size + 1) rfl _ _ _ _ ((hy.block _ (Array.getElem?_eq_some_iff.1 HKx.out).1).trans HKx.out) Tryz.underlying30 rfl (by kernel_rfl)
  simp only [Act.put, List.setIfInBounds_toArray, List.set_cons_zero, List.set_cons_succ]
  refine fl_call (c := 1) (e' := some 86) (fn := 8) (args := #[.agg (clusA c s)]) (T' := fun v' y => ∃ sa, v' = clusV c sa ∧ (OwnC x13.heap.size y.heap.size y c sa ∧ Below x13.heap.size x13 y)) rfl rfl ⟨rfl, fun ρ x => ?_⟩ (fun _ h => h.size) (fun a b h hb => bt h hb) (fun _ h => h) rfl rfl (by kernel_rfl) (Or.inl (by kernel_rfl)) (by kernel_rfl) (by decide) (by kernel_rfl) (by rfl) (fun x => ?_) (fun y hy => (toCluster_any c s y (HR.out.below (bt HB.out hy)) HO.out).mono (fun e x' h => by obtain ⟨sa, he, ho, hb⟩ := h; exact ⟨_, he, KpF.below hb, sa, rfl, ho.low hy.size, bt hy hb⟩)) (fun _ _ h => by obtain ⟨_, _, _, h⟩ := h; exact h) ?_
  · unfold flP zeroC
    go_simp
    try with_reducible rfl
  · go_simp
    try with_reducible rfl
  intro va
  refine fl_ex (fun sa => fl_and (fun hva => ?_))
  subst hva
  simp only [Act.put, List.setIfInBounds_toArray, List.set_cons_zero, List.set_cons_succ]
  refine fl_call_v (c := 3) (e' := some 88) (fn := 9) (args := #[.agg #[.int .i64 x.1, .string x.2.1, .int .i64 x.2.2]]) (v := .agg #[.int .i64 x.1, .string x.2.1, .int .i64 x.2.2]) rfl rfl ⟨rfl, fun ρ x => ?_⟩ (fun _ h => h.2.size) (fun a b h hb => ⟨(h.1.below hb).wide hb.size (Nat.le_refl _), bt h.2 hb⟩) (fun _ h => h.2) rfl rfl (by kernel_rfl) (Or.inl (by kernel_rfl)) (by kernel_rfl) (by decide) (by kernel_rfl) (by rfl) (fun x => ?_) (fun y _ => toCmd_any x y) ?_
  · unfold flP zeroC
    go_simp
    try with_reducible rfl
  · go_simp
    try with_reducible rfl
  simp only [Act.put, List.setIfInBounds_toArray, List.set_cons_zero, List.set_cons_succ]
  refine fl_call (c := 4) (e' := some 89) (fn := 10) (args := #[.agg (clusA c sa), .agg #[.int .i64 x.1, .string x.2.1, .int .i64 x.2.2]]) (T' := fun v' y => ∃ sb, (v' = .tuple #[clusV Q sb, .bool B] ∧ (clusA Q sb).all (·.oneCell') = true) ∧ (OwnC x13.heap.size y.heap.size y Q sb ∧ Below x13.heap.size x13 y)) rfl rfl ⟨rfl, fun ρ x => ?_⟩ (fun _ h => h.2.size) (fun a b h hb => ⟨(h.1.below hb).wide hb.size (Nat.le_refl _), bt h.2 hb⟩) (fun _ h => h.2) rfl rfl (by kernel_rfl) (Or.inl (by kernel_rfl)) (by kernel_rfl) (by decide) (by kernel_rfl) (by rfl) (fun x => ?_) (fun y hy => by have hsp := HI c sa x13.heap.size y.heap.size x y hy.1 HO.out HG.out HWT.out HXS.out; rw [HQ.out.1, HQ.out.2] at hsp; exact hsp.mono (fun e x' h => by obtain ⟨sb, he, ho, hb⟩ := h; exact ⟨_, he, KpF.below hb, sb, ⟨rfl, clusA_one ho⟩, ho.low hy.2.size, bt hy.2 hb⟩)) (fun _ _ h => by obtain ⟨_, _, h⟩ := h; exact h.2) ?_
  · unfold flP zeroC
    go_simp
    try with_reducible rfl
  · go_simp
    try with_reducible rfl
  intro vc
  refine fl_ex (fun s7 => fl_and (fun hvc => ?_))
  obtain ⟨rfl, hone⟩ := hvc
  simp only [Act.put, List.setIfInBounds_toArray, List.set_cons_zero, List.set_cons_succ]
  refine fl_take (j := 5) (e' := some 84) (v := .tuple #[clusV Q s7, .bool B]) rfl rfl rfl rfl (by kernel_rfl) (by kernel_rfl) (by kernel_rfl) (by kernel_rfl) (by kernel_rfl) (by decide) (by kernel_rfl) (fun _ _ _ h => h) (fun _ h => h.2) (Or.inl ⟨by rfl, ?_⟩) ?_
  · intro x hx
    go_simp
    try with_reducible rfl
  simp only [Act.put, List.setIfInBounds_toArray, List.set_cons_zero, List.set_cons_succ]
  refine fl_take (j := 6) (e' := some 90) (v := clusV Q s7) rfl rfl rfl rfl (by kernel_rfl) (by kernel_rfl) (by kernel_rfl) (by kernel_rfl) (by kernel_rfl) (by decide) (by kernel_rfl) (fun _ _ _ h => h) (fun _ h => h.2) (Or.inl ⟨by rfl, ?_⟩) ?_
  · intro x hx
    go_simp
    try with_reducible rfl
  simp only [Act.put, List.setIfInBounds_toArray, List.set_cons_zero, List.set_cons_succ]
  refine fl_take (j := 7) (e' := some 91) (v := .bool B) rfl rfl rfl rfl (by kernel_rfl) (by kernel_rfl) (by kernel_rfl) (by kernel_rfl) (by kernel_rfl) (by decide) (by kernel_rfl) (fun _ _ _ h => h) (fun _ h => h.2) (Or.inl ⟨by rfl, ?_⟩) ?_
  · intro x hx
    go_simp
    try with_reducible rfl
  simp only [Act.put, List.setIfInBounds_toArray, List.set_cons_zero, List.set_cons_succ]
  refine fl_out (f := 2) rfl rfl ⟨rfl, fun ρ x => ?_⟩ (fun _ h => h.2.size) (fun a b h hb => ⟨(h.1.below hb).wide hb.size (Nat.le_refl _), bt h.2 hb⟩) (fun _ h => h.2) (by kernel_rfl) ?_
  · unfold flP zeroC
    go_simp
    try with_reducible rfl
  intro N3 y hT hN hold
  simp only [Act.put, List.setIfInBounds_toArray, List.set_cons_zero, List.set_cons_succ]
  refine h_store (s := 9) (N := N3) (cells := clusA Q s7) rfl rfl rfl rfl (by kernel_rfl) rfl rfl hold (by kernel_rfl) rfl hone ?_
  intro x14 hgr hnew
  have hlt : N3 < x14.heap.size := (Array.getElem?_eq_some_iff.1 hnew).1
  have hb : Below x13.heap.size x13 x14 := hT.2.grown hgr hT.2.size (fun k hk => by cases hk; exact hN)
  refine ⟨hb, ?_⟩
  refine h_take (j := 10) (e' := some 15) (v := .bool B) rfl rfl (by kernel_rfl) (by kernel_rfl) (by kernel_rfl) (fun _ _ _ h => h) (Or.inl ⟨by rfl, ?_⟩) hb ?_
  · intro x hx
    go_simp
    try with_reducible rfl
  simp only [Act.put, List.setIfInBounds_toArray, List.set_cons_zero, List.set_cons_succ]
  refine wpAnyH_done (by kernel_rfl) ?_ _
  have HC4A : Hid (OwnC x13.heap.size x14.heap.size x14 Q s7) := (hT.1.boxT hold hgr).wide hgr.size (Nat.le_refl _)
  have HK3A : Hid (x14.heap[N3]? = Option.some (.cells (clusA Q s7) 39 (0, 0))) := hnew
  have HNN3 : Hid (x13.heap.size ≤ N3 ∧ N3 < x14.heap.size) := ⟨hN, hlt⟩
  have HBN : Hid (Below w.heap.size w x14) := bt HB.out hb
  have HKaN : Hid (x14.heap[w.heap.size]? = Option.some (.cells (clusA c s) 28 (0, 0))) := (hb.block _ (Array.getElem?_eq_some_iff.1 HKa.out).1).trans HKa.out
  have HKxN : Hid (x14.heap[(w.heap.size + 1)]? = Option.some (.cells #[.int .i64 x.1, .string x.2.1, .int .i64 x.2.2] 30 (0, 0))) := (hb.block _ (Array.getElem?_eq_some_iff.1 HKx.out).1).trans HKx.out
  have HC0N : Hid (OwnC x2.heap.size x3.heap.size x14 Q s2) := HC0.out.below hb
  have HK0N : Hid (x14.heap[N0]? = Option.some (.cells (clusA Q s2) 39 (0, 0))) := (hb.block _ (Array.getElem?_eq_some_iff.1 HK0.out).1).trans HK0.out
  have HK2N : Hid (x14.heap[N2]? = Option.some (.cells (clusA Q s4) 39 (0, 0))) := (hb.block _ (Array.getElem?_eq_some_iff.1 HK2.out).1).trans HK2.out
  have HM2N : Hid (OwnC x5.heap.size x6.heap.size x14 (cmC 1 Q s4) (cmS 1 s4)) := HM2.out.below hb
  have HZ14 : Hid (x13.heap.size ≤ x14.heap.size) := hb.size
  clear HB HKa HKx HC0 HK0 HK2 HM2
  have HB := HBN
  clear HBN
  have HKa := HKaN
  clear HKaN
  have HKx := HKxN
  clear HKxN
  have HC0 := HC0N
  clear HC0N
  have HK0 := HK0N
  clear HK0N
  have HK2 := HK2N
  clear HK2N
  have HM2 := HM2N
  clear HM2N
  have HC4 := HC4A
  clear HC4A
  have HK3 := HK3A
  clear HK3A
  clear hT hN hold hgr hnew hlt hb hone
  unfold flP
  go_wp2_with (first | (refine wpList_load_row rfl _ _ rfl w.heap.size rfl 28 _ (0, 0) _ HKa.out Tryz.underlying28 rfl (by kernel_rfl) ?_) | (refine wpList_load_row rfl _ _ rfl (w.heap.size + 1) rfl 30 _ (0, 0) _ HKx.out Tryz.underlying30 rfl (by kernel_rfl) ?_) | (refine wpList_load_row rfl _ _ rfl N0 rfl 39 _ (0, 0) _ HK0.out Tryz.underlying39 rfl (by kernel_rfl) ?_) | (refine wpList_load_row rfl _ _ rfl N2 rfl 39 _ (0, 0) _ HK2.out Tryz.underlying39 rfl (by kernel_rfl) ?_) | (refine wpList_load_row rfl _ _ rfl N3 rfl 39 _ (0, 0) _ HK3.out Tryz.underlying39 rfl (by kernel_rfl) ?_) | (refine wpList_load_row_w (by first | rfl | simp [Region.wanted, yielded] | simp [Region.wanted, yielded, hk0]) _ _ rfl w.heap.size rfl 28 _ (0, 0) _ HKa.out Tryz.underlying28 rfl (by kernel_rfl) ?_) | (refine wpList_load_row_w (by first | rfl | simp [Region.wanted, yielded] | simp [Region.wanted, yielded, hk0]) _ _ rfl (w.heap.size + 1) rfl 30 _ (0, 0) _ HKx.out Tryz.underlying30 rfl (by kernel_rfl) ?_) | (refine wpList_load_row_w (by first | rfl | simp [Region.wanted, yielded] | simp [Region.wanted, yielded, hk0]) _ _ rfl N0 rfl 39 _ (0, 0) _ HK0.out Tryz.underlying39 rfl (by kernel_rfl) ?_) | (refine wpList_load_row_w (by first | rfl | simp [Region.wanted, yielded] | simp [Region.wanted, yielded, hk0]) _ _ rfl N2 rfl 39 _ (0, 0) _ HK2.out Tryz.underlying39 rfl (by kernel_rfl) ?_) | (refine wpList_load_row_w (by first | rfl | simp [Region.wanted, yielded] | simp [Region.wanted, yielded, hk0]) _ _ rfl N3 rfl 39 _ (0, 0) _ HK3.out Tryz.underlying39 rfl (by kernel_rfl) ?_))
  refine (eqCluster_yes Q s7 s2 x14 HC4.out.reads HC0.out.reads HFQ.out.1).mono ?_
  rintro e x15 ⟨rfl, hb⟩
  have HBN : Hid (Below w.heap.size w x15) := bt HB.out hb
  have HKaN : Hid (x15.heap[w.heap.size]? = Option.some (.cells (clusA c s) 28 (0, 0))) := (hb.block _ (Array.getElem?_eq_some_iff.1 HKa.out).1).trans HKa.out
  have HKxN : Hid (x15.heap[(w.heap.size + 1)]? = Option.some (.cells #[.int .i64 x.1, .string x.2.1, .int .i64 x.2.2] 30 (0, 0))) := (hb.block _ (Array.getElem?_eq_some_iff.1 HKx.out).1).trans HKx.out
  have HC0N : Hid (OwnC x2.heap.size x3.heap.size x15 Q s2) := HC0.out.below hb
  have HK0N : Hid (x15.heap[N0]? = Option.some (.cells (clusA Q s2) 39 (0, 0))) := (hb.block _ (Array.getElem?_eq_some_iff.1 HK0.out).1).trans HK0.out
  have HK2N : Hid (x15.heap[N2]? = Option.some (.cells (clusA Q s4) 39 (0, 0))) := (hb.block _ (Array.getElem?_eq_some_iff.1 HK2.out).1).trans HK2.out
  have HM2N : Hid (OwnC x5.heap.size x6.heap.size x15 (cmC 1 Q s4) (cmS 1 s4)) := HM2.out.below hb
  have HC4N : Hid (OwnC x13.heap.size x14.heap.size x15 Q s7) := HC4.out.below hb
  have HK3N : Hid (x15.heap[N3]? = Option.some (.cells (clusA Q s7) 39 (0, 0))) := (hb.block _ (Array.getElem?_eq_some_iff.1 HK3.out).1).trans HK3.out
  have HZ15 : Hid (x14.heap.size ≤ x15.heap.size) := hb.size
  clear HB HKa HKx HC0 HK0 HK2 HM2 HC4 HK3
  have HB := HBN
  clear HBN
  have HKa := HKaN
  clear HKaN
  have HKx := HKxN
  clear HKxN
  have HC0 := HC0N
  clear HC0N
  have HK0 := HK0N
  clear HK0N
  have HK2 := HK2N
  clear HK2N
  have HM2 := HM2N
  clear HM2N
  have HC4 := HC4N
  clear HC4N
  have HK3 := HK3N
  clear HK3N
  clear hb
  go_wp2_with (first | (refine wpList_load_row rfl _ _ rfl w.heap.size rfl 28 _ (0, 0) _ HKa.out Tryz.underlying28 rfl (by kernel_rfl) ?_) | (refine wpList_load_row rfl _ _ rfl (w.heap.size + 1) rfl 30 _ (0, 0) _ HKx.out Tryz.underlying30 rfl (by kernel_rfl) ?_) | (refine wpList_load_row rfl _ _ rfl N0 rfl 39 _ (0, 0) _ HK0.out Tryz.underlying39 rfl (by kernel_rfl) ?_) | (refine wpList_load_row rfl _ _ rfl N2 rfl 39 _ (0, 0) _ HK2.out Tryz.underlying39 rfl (by kernel_rfl) ?_) | (refine wpList_load_row rfl _ _ rfl N3 rfl 39 _ (0, 0) _ HK3.out Tryz.underlying39 rfl (by kernel_rfl) ?_) | (refine wpList_load_row_w (by first | rfl | simp [Region.wanted, yielded] | simp [Region.wanted, yielded, hk0]) _ _ rfl w.heap.size rfl 28 _ (0, 0) _ HKa.out Tryz.underlying28 rfl (by kernel_rfl) ?_) | (refine wpList_load_row_w (by first | rfl | simp [Region.wanted, yielded] | simp [Region.wanted, yielded, hk0]) _ _ rfl (w.heap.size + 1) rfl 30 _ (0, 0) _ HKx.out Tryz.underlying30 rfl (by kernel_rfl) ?_) | (refine wpList_load_row_w (by first | rfl | simp [Region.wanted, yielded] | simp [Region.wanted, yielded, hk0]) _ _ rfl N0 rfl 39 _ (0, 0) _ HK0.out Tryz.underlying39 rfl (by kernel_rfl) ?_) | (refine wpList_load_row_w (by first | rfl | simp [Region.wanted, yielded] | simp [Region.wanted, yielded, hk0]) _ _ rfl N2 rfl 39 _ (0, 0) _ HK2.out Tryz.underlying39 rfl (by kernel_rfl) ?_) | (refine wpList_load_row_w (by first | rfl | simp [Region.wanted, yielded] | simp [Region.wanted, yielded, hk0]) _ _ rfl N3 rfl 39 _ (0, 0) _ HK3.out Tryz.underlying39 rfl (by kernel_rfl) ?_))
  refine (heldCluster_own Q s4 1 x5.heap.size x6.heap.size x15 HM2.out HMK.out Q).mono ?_
  rintro e x16 ⟨rfl, hb⟩
  have HBN : Hid (Below w.heap.size w x16) := bt HB.out hb
  have HKaN : Hid (x16.heap[w.heap.size]? = Option.some (.cells (clusA c s) 28 (0, 0))) := (hb.block _ (Array.getElem?_eq_some_iff.1 HKa.out).1).trans HKa.out
  have HKxN : Hid (x16.heap[(w.heap.size + 1)]? = Option.some (.cells #[.int .i64 x.1, .string x.2.1, .int .i64 x.2.2] 30 (0, 0))) := (hb.block _ (Array.getElem?_eq_some_iff.1 HKx.out).1).trans HKx.out
  have HC0N : Hid (OwnC x2.heap.size x3.heap.size x16 Q s2) := HC0.out.below hb
  have HK0N : Hid (x16.heap[N0]? = Option.some (.cells (clusA Q s2) 39 (0, 0))) := (hb.block _ (Array.getElem?_eq_some_iff.1 HK0.out).1).trans HK0.out
  have HK2N : Hid (x16.heap[N2]? = Option.some (.cells (clusA Q s4) 39 (0, 0))) := (hb.block _ (Array.getElem?_eq_some_iff.1 HK2.out).1).trans HK2.out
  have HM2N : Hid (OwnC x5.heap.size x6.heap.size x16 (cmC 1 Q s4) (cmS 1 s4)) := HM2.out.below hb
  have HC4N : Hid (OwnC x13.heap.size x14.heap.size x16 Q s7) := HC4.out.below hb
  have HK3N : Hid (x16.heap[N3]? = Option.some (.cells (clusA Q s7) 39 (0, 0))) := (hb.block _ (Array.getElem?_eq_some_iff.1 HK3.out).1).trans HK3.out
  have HZ16 : Hid (x15.heap.size ≤ x16.heap.size) := hb.size
  clear HB HKa HKx HC0 HK0 HK2 HM2 HC4 HK3
  have HB := HBN
  clear HBN
  have HKa := HKaN
  clear HKaN
  have HKx := HKxN
  clear HKxN
  have HC0 := HC0N
  clear HC0N
  have HK0 := HK0N
  clear HK0N
  have HK2 := HK2N
  clear HK2N
  have HM2 := HM2N
  clear HM2N
  have HC4 := HC4N
  clear HC4N
  have HK3 := HK3N
  clear HK3N
  clear hb
  go_wp2
  go_ret
  exact ⟨rfl, HB.out⟩

end Go.Proofs.YtjieklilojmifatGreat.WFnExactOffer
