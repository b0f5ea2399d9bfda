/-
  The walk of the law FnExactAnswered: the specification's answer and the program's are the same; what came in is as it was. (Made by gl11.py.)
-/
import Derived.Test.YtnghhfgbobpnkarAnsS
import Derived.Test.YtnghhfgbobpnkarVotedS
import Derived.Test.YtnghhfgbobpnkarLetsL
namespace Go.Proofs.Ytnghhfgbobpnkar.WFnExactAnswered
open Go.RowKit Num

/-- the program's contract -/
def Prg : Prop := ∀ (p : PE) (s : PV) (lo hi : Nat) (kind to : Int) (q : QC) (v : VT) (w : World) (_ : OwnD lo hi w p s) (_ : smallPe p) (_ : goodPe p) (_ : (Lit.int .i64 kind).wf = true) (_ : (Lit.int .i64 to).wf = true) (_ : wfQ q) (_ : wfQ v), Calls Try.prog 9 #[peerV p s, .int .i64 kind, .int .i64 to, .agg #[.int .i64 q.1, .int .i64 q.2.1, .int .i64 q.2.2.1, .int .i64 q.2.2.2], .agg #[.int .i64 v.1, .int .i64 v.2.1, .int .i64 v.2.2.1, .int .i64 v.2.2.2]] w fun e w' => e = .returned (letV (answerT p kind to q v)) ∧ Below w.heap.size w w'

set_option maxRecDepth 100000 in
set_option maxHeartbeats 16000000 in
theorem walk_of (HI : Prg) (w : World) (p : PE) (s : PV) (hR : PeerR w p s) (hg : goodPe p) (kind : Int) (hwk : (Lit.int .i64 kind).wf = true) (to : Int) (hwt : (Lit.int .i64 to).wf = true) (q : QC) (hwq : wfQ q) (v : QC) (hwv : wfQ v) :
    Calls Try.prog 3 #[peerV p s, .int .i64 kind, .int .i64 to, .agg #[.int .i64 q.1, .int .i64 q.2.1, .int .i64 q.2.2.1, .int .i64 q.2.2.2], .agg #[.int .i64 v.1, .int .i64 v.2.1, .int .i64 v.2.2.1, .int .i64 v.2.2.2]] w fun e w' => e = .returned (.bool true) ∧ Below w.heap.size w w' := by
  have HR : Hid (PeerR w p s) := hR
  have HG : Hid (goodPe p) := hg
  have HWK : Hid ((Lit.int .i64 kind).wf = true ∧ (Lit.int .i64 to).wf = true ∧ wfQ q ∧ wfQ v) := ⟨hwk, hwt, hwq, hwv⟩
  clear hR hg hwk hwt hwq hwv
  obtain ⟨X, hX⟩ : ∃ X, X = ((w.alloc (.cells (peerA p s) 32)).alloc (.cells #[.int .i64 q.1, .int .i64 q.2.1, .int .i64 q.2.2.1, .int .i64 q.2.2.2] 23)).alloc (.cells #[.int .i64 v.1, .int .i64 v.2.1, .int .i64 v.2.2.1, .int .i64 v.2.2.2] 25) := ⟨_, rfl⟩
  have HB : Hid (Below w.heap.size w X) := (by rw [hX]; exact ba (ba (ba (Below.refl _ _) _) _) _ : Below w.heap.size w X)
  have HKa : Hid (X.heap[w.heap.size]? = Option.some (.cells (peerA p s) 32 (0, 0))) := (by rw [hX]; exact (alloc3 w _ _ _).1 : X.heap[w.heap.size]? = _)
  have HKq : Hid (X.heap[(w.heap.size + 1)]? = Option.some (.cells #[.int .i64 q.1, .int .i64 q.2.1, .int .i64 q.2.2.1, .int .i64 q.2.2.2] 23 (0, 0))) := (by rw [hX]; exact (alloc3 w _ _ _).2.1 : X.heap[(w.heap.size + 1)]? = _)
  have HKv : Hid (X.heap[(w.heap.size + 1 + 1)]? = Option.some (.cells #[.int .i64 v.1, .int .i64 v.2.1, .int .i64 v.2.2.1, .int .i64 v.2.2.2] 25 (0, 0))) := (by rw [hX]; exact (alloc3 w _ _ _).2.2 : X.heap[(w.heap.size + 1 + 1)]? = _)
  have HZ0 : Hid (w.heap.size + 1 + 1 < X.heap.size) := (Array.getElem?_eq_some_iff.1 HKv.out).1
  go_enter Try.func3, Try.ntmps3
  go_wp2_with (first | (rw [← hX]; clear hX; (refine wpList_load_row rfl _ _ rfl w.heap.size rfl 32 _ (0, 0) _ HKa.out Try.underlying32 rfl (by kernel_rfl) ?_)) | (refine wpList_load_row rfl _ _ rfl w.heap.size rfl 32 _ (0, 0) _ HKa.out Try.underlying32 rfl (by kernel_rfl) ?_))
  refine (szPeer_any p s 1048576 X (by decide) (by decide) (HR.out.below HB.out) HG.out).mono ?_
  rintro e x1 ⟨z, rfl, hz, hb⟩
  have HBN : Hid (Below w.heap.size w x1) := bt HB.out hb
  have HKaN : Hid (x1.heap[w.heap.size]? = Option.some (.cells (peerA p s) 32 (0, 0))) := (hb.block _ (Array.getElem?_eq_some_iff.1 HKa.out).1).trans HKa.out
  have HKqN : Hid (x1.heap[(w.heap.size + 1)]? = Option.some (.cells #[.int .i64 q.1, .int .i64 q.2.1, .int .i64 q.2.2.1, .int .i64 q.2.2.2] 23 (0, 0))) := (hb.block _ (Array.getElem?_eq_some_iff.1 HKq.out).1).trans HKq.out
  have HKvN : Hid (x1.heap[(w.heap.size + 1 + 1)]? = Option.some (.cells #[.int .i64 v.1, .int .i64 v.2.1, .int .i64 v.2.2.1, .int .i64 v.2.2.2] 25 (0, 0))) := (hb.block _ (Array.getElem?_eq_some_iff.1 HKv.out).1).trans HKv.out
  have HZ1 : Hid (X.heap.size ≤ x1.heap.size) := hb.size
  clear HB HKa HKq HKv
  have HB := HBN
  clear HBN
  have HKa := HKaN
  clear HKaN
  have HKq := HKqN
  clear HKqN
  have HKv := HKvN
  clear HKvN
  clear hb
  rcases hz with rfl | ⟨z0, hsum, hsm⟩
  · go_wp2
    go_ret
    exact ⟨rfl, HB.out⟩
  have HS : Hid (smallPe p) := hsm
  clear hsum hsm
  obtain ⟨Q, hQ⟩ : ∃ Q, Q = answerT p kind to q v := ⟨_, rfl⟩
  have HQ : Hid (answerT p kind to q v = Q) := hQ.symm
  clear hQ
  have HCQ : Hid (∀ x, Calls Try.prog 7 #[.agg #[.int .i64 q.1, .int .i64 q.2.1, .int .i64 q.2.2.1, .int .i64 q.2.2.2]] x fun e w' => e = .returned (.agg #[.int .i64 q.1, .int .i64 q.2.1, .int .i64 q.2.2.1, .int .i64 q.2.2.2]) ∧ Below x.heap.size x w') := fun x => toQ4_any q.1 q.2.1 q.2.2.1 q.2.2.2 x
  have HCV : Hid (∀ x, Calls Try.prog 8 #[.agg #[.int .i64 v.1, .int .i64 v.2.1, .int .i64 v.2.2.1, .int .i64 v.2.2.2]] x fun e w' => e = .returned (.agg #[.int .i64 v.1, .int .i64 v.2.1, .int .i64 v.2.2.1, .int .i64 v.2.2.2]) ∧ Below x.heap.size x w') := fun x => toV4_any v.1 v.2.1 v.2.2.1 v.2.2.2 x
  go_wp2
  refine wp_region_H (Below x1.heap.size x1) (by kernel_rfl) ?_
  show wpAnyH Try.prog _ _ _ _ (10 + 1) (Array.replicate 11 false) _ _
  refine fl_in (i := 9) (d := some 12) (obj := .cells (letA ((0, 0, 0, 0, 0), (0, 0, 0, 0), (0, 0, 0, 0))) 37 (0, 0)) (base := x1.heap.size) (T := Below x1.heap.size x1) (f := 10) ?_ (Below.refl _ _).drew
  refine fl_take (j := 0) (e' := some 20) (v := .agg (peerA p s)) rfl rfl rfl rfl (by kernel_rfl) (by kernel_rfl) (by kernel_rfl) (by kernel_rfl) (by kernel_rfl) (by decide) (by kernel_rfl) (fun _ _ _ h => h) (fun _ h => h) (Or.inl ⟨by rfl, ?_⟩) ?_
  · exact fun x hx => exec_load_blk _ _ rfl w.heap.size rfl _ _ _ _ ((hx.block _ (Array.getElem?_eq_some_iff.1 HKa.out).1).trans HKa.out) Try.underlying32 rfl (by kernel_rfl)
  simp only [Act.put, List.setIfInBounds_toArray, List.set_cons_zero, List.set_cons_succ]
  refine fl_take (j := 2) (e' := some 22) (v := .int .i64 kind) rfl rfl rfl rfl (by kernel_rfl) (by kernel_rfl) (by kernel_rfl) (by kernel_rfl) (by kernel_rfl) (by decide) (by kernel_rfl) (fun _ _ _ h => h) (fun _ h => h) (Or.inl ⟨by rfl, ?_⟩) ?_
  · intro x hx
    go_simp
    try with_reducible rfl
  simp only [Act.put, List.setIfInBounds_toArray, List.set_cons_zero, List.set_cons_succ]
  refine fl_take (j := 3) (e' := some 23) (v := .int .i64 to) rfl rfl rfl rfl (by kernel_rfl) (by kernel_rfl) (by kernel_rfl) (by kernel_rfl) (by kernel_rfl) (by decide) (by kernel_rfl) (fun _ _ _ h => h) (fun _ h => h) (Or.inl ⟨by rfl, ?_⟩) ?_
  · intro x hx
    go_simp
    try with_reducible rfl
  simp only [Act.put, List.setIfInBounds_toArray, List.set_cons_zero, List.set_cons_succ]
  refine fl_take (j := 4) (e' := some 24) (v := .agg #[.int .i64 q.1, .int .i64 q.2.1, .int .i64 q.2.2.1, .int .i64 q.2.2.2]) rfl rfl rfl rfl (by kernel_rfl) (by kernel_rfl) (by kernel_rfl) (by kernel_rfl) (by kernel_rfl) (by decide) (by kernel_rfl) (fun _ _ _ h => h) (fun _ h => h) (Or.inl ⟨by rfl, ?_⟩) ?_
  · exact fun x hx => exec_load_blk _ _ rfl (w.heap.size + 1) rfl _ _ _ _ ((hx.block _ (Array.getElem?_eq_some_iff.1 HKq.out).1).trans HKq.out) Try.underlying23 rfl (by kernel_rfl)
  simp only [Act.put, List.setIfInBounds_toArray, List.set_cons_zero, List.set_cons_succ]
  refine fl_take (j := 6) (e' := some 26) (v := .agg #[.int .i64 v.1, .int .i64 v.2.1, .int .i64 v.2.2.1, .int .i64 v.2.2.2]) rfl rfl rfl rfl (by kernel_rfl) (by kernel_rfl) (by kernel_rfl) (by kernel_rfl) (by kernel_rfl) (by decide) (by kernel_rfl) (fun _ _ _ h => h) (fun _ h => h) (Or.inl ⟨by rfl, ?_⟩) ?_
  · exact fun x hx => exec_load_blk _ _ rfl (w.heap.size + 1 + 1) rfl _ _ _ _ ((hx.block _ (Array.getElem?_eq_some_iff.1 HKv.out).1).trans HKv.out) Try.underlying25 rfl (by kernel_rfl)
  simp only [Act.put, List.setIfInBounds_toArray, List.set_cons_zero, List.set_cons_succ]
  refine fl_call (c := 1) (e' := some 21) (fn := 6) (args := #[.agg (peerA p s)]) (T' := fun v' x => ∃ sa, v' = peerV p sa ∧ (OwnD x1.heap.size x.heap.size x p sa ∧ Below x1.heap.size x1 x)) rfl rfl ⟨rfl, fun ρ x => ?_⟩ (fun _ h => h.size) (fun a b h hb => bt h hb) (fun _ h => h) rfl rfl (by kernel_rfl) (Or.inl (by kernel_rfl)) (by kernel_rfl) (by decide) (by kernel_rfl) (by rfl) (fun x => ?_) (fun x hx => (toPeer_any p s x (HR.out.below (bt HB.out hx)) HS.out).mono (fun e x' h => by obtain ⟨sa, he, ho, hb⟩ := h; exact ⟨_, he, KpF.below hb, sa, rfl, ho.toD.low hx.size, bt hx hb⟩)) (fun _ _ h => by obtain ⟨_, _, _, h⟩ := h; exact h) ?_
  · unfold flP letA
    go_simp
    try with_reducible rfl
  · go_simp
    try with_reducible rfl
  intro vb
  refine fl_ex (fun sa => fl_and (fun hvb => ?_))
  subst hvb
  simp only [Act.put, List.setIfInBounds_toArray, List.set_cons_zero, List.set_cons_succ]
  refine fl_call_v (c := 5) (e' := some 25) (v := .agg #[.int .i64 q.1, .int .i64 q.2.1, .int .i64 q.2.2.1, .int .i64 q.2.2.2]) (fn := 7) (args := #[.agg #[.int .i64 q.1, .int .i64 q.2.1, .int .i64 q.2.2.1, .int .i64 q.2.2.2]]) rfl rfl ⟨rfl, fun ρ x => ?_⟩ (fun _ h => h.2.size) (fun a b h hb => ⟨(h.1.below hb).wide hb.size (Nat.le_refl _), bt h.2 hb⟩) (fun _ h => h.2) rfl rfl (by kernel_rfl) (Or.inl (by kernel_rfl)) (by kernel_rfl) (by decide) (by kernel_rfl) (by rfl) (fun x => ?_) (fun x hx => HCQ.out x) ?_
  · unfold flP letA
    go_simp
    try with_reducible rfl
  · go_simp
    try with_reducible rfl
  simp only [Act.put, List.setIfInBounds_toArray, List.set_cons_zero, List.set_cons_succ]
  refine fl_call_v (c := 7) (e' := some 27) (v := .agg #[.int .i64 v.1, .int .i64 v.2.1, .int .i64 v.2.2.1, .int .i64 v.2.2.2]) (fn := 8) (args := #[.agg #[.int .i64 v.1, .int .i64 v.2.1, .int .i64 v.2.2.1, .int .i64 v.2.2.2]]) rfl rfl ⟨rfl, fun ρ x => ?_⟩ (fun _ h => h.2.size) (fun a b h hb => ⟨(h.1.below hb).wide hb.size (Nat.le_refl _), bt h.2 hb⟩) (fun _ h => h.2) rfl rfl (by kernel_rfl) (Or.inl (by kernel_rfl)) (by kernel_rfl) (by decide) (by kernel_rfl) (by rfl) (fun x => ?_) (fun x hx => HCV.out x) ?_
  · unfold flP letA
    go_simp
    try with_reducible rfl
  · go_simp
    try with_reducible rfl
  simp only [Act.put, List.setIfInBounds_toArray, List.set_cons_zero, List.set_cons_succ]
  refine fl_call_v (c := 8) (e' := some 28) (v := letV Q) (fn := 5) (args := #[peerV p sa, .int .i64 kind, .int .i64 to, .agg #[.int .i64 q.1, .int .i64 q.2.1, .int .i64 q.2.2.1, .int .i64 q.2.2.2], .agg #[.int .i64 v.1, .int .i64 v.2.1, .int .i64 v.2.2.1, .int .i64 v.2.2.2]]) rfl rfl ⟨rfl, fun ρ x => ?_⟩ (fun _ h => h.2.size) (fun a b h hb => ⟨(h.1.below hb).wide hb.size (Nat.le_refl _), bt h.2 hb⟩) (fun _ h => h.2) rfl rfl (by kernel_rfl) (Or.inl (by kernel_rfl)) (by kernel_rfl) (by decide) (by kernel_rfl) (by rfl) (fun x => ?_) (fun x hx => by have hsp := answered_s p sa kind to q v x; rw [HQ.out] at hsp; exact hsp) ?_
  · unfold flP letA
    go_simp
    try with_reducible rfl
  · go_simp
    try with_reducible rfl
  simp only [Act.put, List.setIfInBounds_toArray, List.set_cons_zero, List.set_cons_succ]
  refine fl_end (s := 10) (cells := (letA Q)) (f := 0) rfl rfl ⟨rfl, fun ρ x => ?_⟩ (fun _ h => h.2.size) (fun a b h hb => ⟨(h.1.below hb).wide hb.size (Nat.le_refl _), bt h.2 hb⟩) (fun _ h => h.2) rfl rfl rfl rfl (by kernel_rfl) (by kernel_rfl) (by kernel_rfl) (fun N => rfl) (fun N => rfl) rfl (by kernel_rfl) rfl (letA_one Q) ?_
  · unfold flP letA
    go_simp
    try with_reducible rfl
  intro N0 y x2 hT hN hgr hnew hlt
  have hb : Below x1.heap.size x1 x2 := hT.2.grown hgr hT.2.size (fun k hk => by cases hk; exact hN)
  have HK0A : Hid (x2.heap[N0]? = Option.some (.cells (letA Q) 37 (0, 0))) := hnew
  have HNN0 : Hid (x1.heap.size ≤ N0 ∧ N0 < x2.heap.size) := ⟨hN, hlt⟩
  have HBN : Hid (Below w.heap.size w x2) := bt HB.out hb
  have HKaN : Hid (x2.heap[w.heap.size]? = Option.some (.cells (peerA p s) 32 (0, 0))) := (hb.block _ (Array.getElem?_eq_some_iff.1 HKa.out).1).trans HKa.out
  have HKqN : Hid (x2.heap[(w.heap.size + 1)]? = Option.some (.cells #[.int .i64 q.1, .int .i64 q.2.1, .int .i64 q.2.2.1, .int .i64 q.2.2.2] 23 (0, 0))) := (hb.block _ (Array.getElem?_eq_some_iff.1 HKq.out).1).trans HKq.out
  have HKvN : Hid (x2.heap[(w.heap.size + 1 + 1)]? = Option.some (.cells #[.int .i64 v.1, .int .i64 v.2.1, .int .i64 v.2.2.1, .int .i64 v.2.2.2] 25 (0, 0))) := (hb.block _ (Array.getElem?_eq_some_iff.1 HKv.out).1).trans HKv.out
  have HZ2 : Hid (x1.heap.size ≤ x2.heap.size) := hb.size
  clear HB HKa HKq HKv
  have HB := HBN
  clear HBN
  have HKa := HKaN
  clear HKaN
  have HKq := HKqN
  clear HKqN
  have HKv := HKvN
  clear HKvN
  have HK0 := HK0A
  clear HK0A
  refine ⟨hb, ?_⟩
  clear hT hN hgr hnew hlt hb
  simp only [Act.put, List.setIfInBounds_toArray, List.set_cons_zero, List.set_cons_succ]
  unfold flP
  go_wp2_with (first | (refine wpList_load_row rfl _ _ rfl w.heap.size rfl 32 _ (0, 0) _ HKa.out Try.underlying32 rfl (by kernel_rfl) ?_) | (refine wpList_load_row rfl _ _ rfl (w.heap.size + 1) rfl 23 _ (0, 0) _ HKq.out Try.underlying23 rfl (by kernel_rfl) ?_) | (refine wpList_load_row rfl _ _ rfl (w.heap.size + 1 + 1) rfl 25 _ (0, 0) _ HKv.out Try.underlying25 rfl (by kernel_rfl) ?_) | (refine wpList_load_row rfl _ _ rfl N0 rfl 37 _ (0, 0) _ HK0.out Try.underlying37 rfl (by kernel_rfl) ?_) | (refine wpList_load_row_w (by first | rfl | simp [Region.wanted, yielded] | simp [Region.wanted, yielded, hk0]) _ _ rfl w.heap.size rfl 32 _ (0, 0) _ HKa.out Try.underlying32 rfl (by kernel_rfl) ?_) | (refine wpList_load_row_w (by first | rfl | simp [Region.wanted, yielded] | simp [Region.wanted, yielded, hk0]) _ _ rfl (w.heap.size + 1) rfl 23 _ (0, 0) _ HKq.out Try.underlying23 rfl (by kernel_rfl) ?_) | (refine wpList_load_row_w (by first | rfl | simp [Region.wanted, yielded] | simp [Region.wanted, yielded, hk0]) _ _ rfl (w.heap.size + 1 + 1) rfl 25 _ (0, 0) _ HKv.out Try.underlying25 rfl (by kernel_rfl) ?_) | (refine wpList_load_row_w (by first | rfl | simp [Region.wanted, yielded] | simp [Region.wanted, yielded, hk0]) _ _ rfl N0 rfl 37 _ (0, 0) _ HK0.out Try.underlying37 rfl (by kernel_rfl) ?_))
  refine (toPeer_any p s x2 (HR.out.below HB.out) HS.out).mono ?_
  rintro e x3 ⟨s3, rfl, ho, hb⟩
  have HO1A : Hid (OwnD x2.heap.size x3.heap.size x3 p s3) := ho.toD
  have HBN : Hid (Below w.heap.size w x3) := bt HB.out hb
  have HKaN : Hid (x3.heap[w.heap.size]? = Option.some (.cells (peerA p s) 32 (0, 0))) := (hb.block _ (Array.getElem?_eq_some_iff.1 HKa.out).1).trans HKa.out
  have HKqN : Hid (x3.heap[(w.heap.size + 1)]? = Option.some (.cells #[.int .i64 q.1, .int .i64 q.2.1, .int .i64 q.2.2.1, .int .i64 q.2.2.2] 23 (0, 0))) := (hb.block _ (Array.getElem?_eq_some_iff.1 HKq.out).1).trans HKq.out
  have HKvN : Hid (x3.heap[(w.heap.size + 1 + 1)]? = Option.some (.cells #[.int .i64 v.1, .int .i64 v.2.1, .int .i64 v.2.2.1, .int .i64 v.2.2.2] 25 (0, 0))) := (hb.block _ (Array.getElem?_eq_some_iff.1 HKv.out).1).trans HKv.out
  have HK0N : Hid (x3.heap[N0]? = Option.some (.cells (letA Q) 37 (0, 0))) := (hb.block _ (Array.getElem?_eq_some_iff.1 HK0.out).1).trans HK0.out
  have HZ3 : Hid (x2.heap.size ≤ x3.heap.size) := hb.size
  clear HB HKa HKq HKv HK0
  have HB := HBN
  clear HBN
  have HKa := HKaN
  clear HKaN
  have HKq := HKqN
  clear HKqN
  have HKv := HKvN
  clear HKvN
  have HK0 := HK0N
  clear HK0N
  have HO1 := HO1A
  clear HO1A
  clear ho hb
  go_wp2_with (first | (refine wpList_store_blk rfl _ _ _ rfl x3.heap.size (peerA p s3) rfl rfl 44 zeroA (heap_alloc_new x3 _) (by kernel_rfl) rfl (peerA_one HO1.out.1) ?_; intro x4 hg hk hz; have hb : Below x3.heap.size x3 x4 := made_below hg; have hlt : x3.heap.size < x4.heap.size := (Array.getElem?_eq_some_iff.1 hk).1; have HBN : Hid (Below w.heap.size w x4) := bt HB.out hb; have HKaN : Hid (x4.heap[w.heap.size]? = Option.some (.cells (peerA p s) 32 (0, 0))) := (hb.block _ (Array.getElem?_eq_some_iff.1 HKa.out).1).trans HKa.out; have HKqN : Hid (x4.heap[(w.heap.size + 1)]? = Option.some (.cells #[.int .i64 q.1, .int .i64 q.2.1, .int .i64 q.2.2.1, .int .i64 q.2.2.2] 23 (0, 0))) := (hb.block _ (Array.getElem?_eq_some_iff.1 HKq.out).1).trans HKq.out; have HKvN : Hid (x4.heap[(w.heap.size + 1 + 1)]? = Option.some (.cells #[.int .i64 v.1, .int .i64 v.2.1, .int .i64 v.2.2.1, .int .i64 v.2.2.2] 25 (0, 0))) := (hb.block _ (Array.getElem?_eq_some_iff.1 HKv.out).1).trans HKv.out; have HK0N : Hid (x4.heap[N0]? = Option.some (.cells (letA Q) 37 (0, 0))) := (hb.block _ (Array.getElem?_eq_some_iff.1 HK0.out).1).trans HK0.out; have HO1N : Hid (OwnD x2.heap.size x3.heap.size x4 p s3) := HO1.out.below hb; have HZ4 : Hid (x3.heap.size < x4.heap.size) := hlt; clear HB HKa HKq HKv HK0 HO1; have HB := HBN; clear HBN; have HKa := HKaN; clear HKaN; have HKq := HKqN; clear HKqN; have HKv := HKvN; clear HKvN; have HK0 := HK0N; clear HK0N; have HO1 := HO1N; clear HO1N; have HK1 : Hid (x4.heap[x3.heap.size]? = Option.some (.cells (peerA p s3) 44 (0, 0))) := hk; clear hg hk hz hb hlt) | (refine wpList_load_row rfl _ _ rfl w.heap.size rfl 32 _ (0, 0) _ HKa.out Try.underlying32 rfl (by kernel_rfl) ?_) | (refine wpList_load_row rfl _ _ rfl (w.heap.size + 1) rfl 23 _ (0, 0) _ HKq.out Try.underlying23 rfl (by kernel_rfl) ?_) | (refine wpList_load_row rfl _ _ rfl (w.heap.size + 1 + 1) rfl 25 _ (0, 0) _ HKv.out Try.underlying25 rfl (by kernel_rfl) ?_) | (refine wpList_load_row rfl _ _ rfl N0 rfl 37 _ (0, 0) _ HK0.out Try.underlying37 rfl (by kernel_rfl) ?_) | (refine wpList_load_row rfl _ _ rfl x3.heap.size rfl 44 _ (0, 0) _ HK1.out Try.underlying44 rfl (by kernel_rfl) ?_) | (refine wpList_load_row_w (by first | rfl | simp [Region.wanted, yielded] | simp [Region.wanted, yielded, hk0]) _ _ rfl w.heap.size rfl 32 _ (0, 0) _ HKa.out Try.underlying32 rfl (by kernel_rfl) ?_) | (refine wpList_load_row_w (by first | rfl | simp [Region.wanted, yielded] | simp [Region.wanted, yielded, hk0]) _ _ rfl (w.heap.size + 1) rfl 23 _ (0, 0) _ HKq.out Try.underlying23 rfl (by kernel_rfl) ?_) | (refine wpList_load_row_w (by first | rfl | simp [Region.wanted, yielded] | simp [Region.wanted, yielded, hk0]) _ _ rfl (w.heap.size + 1 + 1) rfl 25 _ (0, 0) _ HKv.out Try.underlying25 rfl (by kernel_rfl) ?_) | (refine wpList_load_row_w (by first | rfl | simp [Region.wanted, yielded] | simp [Region.wanted, yielded, hk0]) _ _ rfl N0 rfl 37 _ (0, 0) _ HK0.out Try.underlying37 rfl (by kernel_rfl) ?_) | (refine wpList_load_row_w (by first | rfl | simp [Region.wanted, yielded] | simp [Region.wanted, yielded, hk0]) _ _ rfl x3.heap.size rfl 44 _ (0, 0) _ HK1.out Try.underlying44 rfl (by kernel_rfl) ?_))
  have HI1 : Hid (∀ x, Below x4.heap.size x4 x → Calls Try.prog 9 #[peerV p s3, .int .i64 kind, .int .i64 to, .agg #[.int .i64 q.1, .int .i64 q.2.1, .int .i64 q.2.2.1, .int .i64 q.2.2.2], .agg #[.int .i64 v.1, .int .i64 v.2.1, .int .i64 v.2.2.1, .int .i64 v.2.2.2]] x fun e w' => e = .returned (letV Q) ∧ Below x.heap.size x w') := fun x hx => by have hsp := HI p s3 x2.heap.size x3.heap.size kind to q v x (HO1.out.below hx) HS.out HG.out HWK.out.1 HWK.out.2.1 HWK.out.2.2.1 HWK.out.2.2.2; rw [HQ.out] at hsp; exact hsp
  go_wp2
  refine wp_region_H (Below x4.heap.size x4) (by kernel_rfl) ?_
  show wpAnyH Try.prog _ _ _ _ (9 + 1) (Array.replicate 10 false) _ _
  refine fl_in (i := 8) (d := some 14) (obj := .cells (letA ((0, 0, 0, 0, 0), (0, 0, 0, 0), (0, 0, 0, 0))) 37 (0, 0)) (base := x4.heap.size) (T := Below x4.heap.size x4) (f := 9) ?_ (Below.refl _ _).drew
  refine fl_take (j := 0) (e' := some 31) (v := .agg (peerA p s3)) rfl rfl rfl rfl (by kernel_rfl) (by kernel_rfl) (by kernel_rfl) (by kernel_rfl) (by kernel_rfl) (by decide) (by kernel_rfl) (fun _ _ _ h => h) (fun _ h => h) (Or.inl ⟨by rfl, ?_⟩) ?_
  · exact fun x hx => exec_load_blk _ _ rfl x3.heap.size rfl _ _ _ _ ((hx.block _ (Array.getElem?_eq_some_iff.1 HK1.out).1).trans HK1.out) Try.underlying44 rfl (by kernel_rfl)
  simp only [Act.put, List.setIfInBounds_toArray, List.set_cons_zero, List.set_cons_succ]
  refine fl_take (j := 1) (e' := some 32) (v := .int .i64 kind) rfl rfl rfl rfl (by kernel_rfl) (by kernel_rfl) (by kernel_rfl) (by kernel_rfl) (by kernel_rfl) (by decide) (by kernel_rfl) (fun _ _ _ h => h) (fun _ h => h) (Or.inl ⟨by rfl, ?_⟩) ?_
  · intro x hx
    go_simp
    try with_reducible rfl
  simp only [Act.put, List.setIfInBounds_toArray, List.set_cons_zero, List.set_cons_succ]
  refine fl_take (j := 2) (e' := some 33) (v := .int .i64 to) rfl rfl rfl rfl (by kernel_rfl) (by kernel_rfl) (by kernel_rfl) (by kernel_rfl) (by kernel_rfl) (by decide) (by kernel_rfl) (fun _ _ _ h => h) (fun _ h => h) (Or.inl ⟨by rfl, ?_⟩) ?_
  · intro x hx
    go_simp
    try with_reducible rfl
  simp only [Act.put, List.setIfInBounds_toArray, List.set_cons_zero, List.set_cons_succ]
  refine fl_take (j := 3) (e' := some 34) (v := .agg #[.int .i64 q.1, .int .i64 q.2.1, .int .i64 q.2.2.1, .int .i64 q.2.2.2]) rfl rfl rfl rfl (by kernel_rfl) (by kernel_rfl) (by kernel_rfl) (by kernel_rfl) (by kernel_rfl) (by decide) (by kernel_rfl) (fun _ _ _ h => h) (fun _ h => h) (Or.inl ⟨by rfl, ?_⟩) ?_
  · exact fun x hx => exec_load_blk _ _ rfl (w.heap.size + 1) rfl _ _ _ _ ((hx.block _ (Array.getElem?_eq_some_iff.1 HKq.out).1).trans HKq.out) Try.underlying23 rfl (by kernel_rfl)
  simp only [Act.put, List.setIfInBounds_toArray, List.set_cons_zero, List.set_cons_succ]
  refine fl_take (j := 5) (e' := some 36) (v := .agg #[.int .i64 v.1, .int .i64 v.2.1, .int .i64 v.2.2.1, .int .i64 v.2.2.2]) rfl rfl rfl rfl (by kernel_rfl) (by kernel_rfl) (by kernel_rfl) (by kernel_rfl) (by kernel_rfl) (by decide) (by kernel_rfl) (fun _ _ _ h => h) (fun _ h => h) (Or.inl ⟨by rfl, ?_⟩) ?_
  · exact fun x hx => exec_load_blk _ _ rfl (w.heap.size + 1 + 1) rfl _ _ _ _ ((hx.block _ (Array.getElem?_eq_some_iff.1 HKv.out).1).trans HKv.out) Try.underlying25 rfl (by kernel_rfl)
  simp only [Act.put, List.setIfInBounds_toArray, List.set_cons_zero, List.set_cons_succ]
  refine fl_call_v (c := 4) (e' := some 35) (v := .agg #[.int .i64 q.1, .int .i64 q.2.1, .int .i64 q.2.2.1, .int .i64 q.2.2.2]) (fn := 7) (args := #[.agg #[.int .i64 q.1, .int .i64 q.2.1, .int .i64 q.2.2.1, .int .i64 q.2.2.2]]) rfl rfl ⟨rfl, fun ρ x => ?_⟩ (fun _ h => h.size) (fun a b h hb => bt h hb) (fun _ h => h) rfl rfl (by kernel_rfl) (Or.inl (by kernel_rfl)) (by kernel_rfl) (by decide) (by kernel_rfl) (by rfl) (fun x => ?_) (fun x hx => HCQ.out x) ?_
  · unfold flP letA
    go_simp
    try with_reducible rfl
  · go_simp
    try with_reducible rfl
  simp only [Act.put, List.setIfInBounds_toArray, List.set_cons_zero, List.set_cons_succ]
  refine fl_call_v (c := 6) (e' := some 37) (v := .agg #[.int .i64 v.1, .int .i64 v.2.1, .int .i64 v.2.2.1, .int .i64 v.2.2.2]) (fn := 8) (args := #[.agg #[.int .i64 v.1, .int .i64 v.2.1, .int .i64 v.2.2.1, .int .i64 v.2.2.2]]) rfl rfl ⟨rfl, fun ρ x => ?_⟩ (fun _ h => h.size) (fun a b h hb => bt h hb) (fun _ h => h) rfl rfl (by kernel_rfl) (Or.inl (by kernel_rfl)) (by kernel_rfl) (by decide) (by kernel_rfl) (by rfl) (fun x => ?_) (fun x hx => HCV.out x) ?_
  · unfold flP letA
    go_simp
    try with_reducible rfl
  · go_simp
    try with_reducible rfl
  simp only [Act.put, List.setIfInBounds_toArray, List.set_cons_zero, List.set_cons_succ]
  refine fl_call_v (c := 7) (e' := some 38) (v := letV Q) (fn := 9) (args := #[peerV p s3, .int .i64 kind, .int .i64 to, .agg #[.int .i64 q.1, .int .i64 q.2.1, .int .i64 q.2.2.1, .int .i64 q.2.2.2], .agg #[.int .i64 v.1, .int .i64 v.2.1, .int .i64 v.2.2.1, .int .i64 v.2.2.2]]) rfl rfl ⟨rfl, fun ρ x => ?_⟩ (fun _ h => h.size) (fun a b h hb => bt h hb) (fun _ h => h) rfl rfl (by kernel_rfl) (Or.inl (by kernel_rfl)) (by kernel_rfl) (by decide) (by kernel_rfl) (by rfl) (fun x => ?_) (fun x hx => HI1.out x hx) ?_
  · unfold flP letA
    go_simp
    try with_reducible rfl
  · go_simp
    try with_reducible rfl
  simp only [Act.put, List.setIfInBounds_toArray, List.set_cons_zero, List.set_cons_succ]
  refine fl_end (s := 9) (cells := (letA Q)) (f := 0) rfl rfl ⟨rfl, fun ρ x => ?_⟩ (fun _ h => h.size) (fun a b h hb => bt h hb) (fun _ h => h) rfl rfl rfl rfl (by kernel_rfl) (by kernel_rfl) (by kernel_rfl) (fun N => rfl) (fun N => rfl) rfl (by kernel_rfl) rfl (letA_one Q) ?_
  · unfold flP letA
    go_simp
    try with_reducible rfl
  intro N2 y x5 hT hN hgr hnew hlt
  have hb : Below x4.heap.size x4 x5 := hT.grown hgr hT.size (fun k hk => by cases hk; exact hN)
  have HK2A : Hid (x5.heap[N2]? = Option.some (.cells (letA Q) 37 (0, 0))) := hnew
  have HNN2 : Hid (x4.heap.size ≤ N2 ∧ N2 < x5.heap.size) := ⟨hN, hlt⟩
  have HBN : Hid (Below w.heap.size w x5) := bt HB.out hb
  have HKaN : Hid (x5.heap[w.heap.size]? = Option.some (.cells (peerA p s) 32 (0, 0))) := (hb.block _ (Array.getElem?_eq_some_iff.1 HKa.out).1).trans HKa.out
  have HKqN : Hid (x5.heap[(w.heap.size + 1)]? = Option.some (.cells #[.int .i64 q.1, .int .i64 q.2.1, .int .i64 q.2.2.1, .int .i64 q.2.2.2] 23 (0, 0))) := (hb.block _ (Array.getElem?_eq_some_iff.1 HKq.out).1).trans HKq.out
  have HKvN : Hid (x5.heap[(w.heap.size + 1 + 1)]? = Option.some (.cells #[.int .i64 v.1, .int .i64 v.2.1, .int .i64 v.2.2.1, .int .i64 v.2.2.2] 25 (0, 0))) := (hb.block _ (Array.getElem?_eq_some_iff.1 HKv.out).1).trans HKv.out
  have HK0N : Hid (x5.heap[N0]? = Option.some (.cells (letA Q) 37 (0, 0))) := (hb.block _ (Array.getElem?_eq_some_iff.1 HK0.out).1).trans HK0.out
  have HO1N : Hid (OwnD x2.heap.size x3.heap.size x5 p s3) := HO1.out.below hb
  have HK1N : Hid (x5.heap[x3.heap.size]? = Option.some (.cells (peerA p s3) 44 (0, 0))) := (hb.block _ (Array.getElem?_eq_some_iff.1 HK1.out).1).trans HK1.out
  have HZ5 : Hid (x4.heap.size ≤ x5.heap.size) := hb.size
  clear HB HKa HKq HKv HK0 HO1 HK1
  have HB := HBN
  clear HBN
  have HKa := HKaN
  clear HKaN
  have HKq := HKqN
  clear HKqN
  have HKv := HKvN
  clear HKvN
  have HK0 := HK0N
  clear HK0N
  have HO1 := HO1N
  clear HO1N
  have HK1 := HK1N
  clear HK1N
  have HK2 := HK2A
  clear HK2A
  refine ⟨hb, ?_⟩
  clear hT hN hgr hnew hlt hb
  simp only [Act.put, List.setIfInBounds_toArray, List.set_cons_zero, List.set_cons_succ]
  unfold flP
  clear HI1
  go_wp2_with (first | (refine wpList_load_row rfl _ _ rfl w.heap.size rfl 32 _ (0, 0) _ HKa.out Try.underlying32 rfl (by kernel_rfl) ?_) | (refine wpList_load_row rfl _ _ rfl (w.heap.size + 1) rfl 23 _ (0, 0) _ HKq.out Try.underlying23 rfl (by kernel_rfl) ?_) | (refine wpList_load_row rfl _ _ rfl (w.heap.size + 1 + 1) rfl 25 _ (0, 0) _ HKv.out Try.underlying25 rfl (by kernel_rfl) ?_) | (refine wpList_load_row rfl _ _ rfl N0 rfl 37 _ (0, 0) _ HK0.out Try.underlying37 rfl (by kernel_rfl) ?_) | (refine wpList_load_row rfl _ _ rfl x3.heap.size rfl 44 _ (0, 0) _ HK1.out Try.underlying44 rfl (by kernel_rfl) ?_) | (refine wpList_load_row rfl _ _ rfl N2 rfl 37 _ (0, 0) _ HK2.out Try.underlying37 rfl (by kernel_rfl) ?_) | (refine wpList_load_row_w (by first | rfl | simp [Region.wanted, yielded] | simp [Region.wanted, yielded, hk0]) _ _ rfl w.heap.size rfl 32 _ (0, 0) _ HKa.out Try.underlying32 rfl (by kernel_rfl) ?_) | (refine wpList_load_row_w (by first | rfl | simp [Region.wanted, yielded] | simp [Region.wanted, yielded, hk0]) _ _ rfl (w.heap.size + 1) rfl 23 _ (0, 0) _ HKq.out Try.underlying23 rfl (by kernel_rfl) ?_) | (refine wpList_load_row_w (by first | rfl | simp [Region.wanted, yielded] | simp [Region.wanted, yielded, hk0]) _ _ rfl (w.heap.size + 1 + 1) rfl 25 _ (0, 0) _ HKv.out Try.underlying25 rfl (by kernel_rfl) ?_) | (refine wpList_load_row_w (by first | rfl | simp [Region.wanted, yielded] | simp [Region.wanted, yielded, hk0]) _ _ rfl N0 rfl 37 _ (0, 0) _ HK0.out Try.underlying37 rfl (by kernel_rfl) ?_) | (refine wpList_load_row_w (by first | rfl | simp [Region.wanted, yielded] | simp [Region.wanted, yielded, hk0]) _ _ rfl x3.heap.size rfl 44 _ (0, 0) _ HK1.out Try.underlying44 rfl (by kernel_rfl) ?_) | (refine wpList_load_row_w (by first | rfl | simp [Region.wanted, yielded] | simp [Region.wanted, yielded, hk0]) _ _ rfl N2 rfl 37 _ (0, 0) _ HK2.out Try.underlying37 rfl (by kernel_rfl) ?_))
  refine (eqLetter_yes Q x5).mono ?_
  rintro e x6 ⟨rfl, hb⟩
  have HBN : Hid (Below w.heap.size w x6) := bt HB.out hb
  have HKaN : Hid (x6.heap[w.heap.size]? = Option.some (.cells (peerA p s) 32 (0, 0))) := (hb.block _ (Array.getElem?_eq_some_iff.1 HKa.out).1).trans HKa.out
  have HKqN : Hid (x6.heap[(w.heap.size + 1)]? = Option.some (.cells #[.int .i64 q.1, .int .i64 q.2.1, .int .i64 q.2.2.1, .int .i64 q.2.2.2] 23 (0, 0))) := (hb.block _ (Array.getElem?_eq_some_iff.1 HKq.out).1).trans HKq.out
  have HKvN : Hid (x6.heap[(w.heap.size + 1 + 1)]? = Option.some (.cells #[.int .i64 v.1, .int .i64 v.2.1, .int .i64 v.2.2.1, .int .i64 v.2.2.2] 25 (0, 0))) := (hb.block _ (Array.getElem?_eq_some_iff.1 HKv.out).1).trans HKv.out
  have HK0N : Hid (x6.heap[N0]? = Option.some (.cells (letA Q) 37 (0, 0))) := (hb.block _ (Array.getElem?_eq_some_iff.1 HK0.out).1).trans HK0.out
  have HO1N : Hid (OwnD x2.heap.size x3.heap.size x6 p s3) := HO1.out.below hb
  have HK1N : Hid (x6.heap[x3.heap.size]? = Option.some (.cells (peerA p s3) 44 (0, 0))) := (hb.block _ (Array.getElem?_eq_some_iff.1 HK1.out).1).trans HK1.out
  have HK2N : Hid (x6.heap[N2]? = Option.some (.cells (letA Q) 37 (0, 0))) := (hb.block _ (Array.getElem?_eq_some_iff.1 HK2.out).1).trans HK2.out
  have HZ6 : Hid (x5.heap.size ≤ x6.heap.size) := hb.size
  clear HB HKa HKq HKv HK0 HO1 HK1 HK2
  have HB := HBN
  clear HBN
  have HKa := HKaN
  clear HKaN
  have HKq := HKqN
  clear HKqN
  have HKv := HKvN
  clear HKvN
  have HK0 := HK0N
  clear HK0N
  have HO1 := HO1N
  clear HO1N
  have HK1 := HK1N
  clear HK1N
  have HK2 := HK2N
  clear HK2N
  clear hb
  go_wp2
  refine wp_region_H (fun x => x.heap[w.heap.size]? = some (.cells (peerA p s) 32 (0, 0)) ∧ x.heap[x3.heap.size]? = some (.cells (peerA p s3) 44 (0, 0))) (by kernel_rfl) ?_
  show wpAnyH Try.prog _ _ _ _ (4 + 1) (Array.replicate 5 false) _ _
  have hS : x6.drew.heap[w.heap.size]? = some (.cells (peerA p s) 32 (0, 0)) ∧ x6.drew.heap[x3.heap.size]? = some (.cells (peerA p s3) 44 (0, 0)) := ⟨HKa.out, HK1.out⟩
  refine h_take (j := 0) (e' := some 43) (v := .agg (peerA p s3)) rfl rfl (by kernel_rfl) (by kernel_rfl) (by kernel_rfl) (fun _ _ _ h => h) (Or.inl ⟨by rfl, fun x hx => exec_load_blk _ _ rfl x3.heap.size rfl _ _ _ _ hx.2 Try.underlying44 rfl (by kernel_rfl)⟩) hS ?_
  simp only [Act.put, List.setIfInBounds_toArray, List.set_cons_zero, List.set_cons_succ]
  refine h_take (j := 1) (e' := some 44) (v := .agg (peerA p s)) rfl rfl (by kernel_rfl) (by kernel_rfl) (by kernel_rfl) (fun _ _ _ h => h) (Or.inl ⟨by rfl, fun x hx => exec_load_blk _ _ rfl w.heap.size rfl _ _ _ _ hx.1 Try.underlying32 rfl (by kernel_rfl)⟩) hS ?_
  simp only [Act.put, List.setIfInBounds_toArray, List.set_cons_zero, List.set_cons_succ]
  refine h_call (c := 2) (e' := some 45) (fn := 6) (args := #[.agg (peerA p s)]) rfl rfl (by kernel_rfl) (by rfl) ?_ ((toPeer_any p s x6.drew (HR.out.below (HB.out.trans (Below.refl _ _).drew)) HS.out).mono ?_)
  · go_simp
    try with_reducible rfl
  rintro e x7 ⟨s5, rfl, ho, hb0⟩
  have hb : Below x6.heap.size x6 x7 := ((Below.refl _ _).drew).trans hb0
  have HRb : Hid (PeerR x7 p s5) := ho.reads
  have HBN : Hid (Below w.heap.size w x7) := bt HB.out hb
  have HKaN : Hid (x7.heap[w.heap.size]? = Option.some (.cells (peerA p s) 32 (0, 0))) := (hb.block _ (Array.getElem?_eq_some_iff.1 HKa.out).1).trans HKa.out
  have HKqN : Hid (x7.heap[(w.heap.size + 1)]? = Option.some (.cells #[.int .i64 q.1, .int .i64 q.2.1, .int .i64 q.2.2.1, .int .i64 q.2.2.2] 23 (0, 0))) := (hb.block _ (Array.getElem?_eq_some_iff.1 HKq.out).1).trans HKq.out
  have HKvN : Hid (x7.heap[(w.heap.size + 1 + 1)]? = Option.some (.cells #[.int .i64 v.1, .int .i64 v.2.1, .int .i64 v.2.2.1, .int .i64 v.2.2.2] 25 (0, 0))) := (hb.block _ (Array.getElem?_eq_some_iff.1 HKv.out).1).trans HKv.out
  have HK0N : Hid (x7.heap[N0]? = Option.some (.cells (letA Q) 37 (0, 0))) := (hb.block _ (Array.getElem?_eq_some_iff.1 HK0.out).1).trans HK0.out
  have HO1N : Hid (OwnD x2.heap.size x3.heap.size x7 p s3) := HO1.out.below hb
  have HK1N : Hid (x7.heap[x3.heap.size]? = Option.some (.cells (peerA p s3) 44 (0, 0))) := (hb.block _ (Array.getElem?_eq_some_iff.1 HK1.out).1).trans HK1.out
  have HK2N : Hid (x7.heap[N2]? = Option.some (.cells (letA Q) 37 (0, 0))) := (hb.block _ (Array.getElem?_eq_some_iff.1 HK2.out).1).trans HK2.out
  have HZ7 : Hid (x6.heap.size ≤ x7.heap.size) := hb.size
  clear HB HKa HKq HKv HK0 HO1 HK1 HK2
  have HB := HBN
  clear HBN
  have HKa := HKaN
  clear HKaN
  have HKq := HKqN
  clear HKqN
  have HKv := HKvN
  clear HKvN
  have HK0 := HK0N
  clear HK0N
  have HO1 := HO1N
  clear HO1N
  have HK1 := HK1N
  clear HK1N
  have HK2 := HK2N
  clear HK2N
  have hS1 : x7.heap[w.heap.size]? = some (.cells (peerA p s) 32 (0, 0)) ∧ x7.heap[x3.heap.size]? = some (.cells (peerA p s3) 44 (0, 0)) := ⟨HKa.out, HK1.out⟩
  clear ho hb hb0 hS
  refine ⟨_, rfl, hS1, ?_⟩
  simp only [Act.put, List.setIfInBounds_toArray, List.set_cons_zero, List.set_cons_succ]
  refine h_call (c := 3) (e' := some 46) (fn := 11) (args := #[.agg (peerA p s3), .agg (peerA p s5)]) rfl rfl (by kernel_rfl) (by rfl) ?_ ((eqPeer_yes p s3 s5 x7 HO1.out.reads HRb.out HS.out).mono ?_)
  · go_simp
    try with_reducible rfl
  rintro e x8 ⟨rfl, hb⟩
  have HBN : Hid (Below w.heap.size w x8) := bt HB.out hb
  have HKaN : Hid (x8.heap[w.heap.size]? = Option.some (.cells (peerA p s) 32 (0, 0))) := (hb.block _ (Array.getElem?_eq_some_iff.1 HKa.out).1).trans HKa.out
  have HKqN : Hid (x8.heap[(w.heap.size + 1)]? = Option.some (.cells #[.int .i64 q.1, .int .i64 q.2.1, .int .i64 q.2.2.1, .int .i64 q.2.2.2] 23 (0, 0))) := (hb.block _ (Array.getElem?_eq_some_iff.1 HKq.out).1).trans HKq.out
  have HKvN : Hid (x8.heap[(w.heap.size + 1 + 1)]? = Option.some (.cells #[.int .i64 v.1, .int .i64 v.2.1, .int .i64 v.2.2.1, .int .i64 v.2.2.2] 25 (0, 0))) := (hb.block _ (Array.getElem?_eq_some_iff.1 HKv.out).1).trans HKv.out
  have HK0N : Hid (x8.heap[N0]? = Option.some (.cells (letA Q) 37 (0, 0))) := (hb.block _ (Array.getElem?_eq_some_iff.1 HK0.out).1).trans HK0.out
  have HO1N : Hid (OwnD x2.heap.size x3.heap.size x8 p s3) := HO1.out.below hb
  have HK1N : Hid (x8.heap[x3.heap.size]? = Option.some (.cells (peerA p s3) 44 (0, 0))) := (hb.block _ (Array.getElem?_eq_some_iff.1 HK1.out).1).trans HK1.out
  have HK2N : Hid (x8.heap[N2]? = Option.some (.cells (letA Q) 37 (0, 0))) := (hb.block _ (Array.getElem?_eq_some_iff.1 HK2.out).1).trans HK2.out
  have HZ8 : Hid (x7.heap.size ≤ x8.heap.size) := hb.size
  clear HB HKa HKq HKv HK0 HO1 HK1 HK2
  have HB := HBN
  clear HBN
  have HKa := HKaN
  clear HKaN
  have HKq := HKqN
  clear HKqN
  have HKv := HKvN
  clear HKvN
  have HK0 := HK0N
  clear HK0N
  have HO1 := HO1N
  clear HO1N
  have HK1 := HK1N
  clear HK1N
  have HK2 := HK2N
  clear HK2N
  have hS2 : x8.heap[w.heap.size]? = some (.cells (peerA p s) 32 (0, 0)) ∧ x8.heap[x3.heap.size]? = some (.cells (peerA p s3) 44 (0, 0)) := ⟨HKa.out, HK1.out⟩
  clear hb hS1 HRb
  refine ⟨_, rfl, hS2, ?_⟩
  simp only [Act.put, List.setIfInBounds_toArray, List.set_cons_zero, List.set_cons_succ]
  refine h_take (j := 4) (e' := some 47) (v := .bool false) rfl rfl (by kernel_rfl) (by kernel_rfl) (by kernel_rfl) (fun _ _ _ h => h) (Or.inl ⟨by rfl, ?_⟩) hS2 ?_
  · intro x hx
    go_simp
    try with_reducible rfl
  simp only [Act.put, List.setIfInBounds_toArray, List.set_cons_zero, List.set_cons_succ]
  refine wpAnyH_done (by kernel_rfl) ?_ _
  clear hS2
  go_wp2
  go_ret
  exact ⟨rfl, HB.out⟩

end Go.Proofs.Ytnghhfgbobpnkar.WFnExactAnswered
