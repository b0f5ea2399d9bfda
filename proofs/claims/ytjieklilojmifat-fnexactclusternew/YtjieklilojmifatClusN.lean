/-
  A new cluster: the contract of the specification's ClusterNew. (Made by gcn15.py.)
-/
import Derived.Test.YtjieklilojmifatClusQ
import Derived.Test.YtjieklilojmifatJ0
namespace Go.Proofs.Ytjieklilojmifat
open Go.RowKit Num

def okNew (n l : Int) : Bool := inB n 1 7 && (inB l 0 (wrap64 (wrap64 (2 ^ n.toNat) - 1)) && !decide (faultsT n < countT l))
def freshP (m : Nat) : List PE := (List.range m).map fun (i : Nat) => newP (i : Int)
def newC (n : Int) (b : Bool) (l : Int) : CU := ⟨n, b, l, [firstB], freshP n.toNat, [], [], []⟩
def zeroCU : CU := ⟨0, false, 0, [], [], [], [], []⟩
def zeroCW : CW := ⟨.slice none 0 0, [], .slice none 0 0, [], .slice none 0 0, .slice none 0 0, .slice none 0 0⟩
def clusterNewF (n : Int) (b : Bool) (l : Int) : CU × Bool := if okNew n l then (newC n b l, true) else (zeroCU, false)
theorem eight_one {a b c d e f g h : Value} (h0 : a.oneCell' = true) (h1 : b.oneCell' = true) (h2 : c.oneCell' = true) (h3 : d.oneCell' = true) (h4 : e.oneCell' = true) (h5 : f.oneCell' = true) (h6 : g.oneCell' = true) (h7 : h.oneCell' = true) : (#[a, b, c, d, e, f, g, h] : Array Value).all (·.oneCell') = true := by simp [h0, h1, h2, h3, h4, h5, h6, h7]
theorem own_nil (w : World) (base m : Nat) (e : TypeId) : w.ownsRow base e m (.slice none 0 0) 0 [] := ⟨by simp, Or.inl ⟨rfl, rfl⟩⟩
theorem zero_own {lo : Nat} {w : World} (h : lo ≤ w.heap.size) : OwnC lo w.heap.size w zeroCU zeroCW := by
  refine ownC_of (b1 := w.heap.size) (b2 := w.heap.size) (b3 := w.heap.size) (b4 := w.heap.size) rfl ⟨own_nil _ _ _ _, fun p hp => (by cases hp), List.Pairwise.nil⟩ (fun g hg => ?_) rfl ⟨own_nil _ _ _ _, OwnE.nil _ _⟩ (fun g hg => ?_) (own_nil _ _ _ _) (fun g hg => (by cases hg)) (own_nil _ _ _ _) (fun g hg => (by cases hg)) (own_nil _ _ _ _) (fun g hg => (by cases hg)) h (Nat.le_refl _) (Nat.le_refl _) (Nat.le_refl _) (Nat.le_refl _) (Nat.le_refl _)
  · rcases hg with hg | ⟨p, hp, _⟩
    · cases hg
    · cases hp
  · rcases hg with hg | ⟨p, hp, _⟩
    · cases hg
    · cases hp

set_option maxRecDepth 100000 in
set_option maxHeartbeats 4000000 in
theorem clusterNew_s (n : Int) (b : Bool) (l : Int) (w : World) (hn : (Lit.int .i64 n).wf = true) (hl : (Lit.int .i64 l).wf = true) :
    Calls Try.prog 13 #[.int .i64 n, .bool b, .int .i64 l] w fun e w' => ∃ s', e = .returned (.tuple #[clusV (clusterNewF n b l).1 s', .bool (clusterNewF n b l).2]) ∧ OwnC w.heap.size w'.heap.size w' (clusterNewF n b l).1 s' ∧ Below w.heap.size w w' := by
  have hlb := bounds_i64 hl
  have hnb := bounds_i64 hn
  obtain ⟨pi, phi, phz0, phz1, phz2⟩ := info_parts infoPeer
  obtain ⟨W, hW⟩ : ∃ W, W = w.alloc (.cells zeroC 55) := ⟨_, rfl⟩
  have HW : Hid (Below w.heap.size w W ∧ W.heap[w.heap.size]? = some (.cells zeroC 55 (0, 0)) ∧ w.heap.size < W.heap.size) := (by rw [hW]; exact ⟨ba (Below.refl _ _) _, heap_alloc_new w _, by simp⟩ : _ ∧ _ ∧ _)
  unfold zeroC at hW
  clear hn hl
  go_enter Try.func13, Try.ntmps13
  go_wp2_with fail
  rw [← hW]
  clear hW
  refine (in_any n 1 7 W).mono ?_
  rintro e w1 ⟨rfl, hw⟩
  obtain rfl := hw.symm
  clear hw
  cases hi : inB n 1 7 with
  | false =>
    have HE : Hid (clusterNewF n b l = (zeroCU, false)) := (by unfold clusterNewF okNew; rw [hi]; rfl : clusterNewF n b l = _)
    go_wp2_with (refine wpList_store_blk rfl _ _ _ rfl w.heap.size zeroC rfl rfl 55 zeroC HW.out.2.1 (by kernel_rfl) rfl (eight_one rfl rfl rfl rfl rfl rfl rfl rfl) ?_; intro z hg hk hz; have HZ : Hid (z.heap[w.heap.size]? = some (.cells zeroC 55 (0, 0)) ∧ Below w.heap.size w z) := ⟨hk, HW.out.1.grown hg HW.out.1.size (fun k hk => by cases hk; exact Nat.le_refl _)⟩; clear hg hk hz)
    refine bodyPost_ret (v := .tuple #[.agg zeroC, .bool false]) (results_ct Try.results13 _ _ w.heap.size 55 _ (0, 0) _ _ rfl HZ.out.1 Try.underlying55 rfl (by kernel_rfl) rfl) rfl ?_
    rw [HE.out]
    exact ⟨zeroCW, rfl, zero_own (Nat.le_trans (Nat.le_refl _) HZ.out.2.size), HZ.out.2⟩
  | true =>
    have h1 : 1 ≤ n ∧ n ≤ 7 := by unfold inB at hi; simpa using hi
    obtain ⟨j, rfl⟩ : ∃ j : Nat, n = (j : Int) := ⟨n.toNat, by omega⟩
    go_wp2_with fail
    refine (in_any l 0 (wrap64 (wrap64 (2 ^ j) - 1)) W).mono ?_
    rintro e w1 ⟨rfl, hw⟩
    obtain rfl := hw.symm
    clear hw
    cases hj : inB l 0 (wrap64 (wrap64 (2 ^ j) - 1)) with
    | false =>
      have HE : Hid (clusterNewF (j : Int) b l = (zeroCU, false)) := (by unfold clusterNewF okNew; rw [hi, Int.toNat_natCast, hj]; rfl : clusterNewF (j : Int) b l = _)
      go_wp2_with (refine wpList_store_blk rfl _ _ _ rfl w.heap.size zeroC rfl rfl 55 zeroC HW.out.2.1 (by kernel_rfl) rfl (eight_one rfl rfl rfl rfl rfl rfl rfl rfl) ?_; intro z hg hk hz; have HZ : Hid (z.heap[w.heap.size]? = some (.cells zeroC 55 (0, 0)) ∧ Below w.heap.size w z) := ⟨hk, HW.out.1.grown hg HW.out.1.size (fun k hk => by cases hk; exact Nat.le_refl _)⟩; clear hg hk hz)
      refine bodyPost_ret (v := .tuple #[.agg zeroC, .bool false]) (results_ct Try.results13 _ _ w.heap.size 55 _ (0, 0) _ _ rfl HZ.out.1 Try.underlying55 rfl (by kernel_rfl) rfl) rfl ?_
      rw [HE.out]
      exact ⟨zeroCW, rfl, zero_own (Nat.le_trans (Nat.le_refl _) HZ.out.2.size), HZ.out.2⟩
    | true =>
      go_wp2_with fail
      refine (count_s l W hlb.1 hlb.2).mono ?_
      rintro e w1 ⟨rfl, hw⟩
      obtain rfl := hw.symm
      clear hw
      go_wp2_with fail
      refine (faults_s (j : Int) W hnb.1 hnb.2).mono ?_
      rintro e w1 ⟨rfl, hw⟩
      obtain rfl := hw.symm
      clear hw
      by_cases hf : faultsT (j : Int) < countT l
      · have HE : Hid (clusterNewF (j : Int) b l = (zeroCU, false)) := (by unfold clusterNewF okNew; rw [hi, Int.toNat_natCast, hj, decide_eq_true hf]; rfl : clusterNewF (j : Int) b l = _)
        go_wp2_with (refine wpList_store_blk rfl _ _ _ rfl w.heap.size zeroC rfl rfl 55 zeroC HW.out.2.1 (by kernel_rfl) rfl (eight_one rfl rfl rfl rfl rfl rfl rfl rfl) ?_; intro z hg hk hz; have HZ : Hid (z.heap[w.heap.size]? = some (.cells zeroC 55 (0, 0)) ∧ Below w.heap.size w z) := ⟨hk, HW.out.1.grown hg HW.out.1.size (fun k hk => by cases hk; exact Nat.le_refl _)⟩; clear hg hk hz)
        refine bodyPost_ret (v := .tuple #[.agg zeroC, .bool false]) (results_ct Try.results13 _ _ w.heap.size 55 _ (0, 0) _ _ rfl HZ.out.1 Try.underlying55 rfl (by kernel_rfl) rfl) rfl ?_
        rw [HE.out]
        exact ⟨zeroCW, rfl, zero_own (Nat.le_trans (Nat.le_refl _) HZ.out.2.size), HZ.out.2⟩
      · have HE : Hid (clusterNewF (j : Int) b l = (newC (j : Int) b l, true)) := (by unfold clusterNewF okNew; rw [hi, Int.toNat_natCast, hj, decide_eq_false hf]; rfl : clusterNewF (j : Int) b l = _)
        clear hi hj
        go_wp2_with fail
        refine (treeNew_s W).mono ?_
        rintro e x1 ⟨v3_, rfl, ho, hb⟩
        obtain ⟨a3, c3, e3, -⟩ := own_form ho.row
        have e3' : v3_ = .slice a3 1 c3 := e3
        subst e3'
        clear e3
        have HT1 : Hid (OwnT x1 W.heap.size (.slice a3 1 c3) [(firstB, .slice none 0 0)]) := ho
        have HL3 : Hid (∀ g, inTree (.slice a3 1 c3) [(firstB, .slice none 0 0)] g → g < x1.heap.size) := fun g hg => (inTree_ge ho hg).2
        have HX1 : Hid (Below w.heap.size w x1 ∧ x1.heap[w.heap.size]? = some (.cells zeroC 55 (0, 0)) ∧ W.heap.size ≤ x1.heap.size) := ⟨bt HW.out.1 hb, (hb.block _ HW.out.2.2).trans HW.out.2.1, hb.size⟩
        clear ho hb
        go_wp2_with (refine wpList_store_blk rfl _ _ _ rfl x1.heap.size #[.int .i64 (j : Int), .bool b, .int .i64 l, .slice a3 1 c3, .slice none 0 0, .slice none 0 0, .slice none 0 0, .slice none 0 0] rfl rfl 55 zeroC (heap_alloc_new x1 _) (by kernel_rfl) rfl (eight_one rfl rfl rfl (own_oneC HT1.out.row) rfl rfl rfl rfl) ?_; intro y1 hg hk hz; have hb1 : Below x1.heap.size x1 y1 := made_below hg; have HY1 : Hid (Below w.heap.size w y1 ∧ y1.heap[w.heap.size]? = some (.cells zeroC 55 (0, 0)) ∧ y1.heap[x1.heap.size]? = some (.cells #[.int .i64 (j : Int), .bool b, .int .i64 l, .slice a3 1 c3, .slice none 0 0, .slice none 0 0, .slice none 0 0, .slice none 0 0] 55 (0, 0)) ∧ OwnT y1 W.heap.size (.slice a3 1 c3) [(firstB, .slice none 0 0)] ∧ x1.heap.size < y1.heap.size) := ⟨bt HX1.out.1 hb1, (hb1.block _ (Array.getElem?_eq_some_iff.1 HX1.out.2.1).1).trans HX1.out.2.1, hk, HT1.out.below hb1, (Array.getElem?_eq_some_iff.1 hk).1⟩; clear hg hk hz hb1 HT1)
        go_loopw [9] (fun i wr => ∃ (m : Nat) (pv : Value) (qs : PL), m ≤ j ∧ i = .int .i64 (m : Int) ∧ Hid (Below w.heap.size w wr ∧ wr.heap[w.heap.size]? = some (.cells zeroC 55 (0, 0)) ∧ wr.heap[x1.heap.size]? = some (.cells #[.int .i64 (j : Int), .bool b, .int .i64 l, .slice a3 1 c3, pv, .slice none 0 0, .slice none 0 0, .slice none 0 0] 55 (0, 0)) ∧ OwnT wr W.heap.size (.slice a3 1 c3) [(firstB, .slice none 0 0)] ∧ y1.heap.size ≤ wr.heap.size) ∧ Hid (OwnPs y1.heap.size wr pv qs) ∧ Hid (pes qs = freshP m)) (fun i _ => j - (intOf i).toNat)
        case atStart => exact ⟨0, .slice none 0 0, [], Nat.zero_le _, rfl, ⟨HY1.out.1, HY1.out.2.1, HY1.out.2.2.1, HY1.out.2.2.2.1, Nat.le_refl _⟩, ⟨own_nil _ _ _ _, OwnE.nil _ _⟩, rfl⟩
        case round =>
          obtain ⟨m, pv, qs, hm, rfl, HSm, HPm, HEm⟩ := hrel
          have hql : qs.length = m := by have := congrArg List.length HEm.out; rw [pes_len] at this; simpa [freshP] using this
          by_cases hlt : (m : Int) < (j : Int)
          · go_wp2
            refine wp_region_P (fun i => i != 7) (fun x => x.heap[x1.heap.size]? = some (.cells #[.int .i64 (j : Int), .bool b, .int .i64 l, .slice a3 1 c3, pv, .slice none 0 0, .slice none 0 0, .slice none 0 0] 55 (0, 0))) (by kernel_rfl) ?_
            show wpAnyP Try.prog _ _ _ _ _ (7 + 1) (Array.replicate 8 false) _ _
            have hS : wr.drew.heap[x1.heap.size]? = some (.cells #[.int .i64 (j : Int), .bool b, .int .i64 l, .slice a3 1 c3, pv, .slice none 0 0, .slice none 0 0, .slice none 0 0] 55 (0, 0)) := HSm.out.2.2.1
            refine p_take (j := 0) (e' := some 40) (v := .pointer (some ⟨x1.heap.size, 4, none⟩)) rfl rfl (by kernel_rfl) (by kernel_rfl) (by kernel_rfl) (by kernel_rfl) (by kernel_rfl) (fun _ _ _ h => h) (Or.inl ⟨by rfl, ?_⟩) hS ?_
            · intro x hx
              go_simp
              try with_reducible rfl
            simp only [Act.put, List.setIfInBounds_toArray, List.set_cons_zero, List.set_cons_succ]
            refine p_take (j := 1) (e' := some 41) (v := pv) rfl rfl (by kernel_rfl) (by kernel_rfl) (by kernel_rfl) (by kernel_rfl) (by kernel_rfl) (fun _ _ _ h => h) (Or.inl ⟨by rfl, ?_⟩) hS ?_
            · intro x hx
              have c := blk_cell hx 4 pv rfl
              go_simp
              try with_reducible rfl
            simp only [Act.put, List.setIfInBounds_toArray, List.set_cons_zero, List.set_cons_succ]
            refine p_take (j := 2) (e' := some 42) (v := .int .i64 (m : Int)) rfl rfl (by kernel_rfl) (by kernel_rfl) (by kernel_rfl) (by kernel_rfl) (by kernel_rfl) (fun _ _ _ h => h) (Or.inl ⟨by rfl, ?_⟩) hS ?_
            · intro x hx
              go_simp
              try with_reducible rfl
            simp only [Act.put, List.setIfInBounds_toArray, List.set_cons_zero, List.set_cons_succ]
            refine p_call (s := 3) (e' := some 43) (fn := 59) (args := #[.int .i64 (m : Int)]) rfl rfl (by kernel_rfl) (by rfl) ?_ ((peerNew_s (m : Int) wr.drew).mono ?_)
            · go_simp
              try with_reducible rfl
            rintro e z1 ⟨s1, rfl, ho, hb0⟩
            have hb : Below wr.heap.size wr z1 := ((Below.refl _ _).drew).trans hb0
            obtain ⟨p, hp⟩ : ∃ p, p = newP (m : Int) := ⟨_, rfl⟩
            rw [← hp] at ho ⊢
            have HNP : Hid (p = newP (m : Int)) := hp
            have HD1 : Hid (OwnD wr.heap.size z1.heap.size z1 p s1) := ho
            have hS1 : z1.heap[x1.heap.size]? = some (.cells #[.int .i64 (j : Int), .bool b, .int .i64 l, .slice a3 1 c3, pv, .slice none 0 0, .slice none 0 0, .slice none 0 0] 55 (0, 0)) := (hb.block _ (Array.getElem?_eq_some_iff.1 HSm.out.2.2.1).1).trans HSm.out.2.2.1
            refine ⟨_, rfl, fun _ => hS1, ?_⟩
            simp only [Act.put, List.setIfInBounds_toArray, List.set_cons_zero, List.set_cons_succ]
            obtain ⟨z2, hz2⟩ : ∃ z2, z2 = z1.alloc (.cells (peerA p s1) 41) := ⟨_, rfl⟩
            have hb2 : Below wr.heap.size wr z2 := (by rw [hz2]; exact bt hb (alloc_below z1 _) : Below wr.heap.size wr z2)
            have HD2 : Hid (OwnD wr.heap.size z2.heap.size z2 p s1) := (by rw [hz2]; exact (HD1.out.below (alloc_below z1 _)).wide (alloc_below z1 _).size (Nat.le_refl _) : OwnD wr.heap.size z2.heap.size z2 p s1)
            have HZ2 : Hid (z2.heap.size = z1.heap.size + 1 ∧ z2.heap[z1.heap.size]? = some (.cells (peerA p s1) 41 (0, 0)) ∧ wr.heap.size ≤ z1.heap.size) := (by rw [hz2]; exact ⟨by simp, heap_alloc_new z1 _, hb.size⟩ : _ ∧ _ ∧ _)
            have hS2 : z2.heap[x1.heap.size]? = some (.cells #[.int .i64 (j : Int), .bool b, .int .i64 l, .slice a3 1 c3, pv, .slice none 0 0, .slice none 0 0, .slice none 0 0] 55 (0, 0)) := (hb2.block _ (Array.getElem?_eq_some_iff.1 HSm.out.2.2.1).1).trans HSm.out.2.2.1
            have HB2 : Hid (Below wr.heap.size wr z2) := hb2
            refine p_run (s := 4) (e' := some 44) rfl rfl rfl (by kernel_rfl) (.slice (some ⟨z1.heap.size, 0, none⟩) 1 1) z2 ?_ ⟨fun _ => hS2, ?_⟩
            · rw [hz2]
              unfold peerV peerA
              go_simp
              try with_reducible rfl
            clear hz2 hS hS1 hb hb0 hb2 ho HD1 hp
            simp only [Act.put, List.setIfInBounds_toArray, List.set_cons_zero, List.set_cons_succ]
            refine p_lies (s := 5) (e' := some 45) rfl rfl rfl (.tmp 41) (.tmp 44) 52 rfl (by kernel_rfl) y1.heap.size 41 pi _ 21 264 Try.underlying52 phi phz0 phz1 phz2 rfl (by decide) pv qs.length (flatR peerF qs) rfl (own_kept HPm.out.row HB2.out) ⟨z1.heap.size, 0, none⟩ 1 1 (peerF (p, s1)) rfl rfl (World.news_of_block HZ2.out.2.1) (fun u hu => (Array.all_eq_true_iff_forall_mem.1 (peerA_one HD2.out.1)) u (by exact List.mem_toArray.2 hu)) (by decide) (by unfold maxLen; omega) (by omega) (by have := HZ2.out; have := HSm.out.2.2.2.2; omega) _ HZ2.out.1 ?_
            intro g2 cap2 z3 ho2 hg2 hwh hlt2
            have hra : ∀ k, pv.ownBlock = some k → y1.heap.size ≤ k := fun k hk => (HPm.out.row.lt k hk).1
            have hs1 := HY1.out.2.2.2.2
            have hs2 := HX1.out.2.2
            have hs3 := HW.out.2.2
            have HS3 : Hid (Below w.heap.size w z3 ∧ z3.heap[w.heap.size]? = some (.cells zeroC 55 (0, 0)) ∧ z3.heap[x1.heap.size]? = some (.cells #[.int .i64 (j : Int), .bool b, .int .i64 l, .slice a3 1 c3, pv, .slice none 0 0, .slice none 0 0, .slice none 0 0] 55 (0, 0)) ∧ OwnT z3 W.heap.size (.slice a3 1 c3) [(firstB, .slice none 0 0)] ∧ y1.heap.size ≤ z3.heap.size) := ⟨(bt HSm.out.1 HB2.out).grown hg2 (bt HSm.out.1 HB2.out).size (fun k hk => by have := hra k hk; omega), (hg2.block _ (by have := HB2.out.size; have := HSm.out.2.2.2.2; omega) (fun e => by have := hra _ e.symm; omega)).trans ((HB2.out.block _ (Array.getElem?_eq_some_iff.1 HSm.out.2.1).1).trans HSm.out.2.1), (hg2.block _ (by have := HB2.out.size; have := HSm.out.2.2.2.2; omega) (fun e => by have := hra _ e.symm; omega)).trans ((HB2.out.block _ (Array.getElem?_eq_some_iff.1 HSm.out.2.2.1).1).trans HSm.out.2.2.1), (HSm.out.2.2.2.1.below HB2.out).above (b1 := y1.heap.size) (fun k hk => by have := HL3.out k hk; omega) hg2 hra, by have := HB2.out.size; have := HSm.out.2.2.2.2; have := hg2.size; omega⟩
            have HP3 : Hid (OwnPs y1.heap.size z3 (.slice (some ⟨g2, 0, none⟩) (qs.length + 1) cap2) (qs ++ [(p, s1)])) := HPm.out.append HB2.out HD2.out HSm.out.2.2.2.2 hg2 ho2
            have hS3 : z3.heap[x1.heap.size]? = some (.cells #[.int .i64 (j : Int), .bool b, .int .i64 l, .slice a3 1 c3, pv, .slice none 0 0, .slice none 0 0, .slice none 0 0] 55 (0, 0)) := HS3.out.2.2.1
            clear ho2 hg2 hwh hlt2 hra hS2
            refine ⟨fun _ => hS3, ?_⟩
            simp only [Act.put, List.setIfInBounds_toArray, List.set_cons_zero, List.set_cons_succ]
            refine p_take (j := 6) (e' := some 46) (v := .pointer (some ⟨x1.heap.size, 4, none⟩)) rfl rfl (by kernel_rfl) (by kernel_rfl) (by kernel_rfl) (by kernel_rfl) (by kernel_rfl) (fun _ _ _ h => h) (Or.inl ⟨by rfl, ?_⟩) hS3 ?_
            · intro x hx
              go_simp
              try with_reducible rfl
            simp only [Act.put, List.setIfInBounds_toArray, List.set_cons_zero, List.set_cons_succ]
            refine p_cell (s := 7) (N := x1.heap.size) (o := 4) (u := .slice (some ⟨g2, 0, none⟩) (qs.length + 1) cap2) (old := #[.int .i64 (j : Int), .bool b, .int .i64 l, .slice a3 1 c3, pv, .slice none 0 0, .slice none 0 0, .slice none 0 0]) (new := #[.int .i64 (j : Int), .bool b, .int .i64 l, .slice a3 1 c3, .slice (some ⟨g2, 0, none⟩) (qs.length + 1) cap2, .slice none 0 0, .slice none 0 0, .slice none 0 0]) rfl rfl rfl rfl (by kernel_rfl) rfl rfl hS3 (by kernel_rfl) (by simp) rfl rfl ?_
            intro z4 hg hk
            have HS4 : Hid (Below w.heap.size w z4 ∧ z4.heap[w.heap.size]? = some (.cells zeroC 55 (0, 0)) ∧ z4.heap[x1.heap.size]? = some (.cells #[.int .i64 (j : Int), .bool b, .int .i64 l, .slice a3 1 c3, .slice (some ⟨g2, 0, none⟩) (qs.length + 1) cap2, .slice none 0 0, .slice none 0 0, .slice none 0 0] 55 (0, 0)) ∧ OwnT z4 W.heap.size (.slice a3 1 c3) [(firstB, .slice none 0 0)] ∧ y1.heap.size ≤ z4.heap.size) := ⟨HS3.out.1.grown hg HS3.out.1.size (fun k hk => by cases hk; omega), (hg.block _ (Array.getElem?_eq_some_iff.1 HS3.out.2.1).1 (fun e => by have := Option.some.inj e; omega)).trans HS3.out.2.1, hk, HS3.out.2.2.2.1.frs (FrS.of_grown hg (B := fun i => i = x1.heap.size) (fun i e => by cases e; rfl)) (fun g hg e => by have := HL3.out g hg; omega), Nat.le_trans HS3.out.2.2.2.2 hg.size⟩
            have HP4 : Hid (OwnPs y1.heap.size z4 (.slice (some ⟨g2, 0, none⟩) (qs.length + 1) cap2) (qs ++ [(p, s1)])) := HP3.out.not hg hs1
            clear hg hk hS3 HS3 HP3 HSm HPm HD2 HB2 HZ2 hs1 hs2 hs3
            refine ⟨fun h => (by cases h), ?_⟩
            refine wpAnyP_done (by kernel_rfl) ?_ _
            go_wp2
            go_roundw
            case rel => exact ⟨m + 1, _, qs ++ [(p, s1)], by omega, by go_num, HS4.out, HP4.out, (by rw [pes_snoc, HEm.out, HNP.out]; unfold freshP; rw [List.range_succ, List.map_append]; rfl : pes (qs ++ [(p, s1)]) = freshP (m + 1))⟩
            case measure => simp [intOf]; omega
          · have hmj : m = j := by omega
            have HEJ : Hid (pes qs = freshP j) := (by rw [← hmj]; exact HEm.out : pes qs = freshP j)
            have HOP : Hid (pv.oneCell' = true) := own_oneC HPm.out.row
            clear hmj
            go_wp2_with (first
              | (refine wpList_load_row rfl _ _ rfl x1.heap.size rfl 55 _ (0, 0) _ HSm.out.2.2.1 Try.underlying55 rfl (by kernel_rfl) ?_)
              | (refine wpList_store_blk rfl _ _ _ rfl w.heap.size #[.int .i64 (j : Int), .bool b, .int .i64 l, .slice a3 1 c3, pv, .slice none 0 0, .slice none 0 0, .slice none 0 0] rfl rfl 55 zeroC HSm.out.2.1 (by kernel_rfl) rfl (eight_one rfl rfl rfl (own_oneC HSm.out.2.2.2.1.row) HOP.out rfl rfl rfl) ?_; intro z hg hk hz; have HBz : Hid (Below w.heap.size w z ∧ z.heap[w.heap.size]? = some (.cells #[.int .i64 (j : Int), .bool b, .int .i64 l, .slice a3 1 c3, pv, .slice none 0 0, .slice none 0 0, .slice none 0 0] 55 (0, 0)) ∧ OwnT z W.heap.size (.slice a3 1 c3) [(firstB, .slice none 0 0)] ∧ OwnPs y1.heap.size z pv qs ∧ wr.heap.size ≤ z.heap.size) := ⟨HSm.out.1.grown hg HSm.out.1.size (fun k hk => by cases hk; exact Nat.le_refl _), hk, HSm.out.2.2.2.1.not hg HW.out.2.2, HPm.out.not hg (by have := HY1.out.2.2.2.2; have := HX1.out.2.2; have := HW.out.2.2; omega), hg.size⟩; clear hg hk hz))
            refine bodyPost_ret (v := .tuple #[.agg #[.int .i64 (j : Int), .bool b, .int .i64 l, .slice a3 1 c3, pv, .slice none 0 0, .slice none 0 0, .slice none 0 0], .bool true]) (results_ct Try.results13 _ _ w.heap.size 55 _ (0, 0) _ _ rfl HBz.out.2.1 Try.underlying55 rfl (by kernel_rfl) rfl) rfl ?_
            rw [HE.out]
            refine ⟨⟨.slice a3 1 c3, [(firstB, .slice none 0 0)], pv, qs, .slice none 0 0, .slice none 0 0, .slice none 0 0⟩, rfl, ?_, HBz.out.1⟩
            have d1_ := HY1.out.2.2.2.2
            have d2_ := HX1.out.2.2
            have d3_ := HW.out.2.2
            have d4_ := HSm.out.2.2.2.2
            have d5_ := HBz.out.2.2.2.2
            have h := ownC_of (b0 := W.heap.size) (b1 := y1.heap.size) (b2 := z.heap.size) (b3 := z.heap.size) (b4 := z.heap.size) (b5 := z.heap.size) (w := z) (c := newC (j : Int) b l) (s := ⟨.slice a3 1 c3, [(firstB, .slice none 0 0)], pv, qs, .slice none 0 0, .slice none 0 0, .slice none 0 0⟩) rfl HBz.out.2.2.1 (fun g hg => by have := HL3.out g hg; omega) (by rw [HEJ.out]; unfold newC; simp) HBz.out.2.2.2.1 (fun g hg => (inPeers_ge HBz.out.2.2.2.1 hg).2) (own_nil _ _ _ _) (fun g hg => (by cases hg)) (own_nil _ _ _ _) (fun g hg => (by cases hg)) (own_nil _ _ _ _) (fun g hg => (by cases hg)) (by omega) (by omega) (Nat.le_refl _) (Nat.le_refl _) (Nat.le_refl _) (Nat.le_refl _)
            exact h.low (by omega)
theorem clusterNew_con : Con3 13 clusterNewF := fun n b l w hn hl => clusterNew_s n b l w hn hl
theorem fresh_small (i : Int) : smallPe (newP i) ∧ lenPe (newP i) = 0 := by
  unfold newP
  exact ⟨⟨by simp, by simp, by simp, by simp, by simp, by simp, fun c hc => (by simp at hc), fun c hc => (by simp at hc)⟩, by simp [lenPe]⟩
theorem fresh_len (m : Nat) : lenPs (freshP m) = 0 := by
  induction m with
  | zero => rfl
  | succ m ih =>
    have e : freshP (m + 1) = freshP m ++ [newP (m : Int)] := by unfold freshP; rw [List.range_succ, List.map_append]; rfl
    rw [e, lenPs_app, ih]
    simp only [lenPs, (fresh_small (m : Int)).2]
theorem clusterNew_fit : Fit3 clusterNewF := fun n b l => by
  unfold clusterNewF
  split
  · rename_i h
    have hn : n ≤ 7 := by
      unfold okNew at h
      simp only [Bool.and_eq_true] at h
      have := h.1
      unfold inB at this
      simp at this
      exact this.2
    have hfl : (freshP n.toNat).length ≤ 7 := by simp [freshP]; omega
    show okC (newC n b l) ∧ wtCl (newC n b l) ≤ 1200000
    refine ⟨⟨⟨by simp [newC], fun x hx => ?_⟩, by show ((freshP n.toNat).length : Int) ≤ 1048576; omega, fun p hp => ?_, by simp [newC], by simp [newC], ⟨by simp [newC], fun x hx => (by simp [newC] at hx)⟩⟩, ?_⟩
    · simp only [newC, List.mem_cons, List.not_mem_nil, or_false] at hx
      subst hx
      exact ⟨by simp [firstB], fun c hc => (by simp [firstB] at hc)⟩
    · have hp' : p ∈ freshP n.toNat := hp
      unfold freshP at hp'
      obtain ⟨i, _, rfl⟩ := List.mem_map.1 hp'
      exact (fresh_small _).1
    · have hf := fresh_len n.toNat
      unfold wtCl newC wtB
      simp only [hf, wtC, firstB, List.length_cons, List.length_nil]
      omega
  · exact ⟨⟨⟨by simp [zeroCU], fun x hx => (by simp [zeroCU] at hx)⟩, by simp [zeroCU], fun p hp => (by simp [zeroCU] at hp), by simp [zeroCU], by simp [zeroCU], ⟨by simp [zeroCU], fun x hx => (by simp [zeroCU] at hx)⟩⟩, by simp [wtCl, zeroCU, wtB, wtC, lenPs]⟩
/-- letters put behind the others: what the law asks -/
def postF (c : CU) (l : List LT) : CU × Bool := (postC c l, postB c l)
theorem post_fitL : FitL postF := fun c l hk hw => by
  show okC (postC c l) ∧ wtCl (postC c l) ≤ 1200000
  by_cases h : 60 < c.net.length + l.length
  · have e : postC c l = c := if_pos h
    rw [e]
    exact ⟨hk, by omega⟩
  · exact post_fit hk hw (by omega)

end Go.Proofs.Ytjieklilojmifat
