/-
  A new cluster: the contract of the program's ClusterNew, and of what it makes its replicas by.
-/
import Derived.Test.YtjieklilojmifatClusN
import Derived.Test.YtjieklilojmifatVoteI
import Derived.Test.YtjieklilojmifatQcI
import Derived.Test.YtjieklilojmifatBlockI
import Derived.Test.YtjieklilojmifatJ1
namespace Go.Proofs.Ytjieklilojmifat
open Go.RowKit Num

def upI (m : Nat) : List Int := (List.range m).map fun (i : Nat) => (i : Int)
theorem upI_len (m : Nat) : (upI m).length = m := by simp [upI]
theorem upI_snoc (m : Nat) : upI (m + 1) = upI m ++ [(m : Int)] := by unfold upI; rw [List.range_succ, List.map_append]; rfl
theorem upI_at {m k : Nat} (h : k < (upI m).length) : (upI m)[k] = (k : Int) := by simp [upI]
theorem freshP_snoc (m : Nat) : freshP (m + 1) = freshP m ++ [newP (m : Int)] := by unfold freshP; rw [List.range_succ, List.map_append]; rfl
theorem inB_among (j : Nat) (l : Int) (h7 : j ≤ 7) (h0 : -9223372036854775808 ≤ l) (h1 : l ≤ 9223372036854775807) : inB l 0 (wrap64 (wrap64 (2 ^ j) - 1)) = decide (l % 18446744073709551616 < 2 ^ j) := by
  obtain ⟨P, hP⟩ : ∃ P : Int, P = 2 ^ j := ⟨_, rfl⟩
  have hp : 1 ≤ P ∧ P ≤ 128 := by
    rw [hP]
    match j, h7 with
    | 0, _ => decide
    | 1, _ => decide
    | 2, _ => decide
    | 3, _ => decide
    | 4, _ => decide
    | 5, _ => decide
    | 6, _ => decide
    | 7, _ => decide
  rw [← hP, show wrap64 P = P from by unfold wrap64; omega, show wrap64 (P - 1) = P - 1 from by unfold wrap64; omega]
  by_cases h : 0 ≤ l ∧ l ≤ P - 1
  · rw [inB_yes h, eq_comm]
    exact decide_eq_true (by omega)
  · rw [inB_no h, eq_comm]
    exact decide_eq_false (by omega)

set_option maxRecDepth 100000 in
theorem peerNewR_i (id : Int) (w : World) :
    Calls Try.prog 66 #[.int .i64 id] w fun e w' => ∃ s, e = .returned (peerV (newP id) s) ∧ OwnD w.heap.size w'.heap.size w' (newP id) s ∧ Below w.heap.size w w' := by
  go_enter Try.func66, Try.ntmps66
  go_wp2_with (refine wpList_store_blk rfl _ _ _ rfl w.heap.size (peerA (newP id) nilS) rfl rfl 41 zeroA (heap_alloc_new w _) (by kernel_rfl) rfl (peerA_one (nil_own w.heap.size w id).1) ?_; intro w1 g1 k1 z1; have HB : Hid (Below w.heap.size w w1) := (ba (Below.refl _ _) _).grown g1 (by simp) (fun y hy => by cases hy; exact Nat.le_refl _); have HK : Hid (w1.heap[w.heap.size]? = Option.some (.cells (peerA (newP id) nilS) 41 (0, 0))) := k1; clear g1 k1 z1)
  refine bodyPost_ret (v := .agg (peerA (newP id) nilS)) (results_cell_row Try.results66 _ _ w.heap.size 41 _ (0, 0) _ rfl HK.out Try.underlying41 rfl (by kernel_rfl)) rfl ?_
  exact ⟨nilS, rfl, nil_own _ _ _, HB.out⟩

set_option maxRecDepth 100000 in
set_option maxHeartbeats 4000000 in
theorem numbersBelow_i (m : Nat) (hm : m ≤ 7) (w : World) :
    Calls Try.prog 65 #[.int .i64 (m : Int)] w fun e w' => ∃ v', e = .returned v' ∧ w'.ownsRow w.heap.size 3 1 v' m (flatR intF (upI m)) ∧ Below w.heap.size w w' := by
  obtain ⟨ii, ihi, ihz0, ihz1, ihz2⟩ := info_parts infoIntL
  go_enter Try.func65, Try.ntmps65
  go_wp2
  go_loopw [3, 6] (fun o i wr => ∃ k : Nat, k ≤ m ∧ i = .int .i64 (k : Int) ∧ Hid (wr.ownsRow w.heap.size 3 1 o k (flatR intF (upI k))) ∧ Hid (Below w.heap.size w wr)) (fun _ i _ => m - (intOf i).toNat)
  case atStart => exact ⟨0, Nat.zero_le _, rfl, World.ownsRow_nil _ _ _ _, Below.refl _ _⟩
  case round =>
    obtain ⟨k, hk, rfl, HO, HB⟩ := hrel
    by_cases hlt : (k : Int) < (m : Int)
    · have hbs := HB.out.size
      have HA : Hid (Below wr.heap.size wr (wr.alloc (.cells #[.int .i64 (k : Int)] 3))) := alloc_below _ _
      go_wp2_with (at_builtin; refine wpList_append_lies _ rfl (.tmp 9) (.tmp 11) 99 rfl w.heap.size 3 ii _ 1 8 Try.underlying99 ihi ihz0 ihz1 ihz2 rfl (by decide) u3 _ _ rfl (own_kept HO.out HA.out) ⟨wr.heap.size, 0, none⟩ 1 1 (intF (k : Int)) rfl rfl (World.news_of_block (heap_alloc_new wr _)) (intF_one_a _) (by decide) (by unfold maxLen; omega) (by omega) (by simp; omega) _ rfl ?_; intro g3 cap3 y3 ho hg hwh hl3; have HY3 : Hid (Below w.heap.size w y3) := (bt HB.out HA.out).grown hg (bt HB.out HA.out).size (fun j hj => ((own_kept HO.out HA.out).lt j hj).1); have HO3 : Hid (y3.ownsRow w.heap.size 3 1 (.slice (some ⟨g3, 0, none⟩) (k + 1) cap3) (k + 1) (flatR intF (upI (k + 1)))) := (by rw [upI_snoc, flatR_append]; simpa [flatR] using ho : y3.ownsRow _ _ _ _ _ _); clear ho hg hwh hl3)
      go_roundw
      case rel => exact ⟨k + 1, by omega, by go_num, HO3.out, HY3.out⟩
      case measure => simp [intOf]; omega
    · have hkm : k = m := by omega
      subst hkm
      go_wp2
      go_ret
      exact ⟨_, rfl, HO.out, HB.out⟩

set_option maxRecDepth 100000 in
set_option maxHeartbeats 8000000 in
theorem eachNew_i (m : Nat) (v : Value) (w : World) (hm : m ≤ 7) (hv : RowsR w v 1 intF (upI m)) :
    Calls Try.prog 64 #[v, .func (.func 66) #[] #[]] w fun e w' => ∃ v' qs, e = .returned v' ∧ pes qs = freshP m ∧ OwnPs w.heap.size w' v' qs ∧ Below w.heap.size w w' := by
  obtain ⟨pi, phi, phz0, phz1, phz2⟩ := info_parts infoPeer
  obtain ⟨a, cap, rfl, hr⟩ := hv
  have HR : Hid (0 < (upI m).length → _) := hr
  clear hr
  have HU : Hid ((upI m).length = m) := upI_len m
  rw [upI_len]
  go_enter Try.func64, Try.ntmps64
  go_wp2
  go_loopw [5, 10] (fun o i wr => ∃ (k : Nat) (qs : PL), k ≤ m ∧ i = .int .i64 (k : Int) ∧ Hid (pes qs = freshP k) ∧ Hid (OwnPs w.heap.size wr o qs) ∧ Hid (Below w.heap.size w wr)) (fun _ i _ => m - (intOf i).toNat)
  case atStart => exact ⟨0, [], Nat.zero_le _, rfl, rfl, ⟨World.ownsRow_nil _ _ _ _, OwnE.nil _ _⟩, Below.refl _ _⟩
  case round =>
    obtain ⟨k, qs, hk, rfl, HP, HO, HB⟩ := hrel
    have hql : qs.length = k := by have := congrArg List.length HP.out; rw [pes_len] at this; simpa [freshP] using this
    by_cases hlt : (k : Int) < (m : Int)
    · have hkn : k < (upI m).length := by have := HU.out; omega
      obtain ⟨g, off, rfl, hg, hc⟩ := HR.out (by have := HU.out; omega)
      have q0 : (0 : Int) ≤ (k : Int) := by omega
      have c0 : wr.cell? ⟨g, off + k, none⟩ = some (.int .i64 (k : Int)) := by rw [HB.out.cell (by exact hg)]; have := hc k hkn 0 (by omega); rw [upI_at hkn] at this; simpa [intF] using this
      clear hc hg hkn
      go_wp2_with fail
      refine (peerNewR_i (k : Int) wr).mono ?_
      rintro e y1 ⟨s1, rfl, ho, hb⟩
      obtain ⟨p, hp⟩ : ∃ p, p = newP (k : Int) := ⟨_, rfl⟩
      rw [← hp] at ho ⊢
      have HNP : Hid (p = newP (k : Int)) := hp
      clear hp
      obtain ⟨y2, hy2⟩ : ∃ y2, y2 = y1.alloc (.cells (peerA p s1) 41) := ⟨_, rfl⟩
      have hb2 : Below y1.heap.size y1 y2 := by rw [hy2]; exact alloc_below _ _
      have HK2 : Hid (y2.heap[y1.heap.size]? = some (.cells (peerA p s1) 41 (0, 0))) := (by rw [hy2]; exact heap_alloc_new y1 _ : y2.heap[y1.heap.size]? = _)
      have HD2 : Hid (OwnD wr.heap.size y2.heap.size y2 p s1) := (ho.below hb2).wide hb2.size (Nat.le_refl _)
      have HBB : Hid (Below wr.heap.size wr y2) := bt hb hb2
      have HSZ : Hid (y2.heap.size = y1.heap.size + 1 ∧ w.heap.size ≤ wr.heap.size ∧ wr.heap.size ≤ y1.heap.size) := ⟨by rw [hy2]; simp, HB.out.size, hb.size⟩
      have HO2 : Hid (y2.ownsRow w.heap.size 41 21 u5 qs.length (flatR peerF qs)) := own_kept HO.out.row HBB.out
      clear ho hb hb2 c0
      unfold peerA at hy2
      unfold peerV peerA
      go_wp2_with (first
        | (rw [← hy2]; clear hy2; at_builtin; refine wpList_append_lies _ rfl (.tmp 14) (.tmp 18) 97 rfl w.heap.size 41 pi _ 21 264 Try.underlying97 phi phz0 phz1 phz2 rfl (by decide) u5 qs.length (flatR peerF qs) rfl HO2.out ⟨y1.heap.size, 0, none⟩ 1 1 (peerF (p, s1)) rfl rfl (World.news_of_block HK2.out) (fun u hu => (Array.all_eq_true_iff_forall_mem.1 (peerA_one HD2.out.1)) u (by exact List.mem_toArray.2 hu)) (by decide) (by unfold maxLen; omega) (by omega) (by have := HSZ.out; omega) _ rfl ?_; intro g3 cap3 y3 ho hg hwh hl3; have HO3 : Hid (OwnPs w.heap.size y3 (.slice (some ⟨g3, 0, none⟩) (qs.length + 1) cap3) (qs ++ [(p, s1)])) := HO.out.append HBB.out HD2.out (by have := HSZ.out; omega) hg ho; have HB3 : Hid (Below w.heap.size w y3) := (bt HB.out HBB.out).grown hg (bt HB.out HBB.out).size (fun k hk => (HO2.out.lt k hk).1); clear ho hg hwh hl3))
      rw [hql] at HO3
      go_roundw
      case rel => exact ⟨k + 1, qs ++ [(p, s1)], by omega, by go_num, (by rw [pes_snoc, HP.out, HNP.out, freshP_snoc] : pes (qs ++ [(p, s1)]) = freshP (k + 1)), HO3.out, HB3.out⟩
      case measure => simp [intOf]; omega
    · have hkm : k = m := by omega
      subst hkm
      go_wp2
      go_ret
      exact ⟨_, rfl, qs, HP.out, HO.out, HB.out⟩

set_option maxRecDepth 100000 in
set_option maxHeartbeats 8000000 in
theorem clusterNew_i (n : Int) (b : Bool) (l : Int) (w : World) (hn : (Lit.int .i64 n).wf = true) (hl : (Lit.int .i64 l).wf = true) :
    Calls Try.prog 14 #[.int .i64 n, .bool b, .int .i64 l] w fun e w' => ∃ s', e = .returned (.tuple #[clusV (clusterNewF n b l).1 s', .bool (clusterNewF n b l).2]) ∧ OwnC w.heap.size w'.heap.size w' (clusterNewF n b l).1 s' ∧ Below w.heap.size w w' := by
  have hlb := bounds_i64 hl
  have hnb := bounds_i64 hn
  obtain ⟨W, hW⟩ : ∃ W, W = w.alloc (.cells zeroC 55) := ⟨_, rfl⟩
  have HW : Hid (Below w.heap.size w W ∧ W.heap[w.heap.size]? = some (.cells zeroC 55 (0, 0)) ∧ w.heap.size < W.heap.size) := (by rw [hW]; exact ⟨ba (Below.refl _ _) _, heap_alloc_new w _, by simp⟩ : _ ∧ _ ∧ _)
  have no : ∀ (w' : World), w'.heap[w.heap.size]? = some (.cells zeroC 55 (0, 0)) ∧ Below w.heap.size w w' → clusterNewF n b l = (zeroCU, false) → ∃ s', Ending.returned (.tuple #[.agg zeroC, .bool false]) = .returned (.tuple #[clusV (clusterNewF n b l).1 s', .bool (clusterNewF n b l).2]) ∧ OwnC w.heap.size w'.heap.size w' (clusterNewF n b l).1 s' ∧ Below w.heap.size w w' := fun w' h e => by
    rw [e]
    exact ⟨zeroCW, rfl, zero_own h.2.size, h.2⟩
  have HNO := hid no
  clear hn hl no
  by_cases h1 : 1 ≤ n ∧ n ≤ 7
  · obtain ⟨j, rfl⟩ : ∃ j : Nat, n = (j : Int) := ⟨n.toNat, by omega⟩
    have hj7 : j ≤ 7 := by omega
    have hi : inB (j : Int) 1 7 = true := inB_yes h1
    have ha := inB_among j l hj7 hlb.1 hlb.2
    have g1 : ¬ (j : Int) < 1 := by omega
    have g2 : ¬ (7 : Int) < (j : Int) := by omega
    obtain ⟨u, hu⟩ : ∃ u, u = IntKind.u64.wrap l := ⟨_, rfl⟩
    have HUE : Hid (u = l % 18446744073709551616) := (by rw [hu]; exact IntKind.wrap_u64 l : u = l % 18446744073709551616)
    have hu0 : 0 ≤ u ∧ u < 18446744073709551616 := by have := HUE.out; omega
    rw [← HUE.out] at ha
    unfold zeroC at hW
    go_enter Try.func14, Try.ntmps14
    go_wp2_with fail
    rw [← hW, ← hu]
    clear hW hu
    refine (among_i u j W hu0.1 hu0.2 hj7).mono ?_
    rintro e w1 ⟨rfl, hw⟩
    obtain rfl := hw.symm
    clear hw
    by_cases hlt : u < 2 ^ j
    · rw [decide_eq_true hlt] at ha ⊢
      have HUL : Hid (u = l ∧ 0 ≤ l) := (by
        have h2 : (2 : Int) ^ j ≤ 128 := (pow_peers hj7).2
        have := HUE.out
        omega : u = l ∧ 0 ≤ l)
      go_wp2_with fail
      refine (bcount_i u W hu0.1 hu0.2).mono ?_
      rintro e w1 ⟨rfl, hw⟩
      obtain rfl := hw.symm
      clear hw
      have hcu : cntTo u 7 = countT l := by rw [HUL.out.1]; exact (if_neg (by have := HUL.out; omega)).symm
      rw [hcu]
      go_wp2_with fail
      refine (faults_i0 (j : Int) W hnb.1 hnb.2).mono ?_
      rintro e w1 ⟨rfl, hw⟩
      obtain rfl := hw.symm
      clear hw hcu
      by_cases hf : faultsT (j : Int) < countT l
      · have HE : Hid (clusterNewF (j : Int) b l = (zeroCU, false)) := (by unfold clusterNewF okNew; rw [hi, Int.toNat_natCast, ha, decide_eq_true hf]; rfl : clusterNewF (j : Int) b l = _)
        clear ha hi hlt
        go_wp2_with (refine wpList_store_blk rfl _ _ _ rfl w.heap.size zeroC rfl rfl 55 zeroC HW.out.2.1 (by kernel_rfl) rfl (eight_one rfl rfl rfl rfl rfl rfl rfl rfl) ?_; intro z hg hk hz; have HZ : Hid (z.heap[w.heap.size]? = some (.cells zeroC 55 (0, 0)) ∧ Below w.heap.size w z) := ⟨hk, HW.out.1.grown hg HW.out.1.size (fun k hk => by cases hk; exact Nat.le_refl _)⟩; clear hg hk hz)
        refine bodyPost_ret (v := .tuple #[.agg zeroC, .bool false]) (results_ct Try.results14 _ _ w.heap.size 55 _ (0, 0) _ _ rfl HZ.out.1 Try.underlying55 rfl (by kernel_rfl) rfl) rfl ?_
        exact HNO.out z HZ.out HE.out
      · have HE : Hid (clusterNewF (j : Int) b l = (newC (j : Int) b l, true)) := (by unfold clusterNewF okNew; rw [hi, Int.toNat_natCast, ha, decide_eq_false hf]; rfl : clusterNewF (j : Int) b l = _)
        clear ha hi hlt
        go_wp2_with fail
        refine (treeNew_i W).mono ?_
        rintro e x1 ⟨v3, q3, rfl, hq, ho, hb⟩
        obtain ⟨a3, c3, e3, -⟩ := own_form ho.row
        subst e3
        have HT1 : Hid (OwnT x1 W.heap.size (.slice a3 q3.length c3) q3) := ho
        have HQ3 : Hid (bks q3 = [firstB]) := hq
        have HX1 : Hid (Below w.heap.size w x1 ∧ x1.heap[w.heap.size]? = some (.cells zeroC 55 (0, 0)) ∧ W.heap.size ≤ x1.heap.size) := ⟨bt HW.out.1 hb, (hb.block _ HW.out.2.2).trans HW.out.2.1, hb.size⟩
        clear ho hb hq
        go_wp2_with fail
        refine (numbersBelow_i j hj7 x1).mono ?_
        rintro e x2 ⟨vn, rfl, ho, hb⟩
        have HN : Hid (RowsR x2 vn 1 intF (upI j)) := rows_of_own intF_len (by rw [upI_len]; exact ho)
        have HB2 : Hid (Below x1.heap.size x1 x2) := hb
        obtain ⟨an, cn, en, -⟩ := own_form ho
        subst en
        clear ho hb
        go_wp2_with fail
        refine (eachNew_i j _ x2 hj7 HN.out).mono ?_
        rintro e x3 ⟨v4, q4, rfl, hq, ho, hb⟩
        obtain ⟨a4, c4, e4, -⟩ := own_form ho.row
        subst e4
        have hb3 := bt HB2.out hb
        have HX3 : Hid (Below w.heap.size w x3 ∧ x3.heap[w.heap.size]? = some (.cells zeroC 55 (0, 0)) ∧ OwnT x3 W.heap.size (.slice a3 q3.length c3) q3 ∧ OwnPs x1.heap.size x3 (.slice a4 q4.length c4) q4 ∧ pes q4 = freshP j ∧ x1.heap.size ≤ x3.heap.size) := ⟨bt HX1.out.1 hb3, (hb3.block _ (Array.getElem?_eq_some_iff.1 HX1.out.2.1).1).trans HX1.out.2.1, HT1.out.below hb3, ho.low HB2.out.size, hq, hb3.size⟩
        have HL3 : Hid (∀ g, inTree (.slice a3 q3.length c3) q3 g → g < x1.heap.size) := fun g hg => (inTree_ge HT1.out hg).2
        clear ho hb hq hb3
        go_wp2_with (refine wpList_store_blk rfl _ _ _ rfl w.heap.size #[.int .i64 (j : Int), .bool b, .int .i64 l, (.slice a3 q3.length c3), (.slice a4 q4.length c4), .slice none 0 0, .slice none 0 0, .slice none 0 0] rfl rfl 55 zeroC HX3.out.2.1 (by kernel_rfl) rfl (eight_one rfl rfl rfl (own_oneC HX3.out.2.2.1.row) (own_oneC HX3.out.2.2.2.1.row) rfl rfl rfl) ?_; intro z hg hk hz; have HBz : Hid (Below w.heap.size w z ∧ z.heap[w.heap.size]? = some (.cells #[.int .i64 (j : Int), .bool b, .int .i64 l, (.slice a3 q3.length c3), (.slice a4 q4.length c4), .slice none 0 0, .slice none 0 0, .slice none 0 0] 55 (0, 0)) ∧ OwnT z W.heap.size (.slice a3 q3.length c3) q3 ∧ OwnPs x1.heap.size z (.slice a4 q4.length c4) q4 ∧ x3.heap.size ≤ z.heap.size) := ⟨HX3.out.1.grown hg HX3.out.1.size (fun k hk => by cases hk; exact Nat.le_refl _), hk, HX3.out.2.2.1.not hg HW.out.2.2, HX3.out.2.2.2.1.not hg (by have := HW.out.2.2; have := HX1.out.2.2; omega), hg.size⟩; clear hg hk hz)
        refine bodyPost_ret (v := .tuple #[.agg #[.int .i64 (j : Int), .bool b, .int .i64 l, (.slice a3 q3.length c3), (.slice a4 q4.length c4), .slice none 0 0, .slice none 0 0, .slice none 0 0], .bool true]) (results_ct Try.results14 _ _ w.heap.size 55 _ (0, 0) _ _ rfl HBz.out.2.1 Try.underlying55 rfl (by kernel_rfl) rfl) rfl ?_
        rw [HE.out]
        refine ⟨⟨(.slice a3 q3.length c3), q3, (.slice a4 q4.length c4), q4, .slice none 0 0, .slice none 0 0, .slice none 0 0⟩, rfl, ?_, HBz.out.1⟩
        have d1 := HX1.out.2.2
        have d2 := HX3.out.2.2.2.2.2
        have d3 := HBz.out.2.2.2.2
        have d4 := HW.out.2.2
        have h := ownC_of (b0 := W.heap.size) (b1 := x1.heap.size) (b2 := z.heap.size) (b3 := z.heap.size) (b4 := z.heap.size) (b5 := z.heap.size) (w := z) (c := newC (j : Int) b l) (s := ⟨(.slice a3 q3.length c3), q3, (.slice a4 q4.length c4), q4, .slice none 0 0, .slice none 0 0, .slice none 0 0⟩) HQ3.out HBz.out.2.2.1 HL3.out (by rw [HX3.out.2.2.2.2.1]; unfold newC; simp) HBz.out.2.2.2.1 (fun g hg => (inPeers_ge HBz.out.2.2.2.1 hg).2) (own_nil _ _ _ _) (fun g hg => (by cases hg)) (own_nil _ _ _ _) (fun g hg => (by cases hg)) (own_nil _ _ _ _) (fun g hg => (by cases hg)) (by omega) (by omega) (Nat.le_refl _) (Nat.le_refl _) (Nat.le_refl _) (Nat.le_refl _)
        exact h.low (by omega)
    · rw [decide_eq_false hlt] at ha ⊢
      have HE : Hid (clusterNewF (j : Int) b l = (zeroCU, false)) := (by unfold clusterNewF okNew; rw [hi, Int.toNat_natCast, ha]; rfl : clusterNewF (j : Int) b l = _)
      clear ha hi hlt
      go_wp2_with (refine wpList_store_blk rfl _ _ _ rfl w.heap.size zeroC rfl rfl 55 zeroC HW.out.2.1 (by kernel_rfl) rfl (eight_one rfl rfl rfl rfl rfl rfl rfl rfl) ?_; intro z hg hk hz; have HZ : Hid (z.heap[w.heap.size]? = some (.cells zeroC 55 (0, 0)) ∧ Below w.heap.size w z) := ⟨hk, HW.out.1.grown hg HW.out.1.size (fun k hk => by cases hk; exact Nat.le_refl _)⟩; clear hg hk hz)
      refine bodyPost_ret (v := .tuple #[.agg zeroC, .bool false]) (results_ct Try.results14 _ _ w.heap.size 55 _ (0, 0) _ _ rfl HZ.out.1 Try.underlying55 rfl (by kernel_rfl) rfl) rfl ?_
      exact HNO.out z HZ.out HE.out
  · have HE : Hid (clusterNewF n b l = (zeroCU, false)) := (by unfold clusterNewF okNew; rw [inB_no h1]; rfl : clusterNewF n b l = _)
    unfold zeroC at hW
    by_cases g1 : n < 1
    · go_enter Try.func14, Try.ntmps14
      go_wp2_with (first
        | (rw [← hW]; clear hW; refine wpList_store_blk rfl _ _ _ rfl w.heap.size zeroC rfl rfl 55 zeroC HW.out.2.1 (by kernel_rfl) rfl (eight_one rfl rfl rfl rfl rfl rfl rfl rfl) ?_; intro z hg hk hz; have HZ : Hid (z.heap[w.heap.size]? = some (.cells zeroC 55 (0, 0)) ∧ Below w.heap.size w z) := ⟨hk, HW.out.1.grown hg HW.out.1.size (fun k hk => by cases hk; exact Nat.le_refl _)⟩; clear hg hk hz))
      refine bodyPost_ret (v := .tuple #[.agg zeroC, .bool false]) (results_ct Try.results14 _ _ w.heap.size 55 _ (0, 0) _ _ rfl HZ.out.1 Try.underlying55 rfl (by kernel_rfl) rfl) rfl ?_
      exact HNO.out z HZ.out HE.out
    · have g2 : 7 < n := by omega
      go_enter Try.func14, Try.ntmps14
      go_wp2_with (first
        | (rw [← hW]; clear hW; refine wpList_store_blk rfl _ _ _ rfl w.heap.size zeroC rfl rfl 55 zeroC HW.out.2.1 (by kernel_rfl) rfl (eight_one rfl rfl rfl rfl rfl rfl rfl rfl) ?_; intro z hg hk hz; have HZ : Hid (z.heap[w.heap.size]? = some (.cells zeroC 55 (0, 0)) ∧ Below w.heap.size w z) := ⟨hk, HW.out.1.grown hg HW.out.1.size (fun k hk => by cases hk; exact Nat.le_refl _)⟩; clear hg hk hz))
      refine bodyPost_ret (v := .tuple #[.agg zeroC, .bool false]) (results_ct Try.results14 _ _ w.heap.size 55 _ (0, 0) _ _ rfl HZ.out.1 Try.underlying55 rfl (by kernel_rfl) rfl) rfl ?_
      exact HNO.out z HZ.out HE.out
theorem clusterNew_coni : Con3 14 clusterNewF := fun n b l w hn hl => clusterNew_i n b l w hn hl

end Go.Proofs.Ytjieklilojmifat
