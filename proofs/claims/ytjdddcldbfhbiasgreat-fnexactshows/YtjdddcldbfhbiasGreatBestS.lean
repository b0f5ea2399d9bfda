/-
  The highest that a replica knows: the contract of the specification's BestQc. (Made by gbs13.py.)
-/
import Derived.Test.YtjdddcldbfhbiasGreatJ2
import Derived.Test.YtjdddcldbfhbiasGreatQcS
import Derived.Test.YtjdddcldbfhbiasGreatPartP
namespace Go.Proofs.YtjdddcldbfhbiasGreat
open Go.RowKit Num

/-- .. of High, and of the letters that it heard -/
def bestTo (q : QC) (l : List LT) : QC := l.foldl (fun q x => higherT q x.2.1) q
def bestT (p : PE) : QC := bestTo p.high p.news
theorem best_snoc (q : QC) (l : List LT) (k : Nat) (h : k < l.length) : bestTo q (l.take (k + 1)) = higherT (bestTo q (l.take k)) l[k].2.1 := by
  unfold bestTo
  rw [List.take_succ_eq_append_getElem h, List.foldl_append]
  rfl
/-- the boxes of the replica, of the answer, and of what is the highest so far -/
structure BqS (w y : World) (N : Nat) (A O : Array Value) : Prop where
  below : Below w.heap.size w y
  box : y.heap[w.heap.size]? = some (.cells A 45 (0, 0))
  zero : y.heap[w.heap.size + 1]? = some (.cells #[.int .i64 0, .int .i64 0, .int .i64 0, .int .i64 0] 38 (0, 0))
  out : y.heap[N]? = some (.cells O 38 (0, 0))
  far : w.heap.size + 1 < N
theorem BqS.lt {w y : World} {N : Nat} {A O : Array Value} (h : BqS w y N A O) : N < y.heap.size := (Array.getElem?_eq_some_iff.1 h.out).1
theorem BqS.more {w y x : World} {N : Nat} {A O : Array Value} (h : BqS w y N A O) (hb : Below y.heap.size y x) : BqS w x N A O := by
  have := h.lt
  have := h.far
  exact ⟨bt h.below hb, (hb.block _ (by omega)).trans h.box, (hb.block _ (by omega)).trans h.zero, (hb.block _ (by omega)).trans h.out, h.far⟩
theorem BqS.put {w y x : World} {N : Nat} {A O O' : Array Value} (h : BqS w y N A O) (hg : y.grownBy x (some N)) (hk : x.heap[N]? = some (.cells O' 38 (0, 0))) : BqS w x N A O' := by
  have := h.lt
  have := h.far
  exact ⟨h.below.grown hg h.below.size (fun k hk => by cases hk; omega), (hg.block _ (by omega) (fun e => by have := Option.some.inj e; omega)).trans h.box, (hg.block _ (by omega) (fun e => by have := Option.some.inj e; omega)).trans h.zero, hk, h.far⟩

set_option maxRecDepth 100000 in
set_option maxHeartbeats 8000000 in
theorem bestQc_s (p : PE) (s : PV) (w : World) (hR : PeerR w p s) (hn : (p.news.length : Int) ≤ 1048576) :
    Calls Tryz.prog 73 #[peerV p s] w fun e w' => e = .returned (.agg #[.int .i64 (bestT p).1, .int .i64 (bestT p).2.1, .int .i64 (bestT p).2.2.1, .int .i64 (bestT p).2.2.2]) ∧ Below w.heap.size w w' := by
  obtain ⟨a, cap, er, hr⟩ := hR.news
  have HN : Hid (0 < p.news.length → _) := hr
  clear hr hR
  obtain ⟨W, hW⟩ : ∃ W, W = (w.alloc (.cells (peerA p s) 45)).alloc (.cells #[.int .i64 0, .int .i64 0, .int .i64 0, .int .i64 0] 38) := ⟨_, rfl⟩
  have HC : Hid (Below w.heap.size w W ∧ W.heap[w.heap.size]? = some (.cells (peerA p s) 45 (0, 0)) ∧ W.heap[w.heap.size + 1]? = some (.cells #[.int .i64 0, .int .i64 0, .int .i64 0, .int .i64 0] 38 (0, 0))) := by
    rw [hW]; exact ⟨ba (ba (Below.refl _ _) _) _, alloc2 w _ _⟩
  have HWS : Hid (W.heap.size = w.heap.size + 1 + 1) := (by rw [hW]; simp : W.heap.size = w.heap.size + 1 + 1)
  have c2 := blk_cell HC.out.2.1 2 (.int .i64 p.high.1) rfl
  have c3 := blk_cell HC.out.2.1 3 (.int .i64 p.high.2.1) rfl
  have c4 := blk_cell HC.out.2.1 4 (.int .i64 p.high.2.2.1) rfl
  have c5 := blk_cell HC.out.2.1 5 (.int .i64 p.high.2.2.2) rfl
  go_enter Tryz.func73, Tryz.ntmps73
  obtain ⟨N, hN⟩ : ∃ N, N = W.heap.size := ⟨_, rfl⟩
  go_wp2_with (first | (refine wpList_store_blk rfl _ _ _ rfl W.heap.size #[.int .i64 p.high.1, .int .i64 p.high.2.1, .int .i64 p.high.2.2.1, .int .i64 p.high.2.2.2] rfl rfl 38 #[.int .i64 0, .int .i64 0, .int .i64 0, .int .i64 0] (heap_alloc_new W _) (by kernel_rfl) rfl (by simp [Value.oneCell']) ?_; intro y1 hg hk hz; have hb : Below W.heap.size W y1 := made_below hg; have HY1 : Hid (BqS w y1 N (peerA p s) #[.int .i64 (bestTo p.high (p.news.take 0)).1, .int .i64 (bestTo p.high (p.news.take 0)).2.1, .int .i64 (bestTo p.high (p.news.take 0)).2.2.1, .int .i64 (bestTo p.high (p.news.take 0)).2.2.2]) := ⟨bt HC.out.1 hb, (hb.block _ (Array.getElem?_eq_some_iff.1 HC.out.2.1).1).trans HC.out.2.1, (hb.block _ (Array.getElem?_eq_some_iff.1 HC.out.2.2).1).trans HC.out.2.2, (by rw [hN]; exact hk), (by have := HWS.out; omega)⟩; clear hg hk hz hb c2 c3 c4 c5) | (rw [← hW]; clear hW))
  rw [← hN]
  clear hN HC HWS
  go_loopw [4] (fun i wr => ∃ k : Nat, k ≤ p.news.length ∧ i = .int .i64 (k : Int) ∧ Hid (BqS w wr N (peerA p s) #[.int .i64 (bestTo p.high (p.news.take k)).1, .int .i64 (bestTo p.high (p.news.take k)).2.1, .int .i64 (bestTo p.high (p.news.take k)).2.2.1, .int .i64 (bestTo p.high (p.news.take k)).2.2.2])) (fun i _ => p.news.length - (intOf i).toNat)
  case atStart => exact ⟨0, Nat.zero_le _, rfl, HY1.out⟩
  case round =>
    obtain ⟨m, hm, rfl, HY⟩ := hrel
    have c19 := blk_cell HY.out.box 19 s.news rfl
    rw [er] at c19
    by_cases hlt : (m : Int) < p.news.length
    · have hmn : m < p.news.length := by omega
      obtain ⟨g, off, rfl, hg, hc⟩ := HN.out (by omega)
      have q0 : (0 : Int) ≤ (m : Int) := by omega
      obtain ⟨jq, hjq⟩ : ∃ jq : QC, jq = p.news[m].2.1 := ⟨_, rfl⟩
      have HJ : Hid (∀ x : World, Below w.heap.size w x → x.cell? ⟨g, off + m * 13 + 5, none⟩ = some (.int .i64 jq.1) ∧ x.cell? ⟨g, off + m * 13 + 6, none⟩ = some (.int .i64 jq.2.1) ∧ x.cell? ⟨g, off + m * 13 + 7, none⟩ = some (.int .i64 jq.2.2.1) ∧ x.cell? ⟨g, off + m * 13 + 8, none⟩ = some (.int .i64 jq.2.2.2)) := fun x hb => by
        refine ⟨?_, ?_, ?_, ?_⟩ <;> rw [hb.cell (by exact hg), hjq]
        · exact hc m hmn 5 (by omega)
        · exact hc m hmn 6 (by omega)
        · exact hc m hmn 7 (by omega)
        · exact hc m hmn 8 (by omega)
      have HST : Hid (bestTo p.high (p.news.take (m + 1)) = higherT (bestTo p.high (p.news.take m)) jq) := (by rw [best_snoc _ _ _ hmn, hjq] : bestTo p.high (p.news.take (m + 1)) = _)
      obtain ⟨qm, hqm⟩ : ∃ qm, qm = bestTo p.high (p.news.take m) := ⟨_, rfl⟩
      rw [← hqm] at HY HST
      clear hc hg hjq hqm
      go_wp2
      clear c19
      refine wp_region_P (fun i => decide (i < 8)) (fun x => x.heap[N]? = some (.cells #[.int .i64 qm.1, .int .i64 qm.2.1, .int .i64 qm.2.2.1, .int .i64 qm.2.2.2] 38 (0, 0)) ∧ x.heap[w.heap.size]? = some (.cells (peerA p s) 45 (0, 0)) ∧ x.cell? ⟨g, off + m * 13 + 5, none⟩ = some (.int .i64 jq.1) ∧ x.cell? ⟨g, off + m * 13 + 6, none⟩ = some (.int .i64 jq.2.1) ∧ x.cell? ⟨g, off + m * 13 + 7, none⟩ = some (.int .i64 jq.2.2.1) ∧ x.cell? ⟨g, off + m * 13 + 8, none⟩ = some (.int .i64 jq.2.2.2)) (by kernel_rfl) ?_
      show wpAnyP Tryz.prog _ _ _ _ _ (8 + 1) (Array.replicate 9 false) _ _
      have hS : wr.drew.heap[N]? = some (.cells #[.int .i64 qm.1, .int .i64 qm.2.1, .int .i64 qm.2.2.1, .int .i64 qm.2.2.2] 38 (0, 0)) ∧ wr.drew.heap[w.heap.size]? = some (.cells (peerA p s) 45 (0, 0)) ∧ wr.drew.cell? ⟨g, off + m * 13 + 5, none⟩ = some (.int .i64 jq.1) ∧ wr.drew.cell? ⟨g, off + m * 13 + 6, none⟩ = some (.int .i64 jq.2.1) ∧ wr.drew.cell? ⟨g, off + m * 13 + 7, none⟩ = some (.int .i64 jq.2.2.1) ∧ wr.drew.cell? ⟨g, off + m * 13 + 8, none⟩ = some (.int .i64 jq.2.2.2) := ⟨HY.out.out, HY.out.box, HJ.out wr.drew (HY.out.below.trans (Below.refl _ _).drew)⟩
      refine p_take (j := 0) (e' := some 14) (v := .agg #[.int .i64 qm.1, .int .i64 qm.2.1, .int .i64 qm.2.2.1, .int .i64 qm.2.2.2]) rfl rfl (by kernel_rfl) (by kernel_rfl) (by kernel_rfl) (by kernel_rfl) (by kernel_rfl) (fun _ _ _ h => h) (Or.inl ⟨by rfl, ?_⟩) hS ?_
      · intro x hx
        have d0 := blk_cell hx.1 0 (.int .i64 qm.1) rfl
        have d1 := blk_cell hx.1 1 (.int .i64 qm.2.1) rfl
        have d2 := blk_cell hx.1 2 (.int .i64 qm.2.2.1) rfl
        have d3 := blk_cell hx.1 3 (.int .i64 qm.2.2.2) rfl
        go_simp
        try with_reducible rfl
      simp only [Act.put, List.setIfInBounds_toArray, List.set_cons_zero, List.set_cons_succ]
      refine p_take (j := 1) (e' := some 15) (v := .pointer (some ⟨w.heap.size, 19, none⟩)) rfl rfl (by kernel_rfl) (by kernel_rfl) (by kernel_rfl) (by kernel_rfl) (by kernel_rfl) (fun _ _ _ h => h) (Or.inl ⟨by rfl, ?_⟩) hS ?_
      · intro x hx
        go_simp
        try with_reducible rfl
      simp only [Act.put, List.setIfInBounds_toArray, List.set_cons_zero, List.set_cons_succ]
      refine p_take (j := 2) (e' := some 16) (v := .slice (some ⟨g, off, none⟩) p.news.length cap) rfl rfl (by kernel_rfl) (by kernel_rfl) (by kernel_rfl) (by kernel_rfl) (by kernel_rfl) (fun _ _ _ h => h) (Or.inl ⟨by rfl, ?_⟩) hS ?_
      · intro x hx
        have d := blk_cell hx.2.1 19 s.news rfl
        rw [er] at d
        go_simp
        try with_reducible rfl
      simp only [Act.put, List.setIfInBounds_toArray, List.set_cons_zero, List.set_cons_succ]
      refine p_take (j := 3) (e' := some 17) (v := .int .i64 (m : Int)) rfl rfl (by kernel_rfl) (by kernel_rfl) (by kernel_rfl) (by kernel_rfl) (by kernel_rfl) (fun _ _ _ h => h) (Or.inl ⟨by rfl, ?_⟩) hS ?_
      · intro x hx
        go_simp
        try with_reducible rfl
      simp only [Act.put, List.setIfInBounds_toArray, List.set_cons_zero, List.set_cons_succ]
      refine p_take (j := 4) (e' := some 18) (v := .pointer (some ⟨g, off + m * 13, none⟩)) rfl rfl (by kernel_rfl) (by kernel_rfl) (by kernel_rfl) (by kernel_rfl) (by kernel_rfl) (fun _ _ _ h => h) (Or.inl ⟨by rfl, ?_⟩) hS ?_
      · intro x hx
        go_simp
        try with_reducible rfl
      simp only [Act.put, List.setIfInBounds_toArray, List.set_cons_zero, List.set_cons_succ]
      refine p_take (j := 5) (e' := some 19) (v := .pointer (some ⟨g, off + m * 13 + 5, none⟩)) rfl rfl (by kernel_rfl) (by kernel_rfl) (by kernel_rfl) (by kernel_rfl) (by kernel_rfl) (fun _ _ _ h => h) (Or.inl ⟨by rfl, ?_⟩) hS ?_
      · intro x hx
        go_simp
        try with_reducible rfl
      simp only [Act.put, List.setIfInBounds_toArray, List.set_cons_zero, List.set_cons_succ]
      refine p_take (j := 6) (e' := some 20) (v := .agg #[.int .i64 jq.1, .int .i64 jq.2.1, .int .i64 jq.2.2.1, .int .i64 jq.2.2.2]) rfl rfl (by kernel_rfl) (by kernel_rfl) (by kernel_rfl) (by kernel_rfl) (by kernel_rfl) (fun _ _ _ h => h) (Or.inl ⟨by rfl, ?_⟩) hS ?_
      · intro x hx
        have d0 := hx.2.2.1
        have d1 := hx.2.2.2.1
        have d2 := hx.2.2.2.2.1
        have d3 := hx.2.2.2.2.2
        go_simp
        try with_reducible rfl
      simp only [Act.put, List.setIfInBounds_toArray, List.set_cons_zero, List.set_cons_succ]
      refine p_call (s := 7) (e' := some 21) (fn := 36) (args := #[.agg #[.int .i64 qm.1, .int .i64 qm.2.1, .int .i64 qm.2.2.1, .int .i64 qm.2.2.2], .agg #[.int .i64 jq.1, .int .i64 jq.2.1, .int .i64 jq.2.2.1, .int .i64 jq.2.2.2]]) rfl rfl (by kernel_rfl) (by rfl) ?_ ((higher_s qm jq wr.drew).mono ?_)
      · go_simp
        try with_reducible rfl
      rintro e x3 ⟨rfl, hb0⟩
      have hb : Below wr.heap.size wr x3 := ((Below.refl _ _).drew).trans hb0
      have HX : Hid (BqS w x3 N (peerA p s) #[.int .i64 qm.1, .int .i64 qm.2.1, .int .i64 qm.2.2.1, .int .i64 qm.2.2.2]) := HY.out.more hb
      have hS1 : x3.heap[N]? = some (.cells #[.int .i64 qm.1, .int .i64 qm.2.1, .int .i64 qm.2.2.1, .int .i64 qm.2.2.2] 38 (0, 0)) ∧ x3.heap[w.heap.size]? = some (.cells (peerA p s) 45 (0, 0)) ∧ x3.cell? ⟨g, off + m * 13 + 5, none⟩ = some (.int .i64 jq.1) ∧ x3.cell? ⟨g, off + m * 13 + 6, none⟩ = some (.int .i64 jq.2.1) ∧ x3.cell? ⟨g, off + m * 13 + 7, none⟩ = some (.int .i64 jq.2.2.1) ∧ x3.cell? ⟨g, off + m * 13 + 8, none⟩ = some (.int .i64 jq.2.2.2) := ⟨HX.out.out, HX.out.box, HJ.out x3 HX.out.below⟩
      clear hb hb0 hS HY
      refine ⟨_, rfl, fun _ => hS1, ?_⟩
      simp only [Act.put, List.setIfInBounds_toArray, List.set_cons_zero, List.set_cons_succ]
      refine p_part (s := 8) (N := N) (o := 0) (cells := #[.int .i64 (higherT qm jq).1, .int .i64 (higherT qm jq).2.1, .int .i64 (higherT qm jq).2.2.1, .int .i64 (higherT qm jq).2.2.2]) (old := #[.int .i64 qm.1, .int .i64 qm.2.1, .int .i64 qm.2.2.1, .int .i64 qm.2.2.2]) (new := #[.int .i64 (higherT qm jq).1, .int .i64 (higherT qm jq).2.1, .int .i64 (higherT qm jq).2.2.1, .int .i64 (higherT qm jq).2.2.2]) rfl rfl rfl rfl (by kernel_rfl) rfl rfl hS1.1 (by kernel_rfl) (by simp) (by simp [Value.oneCell']) rfl ?_
      intro y3 hg hk
      have HY3 : Hid (BqS w y3 N (peerA p s) #[.int .i64 (higherT qm jq).1, .int .i64 (higherT qm jq).2.1, .int .i64 (higherT qm jq).2.2.1, .int .i64 (higherT qm jq).2.2.2]) := HX.out.put hg hk
      rw [← HST.out] at HY3
      clear hg hk hS1 HX
      refine ⟨fun h => absurd h (by decide), ?_⟩
      refine wpAnyP_done (by kernel_rfl) ?_ _
      go_wp2
      go_roundw
      case rel => exact ⟨m + 1, by omega, by go_num, HY3.out⟩
      case measure => simp [intOf]; omega
    · have hml : m = p.news.length := by omega
      subst hml
      rw [List.take_length] at HY
      obtain ⟨QQ, hQQ⟩ : ∃ QQ, QQ = bestT p := ⟨_, rfl⟩
      have HY : Hid (BqS w wr N (peerA p s) #[.int .i64 QQ.1, .int .i64 QQ.2.1, .int .i64 QQ.2.2.1, .int .i64 QQ.2.2.2]) := (by rw [hQQ]; exact HY.out : BqS w wr N (peerA p s) #[.int .i64 QQ.1, .int .i64 QQ.2.1, .int .i64 QQ.2.2.1, .int .i64 QQ.2.2.2])
      have HE : Hid (bestT p = QQ) := hQQ.symm
      clear hQQ
      go_wp2_with (first
        | (refine wpList_load_row rfl _ _ rfl N rfl 38 _ (0, 0) _ HY.out.out Tryz.underlying38 rfl (by kernel_rfl) ?_)
        | (refine wpList_store_blk rfl _ _ _ rfl (w.heap.size + 1) #[.int .i64 QQ.1, .int .i64 QQ.2.1, .int .i64 QQ.2.2.1, .int .i64 QQ.2.2.2] rfl rfl 38 #[.int .i64 0, .int .i64 0, .int .i64 0, .int .i64 0] HY.out.zero (by kernel_rfl) rfl (by simp [Value.oneCell']) ?_; intro z hg hk hz; have HZ : Hid (Below w.heap.size w z ∧ z.heap[w.heap.size + 1]? = Option.some (.cells #[.int .i64 QQ.1, .int .i64 QQ.2.1, .int .i64 QQ.2.2.1, .int .i64 QQ.2.2.2] 38 (0, 0))) := ⟨HY.out.below.grown hg HY.out.below.size (fun k hk => by cases hk; omega), hk⟩; clear hg hk hz))
      refine bodyPost_ret (v := .agg #[.int .i64 QQ.1, .int .i64 QQ.2.1, .int .i64 QQ.2.2.1, .int .i64 QQ.2.2.2]) (results_cell_row Tryz.results73 _ _ (w.heap.size + 1) 38 _ (0, 0) _ rfl HZ.out.2 Tryz.underlying38 rfl (by kernel_rfl)) rfl ?_
      rw [HE.out]
      exact ⟨rfl, HZ.out.1⟩

end Go.Proofs.YtjdddcldbfhbiasGreat
