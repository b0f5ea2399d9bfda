/-
  A letter taken out, through a pointer to a cluster: the contracts of the specification's l15Out and LoseAt. (Made by gou15.py.)
-/
import Derived.Test.YtjieklilojmifauGreatRClusP
import Derived.Test.YtjieklilojmifauGreatRAnsS
namespace Go.Proofs.YtjieklilojmifauGreatR
open Go.RowKit Num

def outC (c : CU) (k : Int) : CU := if 0 ≤ k ∧ k < c.net.length then { c with net := c.net.take k.toNat ++ c.net.drop (k.toNat + 1) } else c
def outB (c : CU) (k : Int) : Bool := decide (0 ≤ k ∧ k < c.net.length)
def outL (c : CU) (k : Int) : LT := match c.net[k.toNat]? with
  | some l => if 0 ≤ k then l else ((0, 0, 0, 0, 0), (0, 0, 0, 0), (0, 0, 0, 0))
  | none => ((0, 0, 0, 0, 0), (0, 0, 0, 0), (0, 0, 0, 0))
/-- a part of a row, as cells -/
theorem rows_news {w : World} {base g n cap : Nat} {xs : List LT} (h : w.ownsRow base 65 13 (.slice (some ⟨g, 0, none⟩) n cap) n (flatR letF xs)) (hn : n = xs.length) (i m : Nat) (him : i + m ≤ xs.length) :
    ∀ j u, (flatR letF ((xs.drop i).take m))[j]? = some u → w.cell? ((⟨g, i * 13, none⟩ : Addr).add j) = some u := fun j u hu => by
  have hj := (List.getElem?_eq_some_iff.1 hu).1
  have hl := flatR_len letF_len ((xs.drop i).take m)
  have hlm : ((xs.drop i).take m).length = m := by rw [List.length_take, List.length_drop]; omega
  rw [hl, hlm] at hj
  have e1 : flatR letF xs = flatR letF (xs.take i) ++ (flatR letF ((xs.drop i).take m) ++ flatR letF ((xs.drop i).drop m)) := by
    rw [← flatR_append, List.take_append_drop, ← flatR_append, List.take_append_drop]
  have hli : (flatR letF (xs.take i)).length = i * 13 := by rw [flatR_len letF_len, List.length_take, Nat.min_eq_left (by omega)]
  rw [Addr.add_mid, h.cellAt (i * 13 + j) (by rw [hn]; omega), e1, List.getElem?_append_right (by omega), hli, Nat.add_sub_cancel_left, List.getElem?_append_left (by rw [hl, hlm]; exact hj)]
  exact hu
theorem letF_all (l : List LT) : ∀ u ∈ flatR letF l, u.oneCell' = true := fun u hu => by
  unfold flatR at hu
  obtain ⟨x, _, hx⟩ := List.mem_flatMap.1 hu
  exact letF_one x u hx

set_option maxRecDepth 100000 in
set_option maxHeartbeats 8000000 in
theorem out_p (c : CU) (s : CW) (N lo hi : Nat) (k : Int) (w : World) (hbox : w.heap[N]? = some (.cells (clusA c s) 37 (0, 0))) (hown : OwnC lo hi w c s) (hlo : lo ≤ hi) (hk : (c.net.length : Int) ≤ 1048576) (hwk : (Lit.int .i64 k).wf = true) :
    Calls Tryz.prog 48 #[.pointer (some ⟨N, 0, none⟩), .int .i64 k] w fun e w' => e = .returned (.tuple #[.agg (letA (outL c k)), .bool (outB c k)]) ∧ ∃ s', InB N lo w w' (outC c k) s' := by
  have HB : Hid (w.heap[N]? = some (.cells #[.int .i64 c.n, .bool c.chain, .int .i64 c.liars, s.treeV, s.peersV, s.net, s.said, s.pend] 37 (0, 0))) := hbox
  have HO := hid hown
  have HLO : Hid (lo ≤ hi ∧ hi ≤ w.heap.size ∧ N < w.heap.size) := ⟨hlo, hown.size, (Array.getElem?_eq_some_iff.1 hbox).1⟩
  obtain ⟨li, lhi, lhz0, lhz1, lhz2⟩ := info_parts infoLetter
  obtain ⟨an, cn, en, hga⟩ := own_form hown.net
  have HEN : Hid (s.net = .slice an c.net.length cn) := en
  have HGA : Hid (0 < c.net.length → ∃ g, an = some ⟨g, 0, none⟩) := hga
  have hcap : c.net.length ≤ cn := capOk_own hown.net _ _ _ en
  clear hbox hown hlo en hga
  obtain ⟨W, hW⟩ : ∃ W, W = w.alloc (.cells (letA ((0, 0, 0, 0, 0), (0, 0, 0, 0), (0, 0, 0, 0))) 65) := ⟨_, rfl⟩
  have HW : Hid (Below w.heap.size w W ∧ W.heap[w.heap.size]? = some (.cells (letA ((0, 0, 0, 0, 0), (0, 0, 0, 0), (0, 0, 0, 0))) 65 (0, 0)) ∧ W.heap.size = w.heap.size + 1) := (by rw [hW]; exact ⟨ba (Below.refl _ _) _, heap_alloc_new w _, by simp⟩ : _ ∧ _ ∧ _)
  have HBW : Hid (W.heap[N]? = some (.cells #[.int .i64 c.n, .bool c.chain, .int .i64 c.liars, s.treeV, s.peersV, s.net, s.said, s.pend] 37 (0, 0))) := (HW.out.1.block N HLO.out.2.2).trans HB.out
  unfold letA at hW
  simp only at hW
  go_enter Tryz.func48, Tryz.ntmps48
  go_wp2_with (rw [← hW]; clear hW; refine wpList_load_blk rfl _ _ rfl N 5 (.slice an c.net.length cn) _ _ rfl HBW.out (by rw [← HEN.out]; rfl) _ Tryz.underlying33 rfl ?_)
  refine (in_any k 0 ((c.net.length : Int) - 1) W).mono ?_
  rintro e w1 ⟨rfl, hw⟩
  obtain rfl := hw.symm
  clear hw
  by_cases hin : 0 ≤ k ∧ k < c.net.length
  · rw [inB_yes (by omega)]
    have h0 := hin.1
    have h1 := hin.2
    obtain ⟨j, hj⟩ : ∃ j : Nat, k = (j : Int) := ⟨k.toNat, by omega⟩
    subst hj
    have hjn : j < c.net.length := by omega
    obtain ⟨l, hl⟩ : ∃ l, l = c.net[j] := ⟨_, rfl⟩
    have HE : Hid (outC c (j : Int) = { c with net := c.net.take j ++ c.net.drop (j + 1) } ∧ outB c (j : Int) = true ∧ outL c (j : Int) = l) := ⟨by unfold outC; rw [if_pos hin]; simp, by unfold outB; simp [hjn], by unfold outL; simp [hjn, hl]⟩
    obtain ⟨g, rfl⟩ := HGA.out (by omega)
    have HON : Hid (W.ownsRow lo 65 13 (.slice (some ⟨g, 0, none⟩) c.net.length cn) c.net.length (flatR letF c.net)) := (by rw [← HEN.out]; exact own_kept HO.out.net HW.out.1)
    have HRG : Hid (W.rangeAt g (j * 13) (letF l)) := (fun i u hu => by have := rows_news HON.out rfl j 1 (by omega) i u (by rw [List.drop_eq_getElem_cons hjn]; simpa [flatR, ← hl] using hu); rw [Addr.add_mid] at this; exact this : W.rangeAt g (j * 13) (letF l))
    have hc1 : (j : Int) + 1 ≤ cn := by omega
    have hc2 : (j : Int) ≤ c.net.length := by omega
    have hc3 : (j : Int) ≤ cn := by omega
    have hc4 : (j : Int) + 1 ≤ c.net.length := by omega
    have hn0 : ¬ (cn = 0) := by omega
    clear hin hl
    go_wp2_with (first
      | (refine wpList_store_blk rfl _ _ _ rfl W.heap.size (letA l) rfl rfl 65 (letA ((0, 0, 0, 0, 0), (0, 0, 0, 0), (0, 0, 0, 0))) (heap_alloc_new W _) (by kernel_rfl) rfl (letA_one _) ?_; intro y1 hg hk hz; have hb1 : Below W.heap.size W y1 := made_below hg; have HY1 : Hid (Below w.heap.size w y1 ∧ y1.heap[w.heap.size]? = some (.cells (letA ((0, 0, 0, 0, 0), (0, 0, 0, 0), (0, 0, 0, 0))) 65 (0, 0)) ∧ y1.heap[N]? = some (.cells #[.int .i64 c.n, .bool c.chain, .int .i64 c.liars, s.treeV, s.peersV, s.net, s.said, s.pend] 37 (0, 0)) ∧ y1.heap[W.heap.size]? = some (.cells (letA l) 65 (0, 0)) ∧ y1.ownsRow lo 65 13 (.slice (some ⟨g, 0, none⟩) c.net.length cn) c.net.length (flatR letF c.net) ∧ OwnC lo hi y1 c s) := ⟨bt HW.out.1 hb1, (hb1.block _ (Array.getElem?_eq_some_iff.1 HW.out.2.1).1).trans HW.out.2.1, (hb1.block _ (Array.getElem?_eq_some_iff.1 HBW.out).1).trans HBW.out, hk, own_kept HON.out hb1, (HO.out.below HW.out.1).below hb1⟩; clear hg hk hz hb1 HRG HON)
      | (refine wpList_load_blk rfl _ _ rfl N 5 (.slice (some ⟨g, 0, none⟩) c.net.length cn) _ _ rfl HBW.out (by rw [← HEN.out]; rfl) _ Tryz.underlying33 rfl ?_)
      | (refine wpList_load_mid rfl _ _ rfl g (j * 13) (by go_simp) (letF l) _ HRG.out Tryz.underlying65 rfl (by kernel_rfl) ?_))
    obtain ⟨o2, ho2⟩ : ∃ o2 : Nat, o2 = if cn = j + 1 then 0 else (j + 1) * 13 := ⟨_, rfl⟩
    refine wp_region_P (fun i => i != 19) (fun x => x.heap[N]? = some (.cells #[.int .i64 c.n, .bool c.chain, .int .i64 c.liars, s.treeV, s.peersV, s.net, s.said, s.pend] 37 (0, 0))) (by kernel_rfl) ?_
    show wpAnyP Tryz.prog _ _ _ _ _ (19 + 1) (Array.replicate 20 false) _ _
    have hS : y1.drew.heap[N]? = some (.cells #[.int .i64 c.n, .bool c.chain, .int .i64 c.liars, s.treeV, s.peersV, s.net, s.said, s.pend] 37 (0, 0)) := HY1.out.2.2.1
    refine p_take (j := 0) (e' := some 24) (v := .pointer (some ⟨N, 0, none⟩)) rfl rfl (by kernel_rfl) (by kernel_rfl) (by kernel_rfl) (by kernel_rfl) (by kernel_rfl) (fun _ _ _ h => h) (Or.inl ⟨by rfl, ?_⟩) hS ?_
    · intro x hx
      go_simp
      first | done | with_reducible rfl | (rw [IntKind.wrap_i64]; omega)
    simp only [Act.put, List.setIfInBounds_toArray, List.set_cons_zero, List.set_cons_succ]
    refine p_take (j := 2) (e' := some 26) (v := .pointer (some ⟨N, 0, none⟩)) rfl rfl (by kernel_rfl) (by kernel_rfl) (by kernel_rfl) (by kernel_rfl) (by kernel_rfl) (fun _ _ _ h => h) (Or.inl ⟨by rfl, ?_⟩) hS ?_
    · intro x hx
      go_simp
      first | done | with_reducible rfl | (rw [IntKind.wrap_i64]; omega)
    simp only [Act.put, List.setIfInBounds_toArray, List.set_cons_zero, List.set_cons_succ]
    refine p_take (j := 3) (e' := some 27) (v := .pointer (some ⟨N, 0, none⟩)) rfl rfl (by kernel_rfl) (by kernel_rfl) (by kernel_rfl) (by kernel_rfl) (by kernel_rfl) (fun _ _ _ h => h) (Or.inl ⟨by rfl, ?_⟩) hS ?_
    · intro x hx
      go_simp
      first | done | with_reducible rfl | (rw [IntKind.wrap_i64]; omega)
    simp only [Act.put, List.setIfInBounds_toArray, List.set_cons_zero, List.set_cons_succ]
    refine p_take (j := 4) (e' := some 28) (v := .pointer (some ⟨N, 5, none⟩)) rfl rfl (by kernel_rfl) (by kernel_rfl) (by kernel_rfl) (by kernel_rfl) (by kernel_rfl) (fun _ _ _ h => h) (Or.inl ⟨by rfl, ?_⟩) hS ?_
    · intro x hx
      go_simp
      first | done | with_reducible rfl | (rw [IntKind.wrap_i64]; omega)
    simp only [Act.put, List.setIfInBounds_toArray, List.set_cons_zero, List.set_cons_succ]
    refine p_take (j := 5) (e' := some 29) (v := .slice (some ⟨g, 0, none⟩) c.net.length cn) rfl rfl (by kernel_rfl) (by kernel_rfl) (by kernel_rfl) (by kernel_rfl) (by kernel_rfl) (fun _ _ _ h => h) (Or.inl ⟨by rfl, ?_⟩) hS ?_
    · intro x hx
      have c := blk_cell hx 5 (.slice (some ⟨g, 0, none⟩) c.net.length cn) (by rw [← HEN.out]; rfl)
      go_simp
      first | done | with_reducible rfl | (rw [IntKind.wrap_i64]; omega)
    simp only [Act.put, List.setIfInBounds_toArray, List.set_cons_zero, List.set_cons_succ]
    refine p_take (j := 6) (e' := some 30) (v := .int .i64 (j : Int)) rfl rfl (by kernel_rfl) (by kernel_rfl) (by kernel_rfl) (by kernel_rfl) (by kernel_rfl) (fun _ _ _ h => h) (Or.inl ⟨by rfl, ?_⟩) hS ?_
    · intro x hx
      go_simp
      first | done | with_reducible rfl | (rw [IntKind.wrap_i64]; omega)
    simp only [Act.put, List.setIfInBounds_toArray, List.set_cons_zero, List.set_cons_succ]
    refine p_take (j := 7) (e' := some 31) (v := .slice (some ⟨g, 0, none⟩) j cn) rfl rfl (by kernel_rfl) (by kernel_rfl) (by kernel_rfl) (by kernel_rfl) (by kernel_rfl) (fun _ _ _ h => h) (Or.inl ⟨by rfl, ?_⟩) hS ?_
    · intro x hx
      go_simp
      first | done | with_reducible rfl | (rw [IntKind.wrap_i64]; omega)
    simp only [Act.put, List.setIfInBounds_toArray, List.set_cons_zero, List.set_cons_succ]
    refine p_take (j := 9) (e' := some 33) (v := .pointer (some ⟨N, 0, none⟩)) rfl rfl (by kernel_rfl) (by kernel_rfl) (by kernel_rfl) (by kernel_rfl) (by kernel_rfl) (fun _ _ _ h => h) (Or.inl ⟨by rfl, ?_⟩) hS ?_
    · intro x hx
      go_simp
      first | done | with_reducible rfl | (rw [IntKind.wrap_i64]; omega)
    simp only [Act.put, List.setIfInBounds_toArray, List.set_cons_zero, List.set_cons_succ]
    refine p_take (j := 10) (e' := some 34) (v := .pointer (some ⟨N, 0, none⟩)) rfl rfl (by kernel_rfl) (by kernel_rfl) (by kernel_rfl) (by kernel_rfl) (by kernel_rfl) (fun _ _ _ h => h) (Or.inl ⟨by rfl, ?_⟩) hS ?_
    · intro x hx
      go_simp
      first | done | with_reducible rfl | (rw [IntKind.wrap_i64]; omega)
    simp only [Act.put, List.setIfInBounds_toArray, List.set_cons_zero, List.set_cons_succ]
    refine p_take (j := 11) (e' := some 35) (v := .pointer (some ⟨N, 5, none⟩)) rfl rfl (by kernel_rfl) (by kernel_rfl) (by kernel_rfl) (by kernel_rfl) (by kernel_rfl) (fun _ _ _ h => h) (Or.inl ⟨by rfl, ?_⟩) hS ?_
    · intro x hx
      go_simp
      first | done | with_reducible rfl | (rw [IntKind.wrap_i64]; omega)
    simp only [Act.put, List.setIfInBounds_toArray, List.set_cons_zero, List.set_cons_succ]
    refine p_take (j := 12) (e' := some 36) (v := .slice (some ⟨g, 0, none⟩) c.net.length cn) rfl rfl (by kernel_rfl) (by kernel_rfl) (by kernel_rfl) (by kernel_rfl) (by kernel_rfl) (fun _ _ _ h => h) (Or.inl ⟨by rfl, ?_⟩) hS ?_
    · intro x hx
      have c := blk_cell hx 5 (.slice (some ⟨g, 0, none⟩) c.net.length cn) (by rw [← HEN.out]; rfl)
      go_simp
      first | done | with_reducible rfl | (rw [IntKind.wrap_i64]; omega)
    simp only [Act.put, List.setIfInBounds_toArray, List.set_cons_zero, List.set_cons_succ]
    refine p_take (j := 13) (e' := some 37) (v := .int .i64 (j : Int)) rfl rfl (by kernel_rfl) (by kernel_rfl) (by kernel_rfl) (by kernel_rfl) (by kernel_rfl) (fun _ _ _ h => h) (Or.inl ⟨by rfl, ?_⟩) hS ?_
    · intro x hx
      go_simp
      first | done | with_reducible rfl | (rw [IntKind.wrap_i64]; omega)
    simp only [Act.put, List.setIfInBounds_toArray, List.set_cons_zero, List.set_cons_succ]
    refine p_take (j := 14) (e' := some 38) (v := .int .i64 ((j : Int) + 1)) rfl rfl (by kernel_rfl) (by kernel_rfl) (by kernel_rfl) (by kernel_rfl) (by kernel_rfl) (fun _ _ _ h => h) (Or.inl ⟨by rfl, ?_⟩) hS ?_
    · intro x hx
      go_simp
      first | done | with_reducible rfl | (rw [IntKind.wrap_i64]; omega)
    simp only [Act.put, List.setIfInBounds_toArray, List.set_cons_zero, List.set_cons_succ]
    refine p_take (j := 15) (e' := some 39) (v := .slice (some ⟨g, o2, none⟩) (c.net.length - (j + 1)) (cn - (j + 1))) rfl rfl (by kernel_rfl) (by kernel_rfl) (by kernel_rfl) (by kernel_rfl) (by kernel_rfl) (fun _ _ _ h => h) (Or.inl ⟨by rfl, ?_⟩) hS ?_
    · intro x hx
      rw [ho2]
      by_cases hcc : cn = j + 1
      · rw [if_pos hcc]
        go_simp
        intro hneg
        exact absurd hneg (by omega)
      · rw [if_neg hcc]
        go_simp
        intro hneg
        exact absurd hneg (by omega)
    simp only [Act.put, List.setIfInBounds_toArray, List.set_cons_zero, List.set_cons_succ]
    obtain ⟨z1, hz1⟩ : ∃ z1, z1 = y1.drew.alloc (.cells #[] 65) := ⟨_, rfl⟩
    have hb1 : Below y1.heap.size y1 z1 := (by rw [hz1]; exact ((Below.refl y1.heap.size y1).drew).alloc (show y1.heap.size ≤ y1.drew.heap.size from Nat.le_refl _) _ : Below y1.heap.size y1 z1)
    have HV1 : Hid (z1.ownsRow y1.heap.size 65 13 (.slice (some ⟨y1.heap.size, 0, none⟩) 0 0) 0 []) := (by rw [hz1]; exact own_new y1.drew _ _)
    have HB1 : Hid (Below y1.heap.size y1 z1) := hb1
    have HYS : Hid (w.heap.size + 1 < y1.heap.size) := (by have := (Array.getElem?_eq_some_iff.1 HY1.out.2.2.2.1).1; have := HW.out.2.2; omega : w.heap.size + 1 < y1.heap.size)
    have hS1 : z1.heap[N]? = some (.cells #[.int .i64 c.n, .bool c.chain, .int .i64 c.liars, s.treeV, s.peersV, s.net, s.said, s.pend] 37 (0, 0)) := (hb1.block N (by have := HLO.out; have := HYS.out; omega)).trans HY1.out.2.2.1
    refine p_run (s := 1) (e' := some 25) rfl rfl rfl (by kernel_rfl) (.slice (some ⟨y1.heap.size, 0, none⟩) 0 0) z1 ?_ ⟨fun _ => hS1, ?_⟩
    · rw [hz1]
      go_simp
      try with_reducible rfl
    clear hz1 hb1 hS
    simp only [Act.put, List.setIfInBounds_toArray, List.set_cons_zero, List.set_cons_succ]
    refine p_append (s := 8) (e' := some 32) rfl rfl rfl (.tmp 25) (.tmp 31) 33 rfl (by kernel_rfl) y1.heap.size 65 li _ 13 104 Tryz.underlying33 lhi lhz0 lhz1 lhz2 rfl (by decide) (.slice (some ⟨y1.heap.size, 0, none⟩) 0 0) 0 [] rfl HV1.out ⟨g, 0, none⟩ j cn (flatR letF (c.net.take j)) rfl (by rw [flatR_len letF_len, List.length_take, Nat.min_eq_left (by omega)]) (fun i u hu => by have := rows_news (own_kept HY1.out.2.2.2.2.1 HB1.out) rfl 0 j (by omega) i u (by simpa using hu); simpa using this) (letF_all _) (by unfold maxLen; omega) (by omega) HB1.out.size ?_
    intro v2 z2 ho hg
    have HB2 : Hid (Below y1.heap.size y1 z2) := HB1.out.grown hg HB1.out.size (fun k hk => by cases hk; exact Nat.le_refl _)
    have HV2 : Hid (z2.ownsRow y1.heap.size 65 13 v2 (0 + j) ([] ++ flatR letF (c.net.take j))) := ho
    have hS2 : z2.heap[N]? = some (.cells #[.int .i64 c.n, .bool c.chain, .int .i64 c.liars, s.treeV, s.peersV, s.net, s.said, s.pend] 37 (0, 0)) := (HB2.out.block N (by have := HLO.out; have := HYS.out; omega)).trans HY1.out.2.2.1
    clear ho hg hS1 HB1 HV1
    refine ⟨fun _ => hS2, ?_⟩
    simp only [Act.put, List.setIfInBounds_toArray, List.set_cons_zero, List.set_cons_succ]
    refine p_append (s := 16) (e' := some 40) rfl rfl rfl (.tmp 32) (.tmp 39) 33 rfl (by kernel_rfl) y1.heap.size 65 li _ 13 104 Tryz.underlying33 lhi lhz0 lhz1 lhz2 rfl (by decide) v2 (0 + j) _ rfl HV2.out ⟨g, o2, none⟩ (c.net.length - (j + 1)) (cn - (j + 1)) (flatR letF (c.net.drop (j + 1))) rfl (by rw [flatR_len letF_len, List.length_drop]) (fun i u hu => ?_) (letF_all _) (by unfold maxLen; omega) (by omega) HB2.out.size ?_
    · by_cases hcc : cn = j + 1
      · have hnl : c.net.length = j + 1 := by omega
        rw [List.drop_eq_nil_of_le (by omega)] at hu
        simp [flatR] at hu
      · rw [if_neg hcc] at ho2
        rw [ho2]
        exact rows_news (own_kept HY1.out.2.2.2.2.1 HB2.out) rfl (j + 1) (c.net.length - (j + 1)) (by omega) i u (by rw [List.take_of_length_le (by rw [List.length_drop]; exact Nat.le_refl _)]; exact hu)
    intro v3 z3 ho hg
    have HB3 : Hid (Below y1.heap.size y1 z3) := HB2.out.grown hg HB2.out.size (fun k hk => (HV2.out.lt k hk).1)
    have hnl : 0 + j + (c.net.length - (j + 1)) = (c.net.take j ++ c.net.drop (j + 1)).length := by rw [List.length_append, List.length_take, List.length_drop, Nat.min_eq_left (by omega)]; omega
    have HV3 : Hid (z3.ownsRow y1.heap.size 65 13 v3 (c.net.take j ++ c.net.drop (j + 1)).length (flatR letF (c.net.take j ++ c.net.drop (j + 1)))) := (by rw [← hnl, flatR_append]; simpa using ho : z3.ownsRow y1.heap.size 65 13 v3 (c.net.take j ++ c.net.drop (j + 1)).length (flatR letF (c.net.take j ++ c.net.drop (j + 1))))
    have hS3 : z3.heap[N]? = some (.cells #[.int .i64 c.n, .bool c.chain, .int .i64 c.liars, s.treeV, s.peersV, s.net, s.said, s.pend] 37 (0, 0)) := (HB3.out.block N (by have := HLO.out; have := HYS.out; omega)).trans HY1.out.2.2.1
    clear ho hg hS2 HB2 HV2 hnl ho2
    refine ⟨fun _ => hS3, ?_⟩
    simp only [Act.put, List.setIfInBounds_toArray, List.set_cons_zero, List.set_cons_succ]
    refine p_take (j := 17) (e' := some 41) (v := .pointer (some ⟨N, 0, none⟩)) rfl rfl (by kernel_rfl) (by kernel_rfl) (by kernel_rfl) (by kernel_rfl) (by kernel_rfl) (fun _ _ _ h => h) (Or.inl ⟨by rfl, ?_⟩) hS3 ?_
    · intro x hx
      go_simp
      first | done | with_reducible rfl | (rw [IntKind.wrap_i64]; omega)
    simp only [Act.put, List.setIfInBounds_toArray, List.set_cons_zero, List.set_cons_succ]
    refine p_take (j := 18) (e' := some 42) (v := .pointer (some ⟨N, 5, none⟩)) rfl rfl (by kernel_rfl) (by kernel_rfl) (by kernel_rfl) (by kernel_rfl) (by kernel_rfl) (fun _ _ _ h => h) (Or.inl ⟨by rfl, ?_⟩) hS3 ?_
    · intro x hx
      go_simp
      first | done | with_reducible rfl | (rw [IntKind.wrap_i64]; omega)
    simp only [Act.put, List.setIfInBounds_toArray, List.set_cons_zero, List.set_cons_succ]
    refine p_cell (s := 19) (N := N) (o := 5) (u := v3) (old := #[.int .i64 c.n, .bool c.chain, .int .i64 c.liars, s.treeV, s.peersV, s.net, s.said, s.pend]) (new := #[.int .i64 c.n, .bool c.chain, .int .i64 c.liars, s.treeV, s.peersV, v3, s.said, s.pend]) rfl rfl rfl rfl (by kernel_rfl) rfl rfl hS3 (by kernel_rfl) (by simp) (own_oneC HV3.out) rfl ?_
    intro z4 hg hk
    have HZ4 : Hid (z4.heap[N]? = some (.cells #[.int .i64 c.n, .bool c.chain, .int .i64 c.liars, s.treeV, s.peersV, v3, s.said, s.pend] 37 (0, 0)) ∧ FrS (fun k => k = N) w z4 ∧ OwnC lo hi z4 c s ∧ z4.ownsRow y1.heap.size 65 13 v3 (c.net.take j ++ c.net.drop (j + 1)).length (flatR letF (c.net.take j ++ c.net.drop (j + 1))) ∧ z4.heap[w.heap.size]? = some (.cells (letA ((0, 0, 0, 0, 0), (0, 0, 0, 0), (0, 0, 0, 0))) 65 (0, 0)) ∧ z4.heap[W.heap.size]? = some (.cells (letA l) 65 (0, 0)) ∧ y1.heap.size ≤ z4.heap.size) := ⟨hk, (FrS.of_below (bt HY1.out.1 HB3.out)).trans (FrS.of_grown hg (fun k e => by cases e; rfl)), (HY1.out.2.2.2.2.2.below HB3.out).boxT hS3 hg, World.ownsRow.kept HV3.out hg (row_not_box HV3.out hS3 (by decide)), (hg.block _ (by have := HB3.out.size; have := HYS.out; omega) (fun e => by have := Option.some.inj e; have := HLO.out; omega)).trans ((HB3.out.block _ (by have := HYS.out; omega)).trans HY1.out.2.1), (hg.block _ (by have := HB3.out.size; have := HYS.out; have := HW.out.2.2; omega) (fun e => by have := Option.some.inj e; have := HLO.out; have := HW.out.2.2; omega)).trans ((HB3.out.block _ (by have := HYS.out; have := HW.out.2.2; omega)).trans HY1.out.2.2.2.1), Nat.le_trans HB3.out.size hg.size⟩
    clear hg hk hS3 HB3 HV3
    refine ⟨fun h => (by cases h), ?_⟩
    refine wpAnyP_done (by kernel_rfl) ?_ _
    go_wp2_with (first
      | (refine wpList_load_row rfl _ _ rfl W.heap.size rfl 65 _ (0, 0) _ HZ4.out.2.2.2.2.2.1 Tryz.underlying65 rfl (by kernel_rfl) ?_)
      | (refine wpList_store_blk rfl _ _ _ rfl w.heap.size (letA l) rfl rfl 65 (letA ((0, 0, 0, 0, 0), (0, 0, 0, 0), (0, 0, 0, 0))) HZ4.out.2.2.2.2.1 (by kernel_rfl) rfl (letA_one _) ?_; intro z5 hg hk hz; have HZ5 : Hid (z5.heap[w.heap.size]? = some (.cells (letA l) 65 (0, 0)) ∧ z5.heap[N]? = some (.cells #[.int .i64 c.n, .bool c.chain, .int .i64 c.liars, s.treeV, s.peersV, v3, s.said, s.pend] 37 (0, 0)) ∧ FrS (fun k => k = N) w z5 ∧ OwnC lo hi z5 c s ∧ z5.ownsRow y1.heap.size 65 13 v3 (c.net.take j ++ c.net.drop (j + 1)).length (flatR letF (c.net.take j ++ c.net.drop (j + 1))) ∧ z4.heap.size ≤ z5.heap.size) := ⟨hk, (hg.block _ (Array.getElem?_eq_some_iff.1 HZ4.out.1).1 (fun e => by have := Option.some.inj e; have := HLO.out; omega)).trans HZ4.out.1, ⟨hg.os.trans HZ4.out.2.1.os, hg.tape.trans HZ4.out.2.1.tape, hg.output.trans HZ4.out.2.1.output, Nat.le_trans HZ4.out.2.1.size hg.size, fun i hi hn => (hg.block i (by have := HZ4.out.2.1.size; omega) (fun e => by have := Option.some.inj e; omega)).trans (HZ4.out.2.1.block i hi hn)⟩, HZ4.out.2.2.1.boxed hg (Or.inr HLO.out.2.1), own_not HZ4.out.2.2.2.1 hg (by have := HYS.out; omega), hg.size⟩; clear hg hk hz))
    refine bodyPost_ret (v := .tuple #[.agg (letA l), .bool true]) (results_ct Tryz.results48 _ _ w.heap.size 65 _ (0, 0) _ _ rfl HZ5.out.1 Tryz.underlying65 rfl (by kernel_rfl) rfl) rfl ?_
    refine ⟨by rw [HE.out.2.1, HE.out.2.2], { s with net := v3 }, ?_⟩
    rw [HE.out.1]
    have hz := HZ5.out
    have hs4 := HZ4.out.2.2.2.2.2.2
    exact ⟨hz.2.1, hz.2.2.2.1.setNet (Nat.le_trans HLO.out.2.1 hz.2.2.1.size) (Nat.le_refl _) (own_base hz.2.2.2.2.1 (by have := HLO.out; have := HYS.out; omega)) (fun i hi => ⟨by have := (hz.2.2.2.2.1.lt i hi).1; have := HLO.out; have := HYS.out; omega, (hz.2.2.2.2.1.lt i hi).2⟩) HLO.out.1, hz.2.2.1⟩
  · rw [inB_no (by omega)]
    have HE : Hid (outC c k = c ∧ outB c k = false ∧ outL c k = ((0, 0, 0, 0, 0), (0, 0, 0, 0), (0, 0, 0, 0))) := ⟨if_neg hin, by unfold outB; simp only [decide_eq_false_iff_not]; exact hin, by
      unfold outL
      split
      · rename_i l hl
        split
        · rename_i hk0
          have := (List.getElem?_eq_some_iff.1 hl).1
          exact absurd ⟨hk0, by omega⟩ hin
        · rfl
      · rfl⟩
    go_wp2_with (refine wpList_store_blk rfl _ _ _ rfl w.heap.size (letA ((0, 0, 0, 0, 0), (0, 0, 0, 0), (0, 0, 0, 0))) rfl rfl 65 (letA ((0, 0, 0, 0, 0), (0, 0, 0, 0), (0, 0, 0, 0))) HW.out.2.1 (by kernel_rfl) rfl (letA_one _) ?_; intro z5 hg hk hz; have HZ5 : Hid (z5.heap[w.heap.size]? = some (.cells (letA ((0, 0, 0, 0, 0), (0, 0, 0, 0), (0, 0, 0, 0))) 65 (0, 0)) ∧ z5.heap[N]? = some (.cells #[.int .i64 c.n, .bool c.chain, .int .i64 c.liars, s.treeV, s.peersV, s.net, s.said, s.pend] 37 (0, 0)) ∧ FrS (fun k => k = N) w z5 ∧ OwnC lo hi z5 c s) := ⟨hk, (hg.block _ (Array.getElem?_eq_some_iff.1 HBW.out).1 (fun e => by have := Option.some.inj e; have := HLO.out; omega)).trans HBW.out, FrS.of_below (HW.out.1.grown hg HW.out.1.size (fun k hk => by cases hk; exact Nat.le_refl _)), (HO.out.below HW.out.1).boxed hg (Or.inr HLO.out.2.1)⟩; clear hg hk hz)
    refine bodyPost_ret (v := .tuple #[.agg (letA ((0, 0, 0, 0, 0), (0, 0, 0, 0), (0, 0, 0, 0))), .bool false]) (results_ct Tryz.results48 _ _ w.heap.size 65 _ (0, 0) _ _ rfl HZ5.out.1 Tryz.underlying65 rfl (by kernel_rfl) rfl) rfl ?_
    refine ⟨by rw [HE.out.2.1, HE.out.2.2], s, ?_⟩
    rw [HE.out.1]
    exact ⟨HZ5.out.2.1, HZ5.out.2.2.2.wide (Nat.le_trans HLO.out.2.1 HZ5.out.2.2.1.size) (Nat.le_refl _), HZ5.out.2.2.1⟩

set_option maxRecDepth 100000 in
set_option maxHeartbeats 4000000 in
theorem loseAtC_s (c : CU) (s : CW) (lo hi : Nat) (k : Int) (w : World) (hO : OwnC lo hi w c s) (hk : okC c) (hwk : (Lit.int .i64 k).wf = true) :
    Calls Tryz.prog 17 #[clusV c s, .int .i64 k] w fun e w' => ∃ s', e = .returned (.tuple #[clusV (outC c k) s', .bool (outB c k)]) ∧ OwnC w.heap.size w'.heap.size w' (outC c k) s' ∧ Below w.heap.size w w' := by
  have HO := hid hO
  have HK := hid hk
  have HWk := hid hwk
  obtain ⟨W, hW⟩ : ∃ W, W = (w.alloc (.cells (clusA c s) 37)).alloc (.cells zeroC 37) := ⟨_, rfl⟩
  have HC : Hid (Below w.heap.size w W ∧ W.heap[w.heap.size]? = some (.cells (clusA c s) 37 (0, 0)) ∧ W.heap[w.heap.size + 1]? = some (.cells zeroC 37 (0, 0))) := by
    rw [hW]; exact ⟨ba (ba (Below.refl _ _) _) _, alloc2 w _ _⟩
  have HCW : Hid (w.heap.size + 1 < W.heap.size) := (Array.getElem?_eq_some_iff.1 HC.out.2.2).1
  unfold zeroC at hW
  clear hO hk hwk
  go_enter Tryz.func17, Tryz.ntmps17
  go_wp2_with (rw [← hW]; clear hW; refine wpList_load_row rfl _ _ rfl w.heap.size rfl 37 _ (0, 0) _ HC.out.2.1 Tryz.underlying37 rfl (by kernel_rfl) ?_)
  refine (copyC_s c s W (HO.out.below HC.out.1).reads (HO.out.below HC.out.1).tree.read HK.out).mono ?_
  rintro e x1 ⟨s1, rfl, ho, hb⟩
  have HX1 : Hid (Below w.heap.size w x1 ∧ x1.heap[w.heap.size + 1]? = some (.cells zeroC 37 (0, 0)) ∧ W.heap.size ≤ x1.heap.size) := ⟨bt HC.out.1 hb, (hb.block _ (Array.getElem?_eq_some_iff.1 HC.out.2.2).1).trans HC.out.2.2, hb.size⟩
  have HO1 : Hid (OwnC W.heap.size x1.heap.size x1 c s1) := ho
  clear ho hb HC
  go_wp2_with (refine wpList_store_blk rfl _ _ _ rfl x1.heap.size (clusA c s1) rfl rfl 37 zeroC (heap_alloc_new x1 _) (by kernel_rfl) rfl (clusA_one HO1.out) ?_; intro y1 hg hk hz; have hb1 : Below x1.heap.size x1 y1 := made_below hg; have HY1 : Hid (Below w.heap.size w y1 ∧ y1.heap[w.heap.size + 1]? = some (.cells zeroC 37 (0, 0)) ∧ x1.heap.size < y1.heap.size ∧ y1.heap[x1.heap.size]? = some (.cells (clusA c s1) 37 (0, 0)) ∧ OwnC W.heap.size x1.heap.size y1 c s1) := ⟨bt HX1.out.1 hb1, (hb1.block _ (Array.getElem?_eq_some_iff.1 HX1.out.2.1).1).trans HX1.out.2.1, (Array.getElem?_eq_some_iff.1 hk).1, hk, HO1.out.below hb1⟩; clear hg hk hz hb1 HO1)
  refine (out_p c s1 x1.heap.size W.heap.size x1.heap.size k y1 HY1.out.2.2.2.1 HY1.out.2.2.2.2 HX1.out.2.2 HK.out.net HWk.out).mono ?_
  rintro e y2 ⟨rfl, s2, hin⟩
  have HY2 : Hid (InB x1.heap.size W.heap.size y1 y2 (outC c k) s2) := hin
  have HZ2 : Hid (y2.heap[w.heap.size + 1]? = some (.cells zeroC 37 (0, 0)) ∧ Below w.heap.size w y2) := ⟨(hin.fr.block _ (Array.getElem?_eq_some_iff.1 HY1.out.2.1).1 (by have := HCW.out; have := HX1.out.2.2; omega)).trans HY1.out.2.1, HY1.out.1.trans ⟨hin.fr.os, hin.fr.tape, hin.fr.output, hin.fr.size, fun k hk => hin.fr.block k (by have := HY1.out.1.size; omega) (by have := HCW.out; have := HX1.out.2.2; omega)⟩⟩
  clear hin
  go_wp2_with (first
    | (refine wpList_store_blk rfl _ _ _ rfl y2.heap.size (letA (outL c k)) rfl rfl 65 (letA ((0, 0, 0, 0, 0), (0, 0, 0, 0), (0, 0, 0, 0))) (heap_alloc_new y2 _) (by kernel_rfl) rfl (letA_one _) ?_; intro y3 hg hk hz; have hb3 : Below y2.heap.size y2 y3 := made_below hg; have HY3 : Hid (y3.heap[w.heap.size + 1]? = some (.cells zeroC 37 (0, 0)) ∧ Below w.heap.size w y3 ∧ y3.heap[x1.heap.size]? = some (.cells (clusA (outC c k) s2) 37 (0, 0)) ∧ OwnC W.heap.size y2.heap.size y3 (outC c k) s2 ∧ y2.heap.size ≤ y3.heap.size) := ⟨(hb3.block _ (Array.getElem?_eq_some_iff.1 HZ2.out.1).1).trans HZ2.out.1, bt HZ2.out.2 hb3, (hb3.block _ (Array.getElem?_eq_some_iff.1 HY2.out.box).1).trans HY2.out.box, HY2.out.own.below hb3, hb3.size⟩; clear hg hk hz hb3)
    | (refine wpList_load_row rfl _ _ rfl x1.heap.size rfl 37 _ (0, 0) _ HY3.out.2.2.1 Tryz.underlying37 rfl (by kernel_rfl) ?_)
    | (refine wpList_store_blk rfl _ _ _ rfl (w.heap.size + 1) (clusA (outC c k) s2) rfl rfl 37 zeroC HY3.out.1 (by kernel_rfl) rfl (clusA_one HY3.out.2.2.2.1) ?_; intro z hg hk hz; have HBz : Hid (Below w.heap.size w z ∧ z.heap[w.heap.size + 1]? = some (.cells (clusA (outC c k) s2) 37 (0, 0)) ∧ OwnC w.heap.size z.heap.size z (outC c k) s2) := ⟨HY3.out.2.1.grown hg HY3.out.2.1.size (fun k hk => by cases hk; omega), hk, ((HY3.out.2.2.2.1.boxT HY3.out.1 hg).low (by have := HCW.out; omega)).wide (Nat.le_trans HY3.out.2.2.2.2 hg.size) (Nat.le_refl _)⟩; clear hg hk hz))
  refine bodyPost_ret (v := .tuple #[.agg (clusA (outC c k) s2), .bool (outB c k)]) (results_ct Tryz.results17 _ _ (w.heap.size + 1) 37 _ (0, 0) _ _ rfl HBz.out.2.1 Tryz.underlying37 rfl (by kernel_rfl) rfl) rfl ?_
  exact ⟨s2, rfl, HBz.out.2.2, HBz.out.1⟩
/-- what the laws ask -/
def loseF (c : CU) (k : Int) : CU × Bool := (outC c k, outB c k)
theorem lose_con : Con 17 loseF := fun c s lo hi k w ho hk _ _ hwk => loseAtC_s c s lo hi k w ho hk hwk
theorem twice_con : Con 19 twiceC := fun c s lo hi k w ho hk _ _ hwk => twiceAtC_s c s lo hi k w ho hk hwk
theorem lose_fit : Fit loseF := fun c k hk hw => by
  show okC (outC c k) ∧ wtCl (outC c k) ≤ 1200000
  unfold outC
  split
  · have hl : (c.net.take k.toNat ++ c.net.drop (k.toNat + 1)).length ≤ c.net.length := by rw [List.length_append, List.length_take, List.length_drop]; omega
    have := hk.net
    refine ⟨⟨hk.tree, hk.lpeers, hk.peers, ?_, hk.said, hk.pend⟩, ?_⟩
    · show ((c.net.take k.toNat ++ c.net.drop (k.toNat + 1)).length : Int) ≤ 1048576
      omega
    · unfold wtCl at hw ⊢
      simp only
      omega
  · exact ⟨hk, by omega⟩
theorem post_fit {c : CU} {l : List LT} (hk : okC c) (hw : wtCl c ≤ 1048576) (hl : l.length ≤ 60) : okC (postC c l) ∧ wtCl (postC c l) ≤ 1200000 := by
  unfold postC
  split
  · exact ⟨hk, by omega⟩
  · rename_i h
    refine ⟨⟨hk.tree, hk.lpeers, hk.peers, ?_, hk.said, hk.pend⟩, ?_⟩
    · show ((c.net ++ l).length : Int) ≤ 1048576
      rw [List.length_append]; omega
    · unfold wtCl at hw ⊢
      simp only [List.length_append]
      omega
theorem twice_fit : Fit twiceC := fun c k hk hw => by
  unfold twiceC
  split
  · exact post_fit hk hw (by unfold atC; split <;> simp)
  · show okC c ∧ wtCl c ≤ 1200000
    exact ⟨hk, by omega⟩

end Go.Proofs.YtjieklilojmifauGreatR
