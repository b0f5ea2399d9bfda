/-
  A command offered: the contracts of the program's step, and of its Offer. (Made by goi15.py.)
-/
import Derived.Test.YtjieklilojmifatGreatSteps15
import Derived.Test.YtjieklilojmifatGreatClusQ
import Derived.Test.YtjieklilojmifatGreatJ2
import Derived.Test.YtjieklilojmifatGreatWFnExactOffer
namespace Go.Proofs.YtjieklilojmifatGreat
open Go.RowKit Num

set_option maxRecDepth 100000 in
theorem offered_i (x : CM) (w : World) :
    Calls Tryz.prog 29 #[cmdV x] w fun e w' => e = .returned (.func (.func 60) #[] #[.pointer (some ⟨w.heap.size, 0, none⟩)]) ∧ w' = w.alloc (.cells #[.int .i64 x.1, .string x.2.1, .int .i64 x.2.2] 43) := by
  unfold cmdV
  have hmf : ∀ (fn : Fn) (first cap : Array Value) (w : World), (Instr.makeFunc fn first cap).run Tryz.prog w = .ok (.func fn first cap) w := fun _ _ _ _ => rfl
  go_enter Tryz.func29, Tryz.ntmps29
  go_wp2_with fail
  go_ret
  exact ⟨rfl, rfl⟩
theorem offered_e (args : Array Value) (w : World) : (callFunc 60 args).run Tryz.prog w = .ok (.enter 60 args) w := Go.MuLone.run_callFunc_enter Tryz.func60 (by kernel_rfl) rfl args w
set_option maxRecDepth 100000 in
set_option maxHeartbeats 8000000 in
theorem offered_step (c : CU) (x : CM) (b : Nat) (w : World) (hbx : w.heap[b]? = some (.cells #[.int .i64 x.1, .string x.2.1, .int .i64 x.2.2] 43 (0, 0))) (hk : (c.pend.length : Int) ≤ 1048576) (hxs : (x.2.1.size : Int) ≤ 1048576) :
    StepOk 60 (.pointer (some ⟨b, 0, none⟩)) w c (offerC c x).1 (offerC c x).2 := fun w1 N lo hi s1 hb hbox hown hw1 hlo hw2 => by
  have hbl := (Array.getElem?_eq_some_iff.1 hbx).1
  have HB1 : Hid (w1.heap[b]? = some (.cells #[.int .i64 x.1, .string x.2.1, .int .i64 x.2.2] 43 (0, 0)) ∧ w1.heap[N]? = some (.cells #[.int .i32 1, .int .u32 0, .int .i64 c.n, .bool c.chain, .int .i64 c.liars, s1.treeV, s1.peersV, s1.net, s1.said, s1.pend] 120 (0, 0))) := ⟨(hb.block b hbl).trans hbx, hbox⟩
  have HNE : Hid (b < lo ∧ lo ≤ hi ∧ hi ≤ w1.heap.size ∧ N < w1.heap.size) := ⟨by omega, hlo, hown.size, (Array.getElem?_eq_some_iff.1 hbox).1⟩
  obtain ⟨ci, chi, chz0, chz1, chz2⟩ := info_parts infoCmd
  obtain ⟨aq, cq, eq, -⟩ := own_form hown.pend
  have HEQ : Hid (s1.pend = .slice aq c.pend.length cq) := eq
  have HO := hid hown
  have HXS := hid hxs
  have HCM := hid (cmd_i x w1 hxs)
  clear hbx hb hbox hown hbl eq hxs
  go_enter Tryz.func60, Tryz.ntmps60
  go_wp2_with (refine wpList_load_row rfl _ _ rfl b rfl 43 _ (0, 0) _ HB1.out.1 Tryz.underlying43 rfl (by kernel_rfl) ?_)
  refine HCM.out.mono ?_
  rintro e w2 ⟨rfl, hbe⟩
  have HBE := hid hbe
  have HBX : Hid (w2.heap[b]? = some (.cells #[.int .i64 x.1, .string x.2.1, .int .i64 x.2.2] 43 (0, 0)) ∧ w2.heap[N]? = some (.cells #[.int .i32 1, .int .u32 0, .int .i64 c.n, .bool c.chain, .int .i64 c.liars, s1.treeV, s1.peersV, s1.net, s1.said, s1.pend] 120 (0, 0))) := ⟨(hbe.block b (Array.getElem?_eq_some_iff.1 HB1.out.1).1).trans HB1.out.1, (hbe.block N HNE.out.2.2.2).trans HB1.out.2⟩
  have HO2 : Hid (OwnC lo hi w2 c s1) := HO.out.below hbe
  have c9 : w2.cell? ⟨N, 9, none⟩ = some (.slice aq c.pend.length cq) := blk_cell HBX.out.2 9 _ (by rw [← HEQ.out]; rfl)
  clear hbe HCM
  cases hcb : cmdB x with
  | false =>
    have HE : Hid (offerC c x = (c, false)) := if_neg (fun h => by rw [hcb] at h; cases h.1)
    go_wp2_with fail
    go_ret
    rw [HE.out]
    refine ⟨rfl, s1, ?_⟩
    exact ⟨HBX.out.2, (HO.out.below HBE.out).wide (Nat.le_trans HO.out.size HBE.out.size) (Nat.le_refl _), FrS.of_below HBE.out⟩
  | true =>
    by_cases hlt : c.pend.length < 8
    · have HE : Hid (offerC c x = ({ c with pend := c.pend ++ [x] }, true)) := if_pos ⟨hcb, hlt⟩
      have h8 : ¬ (8 : Int) ≤ (c.pend.length : Int) := by omega
      clear hcb
      go_wp2_with fail
      refine wp_region_P (fun i => decide (i < 11)) (fun y => y.heap[b]? = some (.cells #[.int .i64 x.1, .string x.2.1, .int .i64 x.2.2] 43 (0, 0)) ∧ y.heap[N]? = some (.cells #[.int .i32 1, .int .u32 0, .int .i64 c.n, .bool c.chain, .int .i64 c.liars, s1.treeV, s1.peersV, s1.net, s1.said, s1.pend] 120 (0, 0))) (by kernel_rfl) ?_
      show wpAnyP Tryz.prog _ _ _ _ _ (11 + 1) (Array.replicate 12 false) _ _
      have hS : w2.drew.heap[b]? = some (.cells #[.int .i64 x.1, .string x.2.1, .int .i64 x.2.2] 43 (0, 0)) ∧ w2.drew.heap[N]? = some (.cells #[.int .i32 1, .int .u32 0, .int .i64 c.n, .bool c.chain, .int .i64 c.liars, s1.treeV, s1.peersV, s1.net, s1.said, s1.pend] 120 (0, 0)) := HBX.out
      refine p_take (j := 0) (e' := some 15) (v := .pointer (some ⟨N, 2, none⟩)) rfl rfl (by kernel_rfl) (by kernel_rfl) (by kernel_rfl) (by kernel_rfl) (by kernel_rfl) (fun _ _ _ h => h) (Or.inl ⟨by rfl, ?_⟩) hS ?_
      · intro x hx
        go_simp
        try with_reducible rfl
      simp only [Act.put, List.setIfInBounds_toArray, List.set_cons_zero, List.set_cons_succ]
      refine p_take (j := 1) (e' := some 16) (v := .pointer (some ⟨N, 2, none⟩)) rfl rfl (by kernel_rfl) (by kernel_rfl) (by kernel_rfl) (by kernel_rfl) (by kernel_rfl) (fun _ _ _ h => h) (Or.inl ⟨by rfl, ?_⟩) hS ?_
      · intro x hx
        go_simp
        try with_reducible rfl
      simp only [Act.put, List.setIfInBounds_toArray, List.set_cons_zero, List.set_cons_succ]
      refine p_take (j := 2) (e' := some 17) (v := .pointer (some ⟨N, 2, none⟩)) rfl rfl (by kernel_rfl) (by kernel_rfl) (by kernel_rfl) (by kernel_rfl) (by kernel_rfl) (fun _ _ _ h => h) (Or.inl ⟨by rfl, ?_⟩) hS ?_
      · intro x hx
        go_simp
        try with_reducible rfl
      simp only [Act.put, List.setIfInBounds_toArray, List.set_cons_zero, List.set_cons_succ]
      refine p_take (j := 3) (e' := some 18) (v := .pointer (some ⟨N, 9, none⟩)) rfl rfl (by kernel_rfl) (by kernel_rfl) (by kernel_rfl) (by kernel_rfl) (by kernel_rfl) (fun _ _ _ h => h) (Or.inl ⟨by rfl, ?_⟩) hS ?_
      · intro x hx
        go_simp
        try with_reducible rfl
      simp only [Act.put, List.setIfInBounds_toArray, List.set_cons_zero, List.set_cons_succ]
      refine p_take (j := 4) (e' := some 19) (v := s1.pend) rfl rfl (by kernel_rfl) (by kernel_rfl) (by kernel_rfl) (by kernel_rfl) (by kernel_rfl) (fun _ _ _ h => h) (Or.inl ⟨by rfl, ?_⟩) hS ?_
      · intro x hx
        have c0 := blk_cell hx.2 9 s1.pend rfl
        go_simp
        try with_reducible rfl
      simp only [Act.put, List.setIfInBounds_toArray, List.set_cons_zero, List.set_cons_succ]
      refine p_take (j := 5) (e' := some 20) (v := .agg #[.int .i64 x.1, .string x.2.1, .int .i64 x.2.2]) rfl rfl (by kernel_rfl) (by kernel_rfl) (by kernel_rfl) (by kernel_rfl) (by kernel_rfl) (fun _ _ _ h => h) (Or.inl ⟨by rfl, fun y hy => exec_load_blk _ _ rfl b rfl _ _ _ _ hy.1 Tryz.underlying43 rfl (by kernel_rfl)⟩) hS ?_
      simp only [Act.put, List.setIfInBounds_toArray, List.set_cons_zero, List.set_cons_succ]
      obtain ⟨z, hz⟩ : ∃ z, z = w2.drew.alloc (.cells #[.int .i64 x.1, .string x.2.1, .int .i64 x.2.2] 43) := ⟨_, rfl⟩
      have hbz : Below w2.heap.size w2 z := by rw [hz]; exact ((Below.refl _ _).drew).trans (alloc_below w2.drew _)
      have hnw : z.heap[w2.heap.size]? = some (.cells #[.int .i64 x.1, .string x.2.1, .int .i64 x.2.2] 43 (0, 0)) := by rw [hz]; exact heap_alloc_new w2.drew _
      have hSz : z.heap[b]? = some (.cells #[.int .i64 x.1, .string x.2.1, .int .i64 x.2.2] 43 (0, 0)) ∧ z.heap[N]? = some (.cells #[.int .i32 1, .int .u32 0, .int .i64 c.n, .bool c.chain, .int .i64 c.liars, s1.treeV, s1.peersV, s1.net, s1.said, s1.pend] 120 (0, 0)) := ⟨(hbz.block _ (Array.getElem?_eq_some_iff.1 HBX.out.1).1).trans HBX.out.1, (hbz.block _ (Array.getElem?_eq_some_iff.1 HBX.out.2).1).trans HBX.out.2⟩
      have hrow : RowsR z (.slice (some ⟨w2.heap.size, 0, none⟩) 1 1) 3 cmdF [x] := ⟨some ⟨w2.heap.size, 0, none⟩, 1, rfl, fun _ => ⟨w2.heap.size, 0, rfl, (Array.getElem?_eq_some_iff.1 hnw).1, fun i hi j hj => by
        obtain rfl : i = 0 := by simpa using hi
        rw [cell_of_row z w2.heap.size _ _ _ _ hnw]
        simp [cmdF]⟩⟩
      refine p_run (s := 6) (e' := some 21) rfl rfl rfl (by kernel_rfl) (.slice (some ⟨w2.heap.size, 0, none⟩) 1 1) z ?_ ⟨fun _ => hSz, ?_⟩
      · rw [hz]
        go_simp
        try with_reducible rfl
      simp only [Act.put, List.setIfInBounds_toArray, List.set_cons_zero, List.set_cons_succ]
      refine p_call (s := 7) (e' := some 22) (fn := 62) (args := #[.slice (some ⟨w2.heap.size, 0, none⟩) 1 1]) rfl rfl (by kernel_rfl) (by rfl) ?_ ((copyCmds_i [x] _ z hrow (by simp) (fun y hy => by simp at hy; subst hy; exact HXS.out)).mono ?_)
      · go_simp
        try with_reducible rfl
      rintro e z2 ⟨v7, rfl, ho7, hb7⟩
      have hbz2 : Below w2.heap.size w2 z2 := bt hbz hb7
      have hS2 : z2.heap[b]? = some (.cells #[.int .i64 x.1, .string x.2.1, .int .i64 x.2.2] 43 (0, 0)) ∧ z2.heap[N]? = some (.cells #[.int .i32 1, .int .u32 0, .int .i64 c.n, .bool c.chain, .int .i64 c.liars, s1.treeV, s1.peersV, s1.net, s1.said, s1.pend] 120 (0, 0)) := ⟨(hbz2.block _ (Array.getElem?_eq_some_iff.1 HBX.out.1).1).trans HBX.out.1, (hbz2.block _ (Array.getElem?_eq_some_iff.1 HBX.out.2).1).trans HBX.out.2⟩
      obtain ⟨a7, c7, e7, hg7⟩ := own_form ho7
      obtain ⟨g7, rfl⟩ := hg7 (by simp)
      subst e7
      have HN7 : Hid (∀ j u, (cmdF x)[j]? = some u → z2.cell? ((⟨g7, 0, none⟩ : Addr).add j) = some u) := (fun j u hu => World.ownsRow.cells ho7 rfl j u (by simpa [flatR] using hu) : ∀ j u, (cmdF x)[j]? = some u → z2.cell? ((⟨g7, 0, none⟩ : Addr).add j) = some u)
      have HOZ : Hid (OwnC lo hi z2 c s1 ∧ hi ≤ z2.heap.size) := ⟨HO2.out.below hbz2, Nat.le_trans HO2.out.size hbz2.size⟩
      have HBZ := hid hbz2
      clear hS hSz hbz hnw hrow hz ho7 hb7 hbz2 hg7
      refine ⟨_, rfl, fun _ => hS2, ?_⟩
      simp only [Act.put, List.setIfInBounds_toArray, List.set_cons_zero, List.set_cons_succ]
      refine p_lies (s := 8) (e' := some 23) rfl rfl rfl (.tmp 19) (.tmp 22) 37 rfl (by kernel_rfl) lo 43 ci _ 3 32 Tryz.underlying37 chi chz0 chz1 chz2 rfl (by decide) s1.pend c.pend.length (flatR cmdF c.pend) rfl HOZ.out.1.pend ⟨g7, 0, none⟩ 1 c7 (cmdF x) rfl rfl HN7.out (cmdF_one x) (by decide) (by unfold maxLen; omega) (by omega) (by have := HOZ.out.2; have := HNE.out; omega) _ rfl ?_
      intro g2 cap2 z3 ho2 hg2 hwh hlt2
      have hbk : ∀ k, s1.pend.ownBlock = some k → lo ≤ k ∧ k < hi := fun k e => HO2.out.lim 4 k (by omega) e
      have hNk : ∀ k, s1.pend.ownBlock = some k → ¬ k = N := fun k e e2 => HO2.out.noHall HBX.out.2 4 (by omega) (by rw [← e2]; exact e)
      have hS3 : z3.heap[b]? = some (.cells #[.int .i64 x.1, .string x.2.1, .int .i64 x.2.2] 43 (0, 0)) ∧ z3.heap[N]? = some (.cells #[.int .i32 1, .int .u32 0, .int .i64 c.n, .bool c.chain, .int .i64 c.liars, s1.treeV, s1.peersV, s1.net, s1.said, s1.pend] 120 (0, 0)) := ⟨(hg2.block b (Array.getElem?_eq_some_iff.1 hS2.1).1 (fun e => by have := hbk _ e.symm; have := HNE.out; omega)).trans hS2.1, (hg2.block N (Array.getElem?_eq_some_iff.1 hS2.2).1 (fun e => hNk _ e.symm rfl)).trans hS2.2⟩
      have HV : Hid (z3.ownsRow lo 43 3 (.slice (some ⟨g2, 0, none⟩) (c.pend.length + 1) cap2) (c.pend.length + 1) (flatR cmdF c.pend ++ cmdF x)) := ho2
      have HO3 : Hid (OwnC lo z3.heap.size z3 { c with pend := c.pend ++ [x] } { s1 with pend := .slice (some ⟨g2, 0, none⟩) (c.pend.length + 1) cap2 }) := HOZ.out.1.setPend hg2 (by have := HOZ.out.2; have := hg2.size; omega) (Nat.le_refl _) (by rw [List.length_append, flatR_append]; simpa [flatR] using ho2) (fun k e => by
        cases e
        rcases hwh with h | h
        · exact Or.inl h
        · exact Or.inr ⟨by rw [h]; exact HOZ.out.2, hlt2⟩) HNE.out.2.1
      have HF3 : Hid (FrS (fun k => k = N ∨ lo ≤ k) w1 z3) := ((FrS.of_below (bt HBE.out HBZ.out)).trans (FrS.of_grown hg2 (fun k e => Or.inr (hbk k e).1)) : FrS (fun k => k = N ∨ lo ≤ k) w1 z3)
      clear ho2 hg2 hwh hlt2 hbk hNk hS2 HN7 HOZ
      refine ⟨fun _ => hS3, ?_⟩
      simp only [Act.put, List.setIfInBounds_toArray, List.set_cons_zero, List.set_cons_succ]
      refine p_take (j := 9) (e' := some 24) (v := .pointer (some ⟨N, 2, none⟩)) rfl rfl (by kernel_rfl) (by kernel_rfl) (by kernel_rfl) (by kernel_rfl) (by kernel_rfl) (fun _ _ _ h => h) (Or.inl ⟨by rfl, ?_⟩) hS3 ?_
      · intro x hx
        go_simp
        try with_reducible rfl
      simp only [Act.put, List.setIfInBounds_toArray, List.set_cons_zero, List.set_cons_succ]
      refine p_take (j := 10) (e' := some 25) (v := .pointer (some ⟨N, 9, none⟩)) rfl rfl (by kernel_rfl) (by kernel_rfl) (by kernel_rfl) (by kernel_rfl) (by kernel_rfl) (fun _ _ _ h => h) (Or.inl ⟨by rfl, ?_⟩) hS3 ?_
      · intro x hx
        go_simp
        try with_reducible rfl
      simp only [Act.put, List.setIfInBounds_toArray, List.set_cons_zero, List.set_cons_succ]
      refine p_cell (s := 11) (N := N) (o := 9) (u := .slice (some ⟨g2, 0, none⟩) (c.pend.length + 1) cap2) (old := #[.int .i32 1, .int .u32 0, .int .i64 c.n, .bool c.chain, .int .i64 c.liars, s1.treeV, s1.peersV, s1.net, s1.said, s1.pend]) (new := #[.int .i32 1, .int .u32 0, .int .i64 c.n, .bool c.chain, .int .i64 c.liars, s1.treeV, s1.peersV, s1.net, s1.said, .slice (some ⟨g2, 0, none⟩) (c.pend.length + 1) cap2]) rfl rfl rfl rfl (by kernel_rfl) rfl rfl hS3.2 (by kernel_rfl) (by simp) rfl rfl ?_
      intro z4 hg hk4
      have HI : Hid (InH N lo w1 z4 1 { c with pend := c.pend ++ [x] } { s1 with pend := .slice (some ⟨g2, 0, none⟩) (c.pend.length + 1) cap2 }) := ⟨hk4, (HO3.out.hallT hS3.2 hg).wide hg.size (Nat.le_refl _), HF3.out.trans (FrS.of_grown hg (fun k e => by cases e; exact Or.inl rfl))⟩
      clear hg hk4 hS3 HV HO3 HF3
      refine ⟨fun h => (by cases h), ?_⟩
      refine wpAnyP_done (by kernel_rfl) ?_ _
      go_wp2
      go_ret
      rw [HE.out]
      exact ⟨rfl, _, HI.out⟩
    · have HE : Hid (offerC c x = (c, false)) := if_neg (fun h => hlt h.2)
      have h8 : (8 : Int) ≤ (c.pend.length : Int) := by omega
      go_wp2_with fail
      go_ret
      rw [HE.out]
      refine ⟨rfl, s1, ?_⟩
      exact ⟨HBX.out.2, (HO.out.below HBE.out).wide (Nat.le_trans HO.out.size HBE.out.size) (Nat.le_refl _), FrS.of_below HBE.out⟩
set_option maxRecDepth 100000 in
set_option maxHeartbeats 8000000 in
theorem offer_i (c : CU) (s : CW) (lo hi : Nat) (x : CM) (w : World) (hO : OwnC lo hi w c s) (hk : okC c) (hx : (x.2.1.size : Int) ≤ 1048576) :
    Calls Tryz.prog 10 #[clusV c s, cmdV x] w fun e w' => ∃ s', e = .returned (.tuple #[clusV ((offerC c x).1) s', .bool ((offerC c x).2)]) ∧ OwnC w.heap.size w'.heap.size w' ((offerC c x).1) s' ∧ Below w.heap.size w w' := by
  have HO := hid hO
  have HK := hid hk
  obtain ⟨C2, hC2⟩ : ∃ C2, C2 = (offerC c x).1 := ⟨_, rfl⟩
  obtain ⟨B2, hB2⟩ : ∃ B2, B2 = (offerC c x).2 := ⟨_, rfl⟩
  rw [← hC2, ← hB2]
  obtain ⟨W, hW⟩ : ∃ W, W = ((w.alloc (.cells (clusA c s) 39)).alloc (.cells #[.int .i64 x.1, .string x.2.1, .int .i64 x.2.2] 43)).alloc (.cells zeroC 39) := ⟨_, rfl⟩
  have hC : Below w.heap.size w W ∧ W.heap[w.heap.size]? = some (.cells (clusA c s) 39 (0, 0)) ∧ W.heap[w.heap.size + 1 + 1]? = some (.cells zeroC 39 (0, 0)) ∧ W.heap[w.heap.size + 1]? = some (.cells #[.int .i64 x.1, .string x.2.1, .int .i64 x.2.2] 43 (0, 0)) := by
    rw [hW]; exact ⟨ba (ba (ba (Below.refl _ _) _) _) _, (alloc3 w _ _ _).1, (alloc3 w _ _ _).2.2, (alloc3 w _ _ _).2.1⟩
  have HC := hid hC
  have HCW : Hid (w.heap.size + 1 + 1 < W.heap.size) := (Array.getElem?_eq_some_iff.1 hC.2.2.1).1
  clear hO hk hC
  unfold zeroC at hW
  have HX := hid hx
  clear hx
  unfold cmdV
  go_enter Tryz.func10, Tryz.ntmps10
  go_wp2
  rw [← hW]
  clear hW
  refine wp_region_H (fun y => y.heap[w.heap.size]? = some (.cells (clusA c s) 39 (0, 0)) ∧ y.heap[w.heap.size + 1]? = some (.cells #[.int .i64 x.1, .string x.2.1, .int .i64 x.2.2] 43 (0, 0))) (by kernel_rfl) ?_
  show wpAnyH Tryz.prog _ _ _ _ (7 + 1) (Array.replicate 8 false) _ _
  have hS : W.drew.heap[w.heap.size]? = some (.cells (clusA c s) 39 (0, 0)) ∧ W.drew.heap[w.heap.size + 1]? = some (.cells #[.int .i64 x.1, .string x.2.1, .int .i64 x.2.2] 43 (0, 0)) := ⟨HC.out.2.1, HC.out.2.2.2⟩
  refine h_take (j := 0) (e' := some 6) (v := .agg (clusA c s)) rfl rfl (by kernel_rfl) (by kernel_rfl) (by kernel_rfl) (fun _ _ _ h => h) (Or.inl ⟨by rfl, ?_⟩) hS ?_
  · exact fun y hy => exec_load_blk _ _ rfl w.heap.size rfl _ _ _ _ hy.1 Tryz.underlying39 rfl (by kernel_rfl)
  simp only [Act.put, List.setIfInBounds_toArray, List.set_cons_zero, List.set_cons_succ]
  refine h_take (j := 1) (e' := some 7) (v := .agg #[.int .i64 x.1, .string x.2.1, .int .i64 x.2.2]) rfl rfl (by kernel_rfl) (by kernel_rfl) (by kernel_rfl) (fun _ _ _ h => h) (Or.inl ⟨by rfl, ?_⟩) hS ?_
  · exact fun y hy => exec_load_blk _ _ rfl (w.heap.size + 1) rfl _ _ _ _ hy.2 Tryz.underlying43 rfl (by kernel_rfl)
  simp only [Act.put, List.setIfInBounds_toArray, List.set_cons_zero, List.set_cons_succ]
  refine h_call (c := 2) (e' := some 8) (fn := 29) (args := #[.agg #[.int .i64 x.1, .string x.2.1, .int .i64 x.2.2]]) rfl rfl (by kernel_rfl) (by rfl) ?_ ((offered_i x W.drew).mono ?_)
  · go_simp
    try with_reducible rfl
  rintro e x1 ⟨rfl, hx1⟩
  have hb : Below W.heap.size W x1 := by rw [hx1]; exact ((Below.refl _ _).drew).trans (alloc_below W.drew _)
  have hbx : x1.heap[W.heap.size]? = some (.cells #[.int .i64 x.1, .string x.2.1, .int .i64 x.2.2] 43 (0, 0)) := by rw [hx1]; exact heap_alloc_new W.drew _
  have HX1 : Hid (Below w.heap.size w x1 ∧ x1.heap[w.heap.size]? = some (.cells (clusA c s) 39 (0, 0)) ∧ x1.heap[w.heap.size + 1 + 1]? = some (.cells zeroC 39 (0, 0)) ∧ OwnC lo hi x1 c s) := ⟨bt HC.out.1 hb, (hb.block _ (Array.getElem?_eq_some_iff.1 HC.out.2.1).1).trans HC.out.2.1, (hb.block _ (Array.getElem?_eq_some_iff.1 HC.out.2.2.1).1).trans HC.out.2.2.1, (HO.out.below HC.out.1).below hb⟩
  have HST := hid (stepped_i 60 offered_e (.pointer (some ⟨W.heap.size, 0, none⟩)) c C2 s B2 lo hi x1 HX1.out.2.2.2 HK.out (by rw [hC2, hB2]; exact offered_step c x W.heap.size x1 hbx HK.out.pend.1 HX.out))
  have hS1 : x1.heap[w.heap.size]? = some (.cells (clusA c s) 39 (0, 0)) ∧ x1.heap[w.heap.size + 1]? = some (.cells #[.int .i64 x.1, .string x.2.1, .int .i64 x.2.2] 43 (0, 0)) := ⟨HX1.out.2.1, (hb.block _ (Array.getElem?_eq_some_iff.1 HC.out.2.2.2).1).trans HC.out.2.2.2⟩
  have hs : w.heap.size + 1 + 1 < x1.heap.size := (Array.getElem?_eq_some_iff.1 HX1.out.2.2.1).1
  have HSZ := hid hs
  clear hb hbx hx1 hS HC hs hC2 hB2 HX
  refine ⟨_, rfl, hS1, ?_⟩
  simp only [Act.put, List.setIfInBounds_toArray, List.set_cons_zero, List.set_cons_succ]
  refine h_call (c := 3) (e' := some 9) (fn := 28) (args := #[clusV c s, .func (.func 60) #[] #[.pointer (some ⟨W.heap.size, 0, none⟩)]]) rfl rfl (by kernel_rfl) (by rfl) ?_ (HST.out.mono ?_)
  · go_simp
    try with_reducible rfl
  rintro e x2 ⟨s2, rfl, ho, hb⟩
  have hS2 : x2.heap[w.heap.size]? = some (.cells (clusA c s) 39 (0, 0)) ∧ x2.heap[w.heap.size + 1]? = some (.cells #[.int .i64 x.1, .string x.2.1, .int .i64 x.2.2] 43 (0, 0)) := ⟨(hb.block _ (by have := HSZ.out; omega)).trans HX1.out.2.1, (hb.block _ (by have := HSZ.out; omega)).trans hS1.2⟩
  have hold : x2.heap[w.heap.size + 1 + 1]? = some (.cells zeroC 39 (0, 0)) := (hb.block _ HSZ.out).trans HX1.out.2.2.1
  have hb2 : Below w.heap.size w x2 := bt HX1.out.1 hb
  clear hS1 HST
  refine ⟨_, rfl, hS2, ?_⟩
  simp only [Act.put, List.setIfInBounds_toArray, List.set_cons_zero, List.set_cons_succ]
  refine h_take (j := 4) (e' := some 10) (v := clusV C2 s2) rfl rfl (by kernel_rfl) (by kernel_rfl) (by kernel_rfl) (fun _ _ _ h => h) (Or.inl ⟨by rfl, ?_⟩) hS2 ?_
  · intro x hx; go_simp; try with_reducible rfl
  simp only [Act.put, List.setIfInBounds_toArray, List.set_cons_zero, List.set_cons_succ]
  refine h_take (j := 5) (e' := some 11) (v := .bool B2) rfl rfl (by kernel_rfl) (by kernel_rfl) (by kernel_rfl) (fun _ _ _ h => h) (Or.inl ⟨by rfl, ?_⟩) hS2 ?_
  · intro x hx; go_simp; try with_reducible rfl
  simp only [Act.put, List.setIfInBounds_toArray, List.set_cons_zero, List.set_cons_succ]
  refine h_store (s := 6) (N := w.heap.size + 1 + 1) (cells := clusA C2 s2) rfl rfl rfl rfl (by kernel_rfl) rfl rfl hold (by kernel_rfl) rfl (clusA_one ho) ?_
  intro y hgr hnew
  have hS3 : y.heap[w.heap.size]? = some (.cells (clusA c s) 39 (0, 0)) ∧ y.heap[w.heap.size + 1]? = some (.cells #[.int .i64 x.1, .string x.2.1, .int .i64 x.2.2] 43 (0, 0)) := ⟨(hgr.block _ (Array.getElem?_eq_some_iff.1 hS2.1).1 (fun e => by have := Option.some.inj e; omega)).trans hS2.1, (hgr.block _ (Array.getElem?_eq_some_iff.1 hS2.2).1 (fun e => by have := Option.some.inj e; omega)).trans hS2.2⟩
  have HBz : Hid (Below w.heap.size w y ∧ y.heap[w.heap.size + 1 + 1]? = some (.cells (clusA C2 s2) 39 (0, 0)) ∧ OwnC w.heap.size y.heap.size y C2 s2) := ⟨hb2.grown hgr hb2.size (fun k hk => by cases hk; omega), hnew, ((ho.boxT hold hgr).low (by have := HSZ.out; omega)).wide hgr.size (Nat.le_refl _)⟩
  clear hgr hnew ho hb hb2 hold hS2
  refine ⟨hS3, ?_⟩
  refine h_take (j := 7) (e' := some 5) (v := .bool B2) rfl rfl (by kernel_rfl) (by kernel_rfl) (by kernel_rfl) (fun _ _ _ h => h) (Or.inl ⟨by rfl, ?_⟩) hS3 ?_
  · intro x hx; go_simp; try with_reducible rfl
  simp only [Act.put, List.setIfInBounds_toArray, List.set_cons_zero, List.set_cons_succ]
  refine wpAnyH_done (by kernel_rfl) ?_ _
  clear hS3
  go_wp2
  refine bodyPost_ret (v := .tuple #[.agg (clusA C2 s2), .bool B2]) (results_ct Tryz.results10 _ _ (w.heap.size + 1 + 1) 39 _ (0, 0) _ _ rfl HBz.out.2.1 Tryz.underlying39 rfl (by kernel_rfl) rfl) rfl ?_
  exact ⟨s2, rfl, HBz.out.2.2, HBz.out.1⟩
theorem offer_coni : ConO 10 offerC := fun c s lo hi x w ho hk _ _ hx => offer_i c s lo hi x w ho hk hx
theorem offer_con : ConO 7 offerC := fun c s lo hi x w ho hk _ _ hx => offer_s c s lo hi x w ho hk hx
theorem offer_fit : FitO offerC := fun c x hk hw hx => by
  unfold offerC
  split
  · rename_i h
    refine ⟨⟨hk.tree, hk.lpeers, hk.peers, hk.net, hk.said, ?_, ?_⟩, ?_⟩
    · show ((c.pend ++ [x]).length : Int) ≤ 1048576
      rw [List.length_append, List.length_singleton]
      have := h.2
      omega
    · intro y hy
      rcases List.mem_append.1 hy with hy | hy
      · exact hk.pend.2 y hy
      · simp at hy
        subst hy
        exact hx
    · unfold wtCl at hw ⊢
      simp only [List.length_append, List.length_singleton]
      omega
  · show okC c ∧ wtCl c ≤ 1200000
    exact ⟨hk, by omega⟩

end Go.Proofs.YtjieklilojmifatGreat
