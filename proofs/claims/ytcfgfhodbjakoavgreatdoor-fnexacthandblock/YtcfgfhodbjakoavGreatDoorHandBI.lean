/-
  A block that is put in by hand: the contracts of the program's handedBlock, tried and HandBlock. (Made by ghb16.py.)
-/
import Derived.Test.YtcfgfhodbjakoavGreatDoorHallK
import Derived.Test.YtcfgfhodbjakoavGreatDoorCheckI
import Derived.Test.YtcfgfhodbjakoavGreatDoorRegH
import Derived.Test.YtcfgfhodbjakoavGreatDoorFloatY
import Derived.Test.YtcfgfhodbjakoavGreatDoorFloatP
import Derived.Test.YtcfgfhodbjakoavGreatDoorClusW
import Derived.Test.YtcfgfhodbjakoavGreatDoorPutBI2
import Derived.Test.YtcfgfhodbjakoavGreatDoorJ3
namespace Go.Proofs.YtcfgfhodbjakoavGreatDoor
open Go.RowKit Num

theorem handed_e (args : Array Value) (w : World) : (callFunc 97 args).run Tryz.prog w = .ok (.enter 97 args) w := Go.MuLone.run_callFunc_enter Tryz.func97 (by kernel_rfl) rfl args w
theorem tried_e (args : Array Value) (w : World) : (callFunc 82 args).run Tryz.prog w = .ok (.enter 82 args) w := Go.MuLone.run_callFunc_enter Tryz.func82 (by kernel_rfl) rfl args w
def qcL (q : QC) : List Value := [.int .i64 q.1, .int .i64 q.2.1, .int .i64 q.2.2.1, .int .i64 q.2.2.2]
theorem blk_just {w : World} {n : Nat} {b : BK} {cv : Value} {t : TypeId} (h : w.heap[n]? = some (.cells (blkA b cv) t (0, 0))) : w.rangeAt n 3 (qcL b.2.2) := fun j v hj => by
  refine blk_cell h (3 + j) v ?_
  match j, hj with
  | 0, h => exact h
  | 1, h => exact h
  | 2, h => exact h
  | 3, h => exact h
  | j + 4, h => simp [qcL] at h
theorem range_samH {w w' : World} {g o : Nat} {cs : List Value} (h : w'.heap[g]? = w.heap[g]?) (hr : w.rangeAt g o cs) : w'.rangeAt g o cs := fun j v hj => by
  have h1 := hr j v hj
  simp only [World.cell?] at h1 ⊢
  rw [h]
  exact h1
/-- what the closure of handedBlock tells, and what becomes of the cluster -/
def HandOk (c : CU) (b : BK) (Bb : Nat) (w : World) : Prop := ∀ (w1 : World) (N lo hi : Nat) (s1 : CW), Below w.heap.size w w1 → HallAt w1 N 1 c s1 → OwnC lo hi w1 c s1 → w.heap.size ≤ lo → lo ≤ hi → w.heap.size ≤ N → Calls Tryz.prog 97 #[.pointer (some ⟨N, 2, none⟩), .pointer (some ⟨Bb, 0, none⟩)] w1 fun e w' => e = .returned (errV (handCode c b)) ∧ ∃ s', InH N lo w1 w' 1 (handCu c b) s'
set_option maxRecDepth 100000 in
set_option maxHeartbeats 16000000 in
theorem handed_step (c : CU) (b : BK) (cb : Value) (Bb : Nat) (w : World) (hbx : w.heap[Bb]? = some (.cells (blkA b cb) 61 (0, 0))) (hB : RowsR w cb 3 cmdF b.2.1) (hk : okC c) (hg : goodC c) (hkb : okB b) (hq : wfQ b.2.2) : HandOk c b Bb w := fun w1 N lo hi s1 hb0 hbox hown hw1 hlo hw2 => by
  have HOK := hid hk
  have HKB := hid hkb
  have HB0 := hid hb0
  have HBOX := hid hbox
  have HOW := hid hown
  have HLO : Hid (w.heap.size ≤ lo ∧ lo ≤ hi ∧ w.heap.size ≤ N ∧ hi ≤ w1.heap.size) := ⟨hw1, hlo, hw2, hown.size⟩
  have HSZ : Hid (N < w1.heap.size ∧ Bb < w1.heap.size) := ⟨(Array.getElem?_eq_some_iff.1 hbox).1, Nat.lt_of_lt_of_le (Array.getElem?_eq_some_iff.1 hbx).1 hb0.size⟩
  have HS : Hid (w1.drew.rangeAt N 2 (clusL c s1) ∧ w1.drew.heap[Bb]? = some (.cells (blkA b cb) 61 (0, 0))) := ⟨hall_range hbox, (hb0.block _ (Array.getElem?_eq_some_iff.1 hbx).1).trans hbx⟩
  have HCB : Hid (RowsR w1 cb 3 cmdF b.2.1) := hB.below hb0
  have HCK := hid (checkQc_i c s1 b.2.2 w1.drew (hown.reads.below (Below.refl _ _).drew) hk hg hq)
  clear hbx hB hk hg hkb hq hb0 hbox hown hw1 hlo hw2
  obtain ⟨R, hR⟩ : ∃ R, R = qcCode c b.2.2 := ⟨_, rfl⟩
  have HR : Hid (qcCode c b.2.2 = R) := hR.symm
  rw [← hR] at HCK
  clear hR
  by_cases hr : R = 0
  · have HV : Hid (errV R = .nilIface) := if_pos hr
    rw [HV.out] at HCK
    obtain ⟨A, hA⟩ : ∃ A, A = putAt c.tree b := ⟨_, rfl⟩
    have HPA : Hid (putAt c.tree b = A) := hA.symm
    by_cases ha : A = -1
    · have HC : Hid (errV (handCode c b) = .iface 129 (.agg #[.int .i64 6]) ∧ handCu c b = c) := (by
        have h6 : handCode c b = 6 := by unfold handCode; rw [HR.out, if_pos hr, HPA.out, if_pos ha]
        exact ⟨by rw [h6]; rfl, by unfold handCu; rw [h6]; rfl⟩ : _ ∧ _)
      have ha1 : (A == (-1 : Int)) = true := by simpa using ha
      clear hA ha hr
      go_enter Tryz.func97, Tryz.ntmps97
      go_wp2
      refine wp_region_H (fun x => x.rangeAt N 2 (clusL c s1) ∧ x.heap[Bb]? = some (.cells (blkA b cb) 61 (0, 0))) (by kernel_rfl) ?_
      show wpAnyH Tryz.prog _ _ _ _ (6 + 1) (Array.replicate 7 false) _ _
      have hS : w1.drew.rangeAt N 2 (clusL c s1) ∧ w1.drew.heap[Bb]? = some (.cells (blkA b cb) 61 (0, 0)) := HS.out
      refine h_take (j := 0) (e' := some 7) (v := .pointer (some ⟨N, 2, none⟩)) rfl rfl (by kernel_rfl) (by kernel_rfl) (by kernel_rfl) (fun _ _ _ h => h) (Or.inl ⟨by rfl, ?_⟩) hS ?_
      · intro x hx
        go_simp
        try with_reducible rfl
      simp only [Act.put, List.setIfInBounds_toArray, List.set_cons_zero, List.set_cons_succ]
      refine h_take (j := 1) (e' := some 8) (v := .pointer (some ⟨N, 2, none⟩)) rfl rfl (by kernel_rfl) (by kernel_rfl) (by kernel_rfl) (fun _ _ _ h => h) (Or.inl ⟨by rfl, ?_⟩) hS ?_
      · intro x hx
        go_simp
        try with_reducible rfl
      simp only [Act.put, List.setIfInBounds_toArray, List.set_cons_zero, List.set_cons_succ]
      refine h_take (j := 2) (e' := some 9) (v := clusV c s1) rfl rfl (by kernel_rfl) (by kernel_rfl) (by kernel_rfl) (fun _ _ _ h => h) (Or.inl ⟨by rfl, fun x hx => exec_load_mid _ _ rfl N 2 rfl (clusL c s1) _ hx.1 Tryz.underlying43 rfl (by kernel_rfl)⟩) hS ?_
      simp only [Act.put, List.setIfInBounds_toArray, List.set_cons_zero, List.set_cons_succ]
      refine h_take (j := 3) (e' := some 10) (v := .pointer (some ⟨Bb, 3, none⟩)) rfl rfl (by kernel_rfl) (by kernel_rfl) (by kernel_rfl) (fun _ _ _ h => h) (Or.inl ⟨by rfl, ?_⟩) hS ?_
      · intro x hx
        go_simp
        try with_reducible rfl
      simp only [Act.put, List.setIfInBounds_toArray, List.set_cons_zero, List.set_cons_succ]
      refine h_take (j := 4) (e' := some 11) (v := qcVal b.2.2) rfl rfl (by kernel_rfl) (by kernel_rfl) (by kernel_rfl) (fun _ _ _ h => h) (Or.inl ⟨by rfl, fun x hx => exec_load_mid _ _ rfl Bb 3 rfl (qcL b.2.2) _ (blk_just hx.2) Tryz.underlying45 rfl (by kernel_rfl)⟩) hS ?_
      simp only [Act.put, List.setIfInBounds_toArray, List.set_cons_zero, List.set_cons_succ]
      refine h_call (c := 5) (e' := some 12) (fn := 73) (args := #[clusV c s1, qcVal b.2.2]) rfl rfl (by kernel_rfl) (by rfl) ?_ (HCK.out.mono ?_)
      · go_simp
        try with_reducible rfl
      rintro e x1 ⟨rfl, hb⟩
      have HB1 : Hid (Below w1.heap.size w1 x1) := ((Below.refl _ _).drew).trans hb
      have HS1 : Hid (x1.rangeAt N 2 (clusL c s1) ∧ x1.heap[Bb]? = some (.cells (blkA b cb) 61 (0, 0))) := ⟨range_samH (hb.block N HSZ.out.1) hS.1, (hb.block Bb HSZ.out.2).trans hS.2⟩
      clear hb hS HCK HS
      refine ⟨_, rfl, HS1.out, ?_⟩
      simp only [Act.put, List.setIfInBounds_toArray, List.set_cons_zero, List.set_cons_succ]
      refine h_take (j := 6) (e' := some 4) (v := .nilIface) rfl rfl (by kernel_rfl) (by kernel_rfl) (by kernel_rfl) (fun _ _ _ h => h) (Or.inl ⟨by rfl, ?_⟩) HS1.out ?_
      · intro x hx
        go_simp
        try with_reducible rfl
      simp only [Act.put, List.setIfInBounds_toArray, List.set_cons_zero, List.set_cons_succ]
      refine wpAnyH_done (by kernel_rfl) ?_ _
      go_wp2
      refine wp_region_H (fun x => x.rangeAt N 2 (clusL c s1) ∧ x.heap[Bb]? = some (.cells (blkA b cb) 61 (0, 0))) (by kernel_rfl) ?_
      show wpAnyH Tryz.prog _ _ _ _ (10 + 1) (Array.replicate 11 false) _ _
      have hS : x1.drew.rangeAt N 2 (clusL c s1) ∧ x1.drew.heap[Bb]? = some (.cells (blkA b cb) 61 (0, 0)) := HS1.out
      refine h_take (j := 0) (e' := some 17) (v := .pointer (some ⟨N, 2, none⟩)) rfl rfl (by kernel_rfl) (by kernel_rfl) (by kernel_rfl) (fun _ _ _ h => h) (Or.inl ⟨by rfl, ?_⟩) hS ?_
      · intro x hx
        go_simp
        try with_reducible rfl
      simp only [Act.put, List.setIfInBounds_toArray, List.set_cons_zero, List.set_cons_succ]
      refine h_take (j := 1) (e' := some 18) (v := .pointer (some ⟨N, 2, none⟩)) rfl rfl (by kernel_rfl) (by kernel_rfl) (by kernel_rfl) (fun _ _ _ h => h) (Or.inl ⟨by rfl, ?_⟩) hS ?_
      · intro x hx
        go_simp
        try with_reducible rfl
      simp only [Act.put, List.setIfInBounds_toArray, List.set_cons_zero, List.set_cons_succ]
      refine h_take (j := 2) (e' := some 19) (v := .pointer (some ⟨N, 5, none⟩)) rfl rfl (by kernel_rfl) (by kernel_rfl) (by kernel_rfl) (fun _ _ _ h => h) (Or.inl ⟨by rfl, ?_⟩) hS ?_
      · intro x hx
        go_simp
        try with_reducible rfl
      simp only [Act.put, List.setIfInBounds_toArray, List.set_cons_zero, List.set_cons_succ]
      refine h_take (j := 3) (e' := some 20) (v := s1.treeV) rfl rfl (by kernel_rfl) (by kernel_rfl) (by kernel_rfl) (fun _ _ _ h => h) (Or.inl ⟨by rfl, ?_⟩) hS ?_
      · intro x hx
        have c5 : x.cell? ⟨N, 5, none⟩ = some s1.treeV := hx.1 3 s1.treeV rfl
        go_simp
        try with_reducible rfl
      simp only [Act.put, List.setIfInBounds_toArray, List.set_cons_zero, List.set_cons_succ]
      refine h_take (j := 4) (e' := some 21) (v := blkV b cb) rfl rfl (by kernel_rfl) (by kernel_rfl) (by kernel_rfl) (fun _ _ _ h => h) (Or.inl ⟨by rfl, fun x hx => exec_load_blk _ _ rfl Bb rfl _ _ _ _ hx.2 Tryz.underlying61 rfl (by kernel_rfl)⟩) hS ?_
      simp only [Act.put, List.setIfInBounds_toArray, List.set_cons_zero, List.set_cons_succ]
      have hput := putBlock_i s1.tree s1.treeV b cb x1.drew ((HOW.out.below HB1.out).tree.read.below (Below.refl _ _).drew) ((HCB.out.below HB1.out).below (Below.refl _ _).drew) (by rw [HOW.out.etree]; exact HOK.out.tree) HKB.out
      rw [HOW.out.etree, HPA.out] at hput
      refine h_call (c := 5) (e' := some 22) (fn := 98) (args := #[s1.treeV, blkV b cb]) rfl rfl (by kernel_rfl) (by rfl) ?_ (hput.mono ?_)
      · go_simp
        try with_reducible rfl
      rintro e x2 ⟨tv, qs, rfl, hqs, hot, hb⟩
      have hb2 : Below x1.heap.size x1 x2 := ((Below.refl _ _).drew).trans hb
      have HB2 : Hid (Below w1.heap.size w1 x2) := bt HB1.out hb2
      have HT2 : Hid (bks qs = putT c.tree b ∧ OwnT x2 x1.heap.size tv qs) := ⟨hqs, hot⟩
      have HS2 : Hid (x2.rangeAt N 2 (clusL c s1) ∧ x2.heap[Bb]? = some (.cells (blkA b cb) 61 (0, 0))) := ⟨range_samH (hb2.block N (Nat.lt_of_lt_of_le HSZ.out.1 HB1.out.size)) HS1.out.1, (hb2.block Bb (Nat.lt_of_lt_of_le HSZ.out.2 HB1.out.size)).trans HS1.out.2⟩
      have HZ12 : Hid (w1.heap.size ≤ x1.heap.size ∧ x1.heap.size ≤ x2.heap.size) := ⟨HB1.out.size, hb2.size⟩
      clear hb hb2 hS hput hqs hot
      refine ⟨_, rfl, HS2.out, ?_⟩
      simp only [Act.put, List.setIfInBounds_toArray, List.set_cons_zero, List.set_cons_succ]
      refine h_take (j := 6) (e' := some 16) (v := .tuple #[tv, .int .i64 A]) rfl rfl (by kernel_rfl) (by kernel_rfl) (by kernel_rfl) (fun _ _ _ h => h) (Or.inl ⟨by rfl, ?_⟩) HS2.out ?_
      · intro x hx
        go_simp
        try with_reducible rfl
      simp only [Act.put, List.setIfInBounds_toArray, List.set_cons_zero, List.set_cons_succ]
      refine h_take (j := 7) (e' := some 23) (v := tv) rfl rfl (by kernel_rfl) (by kernel_rfl) (by kernel_rfl) (fun _ _ _ h => h) (Or.inl ⟨by rfl, ?_⟩) HS2.out ?_
      · intro x hx
        go_simp
        try with_reducible rfl
      simp only [Act.put, List.setIfInBounds_toArray, List.set_cons_zero, List.set_cons_succ]
      refine h_take (j := 8) (e' := some 24) (v := .int .i64 A) rfl rfl (by kernel_rfl) (by kernel_rfl) (by kernel_rfl) (fun _ _ _ h => h) (Or.inl ⟨by rfl, ?_⟩) HS2.out ?_
      · intro x hx
        go_simp
        try with_reducible rfl
      simp only [Act.put, List.setIfInBounds_toArray, List.set_cons_zero, List.set_cons_succ]
      refine h_take (j := 9) (e' := some 5) (v := tv) rfl rfl (by kernel_rfl) (by kernel_rfl) (by kernel_rfl) (fun _ _ _ h => h) (Or.inl ⟨by rfl, ?_⟩) HS2.out ?_
      · intro x hx
        go_simp
        try with_reducible rfl
      simp only [Act.put, List.setIfInBounds_toArray, List.set_cons_zero, List.set_cons_succ]
      refine h_take (j := 10) (e' := some 6) (v := .int .i64 A) rfl rfl (by kernel_rfl) (by kernel_rfl) (by kernel_rfl) (fun _ _ _ h => h) (Or.inl ⟨by rfl, ?_⟩) HS2.out ?_
      · intro x hx
        go_simp
        try with_reducible rfl
      simp only [Act.put, List.setIfInBounds_toArray, List.set_cons_zero, List.set_cons_succ]
      refine wpAnyH_done (by kernel_rfl) ?_ _
      go_wp2
      go_ret
      rw [HC.out.2]
      exact ⟨(congrArg Ending.returned HC.out.1).symm, s1, (HB2.out.block N HSZ.out.1).trans HBOX.out, (HOW.out.below HB2.out).wide (Nat.le_trans HLO.out.2.2.2 HB2.out.size) (Nat.le_refl _), (FrS.of_below HB2.out)⟩
    · have HC : Hid (errV (handCode c b) = .nilIface ∧ handCu c b = { c with tree := putT c.tree b }) := (by
        have h0 : handCode c b = 0 := by unfold handCode; rw [HR.out, if_pos hr, HPA.out, if_neg ha]
        exact ⟨by rw [h0]; rfl, by unfold handCu; rw [h0]; rfl⟩ : _ ∧ _)
      have ha1 : (A == (-1 : Int)) = false := by simpa using ha
      clear hA ha hr
      go_enter Tryz.func97, Tryz.ntmps97
      go_wp2
      refine wp_region_H (fun x => x.rangeAt N 2 (clusL c s1) ∧ x.heap[Bb]? = some (.cells (blkA b cb) 61 (0, 0))) (by kernel_rfl) ?_
      show wpAnyH Tryz.prog _ _ _ _ (6 + 1) (Array.replicate 7 false) _ _
      have hS : w1.drew.rangeAt N 2 (clusL c s1) ∧ w1.drew.heap[Bb]? = some (.cells (blkA b cb) 61 (0, 0)) := HS.out
      refine h_take (j := 0) (e' := some 7) (v := .pointer (some ⟨N, 2, none⟩)) rfl rfl (by kernel_rfl) (by kernel_rfl) (by kernel_rfl) (fun _ _ _ h => h) (Or.inl ⟨by rfl, ?_⟩) hS ?_
      · intro x hx
        go_simp
        try with_reducible rfl
      simp only [Act.put, List.setIfInBounds_toArray, List.set_cons_zero, List.set_cons_succ]
      refine h_take (j := 1) (e' := some 8) (v := .pointer (some ⟨N, 2, none⟩)) rfl rfl (by kernel_rfl) (by kernel_rfl) (by kernel_rfl) (fun _ _ _ h => h) (Or.inl ⟨by rfl, ?_⟩) hS ?_
      · intro x hx
        go_simp
        try with_reducible rfl
      simp only [Act.put, List.setIfInBounds_toArray, List.set_cons_zero, List.set_cons_succ]
      refine h_take (j := 2) (e' := some 9) (v := clusV c s1) rfl rfl (by kernel_rfl) (by kernel_rfl) (by kernel_rfl) (fun _ _ _ h => h) (Or.inl ⟨by rfl, fun x hx => exec_load_mid _ _ rfl N 2 rfl (clusL c s1) _ hx.1 Tryz.underlying43 rfl (by kernel_rfl)⟩) hS ?_
      simp only [Act.put, List.setIfInBounds_toArray, List.set_cons_zero, List.set_cons_succ]
      refine h_take (j := 3) (e' := some 10) (v := .pointer (some ⟨Bb, 3, none⟩)) rfl rfl (by kernel_rfl) (by kernel_rfl) (by kernel_rfl) (fun _ _ _ h => h) (Or.inl ⟨by rfl, ?_⟩) hS ?_
      · intro x hx
        go_simp
        try with_reducible rfl
      simp only [Act.put, List.setIfInBounds_toArray, List.set_cons_zero, List.set_cons_succ]
      refine h_take (j := 4) (e' := some 11) (v := qcVal b.2.2) rfl rfl (by kernel_rfl) (by kernel_rfl) (by kernel_rfl) (fun _ _ _ h => h) (Or.inl ⟨by rfl, fun x hx => exec_load_mid _ _ rfl Bb 3 rfl (qcL b.2.2) _ (blk_just hx.2) Tryz.underlying45 rfl (by kernel_rfl)⟩) hS ?_
      simp only [Act.put, List.setIfInBounds_toArray, List.set_cons_zero, List.set_cons_succ]
      refine h_call (c := 5) (e' := some 12) (fn := 73) (args := #[clusV c s1, qcVal b.2.2]) rfl rfl (by kernel_rfl) (by rfl) ?_ (HCK.out.mono ?_)
      · go_simp
        try with_reducible rfl
      rintro e x1 ⟨rfl, hb⟩
      have HB1 : Hid (Below w1.heap.size w1 x1) := ((Below.refl _ _).drew).trans hb
      have HS1 : Hid (x1.rangeAt N 2 (clusL c s1) ∧ x1.heap[Bb]? = some (.cells (blkA b cb) 61 (0, 0))) := ⟨range_samH (hb.block N HSZ.out.1) hS.1, (hb.block Bb HSZ.out.2).trans hS.2⟩
      clear hb hS HCK HS
      refine ⟨_, rfl, HS1.out, ?_⟩
      simp only [Act.put, List.setIfInBounds_toArray, List.set_cons_zero, List.set_cons_succ]
      refine h_take (j := 6) (e' := some 4) (v := .nilIface) rfl rfl (by kernel_rfl) (by kernel_rfl) (by kernel_rfl) (fun _ _ _ h => h) (Or.inl ⟨by rfl, ?_⟩) HS1.out ?_
      · intro x hx
        go_simp
        try with_reducible rfl
      simp only [Act.put, List.setIfInBounds_toArray, List.set_cons_zero, List.set_cons_succ]
      refine wpAnyH_done (by kernel_rfl) ?_ _
      go_wp2
      refine wp_region_H (fun x => x.rangeAt N 2 (clusL c s1) ∧ x.heap[Bb]? = some (.cells (blkA b cb) 61 (0, 0))) (by kernel_rfl) ?_
      show wpAnyH Tryz.prog _ _ _ _ (10 + 1) (Array.replicate 11 false) _ _
      have hS : x1.drew.rangeAt N 2 (clusL c s1) ∧ x1.drew.heap[Bb]? = some (.cells (blkA b cb) 61 (0, 0)) := HS1.out
      refine h_take (j := 0) (e' := some 17) (v := .pointer (some ⟨N, 2, none⟩)) rfl rfl (by kernel_rfl) (by kernel_rfl) (by kernel_rfl) (fun _ _ _ h => h) (Or.inl ⟨by rfl, ?_⟩) hS ?_
      · intro x hx
        go_simp
        try with_reducible rfl
      simp only [Act.put, List.setIfInBounds_toArray, List.set_cons_zero, List.set_cons_succ]
      refine h_take (j := 1) (e' := some 18) (v := .pointer (some ⟨N, 2, none⟩)) rfl rfl (by kernel_rfl) (by kernel_rfl) (by kernel_rfl) (fun _ _ _ h => h) (Or.inl ⟨by rfl, ?_⟩) hS ?_
      · intro x hx
        go_simp
        try with_reducible rfl
      simp only [Act.put, List.setIfInBounds_toArray, List.set_cons_zero, List.set_cons_succ]
      refine h_take (j := 2) (e' := some 19) (v := .pointer (some ⟨N, 5, none⟩)) rfl rfl (by kernel_rfl) (by kernel_rfl) (by kernel_rfl) (fun _ _ _ h => h) (Or.inl ⟨by rfl, ?_⟩) hS ?_
      · intro x hx
        go_simp
        try with_reducible rfl
      simp only [Act.put, List.setIfInBounds_toArray, List.set_cons_zero, List.set_cons_succ]
      refine h_take (j := 3) (e' := some 20) (v := s1.treeV) rfl rfl (by kernel_rfl) (by kernel_rfl) (by kernel_rfl) (fun _ _ _ h => h) (Or.inl ⟨by rfl, ?_⟩) hS ?_
      · intro x hx
        have c5 : x.cell? ⟨N, 5, none⟩ = some s1.treeV := hx.1 3 s1.treeV rfl
        go_simp
        try with_reducible rfl
      simp only [Act.put, List.setIfInBounds_toArray, List.set_cons_zero, List.set_cons_succ]
      refine h_take (j := 4) (e' := some 21) (v := blkV b cb) rfl rfl (by kernel_rfl) (by kernel_rfl) (by kernel_rfl) (fun _ _ _ h => h) (Or.inl ⟨by rfl, fun x hx => exec_load_blk _ _ rfl Bb rfl _ _ _ _ hx.2 Tryz.underlying61 rfl (by kernel_rfl)⟩) hS ?_
      simp only [Act.put, List.setIfInBounds_toArray, List.set_cons_zero, List.set_cons_succ]
      have hput := putBlock_i s1.tree s1.treeV b cb x1.drew ((HOW.out.below HB1.out).tree.read.below (Below.refl _ _).drew) ((HCB.out.below HB1.out).below (Below.refl _ _).drew) (by rw [HOW.out.etree]; exact HOK.out.tree) HKB.out
      rw [HOW.out.etree, HPA.out] at hput
      refine h_call (c := 5) (e' := some 22) (fn := 98) (args := #[s1.treeV, blkV b cb]) rfl rfl (by kernel_rfl) (by rfl) ?_ (hput.mono ?_)
      · go_simp
        try with_reducible rfl
      rintro e x2 ⟨tv, qs, rfl, hqs, hot, hb⟩
      have hb2 : Below x1.heap.size x1 x2 := ((Below.refl _ _).drew).trans hb
      have HB2 : Hid (Below w1.heap.size w1 x2) := bt HB1.out hb2
      have HT2 : Hid (bks qs = putT c.tree b ∧ OwnT x2 x1.heap.size tv qs) := ⟨hqs, hot⟩
      have HS2 : Hid (x2.rangeAt N 2 (clusL c s1) ∧ x2.heap[Bb]? = some (.cells (blkA b cb) 61 (0, 0))) := ⟨range_samH (hb2.block N (Nat.lt_of_lt_of_le HSZ.out.1 HB1.out.size)) HS1.out.1, (hb2.block Bb (Nat.lt_of_lt_of_le HSZ.out.2 HB1.out.size)).trans HS1.out.2⟩
      have HZ12 : Hid (w1.heap.size ≤ x1.heap.size ∧ x1.heap.size ≤ x2.heap.size) := ⟨HB1.out.size, hb2.size⟩
      clear hb hb2 hS hput hqs hot
      refine ⟨_, rfl, HS2.out, ?_⟩
      simp only [Act.put, List.setIfInBounds_toArray, List.set_cons_zero, List.set_cons_succ]
      refine h_take (j := 6) (e' := some 16) (v := .tuple #[tv, .int .i64 A]) rfl rfl (by kernel_rfl) (by kernel_rfl) (by kernel_rfl) (fun _ _ _ h => h) (Or.inl ⟨by rfl, ?_⟩) HS2.out ?_
      · intro x hx
        go_simp
        try with_reducible rfl
      simp only [Act.put, List.setIfInBounds_toArray, List.set_cons_zero, List.set_cons_succ]
      refine h_take (j := 7) (e' := some 23) (v := tv) rfl rfl (by kernel_rfl) (by kernel_rfl) (by kernel_rfl) (fun _ _ _ h => h) (Or.inl ⟨by rfl, ?_⟩) HS2.out ?_
      · intro x hx
        go_simp
        try with_reducible rfl
      simp only [Act.put, List.setIfInBounds_toArray, List.set_cons_zero, List.set_cons_succ]
      refine h_take (j := 8) (e' := some 24) (v := .int .i64 A) rfl rfl (by kernel_rfl) (by kernel_rfl) (by kernel_rfl) (fun _ _ _ h => h) (Or.inl ⟨by rfl, ?_⟩) HS2.out ?_
      · intro x hx
        go_simp
        try with_reducible rfl
      simp only [Act.put, List.setIfInBounds_toArray, List.set_cons_zero, List.set_cons_succ]
      refine h_take (j := 9) (e' := some 5) (v := tv) rfl rfl (by kernel_rfl) (by kernel_rfl) (by kernel_rfl) (fun _ _ _ h => h) (Or.inl ⟨by rfl, ?_⟩) HS2.out ?_
      · intro x hx
        go_simp
        try with_reducible rfl
      simp only [Act.put, List.setIfInBounds_toArray, List.set_cons_zero, List.set_cons_succ]
      refine h_take (j := 10) (e' := some 6) (v := .int .i64 A) rfl rfl (by kernel_rfl) (by kernel_rfl) (by kernel_rfl) (fun _ _ _ h => h) (Or.inl ⟨by rfl, ?_⟩) HS2.out ?_
      · intro x hx
        go_simp
        try with_reducible rfl
      simp only [Act.put, List.setIfInBounds_toArray, List.set_cons_zero, List.set_cons_succ]
      refine wpAnyH_done (by kernel_rfl) ?_ _
      have HBX2 : Hid (HallAt x2 N 1 c s1) := (HB2.out.block N HSZ.out.1).trans HBOX.out
      go_wp2_with (refine wpList_store_cell rfl _ _ _ rfl N 5 tv rfl rfl _ _ HBX2.out (by kernel_rfl) (by simp [hallA]) (own_oneC HT2.out.2.row) (hallA 1 { c with tree := putT c.tree b } { s1 with treeV := tv, tree := qs }) rfl ?_; intro y hgy hk; have HY : Hid (HallAt y N 1 { c with tree := putT c.tree b } { s1 with treeV := tv, tree := qs } ∧ x2.grownBy y (some N)) := ⟨hk, hgy⟩; clear hgy hk)
      go_ret
      rw [HC.out.2]
      have hown : OwnC lo y.heap.size y { c with tree := putT c.tree b } { s1 with treeV := tv, tree := qs } := by
        have h1 := ((HOW.out.below HB2.out).setTree (v := tv) (ps := qs) (hi' := x2.heap.size) (Nat.le_trans HLO.out.2.2.2 HB2.out.size) (Nat.le_refl _) (HT2.out.2.base (by have := HLO.out; have := HZ12.out; omega)) (fun g hg => ⟨by have := (inTree_ge HT2.out.2 hg).1; have := HLO.out; have := HZ12.out; omega, (inTree_ge HT2.out.2 hg).2⟩) HLO.out.2.1)
        rw [HT2.out.1] at h1
        exact (h1.hallT HBX2.out HY.out.2).wide HY.out.2.size (Nat.le_refl _)
      exact ⟨(congrArg Ending.returned HC.out.1).symm, _, HY.out.1, hown, (FrS.of_below HB2.out).trans (FrS.of_grown HY.out.2 (fun k e => by cases e; exact Or.inl rfl))⟩
  · have HC : Hid (errV (handCode c b) = .iface 129 (.agg #[.int .i64 R]) ∧ handCu c b = c) := (by
      have h6 : handCode c b = R := by unfold handCode; rw [HR.out, if_neg hr]
      exact ⟨by rw [h6]; exact if_neg hr, by unfold handCu; rw [h6]; exact if_neg hr⟩ : _ ∧ _)
    have HV : Hid (errV R = .iface 129 (.agg #[.int .i64 R])) := if_neg hr
    rw [HV.out] at HCK
    clear hr
    go_enter Tryz.func97, Tryz.ntmps97
    go_wp2
    refine wp_region_H (fun x => x.rangeAt N 2 (clusL c s1) ∧ x.heap[Bb]? = some (.cells (blkA b cb) 61 (0, 0))) (by kernel_rfl) ?_
    show wpAnyH Tryz.prog _ _ _ _ (6 + 1) (Array.replicate 7 false) _ _
    have hS : w1.drew.rangeAt N 2 (clusL c s1) ∧ w1.drew.heap[Bb]? = some (.cells (blkA b cb) 61 (0, 0)) := HS.out
    refine h_take (j := 0) (e' := some 7) (v := .pointer (some ⟨N, 2, none⟩)) rfl rfl (by kernel_rfl) (by kernel_rfl) (by kernel_rfl) (fun _ _ _ h => h) (Or.inl ⟨by rfl, ?_⟩) hS ?_
    · intro x hx
      go_simp
      try with_reducible rfl
    simp only [Act.put, List.setIfInBounds_toArray, List.set_cons_zero, List.set_cons_succ]
    refine h_take (j := 1) (e' := some 8) (v := .pointer (some ⟨N, 2, none⟩)) rfl rfl (by kernel_rfl) (by kernel_rfl) (by kernel_rfl) (fun _ _ _ h => h) (Or.inl ⟨by rfl, ?_⟩) hS ?_
    · intro x hx
      go_simp
      try with_reducible rfl
    simp only [Act.put, List.setIfInBounds_toArray, List.set_cons_zero, List.set_cons_succ]
    refine h_take (j := 2) (e' := some 9) (v := clusV c s1) rfl rfl (by kernel_rfl) (by kernel_rfl) (by kernel_rfl) (fun _ _ _ h => h) (Or.inl ⟨by rfl, fun x hx => exec_load_mid _ _ rfl N 2 rfl (clusL c s1) _ hx.1 Tryz.underlying43 rfl (by kernel_rfl)⟩) hS ?_
    simp only [Act.put, List.setIfInBounds_toArray, List.set_cons_zero, List.set_cons_succ]
    refine h_take (j := 3) (e' := some 10) (v := .pointer (some ⟨Bb, 3, none⟩)) rfl rfl (by kernel_rfl) (by kernel_rfl) (by kernel_rfl) (fun _ _ _ h => h) (Or.inl ⟨by rfl, ?_⟩) hS ?_
    · intro x hx
      go_simp
      try with_reducible rfl
    simp only [Act.put, List.setIfInBounds_toArray, List.set_cons_zero, List.set_cons_succ]
    refine h_take (j := 4) (e' := some 11) (v := qcVal b.2.2) rfl rfl (by kernel_rfl) (by kernel_rfl) (by kernel_rfl) (fun _ _ _ h => h) (Or.inl ⟨by rfl, fun x hx => exec_load_mid _ _ rfl Bb 3 rfl (qcL b.2.2) _ (blk_just hx.2) Tryz.underlying45 rfl (by kernel_rfl)⟩) hS ?_
    simp only [Act.put, List.setIfInBounds_toArray, List.set_cons_zero, List.set_cons_succ]
    refine h_call (c := 5) (e' := some 12) (fn := 73) (args := #[clusV c s1, qcVal b.2.2]) rfl rfl (by kernel_rfl) (by rfl) ?_ (HCK.out.mono ?_)
    · go_simp
      try with_reducible rfl
    rintro e x1 ⟨rfl, hb⟩
    have HB1 : Hid (Below w1.heap.size w1 x1) := ((Below.refl _ _).drew).trans hb
    have HS1 : Hid (x1.rangeAt N 2 (clusL c s1) ∧ x1.heap[Bb]? = some (.cells (blkA b cb) 61 (0, 0))) := ⟨range_samH (hb.block N HSZ.out.1) hS.1, (hb.block Bb HSZ.out.2).trans hS.2⟩
    clear hb hS HCK HS
    refine ⟨_, rfl, HS1.out, ?_⟩
    simp only [Act.put, List.setIfInBounds_toArray, List.set_cons_zero, List.set_cons_succ]
    refine h_take (j := 6) (e' := some 4) (v := .iface 129 (.agg #[.int .i64 R])) rfl rfl (by kernel_rfl) (by kernel_rfl) (by kernel_rfl) (fun _ _ _ h => h) (Or.inl ⟨by rfl, ?_⟩) HS1.out ?_
    · intro x hx
      go_simp
      try with_reducible rfl
    simp only [Act.put, List.setIfInBounds_toArray, List.set_cons_zero, List.set_cons_succ]
    refine wpAnyH_done (by kernel_rfl) ?_ _
    go_wp2
    go_ret
    rw [HC.out.2]
    exact ⟨(congrArg Ending.returned HC.out.1).symm, s1, (HB1.out.block N HSZ.out.1).trans HBOX.out, (HOW.out.below HB1.out).wide (Nat.le_trans HLO.out.2.2.2 HB1.out.size) (Nat.le_refl _), FrS.of_below HB1.out⟩

end Go.Proofs.YtcfgfhodbjakoavGreatDoor
