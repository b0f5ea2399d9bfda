/-
  Letters posted, one lost, one doubled: the contracts of the program's steps, and of its Post, LoseAt, TwiceAt. (Made by gst15.py.)
-/
import Derived.Test.YtjieklilojmifauGreatRPutII
import Derived.Test.YtjieklilojmifauGreatRVotedS
import Derived.Test.YtjieklilojmifauGreatRFloatP
namespace Go.Proofs.YtjieklilojmifauGreatR
open Go.RowKit Num

section
variable {P : Program} {ops : Array Oper} {Q : Exit → Act → World → Prop} {md : Region.Mode} {C : World → Prop} {pend : Nat → Bool}
/-- an operation that makes memory, guarded and wanted -/
theorem p_runW {s : Nat} {os : Oper} {e' : Option Tmp} {f : Nat} {L : Array Bool} {a : Act} {w : World} (ho : ops[s]? = some os) (he : os.dst = e') (hw : Region.wanted os (yielded ops a.tmps) = true) (hr : Region.ready md ops L = [s])
    (v : Value) (w' : World) (hrun : (execOp a.eval os).run P w = .ok (.value v) w') (h : (pend s = true → C w') ∧ wpAnyP P md ops Q C pend f (L.setIfInBounds s true) (a.put e' v) w') : wpAnyP P md ops Q C pend (f + 1) L a w := by
  subst he
  refine ⟨fun h0 => (by rw [hr] at h0; cases h0), fun j hj => ?_⟩
  rw [hr] at hj
  obtain rfl : j = s := by simpa using hj
  unfold wpOp
  simp only [ho]
  rw [if_pos hw]
  refine Or.inl ?_
  unfold Oper.wp
  rw [hrun]
  exact h
end

set_option maxRecDepth 100000 in
theorem posted_i (al : Option Addr) (n cl : Nat) (w : World) :
    Calls Tryz.prog 33 #[.slice al n cl] w fun e w' => e = .returned (.func (.func 65) #[] #[.pointer (some ⟨w.heap.size, 0, none⟩)]) ∧ w' = w.alloc (.cells #[.slice al n cl] 33) := by
  have hmf : ∀ (fn : Fn) (first cap : Array Value) (w : World), (Instr.makeFunc fn first cap).run Tryz.prog w = .ok (.func fn first cap) w := fun _ _ _ _ => rfl
  go_enter Tryz.func33, Tryz.ntmps33
  go_wp2_with fail
  go_ret
  exact ⟨rfl, rfl⟩
set_option maxRecDepth 100000 in
theorem lost_i (k : Int) (w : World) :
    Calls Tryz.prog 49 #[.int .i64 k] w fun e w' => e = .returned (.func (.func 80) #[] #[.pointer (some ⟨w.heap.size, 0, none⟩)]) ∧ w' = w.alloc (.cells #[.int .i64 k] 3) := by
  have hmf : ∀ (fn : Fn) (first cap : Array Value) (w : World), (Instr.makeFunc fn first cap).run Tryz.prog w = .ok (.func fn first cap) w := fun _ _ _ _ => rfl
  go_enter Tryz.func49, Tryz.ntmps49
  go_wp2_with fail
  go_ret
  exact ⟨rfl, rfl⟩
set_option maxRecDepth 100000 in
theorem doubled_i (k : Int) (w : World) :
    Calls Tryz.prog 51 #[.int .i64 k] w fun e w' => e = .returned (.func (.func 83) #[] #[.pointer (some ⟨w.heap.size, 0, none⟩)]) ∧ w' = w.alloc (.cells #[.int .i64 k] 3) := by
  have hmf : ∀ (fn : Fn) (first cap : Array Value) (w : World), (Instr.makeFunc fn first cap).run Tryz.prog w = .ok (.func fn first cap) w := fun _ _ _ _ => rfl
  go_enter Tryz.func51, Tryz.ntmps51
  go_wp2_with fail
  go_ret
  exact ⟨rfl, rfl⟩
theorem posted_e (args : Array Value) (w : World) : (callFunc 65 args).run Tryz.prog w = .ok (.enter 65 args) w := Go.MuLone.run_callFunc_enter Tryz.func65 (by kernel_rfl) rfl args w
theorem lost_e (args : Array Value) (w : World) : (callFunc 80 args).run Tryz.prog w = .ok (.enter 80 args) w := Go.MuLone.run_callFunc_enter Tryz.func80 (by kernel_rfl) rfl args w
theorem doubled_e (args : Array Value) (w : World) : (callFunc 83 args).run Tryz.prog w = .ok (.enter 83 args) w := Go.MuLone.run_callFunc_enter Tryz.func83 (by kernel_rfl) rfl args w
set_option maxRecDepth 100000 in
set_option maxHeartbeats 4000000 in
theorem post_step (c : CU) (ls : List LT) (b : Nat) (lv : Value) (w : World) (hbx : w.heap[b]? = some (.cells #[lv] 33 (0, 0))) (hl : RowsR w lv 13 letF ls) (hk : (c.net.length : Int) ≤ 1048576) (hk2 : (ls.length : Int) ≤ 1048576) :
    StepOk 65 (.pointer (some ⟨b, 0, none⟩)) w c (postC c ls) (postB c ls) := fun w1 N lo hi s1 hb hbox hown hw1 hlo hw2 => by
  have hbl := (Array.getElem?_eq_some_iff.1 hbx).1
  have c0 : w1.cell? ⟨b, 0, none⟩ = some lv := blk_cell ((hb.block b hbl).trans hbx) 0 _ rfl
  have HP := hid (putIn_i c s1 N lo hi ls lv w1 hbox hown hlo (hl.below hb) hk hk2)
  obtain ⟨al, cl, el, -⟩ := hl
  subst el
  clear hbx hb hbox hown hbl
  go_enter Tryz.func65, Tryz.ntmps65
  go_wp2_with fail
  refine HP.out.mono ?_
  rintro e w2 ⟨rfl, s', hin⟩
  have HI := hid hin
  clear hin HP
  go_wp2
  go_ret
  exact ⟨rfl, s', HI.out⟩
set_option maxRecDepth 100000 in
set_option maxHeartbeats 4000000 in
theorem lost_step (c : CU) (k : Int) (b : Nat) (w : World) (hbx : w.heap[b]? = some (.cells #[.int .i64 k] 3 (0, 0))) (hk : (c.net.length : Int) ≤ 1048576) :
    StepOk 80 (.pointer (some ⟨b, 0, none⟩)) w c (outC c k) (outB c k) := fun w1 N lo hi s1 hb hbox hown hw1 hlo hw2 => by
  have hbl := (Array.getElem?_eq_some_iff.1 hbx).1
  have c0 : w1.cell? ⟨b, 0, none⟩ = some (.int .i64 k) := blk_cell ((hb.block b hbl).trans hbx) 0 _ rfl
  have HIS := hid (isLetter_i c s1 N lo hi k w1 hbox hown)
  have HB := hid hbox
  have HO := hid hown
  clear hbx hb hbox hown hbl
  by_cases hin : 0 ≤ k ∧ k < c.net.length
  · have HE : Hid (outC c k = { c with net := c.net.take k.toNat ++ c.net.drop (k.toNat + 1) } ∧ outB c k = true) := ⟨if_pos hin, by unfold outB; simp [hin]⟩
    obtain ⟨j, hj⟩ : ∃ j : Nat, k = (j : Int) := ⟨k.toNat, by omega⟩
    subst hj
    have hjn : j < c.net.length := by omega
    have HT := hid (takeOut_i c s1 N lo hi j c.net[j] w1 HB.out HO.out hlo hjn (List.getElem?_eq_getElem hjn) hk)
    rw [HE.out.2] at HIS ⊢
    clear hin
    go_enter Tryz.func80, Tryz.ntmps80
    go_wp2_with fail
    refine HIS.out.mono ?_
    rintro e x ⟨rfl, hx⟩
    obtain rfl := hx.symm
    clear hx HIS
    go_wp2_with fail
    refine HT.out.mono ?_
    rintro e w2 ⟨rfl, s', hin⟩
    have HI := hid hin
    clear hin HT
    go_wp2
    go_ret
    refine ⟨rfl, s', ?_⟩
    rw [HE.out.1]
    exact HI.out
  · have HE : Hid (outC c k = c ∧ outB c k = false) := ⟨if_neg hin, by unfold outB; simp only [decide_eq_false_iff_not]; exact hin⟩
    rw [HE.out.2] at HIS ⊢
    clear hin
    go_enter Tryz.func80, Tryz.ntmps80
    go_wp2_with fail
    refine HIS.out.mono ?_
    rintro e x ⟨rfl, hx⟩
    obtain rfl := hx.symm
    clear hx HIS
    go_wp2
    go_ret
    refine ⟨rfl, s1, ?_⟩
    rw [HE.out.1]
    exact ⟨HB.out, HO.out.wide HO.out.size (Nat.le_refl _), FrS.refl _ _⟩
set_option maxRecDepth 100000 in
set_option maxHeartbeats 8000000 in
theorem doubled_step (c : CU) (k : Int) (b : Nat) (w : World) (hbx : w.heap[b]? = some (.cells #[.int .i64 k] 3 (0, 0))) (hk : (c.net.length : Int) ≤ 1048576) :
    StepOk 83 (.pointer (some ⟨b, 0, none⟩)) w c (twiceC c k).1 (twiceC c k).2 := fun w1 N lo hi s1 hb hbox hown hw1 hlo hw2 => by
  have hbl := (Array.getElem?_eq_some_iff.1 hbx).1
  have HBX : Hid (w1.heap[b]? = some (.cells #[.int .i64 k] 3 (0, 0)) ∧ w1.heap[N]? = some (.cells #[.int .i32 1, .int .u32 0, .int .i64 c.n, .bool c.chain, .int .i64 c.liars, s1.treeV, s1.peersV, s1.net, s1.said, s1.pend] 122 (0, 0))) := ⟨(hb.block b hbl).trans hbx, hbox⟩
  have HIS := hid (isLetter_i c s1 N lo hi k w1.drew hbox (hown.below (Below.refl _ _).drew))
  have HB : Hid (HallAt w1 N 1 c s1) := hbox
  have HO := hid hown
  clear hbx hb hbox hown hbl
  by_cases hin : 0 ≤ k ∧ k < c.net.length
  · have hE1 : twiceC c k = (postC c (atC c k), postB c (atC c k)) := if_pos hin
    have hE2 : outB c k = true := by unfold outB; simp [hin]
    obtain ⟨j, hj⟩ : ∃ j : Nat, k = (j : Int) := ⟨k.toNat, by omega⟩
    subst hj
    have hjn : j < c.net.length := by omega
    obtain ⟨l, hl⟩ : ∃ l, l = c.net[j] := ⟨_, rfl⟩
    have hat : atC c (j : Int) = [l] := by unfold atC; simp [hjn, hl]
    rw [hat] at hE1
    have HE : Hid (twiceC c (j : Int) = (postC c [l], postB c [l])) := hE1
    rw [hE2] at HIS
    rw [HE.out]
    obtain ⟨an, cn, en, hga⟩ := own_form HO.out.net
    obtain ⟨g, rfl⟩ := hga (by omega)
    have HEN : Hid (s1.net = .slice (some ⟨g, 0, none⟩) c.net.length cn) := en
    have hon : w1.ownsRow lo 65 13 (.slice (some ⟨g, 0, none⟩) c.net.length cn) c.net.length (flatR letF c.net) := by rw [← en]; exact HO.out.net
    have HRG : Hid (w1.rangeAt g (j * 13) (letF l)) := (fun i u hu => by have := rows_news hon rfl j 1 (by omega) i u (by rw [List.drop_eq_getElem_cons hjn]; simpa [flatR, ← hl] using hu); rw [Addr.add_mid] at this; exact this : w1.rangeAt g (j * 13) (letF l))
    have q0 : (0 : Int) ≤ (j : Int) := by omega
    have q1 : (j : Int) < (c.net.length : Int) := by omega
    clear hin hjn hl hat hE1 hE2 en hga hon
    go_enter Tryz.func83, Tryz.ntmps83
    go_wp2_with fail
    refine wp_region_P (fun i => decide (i < 13)) (fun x => (x.heap[b]? = some (.cells #[.int .i64 (j : Int)] 3 (0, 0)) ∧ x.heap[N]? = some (.cells #[.int .i32 1, .int .u32 0, .int .i64 c.n, .bool c.chain, .int .i64 c.liars, s1.treeV, s1.peersV, s1.net, s1.said, s1.pend] 122 (0, 0))) ∧ x.rangeAt g (j * 13) (letF l)) (by kernel_rfl) ?_
    show wpAnyP Tryz.prog _ _ _ _ _ (15 + 1) (Array.replicate 16 false) _ _
    have hS : (w1.drew.heap[b]? = some (.cells #[.int .i64 (j : Int)] 3 (0, 0)) ∧ w1.drew.heap[N]? = some (.cells #[.int .i32 1, .int .u32 0, .int .i64 c.n, .bool c.chain, .int .i64 c.liars, s1.treeV, s1.peersV, s1.net, s1.said, s1.pend] 122 (0, 0))) ∧ w1.drew.rangeAt g (j * 13) (letF l) := ⟨HBX.out, HRG.out⟩
    refine p_take (j := 0) (e' := some 4) (v := .pointer (some ⟨N, 2, none⟩)) rfl rfl (by kernel_rfl) (by kernel_rfl) (by kernel_rfl) (by kernel_rfl) (by kernel_rfl) (fun _ _ _ h => h) (Or.inl ⟨by rfl, ?_⟩) hS ?_
    · intro x hx
      go_simp
      try with_reducible rfl
    simp only [Act.put, List.setIfInBounds_toArray, List.set_cons_zero, List.set_cons_succ]
    refine p_take (j := 1) (e' := some 5) (v := .int .i64 (j : Int)) rfl rfl (by kernel_rfl) (by kernel_rfl) (by kernel_rfl) (by kernel_rfl) (by kernel_rfl) (fun _ _ _ h => h) (Or.inl ⟨by rfl, ?_⟩) hS ?_
    · intro x hx
      have c0 := blk_cell hx.1.1 0 (.int .i64 (j : Int)) rfl
      go_simp
      try with_reducible rfl
    simp only [Act.put, List.setIfInBounds_toArray, List.set_cons_zero, List.set_cons_succ]
    refine p_call (s := 2) (e' := some 6) (fn := 81) (args := #[.pointer (some ⟨N, 2, none⟩), .int .i64 (j : Int)]) rfl rfl (by kernel_rfl) (by rfl) ?_ (HIS.out.mono ?_)
    · go_simp
      try with_reducible rfl
    rintro e x ⟨rfl, hx⟩
    obtain rfl := hx.symm
    clear hx HIS
    refine ⟨_, rfl, fun _ => hS, ?_⟩
    simp only [Act.put, List.setIfInBounds_toArray, List.set_cons_zero, List.set_cons_succ]
    refine p_take (j := 3) (e' := some 7) (v := .bool true) rfl rfl (by kernel_rfl) (by kernel_rfl) (by kernel_rfl) (by kernel_rfl) (by kernel_rfl) (fun _ _ _ h => h) (Or.inl ⟨by rfl, ?_⟩) hS ?_
    · intro x hx
      go_simp
      try with_reducible rfl
    simp only [Act.put, List.setIfInBounds_toArray, List.set_cons_zero, List.set_cons_succ]
    refine p_take (j := 4) (e' := some 8) (v := .pointer (some ⟨N, 2, none⟩)) rfl rfl (by kernel_rfl) (by kernel_rfl) (by kernel_rfl) (by kernel_rfl) (by kernel_rfl) (fun _ _ _ h => h) (Or.inl ⟨by rfl, ?_⟩) hS ?_
    · intro x hx
      go_simp
      try with_reducible rfl
    simp only [Act.put, List.setIfInBounds_toArray, List.set_cons_zero, List.set_cons_succ]
    refine p_take (j := 5) (e' := some 9) (v := .pointer (some ⟨N, 2, none⟩)) rfl rfl (by kernel_rfl) (by kernel_rfl) (by kernel_rfl) (by kernel_rfl) (by kernel_rfl) (fun _ _ _ h => h) (Or.inl ⟨by rfl, ?_⟩) hS ?_
    · intro x hx
      go_simp
      try with_reducible rfl
    simp only [Act.put, List.setIfInBounds_toArray, List.set_cons_zero, List.set_cons_succ]
    refine p_take (j := 6) (e' := some 10) (v := .pointer (some ⟨N, 2, none⟩)) rfl rfl (by kernel_rfl) (by kernel_rfl) (by kernel_rfl) (by kernel_rfl) (by kernel_rfl) (fun _ _ _ h => h) (Or.inl ⟨by rfl, ?_⟩) hS ?_
    · intro x hx
      go_simp
      try with_reducible rfl
    simp only [Act.put, List.setIfInBounds_toArray, List.set_cons_zero, List.set_cons_succ]
    refine p_take (j := 7) (e' := some 11) (v := .pointer (some ⟨N, 7, none⟩)) rfl rfl (by kernel_rfl) (by kernel_rfl) (by kernel_rfl) (by kernel_rfl) (by kernel_rfl) (fun _ _ _ h => h) (Or.inl ⟨by rfl, ?_⟩) hS ?_
    · intro x hx
      go_simp
      try with_reducible rfl
    simp only [Act.put, List.setIfInBounds_toArray, List.set_cons_zero, List.set_cons_succ]
    refine p_take (j := 8) (e' := some 12) (v := .slice (some ⟨g, 0, none⟩) c.net.length cn) rfl rfl (by kernel_rfl) (by kernel_rfl) (by kernel_rfl) (by kernel_rfl) (by kernel_rfl) (fun _ _ _ h => h) (Or.inl ⟨by rfl, ?_⟩) hS ?_
    · intro x hx
      have c0 := blk_cell hx.1.2 7 (.slice (some ⟨g, 0, none⟩) c.net.length cn) (by rw [← HEN.out]; rfl)
      go_simp
      try with_reducible rfl
    simp only [Act.put, List.setIfInBounds_toArray, List.set_cons_zero, List.set_cons_succ]
    refine p_take (j := 9) (e' := some 13) (v := .int .i64 (j : Int)) rfl rfl (by kernel_rfl) (by kernel_rfl) (by kernel_rfl) (by kernel_rfl) (by kernel_rfl) (fun _ _ _ h => h) (Or.inl ⟨by rfl, ?_⟩) hS ?_
    · intro x hx
      have c0 := blk_cell hx.1.1 0 (.int .i64 (j : Int)) rfl
      go_simp
      try with_reducible rfl
    simp only [Act.put, List.setIfInBounds_toArray, List.set_cons_zero, List.set_cons_succ]
    refine p_take (j := 10) (e' := some 14) (v := .pointer (some ⟨g, j * 13, none⟩)) rfl rfl (by kernel_rfl) (by kernel_rfl) (by kernel_rfl) (by kernel_rfl) (by kernel_rfl) (fun _ _ _ h => h) (Or.inl ⟨by rfl, ?_⟩) hS ?_
    · intro x hx
      go_simp
      try with_reducible rfl
    simp only [Act.put, List.setIfInBounds_toArray, List.set_cons_zero, List.set_cons_succ]
    refine p_take (j := 11) (e' := some 15) (v := .agg (letA l)) rfl rfl (by kernel_rfl) (by kernel_rfl) (by kernel_rfl) (by kernel_rfl) (by kernel_rfl) (fun _ _ _ h => h) (yieldsIf_load_mid (by rfl) _ _ rfl g (j * 13) rfl (letF l) _ (fun x hx => hx.2) Tryz.underlying65 rfl (by kernel_rfl)) hS ?_
    simp only [Act.put, List.setIfInBounds_toArray, List.set_cons_zero, List.set_cons_succ]
    obtain ⟨z, hz⟩ : ∃ z, z = w1.drew.alloc (.cells (letA l) 65) := ⟨_, rfl⟩
    have hbz : Below w1.heap.size w1 z := by rw [hz]; exact ((Below.refl _ _).drew).trans (alloc_below w1.drew _)
    have hnw : z.heap[w1.heap.size]? = some (.cells (letA l) 65 (0, 0)) := by rw [hz]; exact heap_alloc_new w1.drew _
    have hSz : (z.heap[b]? = some (.cells #[.int .i64 (j : Int)] 3 (0, 0)) ∧ z.heap[N]? = some (.cells #[.int .i32 1, .int .u32 0, .int .i64 c.n, .bool c.chain, .int .i64 c.liars, s1.treeV, s1.peersV, s1.net, s1.said, s1.pend] 122 (0, 0))) ∧ z.rangeAt g (j * 13) (letF l) := ⟨⟨(hbz.block _ (Array.getElem?_eq_some_iff.1 HBX.out.1).1).trans HBX.out.1, (hbz.block _ (Array.getElem?_eq_some_iff.1 HBX.out.2).1).trans HBX.out.2⟩, fun i u hu => by have := HRG.out i u hu; rw [hbz.cell (World.block_lt_of_cell? w1 _ this)]; exact this⟩
    have hrow : RowsR z (.slice (some ⟨w1.heap.size, 0, none⟩) 1 1) 13 letF [l] := ⟨some ⟨w1.heap.size, 0, none⟩, 1, rfl, fun _ => ⟨w1.heap.size, 0, rfl, (Array.getElem?_eq_some_iff.1 hnw).1, fun i hi j hj => by
      obtain rfl : i = 0 := by simpa using hi
      have := World.news_of_block hnw j
      rw [cell_of_row z w1.heap.size _ _ _ _ hnw]
      simp [letA, letF]⟩⟩
    refine p_runW (s := 12) (e' := some 16) rfl rfl (by rfl) (by kernel_rfl) (.slice (some ⟨w1.heap.size, 0, none⟩) 1 1) z ?_ ⟨fun _ => hSz, ?_⟩
    · rw [hz]
      unfold letA
      go_simp
      try with_reducible rfl
    simp only [Act.put, List.setIfInBounds_toArray, List.set_cons_zero, List.set_cons_succ]
    have HP := hid (putIn_i c s1 N lo hi [l] _ z hSz.1.2 (HO.out.below hbz) hlo hrow hk (by simp))
    have HBZ := hid hbz
    clear hz hnw hSz hrow hS hbz
    refine p_call (s := 13) (e' := some 17) (fn := 66) (args := #[.pointer (some ⟨N, 2, none⟩), .slice (some ⟨w1.heap.size, 0, none⟩) 1 1]) rfl rfl (by kernel_rfl) (by rfl) ?_ (HP.out.mono ?_)
    · go_simp
      try with_reducible rfl
    rintro e w2 ⟨rfl, s', hin⟩
    have HI : Hid (InH N lo w1 w2 1 (postC c [l]) s') := ⟨hin.box, hin.own, (FrS.of_below HBZ.out).trans hin.fr⟩
    clear hin HP
    refine ⟨_, rfl, fun h => (by cases h), ?_⟩
    simp only [Act.put, List.setIfInBounds_toArray, List.set_cons_zero, List.set_cons_succ]
    refine p_pure (j := 14) (e' := some 18) (v := .bool (postB c [l])) rfl rfl (by kernel_rfl) (by kernel_rfl) (by kernel_rfl) (by rfl) (fun _ _ _ h => h) (Or.inl ⟨by rfl, ?_⟩) ?_
    · intro x hx
      go_simp
      try with_reducible rfl
    simp only [Act.put, List.setIfInBounds_toArray, List.set_cons_zero, List.set_cons_succ]
    refine p_pure (j := 15) (e' := some 3) (v := .bool (postB c [l])) rfl rfl (by kernel_rfl) (by kernel_rfl) (by kernel_rfl) (by rfl) (fun _ _ _ h => h) (Or.inl ⟨by rfl, ?_⟩) ?_
    · intro x hx
      go_simp
      try with_reducible rfl
    simp only [Act.put, List.setIfInBounds_toArray, List.set_cons_zero, List.set_cons_succ]
    refine wpAnyP_done (by kernel_rfl) ?_ _
    go_wp2
    go_ret
    exact ⟨rfl, s', HI.out⟩
  · have hE1 : twiceC c k = (c, false) := if_neg hin
    have hE2 : outB c k = false := by unfold outB; simp only [decide_eq_false_iff_not]; exact hin
    rw [hE2] at HIS
    rw [hE1]
    clear hin hE1 hE2
    go_enter Tryz.func83, Tryz.ntmps83
    go_wp2_with fail
    refine wp_region_P (fun i => true) (fun x => x.heap[b]? = some (.cells #[.int .i64 k] 3 (0, 0)) ∧ x.heap[N]? = some (.cells #[.int .i32 1, .int .u32 0, .int .i64 c.n, .bool c.chain, .int .i64 c.liars, s1.treeV, s1.peersV, s1.net, s1.said, s1.pend] 122 (0, 0))) (by kernel_rfl) ?_
    show wpAnyP Tryz.prog _ _ _ _ _ (15 + 1) (Array.replicate 16 false) _ _
    have hS : w1.drew.heap[b]? = some (.cells #[.int .i64 k] 3 (0, 0)) ∧ w1.drew.heap[N]? = some (.cells #[.int .i32 1, .int .u32 0, .int .i64 c.n, .bool c.chain, .int .i64 c.liars, s1.treeV, s1.peersV, s1.net, s1.said, s1.pend] 122 (0, 0)) := HBX.out
    refine p_take (j := 0) (e' := some 4) (v := .pointer (some ⟨N, 2, none⟩)) rfl rfl (by kernel_rfl) (by kernel_rfl) (by kernel_rfl) (by kernel_rfl) (by kernel_rfl) (fun _ _ _ h => h) (Or.inl ⟨by rfl, ?_⟩) hS ?_
    · intro x hx
      go_simp
      try with_reducible rfl
    simp only [Act.put, List.setIfInBounds_toArray, List.set_cons_zero, List.set_cons_succ]
    refine p_take (j := 1) (e' := some 5) (v := .int .i64 k) rfl rfl (by kernel_rfl) (by kernel_rfl) (by kernel_rfl) (by kernel_rfl) (by kernel_rfl) (fun _ _ _ h => h) (Or.inl ⟨by rfl, ?_⟩) hS ?_
    · intro x hx
      have c0 := blk_cell hx.1 0 (.int .i64 k) rfl
      go_simp
      try with_reducible rfl
    simp only [Act.put, List.setIfInBounds_toArray, List.set_cons_zero, List.set_cons_succ]
    refine p_call (s := 2) (e' := some 6) (fn := 81) (args := #[.pointer (some ⟨N, 2, none⟩), .int .i64 k]) rfl rfl (by kernel_rfl) (by rfl) ?_ (HIS.out.mono ?_)
    · go_simp
      try with_reducible rfl
    rintro e x ⟨rfl, hx⟩
    obtain rfl := hx.symm
    clear hx HIS
    refine ⟨_, rfl, fun _ => hS, ?_⟩
    simp only [Act.put, List.setIfInBounds_toArray, List.set_cons_zero, List.set_cons_succ]
    refine p_take (j := 3) (e' := some 7) (v := .bool false) rfl rfl (by kernel_rfl) (by kernel_rfl) (by kernel_rfl) (by kernel_rfl) (by kernel_rfl) (fun _ _ _ h => h) (Or.inl ⟨by rfl, ?_⟩) hS ?_
    · intro x hx
      go_simp
      try with_reducible rfl
    simp only [Act.put, List.setIfInBounds_toArray, List.set_cons_zero, List.set_cons_succ]
    refine p_take (j := 4) (e' := some 8) (v := undef) rfl rfl (by kernel_rfl) (by kernel_rfl) (by kernel_rfl) (by kernel_rfl) (by kernel_rfl) (fun _ _ _ h => h) (Or.inr ⟨by rfl, rfl⟩) hS ?_
    simp only [Act.put, List.setIfInBounds_toArray, List.set_cons_zero, List.set_cons_succ]
    refine p_take (j := 5) (e' := some 9) (v := undef) rfl rfl (by kernel_rfl) (by kernel_rfl) (by kernel_rfl) (by kernel_rfl) (by kernel_rfl) (fun _ _ _ h => h) (Or.inr ⟨by rfl, rfl⟩) hS ?_
    simp only [Act.put, List.setIfInBounds_toArray, List.set_cons_zero, List.set_cons_succ]
    refine p_take (j := 6) (e' := some 10) (v := undef) rfl rfl (by kernel_rfl) (by kernel_rfl) (by kernel_rfl) (by kernel_rfl) (by kernel_rfl) (fun _ _ _ h => h) (Or.inr ⟨by rfl, rfl⟩) hS ?_
    simp only [Act.put, List.setIfInBounds_toArray, List.set_cons_zero, List.set_cons_succ]
    refine p_take (j := 7) (e' := some 11) (v := undef) rfl rfl (by kernel_rfl) (by kernel_rfl) (by kernel_rfl) (by kernel_rfl) (by kernel_rfl) (fun _ _ _ h => h) (Or.inr ⟨by rfl, rfl⟩) hS ?_
    simp only [Act.put, List.setIfInBounds_toArray, List.set_cons_zero, List.set_cons_succ]
    refine p_take (j := 8) (e' := some 12) (v := undef) rfl rfl (by kernel_rfl) (by kernel_rfl) (by kernel_rfl) (by kernel_rfl) (by kernel_rfl) (fun _ _ _ h => h) (Or.inr ⟨by rfl, rfl⟩) hS ?_
    simp only [Act.put, List.setIfInBounds_toArray, List.set_cons_zero, List.set_cons_succ]
    refine p_take (j := 9) (e' := some 13) (v := undef) rfl rfl (by kernel_rfl) (by kernel_rfl) (by kernel_rfl) (by kernel_rfl) (by kernel_rfl) (fun _ _ _ h => h) (Or.inr ⟨by rfl, rfl⟩) hS ?_
    simp only [Act.put, List.setIfInBounds_toArray, List.set_cons_zero, List.set_cons_succ]
    refine p_take (j := 10) (e' := some 14) (v := undef) rfl rfl (by kernel_rfl) (by kernel_rfl) (by kernel_rfl) (by kernel_rfl) (by kernel_rfl) (fun _ _ _ h => h) (Or.inr ⟨by rfl, rfl⟩) hS ?_
    simp only [Act.put, List.setIfInBounds_toArray, List.set_cons_zero, List.set_cons_succ]
    refine p_take (j := 11) (e' := some 15) (v := undef) rfl rfl (by kernel_rfl) (by kernel_rfl) (by kernel_rfl) (by kernel_rfl) (by kernel_rfl) (fun _ _ _ h => h) (Or.inr ⟨by rfl, rfl⟩) hS ?_
    simp only [Act.put, List.setIfInBounds_toArray, List.set_cons_zero, List.set_cons_succ]
    refine p_take (j := 12) (e' := some 16) (v := undef) rfl rfl (by kernel_rfl) (by kernel_rfl) (by kernel_rfl) (by kernel_rfl) (by kernel_rfl) (fun _ _ _ h => h) (Or.inr ⟨by rfl, rfl⟩) hS ?_
    simp only [Act.put, List.setIfInBounds_toArray, List.set_cons_zero, List.set_cons_succ]
    refine p_take (j := 13) (e' := some 17) (v := undef) rfl rfl (by kernel_rfl) (by kernel_rfl) (by kernel_rfl) (by kernel_rfl) (by kernel_rfl) (fun _ _ _ h => h) (Or.inr ⟨by rfl, rfl⟩) hS ?_
    simp only [Act.put, List.setIfInBounds_toArray, List.set_cons_zero, List.set_cons_succ]
    refine p_take (j := 14) (e' := some 18) (v := .bool false) rfl rfl (by kernel_rfl) (by kernel_rfl) (by kernel_rfl) (by kernel_rfl) (by kernel_rfl) (fun _ _ _ h => h) (Or.inl ⟨by rfl, ?_⟩) hS ?_
    · intro x hx
      go_simp
      try with_reducible rfl
    simp only [Act.put, List.setIfInBounds_toArray, List.set_cons_zero, List.set_cons_succ]
    refine p_take (j := 15) (e' := some 3) (v := .bool false) rfl rfl (by kernel_rfl) (by kernel_rfl) (by kernel_rfl) (by kernel_rfl) (by kernel_rfl) (fun _ _ _ h => h) (Or.inl ⟨by rfl, ?_⟩) hS ?_
    · intro x hx
      go_simp
      try with_reducible rfl
    simp only [Act.put, List.setIfInBounds_toArray, List.set_cons_zero, List.set_cons_succ]
    refine wpAnyP_done (by kernel_rfl) ?_ _
    go_wp2
    go_ret
    exact ⟨rfl, s1, HB.out, (HO.out.below (Below.refl _ _).drew).wide HO.out.size (Nat.le_refl _), FrS.of_below ((Below.refl _ _).drew)⟩
set_option maxRecDepth 100000 in
set_option maxHeartbeats 8000000 in
theorem post_i (c : CU) (s : CW) (lo hi : Nat) (l : List LT) (lv : Value) (w : World) (hO : OwnC lo hi w c s) (hk : okC c) (hl : RowsR w lv 13 letF l) (hl2 : (l.length : Int) ≤ 1048576) :
    Calls Tryz.prog 11 #[clusV c s, lv] w fun e w' => ∃ s', e = .returned (.tuple #[clusV (postC c l) s', .bool (postB c l)]) ∧ OwnC w.heap.size w'.heap.size w' (postC c l) s' ∧ Below w.heap.size w w' := by
  have HO := hid hO
  have HK := hid hk
  obtain ⟨C2, hC2⟩ : ∃ C2, C2 = postC c l := ⟨_, rfl⟩
  obtain ⟨B2, hB2⟩ : ∃ B2, B2 = postB c l := ⟨_, rfl⟩
  rw [← hC2, ← hB2]
  obtain ⟨W, hW⟩ : ∃ W, W = (w.alloc (.cells (clusA c s) 37)).alloc (.cells zeroC 37) := ⟨_, rfl⟩
  have hC : Below w.heap.size w W ∧ W.heap[w.heap.size]? = some (.cells (clusA c s) 37 (0, 0)) ∧ W.heap[w.heap.size + 1]? = some (.cells zeroC 37 (0, 0)) := by
    rw [hW]; exact ⟨ba (ba (Below.refl _ _) _) _, alloc2 w _ _⟩
  have HC := hid hC
  have HCW : Hid (w.heap.size + 1 < W.heap.size) := (Array.getElem?_eq_some_iff.1 hC.2.2).1
  clear hO hk hC
  unfold zeroC at hW
  have HL := hid hl
  have HL2 := hid hl2
  obtain ⟨al, cl, el, -⟩ := hl
  subst el
  clear hl2
  go_enter Tryz.func11, Tryz.ntmps11
  go_wp2
  rw [← hW]
  clear hW
  refine wp_region_H (fun x => x.heap[w.heap.size]? = some (.cells (clusA c s) 37 (0, 0))) (by kernel_rfl) ?_
  show wpAnyH Tryz.prog _ _ _ _ (7 + 1) (Array.replicate 8 false) _ _
  have hS : W.drew.heap[w.heap.size]? = some (.cells (clusA c s) 37 (0, 0)) := HC.out.2.1
  refine h_take (j := 0) (e' := some 6) (v := .agg (clusA c s)) rfl rfl (by kernel_rfl) (by kernel_rfl) (by kernel_rfl) (fun _ _ _ h => h) (Or.inl ⟨by rfl, ?_⟩) hS ?_
  · exact fun x hx => exec_load_blk _ _ rfl w.heap.size rfl _ _ _ _ hx Tryz.underlying37 rfl (by kernel_rfl)
  simp only [Act.put, List.setIfInBounds_toArray, List.set_cons_zero, List.set_cons_succ]
  refine h_take (j := 1) (e' := some 7) (v := .slice al l.length cl) rfl rfl (by kernel_rfl) (by kernel_rfl) (by kernel_rfl) (fun _ _ _ h => h) (Or.inl ⟨by rfl, ?_⟩) hS ?_
  · intro x hx; go_simp; try with_reducible rfl
  simp only [Act.put, List.setIfInBounds_toArray, List.set_cons_zero, List.set_cons_succ]
  refine h_call (c := 2) (e' := some 8) (fn := 33) (args := #[.slice al l.length cl]) rfl rfl (by kernel_rfl) (by rfl) ?_ ((posted_i al l.length cl W.drew).mono ?_)
  · go_simp
    try with_reducible rfl
  rintro e x1 ⟨rfl, hx1⟩
  have hb : Below W.heap.size W x1 := by rw [hx1]; exact ((Below.refl _ _).drew).trans (alloc_below W.drew _)
  have hbx : x1.heap[W.heap.size]? = some (.cells #[.slice al l.length cl] 33 (0, 0)) := by rw [hx1]; exact heap_alloc_new W.drew _
  have HX1 : Hid (Below w.heap.size w x1 ∧ x1.heap[w.heap.size]? = some (.cells (clusA c s) 37 (0, 0)) ∧ x1.heap[w.heap.size + 1]? = some (.cells zeroC 37 (0, 0)) ∧ OwnC lo hi x1 c s) := ⟨bt HC.out.1 hb, (hb.block _ (Array.getElem?_eq_some_iff.1 HC.out.2.1).1).trans HC.out.2.1, (hb.block _ (Array.getElem?_eq_some_iff.1 HC.out.2.2).1).trans HC.out.2.2, (HO.out.below HC.out.1).below hb⟩
  have HST := hid (stepped_i 65 posted_e (.pointer (some ⟨W.heap.size, 0, none⟩)) c C2 s B2 lo hi x1 HX1.out.2.2.2 HK.out (by rw [hC2, hB2]; exact post_step c l W.heap.size _ x1 hbx (HL.out.below (bt HC.out.1 hb)) HK.out.net HL2.out))
  have hS1 := HX1.out.2.1
  have hs : w.heap.size + 1 < x1.heap.size := (Array.getElem?_eq_some_iff.1 HX1.out.2.2.1).1
  have HSZ := hid hs
  clear hb hbx hx1 hS HC hs hC2 hB2 HL HL2
  refine ⟨_, rfl, hS1, ?_⟩
  simp only [Act.put, List.setIfInBounds_toArray, List.set_cons_zero, List.set_cons_succ]
  refine h_call (c := 3) (e' := some 9) (fn := 32) (args := #[clusV c s, .func (.func 65) #[] #[.pointer (some ⟨W.heap.size, 0, none⟩)]]) rfl rfl (by kernel_rfl) (by rfl) ?_ (HST.out.mono ?_)
  · go_simp
    try with_reducible rfl
  rintro e x2 ⟨s2, rfl, ho, hb⟩
  have hS2 : x2.heap[w.heap.size]? = some (.cells (clusA c s) 37 (0, 0)) := (hb.block _ (by have := HSZ.out; omega)).trans HX1.out.2.1
  have hold : x2.heap[w.heap.size + 1]? = some (.cells zeroC 37 (0, 0)) := (hb.block _ HSZ.out).trans HX1.out.2.2.1
  have hb2 : Below w.heap.size w x2 := bt HX1.out.1 hb
  clear hS1 HST
  refine ⟨_, rfl, hS2, ?_⟩
  simp only [Act.put, List.setIfInBounds_toArray, List.set_cons_zero, List.set_cons_succ]
  refine h_take (j := 4) (e' := some 10) (v := clusV C2 s2) rfl rfl (by kernel_rfl) (by kernel_rfl) (by kernel_rfl) (fun _ _ _ h => h) (Or.inl ⟨by rfl, ?_⟩) hS2 ?_
  · intro x hx; go_simp; try with_reducible rfl
  simp only [Act.put, List.setIfInBounds_toArray, List.set_cons_zero, List.set_cons_succ]
  refine h_take (j := 5) (e' := some 11) (v := .bool B2) rfl rfl (by kernel_rfl) (by kernel_rfl) (by kernel_rfl) (fun _ _ _ h => h) (Or.inl ⟨by rfl, ?_⟩) hS2 ?_
  · intro x hx; go_simp; try with_reducible rfl
  simp only [Act.put, List.setIfInBounds_toArray, List.set_cons_zero, List.set_cons_succ]
  refine h_store (s := 6) (N := w.heap.size + 1) (cells := clusA C2 s2) rfl rfl rfl rfl (by kernel_rfl) rfl rfl hold (by kernel_rfl) rfl (clusA_one ho) ?_
  intro y hgr hnew
  have hS3 : y.heap[w.heap.size]? = some (.cells (clusA c s) 37 (0, 0)) := (hgr.block _ (Array.getElem?_eq_some_iff.1 hS2).1 (fun e => by have := Option.some.inj e; omega)).trans hS2
  have HBz : Hid (Below w.heap.size w y ∧ y.heap[w.heap.size + 1]? = some (.cells (clusA C2 s2) 37 (0, 0)) ∧ OwnC w.heap.size y.heap.size y C2 s2) := ⟨hb2.grown hgr hb2.size (fun k hk => by cases hk; omega), hnew, ((ho.boxT hold hgr).low (by have := HSZ.out; omega)).wide hgr.size (Nat.le_refl _)⟩
  clear hgr hnew ho hb hb2 hold hS2
  refine ⟨hS3, ?_⟩
  refine h_take (j := 7) (e' := some 5) (v := .bool B2) rfl rfl (by kernel_rfl) (by kernel_rfl) (by kernel_rfl) (fun _ _ _ h => h) (Or.inl ⟨by rfl, ?_⟩) hS3 ?_
  · intro x hx; go_simp; try with_reducible rfl
  simp only [Act.put, List.setIfInBounds_toArray, List.set_cons_zero, List.set_cons_succ]
  refine wpAnyH_done (by kernel_rfl) ?_ _
  clear hS3
  go_wp2
  refine bodyPost_ret (v := .tuple #[.agg (clusA C2 s2), .bool B2]) (results_ct Tryz.results11 _ _ (w.heap.size + 1) 37 _ (0, 0) _ _ rfl HBz.out.2.1 Tryz.underlying37 rfl (by kernel_rfl) rfl) rfl ?_
  exact ⟨s2, rfl, HBz.out.2.2, HBz.out.1⟩
theorem post_coni : ConL 11 (fun c l => (postC c l, postB c l)) := fun c s lo hi l lv _ w ho hk _ _ hl hl2 _ => post_i c s lo hi l lv w ho hk (rows_of_own letF_len hl) hl2
set_option maxRecDepth 100000 in
set_option maxHeartbeats 8000000 in
theorem lose_i (c : CU) (s : CW) (lo hi : Nat) (k : Int) (w : World) (hO : OwnC lo hi w c s) (hk : okC c)  :
    Calls Tryz.prog 18 #[clusV c s, .int .i64 k] w fun e w' => ∃ s', e = .returned (.tuple #[clusV (outC c k) s', .bool (outB c k)]) ∧ OwnC w.heap.size w'.heap.size w' (outC c k) s' ∧ Below w.heap.size w w' := by
  have HO := hid hO
  have HK := hid hk
  obtain ⟨C2, hC2⟩ : ∃ C2, C2 = outC c k := ⟨_, rfl⟩
  obtain ⟨B2, hB2⟩ : ∃ B2, B2 = outB c k := ⟨_, rfl⟩
  rw [← hC2, ← hB2]
  obtain ⟨W, hW⟩ : ∃ W, W = (w.alloc (.cells (clusA c s) 37)).alloc (.cells zeroC 37) := ⟨_, rfl⟩
  have hC : Below w.heap.size w W ∧ W.heap[w.heap.size]? = some (.cells (clusA c s) 37 (0, 0)) ∧ W.heap[w.heap.size + 1]? = some (.cells zeroC 37 (0, 0)) := by
    rw [hW]; exact ⟨ba (ba (Below.refl _ _) _) _, alloc2 w _ _⟩
  have HC := hid hC
  have HCW : Hid (w.heap.size + 1 < W.heap.size) := (Array.getElem?_eq_some_iff.1 hC.2.2).1
  clear hO hk hC
  unfold zeroC at hW
  go_enter Tryz.func18, Tryz.ntmps18
  go_wp2
  rw [← hW]
  clear hW
  refine wp_region_H (fun x => x.heap[w.heap.size]? = some (.cells (clusA c s) 37 (0, 0))) (by kernel_rfl) ?_
  show wpAnyH Tryz.prog _ _ _ _ (7 + 1) (Array.replicate 8 false) _ _
  have hS : W.drew.heap[w.heap.size]? = some (.cells (clusA c s) 37 (0, 0)) := HC.out.2.1
  refine h_take (j := 0) (e' := some 6) (v := .agg (clusA c s)) rfl rfl (by kernel_rfl) (by kernel_rfl) (by kernel_rfl) (fun _ _ _ h => h) (Or.inl ⟨by rfl, ?_⟩) hS ?_
  · exact fun x hx => exec_load_blk _ _ rfl w.heap.size rfl _ _ _ _ hx Tryz.underlying37 rfl (by kernel_rfl)
  simp only [Act.put, List.setIfInBounds_toArray, List.set_cons_zero, List.set_cons_succ]
  refine h_take (j := 1) (e' := some 7) (v := .int .i64 k) rfl rfl (by kernel_rfl) (by kernel_rfl) (by kernel_rfl) (fun _ _ _ h => h) (Or.inl ⟨by rfl, ?_⟩) hS ?_
  · intro x hx; go_simp; try with_reducible rfl
  simp only [Act.put, List.setIfInBounds_toArray, List.set_cons_zero, List.set_cons_succ]
  refine h_call (c := 2) (e' := some 8) (fn := 49) (args := #[.int .i64 k]) rfl rfl (by kernel_rfl) (by rfl) ?_ ((lost_i k W.drew).mono ?_)
  · go_simp
    try with_reducible rfl
  rintro e x1 ⟨rfl, hx1⟩
  have hb : Below W.heap.size W x1 := by rw [hx1]; exact ((Below.refl _ _).drew).trans (alloc_below W.drew _)
  have hbx : x1.heap[W.heap.size]? = some (.cells #[.int .i64 k] 3 (0, 0)) := by rw [hx1]; exact heap_alloc_new W.drew _
  have HX1 : Hid (Below w.heap.size w x1 ∧ x1.heap[w.heap.size]? = some (.cells (clusA c s) 37 (0, 0)) ∧ x1.heap[w.heap.size + 1]? = some (.cells zeroC 37 (0, 0)) ∧ OwnC lo hi x1 c s) := ⟨bt HC.out.1 hb, (hb.block _ (Array.getElem?_eq_some_iff.1 HC.out.2.1).1).trans HC.out.2.1, (hb.block _ (Array.getElem?_eq_some_iff.1 HC.out.2.2).1).trans HC.out.2.2, (HO.out.below HC.out.1).below hb⟩
  have HST := hid (stepped_i 80 lost_e (.pointer (some ⟨W.heap.size, 0, none⟩)) c C2 s B2 lo hi x1 HX1.out.2.2.2 HK.out (by rw [hC2, hB2]; exact lost_step c k W.heap.size x1 hbx HK.out.net))
  have hS1 := HX1.out.2.1
  have hs : w.heap.size + 1 < x1.heap.size := (Array.getElem?_eq_some_iff.1 HX1.out.2.2.1).1
  have HSZ := hid hs
  clear hb hbx hx1 hS HC hs hC2 hB2 
  refine ⟨_, rfl, hS1, ?_⟩
  simp only [Act.put, List.setIfInBounds_toArray, List.set_cons_zero, List.set_cons_succ]
  refine h_call (c := 3) (e' := some 9) (fn := 32) (args := #[clusV c s, .func (.func 80) #[] #[.pointer (some ⟨W.heap.size, 0, none⟩)]]) rfl rfl (by kernel_rfl) (by rfl) ?_ (HST.out.mono ?_)
  · go_simp
    try with_reducible rfl
  rintro e x2 ⟨s2, rfl, ho, hb⟩
  have hS2 : x2.heap[w.heap.size]? = some (.cells (clusA c s) 37 (0, 0)) := (hb.block _ (by have := HSZ.out; omega)).trans HX1.out.2.1
  have hold : x2.heap[w.heap.size + 1]? = some (.cells zeroC 37 (0, 0)) := (hb.block _ HSZ.out).trans HX1.out.2.2.1
  have hb2 : Below w.heap.size w x2 := bt HX1.out.1 hb
  clear hS1 HST
  refine ⟨_, rfl, hS2, ?_⟩
  simp only [Act.put, List.setIfInBounds_toArray, List.set_cons_zero, List.set_cons_succ]
  refine h_take (j := 4) (e' := some 10) (v := clusV C2 s2) rfl rfl (by kernel_rfl) (by kernel_rfl) (by kernel_rfl) (fun _ _ _ h => h) (Or.inl ⟨by rfl, ?_⟩) hS2 ?_
  · intro x hx; go_simp; try with_reducible rfl
  simp only [Act.put, List.setIfInBounds_toArray, List.set_cons_zero, List.set_cons_succ]
  refine h_take (j := 5) (e' := some 11) (v := .bool B2) rfl rfl (by kernel_rfl) (by kernel_rfl) (by kernel_rfl) (fun _ _ _ h => h) (Or.inl ⟨by rfl, ?_⟩) hS2 ?_
  · intro x hx; go_simp; try with_reducible rfl
  simp only [Act.put, List.setIfInBounds_toArray, List.set_cons_zero, List.set_cons_succ]
  refine h_store (s := 6) (N := w.heap.size + 1) (cells := clusA C2 s2) rfl rfl rfl rfl (by kernel_rfl) rfl rfl hold (by kernel_rfl) rfl (clusA_one ho) ?_
  intro y hgr hnew
  have hS3 : y.heap[w.heap.size]? = some (.cells (clusA c s) 37 (0, 0)) := (hgr.block _ (Array.getElem?_eq_some_iff.1 hS2).1 (fun e => by have := Option.some.inj e; omega)).trans hS2
  have HBz : Hid (Below w.heap.size w y ∧ y.heap[w.heap.size + 1]? = some (.cells (clusA C2 s2) 37 (0, 0)) ∧ OwnC w.heap.size y.heap.size y C2 s2) := ⟨hb2.grown hgr hb2.size (fun k hk => by cases hk; omega), hnew, ((ho.boxT hold hgr).low (by have := HSZ.out; omega)).wide hgr.size (Nat.le_refl _)⟩
  clear hgr hnew ho hb hb2 hold hS2
  refine ⟨hS3, ?_⟩
  refine h_take (j := 7) (e' := some 5) (v := .bool B2) rfl rfl (by kernel_rfl) (by kernel_rfl) (by kernel_rfl) (fun _ _ _ h => h) (Or.inl ⟨by rfl, ?_⟩) hS3 ?_
  · intro x hx; go_simp; try with_reducible rfl
  simp only [Act.put, List.setIfInBounds_toArray, List.set_cons_zero, List.set_cons_succ]
  refine wpAnyH_done (by kernel_rfl) ?_ _
  clear hS3
  go_wp2
  refine bodyPost_ret (v := .tuple #[.agg (clusA C2 s2), .bool B2]) (results_ct Tryz.results18 _ _ (w.heap.size + 1) 37 _ (0, 0) _ _ rfl HBz.out.2.1 Tryz.underlying37 rfl (by kernel_rfl) rfl) rfl ?_
  exact ⟨s2, rfl, HBz.out.2.2, HBz.out.1⟩
theorem lose_coni : Con 18 loseF := fun c s lo hi k w ho hk _ _ _ => lose_i c s lo hi k w ho hk
set_option maxRecDepth 100000 in
set_option maxHeartbeats 8000000 in
theorem twice_i (c : CU) (s : CW) (lo hi : Nat) (k : Int) (w : World) (hO : OwnC lo hi w c s) (hk : okC c)  :
    Calls Tryz.prog 20 #[clusV c s, .int .i64 k] w fun e w' => ∃ s', e = .returned (.tuple #[clusV ((twiceC c k).1) s', .bool ((twiceC c k).2)]) ∧ OwnC w.heap.size w'.heap.size w' ((twiceC c k).1) s' ∧ Below w.heap.size w w' := by
  have HO := hid hO
  have HK := hid hk
  obtain ⟨C2, hC2⟩ : ∃ C2, C2 = (twiceC c k).1 := ⟨_, rfl⟩
  obtain ⟨B2, hB2⟩ : ∃ B2, B2 = (twiceC c k).2 := ⟨_, rfl⟩
  rw [← hC2, ← hB2]
  obtain ⟨W, hW⟩ : ∃ W, W = (w.alloc (.cells (clusA c s) 37)).alloc (.cells zeroC 37) := ⟨_, rfl⟩
  have hC : Below w.heap.size w W ∧ W.heap[w.heap.size]? = some (.cells (clusA c s) 37 (0, 0)) ∧ W.heap[w.heap.size + 1]? = some (.cells zeroC 37 (0, 0)) := by
    rw [hW]; exact ⟨ba (ba (Below.refl _ _) _) _, alloc2 w _ _⟩
  have HC := hid hC
  have HCW : Hid (w.heap.size + 1 < W.heap.size) := (Array.getElem?_eq_some_iff.1 hC.2.2).1
  clear hO hk hC
  unfold zeroC at hW
  go_enter Tryz.func20, Tryz.ntmps20
  go_wp2
  rw [← hW]
  clear hW
  refine wp_region_H (fun x => x.heap[w.heap.size]? = some (.cells (clusA c s) 37 (0, 0))) (by kernel_rfl) ?_
  show wpAnyH Tryz.prog _ _ _ _ (7 + 1) (Array.replicate 8 false) _ _
  have hS : W.drew.heap[w.heap.size]? = some (.cells (clusA c s) 37 (0, 0)) := HC.out.2.1
  refine h_take (j := 0) (e' := some 6) (v := .agg (clusA c s)) rfl rfl (by kernel_rfl) (by kernel_rfl) (by kernel_rfl) (fun _ _ _ h => h) (Or.inl ⟨by rfl, ?_⟩) hS ?_
  · exact fun x hx => exec_load_blk _ _ rfl w.heap.size rfl _ _ _ _ hx Tryz.underlying37 rfl (by kernel_rfl)
  simp only [Act.put, List.setIfInBounds_toArray, List.set_cons_zero, List.set_cons_succ]
  refine h_take (j := 1) (e' := some 7) (v := .int .i64 k) rfl rfl (by kernel_rfl) (by kernel_rfl) (by kernel_rfl) (fun _ _ _ h => h) (Or.inl ⟨by rfl, ?_⟩) hS ?_
  · intro x hx; go_simp; try with_reducible rfl
  simp only [Act.put, List.setIfInBounds_toArray, List.set_cons_zero, List.set_cons_succ]
  refine h_call (c := 2) (e' := some 8) (fn := 51) (args := #[.int .i64 k]) rfl rfl (by kernel_rfl) (by rfl) ?_ ((doubled_i k W.drew).mono ?_)
  · go_simp
    try with_reducible rfl
  rintro e x1 ⟨rfl, hx1⟩
  have hb : Below W.heap.size W x1 := by rw [hx1]; exact ((Below.refl _ _).drew).trans (alloc_below W.drew _)
  have hbx : x1.heap[W.heap.size]? = some (.cells #[.int .i64 k] 3 (0, 0)) := by rw [hx1]; exact heap_alloc_new W.drew _
  have HX1 : Hid (Below w.heap.size w x1 ∧ x1.heap[w.heap.size]? = some (.cells (clusA c s) 37 (0, 0)) ∧ x1.heap[w.heap.size + 1]? = some (.cells zeroC 37 (0, 0)) ∧ OwnC lo hi x1 c s) := ⟨bt HC.out.1 hb, (hb.block _ (Array.getElem?_eq_some_iff.1 HC.out.2.1).1).trans HC.out.2.1, (hb.block _ (Array.getElem?_eq_some_iff.1 HC.out.2.2).1).trans HC.out.2.2, (HO.out.below HC.out.1).below hb⟩
  have HST := hid (stepped_i 83 doubled_e (.pointer (some ⟨W.heap.size, 0, none⟩)) c C2 s B2 lo hi x1 HX1.out.2.2.2 HK.out (by rw [hC2, hB2]; exact doubled_step c k W.heap.size x1 hbx HK.out.net))
  have hS1 := HX1.out.2.1
  have hs : w.heap.size + 1 < x1.heap.size := (Array.getElem?_eq_some_iff.1 HX1.out.2.2.1).1
  have HSZ := hid hs
  clear hb hbx hx1 hS HC hs hC2 hB2 
  refine ⟨_, rfl, hS1, ?_⟩
  simp only [Act.put, List.setIfInBounds_toArray, List.set_cons_zero, List.set_cons_succ]
  refine h_call (c := 3) (e' := some 9) (fn := 32) (args := #[clusV c s, .func (.func 83) #[] #[.pointer (some ⟨W.heap.size, 0, none⟩)]]) rfl rfl (by kernel_rfl) (by rfl) ?_ (HST.out.mono ?_)
  · go_simp
    try with_reducible rfl
  rintro e x2 ⟨s2, rfl, ho, hb⟩
  have hS2 : x2.heap[w.heap.size]? = some (.cells (clusA c s) 37 (0, 0)) := (hb.block _ (by have := HSZ.out; omega)).trans HX1.out.2.1
  have hold : x2.heap[w.heap.size + 1]? = some (.cells zeroC 37 (0, 0)) := (hb.block _ HSZ.out).trans HX1.out.2.2.1
  have hb2 : Below w.heap.size w x2 := bt HX1.out.1 hb
  clear hS1 HST
  refine ⟨_, rfl, hS2, ?_⟩
  simp only [Act.put, List.setIfInBounds_toArray, List.set_cons_zero, List.set_cons_succ]
  refine h_take (j := 4) (e' := some 10) (v := clusV C2 s2) rfl rfl (by kernel_rfl) (by kernel_rfl) (by kernel_rfl) (fun _ _ _ h => h) (Or.inl ⟨by rfl, ?_⟩) hS2 ?_
  · intro x hx; go_simp; try with_reducible rfl
  simp only [Act.put, List.setIfInBounds_toArray, List.set_cons_zero, List.set_cons_succ]
  refine h_take (j := 5) (e' := some 11) (v := .bool B2) rfl rfl (by kernel_rfl) (by kernel_rfl) (by kernel_rfl) (fun _ _ _ h => h) (Or.inl ⟨by rfl, ?_⟩) hS2 ?_
  · intro x hx; go_simp; try with_reducible rfl
  simp only [Act.put, List.setIfInBounds_toArray, List.set_cons_zero, List.set_cons_succ]
  refine h_store (s := 6) (N := w.heap.size + 1) (cells := clusA C2 s2) rfl rfl rfl rfl (by kernel_rfl) rfl rfl hold (by kernel_rfl) rfl (clusA_one ho) ?_
  intro y hgr hnew
  have hS3 : y.heap[w.heap.size]? = some (.cells (clusA c s) 37 (0, 0)) := (hgr.block _ (Array.getElem?_eq_some_iff.1 hS2).1 (fun e => by have := Option.some.inj e; omega)).trans hS2
  have HBz : Hid (Below w.heap.size w y ∧ y.heap[w.heap.size + 1]? = some (.cells (clusA C2 s2) 37 (0, 0)) ∧ OwnC w.heap.size y.heap.size y C2 s2) := ⟨hb2.grown hgr hb2.size (fun k hk => by cases hk; omega), hnew, ((ho.boxT hold hgr).low (by have := HSZ.out; omega)).wide hgr.size (Nat.le_refl _)⟩
  clear hgr hnew ho hb hb2 hold hS2
  refine ⟨hS3, ?_⟩
  refine h_take (j := 7) (e' := some 5) (v := .bool B2) rfl rfl (by kernel_rfl) (by kernel_rfl) (by kernel_rfl) (fun _ _ _ h => h) (Or.inl ⟨by rfl, ?_⟩) hS3 ?_
  · intro x hx; go_simp; try with_reducible rfl
  simp only [Act.put, List.setIfInBounds_toArray, List.set_cons_zero, List.set_cons_succ]
  refine wpAnyH_done (by kernel_rfl) ?_ _
  clear hS3
  go_wp2
  refine bodyPost_ret (v := .tuple #[.agg (clusA C2 s2), .bool B2]) (results_ct Tryz.results20 _ _ (w.heap.size + 1) 37 _ (0, 0) _ _ rfl HBz.out.2.1 Tryz.underlying37 rfl (by kernel_rfl) rfl) rfl ?_
  exact ⟨s2, rfl, HBz.out.2.2, HBz.out.1⟩
theorem twice_coni : Con 20 twiceC := fun c s lo hi k w ho hk _ _ _ => twice_i c s lo hi k w ho hk

end Go.Proofs.YtjieklilojmifauGreatR
