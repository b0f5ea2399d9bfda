/-
  When nothing comes: the contract of the specification's TimedOut. (Made by gto14.py.)
-/
import Derived.Test.YtdopefimjabigatAnsS
import Derived.Test.YtdopefimjabigatVotedS
import Derived.Test.YtdopefimjabigatReadyS
import Derived.Test.YtdopefimjabigatVoteS
namespace Go.Proofs.Ytdopefimjabigat
open Go.RowKit Num

/-- whether it goes on -/
def goesB (p : PE) (n : Int) : Bool := decide (p.view < 900) && inB n 1 7
/-- .. and what it is then, and says -/
def timedP (p : PE) (n : Int) : PE := if goesB p n = true then enterP p (p.view + 1) else p
def timedL (p : PE) (n : Int) : LT := if goesB p n = true then answerT (enterP p (p.view + 1)) 4 (leaderT (enterP p (p.view + 1)).view n) (enterP p (p.view + 1)).high (0, 0, 0, 0) else ((0, 0, 0, 0, 0), (0, 0, 0, 0), (0, 0, 0, 0))
theorem timed_small {p : PE} (h : smallPe p) (n : Int) : smallPe (timedP p n) := by
  unfold timedP
  split
  · exact enter_small h _
  · exact h
theorem timed_len (p : PE) (n : Int) : lenPe (timedP p n) ≤ lenPe p := by
  unfold timedP
  split
  · exact enter_len p _
  · exact Nat.le_refl _
theorem timed_sum {p : PE} (h : sumPe p) (n : Int) : sumPe (timedP p n) := by
  unfold timedP
  split
  · exact enter_sum h _
  · exact h
theorem results_cells2b {P : Program} {fn : Func} {p q r : Tmp} {ty tz : TypeId} (h : fn.results = #[.cell p ty, .cell q tz, .tmp r]) (tmps : Array Value) (w : World) (g : Nat) (t : TypeId) (cs : Array Value) (fr : Nat × Nat) (d : TypeDesc) (g' : Nat) (t' : TypeId) (cs' : Array Value) (fr' : Nat × Nat) (d' : TypeDesc) (u : Value)
    (hp : tmps.getD p undef = .pointer (some ⟨g, 0, none⟩)) (hg : w.heap[g]? = some (.cells cs t fr)) (hu : P.underlying ty = some d) (hd : (match d with | .struct _ | .array _ _ => true | _ => false) = true) (hi : (P.info? ty).map (·.size) = some cs.size)
    (hq : tmps.getD q undef = .pointer (some ⟨g', 0, none⟩)) (hg' : w.heap[g']? = some (.cells cs' t' fr')) (hu' : P.underlying tz = some d') (hd' : (match d' with | .struct _ | .array _ _ => true | _ => false) = true) (hi' : (P.info? tz).map (·.size) = some cs'.size)
    (hr : tmps.getD r undef = u) :
    (results fn tmps).run P w = .ok (.tuple #[.agg cs, .agg cs', u]) w := by
  have hp' : tmps[p]?.getD undef = .pointer (some ⟨g, 0, none⟩) := by simpa using hp
  have hq' : tmps[q]?.getD undef = .pointer (some ⟨g', 0, none⟩) := by simpa using hq
  have hr' : tmps[r]?.getD undef = u := by simpa using hr
  simp [results, h, hp', hq', hr', asAddr, run_loadVar_row w g t ty cs fr d hg hu hd hi, run_loadVar_row w g' t' tz cs' fr' d' hg' hu' hd' hi']

set_option maxRecDepth 100000 in
set_option maxHeartbeats 8000000 in
theorem timedOut_s (p : PE) (s : PV) (n : Int) (w : World) (hg : goodPe p) (hwn : (Lit.int .i64 n).wf = true) (hR : PeerR w p s) (hs : smallPe p) :
    Calls Try.prog 5 #[peerV p s, .int .i64 n] w fun e w' => ∃ s', e = .returned (.tuple #[peerV (timedP p n) s', .agg (letA (timedL p n)), .bool (goesB p n)]) ∧ OwnD w.heap.size w'.heap.size w' (timedP p n) s' ∧ Below w.heap.size w w' := by
  have HR := hid hR
  have HS := hid hs
  obtain ⟨hn0, hn1⟩ := bounds_i64 hwn
  obtain ⟨hv0, hv1⟩ := bounds_i64 hg.gview
  clear hR hs hg hwn
  obtain ⟨W, hW⟩ : ∃ W, W = ((w.alloc (.cells (peerA p s) 41)).alloc (.cells zeroA 41)).alloc (.cells (letA ((0, 0, 0, 0, 0), (0, 0, 0, 0), (0, 0, 0, 0))) 43) := ⟨_, rfl⟩
  have HC : Hid (Below w.heap.size w W ∧ W.heap[w.heap.size]? = some (.cells (peerA p s) 41 (0, 0)) ∧ W.heap[w.heap.size + 1]? = some (.cells zeroA 41 (0, 0)) ∧ W.heap[w.heap.size + 1 + 1]? = some (.cells (letA ((0, 0, 0, 0, 0), (0, 0, 0, 0), (0, 0, 0, 0))) 43 (0, 0))) := by
    rw [hW]; exact ⟨ba (ba (ba (Below.refl _ _) _) _) _, alloc3 w _ _ _⟩
  have HWS : Hid (W.heap.size = w.heap.size + 1 + 1 + 1) := (by rw [hW]; simp : W.heap.size = w.heap.size + 1 + 1 + 1)
  have c1 := blk_cell HC.out.2.1 1 (.int .i64 p.view) rfl
  unfold zeroA letA at hW
  simp only at hW
  have done : ∀ (hgo : goesB p n = false), Hid (timedP p n = p ∧ timedL p n = ((0, 0, 0, 0, 0), (0, 0, 0, 0), (0, 0, 0, 0))) := fun hgo => (by unfold timedP timedL; rw [hgo]; exact ⟨rfl, rfl⟩ : timedP p n = p ∧ _)
  by_cases h1 : p.view < 900
  · have b1 : ¬ p.view ≥ 900 := by omega
    have b1' : ¬ (900 : Int) ≤ p.view := by omega
    have d1 : decide ((900 : Int) ≤ p.view) = false := decide_eq_false b1'
    cases h2 : inB n 1 7 with
    | false =>
      have HGO : Hid (goesB p n = false) := (by unfold goesB; rw [h2]; simp : goesB p n = false)
      have HT := done HGO.out
      clear done
      go_enter Try.func5, Try.ntmps5
      go_wp2_with (rw [← hW]; clear hW)
      refine (in_is h2 _).mono ?_
      rintro e x0 ⟨rfl, hw⟩
      obtain rfl := hw.symm
      clear hw c1
      go_wp2_with (refine wpList_load_row rfl _ _ rfl w.heap.size rfl 41 _ (0, 0) _ HC.out.2.1 Try.underlying41 rfl (by kernel_rfl) ?_)
      refine (copy_s p s W (HR.out.below HC.out.1) HS.out).mono ?_
      rintro e x1 ⟨s1, rfl, ho, hb⟩
      have HO1 : Hid (OwnD W.heap.size x1.heap.size x1 p s1) := ho.toD
      have HX1 : Hid (Below w.heap.size w x1 ∧ x1.heap[w.heap.size + 1]? = some (.cells zeroA 41 (0, 0)) ∧ x1.heap[w.heap.size + 1 + 1]? = some (.cells (letA ((0, 0, 0, 0, 0), (0, 0, 0, 0), (0, 0, 0, 0))) 43 (0, 0))) := ⟨bt HC.out.1 hb, (hb.block _ (Array.getElem?_eq_some_iff.1 HC.out.2.2.1).1).trans HC.out.2.2.1, (hb.block _ (Array.getElem?_eq_some_iff.1 HC.out.2.2.2).1).trans HC.out.2.2.2⟩
      clear ho hb HC
      go_wp2_with (first
        | (refine wpList_store_blk rfl _ _ _ rfl (w.heap.size + 1) (peerA p s1) rfl rfl 41 zeroA HX1.out.2.1 (by kernel_rfl) rfl (peerA_one HO1.out.1) ?_; intro y1 hg hk hz; have HY1 : Hid (Below w.heap.size w y1 ∧ y1.heap[w.heap.size + 1]? = Option.some (.cells (peerA p s1) 41 (0, 0)) ∧ y1.heap[w.heap.size + 1 + 1]? = Option.some (.cells (letA ((0, 0, 0, 0, 0), (0, 0, 0, 0), (0, 0, 0, 0))) 43 (0, 0))) := ⟨HX1.out.1.grown hg HX1.out.1.size (fun k hk => by cases hk; omega), hk, (hg.block _ (Array.getElem?_eq_some_iff.1 HX1.out.2.2).1 (fun e => by have := Option.some.inj e; omega)).trans HX1.out.2.2⟩; have HD1 : Hid (OwnD W.heap.size y1.heap.size y1 p s1) := (HO1.out.boxed HX1.out.2.1 hg).wide hg.size (Nat.le_refl _); clear hg hk hz HX1 HO1)
        | (refine wpList_store_blk rfl _ _ _ rfl (w.heap.size + 1 + 1) (letA ((0, 0, 0, 0, 0), (0, 0, 0, 0), (0, 0, 0, 0))) rfl rfl 43 (letA ((0, 0, 0, 0, 0), (0, 0, 0, 0), (0, 0, 0, 0))) HY1.out.2.2 (by kernel_rfl) rfl (letA_one _) ?_; intro z hg hk hz; have HBz : Hid (Below w.heap.size w z) := HY1.out.1.grown hg HY1.out.1.size (fun k hk => by cases hk; omega); have HKz : Hid (z.heap[w.heap.size + 1]? = Option.some (.cells (peerA p s1) 41 (0, 0))) := (hg.block _ (Array.getElem?_eq_some_iff.1 HY1.out.2.1).1 (fun e => by have := Option.some.inj e; omega)).trans HY1.out.2.1; have HLz : Hid (z.heap[w.heap.size + 1 + 1]? = Option.some (.cells (letA ((0, 0, 0, 0, 0), (0, 0, 0, 0), (0, 0, 0, 0))) 43 (0, 0))) := hk; have HFz : Hid (OwnD W.heap.size z.heap.size z p s1) := (HD1.out.far hg (Or.inl (by have := HWS.out; omega))).wide hg.size (Nat.le_refl _); clear hg hk hz HY1 HD1))
      refine bodyPost_ret (v := .tuple #[.agg (peerA p s1), .agg (letA ((0, 0, 0, 0, 0), (0, 0, 0, 0), (0, 0, 0, 0))), .bool false]) (results_cells2b Try.results5 _ _ (w.heap.size + 1) 41 _ (0, 0) _ (w.heap.size + 1 + 1) 43 _ (0, 0) _ _ rfl HKz.out Try.underlying41 rfl (by kernel_rfl) rfl HLz.out Try.underlying43 rfl (by kernel_rfl) rfl) rfl ?_
      rw [HT.out.1, HT.out.2, HGO.out]
      exact ⟨_, rfl, HFz.out.low (by have := HWS.out; omega), HBz.out⟩
    | true =>
      have HGO : Hid (goesB p n = true) := (by unfold goesB; rw [h2, decide_eq_true h1]; rfl : goesB p n = true)
      have HT : Hid (timedP p n = enterP p (p.view + 1) ∧ timedL p n = answerT (enterP p (p.view + 1)) 4 (leaderT (enterP p (p.view + 1)).view n) (enterP p (p.view + 1)).high (0, 0, 0, 0)) := (by unfold timedP timedL; rw [HGO.out]; exact ⟨rfl, rfl⟩ : _ ∧ _)
      have hvv : (enterP p (p.view + 1)).view = p.view + 1 := by unfold enterP; rw [if_pos ⟨by omega, by omega⟩]
      clear done
      go_enter Try.func5, Try.ntmps5
      go_wp2_with (rw [← hW]; clear hW)
      refine (in_is h2 _).mono ?_
      rintro e x0 ⟨rfl, hw⟩
      obtain rfl := hw.symm
      clear hw
      go_wp2_with (refine wpList_load_row rfl _ _ rfl w.heap.size rfl 41 _ (0, 0) _ HC.out.2.1 Try.underlying41 rfl (by kernel_rfl) ?_)
      refine (entered_s p s (p.view + 1) W (HR.out.below HC.out.1) HS.out).mono ?_
      obtain ⟨q, hq⟩ : ∃ q, q = enterP p (p.view + 1) := ⟨_, rfl⟩
      rw [← hq] at hvv HT ⊢
      have HQV : Hid (q.view = p.view + 1) := hvv
      clear hq hvv
      rintro e x1 ⟨s1, rfl, ho, hb⟩
      have HO1 : Hid (OwnD W.heap.size x1.heap.size x1 q s1) := ho
      have HX1 : Hid (Below w.heap.size w x1 ∧ x1.heap[w.heap.size + 1]? = some (.cells zeroA 41 (0, 0)) ∧ x1.heap[w.heap.size + 1 + 1]? = some (.cells (letA ((0, 0, 0, 0, 0), (0, 0, 0, 0), (0, 0, 0, 0))) 43 (0, 0)) ∧ W.heap.size ≤ x1.heap.size) := ⟨bt HC.out.1 hb, (hb.block _ (Array.getElem?_eq_some_iff.1 HC.out.2.2.1).1).trans HC.out.2.2.1, (hb.block _ (Array.getElem?_eq_some_iff.1 HC.out.2.2.2).1).trans HC.out.2.2.2, hb.size⟩
      clear ho hb HC c1
      go_wp2_with (refine wpList_store_blk rfl _ _ _ rfl x1.heap.size (peerA q s1) rfl rfl 41 zeroA (heap_alloc_new x1 _) (by kernel_rfl) rfl (peerA_one HO1.out.1) ?_; intro y1 hg hk hz; have hb : Below x1.heap.size x1 y1 := made_below hg; have HY1 : Hid (Below w.heap.size w y1 ∧ y1.heap[w.heap.size + 1]? = Option.some (.cells zeroA 41 (0, 0)) ∧ y1.heap[w.heap.size + 1 + 1]? = Option.some (.cells (letA ((0, 0, 0, 0, 0), (0, 0, 0, 0), (0, 0, 0, 0))) 43 (0, 0)) ∧ y1.heap[x1.heap.size]? = Option.some (.cells (peerA q s1) 41 (0, 0))) := ⟨bt HX1.out.1 hb, (hb.block _ (Array.getElem?_eq_some_iff.1 HX1.out.2.1).1).trans HX1.out.2.1, (hb.block _ (Array.getElem?_eq_some_iff.1 HX1.out.2.2.1).1).trans HX1.out.2.2.1, hk⟩; have HD1 : Hid (OwnD W.heap.size y1.heap.size y1 q s1) := (HO1.out.below hb).wide (Nat.le_of_lt (Array.getElem?_eq_some_iff.1 hk).1) (Nat.le_refl _); have HL1 : Hid (W.heap.size ≤ x1.heap.size) := HX1.out.2.2.2; clear hg hk hz hb HX1 HO1)
      obtain ⟨ld, e1⟩ : ∃ ld, leaderT q.view n = ld := ⟨_, rfl⟩
      rw [e1] at HT
      refine wp_region_H (fun x => x.heap[x1.heap.size]? = some (.cells (peerA q s1) 41 (0, 0))) (by kernel_rfl) ?_
      show wpAnyH Try.prog _ _ _ _ (12 + 1) (Array.replicate 13 false) _ _
      have hS : y1.drew.heap[x1.heap.size]? = some (.cells (peerA q s1) 41 (0, 0)) := HY1.out.2.2.2
      refine h_take (j := 0) (e' := some 24) (v := .agg (peerA q s1)) rfl rfl (by kernel_rfl) (by kernel_rfl) (by kernel_rfl) (fun _ _ _ h => h) (Or.inl ⟨by rfl, fun x hx => exec_load_blk _ _ rfl x1.heap.size rfl _ _ _ _ hx Try.underlying41 rfl (by kernel_rfl)⟩) hS ?_
      simp only [Act.put, List.setIfInBounds_toArray, List.set_cons_zero, List.set_cons_succ]
      refine h_take (j := 1) (e' := some 25) (v := .agg (peerA q s1)) rfl rfl (by kernel_rfl) (by kernel_rfl) (by kernel_rfl) (fun _ _ _ h => h) (Or.inl ⟨by rfl, fun x hx => exec_load_blk _ _ rfl x1.heap.size rfl _ _ _ _ hx Try.underlying41 rfl (by kernel_rfl)⟩) hS ?_
      simp only [Act.put, List.setIfInBounds_toArray, List.set_cons_zero, List.set_cons_succ]
      refine h_take (j := 2) (e' := some 26) (v := .pointer (some ⟨x1.heap.size, 1, none⟩)) rfl rfl (by kernel_rfl) (by kernel_rfl) (by kernel_rfl) (fun _ _ _ h => h) (Or.inl ⟨by rfl, ?_⟩) hS ?_
      · intro x hx
        go_simp
        try with_reducible rfl
      simp only [Act.put, List.setIfInBounds_toArray, List.set_cons_zero, List.set_cons_succ]
      refine h_take (j := 3) (e' := some 27) (v := .int .i64 q.view) rfl rfl (by kernel_rfl) (by kernel_rfl) (by kernel_rfl) (fun _ _ _ h => h) (Or.inl ⟨by rfl, ?_⟩) hS ?_
      · intro x hx
        have c := blk_cell hx 1 (.int .i64 q.view) rfl
        go_simp
        try with_reducible rfl
      simp only [Act.put, List.setIfInBounds_toArray, List.set_cons_zero, List.set_cons_succ]
      refine h_take (j := 4) (e' := some 28) (v := .int .i64 n) rfl rfl (by kernel_rfl) (by kernel_rfl) (by kernel_rfl) (fun _ _ _ h => h) (Or.inl ⟨by rfl, ?_⟩) hS ?_
      · intro x hx
        go_simp
        try with_reducible rfl
      simp only [Act.put, List.setIfInBounds_toArray, List.set_cons_zero, List.set_cons_succ]
      refine h_take (j := 6) (e' := some 30) (v := .pointer (some ⟨x1.heap.size, 2, none⟩)) rfl rfl (by kernel_rfl) (by kernel_rfl) (by kernel_rfl) (fun _ _ _ h => h) (Or.inl ⟨by rfl, ?_⟩) hS ?_
      · intro x hx
        go_simp
        try with_reducible rfl
      simp only [Act.put, List.setIfInBounds_toArray, List.set_cons_zero, List.set_cons_succ]
      refine h_take (j := 7) (e' := some 31) (v := .agg #[.int .i64 q.high.1, .int .i64 q.high.2.1, .int .i64 q.high.2.2.1, .int .i64 q.high.2.2.2]) rfl rfl (by kernel_rfl) (by kernel_rfl) (by kernel_rfl) (fun _ _ _ h => h) (Or.inl ⟨by rfl, ?_⟩) hS ?_
      · intro x hx
        have c0 := blk_cell hx 2 (.int .i64 q.high.1) rfl
        have c1 := blk_cell hx 3 (.int .i64 q.high.2.1) rfl
        have c2 := blk_cell hx 4 (.int .i64 q.high.2.2.1) rfl
        have c3 := blk_cell hx 5 (.int .i64 q.high.2.2.2) rfl
        go_simp
        try with_reducible rfl
      simp only [Act.put, List.setIfInBounds_toArray, List.set_cons_zero, List.set_cons_succ]
      refine h_take (j := 8) (e' := some 32) (v := .agg #[.int .i64 0, .int .i64 0, .int .i64 0, .int .i64 0]) rfl rfl (by kernel_rfl) (by kernel_rfl) (by kernel_rfl) (fun _ _ _ h => h) (Or.inl ⟨by rfl, ?_⟩) hS ?_
      · intro x hx
        go_simp
        try with_reducible rfl
      simp only [Act.put, List.setIfInBounds_toArray, List.set_cons_zero, List.set_cons_succ]
      refine h_call (c := 5) (e' := some 29) (fn := 21) (args := #[.int .i64 q.view, .int .i64 n]) rfl rfl (by kernel_rfl) (by rfl) ?_ ((leader_is e1 hn0 hn1 (by have := HQV.out; omega) (by have := HQV.out; omega) y1.drew).mono ?_)
      · go_simp
        try with_reducible rfl
      rintro e x2 ⟨rfl, hw⟩
      obtain rfl := hw.symm
      clear hw
      refine ⟨_, rfl, hS, ?_⟩
      simp only [Act.put, List.setIfInBounds_toArray, List.set_cons_zero, List.set_cons_succ]
      refine h_call (c := 9) (e' := some 33) (fn := 20) (args := #[.agg (peerA q s1), .int .i64 4, .int .i64 ld, .agg #[.int .i64 q.high.1, .int .i64 q.high.2.1, .int .i64 q.high.2.2.1, .int .i64 q.high.2.2.2], .agg #[.int .i64 0, .int .i64 0, .int .i64 0, .int .i64 0]]) rfl rfl (by kernel_rfl) (by rfl) ?_ ((answered_s q s1 4 ld q.high (0, 0, 0, 0) y1.drew).mono ?_)
      · go_simp
        try with_reducible rfl
      obtain ⟨LL, hLL⟩ : ∃ LL, LL = answerT q 4 ld q.high (0, 0, 0, 0) := ⟨_, rfl⟩
      rw [← hLL] at HT ⊢
      clear hLL
      rintro e x3 ⟨rfl, hb0⟩
      have hb : Below y1.heap.size y1 x3 := ((Below.refl _ _).drew).trans hb0
      have HY3 : Hid (Below w.heap.size w x3 ∧ x3.heap[w.heap.size + 1]? = some (.cells zeroA 41 (0, 0)) ∧ x3.heap[w.heap.size + 1 + 1]? = some (.cells (letA ((0, 0, 0, 0, 0), (0, 0, 0, 0), (0, 0, 0, 0))) 43 (0, 0)) ∧ x3.heap[x1.heap.size]? = some (.cells (peerA q s1) 41 (0, 0))) := ⟨bt HY1.out.1 hb, (hb.block _ (Array.getElem?_eq_some_iff.1 HY1.out.2.1).1).trans HY1.out.2.1, (hb.block _ (Array.getElem?_eq_some_iff.1 HY1.out.2.2.1).1).trans HY1.out.2.2.1, (hb.block _ (Array.getElem?_eq_some_iff.1 HY1.out.2.2.2).1).trans HY1.out.2.2.2⟩
      have HD3 : Hid (OwnD W.heap.size x3.heap.size x3 q s1) := (HD1.out.below hb).wide hb.size (Nat.le_refl _)
      clear hb hb0 hS HY1 HD1
      refine ⟨_, rfl, HY3.out.2.2.2, ?_⟩
      simp only [Act.put, List.setIfInBounds_toArray, List.set_cons_zero, List.set_cons_succ]
      refine h_store (s := 10) (N := w.heap.size + 1) (old := zeroA) (cells := peerA q s1) rfl rfl rfl rfl (by kernel_rfl) rfl rfl HY3.out.2.1 (by kernel_rfl) rfl (peerA_one HD3.out.1) ?_
      intro y4 hg hk
      have HY4 : Hid (Below w.heap.size w y4 ∧ y4.heap[w.heap.size + 1]? = some (.cells (peerA q s1) 41 (0, 0)) ∧ y4.heap[w.heap.size + 1 + 1]? = some (.cells (letA ((0, 0, 0, 0, 0), (0, 0, 0, 0), (0, 0, 0, 0))) 43 (0, 0)) ∧ y4.heap[x1.heap.size]? = some (.cells (peerA q s1) 41 (0, 0))) := ⟨HY3.out.1.grown hg HY3.out.1.size (fun k hk => by cases hk; omega), hk, (hg.block _ (Array.getElem?_eq_some_iff.1 HY3.out.2.2.1).1 (fun e => by have := Option.some.inj e; omega)).trans HY3.out.2.2.1, (hg.block _ (Array.getElem?_eq_some_iff.1 HY3.out.2.2.2).1 (fun e => by have := Option.some.inj e; have := HL1.out; have := HWS.out; omega)).trans HY3.out.2.2.2⟩
      have HD4 : Hid (OwnD W.heap.size y4.heap.size y4 q s1) := (HD3.out.boxed HY3.out.2.1 hg).wide hg.size (Nat.le_refl _)
      clear hg hk HY3 HD3
      refine ⟨HY4.out.2.2.2, ?_⟩
      refine h_store (s := 11) (N := w.heap.size + 1 + 1) (old := (letA ((0, 0, 0, 0, 0), (0, 0, 0, 0), (0, 0, 0, 0)))) (cells := letA LL) rfl rfl rfl rfl (by kernel_rfl) rfl rfl HY4.out.2.2.1 (by kernel_rfl) rfl (letA_one _) ?_
      intro z hg hk
      have HBz : Hid (Below w.heap.size w z) := HY4.out.1.grown hg HY4.out.1.size (fun k hk => by cases hk; omega)
      have HKz : Hid (z.heap[w.heap.size + 1]? = Option.some (.cells (peerA q s1) 41 (0, 0))) := (hg.block _ (Array.getElem?_eq_some_iff.1 HY4.out.2.1).1 (fun e => by have := Option.some.inj e; omega)).trans HY4.out.2.1
      have HLz : Hid (z.heap[w.heap.size + 1 + 1]? = Option.some (.cells (letA LL) 43 (0, 0))) := hk
      have HFz : Hid (OwnD W.heap.size z.heap.size z q s1) := (HD4.out.far hg (Or.inl (by have := HWS.out; omega))).wide hg.size (Nat.le_refl _)
      have HSz : Hid (z.heap[x1.heap.size]? = some (.cells (peerA q s1) 41 (0, 0))) := (hg.block _ (Array.getElem?_eq_some_iff.1 HY4.out.2.2.2).1 (fun e => by have := Option.some.inj e; have := HL1.out; have := HWS.out; omega)).trans HY4.out.2.2.2
      clear hg hk HY4 HD4
      refine ⟨HSz.out, ?_⟩
      refine h_take (j := 12) (e' := some 6) (v := .bool true) rfl rfl (by kernel_rfl) (by kernel_rfl) (by kernel_rfl) (fun _ _ _ h => h) (Or.inl ⟨by rfl, ?_⟩) HSz.out ?_
      · intro x hx
        go_simp
        try with_reducible rfl
      simp only [Act.put, List.setIfInBounds_toArray, List.set_cons_zero, List.set_cons_succ]
      refine wpAnyH_done (by kernel_rfl) ?_ _
      go_wp2
      refine bodyPost_ret (v := .tuple #[.agg (peerA q s1), .agg (letA LL), .bool true]) (results_cells2b Try.results5 _ _ (w.heap.size + 1) 41 _ (0, 0) _ (w.heap.size + 1 + 1) 43 _ (0, 0) _ _ rfl HKz.out Try.underlying41 rfl (by kernel_rfl) rfl HLz.out Try.underlying43 rfl (by kernel_rfl) rfl) rfl ?_
      rw [HT.out.1, HT.out.2, HGO.out]
      exact ⟨_, rfl, HFz.out.low (by have := HWS.out; omega), HBz.out⟩
  · have b1 : p.view ≥ 900 := by omega
    have b1' : (900 : Int) ≤ p.view := by omega
    have d1 : decide ((900 : Int) ≤ p.view) = true := decide_eq_true b1'
    have HGO : Hid (goesB p n = false) := (by unfold goesB; rw [decide_eq_false h1]; rfl : goesB p n = false)
    have HT := done HGO.out
    clear done
    go_enter Try.func5, Try.ntmps5
    go_wp2_with (first | (rw [← hW]; clear hW) | (refine wpList_load_row rfl _ _ rfl w.heap.size rfl 41 _ (0, 0) _ HC.out.2.1 Try.underlying41 rfl (by kernel_rfl) ?_))
    clear c1
    refine (copy_s p s W (HR.out.below HC.out.1) HS.out).mono ?_
    rintro e x1 ⟨s1, rfl, ho, hb⟩
    have HO1 : Hid (OwnD W.heap.size x1.heap.size x1 p s1) := ho.toD
    have HX1 : Hid (Below w.heap.size w x1 ∧ x1.heap[w.heap.size + 1]? = some (.cells zeroA 41 (0, 0)) ∧ x1.heap[w.heap.size + 1 + 1]? = some (.cells (letA ((0, 0, 0, 0, 0), (0, 0, 0, 0), (0, 0, 0, 0))) 43 (0, 0))) := ⟨bt HC.out.1 hb, (hb.block _ (Array.getElem?_eq_some_iff.1 HC.out.2.2.1).1).trans HC.out.2.2.1, (hb.block _ (Array.getElem?_eq_some_iff.1 HC.out.2.2.2).1).trans HC.out.2.2.2⟩
    clear ho hb HC
    go_wp2_with (first
      | (refine wpList_store_blk rfl _ _ _ rfl (w.heap.size + 1) (peerA p s1) rfl rfl 41 zeroA HX1.out.2.1 (by kernel_rfl) rfl (peerA_one HO1.out.1) ?_; intro y1 hg hk hz; have HY1 : Hid (Below w.heap.size w y1 ∧ y1.heap[w.heap.size + 1]? = Option.some (.cells (peerA p s1) 41 (0, 0)) ∧ y1.heap[w.heap.size + 1 + 1]? = Option.some (.cells (letA ((0, 0, 0, 0, 0), (0, 0, 0, 0), (0, 0, 0, 0))) 43 (0, 0))) := ⟨HX1.out.1.grown hg HX1.out.1.size (fun k hk => by cases hk; omega), hk, (hg.block _ (Array.getElem?_eq_some_iff.1 HX1.out.2.2).1 (fun e => by have := Option.some.inj e; omega)).trans HX1.out.2.2⟩; have HD1 : Hid (OwnD W.heap.size y1.heap.size y1 p s1) := (HO1.out.boxed HX1.out.2.1 hg).wide hg.size (Nat.le_refl _); clear hg hk hz HX1 HO1)
      | (refine wpList_store_blk rfl _ _ _ rfl (w.heap.size + 1 + 1) (letA ((0, 0, 0, 0, 0), (0, 0, 0, 0), (0, 0, 0, 0))) rfl rfl 43 (letA ((0, 0, 0, 0, 0), (0, 0, 0, 0), (0, 0, 0, 0))) HY1.out.2.2 (by kernel_rfl) rfl (letA_one _) ?_; intro z hg hk hz; have HBz : Hid (Below w.heap.size w z) := HY1.out.1.grown hg HY1.out.1.size (fun k hk => by cases hk; omega); have HKz : Hid (z.heap[w.heap.size + 1]? = Option.some (.cells (peerA p s1) 41 (0, 0))) := (hg.block _ (Array.getElem?_eq_some_iff.1 HY1.out.2.1).1 (fun e => by have := Option.some.inj e; omega)).trans HY1.out.2.1; have HLz : Hid (z.heap[w.heap.size + 1 + 1]? = Option.some (.cells (letA ((0, 0, 0, 0, 0), (0, 0, 0, 0), (0, 0, 0, 0))) 43 (0, 0))) := hk; have HFz : Hid (OwnD W.heap.size z.heap.size z p s1) := (HD1.out.far hg (Or.inl (by have := HWS.out; omega))).wide hg.size (Nat.le_refl _); clear hg hk hz HY1 HD1))
    refine bodyPost_ret (v := .tuple #[.agg (peerA p s1), .agg (letA ((0, 0, 0, 0, 0), (0, 0, 0, 0), (0, 0, 0, 0))), .bool false]) (results_cells2b Try.results5 _ _ (w.heap.size + 1) 41 _ (0, 0) _ (w.heap.size + 1 + 1) 43 _ (0, 0) _ _ rfl HKz.out Try.underlying41 rfl (by kernel_rfl) rfl HLz.out Try.underlying43 rfl (by kernel_rfl) rfl) rfl ?_
    rw [HT.out.1, HT.out.2, HGO.out]
    exact ⟨_, rfl, HFz.out.low (by have := HWS.out; omega), HBz.out⟩

end Go.Proofs.Ytdopefimjabigat
