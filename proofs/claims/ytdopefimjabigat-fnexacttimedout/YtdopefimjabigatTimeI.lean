/-
  When nothing comes: the contract of the program's TimedOut. (Made by gti14.py.)
-/
import Derived.Test.YtdopefimjabigatTimeS
import Derived.Test.YtdopefimjabigatVotedI
import Derived.Test.YtdopefimjabigatAnsI
import Derived.Test.YtdopefimjabigatVoteI
namespace Go.Proofs.Ytdopefimjabigat
open Go.RowKit Num

/-- a replica's box, and those of a replica and of a letter -/
structure TB (w y : World) (A Z L : Array Value) : Prop where
  below : Below w.heap.size w y
  box : y.heap[w.heap.size]? = some (.cells A 41 (0, 0))
  zero : y.heap[w.heap.size + 1]? = some (.cells Z 41 (0, 0))
  last : y.heap[w.heap.size + 1 + 1]? = some (.cells L 43 (0, 0))
theorem TB.lt {w y : World} {A Z L : Array Value} (h : TB w y A Z L) : w.heap.size + 1 + 1 < y.heap.size := (Array.getElem?_eq_some_iff.1 h.last).1
theorem TB.more {w y x : World} {A Z L : Array Value} (h : TB w y A Z L) (hb : Below y.heap.size y x) : TB w x A Z L := by
  have := h.lt
  exact ⟨bt h.below hb, (hb.block _ (by omega)).trans h.box, (hb.block _ (by omega)).trans h.zero, (hb.block _ (by omega)).trans h.last⟩
theorem TB.put {w y x : World} {A A' Z L : Array Value} (h : TB w y A Z L) (hg : y.grownBy x (some w.heap.size)) (hk : x.heap[w.heap.size]? = some (.cells A' 41 (0, 0))) : TB w x A' Z L := by
  have := h.lt
  exact ⟨h.below.grown hg h.below.size (fun k hk => by cases hk; omega), hk, (hg.block _ (by omega) (fun e => by have := Option.some.inj e; omega)).trans h.zero, (hg.block _ (by omega) (fun e => by have := Option.some.inj e; omega)).trans h.last⟩
theorem TB.put1 {w y x : World} {A Z Z' L : Array Value} (h : TB w y A Z L) (hg : y.grownBy x (some (w.heap.size + 1))) (hk : x.heap[w.heap.size + 1]? = some (.cells Z' 41 (0, 0))) : TB w x A Z' L := by
  have := h.lt
  exact ⟨h.below.grown hg h.below.size (fun k hk => by cases hk; omega), (hg.block _ (by omega) (fun e => by have := Option.some.inj e; omega)).trans h.box, hk, (hg.block _ (by omega) (fun e => by have := Option.some.inj e; omega)).trans h.last⟩
theorem TB.put2 {w y x : World} {A Z L L' : Array Value} (h : TB w y A Z L) (hg : y.grownBy x (some (w.heap.size + 1 + 1))) (hk : x.heap[w.heap.size + 1 + 1]? = some (.cells L' 43 (0, 0))) : TB w x A Z L' := by
  have := h.lt
  exact ⟨h.below.grown hg h.below.size (fun k hk => by cases hk; omega), (hg.block _ (by omega) (fun e => by have := Option.some.inj e; omega)).trans h.box, (hg.block _ (by omega) (fun e => by have := Option.some.inj e; omega)).trans h.zero, hk⟩

theorem leader_ii {view n r : Int} (h : leaderT view n = r) (hn0 : -9223372036854775808 ≤ n) (hn1 : n ≤ 9223372036854775807) (hv0 : -9223372036854775808 ≤ view) (hv1 : view ≤ 9223372036854775807) (w : World) :
    Calls Try.prog 32 #[.int .i64 view, .int .i64 n] w fun e w' => e = .returned (.int .i64 r) ∧ w' = w := by rw [← h]; exact leader_i0 view n w hn0 hn1 hv0 hv1
set_option maxRecDepth 100000 in
set_option maxHeartbeats 8000000 in
theorem timedR_i (p : PE) (s : PV) (n : Int) (w : World) (hg : goodPe p) (hwn : (Lit.int .i64 n).wf = true) (hR : PeerR w p s) (hs : smallPe p) :
    Calls Try.prog 7 #[peerV p s, .int .i64 n] w fun e w' => ∃ s', e = .returned (.tuple #[peerV (timedP p n) s', .agg (letA (timedL p n)), .bool (goesB p n)]) ∧ OwnD w.heap.size w'.heap.size w' (timedP p n) s' ∧ Below w.heap.size w w' := by
  have HR := hid hR
  have HS := hid hs
  obtain ⟨hn0, hn1⟩ := bounds_i64 hwn
  obtain ⟨hv0, hv1⟩ := bounds_i64 hg.gview
  clear hR hs hg hwn
  obtain ⟨W, hW⟩ : ∃ W, W = ((w.alloc (.cells (peerA p s) 41)).alloc (.cells zeroA 41)).alloc (.cells (letA ((0, 0, 0, 0, 0), (0, 0, 0, 0), (0, 0, 0, 0))) 43) := ⟨_, rfl⟩
  have HC : Hid (TB w W (peerA p s) zeroA (letA ((0, 0, 0, 0, 0), (0, 0, 0, 0), (0, 0, 0, 0)))) := by
    have a3 := alloc3 w (.cells (peerA p s) 41) (.cells zeroA 41) (.cells (letA ((0, 0, 0, 0, 0), (0, 0, 0, 0), (0, 0, 0, 0))) 43)
    rw [hW]; exact ⟨ba (ba (ba (Below.refl _ _) _) _) _, a3.1, a3.2.1, a3.2.2⟩
  have HWS : Hid (W.heap.size = w.heap.size + 1 + 1 + 1) := (by rw [hW]; simp : W.heap.size = w.heap.size + 1 + 1 + 1)
  have c1 := blk_cell HC.out.box 1 (.int .i64 p.view) rfl
  unfold zeroA letA at hW
  simp only at hW
  cases hgo : goesB p n with
  | true =>
    have hg2 := hgo
    unfold goesB inB at hg2
    simp only [Bool.and_eq_true, decide_eq_true_eq] at hg2
    obtain ⟨h1, h2, h3⟩ := hg2
    have b1 : ¬ p.view ≥ 900 := by omega
    have b1' : ¬ (900 : Int) ≤ p.view := by omega
    have d1 : decide ((900 : Int) ≤ p.view) = false := decide_eq_false b1'
    have b2 : ¬ n < 1 := by omega
    have b3 : ¬ n > 7 := by omega
    have b3' : ¬ (7 : Int) < n := by omega
    have hwv : IntKind.wrap .i64 (p.view + 1) = p.view + 1 := by rw [IntKind.wrap_i64]; omega
    have HT : Hid (timedP p n = enterP p (p.view + 1) ∧ timedL p n = answerT (enterP p (p.view + 1)) 4 (leaderT (enterP p (p.view + 1)).view n) (enterP p (p.view + 1)).high (0, 0, 0, 0)) := (by unfold timedP timedL; rw [hgo]; exact ⟨rfl, rfl⟩ : _ ∧ _)
    have hvv : (enterP p (p.view + 1)).view = p.view + 1 := by unfold enterP; rw [if_pos ⟨by omega, by omega⟩]
    go_enter Try.func7, Try.ntmps7
    go_wp2_with (first | (rw [← hW]; clear hW) | (refine wpList_load_row rfl _ _ rfl w.heap.size rfl 41 _ (0, 0) _ HC.out.box Try.underlying41 rfl (by kernel_rfl) ?_))
    refine (enteredR_i p s (p.view + 1) W (HR.out.below HC.out.below) HS.out).mono ?_
    obtain ⟨q, hq⟩ : ∃ q, q = enterP p (p.view + 1) := ⟨_, rfl⟩
    rw [← hq] at hvv HT ⊢
    have HQV : Hid (q.view = p.view + 1) := hvv
    clear hq hvv
    rintro e x1 ⟨s1, rfl, ho, hb⟩
    have HO1 : Hid (OwnD W.heap.size x1.heap.size x1 q s1) := ho
    have HX1 := hid (HC.out.more hb)
    clear ho hb HC c1
    go_wp2_with (refine wpList_store_blk rfl _ _ _ rfl w.heap.size (peerA q s1) rfl rfl 41 (peerA p s) HX1.out.box (by kernel_rfl) rfl (peerA_one HO1.out.1) ?_; intro y1 hg hk hz; have HY1 := hid (HX1.out.put hg hk); have HD1 : Hid (OwnD W.heap.size y1.heap.size y1 q s1) := (HO1.out.boxed HX1.out.box hg).wide hg.size (Nat.le_refl _); clear hg hk hz HX1 HO1)
    obtain ⟨ld, e1⟩ : ∃ ld, leaderT q.view n = ld := ⟨_, rfl⟩
    rw [e1] at HT
    refine wp_region_H (fun x => x.heap[w.heap.size]? = some (.cells (peerA q s1) 41 (0, 0))) (by kernel_rfl) ?_
    show wpAnyH Try.prog _ _ _ _ (12 + 1) (Array.replicate 13 false) _ _
    have hS : y1.drew.heap[w.heap.size]? = some (.cells (peerA q s1) 41 (0, 0)) := HY1.out.box
    refine h_take (j := 0) (e' := some 26) (v := .agg (peerA q s1)) rfl rfl (by kernel_rfl) (by kernel_rfl) (by kernel_rfl) (fun _ _ _ h => h) (Or.inl ⟨by rfl, fun x hx => exec_load_blk _ _ rfl w.heap.size rfl _ _ _ _ hx Try.underlying41 rfl (by kernel_rfl)⟩) hS ?_
    simp only [Act.put, List.setIfInBounds_toArray, List.set_cons_zero, List.set_cons_succ]
    refine h_take (j := 1) (e' := some 27) (v := .agg (peerA q s1)) rfl rfl (by kernel_rfl) (by kernel_rfl) (by kernel_rfl) (fun _ _ _ h => h) (Or.inl ⟨by rfl, fun x hx => exec_load_blk _ _ rfl w.heap.size rfl _ _ _ _ hx Try.underlying41 rfl (by kernel_rfl)⟩) hS ?_
    simp only [Act.put, List.setIfInBounds_toArray, List.set_cons_zero, List.set_cons_succ]
    refine h_take (j := 2) (e' := some 28) (v := .pointer (some ⟨w.heap.size, 1, none⟩)) rfl rfl (by kernel_rfl) (by kernel_rfl) (by kernel_rfl) (fun _ _ _ h => h) (Or.inl ⟨by rfl, ?_⟩) hS ?_
    · intro x hx
      go_simp
      try with_reducible rfl
    simp only [Act.put, List.setIfInBounds_toArray, List.set_cons_zero, List.set_cons_succ]
    refine h_take (j := 3) (e' := some 29) (v := .int .i64 q.view) rfl rfl (by kernel_rfl) (by kernel_rfl) (by kernel_rfl) (fun _ _ _ h => h) (Or.inl ⟨by rfl, ?_⟩) hS ?_
    · intro x hx
      have c := blk_cell hx 1 (.int .i64 q.view) rfl
      go_simp
      try with_reducible rfl
    simp only [Act.put, List.setIfInBounds_toArray, List.set_cons_zero, List.set_cons_succ]
    refine h_take (j := 4) (e' := some 30) (v := .int .i64 n) rfl rfl (by kernel_rfl) (by kernel_rfl) (by kernel_rfl) (fun _ _ _ h => h) (Or.inl ⟨by rfl, ?_⟩) hS ?_
    · intro x hx
      go_simp
      try with_reducible rfl
    simp only [Act.put, List.setIfInBounds_toArray, List.set_cons_zero, List.set_cons_succ]
    refine h_take (j := 6) (e' := some 32) (v := .pointer (some ⟨w.heap.size, 2, none⟩)) rfl rfl (by kernel_rfl) (by kernel_rfl) (by kernel_rfl) (fun _ _ _ h => h) (Or.inl ⟨by rfl, ?_⟩) hS ?_
    · intro x hx
      go_simp
      try with_reducible rfl
    simp only [Act.put, List.setIfInBounds_toArray, List.set_cons_zero, List.set_cons_succ]
    refine h_take (j := 7) (e' := some 33) (v := .agg #[.int .i64 q.high.1, .int .i64 q.high.2.1, .int .i64 q.high.2.2.1, .int .i64 q.high.2.2.2]) rfl rfl (by kernel_rfl) (by kernel_rfl) (by kernel_rfl) (fun _ _ _ h => h) (Or.inl ⟨by rfl, ?_⟩) hS ?_
    · intro x hx
      have c0 := blk_cell hx 2 (.int .i64 q.high.1) rfl
      have c1 := blk_cell hx 3 (.int .i64 q.high.2.1) rfl
      have c2 := blk_cell hx 4 (.int .i64 q.high.2.2.1) rfl
      have c3 := blk_cell hx 5 (.int .i64 q.high.2.2.2) rfl
      go_simp
      try with_reducible rfl
    simp only [Act.put, List.setIfInBounds_toArray, List.set_cons_zero, List.set_cons_succ]
    refine h_take (j := 8) (e' := some 34) (v := .agg #[.int .i64 0, .int .i64 0, .int .i64 0, .int .i64 0]) rfl rfl (by kernel_rfl) (by kernel_rfl) (by kernel_rfl) (fun _ _ _ h => h) (Or.inl ⟨by rfl, ?_⟩) hS ?_
    · intro x hx
      go_simp
      try with_reducible rfl
    simp only [Act.put, List.setIfInBounds_toArray, List.set_cons_zero, List.set_cons_succ]
    refine h_call (c := 5) (e' := some 31) (fn := 32) (args := #[.int .i64 q.view, .int .i64 n]) rfl rfl (by kernel_rfl) (by rfl) ?_ ((leader_ii e1 hn0 hn1 (by have := HQV.out; omega) (by have := HQV.out; omega) y1.drew).mono ?_)
    · go_simp
      try with_reducible rfl
    rintro e x2 ⟨rfl, hw⟩
    obtain rfl := hw.symm
    clear hw
    refine ⟨_, rfl, hS, ?_⟩
    simp only [Act.put, List.setIfInBounds_toArray, List.set_cons_zero, List.set_cons_succ]
    refine h_call (c := 9) (e' := some 35) (fn := 31) (args := #[.agg (peerA q s1), .int .i64 4, .int .i64 ld, .agg #[.int .i64 q.high.1, .int .i64 q.high.2.1, .int .i64 q.high.2.2.1, .int .i64 q.high.2.2.2], .agg #[.int .i64 0, .int .i64 0, .int .i64 0, .int .i64 0]]) rfl rfl (by kernel_rfl) (by rfl) ?_ ((answeredR_i q s1 4 ld q.high (0, 0, 0, 0) y1.drew).mono ?_)
    · go_simp
      try with_reducible rfl
    obtain ⟨LL, hLL⟩ : ∃ LL, LL = answerT q 4 ld q.high (0, 0, 0, 0) := ⟨_, rfl⟩
    rw [← hLL] at HT ⊢
    clear hLL
    rintro e x3 ⟨rfl, hb0⟩
    have hb : Below y1.heap.size y1 x3 := ((Below.refl _ _).drew).trans hb0
    have HY3 := hid (HY1.out.more hb)
    have HD3 : Hid (OwnD W.heap.size x3.heap.size x3 q s1) := (HD1.out.below hb).wide hb.size (Nat.le_refl _)
    clear hb hb0 hS HY1 HD1
    refine ⟨_, rfl, HY3.out.box, ?_⟩
    simp only [Act.put, List.setIfInBounds_toArray, List.set_cons_zero, List.set_cons_succ]
    refine h_store (s := 10) (N := w.heap.size + 1) (old := zeroA) (cells := peerA q s1) rfl rfl rfl rfl (by kernel_rfl) rfl rfl HY3.out.zero (by kernel_rfl) rfl (peerA_one HD3.out.1) ?_
    intro y4 hg hk
    have HY4 := hid (HY3.out.put1 hg hk)
    have HD4 : Hid (OwnD W.heap.size y4.heap.size y4 q s1) := (HD3.out.boxed HY3.out.zero hg).wide hg.size (Nat.le_refl _)
    clear hg hk HY3 HD3
    refine ⟨HY4.out.box, ?_⟩
    refine h_store (s := 11) (N := w.heap.size + 1 + 1) (old := (letA ((0, 0, 0, 0, 0), (0, 0, 0, 0), (0, 0, 0, 0)))) (cells := letA LL) rfl rfl rfl rfl (by kernel_rfl) rfl rfl HY4.out.last (by kernel_rfl) rfl (letA_one _) ?_
    intro z hg hk
    have HZ := hid (HY4.out.put2 hg hk)
    have HFz : Hid (OwnD W.heap.size z.heap.size z q s1) := (HD4.out.far hg (Or.inl (by have := HWS.out; omega))).wide hg.size (Nat.le_refl _)
    clear hg hk HY4 HD4
    refine ⟨HZ.out.box, ?_⟩
    refine h_take (j := 12) (e' := some 6) (v := .bool true) rfl rfl (by kernel_rfl) (by kernel_rfl) (by kernel_rfl) (fun _ _ _ h => h) (Or.inl ⟨by rfl, ?_⟩) HZ.out.box ?_
    · intro x hx
      go_simp
      try with_reducible rfl
    simp only [Act.put, List.setIfInBounds_toArray, List.set_cons_zero, List.set_cons_succ]
    refine wpAnyH_done (by kernel_rfl) ?_ _
    go_wp2
    refine bodyPost_ret (v := .tuple #[.agg (peerA q s1), .agg (letA LL), .bool true]) (results_cells2b Try.results7 _ _ (w.heap.size + 1) 41 _ (0, 0) _ (w.heap.size + 1 + 1) 43 _ (0, 0) _ _ rfl HZ.out.zero Try.underlying41 rfl (by kernel_rfl) rfl HZ.out.last Try.underlying43 rfl (by kernel_rfl) rfl) rfl ?_
    rw [HT.out.1, HT.out.2]
    exact ⟨_, rfl, HFz.out.low (by have := HWS.out; omega), HZ.out.below⟩
  | false =>
    have HT : Hid (timedP p n = p ∧ timedL p n = ((0, 0, 0, 0, 0), (0, 0, 0, 0), (0, 0, 0, 0))) := (by unfold timedP timedL; rw [hgo]; exact ⟨rfl, rfl⟩ : timedP p n = p ∧ _)
    have hc : decide ((900 : Int) ≤ p.view) = true ∨ (decide ((900 : Int) ≤ p.view) = false ∧ decide (n < 1) = true) ∨ (decide ((900 : Int) ≤ p.view) = false ∧ decide (n < 1) = false ∧ decide ((7 : Int) < n) = true) := by
      unfold goesB inB at hgo
      simp only [decide_eq_true_eq, decide_eq_false_iff_not]
      by_cases a1 : (900 : Int) ≤ p.view
      · exact Or.inl a1
      · by_cases a2 : n < 1
        · exact Or.inr (Or.inl ⟨a1, a2⟩)
        · refine Or.inr (Or.inr ⟨a1, a2, ?_⟩)
          have e1 : decide (p.view < 900) = true := decide_eq_true (by omega)
          rw [e1, Bool.true_and] at hgo
          have := of_decide_eq_false hgo
          omega
    rcases hc with d1 | ⟨d1, d2⟩ | ⟨d1, d2, d3⟩
    all_goals
      go_enter Try.func7, Try.ntmps7
      go_wp2_with (first | (rw [← hW]; clear hW) | (refine wpList_load_row rfl _ _ rfl w.heap.size rfl 41 _ (0, 0) _ HC.out.box Try.underlying41 rfl (by kernel_rfl) ?_))
      refine (copyPeer_i p s W (HR.out.below HC.out.below) HS.out).mono ?_
      rintro e x1 ⟨s1, rfl, ho, hb⟩
      have HO1 : Hid (OwnD W.heap.size x1.heap.size x1 p s1) := ho
      have HX1 := hid (HC.out.more hb)
      clear ho hb HC c1
      go_wp2_with (first
        | (refine wpList_store_blk rfl _ _ _ rfl (w.heap.size + 1) (peerA p s1) rfl rfl 41 zeroA HX1.out.zero (by kernel_rfl) rfl (peerA_one HO1.out.1) ?_; intro y1 hg hk hz; have HY1 := hid (HX1.out.put1 hg hk); have HD1 : Hid (OwnD W.heap.size y1.heap.size y1 p s1) := (HO1.out.boxed HX1.out.zero hg).wide hg.size (Nat.le_refl _); clear hg hk hz HX1 HO1)
        | (refine wpList_store_blk rfl _ _ _ rfl (w.heap.size + 1 + 1) (letA ((0, 0, 0, 0, 0), (0, 0, 0, 0), (0, 0, 0, 0))) rfl rfl 43 (letA ((0, 0, 0, 0, 0), (0, 0, 0, 0), (0, 0, 0, 0))) HY1.out.last (by kernel_rfl) rfl (letA_one _) ?_; intro z hg hk hz; have HZ := hid (HY1.out.put2 hg hk); have HFz : Hid (OwnD W.heap.size z.heap.size z p s1) := (HD1.out.far hg (Or.inl (by have := HWS.out; omega))).wide hg.size (Nat.le_refl _); clear hg hk hz HY1 HD1))
      refine bodyPost_ret (v := .tuple #[.agg (peerA p s1), .agg (letA ((0, 0, 0, 0, 0), (0, 0, 0, 0), (0, 0, 0, 0))), .bool false]) (results_cells2b Try.results7 _ _ (w.heap.size + 1) 41 _ (0, 0) _ (w.heap.size + 1 + 1) 43 _ (0, 0) _ _ rfl HZ.out.zero Try.underlying41 rfl (by kernel_rfl) rfl HZ.out.last Try.underlying43 rfl (by kernel_rfl) rfl) rfl ?_
      rw [HT.out.1, HT.out.2]
      exact ⟨_, rfl, HFz.out.low (by have := HWS.out; omega), HZ.out.below⟩

end Go.Proofs.Ytdopefimjabigat
