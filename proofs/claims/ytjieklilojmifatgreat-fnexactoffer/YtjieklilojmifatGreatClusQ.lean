/-
  A command offered: the contract of the specification's Offer. (Made by gof15.py.)
-/
import Derived.Test.YtjieklilojmifatGreatClusH
import Derived.Test.YtjieklilojmifatGreatJ2
namespace Go.Proofs.YtjieklilojmifatGreat
open Go.RowKit Num

/-- other commands that wait -/
theorem OwnC.setPend {lo hi hi' : Nat} {w w' : World} {c : CU} {s : CW} {v : Value} {l : List CM} (h : OwnC lo hi w c s) (hg : w.grownBy w' s.pend.ownBlock) (hh : hi ≤ hi') (hs : hi' ≤ w'.heap.size) (ho : w'.ownsRow lo 43 3 v l.length (flatR cmdF l)) (hv : ∀ g, v.ownBlock = some g → s.pend.ownBlock = some g ∨ (hi ≤ g ∧ g < hi')) (hlo : lo ≤ hi) : OwnC lo hi' w' { c with pend := l } { s with pend := v } := by
  have hf : FrS (partC s 4) w w' := FrS.of_grown hg (fun g e => e)
  have kp : ∀ i g, i < 4 → partC s i g → ¬ partC s 4 g := fun i g hi4 hp hq => by have := h.dis i 4 g (by omega) (by omega) hp hq; omega
  have bd : ∀ i g, i < 5 → partC { s with pend := v } i g → partC s i g ∨ (i = 4 ∧ hi ≤ g ∧ g < hi') := fun i g hi5 hp => by
    match i, hi5 with
    | 0, _ => exact Or.inl hp
    | 1, _ => exact Or.inl hp
    | 2, _ => exact Or.inl hp
    | 3, _ => exact Or.inl hp
    | 4, _ => exact (hv g hp).imp id (fun h => ⟨rfl, h⟩)
  refine ⟨h.etree, h.tree.frs hf (fun g hp => kp 0 g (by omega) hp), h.epeers, h.peers.frs hf (fun g hp => kp 1 g (by omega) (Or.inl hp)) (fun x hx g hp => kp 1 g (by omega) (Or.inr ⟨x, hx, hp⟩)), hf.own h.net (fun g hp => kp 2 g (by omega) hp), hf.own h.said (fun g hp => kp 3 g (by omega) hp), ho, fun i j g hi5 hj5 h1 h2 => ?_, fun i g hi5 hp => ?_, hs⟩
  · rcases bd i g hi5 h1 with h1 | h1 <;> rcases bd j g hj5 h2 with h2 | h2
    · exact h.dis i j g hi5 hj5 h1 h2
    · have := h.lim i g hi5 h1; omega
    · have := h.lim j g hj5 h2; omega
    · omega
  · rcases bd i g hi5 hp with h1 | h1
    · have := h.lim i g hi5 h1; omega
    · omega
/-- a command behind those of the copy -/
theorem offer_step {w y2 y3 W x1 : World} {c : CU} {s1 : CW} {x : CM} {v7 : Value} {A O : Array Value} {o : Obj} (h1 : Below w.heap.size w y2) (h2 : y2.heap[w.heap.size + 1 + 1]? = some (.cells A 39 (0, 0))) (h3 : y2.heap[x1.heap.size]? = some (.cells O 39 (0, 0))) (h4 : OwnC W.heap.size x1.heap.size y2 c s1) (h5 : x1.heap.size < y2.heap.size) (h6 : W.heap.size ≤ x1.heap.size) (h7 : w.heap.size + 1 + 1 < W.heap.size)
    (hg : (y2.alloc o).grownBy y3 s1.pend.ownBlock) (ho : y3.ownsRow W.heap.size 43 3 v7 (c.pend.length + 1) (flatR cmdF (c.pend ++ [x]))) (hw : s1.pend.ownBlock = v7.ownBlock ∨ v7.ownBlock = some (y2.alloc o).heap.size) :
    Below w.heap.size w y3 ∧ y3.heap[w.heap.size + 1 + 1]? = some (.cells A 39 (0, 0)) ∧ y3.heap[x1.heap.size]? = some (.cells O 39 (0, 0)) ∧ OwnC W.heap.size y3.heap.size y3 { c with pend := c.pend ++ [x] } { s1 with pend := v7 } := by
  have hal := alloc_below y2 o
  have hp : ∀ g, s1.pend.ownBlock = some g → W.heap.size ≤ g ∧ g < x1.heap.size := fun g hg => h4.lim 4 g (by omega) hg
  have hc := h4.below hal
  refine ⟨(bt h1 hal).grown hg (bt h1 hal).size (fun k hk => by have := hp k hk; omega), ?_, ?_, ?_⟩
  · exact (hg.block _ (by have := hal.size; have := (Array.getElem?_eq_some_iff.1 h2).1; omega) (fun e => by have := hp _ e.symm; omega)).trans ((hal.block _ (Array.getElem?_eq_some_iff.1 h2).1).trans h2)
  · exact (hg.block _ (by have := hal.size; omega) (fun e => by have := hp _ e.symm; omega)).trans ((hal.block _ h5).trans h3)
  · exact hc.setPend hg (by have := hal.size; have := hg.size; omega) (Nat.le_refl _) (by rw [List.length_append]; exact ho) (fun g e => by
      rcases hw with hw | hw
      · exact Or.inl (by rw [hw]; exact e)
      · rw [hw] at e
        cases e
        exact Or.inr ⟨by have := hal.size; omega, (ho.lt _ hw).2⟩) h6
def offerC (c : CU) (x : CM) : CU × Bool := if cmdB x = true ∧ c.pend.length < 8 then ({ c with pend := c.pend ++ [x] }, true) else (c, false)

set_option maxRecDepth 100000 in
set_option maxHeartbeats 1000000 in
theorem offer_s (c : CU) (s : CW) (lo hi : Nat) (x : CM) (w : World) (hO : OwnC lo hi w c s) (hk : okC c) (hx : (x.2.1.size : Int) ≤ 1048576) :
    Calls Tryz.prog 7 #[clusV c s, cmdV x] w fun e w' => ∃ s', e = .returned (.tuple #[clusV (offerC c x).1 s', .bool (offerC c x).2]) ∧ OwnC w.heap.size w'.heap.size w' (offerC c x).1 s' ∧ Below w.heap.size w w' := by
  have HO := hid hO
  have HK := hid hk
  have HX := hid hx
  obtain ⟨ci, chi, chz0, chz1, chz2⟩ := info_parts infoCmd
  obtain ⟨aq, cq, eq, -⟩ := own_form hO.pend
  have HEQ : Hid (s.pend = .slice aq c.pend.length cq) := eq
  have hpl := hk.pend.1
  unfold cmdV
  obtain ⟨W, hW⟩ : ∃ W, W = ((w.alloc (.cells (clusA c s) 39)).alloc (.cells #[.int .i64 x.1, .string x.2.1, .int .i64 x.2.2] 43)).alloc (.cells zeroC 39) := ⟨_, rfl⟩
  have HC : Hid (Below w.heap.size w W ∧ W.heap[w.heap.size]? = some (.cells (clusA c s) 39 (0, 0)) ∧ W.heap[w.heap.size + 1]? = some (.cells #[.int .i64 x.1, .string x.2.1, .int .i64 x.2.2] 43 (0, 0)) ∧ W.heap[w.heap.size + 1 + 1]? = some (.cells zeroC 39 (0, 0))) := by
    rw [hW]; exact ⟨ba (ba (ba (Below.refl _ _) _) _) _, alloc3 w _ _ _⟩
  have HCW : Hid (w.heap.size + 1 + 1 < W.heap.size) := (Array.getElem?_eq_some_iff.1 HC.out.2.2.2).1
  unfold zeroC at hW
  clear hO hk hx eq
  go_enter Tryz.func7, Tryz.ntmps7
  go_wp2_with (rw [← hW]; clear hW; refine wpList_load_row rfl _ _ rfl w.heap.size rfl 39 _ (0, 0) _ HC.out.2.1 Tryz.underlying39 rfl (by kernel_rfl) ?_)
  refine (copyC_s c s W (HO.out.below HC.out.1).reads (HO.out.below HC.out.1).tree.read HK.out).mono ?_
  rintro e x1 ⟨s1, rfl, ho, hb⟩
  have HX1 : Hid (Below w.heap.size w x1 ∧ x1.heap[w.heap.size]? = some (.cells (clusA c s) 39 (0, 0)) ∧ x1.heap[w.heap.size + 1]? = some (.cells #[.int .i64 x.1, .string x.2.1, .int .i64 x.2.2] 43 (0, 0)) ∧ x1.heap[w.heap.size + 1 + 1]? = some (.cells zeroC 39 (0, 0)) ∧ W.heap.size ≤ x1.heap.size) := ⟨bt HC.out.1 hb, (hb.block _ (Array.getElem?_eq_some_iff.1 HC.out.2.1).1).trans HC.out.2.1, (hb.block _ (Array.getElem?_eq_some_iff.1 HC.out.2.2.1).1).trans HC.out.2.2.1, (hb.block _ (Array.getElem?_eq_some_iff.1 HC.out.2.2.2).1).trans HC.out.2.2.2, hb.size⟩
  have HO1 : Hid (OwnC W.heap.size x1.heap.size x1 c s1) := ho
  clear ho hb HC
  go_wp2_with (first
    | (refine wpList_store_blk rfl _ _ _ rfl x1.heap.size (clusA c s1) rfl rfl 39 zeroC (heap_alloc_new x1 _) (by kernel_rfl) rfl (clusA_one HO1.out) ?_; intro y1 hg hk hz; have hb1 : Below x1.heap.size x1 y1 := made_below hg; have HY1 : Hid (Below w.heap.size w y1 ∧ y1.heap[w.heap.size]? = some (.cells (clusA c s) 39 (0, 0)) ∧ y1.heap[w.heap.size + 1]? = some (.cells #[.int .i64 x.1, .string x.2.1, .int .i64 x.2.2] 43 (0, 0)) ∧ y1.heap[w.heap.size + 1 + 1]? = some (.cells zeroC 39 (0, 0)) ∧ y1.heap[x1.heap.size]? = some (.cells #[.int .i64 c.n, .bool c.chain, .int .i64 c.liars, s1.treeV, s1.peersV, s1.net, s1.said, s1.pend] 39 (0, 0)) ∧ OwnC W.heap.size x1.heap.size y1 c s1 ∧ x1.heap.size < y1.heap.size) := ⟨bt HX1.out.1 hb1, (hb1.block _ (Array.getElem?_eq_some_iff.1 HX1.out.2.1).1).trans HX1.out.2.1, (hb1.block _ (Array.getElem?_eq_some_iff.1 HX1.out.2.2.1).1).trans HX1.out.2.2.1, (hb1.block _ (Array.getElem?_eq_some_iff.1 HX1.out.2.2.2.1).1).trans HX1.out.2.2.2.1, hk, HO1.out.below hb1, (Array.getElem?_eq_some_iff.1 hk).1⟩; clear hg hk hz hb1 HO1)
    | (refine wpList_load_row rfl _ _ rfl (w.heap.size + 1) rfl 43 _ (0, 0) _ HY1.out.2.2.1 Tryz.underlying43 rfl (by kernel_rfl) ?_))
  refine (cmd_s x y1 HX.out).mono ?_
  rintro e y2 ⟨rfl, hb⟩
  have HY2 : Hid (Below w.heap.size w y2 ∧ y2.heap[w.heap.size]? = some (.cells (clusA c s) 39 (0, 0)) ∧ y2.heap[w.heap.size + 1]? = some (.cells #[.int .i64 x.1, .string x.2.1, .int .i64 x.2.2] 43 (0, 0)) ∧ y2.heap[w.heap.size + 1 + 1]? = some (.cells zeroC 39 (0, 0)) ∧ y2.heap[x1.heap.size]? = some (.cells #[.int .i64 c.n, .bool c.chain, .int .i64 c.liars, s1.treeV, s1.peersV, s1.net, s1.said, s1.pend] 39 (0, 0)) ∧ OwnC W.heap.size x1.heap.size y2 c s1 ∧ x1.heap.size < y2.heap.size) := ⟨bt HY1.out.1 hb, (hb.block _ (Array.getElem?_eq_some_iff.1 HY1.out.2.1).1).trans HY1.out.2.1, (hb.block _ (Array.getElem?_eq_some_iff.1 HY1.out.2.2.1).1).trans HY1.out.2.2.1, (hb.block _ (Array.getElem?_eq_some_iff.1 HY1.out.2.2.2.1).1).trans HY1.out.2.2.2.1, (hb.block _ (Array.getElem?_eq_some_iff.1 HY1.out.2.2.2.2.1).1).trans HY1.out.2.2.2.2.1, HY1.out.2.2.2.2.2.1.below hb, Nat.lt_of_lt_of_le HY1.out.2.2.2.2.2.2 hb.size⟩
  clear hb HY1
  have c7 := blk_cell HY2.out.2.1 7 (.slice aq c.pend.length cq) (by rw [← HEQ.out]; rfl)
  by_cases hyes : cmdB x = true ∧ c.pend.length < 8
  · have HE : Hid (offerC c x = ({ c with pend := c.pend ++ [x] }, true)) := if_pos hyes
    have hlt : ¬ (8 : Int) ≤ (c.pend.length : Int) := by omega
    rw [hyes.1]
    clear hyes
    go_wp2_with (first
      | (refine wpList_store_cell rfl _ _ _ rfl x1.heap.size 7 v7 rfl rfl _ _ HY3.out.2.2.1 (by kernel_rfl) (by simp) (own_oneC HY3.out.2.2.2.pend) #[.int .i64 c.n, .bool c.chain, .int .i64 c.liars, s1.treeV, s1.peersV, s1.net, s1.said, v7] rfl ?_; intro y4 hg hk; have HY4 : Hid (y4.heap[x1.heap.size]? = some (.cells #[.int .i64 c.n, .bool c.chain, .int .i64 c.liars, s1.treeV, s1.peersV, s1.net, s1.said, v7] 39 (0, 0)) ∧ y4.heap[w.heap.size + 1 + 1]? = some (.cells zeroC 39 (0, 0)) ∧ Below w.heap.size w y4 ∧ OwnC W.heap.size y3.heap.size y4 { c with pend := c.pend ++ [x] } { s1 with pend := v7 } ∧ y3.heap.size ≤ y4.heap.size) := ⟨hk, (hg.block _ (Array.getElem?_eq_some_iff.1 HY3.out.2.1).1 (fun e => by have := Option.some.inj e; have := HCW.out; have := HX1.out.2.2.2.2; omega)).trans HY3.out.2.1, HY3.out.1.grown hg HY3.out.1.size (fun k hk => by cases hk; have := HCW.out; have := HX1.out.2.2.2.2; omega), HY3.out.2.2.2.boxT HY3.out.2.2.1 hg, hg.size⟩; clear hg hk)
      | (refine wpList_load_blk rfl _ _ rfl x1.heap.size 7 s1.pend _ _ rfl HY2.out.2.2.2.2.1 rfl _ Tryz.underlying37 rfl ?_)
      | (refine wpList_load_row rfl _ _ rfl (w.heap.size + 1) rfl 43 _ (0, 0) _ HY2.out.2.2.1 Tryz.underlying43 rfl (by kernel_rfl) ?_)
      | (at_builtin; (refine wpList_append_lies _ rfl (.tmp 20) (.tmp 22) 37 rfl W.heap.size 43 ci _ 3 32 Tryz.underlying37 chi chz0 chz1 chz2 rfl (by decide) s1.pend _ _ rfl (own_kept HY2.out.2.2.2.2.2.1.pend (alloc_below y2 _)) ⟨y2.heap.size, 0, none⟩ 1 1 (cmdF x) rfl rfl (World.news_of_block (heap_alloc_new y2 _)) (cmdF_one x) (by decide) (by unfold maxLen; omega) (by omega) (by have := HX1.out.2.2.2.2; have := HY2.out.2.2.2.2.2.2; simp; omega) _ rfl ?_; intro g2 cap2 y3 ho2 hg2 hwh hlt2; obtain ⟨v7, hv7⟩ : ∃ v7, v7 = Value.slice (some ⟨g2, 0, none⟩) (c.pend.length + 1) cap2 := ⟨_, rfl⟩; have HV7 : Hid (v7 = Value.slice (some ⟨g2, 0, none⟩) (c.pend.length + 1) cap2) := hv7; have HY3 : Hid (Below w.heap.size w y3 ∧ y3.heap[w.heap.size + 1 + 1]? = some (.cells zeroC 39 (0, 0)) ∧ y3.heap[x1.heap.size]? = some (.cells #[.int .i64 c.n, .bool c.chain, .int .i64 c.liars, s1.treeV, s1.peersV, s1.net, s1.said, s1.pend] 39 (0, 0)) ∧ OwnC W.heap.size y3.heap.size y3 { c with pend := c.pend ++ [x] } { s1 with pend := v7 }) := offer_step HY2.out.1 HY2.out.2.2.2.1 HY2.out.2.2.2.2.1 HY2.out.2.2.2.2.2.1 HY2.out.2.2.2.2.2.2 HX1.out.2.2.2.2 HCW.out hg2 (by rw [hv7, flatR_append, show flatR cmdF [x] = cmdF x from by simp [flatR]]; exact ho2) (by rw [hv7]; exact hwh.imp id (fun e => by rw [e]; rfl)); rw [← hv7]; clear ho2 hg2 hwh hlt2 hv7))
      | (refine wpList_load_row rfl _ _ rfl x1.heap.size rfl 39 _ (0, 0) _ HY4.out.1 Tryz.underlying39 rfl (by kernel_rfl) ?_)
      | (refine wpList_store_blk rfl _ _ _ rfl (w.heap.size + 1 + 1) #[.int .i64 c.n, .bool c.chain, .int .i64 c.liars, s1.treeV, s1.peersV, s1.net, s1.said, v7] rfl rfl 39 zeroC HY4.out.2.1 (by kernel_rfl) rfl (clusA_one HY4.out.2.2.2.1) ?_; intro z hg hk hz; have HBz : Hid (Below w.heap.size w z ∧ z.heap[w.heap.size + 1 + 1]? = some (.cells #[.int .i64 c.n, .bool c.chain, .int .i64 c.liars, s1.treeV, s1.peersV, s1.net, s1.said, v7] 39 (0, 0)) ∧ OwnC w.heap.size z.heap.size z { c with pend := c.pend ++ [x] } { s1 with pend := v7 }) := ⟨HY4.out.2.2.1.grown hg HY4.out.2.2.1.size (fun k hk => by cases hk; omega), hk, ((HY4.out.2.2.2.1.boxT HY4.out.2.1 hg).low (by have := HCW.out; omega)).wide (Nat.le_trans HY4.out.2.2.2.2 hg.size) (Nat.le_refl _)⟩; clear hg hk hz))
    refine bodyPost_ret (v := .tuple #[.agg #[.int .i64 c.n, .bool c.chain, .int .i64 c.liars, s1.treeV, s1.peersV, s1.net, s1.said, v7], .bool true]) (results_ct Tryz.results7 _ _ (w.heap.size + 1 + 1) 39 _ (0, 0) _ _ rfl HBz.out.2.1 Tryz.underlying39 rfl (by kernel_rfl) rfl) rfl ?_
    rw [HE.out]
    exact ⟨_, rfl, HBz.out.2.2, HBz.out.1⟩
  · have HE : Hid (offerC c x = (c, false)) := if_neg hyes
    cases hcb : cmdB x with
    | false =>
      go_wp2_with (first
        | (refine wpList_load_row rfl _ _ rfl x1.heap.size rfl 39 _ (0, 0) _ HY2.out.2.2.2.2.1 Tryz.underlying39 rfl (by kernel_rfl) ?_)
        | (refine wpList_store_blk rfl _ _ _ rfl (w.heap.size + 1 + 1) #[.int .i64 c.n, .bool c.chain, .int .i64 c.liars, s1.treeV, s1.peersV, s1.net, s1.said, s1.pend] rfl rfl 39 zeroC HY2.out.2.2.2.1 (by kernel_rfl) rfl (clusA_one HY2.out.2.2.2.2.2.1) ?_; intro z hg hk hz; have HBz : Hid (Below w.heap.size w z ∧ z.heap[w.heap.size + 1 + 1]? = some (.cells #[.int .i64 c.n, .bool c.chain, .int .i64 c.liars, s1.treeV, s1.peersV, s1.net, s1.said, s1.pend] 39 (0, 0)) ∧ OwnC w.heap.size z.heap.size z c s1) := ⟨HY2.out.1.grown hg HY2.out.1.size (fun k hk => by cases hk; omega), hk, ((HY2.out.2.2.2.2.2.1.boxT HY2.out.2.2.2.1 hg).low (by have := HCW.out; omega)).wide (Nat.le_trans (Nat.le_of_lt HY2.out.2.2.2.2.2.2) hg.size) (Nat.le_refl _)⟩; clear hg hk hz))
      refine bodyPost_ret (v := .tuple #[.agg #[.int .i64 c.n, .bool c.chain, .int .i64 c.liars, s1.treeV, s1.peersV, s1.net, s1.said, s1.pend], .bool false]) (results_ct Tryz.results7 _ _ (w.heap.size + 1 + 1) 39 _ (0, 0) _ _ rfl HBz.out.2.1 Tryz.underlying39 rfl (by kernel_rfl) rfl) rfl ?_
      rw [HE.out]
      exact ⟨_, rfl, HBz.out.2.2, HBz.out.1⟩
    | true =>
      have hge : (8 : Int) ≤ (c.pend.length : Int) := by rcases Nat.lt_or_ge c.pend.length 8 with h | h; exact absurd ⟨hcb, h⟩ hyes; omega
      go_wp2_with (first
        | (refine wpList_load_row rfl _ _ rfl x1.heap.size rfl 39 _ (0, 0) _ HY2.out.2.2.2.2.1 Tryz.underlying39 rfl (by kernel_rfl) ?_)
        | (refine wpList_store_blk rfl _ _ _ rfl (w.heap.size + 1 + 1) #[.int .i64 c.n, .bool c.chain, .int .i64 c.liars, s1.treeV, s1.peersV, s1.net, s1.said, s1.pend] rfl rfl 39 zeroC HY2.out.2.2.2.1 (by kernel_rfl) rfl (clusA_one HY2.out.2.2.2.2.2.1) ?_; intro z hg hk hz; have HBz : Hid (Below w.heap.size w z ∧ z.heap[w.heap.size + 1 + 1]? = some (.cells #[.int .i64 c.n, .bool c.chain, .int .i64 c.liars, s1.treeV, s1.peersV, s1.net, s1.said, s1.pend] 39 (0, 0)) ∧ OwnC w.heap.size z.heap.size z c s1) := ⟨HY2.out.1.grown hg HY2.out.1.size (fun k hk => by cases hk; omega), hk, ((HY2.out.2.2.2.2.2.1.boxT HY2.out.2.2.2.1 hg).low (by have := HCW.out; omega)).wide (Nat.le_trans (Nat.le_of_lt HY2.out.2.2.2.2.2.2) hg.size) (Nat.le_refl _)⟩; clear hg hk hz))
      refine bodyPost_ret (v := .tuple #[.agg #[.int .i64 c.n, .bool c.chain, .int .i64 c.liars, s1.treeV, s1.peersV, s1.net, s1.said, s1.pend], .bool false]) (results_ct Tryz.results7 _ _ (w.heap.size + 1 + 1) 39 _ (0, 0) _ _ rfl HBz.out.2.1 Tryz.underlying39 rfl (by kernel_rfl) rfl) rfl ?_
      rw [HE.out]
      exact ⟨_, rfl, HBz.out.2.2, HBz.out.1⟩

end Go.Proofs.YtjieklilojmifatGreat
