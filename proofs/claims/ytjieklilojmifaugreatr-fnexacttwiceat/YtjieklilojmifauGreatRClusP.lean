/-
  Letters put behind the others, through a pointer to a cluster: the contracts of the specification's l15Post, Post, l15Twice and TwiceAt. (Made by gpo15.py.)
-/
import Derived.Test.YtjieklilojmifauGreatRClusS
import Derived.Test.YtjieklilojmifauGreatRJ0
namespace Go.Proofs.YtjieklilojmifauGreatR
open Go.RowKit Num

/-- another net -/
theorem OwnC.setNet {lo hi hi' : Nat} {w : World} {c : CU} {s : CW} {v : Value} {l : List LT} (h : OwnC lo hi w c s) (hh : hi ≤ hi') (hs : hi' ≤ w.heap.size) (ho : w.ownsRow lo 65 13 v l.length (flatR letF l)) (hv : ∀ g, v.ownBlock = some g → hi ≤ g ∧ g < hi') (hlo : lo ≤ hi) : OwnC lo hi' w { c with net := l } { s with net := v } := by
  have bd : ∀ i g, i < 5 → partC { s with net := v } i g → (i = 2 ∧ hi ≤ g ∧ g < hi') ∨ (partC s i g ∧ lo ≤ g ∧ g < hi) := fun i g hi5 hg => by
    match i, hi5 with
    | 0, _ => exact Or.inr ⟨hg, h.lim 0 g (by omega) hg⟩
    | 1, _ => exact Or.inr ⟨hg, h.lim 1 g (by omega) hg⟩
    | 2, _ => exact Or.inl ⟨rfl, hv g hg⟩
    | 3, _ => exact Or.inr ⟨hg, h.lim 3 g (by omega) hg⟩
    | 4, _ => exact Or.inr ⟨hg, h.lim 4 g (by omega) hg⟩
  refine ⟨h.etree, h.tree, h.epeers, h.peers, ho, h.said, h.pend, fun i j g hi5 hj5 h1 h2 => ?_, fun i g hi5 hg => ?_, hs⟩
  · rcases bd i g hi5 h1 with h1 | h1 <;> rcases bd j g hj5 h2 with h2 | h2
    · omega
    · omega
    · omega
    · exact h.dis i j g hi5 hj5 h1.1 h2.1
  · rcases bd i g hi5 hg with h1 | h1 <;> omega
/-- a cluster's parts do not lie in a block of clusters -/
theorem row_box_none {w : World} {base n m N : Nat} {e : TypeId} {v : Value} {xs : List Value} {A : Array Value} (h : w.ownsRow base e m v n xs) (hN : w.heap[N]? = some (.cells A 37 (0, 0))) (hne : e ≠ 37) : v.ownBlock ≠ some N := by
  rcases row_not_box h hN hne with h | h
  · rw [h]; exact fun e => by cases e
  · exact h
theorem OwnC.noBox {lo hi N : Nat} {w : World} {c : CU} {s : CW} {A : Array Value} (h : OwnC lo hi w c s) (hN : w.heap[N]? = some (.cells A 37 (0, 0))) : ∀ i, i < 5 → ¬ partC s i N := fun i hi hp => by
  match i, hi with
  | 0, _ =>
    rcases hp with hp | ⟨p, hm, hp⟩
    · exact row_box_none h.tree.row hN (by decide) hp
    · exact row_box_none (h.tree.cmds p hm) hN (by decide) hp
  | 1, _ =>
    rcases hp with hp | ⟨x, hm, a, ha, hp⟩
    · exact row_box_none h.peers.row hN (by decide) hp
    · have hd := (h.peers.own.each x hm).1
      simp only [six, List.mem_cons, List.not_mem_nil, or_false] at ha
      rcases ha with rfl | rfl | rfl | rfl | rfl | rfl
      · exact row_box_none hd.row hN (by decide) hp
      · exact row_box_none hd.cells hN (by decide) hp
      · exact row_box_none hd.early hN (by decide) hp
      · exact row_box_none hd.undos hN (by decide) hp
      · exact row_box_none hd.votes hN (by decide) hp
      · exact row_box_none hd.news hN (by decide) hp
  | 2, _ => exact row_box_none h.net hN (by decide) hp
  | 3, _ => exact row_box_none h.said hN (by decide) hp
  | 4, _ => exact row_box_none h.pend hN (by decide) hp
theorem OwnC.boxT {lo hi N : Nat} {w w' : World} {c : CU} {s : CW} {A : Array Value} (h : OwnC lo hi w c s) (hN : w.heap[N]? = some (.cells A 37 (0, 0))) (hg : w.grownBy w' (some N)) : OwnC lo hi w' c s :=
  h.frs (B := fun k => k = N) (FrS.of_grown hg (fun k e => by cases e; rfl)) (fun i g hi hp e => h.noBox hN i hi (by rw [← e]; exact hp))
/-- letters behind the others, where there is room -/
def postC (c : CU) (l : List LT) : CU := if 60 < c.net.length + l.length then c else { c with net := c.net ++ l }
def postB (c : CU) (l : List LT) : Bool := !decide (60 < c.net.length + l.length)
/-- a cluster in a box: what became of it, and nothing else -/
structure InB (N lo : Nat) (w w' : World) (c : CU) (s : CW) : Prop where
  box : w'.heap[N]? = some (.cells (clusA c s) 37 (0, 0))
  own : OwnC lo w'.heap.size w' c s
  fr : FrS (fun k => k = N) w w'

set_option maxRecDepth 100000 in
set_option maxHeartbeats 4000000 in
theorem post_p (c : CU) (s : CW) (N lo hi : Nat) (l : List LT) (lv : Value) (w : World) (hbox : w.heap[N]? = some (.cells (clusA c s) 37 (0, 0))) (hown : OwnC lo hi w c s) (hlo : lo ≤ hi) (hl : RowsR w lv 13 letF l) (hk : (c.net.length : Int) ≤ 1048576) (hk2 : (l.length : Int) ≤ 1048576) :
    Calls Tryz.prog 26 #[.pointer (some ⟨N, 0, none⟩), lv] w fun e w' => e = .returned (.bool (postB c l)) ∧ ∃ s', InB N lo w w' (postC c l) s' := by
  have HB : Hid (w.heap[N]? = some (.cells #[.int .i64 c.n, .bool c.chain, .int .i64 c.liars, s.treeV, s.peersV, s.net, s.said, s.pend] 37 (0, 0))) := hbox
  have HO := hid hown
  have HL := hid hl
  have HNE : Hid (N < w.heap.size ∧ lo ≤ hi ∧ hi ≤ w.heap.size) := ⟨(Array.getElem?_eq_some_iff.1 hbox).1, hlo, hown.size⟩
  obtain ⟨li, lhi, lhz0, lhz1, lhz2⟩ := info_parts infoLetter
  obtain ⟨an, cn, en, -⟩ := own_form hown.net
  obtain ⟨al, cl, el, -⟩ := hl
  have HEN : Hid (s.net = .slice an c.net.length cn) := en
  subst el
  clear hbox hown hlo en
  by_cases hroom : 60 < c.net.length + l.length
  · have HE : Hid (postB c l = false ∧ postC c l = c) := ⟨by unfold postB; simp [hroom], if_pos hroom⟩
    have hr : (60 : Int) < (c.net.length : Int) + (l.length : Int) := by omega
    go_enter Tryz.func26, Tryz.ntmps26
    go_wp2_with (refine wpList_load_blk rfl _ _ rfl N 5 (.slice an c.net.length cn) _ _ rfl HB.out (by rw [← HEN.out]; rfl) _ Tryz.underlying33 rfl ?_)
    go_ret
    refine ⟨ret_bool HE.out.1.symm, s, ?_⟩
    rw [HE.out.2]
    exact ⟨HB.out, HO.out.wide HNE.out.2.2 (Nat.le_refl _), FrS.refl _ _⟩
  · have HE : Hid (postB c l = true ∧ postC c l = { c with net := c.net ++ l }) := ⟨by unfold postB; simp [hroom], if_neg hroom⟩
    have hr : ¬ (60 : Int) < (c.net.length : Int) + (l.length : Int) := by omega
    go_enter Tryz.func26, Tryz.ntmps26
    go_wp2_with (first
      | (refine wpList_store_cell rfl _ _ _ rfl N 5 v2 rfl rfl _ _ HB2.out (by kernel_rfl) (by simp) (own_oneC HV2.out) #[.int .i64 c.n, .bool c.chain, .int .i64 c.liars, s.treeV, s.peersV, v2, s.said, s.pend] rfl ?_; intro y hg hk; have HY : Hid (y.heap[N]? = some (.cells #[.int .i64 c.n, .bool c.chain, .int .i64 c.liars, s.treeV, s.peersV, v2, s.said, s.pend] 37 (0, 0)) ∧ FrS (fun k => k = N) w y ∧ x2.heap.size ≤ y.heap.size ∧ y.ownsRow w.heap.size 65 13 v2 (c.net ++ l).length (flatR letF (c.net ++ l)) ∧ OwnC lo hi y c s) := ⟨hk, (FrS.of_below HBB2.out).trans (FrS.of_grown hg (fun k e => by cases e; rfl)), hg.size, World.ownsRow.kept HV2.out hg (row_not_box HV2.out HB2.out (by decide)), (HO.out.below HBB2.out).boxT HB2.out hg⟩; clear hg hk)
      | (refine wpList_load_blk rfl _ _ rfl N 5 (.slice an c.net.length cn) _ _ rfl HB.out (by rw [← HEN.out]; rfl) _ Tryz.underlying33 rfl ?_)
      | (refine wpList_load_blk rfl _ _ rfl N 5 (.slice an c.net.length cn) _ _ rfl (((alloc_below w (.cells #[] 65 (0, 0))).block N (by have := HNE.out; omega)).trans HB.out) (by rw [← HEN.out]; rfl) _ Tryz.underlying33 rfl ?_)
      | (at_builtin; refine wpList_append_a _ rfl _ _ 33 rfl w.heap.size 65 li _ 104 Tryz.underlying33 lhi lhz0 lhz1 lhz2 rfl (by decide) letF_len letF_one _ [] rfl (own_new w _ _) _ c.net rfl (by rw [← HEN.out]; exact (rows_of_own letF_len HO.out.net).below ((Below.refl w.heap.size w).alloc (Nat.le_refl _) _)) (by simp; unfold maxLen; omega) (by simp; omega) (by simp) ?_; intro v1 x1 ho hg; have HBB1 : Hid (Below w.heap.size w x1) := made_below hg; have HV1 : Hid (x1.ownsRow w.heap.size 65 13 v1 c.net.length (flatR letF c.net)) := ho; clear ho hg)
      | (at_builtin; refine wpList_append_a _ rfl _ _ 33 rfl w.heap.size 65 li _ 104 Tryz.underlying33 lhi lhz0 lhz1 lhz2 rfl (by decide) letF_len letF_one _ c.net rfl HV1.out _ l rfl (HL.out.below HBB1.out) (by unfold maxLen; omega) (by omega) HBB1.out.size ?_; intro v2 x2 ho hg; have HBB2 : Hid (Below w.heap.size w x2) := HBB1.out.grown hg HBB1.out.size (fun k hk => (HV1.out.lt k hk).1); have HV2 : Hid (x2.ownsRow w.heap.size 65 13 v2 (c.net ++ l).length (flatR letF (c.net ++ l))) := ho; have HB2 : Hid (x2.heap[N]? = some (.cells #[.int .i64 c.n, .bool c.chain, .int .i64 c.liars, s.treeV, s.peersV, s.net, s.said, s.pend] 37 (0, 0))) := (HBB2.out.block N (by have := HNE.out; omega)).trans HB.out; clear ho hg HBB1 HV1))
    go_ret
    refine ⟨ret_bool HE.out.1.symm, { s with net := v2 }, ?_⟩
    rw [HE.out.2]
    have hz := HY.out
    exact ⟨hz.1, hz.2.2.2.2.setNet (Nat.le_trans HNE.out.2.2 hz.2.1.size) (Nat.le_refl _) (own_base hz.2.2.2.1 (by have := HNE.out; omega)) (fun g hg => ⟨by have := (hz.2.2.2.1.lt g hg).1; have := HNE.out; omega, (hz.2.2.2.1.lt g hg).2⟩) HNE.out.2.1, hz.2.1⟩

theorem results_ct {P : Program} {fn : Func} {p q : Tmp} {ty : TypeId} (h : fn.results = #[.cell p ty, .tmp q]) (tmps : Array Value) (w : World) (g : Nat) (t : TypeId) (cs : Array Value) (fr : Nat × Nat) (d : TypeDesc) (v : Value)
    (hp : tmps.getD p undef = .pointer (some ⟨g, 0, none⟩)) (hg : w.heap[g]? = some (.cells cs t fr)) (hu : P.underlying ty = some d) (hd : (match d with | .struct _ | .array _ _ => true | _ => false) = true) (hi : (P.info? ty).map (·.size) = some cs.size)
    (hq : tmps.getD q undef = v) :
    (results fn tmps).run P w = .ok (.tuple #[.agg cs, v]) w := by
  have hp' : tmps[p]?.getD undef = .pointer (some ⟨g, 0, none⟩) := by simpa using hp
  have hq' : tmps[q]?.getD undef = v := by simpa using hq
  simp [results, h, hp', hq', asAddr, run_loadVar_row w g t ty cs fr d hg hu hd hi]
/-- the letter at k once more -/
def atC (c : CU) (k : Int) : List LT := match c.net[k.toNat]? with
  | some l => [l]
  | none => []
def twiceC (c : CU) (k : Int) : CU × Bool := if 0 ≤ k ∧ k < c.net.length then (postC c (atC c k), postB c (atC c k)) else (c, false)
theorem rows_one {α : Type} {f : α → List Value} {m : Nat} {w : World} {g n cap : Nat} {xs : List α} (h : RowsR w (.slice (some ⟨g, 0, none⟩) n cap) m f xs) (k c2 : Nat) (hk : k < xs.length) : RowsR w (.slice (some ⟨g, k * m, none⟩) 1 c2) m f [xs[k]] := by
  obtain ⟨a, cp, e, hr⟩ := h
  injection e with e1 e2 e3
  obtain ⟨g2, off, e4, hg, hc⟩ := hr (by omega)
  rw [← e1] at e4
  injection e4 with e4
  injection e4 with e5 e6
  subst e5 e6
  refine ⟨some ⟨g, k * m, none⟩, c2, rfl, fun _ => ⟨g, k * m, rfl, hg, fun i hi j hj => ?_⟩⟩
  have hi0 : i = 0 := by simp at hi; exact hi
  subst hi0
  have := hc k hk j hj
  simpa using this
set_option maxRecDepth 100000 in
set_option maxHeartbeats 4000000 in
theorem twice_p (c : CU) (s : CW) (N lo hi : Nat) (k : Int) (w : World) (hbox : w.heap[N]? = some (.cells (clusA c s) 37 (0, 0))) (hown : OwnC lo hi w c s) (hlo : lo ≤ hi) (hk : (c.net.length : Int) ≤ 1048576) (hwk : (Lit.int .i64 k).wf = true) :
    Calls Tryz.prog 50 #[.pointer (some ⟨N, 0, none⟩), .int .i64 k] w fun e w' => e = .returned (.bool (twiceC c k).2) ∧ ∃ s', InB N lo w w' (twiceC c k).1 s' := by
  have HB : Hid (w.heap[N]? = some (.cells #[.int .i64 c.n, .bool c.chain, .int .i64 c.liars, s.treeV, s.peersV, s.net, s.said, s.pend] 37 (0, 0))) := hbox
  have HO := hid hown
  have HLO : Hid (lo ≤ hi) := hlo
  obtain ⟨an, cn, en, hga⟩ := own_form hown.net
  have HEN : Hid (s.net = .slice an c.net.length cn) := en
  have HGA : Hid (0 < c.net.length → ∃ g, an = some ⟨g, 0, none⟩) := hga
  have hcap : c.net.length ≤ cn := capOk_own hown.net _ _ _ en
  clear hbox hown hlo en hga
  go_enter Tryz.func50, Tryz.ntmps50
  go_wp2_with (refine wpList_load_blk rfl _ _ rfl N 5 (.slice an c.net.length cn) _ _ rfl HB.out (by rw [← HEN.out]; rfl) _ Tryz.underlying33 rfl ?_)
  refine (in_any k 0 ((c.net.length : Int) - 1) w).mono ?_
  rintro e w1 ⟨rfl, hw⟩
  obtain rfl := hw.symm
  clear hw
  by_cases hin : 0 ≤ k ∧ k < c.net.length
  · rw [inB_yes (by omega)]
    have h0 := hin.1
    have h1 := hin.2
    obtain ⟨j, hj⟩ : ∃ j : Nat, k = (j : Int) := ⟨k.toNat, by omega⟩
    subst hj
    have hjn : j < c.net.length := by omega
    have HE : Hid (twiceC c (j : Int) = (postC c [c.net[j]], postB c [c.net[j]])) := (by unfold twiceC atC; rw [if_pos hin]; simp [hjn] : twiceC c (j : Int) = _)
    obtain ⟨g, rfl⟩ := HGA.out (by omega)
    clear hin
    have hc1 : (j : Int) + 1 ≤ cn := by omega
    have hc2 : (j : Int) ≤ (j : Int) + 1 := by omega
    have hc3 : j + 1 ≤ cn := by omega
    have hc4 : ¬ cn = j := by omega
    go_wp2_with (refine wpList_load_blk rfl _ _ rfl N 5 (.slice (some ⟨g, 0, none⟩) c.net.length cn) _ _ rfl HB.out (by rw [← HEN.out]; rfl) _ Tryz.underlying33 rfl ?_)
    refine (post_p c s N lo hi [c.net[j]] _ w HB.out HO.out HLO.out (rows_one (by rw [← HEN.out]; exact rows_of_own letF_len HO.out.net) j (cn - j) hjn) hk (by simp)).mono ?_
    rintro e w2 ⟨rfl, s2, hin⟩
    have HI : Hid (InB N lo w w2 (postC c [c.net[j]]) s2) := hin
    clear hin
    go_wp2
    go_ret
    refine ⟨ret_bool (by rw [HE.out]), s2, ?_⟩
    rw [HE.out]
    exact HI.out
  · rw [inB_no (by omega)]
    have HE : Hid (twiceC c k = (c, false)) := if_neg hin
    go_wp2
    go_ret
    refine ⟨ret_bool (by rw [HE.out]), s, ?_⟩
    rw [HE.out]
    exact ⟨HB.out, HO.out.wide HO.out.size (Nat.le_refl _), FrS.refl _ _⟩

set_option maxRecDepth 100000 in
set_option maxHeartbeats 4000000 in
theorem postC_s (c : CU) (s : CW) (lo hi : Nat) (l : List LT) (lv : Value) (w : World) (hO : OwnC lo hi w c s) (hk : okC c) (hl : RowsR w lv 13 letF l) (hl2 : (l.length : Int) ≤ 1048576) :
    Calls Tryz.prog 8 #[clusV c s, lv] w fun e w' => ∃ s', e = .returned (.tuple #[clusV (postC c l) s', .bool (postB c l)]) ∧ OwnC w.heap.size w'.heap.size w' (postC c l) s' ∧ Below w.heap.size w w' := by
  have HO := hid hO
  have HK := hid hk
  have HL := hid hl
  have HL2 := hid hl2
  clear hl hl2
  obtain ⟨W, hW⟩ : ∃ W, W = (w.alloc (.cells (clusA c s) 37)).alloc (.cells zeroC 37) := ⟨_, rfl⟩
  have HC : Hid (Below w.heap.size w W ∧ W.heap[w.heap.size]? = some (.cells (clusA c s) 37 (0, 0)) ∧ W.heap[w.heap.size + 1]? = some (.cells zeroC 37 (0, 0))) := by
    rw [hW]; exact ⟨ba (ba (Below.refl _ _) _) _, alloc2 w _ _⟩
  have HCW : Hid (w.heap.size + 1 < W.heap.size) := (Array.getElem?_eq_some_iff.1 HC.out.2.2).1
  unfold zeroC at hW
  clear hO hk
  go_enter Tryz.func8, Tryz.ntmps8
  go_wp2_with (rw [← hW]; clear hW; refine wpList_load_row rfl _ _ rfl w.heap.size rfl 37 _ (0, 0) _ HC.out.2.1 Tryz.underlying37 rfl (by kernel_rfl) ?_)
  refine (copyC_s c s W (HO.out.below HC.out.1).reads (HO.out.below HC.out.1).tree.read HK.out).mono ?_
  rintro e x1 ⟨s1, rfl, ho, hb⟩
  have HX1 : Hid (Below w.heap.size w x1 ∧ x1.heap[w.heap.size + 1]? = some (.cells zeroC 37 (0, 0)) ∧ W.heap.size ≤ x1.heap.size) := ⟨bt HC.out.1 hb, (hb.block _ (Array.getElem?_eq_some_iff.1 HC.out.2.2).1).trans HC.out.2.2, hb.size⟩
  have HO1 : Hid (OwnC W.heap.size x1.heap.size x1 c s1) := ho
  clear ho hb HC
  go_wp2_with (refine wpList_store_blk rfl _ _ _ rfl x1.heap.size (clusA c s1) rfl rfl 37 zeroC (heap_alloc_new x1 _) (by kernel_rfl) rfl (clusA_one HO1.out) ?_; intro y1 hg hk hz; have hb1 : Below x1.heap.size x1 y1 := made_below hg; have HY1 : Hid (Below w.heap.size w y1 ∧ y1.heap[w.heap.size + 1]? = some (.cells zeroC 37 (0, 0)) ∧ x1.heap.size < y1.heap.size ∧ y1.heap[x1.heap.size]? = some (.cells (clusA c s1) 37 (0, 0)) ∧ OwnC W.heap.size x1.heap.size y1 c s1) := ⟨bt HX1.out.1 hb1, (hb1.block _ (Array.getElem?_eq_some_iff.1 HX1.out.2.1).1).trans HX1.out.2.1, (Array.getElem?_eq_some_iff.1 hk).1, hk, HO1.out.below hb1⟩; clear hg hk hz hb1 HO1)
  refine (post_p c s1 x1.heap.size W.heap.size x1.heap.size l lv y1 HY1.out.2.2.2.1 HY1.out.2.2.2.2 HX1.out.2.2 (HL.out.below HY1.out.1) HK.out.net HL2.out).mono ?_
  rintro e y2 ⟨rfl, s2, hin⟩
  have HY2 : Hid (InB x1.heap.size W.heap.size y1 y2 (postC c l) s2) := hin
  have HZ2 : Hid (y2.heap[w.heap.size + 1]? = some (.cells zeroC 37 (0, 0)) ∧ Below w.heap.size w y2) := ⟨(hin.fr.block _ (Array.getElem?_eq_some_iff.1 HY1.out.2.1).1 (by have := HCW.out; have := HX1.out.2.2; omega)).trans HY1.out.2.1, HY1.out.1.trans ⟨hin.fr.os, hin.fr.tape, hin.fr.output, hin.fr.size, fun k hk => hin.fr.block k (by have := HY1.out.1.size; omega) (by have := HCW.out; have := HX1.out.2.2; omega)⟩⟩
  clear hin
  go_wp2_with (first
    | (refine wpList_load_row rfl _ _ rfl x1.heap.size rfl 37 _ (0, 0) _ HY2.out.box Tryz.underlying37 rfl (by kernel_rfl) ?_)
    | (refine wpList_store_blk rfl _ _ _ rfl (w.heap.size + 1) (clusA (postC c l) s2) rfl rfl 37 zeroC HZ2.out.1 (by kernel_rfl) rfl (clusA_one HY2.out.own) ?_; intro z hg hk hz; have HBz : Hid (Below w.heap.size w z ∧ z.heap[w.heap.size + 1]? = some (.cells (clusA (postC c l) s2) 37 (0, 0)) ∧ OwnC w.heap.size z.heap.size z (postC c l) s2) := ⟨HZ2.out.2.grown hg HZ2.out.2.size (fun k hk => by cases hk; omega), hk, ((HY2.out.own.boxT HZ2.out.1 hg).low (by have := HCW.out; omega)).wide hg.size (Nat.le_refl _)⟩; clear hg hk hz))
  refine bodyPost_ret (v := .tuple #[.agg (clusA (postC c l) s2), .bool (postB c l)]) (results_ct Tryz.results8 _ _ (w.heap.size + 1) 37 _ (0, 0) _ _ rfl HBz.out.2.1 Tryz.underlying37 rfl (by kernel_rfl) rfl) rfl ?_
  exact ⟨s2, rfl, HBz.out.2.2, HBz.out.1⟩

set_option maxRecDepth 100000 in
set_option maxHeartbeats 4000000 in
theorem twiceAtC_s (c : CU) (s : CW) (lo hi : Nat) (k : Int) (w : World) (hO : OwnC lo hi w c s) (hk : okC c) (hwk : (Lit.int .i64 k).wf = true) :
    Calls Tryz.prog 19 #[clusV c s, .int .i64 k] w fun e w' => ∃ s', e = .returned (.tuple #[clusV ((twiceC c k).1) s', .bool ((twiceC c k).2)]) ∧ OwnC w.heap.size w'.heap.size w' ((twiceC c k).1) s' ∧ Below w.heap.size w w' := by
  have HO := hid hO
  have HK := hid hk
  have HW := hid hwk
  clear hwk
  obtain ⟨W, hW⟩ : ∃ W, W = (w.alloc (.cells (clusA c s) 37)).alloc (.cells zeroC 37) := ⟨_, rfl⟩
  have HC : Hid (Below w.heap.size w W ∧ W.heap[w.heap.size]? = some (.cells (clusA c s) 37 (0, 0)) ∧ W.heap[w.heap.size + 1]? = some (.cells zeroC 37 (0, 0))) := by
    rw [hW]; exact ⟨ba (ba (Below.refl _ _) _) _, alloc2 w _ _⟩
  have HCW : Hid (w.heap.size + 1 < W.heap.size) := (Array.getElem?_eq_some_iff.1 HC.out.2.2).1
  unfold zeroC at hW
  clear hO hk
  go_enter Tryz.func19, Tryz.ntmps19
  go_wp2_with (rw [← hW]; clear hW; refine wpList_load_row rfl _ _ rfl w.heap.size rfl 37 _ (0, 0) _ HC.out.2.1 Tryz.underlying37 rfl (by kernel_rfl) ?_)
  refine (copyC_s c s W (HO.out.below HC.out.1).reads (HO.out.below HC.out.1).tree.read HK.out).mono ?_
  rintro e x1 ⟨s1, rfl, ho, hb⟩
  have HX1 : Hid (Below w.heap.size w x1 ∧ x1.heap[w.heap.size + 1]? = some (.cells zeroC 37 (0, 0)) ∧ W.heap.size ≤ x1.heap.size) := ⟨bt HC.out.1 hb, (hb.block _ (Array.getElem?_eq_some_iff.1 HC.out.2.2).1).trans HC.out.2.2, hb.size⟩
  have HO1 : Hid (OwnC W.heap.size x1.heap.size x1 c s1) := ho
  clear ho hb HC
  go_wp2_with (refine wpList_store_blk rfl _ _ _ rfl x1.heap.size (clusA c s1) rfl rfl 37 zeroC (heap_alloc_new x1 _) (by kernel_rfl) rfl (clusA_one HO1.out) ?_; intro y1 hg hk hz; have hb1 : Below x1.heap.size x1 y1 := made_below hg; have HY1 : Hid (Below w.heap.size w y1 ∧ y1.heap[w.heap.size + 1]? = some (.cells zeroC 37 (0, 0)) ∧ x1.heap.size < y1.heap.size ∧ y1.heap[x1.heap.size]? = some (.cells (clusA c s1) 37 (0, 0)) ∧ OwnC W.heap.size x1.heap.size y1 c s1) := ⟨bt HX1.out.1 hb1, (hb1.block _ (Array.getElem?_eq_some_iff.1 HX1.out.2.1).1).trans HX1.out.2.1, (Array.getElem?_eq_some_iff.1 hk).1, hk, HO1.out.below hb1⟩; clear hg hk hz hb1 HO1)
  refine (twice_p c s1 x1.heap.size W.heap.size x1.heap.size k y1 HY1.out.2.2.2.1 HY1.out.2.2.2.2 HX1.out.2.2 HK.out.net HW.out).mono ?_
  rintro e y2 ⟨rfl, s2, hin⟩
  have HY2 : Hid (InB x1.heap.size W.heap.size y1 y2 ((twiceC c k).1) s2) := hin
  have HZ2 : Hid (y2.heap[w.heap.size + 1]? = some (.cells zeroC 37 (0, 0)) ∧ Below w.heap.size w y2) := ⟨(hin.fr.block _ (Array.getElem?_eq_some_iff.1 HY1.out.2.1).1 (by have := HCW.out; have := HX1.out.2.2; omega)).trans HY1.out.2.1, HY1.out.1.trans ⟨hin.fr.os, hin.fr.tape, hin.fr.output, hin.fr.size, fun k hk => hin.fr.block k (by have := HY1.out.1.size; omega) (by have := HCW.out; have := HX1.out.2.2; omega)⟩⟩
  clear hin
  go_wp2_with (first
    | (refine wpList_load_row rfl _ _ rfl x1.heap.size rfl 37 _ (0, 0) _ HY2.out.box Tryz.underlying37 rfl (by kernel_rfl) ?_)
    | (refine wpList_store_blk rfl _ _ _ rfl (w.heap.size + 1) (clusA ((twiceC c k).1) s2) rfl rfl 37 zeroC HZ2.out.1 (by kernel_rfl) rfl (clusA_one HY2.out.own) ?_; intro z hg hk hz; have HBz : Hid (Below w.heap.size w z ∧ z.heap[w.heap.size + 1]? = some (.cells (clusA ((twiceC c k).1) s2) 37 (0, 0)) ∧ OwnC w.heap.size z.heap.size z ((twiceC c k).1) s2) := ⟨HZ2.out.2.grown hg HZ2.out.2.size (fun k hk => by cases hk; omega), hk, ((HY2.out.own.boxT HZ2.out.1 hg).low (by have := HCW.out; omega)).wide hg.size (Nat.le_refl _)⟩; clear hg hk hz))
  refine bodyPost_ret (v := .tuple #[.agg (clusA ((twiceC c k).1) s2), .bool ((twiceC c k).2)]) (results_ct Tryz.results19 _ _ (w.heap.size + 1) 37 _ (0, 0) _ _ rfl HBz.out.2.1 Tryz.underlying37 rfl (by kernel_rfl) rfl) rfl ?_
  exact ⟨s2, rfl, HBz.out.2.2, HBz.out.1⟩


end Go.Proofs.YtjieklilojmifauGreatR
