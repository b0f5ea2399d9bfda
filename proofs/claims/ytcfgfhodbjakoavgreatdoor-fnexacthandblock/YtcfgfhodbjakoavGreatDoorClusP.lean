/-
  Letters put behind the others, through a pointer to a cluster: the contracts of the specification's l15Post, Post, l15Twice and TwiceAt. (Made by gpo15.py.)
-/
import Derived.Test.YtcfgfhodbjakoavGreatDoorClusS
import Derived.Test.YtcfgfhodbjakoavGreatDoorJ0
namespace Go.Proofs.YtcfgfhodbjakoavGreatDoor
open Go.RowKit Num

/-- another net -/
theorem OwnC.setNet {lo hi hi' : Nat} {w : World} {c : CU} {s : CW} {v : Value} {l : List LT} (h : OwnC lo hi w c s) (hh : hi ≤ hi') (hs : hi' ≤ w.heap.size) (ho : w.ownsRow lo 48 13 v l.length (flatR letF l)) (hv : ∀ g, v.ownBlock = some g → hi ≤ g ∧ g < hi') (hlo : lo ≤ hi) : OwnC lo hi' w { c with net := l } { s with net := v } := by
  have bd : ∀ i g, i < 5 → partC { s with net := v } i g → (i = 2 ∧ hi ≤ g ∧ g < hi') ∨ (partC s i g ∧ lo ≤ g ∧ g < hi) := fun i g hi5 hg => by
    match i, hi5 with
    | 0, _ => exact Or.inr ⟨hg, h.lim 0 g (by omega) hg⟩
    | 1, _ => exact Or.inr ⟨hg, h.lim 1 g (by omega) hg⟩
    | 2, _ => exact Or.inl ⟨rfl, hv g hg⟩
    | 3, _ => exact Or.inr ⟨hg, h.lim 3 g (by omega) hg⟩
    | 4, _ => exact Or.inr ⟨hg, h.lim 4 g (by omega) hg⟩
  refine ⟨h.etree, h.tree, h.epeers, h.peers, ho, h.said, h.pend, fun i j g hi5 hj5 h1 h2 => ?_, fun i g hi5 hg => ?_, hs⟩
  · rcases bd i g hi5 h1 with h1 | h1 <;> rcases bd j g hj5 h2 with h2 | h2
    · omega
    · omega
    · omega
    · exact h.dis i j g hi5 hj5 h1.1 h2.1
  · rcases bd i g hi5 hg with h1 | h1 <;> omega
/-- a cluster's parts do not lie in a block of clusters -/
theorem row_box_none {w : World} {base n m N : Nat} {e : TypeId} {v : Value} {xs : List Value} {A : Array Value} (h : w.ownsRow base e m v n xs) (hN : w.heap[N]? = some (.cells A 43 (0, 0))) (hne : e ≠ 43) : v.ownBlock ≠ some N := by
  rcases row_not_box h hN hne with h | h
  · rw [h]; exact fun e => by cases e
  · exact h
theorem OwnC.noBox {lo hi N : Nat} {w : World} {c : CU} {s : CW} {A : Array Value} (h : OwnC lo hi w c s) (hN : w.heap[N]? = some (.cells A 43 (0, 0))) : ∀ i, i < 5 → ¬ partC s i N := fun i hi hp => by
  match i, hi with
  | 0, _ =>
    rcases hp with hp | ⟨p, hm, hp⟩
    · exact row_box_none h.tree.row hN (by decide) hp
    · exact row_box_none (h.tree.cmds p hm) hN (by decide) hp
  | 1, _ =>
    rcases hp with hp | ⟨x, hm, a, ha, hp⟩
    · exact row_box_none h.peers.row hN (by decide) hp
    · have hd := (h.peers.own.each x hm).1
      simp only [six, List.mem_cons, List.not_mem_nil, or_false] at ha
      rcases ha with rfl | rfl | rfl | rfl | rfl | rfl
      · exact row_box_none hd.row hN (by decide) hp
      · exact row_box_none hd.cells hN (by decide) hp
      · exact row_box_none hd.early hN (by decide) hp
      · exact row_box_none hd.undos hN (by decide) hp
      · exact row_box_none hd.votes hN (by decide) hp
      · exact row_box_none hd.news hN (by decide) hp
  | 2, _ => exact row_box_none h.net hN (by decide) hp
  | 3, _ => exact row_box_none h.said hN (by decide) hp
  | 4, _ => exact row_box_none h.pend hN (by decide) hp
theorem OwnC.boxT {lo hi N : Nat} {w w' : World} {c : CU} {s : CW} {A : Array Value} (h : OwnC lo hi w c s) (hN : w.heap[N]? = some (.cells A 43 (0, 0))) (hg : w.grownBy w' (some N)) : OwnC lo hi w' c s :=
  h.frs (B := fun k => k = N) (FrS.of_grown hg (fun k e => by cases e; rfl)) (fun i g hi hp e => h.noBox hN i hi (by rw [← e]; exact hp))
/-- letters behind the others, where there is room -/
def postC (c : CU) (l : List LT) : CU := if 60 < c.net.length + l.length then c else { c with net := c.net ++ l }
def postB (c : CU) (l : List LT) : Bool := !decide (60 < c.net.length + l.length)
/-- a cluster in a box: what became of it, and nothing else -/
structure InB (N lo : Nat) (w w' : World) (c : CU) (s : CW) : Prop where
  box : w'.heap[N]? = some (.cells (clusA c s) 43 (0, 0))
  own : OwnC lo w'.heap.size w' c s
  fr : FrS (fun k => k = N) w w'

set_option maxRecDepth 100000 in
set_option maxHeartbeats 4000000 in
theorem post_p (c : CU) (s : CW) (N lo hi : Nat) (l : List LT) (lv : Value) (w : World) (hbox : w.heap[N]? = some (.cells (clusA c s) 43 (0, 0))) (hown : OwnC lo hi w c s) (hlo : lo ≤ hi) (hl : RowsR w lv 13 letF l) (hk : (c.net.length : Int) ≤ 1048576) (hk2 : (l.length : Int) ≤ 1048576) :
    Calls Tryz.prog 80 #[.pointer (some ⟨N, 0, none⟩), lv] w fun e w' => e = .returned (.bool (postB c l)) ∧ ∃ s', InB N lo w w' (postC c l) s' := by
  have HB : Hid (w.heap[N]? = some (.cells #[.int .i64 c.n, .bool c.chain, .int .i64 c.liars, s.treeV, s.peersV, s.net, s.said, s.pend] 43 (0, 0))) := hbox
  have HO := hid hown
  have HL := hid hl
  have HNE : Hid (N < w.heap.size ∧ lo ≤ hi ∧ hi ≤ w.heap.size) := ⟨(Array.getElem?_eq_some_iff.1 hbox).1, hlo, hown.size⟩
  obtain ⟨li, lhi, lhz0, lhz1, lhz2⟩ := info_parts infoLetter
  obtain ⟨an, cn, en, -⟩ := own_form hown.net
  obtain ⟨al, cl, el, -⟩ := hl
  have HEN : Hid (s.net = .slice an c.net.length cn) := en
  subst el
  clear hbox hown hlo en
  by_cases hroom : 60 < c.net.length + l.length
  · have HE : Hid (postB c l = false ∧ postC c l = c) := ⟨by unfold postB; simp [hroom], if_pos hroom⟩
    have hr : (60 : Int) < (c.net.length : Int) + (l.length : Int) := by omega
    go_enter Tryz.func80, Tryz.ntmps80
    go_wp2_with (refine wpList_load_blk rfl _ _ rfl N 5 (.slice an c.net.length cn) _ _ rfl HB.out (by rw [← HEN.out]; rfl) _ Tryz.underlying39 rfl ?_)
    go_ret
    refine ⟨ret_bool HE.out.1.symm, s, ?_⟩
    rw [HE.out.2]
    exact ⟨HB.out, HO.out.wide HNE.out.2.2 (Nat.le_refl _), FrS.refl _ _⟩
  · have HE : Hid (postB c l = true ∧ postC c l = { c with net := c.net ++ l }) := ⟨by unfold postB; simp [hroom], if_neg hroom⟩
    have hr : ¬ (60 : Int) < (c.net.length : Int) + (l.length : Int) := by omega
    go_enter Tryz.func80, Tryz.ntmps80
    go_wp2_with (first
      | (refine wpList_store_cell rfl _ _ _ rfl N 5 v2 rfl rfl _ _ HB2.out (by kernel_rfl) (by simp) (own_oneC HV2.out) #[.int .i64 c.n, .bool c.chain, .int .i64 c.liars, s.treeV, s.peersV, v2, s.said, s.pend] rfl ?_; intro y hg hk; have HY : Hid (y.heap[N]? = some (.cells #[.int .i64 c.n, .bool c.chain, .int .i64 c.liars, s.treeV, s.peersV, v2, s.said, s.pend] 43 (0, 0)) ∧ FrS (fun k => k = N) w y ∧ x2.heap.size ≤ y.heap.size ∧ y.ownsRow w.heap.size 48 13 v2 (c.net ++ l).length (flatR letF (c.net ++ l)) ∧ OwnC lo hi y c s) := ⟨hk, (FrS.of_below HBB2.out).trans (FrS.of_grown hg (fun k e => by cases e; rfl)), hg.size, World.ownsRow.kept HV2.out hg (row_not_box HV2.out HB2.out (by decide)), (HO.out.below HBB2.out).boxT HB2.out hg⟩; clear hg hk)
      | (refine wpList_load_blk rfl _ _ rfl N 5 (.slice an c.net.length cn) _ _ rfl HB.out (by rw [← HEN.out]; rfl) _ Tryz.underlying39 rfl ?_)
      | (refine wpList_load_blk rfl _ _ rfl N 5 (.slice an c.net.length cn) _ _ rfl (((alloc_below w (.cells #[] 48 (0, 0))).block N (by have := HNE.out; omega)).trans HB.out) (by rw [← HEN.out]; rfl) _ Tryz.underlying39 rfl ?_)
      | (at_builtin; refine wpList_append_a _ rfl _ _ 39 rfl w.heap.size 48 li _ 104 Tryz.underlying39 lhi lhz0 lhz1 lhz2 rfl (by decide) letF_len letF_one _ [] rfl (own_new w _ _) _ c.net rfl (by rw [← HEN.out]; exact (rows_of_own letF_len HO.out.net).below ((Below.refl w.heap.size w).alloc (Nat.le_refl _) _)) (by simp; unfold maxLen; omega) (by simp; omega) (by simp) ?_; intro v1 x1 ho hg; have HBB1 : Hid (Below w.heap.size w x1) := made_below hg; have HV1 : Hid (x1.ownsRow w.heap.size 48 13 v1 c.net.length (flatR letF c.net)) := ho; clear ho hg)
      | (at_builtin; refine wpList_append_a _ rfl _ _ 39 rfl w.heap.size 48 li _ 104 Tryz.underlying39 lhi lhz0 lhz1 lhz2 rfl (by decide) letF_len letF_one _ c.net rfl HV1.out _ l rfl (HL.out.below HBB1.out) (by unfold maxLen; omega) (by omega) HBB1.out.size ?_; intro v2 x2 ho hg; have HBB2 : Hid (Below w.heap.size w x2) := HBB1.out.grown hg HBB1.out.size (fun k hk => (HV1.out.lt k hk).1); have HV2 : Hid (x2.ownsRow w.heap.size 48 13 v2 (c.net ++ l).length (flatR letF (c.net ++ l))) := ho; have HB2 : Hid (x2.heap[N]? = some (.cells #[.int .i64 c.n, .bool c.chain, .int .i64 c.liars, s.treeV, s.peersV, s.net, s.said, s.pend] 43 (0, 0))) := (HBB2.out.block N (by have := HNE.out; omega)).trans HB.out; clear ho hg HBB1 HV1))
    go_ret
    refine ⟨ret_bool HE.out.1.symm, { s with net := v2 }, ?_⟩
    rw [HE.out.2]
    have hz := HY.out
    exact ⟨hz.1, hz.2.2.2.2.setNet (Nat.le_trans HNE.out.2.2 hz.2.1.size) (Nat.le_refl _) (own_base hz.2.2.2.1 (by have := HNE.out; omega)) (fun g hg => ⟨by have := (hz.2.2.2.1.lt g hg).1; have := HNE.out; omega, (hz.2.2.2.1.lt g hg).2⟩) HNE.out.2.1, hz.2.1⟩

theorem results_ct {P : Program} {fn : Func} {p q : Tmp} {ty : TypeId} (h : fn.results = #[.cell p ty, .tmp q]) (tmps : Array Value) (w : World) (g : Nat) (t : TypeId) (cs : Array Value) (fr : Nat × Nat) (d : TypeDesc) (v : Value)
    (hp : tmps.getD p undef = .pointer (some ⟨g, 0, none⟩)) (hg : w.heap[g]? = some (.cells cs t fr)) (hu : P.underlying ty = some d) (hd : (match d with | .struct _ | .array _ _ => true | _ => false) = true) (hi : (P.info? ty).map (·.size) = some cs.size)
    (hq : tmps.getD q undef = v) :
    (results fn tmps).run P w = .ok (.tuple #[.agg cs, v]) w := by
  have hp' : tmps[p]?.getD undef = .pointer (some ⟨g, 0, none⟩) := by simpa using hp
  have hq' : tmps[q]?.getD undef = v := by simpa using hq
  simp [results, h, hp', hq', asAddr, run_loadVar_row w g t ty cs fr d hg hu hd hi]
/-- the letter at k once more -/
def atC (c : CU) (k : Int) : List LT := match c.net[k.toNat]? with
  | some l => [l]
  | none => []
def twiceC (c : CU) (k : Int) : CU × Bool := if 0 ≤ k ∧ k < c.net.length then (postC c (atC c k), postB c (atC c k)) else (c, false)
theorem rows_one {α : Type} {f : α → List Value} {m : Nat} {w : World} {g n cap : Nat} {xs : List α} (h : RowsR w (.slice (some ⟨g, 0, none⟩) n cap) m f xs) (k c2 : Nat) (hk : k < xs.length) : RowsR w (.slice (some ⟨g, k * m, none⟩) 1 c2) m f [xs[k]] := by
  obtain ⟨a, cp, e, hr⟩ := h
  injection e with e1 e2 e3
  obtain ⟨g2, off, e4, hg, hc⟩ := hr (by omega)
  rw [← e1] at e4
  injection e4 with e4
  injection e4 with e5 e6
  subst e5 e6
  refine ⟨some ⟨g, k * m, none⟩, c2, rfl, fun _ => ⟨g, k * m, rfl, hg, fun i hi j hj => ?_⟩⟩
  have hi0 : i = 0 := by simp at hi; exact hi
  subst hi0
  have := hc k hk j hj
  simpa using this




end Go.Proofs.YtcfgfhodbjakoavGreatDoor
