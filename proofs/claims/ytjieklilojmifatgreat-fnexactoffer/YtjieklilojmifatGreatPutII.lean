/-
  Letters put into a cluster under its mutex, and one taken out: the contracts of the program's putIn, isLetter, takeOut.
-/
import Derived.Test.YtjieklilojmifatGreatStepI
import Derived.Test.YtjieklilojmifatGreatDelI
import Derived.Test.YtjieklilojmifatGreatAppB
import Derived.Test.YtjieklilojmifatGreatClusO
namespace Go.Proofs.YtjieklilojmifatGreat
open Go.RowKit Num

/-- another net: it lies where it lay, or behind all -/
theorem OwnC.netG {lo hi hi' : Nat} {w w' : World} {c : CU} {s : CW} {v : Value} {l : List LT} (h : OwnC lo hi w c s) (hg : w.grownBy w' s.net.ownBlock) (hh : hi ≤ hi') (hs : hi' ≤ w'.heap.size) (ho : w'.ownsRow lo 107 13 v l.length (flatR letF l)) (hv : ∀ g, v.ownBlock = some g → s.net.ownBlock = some g ∨ (hi ≤ g ∧ g < hi')) (hlo : lo ≤ hi) : OwnC lo hi' w' { c with net := l } { s with net := v } := by
  have hf : FrS (partC s 2) w w' := FrS.of_grown hg (fun g e => e)
  have kp : ∀ i g, i < 5 → i ≠ 2 → partC s i g → ¬ partC s 2 g := fun i g hi4 hne hp hq => hne (h.dis i 2 g hi4 (by omega) hp hq)
  have bd : ∀ i g, i < 5 → partC { s with net := v } i g → partC s i g ∨ (i = 2 ∧ hi ≤ g ∧ g < hi') := fun i g hi5 hp => by
    match i, hi5 with
    | 0, _ => exact Or.inl hp
    | 1, _ => exact Or.inl hp
    | 2, _ => exact (hv g hp).imp id (fun h => ⟨rfl, h⟩)
    | 3, _ => exact Or.inl hp
    | 4, _ => exact Or.inl hp
  refine ⟨h.etree, h.tree.frs hf (fun g hp => kp 0 g (by omega) (by omega) hp), h.epeers, h.peers.frs hf (fun g hp => kp 1 g (by omega) (by omega) (Or.inl hp)) (fun x hx g hp => kp 1 g (by omega) (by omega) (Or.inr ⟨x, hx, hp⟩)), ho, hf.own h.said (fun g hp => kp 3 g (by omega) (by omega) hp), hf.own h.pend (fun g hp => kp 4 g (by omega) (by omega) hp), fun i j g hi5 hj5 h1 h2 => ?_, fun i g hi5 hp => ?_, hs⟩
  · rcases bd i g hi5 h1 with h1 | h1 <;> rcases bd j g hj5 h2 with h2 | h2
    · exact h.dis i j g hi5 hj5 h1 h2
    · have := h.lim i g hi5 h1; omega
    · have := h.lim j g hj5 h2; omega
    · omega
  · rcases bd i g hi5 hp with h1 | h1
    · have := h.lim i g hi5 h1; omega
    · omega

set_option maxRecDepth 100000 in
set_option maxHeartbeats 8000000 in
theorem putIn_i (c : CU) (s : CW) (N lo hi : Nat) (l : List LT) (lv : Value) (w : World) (hbox : HallAt w N 1 c s) (hown : OwnC lo hi w c s) (hlo : lo ≤ hi) (hl : RowsR w lv 13 letF l) (hk : (c.net.length : Int) ≤ 1048576) (hk2 : (l.length : Int) ≤ 1048576) :
    Calls Tryz.prog 84 #[.pointer (some ⟨N, 2, none⟩), lv] w fun e w' => e = .returned (.bool (postB c l)) ∧ ∃ s', InH N lo w w' 1 (postC c l) s' := by
  have HB : Hid (w.heap[N]? = some (.cells #[.int .i32 1, .int .u32 0, .int .i64 c.n, .bool c.chain, .int .i64 c.liars, s.treeV, s.peersV, s.net, s.said, s.pend] 120 (0, 0))) := hbox
  have HO := hid hown
  have HL := hid hl
  have HNE : Hid (N < w.heap.size ∧ lo ≤ hi ∧ hi ≤ w.heap.size) := ⟨(Array.getElem?_eq_some_iff.1 hbox).1, hlo, hown.size⟩
  obtain ⟨li, lhi, lhz0, lhz1, lhz2⟩ := info_parts infoLetter
  obtain ⟨an, cn, en, -⟩ := own_form hown.net
  obtain ⟨al, cl, el, -⟩ := hl
  have HEN : Hid (s.net = .slice an c.net.length cn) := en
  have HOR : Hid (w.ownsRow lo 107 13 (.slice an c.net.length cn) c.net.length (flatR letF c.net)) := (by rw [← en]; exact hown.net : w.ownsRow lo _ 13 _ c.net.length (flatR letF c.net))
  subst el
  have hcell : w.cell? ⟨N, 7, none⟩ = some (.slice an c.net.length cn) := blk_cell hbox 7 _ (by rw [← en]; rfl)
  clear hbox hown hlo en
  by_cases hroom : 60 < c.net.length + l.length
  · have HE : Hid (postB c l = false ∧ postC c l = c) := ⟨by unfold postB; simp [hroom], if_pos hroom⟩
    have hr : (60 : Int) < (c.net.length : Int) + (l.length : Int) := by omega
    go_enter Tryz.func84, Tryz.ntmps84
    go_wp2_with fail
    go_ret
    refine ⟨ret_bool HE.out.1.symm, s, ?_⟩
    rw [HE.out.2]
    exact ⟨HB.out, HO.out.wide HNE.out.2.2 (Nat.le_refl _), FrS.refl _ _⟩
  · have HE : Hid (postB c l = true ∧ postC c l = { c with net := c.net ++ l }) := ⟨by unfold postB; simp [hroom], if_neg hroom⟩
    have hr : ¬ (60 : Int) < (c.net.length : Int) + (l.length : Int) := by omega
    go_enter Tryz.func84, Tryz.ntmps84
    go_wp2_with (first
      | (refine wpList_store_cell rfl _ _ _ rfl N 7 v1 rfl rfl _ _ HB2.out (by kernel_rfl) (by simp) (own_oneC HV1.out) #[.int .i32 1, .int .u32 0, .int .i64 c.n, .bool c.chain, .int .i64 c.liars, s.treeV, s.peersV, v1, s.said, s.pend] rfl ?_; intro y hg hk; have HY : Hid (y.heap[N]? = some (.cells #[.int .i32 1, .int .u32 0, .int .i64 c.n, .bool c.chain, .int .i64 c.liars, s.treeV, s.peersV, v1, s.said, s.pend] 120 (0, 0)) ∧ OwnC lo y.heap.size y { c with net := c.net ++ l } { s with net := v1 } ∧ FrS (fun k => k = N ∨ lo ≤ k) w y) := ⟨hk, (HX2.out.1.hallT HB2.out hg).wide hg.size (Nat.le_refl _), HX2.out.2.trans (FrS.of_grown hg (fun k e => by cases e; exact Or.inl rfl))⟩; clear hg hk)
      | (at_builtin; refine wpList_append_b _ rfl _ _ 35 rfl lo 107 li _ 104 Tryz.underlying35 lhi lhz0 lhz1 lhz2 rfl (by decide) letF_len letF_one _ c.net rfl HOR.out _ l rfl HL.out (by unfold maxLen; omega) (by omega) (by have := HNE.out; omega) ?_; intro v1 x1 ho hg hv; rw [← HEN.out] at hg hv; have HV1 : Hid (x1.ownsRow lo 107 13 v1 (c.net ++ l).length (flatR letF (c.net ++ l))) := ho; have HB2 : Hid (x1.heap[N]? = some (.cells #[.int .i32 1, .int .u32 0, .int .i64 c.n, .bool c.chain, .int .i64 c.liars, s.treeV, s.peersV, s.net, s.said, s.pend] 120 (0, 0))) := (hg.block N HNE.out.1 (fun e => HO.out.noHall HB.out 2 (by omega) e.symm)).trans HB.out; have HX2 : Hid (OwnC lo x1.heap.size x1 { c with net := c.net ++ l } { s with net := v1 } ∧ FrS (fun k => k = N ∨ lo ≤ k) w x1) := ⟨HO.out.netG hg (Nat.le_trans HNE.out.2.2 hg.size) (Nat.le_refl _) ho (fun g e => (hv g e).imp id (fun e2 => ⟨by have := HNE.out; omega, (ho.lt g e).2⟩)) HNE.out.2.1, FrS.of_grown hg (fun k e => Or.inr (HO.out.lim 2 k (by omega) e).1)⟩; clear ho hg hv))
    go_ret
    refine ⟨ret_bool HE.out.1.symm, { s with net := v1 }, ?_⟩
    rw [HE.out.2]
    exact ⟨HY.out.1, HY.out.2.1, HY.out.2.2⟩



end Go.Proofs.YtjieklilojmifatGreat
