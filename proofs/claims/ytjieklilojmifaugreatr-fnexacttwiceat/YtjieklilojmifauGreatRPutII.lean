/-
  Letters put into a cluster under its mutex, and one taken out: the contracts of the program's putIn, isLetter, takeOut.
-/
import Derived.Test.YtjieklilojmifauGreatRStepI
import Derived.Test.YtjieklilojmifauGreatRDelI
import Derived.Test.YtjieklilojmifauGreatRAppB
import Derived.Test.YtjieklilojmifauGreatRClusO
namespace Go.Proofs.YtjieklilojmifauGreatR
open Go.RowKit Num

/-- another net: it lies where it lay, or behind all -/
theorem OwnC.netG {lo hi hi' : Nat} {w w' : World} {c : CU} {s : CW} {v : Value} {l : List LT} (h : OwnC lo hi w c s) (hg : w.grownBy w' s.net.ownBlock) (hh : hi ≤ hi') (hs : hi' ≤ w'.heap.size) (ho : w'.ownsRow lo 65 13 v l.length (flatR letF l)) (hv : ∀ g, v.ownBlock = some g → s.net.ownBlock = some g ∨ (hi ≤ g ∧ g < hi')) (hlo : lo ≤ hi) : OwnC lo hi' w' { c with net := l } { s with net := v } := by
  have hf : FrS (partC s 2) w w' := FrS.of_grown hg (fun g e => e)
  have kp : ∀ i g, i < 5 → i ≠ 2 → partC s i g → ¬ partC s 2 g := fun i g hi4 hne hp hq => hne (h.dis i 2 g hi4 (by omega) hp hq)
  have bd : ∀ i g, i < 5 → partC { s with net := v } i g → partC s i g ∨ (i = 2 ∧ hi ≤ g ∧ g < hi') := fun i g hi5 hp => by
    match i, hi5 with
    | 0, _ => exact Or.inl hp
    | 1, _ => exact Or.inl hp
    | 2, _ => exact (hv g hp).imp id (fun h => ⟨rfl, h⟩)
    | 3, _ => exact Or.inl hp
    | 4, _ => exact Or.inl hp
  refine ⟨h.etree, h.tree.frs hf (fun g hp => kp 0 g (by omega) (by omega) hp), h.epeers, h.peers.frs hf (fun g hp => kp 1 g (by omega) (by omega) (Or.inl hp)) (fun x hx g hp => kp 1 g (by omega) (by omega) (Or.inr ⟨x, hx, hp⟩)), ho, hf.own h.said (fun g hp => kp 3 g (by omega) (by omega) hp), hf.own h.pend (fun g hp => kp 4 g (by omega) (by omega) hp), fun i j g hi5 hj5 h1 h2 => ?_, fun i g hi5 hp => ?_, hs⟩
  · rcases bd i g hi5 h1 with h1 | h1 <;> rcases bd j g hj5 h2 with h2 | h2
    · exact h.dis i j g hi5 hj5 h1 h2
    · have := h.lim i g hi5 h1; omega
    · have := h.lim j g hj5 h2; omega
    · omega
  · rcases bd i g hi5 hp with h1 | h1
    · have := h.lim i g hi5 h1; omega
    · omega

set_option maxRecDepth 100000 in
set_option maxHeartbeats 8000000 in
theorem putIn_i (c : CU) (s : CW) (N lo hi : Nat) (l : List LT) (lv : Value) (w : World) (hbox : HallAt w N 1 c s) (hown : OwnC lo hi w c s) (hlo : lo ≤ hi) (hl : RowsR w lv 13 letF l) (hk : (c.net.length : Int) ≤ 1048576) (hk2 : (l.length : Int) ≤ 1048576) :
    Calls Tryz.prog 66 #[.pointer (some ⟨N, 2, none⟩), lv] w fun e w' => e = .returned (.bool (postB c l)) ∧ ∃ s', InH N lo w w' 1 (postC c l) s' := by
  have HB : Hid (w.heap[N]? = some (.cells #[.int .i32 1, .int .u32 0, .int .i64 c.n, .bool c.chain, .int .i64 c.liars, s.treeV, s.peersV, s.net, s.said, s.pend] 122 (0, 0))) := hbox
  have HO := hid hown
  have HL := hid hl
  have HNE : Hid (N < w.heap.size ∧ lo ≤ hi ∧ hi ≤ w.heap.size) := ⟨(Array.getElem?_eq_some_iff.1 hbox).1, hlo, hown.size⟩
  obtain ⟨li, lhi, lhz0, lhz1, lhz2⟩ := info_parts infoLetter
  obtain ⟨an, cn, en, -⟩ := own_form hown.net
  obtain ⟨al, cl, el, -⟩ := hl
  have HEN : Hid (s.net = .slice an c.net.length cn) := en
  have HOR : Hid (w.ownsRow lo 65 13 (.slice an c.net.length cn) c.net.length (flatR letF c.net)) := (by rw [← en]; exact hown.net : w.ownsRow lo _ 13 _ c.net.length (flatR letF c.net))
  subst el
  have hcell : w.cell? ⟨N, 7, none⟩ = some (.slice an c.net.length cn) := blk_cell hbox 7 _ (by rw [← en]; rfl)
  clear hbox hown hlo en
  by_cases hroom : 60 < c.net.length + l.length
  · have HE : Hid (postB c l = false ∧ postC c l = c) := ⟨by unfold postB; simp [hroom], if_pos hroom⟩
    have hr : (60 : Int) < (c.net.length : Int) + (l.length : Int) := by omega
    go_enter Tryz.func66, Tryz.ntmps66
    go_wp2_with fail
    go_ret
    refine ⟨ret_bool HE.out.1.symm, s, ?_⟩
    rw [HE.out.2]
    exact ⟨HB.out, HO.out.wide HNE.out.2.2 (Nat.le_refl _), FrS.refl _ _⟩
  · have HE : Hid (postB c l = true ∧ postC c l = { c with net := c.net ++ l }) := ⟨by unfold postB; simp [hroom], if_neg hroom⟩
    have hr : ¬ (60 : Int) < (c.net.length : Int) + (l.length : Int) := by omega
    go_enter Tryz.func66, Tryz.ntmps66
    go_wp2_with (first
      | (refine wpList_store_cell rfl _ _ _ rfl N 7 v1 rfl rfl _ _ HB2.out (by kernel_rfl) (by simp) (own_oneC HV1.out) #[.int .i32 1, .int .u32 0, .int .i64 c.n, .bool c.chain, .int .i64 c.liars, s.treeV, s.peersV, v1, s.said, s.pend] rfl ?_; intro y hg hk; have HY : Hid (y.heap[N]? = some (.cells #[.int .i32 1, .int .u32 0, .int .i64 c.n, .bool c.chain, .int .i64 c.liars, s.treeV, s.peersV, v1, s.said, s.pend] 122 (0, 0)) ∧ OwnC lo y.heap.size y { c with net := c.net ++ l } { s with net := v1 } ∧ FrS (fun k => k = N ∨ lo ≤ k) w y) := ⟨hk, (HX2.out.1.hallT HB2.out hg).wide hg.size (Nat.le_refl _), HX2.out.2.trans (FrS.of_grown hg (fun k e => by cases e; exact Or.inl rfl))⟩; clear hg hk)
      | (at_builtin; refine wpList_append_b _ rfl _ _ 33 rfl lo 65 li _ 104 Tryz.underlying33 lhi lhz0 lhz1 lhz2 rfl (by decide) letF_len letF_one _ c.net rfl HOR.out _ l rfl HL.out (by unfold maxLen; omega) (by omega) (by have := HNE.out; omega) ?_; intro v1 x1 ho hg hv; rw [← HEN.out] at hg hv; have HV1 : Hid (x1.ownsRow lo 65 13 v1 (c.net ++ l).length (flatR letF (c.net ++ l))) := ho; have HB2 : Hid (x1.heap[N]? = some (.cells #[.int .i32 1, .int .u32 0, .int .i64 c.n, .bool c.chain, .int .i64 c.liars, s.treeV, s.peersV, s.net, s.said, s.pend] 122 (0, 0))) := (hg.block N HNE.out.1 (fun e => HO.out.noHall HB.out 2 (by omega) e.symm)).trans HB.out; have HX2 : Hid (OwnC lo x1.heap.size x1 { c with net := c.net ++ l } { s with net := v1 } ∧ FrS (fun k => k = N ∨ lo ≤ k) w x1) := ⟨HO.out.netG hg (Nat.le_trans HNE.out.2.2 hg.size) (Nat.le_refl _) ho (fun g e => (hv g e).imp id (fun e2 => ⟨by have := HNE.out; omega, (ho.lt g e).2⟩)) HNE.out.2.1, FrS.of_grown hg (fun k e => Or.inr (HO.out.lim 2 k (by omega) e).1)⟩; clear ho hg hv))
    go_ret
    refine ⟨ret_bool HE.out.1.symm, { s with net := v1 }, ?_⟩
    rw [HE.out.2]
    exact ⟨HY.out.1, HY.out.2.1, HY.out.2.2⟩

set_option maxRecDepth 100000 in
theorem isLetter_i (c : CU) (s : CW) (N lo hi : Nat) (k : Int) (w : World) (hbox : HallAt w N 1 c s) (hown : OwnC lo hi w c s) :
    Calls Tryz.prog 81 #[.pointer (some ⟨N, 2, none⟩), .int .i64 k] w fun e w' => e = .returned (.bool (outB c k)) ∧ w' = w := by
  obtain ⟨an, cn, en, -⟩ := own_form hown.net
  have hcell : w.cell? ⟨N, 7, none⟩ = some (.slice an c.net.length cn) := blk_cell hbox 7 _ (by rw [← en]; rfl)
  clear hbox hown en
  by_cases h0 : 0 ≤ k
  · by_cases h1 : k < c.net.length
    · have HE : Hid (outB c k = true) := (by unfold outB; simp [h0, h1] : outB c k = true)
      go_enter Tryz.func81, Tryz.ntmps81
      go_wp2
      go_ret
      exact ⟨ret_bool HE.out.symm, rfl⟩
    · have HE : Hid (outB c k = false) := (by unfold outB; simp [h0, h1] : outB c k = false)
      have h2 : ¬ k < (c.net.length : Int) := h1
      go_enter Tryz.func81, Tryz.ntmps81
      go_wp2
      go_ret
      exact ⟨ret_bool HE.out.symm, rfl⟩
  · have HE : Hid (outB c k = false) := (by unfold outB; simp [h0] : outB c k = false)
    go_enter Tryz.func81, Tryz.ntmps81
    go_wp2
    go_ret
    exact ⟨ret_bool HE.out.symm, rfl⟩

set_option maxRecDepth 100000 in
set_option maxHeartbeats 8000000 in
theorem takeOut_i (c : CU) (s : CW) (N lo hi k : Nat) (l : LT) (w : World) (hbox : HallAt w N 1 c s) (hown : OwnC lo hi w c s) (hlo : lo ≤ hi) (hk : k < c.net.length) (hl : c.net[k]? = some l) (hnl : (c.net.length : Int) ≤ 1048576) :
    Calls Tryz.prog 82 #[.pointer (some ⟨N, 2, none⟩), .int .i64 (k : Int)] w fun e w' => e = .returned (.agg (letA l)) ∧ ∃ s', InH N lo w w' 1 { c with net := c.net.take k ++ c.net.drop (k + 1) } s' := by
  have HNE : Hid (N < w.heap.size ∧ lo ≤ hi ∧ hi ≤ w.heap.size) := ⟨(Array.getElem?_eq_some_iff.1 hbox).1, hlo, hown.size⟩
  obtain ⟨an, cn, en, hga⟩ := own_form hown.net
  obtain ⟨g, rfl⟩ := hga (by omega)
  have hgw := hown.net.lt g (by rw [en]; rfl)
  have HEN : Hid (s.net = .slice (some ⟨g, 0, none⟩) c.net.length cn) := en
  obtain ⟨W, hW⟩ : ∃ W, W = w.alloc (.cells (letA ((0, 0, 0, 0, 0), (0, 0, 0, 0), (0, 0, 0, 0))) 65) := ⟨_, rfl⟩
  have hb : Below w.heap.size w W := by rw [hW]; exact alloc_below _ _
  have hbW : HallAt W N 1 c s := (hb.block N HNE.out.1).trans hbox
  have HB : Hid (W.heap[N]? = some (.cells #[.int .i32 1, .int .u32 0, .int .i64 c.n, .bool c.chain, .int .i64 c.liars, s.treeV, s.peersV, s.net, s.said, s.pend] 122 (0, 0))) := hbW
  have HO : Hid (OwnC lo hi W c s) := hown.below hb
  have HBW : Hid (Below w.heap.size w W ∧ W.heap[w.heap.size]? = some (.cells (letA ((0, 0, 0, 0, 0), (0, 0, 0, 0), (0, 0, 0, 0))) 65 (0, 0)) ∧ W.heap.size = w.heap.size + 1) := ⟨hb, by rw [hW]; exact heap_alloc_new w _, by rw [hW]; simp⟩
  have hon : W.ownsRow lo 65 13 (.slice (some ⟨g, 0, none⟩) c.net.length cn) c.net.length (flatR letF c.net) := by rw [← en]; exact (hown.below hb).net
  have hlk : l = c.net[k] := by have := List.getElem?_eq_getElem hk; rw [hl] at this; exact Option.some.inj this
  have HRG : Hid (W.rangeAt g (k * 13) (letF l)) := (fun i u hu => by have := rows_news hon rfl k 1 (by omega) i u (by rw [List.drop_eq_getElem_cons hk]; simpa [flatR, ← hlk] using hu); rw [Addr.add_mid] at this; exact this : W.rangeAt g (k * 13) (letF l))
  have HON := hid hon
  have HGW : Hid (lo ≤ g ∧ g < w.heap.size) := hgw
  have hcell : ∀ x : World, x.heap[N]? = some (.cells #[.int .i32 1, .int .u32 0, .int .i64 c.n, .bool c.chain, .int .i64 c.liars, s.treeV, s.peersV, s.net, s.said, s.pend] 122 (0, 0)) → x.cell? ⟨N, 7, none⟩ = some (.slice (some ⟨g, 0, none⟩) c.net.length cn) := fun x hx => blk_cell hx 7 _ (by rw [← HEN.out]; rfl)
  have HCELL : Hid (∀ x : World, x.heap[N]? = some (.cells #[.int .i32 1, .int .u32 0, .int .i64 c.n, .bool c.chain, .int .i64 c.liars, s.treeV, s.peersV, s.net, s.said, s.pend] 122 (0, 0)) → x.cell? ⟨N, 7, none⟩ = some (.slice (some ⟨g, 0, none⟩) c.net.length cn)) := hcell
  obtain ⟨m, hm⟩ : ∃ m, c.net.length = m + 1 := ⟨c.net.length - 1, by omega⟩
  have HM : Hid (c.net.length = m + 1 ∧ k < c.net.length) := ⟨hm, hk⟩
  have q0 : (0 : Int) ≤ (k : Int) := by omega
  have q1 : (k : Int) < (c.net.length : Int) := by omega
  clear hbox hown hlo en hga hgw hb hbW hon hlk hl hcell hm hk
  unfold letA at hW
  simp only at hW
  go_enter Tryz.func82, Tryz.ntmps82
  go_wp2_with (first
    | (rw [← hW]; clear hW; refine wpList_load_blk rfl _ _ rfl N 7 (.slice (some ⟨g, 0, none⟩) c.net.length cn) _ _ rfl HB.out (by rw [← HEN.out]; rfl) _ Tryz.underlying33 rfl ?_)
    | (refine wpList_load_mid rfl _ _ rfl g (k * 13) (by go_simp) (letF l) _ HRG.out Tryz.underlying65 rfl (by kernel_rfl) ?_)
    | (refine wpList_store_blk rfl _ _ _ rfl W.heap.size (letA l) rfl rfl 65 (letA ((0, 0, 0, 0, 0), (0, 0, 0, 0), (0, 0, 0, 0))) (heap_alloc_new W _) (by kernel_rfl) rfl (letA_one _) ?_; intro y1 hg hk hz; have hb1 : Below W.heap.size W y1 := made_below hg; have HY1 : Hid (Below w.heap.size w y1 ∧ y1.heap[N]? = some (.cells #[.int .i32 1, .int .u32 0, .int .i64 c.n, .bool c.chain, .int .i64 c.liars, s.treeV, s.peersV, s.net, s.said, s.pend] 122 (0, 0)) ∧ OwnC lo hi y1 c s ∧ y1.heap[w.heap.size]? = some (.cells (letA ((0, 0, 0, 0, 0), (0, 0, 0, 0), (0, 0, 0, 0))) 65 (0, 0)) ∧ y1.heap[W.heap.size]? = some (.cells (letA l) 65 (0, 0)) ∧ y1.ownsRow lo 65 13 (.slice (some ⟨g, 0, none⟩) c.net.length cn) c.net.length (flatR letF c.net)) := ⟨bt HBW.out.1 hb1, (hb1.block _ (Array.getElem?_eq_some_iff.1 HB.out).1).trans HB.out, HO.out.below hb1, (hb1.block _ (Array.getElem?_eq_some_iff.1 HBW.out.2.1).1).trans HBW.out.2.1, hk, own_kept HON.out hb1⟩; have c8 := HCELL.out y1 HY1.out.2.1; clear hg hk hz hb1 HRG HON HB HO))
  refine (delete_i c.net g cn k c.net.length m lo y1 rfl HM.out.1 HM.out.2 HY1.out.2.2.2.2.2).mono ?_
  rintro e y2 ⟨rfl, ho2, hg2⟩
  have hln : (c.net.take k ++ c.net.drop (k + 1)).length = m := by have := HM.out; rw [List.length_append, List.length_take, List.length_drop, Nat.min_eq_left (by omega)]; omega
  have hob : s.net.ownBlock = some g := by rw [HEN.out]; rfl
  have HV : Hid (y2.ownsRow lo 65 13 (.slice (some ⟨g, 0, none⟩) m cn) m (flatR letF (c.net.take k ++ c.net.drop (k + 1)))) := ho2
  have h1 := HY1.out
  have hNg : ¬ N = g := fun e => h1.2.2.1.noHall h1.2.1 2 (by omega) (show s.net.ownBlock = some N by rw [e]; exact hob)
  have hwg : ¬ w.heap.size = g := by have := HGW.out; omega
  have hWg : ¬ W.heap.size = g := by have := HGW.out; have := HBW.out.2.2; omega
  have k1 : OwnC lo hi y2 { c with net := c.net.take k ++ c.net.drop (k + 1) } { s with net := .slice (some ⟨g, 0, none⟩) m cn } := by
    refine OwnC.netG (hi := hi) h1.2.2.1 (by rw [hob]; exact hg2) (Nat.le_refl _) (by have := HNE.out; have := h1.1.size; have := hg2.size; omega) ?_ (fun g3 e3 => Or.inl (by rw [hob]; exact e3)) HNE.out.2.1
    rw [hln]
    exact ho2
  have k2 := (hg2.block N (Array.getElem?_eq_some_iff.1 h1.2.1).1 (fun e => hNg (Option.some.inj e))).trans h1.2.1
  have k3 := (hg2.block w.heap.size (Array.getElem?_eq_some_iff.1 h1.2.2.2.1).1 (fun e => hwg (Option.some.inj e))).trans h1.2.2.2.1
  have k4 := (hg2.block W.heap.size (Array.getElem?_eq_some_iff.1 h1.2.2.2.2.1).1 (fun e => hWg (Option.some.inj e))).trans h1.2.2.2.2.1
  have k5 : FrS (fun k => k = N ∨ lo ≤ k) w y2 := (FrS.of_below h1.1).trans (FrS.of_grown hg2 (fun k e => by cases e; exact Or.inr HGW.out.1))
  have HY2 : Hid (OwnC lo hi y2 { c with net := c.net.take k ++ c.net.drop (k + 1) } { s with net := .slice (some ⟨g, 0, none⟩) m cn } ∧ y2.heap[N]? = some (.cells #[.int .i32 1, .int .u32 0, .int .i64 c.n, .bool c.chain, .int .i64 c.liars, s.treeV, s.peersV, s.net, s.said, s.pend] 122 (0, 0)) ∧ y2.heap[w.heap.size]? = some (.cells (letA ((0, 0, 0, 0, 0), (0, 0, 0, 0), (0, 0, 0, 0))) 65 (0, 0)) ∧ y2.heap[W.heap.size]? = some (.cells (letA l) 65 (0, 0)) ∧ FrS (fun k => k = N ∨ lo ≤ k) w y2) := ⟨k1, k2, k3, k4, k5⟩
  clear h1 hNg hwg hWg k1 k2 k3 k4 k5
  clear ho2 hg2 HY1 c8
  go_wp2_with (first
    | (refine wpList_store_cell rfl _ _ _ rfl N 7 (.slice (some ⟨g, 0, none⟩) m cn) rfl rfl _ _ HY2.out.2.1 (by kernel_rfl) (by simp) rfl #[.int .i32 1, .int .u32 0, .int .i64 c.n, .bool c.chain, .int .i64 c.liars, s.treeV, s.peersV, .slice (some ⟨g, 0, none⟩) m cn, s.said, s.pend] rfl ?_; intro y3 hg hk; have HY3 : Hid (OwnC lo hi y3 { c with net := c.net.take k ++ c.net.drop (k + 1) } { s with net := .slice (some ⟨g, 0, none⟩) m cn } ∧ HallAt y3 N 1 { c with net := c.net.take k ++ c.net.drop (k + 1) } { s with net := .slice (some ⟨g, 0, none⟩) m cn } ∧ y3.heap[w.heap.size]? = some (.cells (letA ((0, 0, 0, 0, 0), (0, 0, 0, 0), (0, 0, 0, 0))) 65 (0, 0)) ∧ y3.heap[W.heap.size]? = some (.cells (letA l) 65 (0, 0)) ∧ FrS (fun k => k = N ∨ lo ≤ k) w y3) := ⟨HY2.out.1.hallT HY2.out.2.1 hg, hk, (hg.block _ (Array.getElem?_eq_some_iff.1 HY2.out.2.2.1).1 (fun e => by have := Option.some.inj e; have := HNE.out; omega)).trans HY2.out.2.2.1, (hg.block _ (Array.getElem?_eq_some_iff.1 HY2.out.2.2.2.1).1 (fun e => by have := Option.some.inj e; have := HNE.out; have := HBW.out.2.2; omega)).trans HY2.out.2.2.2.1, HY2.out.2.2.2.2.trans (FrS.of_grown hg (fun k e => by cases e; exact Or.inl rfl))⟩; clear hg hk)
    | (refine wpList_load_row rfl _ _ rfl W.heap.size rfl 65 _ (0, 0) _ HY3.out.2.2.2.1 Tryz.underlying65 rfl (by kernel_rfl) ?_)
    | (refine wpList_store_blk rfl _ _ _ rfl w.heap.size (letA l) rfl rfl 65 (letA ((0, 0, 0, 0, 0), (0, 0, 0, 0), (0, 0, 0, 0))) HY3.out.2.2.1 (by kernel_rfl) rfl (letA_one _) ?_; intro y4 hg hk hz; have HY4 : Hid (y4.heap[w.heap.size]? = some (.cells (letA l) 65 (0, 0)) ∧ HallAt y4 N 1 { c with net := c.net.take k ++ c.net.drop (k + 1) } { s with net := .slice (some ⟨g, 0, none⟩) m cn } ∧ OwnC lo y4.heap.size y4 { c with net := c.net.take k ++ c.net.drop (k + 1) } { s with net := .slice (some ⟨g, 0, none⟩) m cn } ∧ FrS (fun k => k = N ∨ lo ≤ k) w y4) := ⟨hk, (hg.block N (Array.getElem?_eq_some_iff.1 HY3.out.2.1).1 (fun e => by have := Option.some.inj e; have := HNE.out; omega)).trans HY3.out.2.1, (HY3.out.1.frs (B := fun i => i = w.heap.size) (FrS.of_grown hg (fun k e => by cases e; rfl)) (fun i j hi5 hp e => by have := (HY3.out.1.lim i j hi5 hp).2; have := HNE.out; omega)).wide (Nat.le_trans HY3.out.1.size hg.size) (Nat.le_refl _), HY3.out.2.2.2.2.trans (FrS.of_grown hg (fun k e => by cases e; exact Or.inr (by have := HNE.out; omega)))⟩; clear hg hk hz))
  refine bodyPost_ret (v := .agg (letA l)) (results_cell_row Tryz.results82 _ _ w.heap.size 65 _ (0, 0) _ rfl HY4.out.1 Tryz.underlying65 rfl (by kernel_rfl)) rfl ?_
  exact ⟨rfl, _, HY4.out.2.1, HY4.out.2.2.1, HY4.out.2.2.2⟩

end Go.Proofs.YtjieklilojmifauGreatR
