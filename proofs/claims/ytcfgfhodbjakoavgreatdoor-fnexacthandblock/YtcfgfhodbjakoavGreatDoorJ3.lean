/-
  Texts of ours that later ones lean on, in one: 7, one behind the other.
-/
import Derived.Test.YtcfgfhodbjakoavGreatDoorJ2
import Derived.Test.YtcfgfhodbjakoavGreatDoorJ1
import Derived.Laws.AppendOwn
import Derived.OwnWalk
namespace Go.Proofs.YtcfgfhodbjakoavGreatDoor
open Go.RowKit Num

/-- what szCluster tells -/
def SzC (c : CU) (left z : Int) : Prop := z = -1 ∨ (0 ≤ z ∧ z + (wtCl c : Int) ≤ left ∧ okC c)
theorem own_oneC {w : World} {base m n : Nat} {e : TypeId} {v : Value} {xs : List Value} (h : w.ownsRow base e m v n xs) : v.oneCell' = true := by
  obtain ⟨a, cap, rfl, _⟩ := own_form h
  rfl
/-- one cell of a block, loaded -/
theorem wpList_load_blk {P : Program} {ops : Array Oper} {rest : List Oper} {op : Oper} {a : Act} {w : World} {Q : Exit → Act → World → Prop} (hgd : op.guard = none) (ty : TypeId) (x : Operand) (ho : op.op = .load ty x) (g o : Nat) (u : Value) (t : TypeId) (cs : Array Value) (hx : a.eval x = .pointer (some ⟨g, o, none⟩))
    (hg : w.heap[g]? = some (.cells cs t (0, 0))) (hu : cs[o]? = some u) (d : TypeDesc) (ht : P.underlying ty = some d) (hd : d.isRow = false)
    (h : wpList P ops Q rest (a.put op.dst u) w) : wpList P ops Q (op :: rest) a w := by
  refine wpList_plain hgd fun K hK => ?_
  have hcell : w.cell? ⟨g, o, none⟩ = some u := blk_cell hg o u hu
  have hagg : (isAgg ty).run P w = .ok false w := by
    unfold isAgg
    rw [Sem.run_bind, run_underlying ht w]
    cases d <;> simp_all
  have hrun : (loadVar ty ⟨g, o, none⟩).run P w = .ok u w := by simp [loadVar, Sem.run_bind, hagg, hcell]
  unfold Oper.wp execOp
  simp only [ho, hx, Instr.loadAt, Instr.sureAddr, Sem.run_bind, Sem.run_pure, Result.andThen_ok, hrun]
  exact hK _ _ h
/-- the boxes of a copy: what came in, the answer's, the copy's -/
structure ToB (w y : World) (A O : Array Value) : Prop where
  below : Below w.heap.size w y
  box : y.heap[w.heap.size]? = some (.cells A 28 (0, 0))
  zero : y.heap[w.heap.size + 1]? = some (.cells #[.int .i64 0, .bool false, .int .i64 0, .slice none 0 0, .slice none 0 0, .slice none 0 0, .slice none 0 0, .slice none 0 0] 43 (0, 0))
  out : y.heap[w.heap.size + 1 + 1]? = some (.cells O 43 (0, 0))
theorem ToB.far {w y : World} {A O : Array Value} (h : ToB w y A O) : w.heap.size + 1 + 1 < y.heap.size := (Array.getElem?_eq_some_iff.1 h.out).1
theorem ToB.put {w y x : World} {A O O' : Array Value} (h : ToB w y A O) (hg : y.grownBy x (some (w.heap.size + 1 + 1))) (hk : x.heap[w.heap.size + 1 + 1]? = some (.cells O' 43 (0, 0))) : ToB w x A O' :=
  ⟨h.below.grown hg h.below.size (fun k hk => by cases hk; omega), (hg.block _ (Array.getElem?_eq_some_iff.1 h.box).1 (fun e => by have := Option.some.inj e; omega)).trans h.box, (hg.block _ (Array.getElem?_eq_some_iff.1 h.zero).1 (fun e => by have := Option.some.inj e; omega)).trans h.zero, hk⟩
theorem ToB.more {w y x : World} {A O : Array Value} (h : ToB w y A O) (hb : Below y.heap.size y x) : ToB w x A O :=
  ⟨bt h.below hb, (hb.block _ (Array.getElem?_eq_some_iff.1 h.box).1).trans h.box, (hb.block _ (Array.getElem?_eq_some_iff.1 h.zero).1).trans h.zero, (hb.block _ (Array.getElem?_eq_some_iff.1 h.out).1).trans h.out⟩

set_option maxRecDepth 100000 in
set_option maxHeartbeats 4000000 in
theorem szCluster_any (c : CU) (s : CW) (left : Int) (w : World) (h0 : 0 ≤ left) (h1 : left ≤ 1048576) (hR : ClusR w c s) (hg : goodC c) :
    Calls Tryz.prog 6 #[clusV c s, .int .i64 left] w fun e w' => ∃ z, e = .returned (.int .i64 z) ∧ SzC c left z ∧ Below w.heap.size w w' := by
  have HR := hid hR
  have HG := hid hg
  have hbl : s.tree.length = c.tree.length := by rw [← hR.etree, bks_len]
  have hpl : s.peers.length = c.peers.length := by rw [← hR.epeers, pes_len]
  obtain ⟨an, cn, en, -⟩ := hR.net
  obtain ⟨ad, cd, ed, -⟩ := hR.said
  have g0 := hg.ltree
  have g1 := hg.lpeers
  have g2 := hg.lnet
  have g3 := hg.lsaid
  have g4 := hg.lpend
  have HGL : Hid (c.net.length ≤ maxLen ∧ c.said.length ≤ maxLen) := ⟨g2, g3⟩
  unfold maxLen at g0 g1 g2 g3 g4
  clear hR hg
  obtain ⟨W, hW⟩ : ∃ W, W = w.alloc (.cells (clusA c s) 28) := ⟨_, rfl⟩
  have HBW : Hid (Below w.heap.size w W) := (by rw [hW]; exact ba (Below.refl _ _) _ : Below w.heap.size w W)
  have HKW : Hid (W.heap[w.heap.size]? = some (.cells (clusA c s) 28 (0, 0))) := (by rw [hW]; exact heap_alloc_new w _ : W.heap[w.heap.size]? = _)
  go_enter Tryz.func6, Tryz.ntmps6
  have c3 := blk_cell HKW.out 3 s.treeV rfl
  rw [hW] at c3
  go_wp2_with fail
  rw [← hW]
  clear hW c3
  refine (szBlocks_any s.tree s.treeV left W h0 h1 (HR.out.tree.below HBW.out) (by omega) (fun p hp => (HG.out.tree p.1 (by rw [← HR.out.etree]; exact List.mem_map_of_mem hp)).1)).mono ?_
  rintro e x1 ⟨rfl, hb⟩
  have HBx1 : Hid (Below w.heap.size w x1) := bt HBW.out hb
  have HKx1 : Hid (x1.heap[w.heap.size]? = some (.cells (clusA c s) 28 (0, 0))) := (hb.block _ (Array.getElem?_eq_some_iff.1 HKW.out).1).trans HKW.out
  clear hb HBW HKW
  rw [HR.out.etree]
  by_cases k0 : szBlocksC c.tree left < 0
  · go_wp2
    go_ret
    exact ⟨-1, rfl, Or.inl rfl, HBx1.out⟩
  have hbd := szBlocks_bd (t := c.tree) h1 (Int.not_lt.1 k0)
  have HT : Hid (okT c.tree) := hbd.1
  have hwt := szBlocks_wt (Int.not_lt.1 k0)
  have hge := Int.not_lt.1 k0
  have hle := hbd.2
  obtain ⟨z0, hz0⟩ : ∃ z0, z0 = szBlocksC c.tree left := ⟨_, rfl⟩
  rw [← hz0] at k0 hge hle hwt ⊢
  clear hz0 hbd
  have c4 := blk_cell HKx1.out 4 s.peersV rfl
  go_wp2_with fail
  clear c4
  refine (szPeers_any s.peers s.peersV z0 x1 hge (by omega) (HR.out.peers.below HBx1.out) (by omega) (fun x hx => HG.out.peers x.1 (by rw [← HR.out.epeers]; exact List.mem_map_of_mem hx))).mono ?_
  rintro e x2 ⟨z1, rfl, hz, hb⟩
  have HBx2 : Hid (Below w.heap.size w x2) := bt HBx1.out hb
  have HKx2 : Hid (x2.heap[w.heap.size]? = some (.cells (clusA c s) 28 (0, 0))) := (hb.block _ (Array.getElem?_eq_some_iff.1 HKx1.out).1).trans HKx1.out
  clear hb HBx1 HKx1
  rw [HR.out.epeers] at hz
  rcases hz with rfl | ⟨hz1, hz2, hz3⟩
  · go_wp2
    go_ret
    exact ⟨-1, rfl, Or.inl rfl, HBx2.out⟩
  have HP : Hid (∀ p ∈ c.peers, smallPe p) := hz3
  clear hz3
  have k1 : ¬ z1 < 0 := by omega
  have c5 := blk_cell HKx2.out 5 (.slice an c.net.length cn) (by rw [← en]; rfl)
  go_wp2_with fail
  clear c5
  refine (szLetters_any c.net.length cn an z1 x2 hz1 (by omega) HGL.out.1).mono ?_
  rintro e x_ ⟨rfl, hw⟩
  obtain rfl := hw.symm
  clear hw
  by_cases k2 : z1 - (c.net.length : Int) < 0
  · rw [if_pos k2]
    go_wp2
    go_ret
    exact ⟨-1, rfl, Or.inl rfl, HBx2.out⟩
  rw [if_neg k2]
  have c6 := blk_cell HKx2.out 6 (.slice ad c.said.length cd) (by rw [← ed]; rfl)
  go_wp2_with fail
  clear c6
  refine (szVotes_any c.said.length cd ad (z1 - (c.net.length : Int)) x2 (by omega) (by omega) HGL.out.2).mono ?_
  rintro e x_ ⟨rfl, hw⟩
  obtain rfl := hw.symm
  clear hw
  by_cases k3 : z1 - (c.net.length : Int) - (c.said.length : Int) < 0
  · rw [if_pos k3]
    go_wp2
    go_ret
    exact ⟨-1, rfl, Or.inl rfl, HBx2.out⟩
  rw [if_neg k3]
  have c7 := blk_cell HKx2.out 7 s.pend rfl
  go_wp2_with fail
  clear c7
  refine (szCmds_any c.pend s.pend (z1 - (c.net.length : Int) - (c.said.length : Int)) x2 (by omega) (by omega) (HR.out.pend.below HBx2.out) (by omega) (fun x hx => by have := (HG.out.pend x hx).2.1; unfold maxLen at this; omega)).mono ?_
  rintro e x3 ⟨rfl, hb⟩
  have HBx3 : Hid (Below w.heap.size w x3) := bt HBx2.out hb
  have HKx3 : Hid (x3.heap[w.heap.size]? = some (.cells (clusA c s) 28 (0, 0))) := (hb.block _ (Array.getElem?_eq_some_iff.1 HKx2.out).1).trans HKx2.out
  clear hb HBx2 HKx2
  by_cases k4 : szCmdsC c.pend (z1 - (c.net.length : Int) - (c.said.length : Int)) < 0
  · go_wp2
    go_ret
    exact ⟨-1, rfl, Or.inl rfl, HBx3.out⟩
  have hcb := szCmds_bd (l := c.pend) (left := z1 - (c.net.length : Int) - (c.said.length : Int)) (by omega) (Int.not_lt.1 k4)
  have hcw := szCmds_wt (Int.not_lt.1 k4)
  have hc0 := Int.not_lt.1 k4
  obtain ⟨z5, hz5⟩ : ∃ z5, z5 = szCmdsC c.pend (z1 - (c.net.length : Int) - (c.said.length : Int)) := ⟨_, rfl⟩
  rw [← hz5] at k4 hcw hc0 ⊢
  have HF : Hid (SzC c left z5) := Or.inr ⟨hc0, by unfold wtCl; omega, ⟨HT.out, by omega, HP.out, by omega, by omega, hcb⟩⟩
  clear hcb hz5
  go_wp2
  go_ret
  exact ⟨z5, rfl, HF.out, HBx3.out⟩

set_option maxRecDepth 100000 in
set_option maxHeartbeats 4000000 in
theorem eqCluster_yes (c : CU) (s t : CW) (w : World) (hs : ClusR w c s) (ht : ClusR w c t) (hk : okC c) :
    Calls Tryz.prog 11 #[clusV c s, clusV c t] w fun e w' => e = .returned (.bool true) ∧ Below w.heap.size w w' := by
  have HR := hid hs
  have HT := hid ht
  have HO := hid hk
  clear hs ht hk
  obtain ⟨W, hW⟩ : ∃ W, W = (w.alloc (.cells (clusA c s) 43)).alloc (.cells (clusA c t) 43) := ⟨_, rfl⟩
  have HBW : Hid (Below w.heap.size w W) := (by rw [hW]; exact ba (ba (Below.refl _ _) _) _ : Below w.heap.size w W)
  have HKW : Hid (W.heap[w.heap.size]? = some (.cells (clusA c s) 43 (0, 0))) := (by rw [hW]; exact (alloc2 w _ _).1 : W.heap[w.heap.size]? = _)
  have HJW : Hid (W.heap[w.heap.size + 1]? = some (.cells (clusA c t) 43 (0, 0))) := (by rw [hW]; exact (alloc2 w _ _).2 : W.heap[w.heap.size + 1]? = _)
  have hsl : (s.peers.length : Int) ≤ 1048576 := by have := HO.out.lpeers; rw [← HR.out.epeers, pes_len] at this; exact this
  have HSP : Hid (∀ x ∈ s.peers, smallPe x.1) := (fun x hx => HO.out.peers x.1 (by rw [← HR.out.epeers]; exact List.mem_map_of_mem hx) : ∀ x ∈ s.peers, smallPe x.1)
  go_enter Tryz.func11, Tryz.ntmps11
  have a0 := blk_cell HKW.out 0 (.int .i64 c.n) rfl
  have b0 := blk_cell HJW.out 0 (.int .i64 c.n) rfl
  have a1 := blk_cell HKW.out 1 (.bool c.chain) rfl
  have b1 := blk_cell HJW.out 1 (.bool c.chain) rfl
  have a2 := blk_cell HKW.out 2 (.int .i64 c.liars) rfl
  have b2 := blk_cell HJW.out 2 (.int .i64 c.liars) rfl
  have a3 := blk_cell HKW.out 3 s.treeV rfl
  have b3 := blk_cell HJW.out 3 t.treeV rfl
  have hcc : (c.chain != c.chain) = false := by simp
  rw [hW] at a0 b0 a1 b1 a2 b2 a3 b3
  go_wp2_with fail
  rw [← hW]
  clear hW a0 b0 a1 b1 a2 b2 a3 b3
  refine (eqBlocks_yes s.tree t.tree s.treeV t.treeV W (HR.out.tree.below HBW.out) (HT.out.tree.below HBW.out) (by rw [HR.out.etree, HT.out.etree]) (by rw [HR.out.etree]; exact HO.out.tree)).mono ?_
  rintro e x0 ⟨rfl, hb⟩
  have HBx0 : Hid (Below w.heap.size w x0) := bt HBW.out hb
  have HKx0 : Hid (x0.heap[w.heap.size]? = some (.cells (clusA c s) 43 (0, 0))) := (hb.block _ (Array.getElem?_eq_some_iff.1 HKW.out).1).trans HKW.out
  have HJx0 : Hid (x0.heap[w.heap.size + 1]? = some (.cells (clusA c t) 43 (0, 0))) := (hb.block _ (Array.getElem?_eq_some_iff.1 HJW.out).1).trans HJW.out
  clear hb HBW HKW HJW
  have a := blk_cell HKx0.out 4 s.peersV rfl
  have b := blk_cell HJx0.out 4 t.peersV rfl
  go_wp2_with fail
  clear a b
  refine (eqPeers_yes s.peers t.peers s.peersV t.peersV x0 (HR.out.peers.below HBx0.out) (HT.out.peers.below HBx0.out) (by rw [HR.out.epeers, HT.out.epeers]) hsl HSP.out).mono ?_
  rintro e x1 ⟨rfl, hb⟩
  have HBx1 : Hid (Below w.heap.size w x1) := bt HBx0.out hb
  have HKx1 : Hid (x1.heap[w.heap.size]? = some (.cells (clusA c s) 43 (0, 0))) := (hb.block _ (Array.getElem?_eq_some_iff.1 HKx0.out).1).trans HKx0.out
  have HJx1 : Hid (x1.heap[w.heap.size + 1]? = some (.cells (clusA c t) 43 (0, 0))) := (hb.block _ (Array.getElem?_eq_some_iff.1 HJx0.out).1).trans HJx0.out
  clear hb HBx0 HKx0 HJx0
  have a := blk_cell HKx1.out 5 s.net rfl
  have b := blk_cell HJx1.out 5 t.net rfl
  go_wp2_with fail
  clear a b
  refine (eqLetters_yes c.net s.net t.net x1 (HR.out.net.below HBx1.out) (HT.out.net.below HBx1.out) HO.out.net).mono ?_
  rintro e x2 ⟨rfl, hb⟩
  have HBx2 : Hid (Below w.heap.size w x2) := bt HBx1.out hb
  have HKx2 : Hid (x2.heap[w.heap.size]? = some (.cells (clusA c s) 43 (0, 0))) := (hb.block _ (Array.getElem?_eq_some_iff.1 HKx1.out).1).trans HKx1.out
  have HJx2 : Hid (x2.heap[w.heap.size + 1]? = some (.cells (clusA c t) 43 (0, 0))) := (hb.block _ (Array.getElem?_eq_some_iff.1 HJx1.out).1).trans HJx1.out
  clear hb HBx1 HKx1 HJx1
  have a := blk_cell HKx2.out 6 s.said rfl
  have b := blk_cell HJx2.out 6 t.said rfl
  go_wp2_with fail
  clear a b
  refine (eqVotes_yes c.said s.said t.said x2 (HR.out.said.below HBx2.out) (HT.out.said.below HBx2.out) HO.out.said).mono ?_
  rintro e x3 ⟨rfl, hb⟩
  have HBx3 : Hid (Below w.heap.size w x3) := bt HBx2.out hb
  have HKx3 : Hid (x3.heap[w.heap.size]? = some (.cells (clusA c s) 43 (0, 0))) := (hb.block _ (Array.getElem?_eq_some_iff.1 HKx2.out).1).trans HKx2.out
  have HJx3 : Hid (x3.heap[w.heap.size + 1]? = some (.cells (clusA c t) 43 (0, 0))) := (hb.block _ (Array.getElem?_eq_some_iff.1 HJx2.out).1).trans HJx2.out
  clear hb HBx2 HKx2 HJx2
  have a := blk_cell HKx3.out 7 s.pend rfl
  have b := blk_cell HJx3.out 7 t.pend rfl
  go_wp2_with fail
  clear a b
  refine (eqCmds_yes c.pend s.pend t.pend x3 (HR.out.pend.below HBx3.out) (HT.out.pend.below HBx3.out) HO.out.pend.1).mono ?_
  rintro e x4 ⟨rfl, hb⟩
  have HBx4 : Hid (Below w.heap.size w x4) := bt HBx3.out hb
  have HKx4 : Hid (x4.heap[w.heap.size]? = some (.cells (clusA c s) 43 (0, 0))) := (hb.block _ (Array.getElem?_eq_some_iff.1 HKx3.out).1).trans HKx3.out
  have HJx4 : Hid (x4.heap[w.heap.size + 1]? = some (.cells (clusA c t) 43 (0, 0))) := (hb.block _ (Array.getElem?_eq_some_iff.1 HJx3.out).1).trans HJx3.out
  clear hb HBx3 HKx3 HJx3
  go_wp2
  go_ret
  exact ⟨rfl, HBx4.out⟩

set_option maxRecDepth 100000 in
set_option maxHeartbeats 8000000 in
theorem toCluster_any (c : CU) (s : CW) (w : World) (hR : ClusR w c s) (hk : okC c) :
    Calls Tryz.prog 8 #[clusV c s] w fun e w' => ∃ s', e = .returned (clusV c s') ∧ OwnC w.heap.size w'.heap.size w' c s' ∧ Below w.heap.size w w' := by
  have HR := hid hR
  have HO := hid hk
  clear hR hk
  have hsl : (s.peers.length : Int) ≤ 1048576 := by have := HO.out.lpeers; rw [← HR.out.epeers, pes_len] at this; exact this
  have HSP : Hid (∀ x ∈ s.peers, smallPe x.1) := (fun x hx => HO.out.peers x.1 (by rw [← HR.out.epeers]; exact List.mem_map_of_mem hx) : ∀ x ∈ s.peers, smallPe x.1)
  obtain ⟨W, hW⟩ : ∃ W, W = ((w.alloc (.cells (clusA c s) 28)).alloc (.cells #[.int .i64 0, .bool false, .int .i64 0, .slice none 0 0, .slice none 0 0, .slice none 0 0, .slice none 0 0, .slice none 0 0] 43)).alloc (.cells #[.int .i64 0, .bool false, .int .i64 0, .slice none 0 0, .slice none 0 0, .slice none 0 0, .slice none 0 0, .slice none 0 0] 43) := ⟨_, rfl⟩
  have HB0 : Hid (ToB w W (clusA c s) #[.int .i64 0, .bool false, .int .i64 0, .slice none 0 0, .slice none 0 0, .slice none 0 0, .slice none 0 0, .slice none 0 0]) := (by rw [hW]; exact ⟨ba (ba (ba (Below.refl _ _) _) _) _, (alloc3 w _ _ _).1, (alloc3 w _ _ _).2.1, (alloc3 w _ _ _).2.2⟩ : ToB w W (clusA c s) #[.int .i64 0, .bool false, .int .i64 0, .slice none 0 0, .slice none 0 0, .slice none 0 0, .slice none 0 0, .slice none 0 0])
  go_enter Tryz.func8, Tryz.ntmps8
  go_wp2_with (first | (rw [← hW]; clear hW; (refine wpList_load_blk rfl _ _ rfl w.heap.size 0 (.int .i64 c.n) _ _ rfl HB0.out.box rfl _ Tryz.underlying3 rfl ?_)) | (refine wpList_store_cell rfl _ _ _ rfl (w.heap.size + 1 + 1) 0 (.int .i64 c.n) rfl rfl _ _ HB0.out.out (by kernel_rfl) (by simp) rfl #[.int .i64 c.n, .bool false, .int .i64 0, .slice none 0 0, .slice none 0 0, .slice none 0 0, .slice none 0 0, .slice none 0 0] rfl ?_; intro y1 hg hk; have HB1 : Hid (ToB w y1 (clusA c s) #[.int .i64 c.n, .bool false, .int .i64 0, .slice none 0 0, .slice none 0 0, .slice none 0 0, .slice none 0 0, .slice none 0 0]) := HB0.out.put hg hk; clear hk HB0; clear hg) | (refine wpList_load_blk rfl _ _ rfl w.heap.size 1 (.bool c.chain) _ _ rfl HB1.out.box rfl _ Tryz.underlying4 rfl ?_) | (refine wpList_store_cell rfl _ _ _ rfl (w.heap.size + 1 + 1) 1 (.bool c.chain) rfl rfl _ _ HB1.out.out (by kernel_rfl) (by simp) rfl #[.int .i64 c.n, .bool c.chain, .int .i64 0, .slice none 0 0, .slice none 0 0, .slice none 0 0, .slice none 0 0, .slice none 0 0] rfl ?_; intro y2 hg hk; have HB2 : Hid (ToB w y2 (clusA c s) #[.int .i64 c.n, .bool c.chain, .int .i64 0, .slice none 0 0, .slice none 0 0, .slice none 0 0, .slice none 0 0, .slice none 0 0]) := HB1.out.put hg hk; clear hk HB1; clear hg) | (refine wpList_load_blk rfl _ _ rfl w.heap.size 2 (.int .i64 c.liars) _ _ rfl HB2.out.box rfl _ Tryz.underlying3 rfl ?_) | (refine wpList_store_cell rfl _ _ _ rfl (w.heap.size + 1 + 1) 2 (.int .i64 c.liars) rfl rfl _ _ HB2.out.out (by kernel_rfl) (by simp) rfl #[.int .i64 c.n, .bool c.chain, .int .i64 c.liars, .slice none 0 0, .slice none 0 0, .slice none 0 0, .slice none 0 0, .slice none 0 0] rfl ?_; intro y3 hg hk; have HB3 : Hid (ToB w y3 (clusA c s) #[.int .i64 c.n, .bool c.chain, .int .i64 c.liars, .slice none 0 0, .slice none 0 0, .slice none 0 0, .slice none 0 0, .slice none 0 0]) := HB2.out.put hg hk; clear hk HB2; clear hg) | (refine wpList_load_blk rfl _ _ rfl w.heap.size 3 (s.treeV) _ _ rfl HB3.out.box rfl _ Tryz.underlying22 rfl ?_))
  refine (toBlocks_any s.tree s.treeV y3 (HR.out.tree.below HB3.out.below) (by rw [HR.out.etree]; exact HO.out.tree)).mono ?_
  rintro e x3 ⟨v3, q3, rfl, hq, ho, hb⟩
  have HE3 : Hid (bks q3 = c.tree) := hq.trans HR.out.etree
  have HBB3 : Hid (ToB w x3 (clusA c s) #[.int .i64 c.n, .bool c.chain, .int .i64 c.liars, .slice none 0 0, .slice none 0 0, .slice none 0 0, .slice none 0 0, .slice none 0 0]) := HB3.out.more hb
  have HL3 : Hid (∀ g, inTree v3 q3 g → g < x3.heap.size) := fun g hg => (inTree_ge ho hg).2
  have HY3 : Hid (w.heap.size + 1 + 1 < y3.heap.size ∧ y3.heap.size ≤ x3.heap.size) := ⟨HB3.out.far, hb.size⟩
  have HTT : Hid (OwnT x3 y3.heap.size v3 q3) := ho
  clear ho hb HB3 hq
  have HB3 := HBB3
  clear HBB3
  go_wp2_with (first | (refine wpList_store_cell rfl _ _ _ rfl (w.heap.size + 1 + 1) 3 (v3) rfl rfl _ _ HB3.out.out (by kernel_rfl) (by simp) (own_oneC HTT.out.row) #[.int .i64 c.n, .bool c.chain, .int .i64 c.liars, v3, .slice none 0 0, .slice none 0 0, .slice none 0 0, .slice none 0 0] rfl ?_; intro y4 hg hk; have HB4 : Hid (ToB w y4 (clusA c s) #[.int .i64 c.n, .bool c.chain, .int .i64 c.liars, v3, .slice none 0 0, .slice none 0 0, .slice none 0 0, .slice none 0 0]) := HB3.out.put hg hk; clear hk HB3; have HTTN : Hid (OwnT y4 y3.heap.size v3 q3) := HTT.out.frs (FrS.of_grown hg (B := fun i => i = (w.heap.size + 1 + 1)) (fun i e => by cases e; rfl)) (fun i hi e => by have := (inTree_ge HTT.out hi).1; have := HY3.out; omega); have HZ3 : Hid (x3.heap.size ≤ y4.heap.size) := hg.size; clear hg HTT; have HTT := HTTN; clear HTTN) | (refine wpList_load_blk rfl _ _ rfl w.heap.size 4 (s.peersV) _ _ rfl HB4.out.box rfl _ Tryz.underlying23 rfl ?_))
  refine (toPeers_any s.peers s.peersV y4 (HR.out.peers.below HB4.out.below) hsl HSP.out).mono ?_
  rintro e x4 ⟨v4, q4, rfl, hq, ho, hb⟩
  have HE4 : Hid (pes q4 = c.peers) := hq.trans HR.out.epeers
  have HBB4 : Hid (ToB w x4 (clusA c s) #[.int .i64 c.n, .bool c.chain, .int .i64 c.liars, v3, .slice none 0 0, .slice none 0 0, .slice none 0 0, .slice none 0 0]) := HB4.out.more hb
  have HL4 : Hid (∀ g, inPeers v4 q4 g → g < x4.heap.size) := fun g hg => (inPeers_ge ho hg).2
  have HY4 : Hid (w.heap.size + 1 + 1 < y4.heap.size ∧ y4.heap.size ≤ x4.heap.size) := ⟨HB4.out.far, hb.size⟩
  have HTTN : Hid (OwnT x4 y3.heap.size v3 q3) := HTT.out.below hb
  have HPP : Hid (OwnPs y4.heap.size x4 v4 q4) := ho
  clear HTT
  have HTT := HTTN
  clear HTTN
  clear ho hb HB4 hq
  have HB4 := HBB4
  clear HBB4
  go_wp2_with (first | (refine wpList_store_cell rfl _ _ _ rfl (w.heap.size + 1 + 1) 4 (v4) rfl rfl _ _ HB4.out.out (by kernel_rfl) (by simp) (own_oneC HPP.out.row) #[.int .i64 c.n, .bool c.chain, .int .i64 c.liars, v3, v4, .slice none 0 0, .slice none 0 0, .slice none 0 0] rfl ?_; intro y5 hg hk; have HB5 : Hid (ToB w y5 (clusA c s) #[.int .i64 c.n, .bool c.chain, .int .i64 c.liars, v3, v4, .slice none 0 0, .slice none 0 0, .slice none 0 0]) := HB4.out.put hg hk; clear hk HB4; have HTTN : Hid (OwnT y5 y3.heap.size v3 q3) := HTT.out.frs (FrS.of_grown hg (B := fun i => i = (w.heap.size + 1 + 1)) (fun i e => by cases e; rfl)) (fun i hi e => by have := (inTree_ge HTT.out hi).1; have := HY3.out; omega); have HPPN : Hid (OwnPs y4.heap.size y5 v4 q4) := HPP.out.frs (FrS.of_grown hg (B := fun i => i = (w.heap.size + 1 + 1)) (fun i e => by cases e; rfl)) (fun i hi e => by have := (inPeers_ge HPP.out (Or.inl hi)).1; have := HY4.out; omega) (fun x hx i hi e => by have := (inPeers_ge HPP.out (Or.inr ⟨x, hx, hi⟩)).1; have := HY4.out; omega); have HZ4 : Hid (x4.heap.size ≤ y5.heap.size) := hg.size; clear hg HTT HPP; have HTT := HTTN; clear HTTN; have HPP := HPPN; clear HPPN) | (refine wpList_load_blk rfl _ _ rfl w.heap.size 5 (s.net) _ _ rfl HB5.out.box rfl _ Tryz.underlying24 rfl ?_))
  refine (toLetters_any c.net s.net y5 (HR.out.net.below HB5.out.below) HO.out.net).mono ?_
  rintro e x5 ⟨v5, rfl, ho, hb⟩
  have HBB5 : Hid (ToB w x5 (clusA c s) #[.int .i64 c.n, .bool c.chain, .int .i64 c.liars, v3, v4, .slice none 0 0, .slice none 0 0, .slice none 0 0]) := HB5.out.more hb
  have HL5 : Hid (∀ g, v5.ownBlock = some g → g < x5.heap.size) := fun g hg => (ho.lt g hg).2
  have HY5 : Hid (w.heap.size + 1 + 1 < y5.heap.size ∧ y5.heap.size ≤ x5.heap.size) := ⟨HB5.out.far, hb.size⟩
  have HTTN : Hid (OwnT x5 y3.heap.size v3 q3) := HTT.out.below hb
  have HPPN : Hid (OwnPs y4.heap.size x5 v4 q4) := HPP.out.below hb
  have HNN : Hid (x5.ownsRow y5.heap.size 48 13 v5 c.net.length (flatR letF c.net)) := ho
  clear HTT HPP
  have HTT := HTTN
  clear HTTN
  have HPP := HPPN
  clear HPPN
  clear ho hb HB5
  have HB5 := HBB5
  clear HBB5
  go_wp2_with (first | (refine wpList_store_cell rfl _ _ _ rfl (w.heap.size + 1 + 1) 5 (v5) rfl rfl _ _ HB5.out.out (by kernel_rfl) (by simp) (own_oneC HNN.out) #[.int .i64 c.n, .bool c.chain, .int .i64 c.liars, v3, v4, v5, .slice none 0 0, .slice none 0 0] rfl ?_; intro y6 hg hk; have HB6 : Hid (ToB w y6 (clusA c s) #[.int .i64 c.n, .bool c.chain, .int .i64 c.liars, v3, v4, v5, .slice none 0 0, .slice none 0 0]) := HB5.out.put hg hk; clear hk HB5; have HTTN : Hid (OwnT y6 y3.heap.size v3 q3) := HTT.out.frs (FrS.of_grown hg (B := fun i => i = (w.heap.size + 1 + 1)) (fun i e => by cases e; rfl)) (fun i hi e => by have := (inTree_ge HTT.out hi).1; have := HY3.out; omega); have HPPN : Hid (OwnPs y4.heap.size y6 v4 q4) := HPP.out.frs (FrS.of_grown hg (B := fun i => i = (w.heap.size + 1 + 1)) (fun i e => by cases e; rfl)) (fun i hi e => by have := (inPeers_ge HPP.out (Or.inl hi)).1; have := HY4.out; omega) (fun x hx i hi e => by have := (inPeers_ge HPP.out (Or.inr ⟨x, hx, hi⟩)).1; have := HY4.out; omega); have HNNN : Hid (y6.ownsRow y5.heap.size 48 13 v5 c.net.length (flatR letF c.net)) := (FrS.of_grown hg (B := fun i => i = (w.heap.size + 1 + 1)) (fun i e => by cases e; rfl)).own HNN.out (fun i hi e => by have := (HNN.out.lt i hi).1; have := HY5.out; omega); have HZ5 : Hid (x5.heap.size ≤ y6.heap.size) := hg.size; clear hg HTT HPP HNN; have HTT := HTTN; clear HTTN; have HPP := HPPN; clear HPPN; have HNN := HNNN; clear HNNN) | (refine wpList_load_blk rfl _ _ rfl w.heap.size 6 (s.said) _ _ rfl HB6.out.box rfl _ Tryz.underlying25 rfl ?_))
  refine (toVotes_any c.said s.said y6 (HR.out.said.below HB6.out.below) HO.out.said).mono ?_
  rintro e x6 ⟨v6, rfl, ho, hb⟩
  have HBB6 : Hid (ToB w x6 (clusA c s) #[.int .i64 c.n, .bool c.chain, .int .i64 c.liars, v3, v4, v5, .slice none 0 0, .slice none 0 0]) := HB6.out.more hb
  have HL6 : Hid (∀ g, v6.ownBlock = some g → g < x6.heap.size) := fun g hg => (ho.lt g hg).2
  have HY6 : Hid (w.heap.size + 1 + 1 < y6.heap.size ∧ y6.heap.size ≤ x6.heap.size) := ⟨HB6.out.far, hb.size⟩
  have HTTN : Hid (OwnT x6 y3.heap.size v3 q3) := HTT.out.below hb
  have HPPN : Hid (OwnPs y4.heap.size x6 v4 q4) := HPP.out.below hb
  have HNNN : Hid (x6.ownsRow y5.heap.size 48 13 v5 c.net.length (flatR letF c.net)) := own_kept HNN.out hb
  have HDD : Hid (x6.ownsRow y6.heap.size 46 4 v6 c.said.length (flatR voteF c.said)) := ho
  clear HTT HPP HNN
  have HTT := HTTN
  clear HTTN
  have HPP := HPPN
  clear HPPN
  have HNN := HNNN
  clear HNNN
  clear ho hb HB6
  have HB6 := HBB6
  clear HBB6
  go_wp2_with (first | (refine wpList_store_cell rfl _ _ _ rfl (w.heap.size + 1 + 1) 6 (v6) rfl rfl _ _ HB6.out.out (by kernel_rfl) (by simp) (own_oneC HDD.out) #[.int .i64 c.n, .bool c.chain, .int .i64 c.liars, v3, v4, v5, v6, .slice none 0 0] rfl ?_; intro y7 hg hk; have HB7 : Hid (ToB w y7 (clusA c s) #[.int .i64 c.n, .bool c.chain, .int .i64 c.liars, v3, v4, v5, v6, .slice none 0 0]) := HB6.out.put hg hk; clear hk HB6; have HTTN : Hid (OwnT y7 y3.heap.size v3 q3) := HTT.out.frs (FrS.of_grown hg (B := fun i => i = (w.heap.size + 1 + 1)) (fun i e => by cases e; rfl)) (fun i hi e => by have := (inTree_ge HTT.out hi).1; have := HY3.out; omega); have HPPN : Hid (OwnPs y4.heap.size y7 v4 q4) := HPP.out.frs (FrS.of_grown hg (B := fun i => i = (w.heap.size + 1 + 1)) (fun i e => by cases e; rfl)) (fun i hi e => by have := (inPeers_ge HPP.out (Or.inl hi)).1; have := HY4.out; omega) (fun x hx i hi e => by have := (inPeers_ge HPP.out (Or.inr ⟨x, hx, hi⟩)).1; have := HY4.out; omega); have HNNN : Hid (y7.ownsRow y5.heap.size 48 13 v5 c.net.length (flatR letF c.net)) := (FrS.of_grown hg (B := fun i => i = (w.heap.size + 1 + 1)) (fun i e => by cases e; rfl)).own HNN.out (fun i hi e => by have := (HNN.out.lt i hi).1; have := HY5.out; omega); have HDDN : Hid (y7.ownsRow y6.heap.size 46 4 v6 c.said.length (flatR voteF c.said)) := (FrS.of_grown hg (B := fun i => i = (w.heap.size + 1 + 1)) (fun i e => by cases e; rfl)).own HDD.out (fun i hi e => by have := (HDD.out.lt i hi).1; have := HY6.out; omega); have HZ6 : Hid (x6.heap.size ≤ y7.heap.size) := hg.size; clear hg HTT HPP HNN HDD; have HTT := HTTN; clear HTTN; have HPP := HPPN; clear HPPN; have HNN := HNNN; clear HNNN; have HDD := HDDN; clear HDDN) | (refine wpList_load_blk rfl _ _ rfl w.heap.size 7 (s.pend) _ _ rfl HB7.out.box rfl _ Tryz.underlying26 rfl ?_))
  refine (toCmds_any c.pend s.pend y7 (HR.out.pend.below HB7.out.below) HO.out.pend.1).mono ?_
  rintro e x7 ⟨v7, rfl, ho, hb⟩
  have HBB7 : Hid (ToB w x7 (clusA c s) #[.int .i64 c.n, .bool c.chain, .int .i64 c.liars, v3, v4, v5, v6, .slice none 0 0]) := HB7.out.more hb
  have HL7 : Hid (∀ g, v7.ownBlock = some g → g < x7.heap.size) := fun g hg => (ho.lt g hg).2
  have HY7 : Hid (w.heap.size + 1 + 1 < y7.heap.size ∧ y7.heap.size ≤ x7.heap.size) := ⟨HB7.out.far, hb.size⟩
  have HTTN : Hid (OwnT x7 y3.heap.size v3 q3) := HTT.out.below hb
  have HPPN : Hid (OwnPs y4.heap.size x7 v4 q4) := HPP.out.below hb
  have HNNN : Hid (x7.ownsRow y5.heap.size 48 13 v5 c.net.length (flatR letF c.net)) := own_kept HNN.out hb
  have HDDN : Hid (x7.ownsRow y6.heap.size 46 4 v6 c.said.length (flatR voteF c.said)) := own_kept HDD.out hb
  have HQQ : Hid (x7.ownsRow y7.heap.size 126 3 v7 c.pend.length (flatR cmdF c.pend)) := ho
  clear HTT HPP HNN HDD
  have HTT := HTTN
  clear HTTN
  have HPP := HPPN
  clear HPPN
  have HNN := HNNN
  clear HNNN
  have HDD := HDDN
  clear HDDN
  clear ho hb HB7
  have HB7 := HBB7
  clear HBB7
  go_wp2_with (first | (refine wpList_store_cell rfl _ _ _ rfl (w.heap.size + 1 + 1) 7 (v7) rfl rfl _ _ HB7.out.out (by kernel_rfl) (by simp) (own_oneC HQQ.out) #[.int .i64 c.n, .bool c.chain, .int .i64 c.liars, v3, v4, v5, v6, v7] rfl ?_; intro y8 hg hk; have HB8 : Hid (ToB w y8 (clusA c s) #[.int .i64 c.n, .bool c.chain, .int .i64 c.liars, v3, v4, v5, v6, v7]) := HB7.out.put hg hk; clear hk HB7; have HTTN : Hid (OwnT y8 y3.heap.size v3 q3) := HTT.out.frs (FrS.of_grown hg (B := fun i => i = (w.heap.size + 1 + 1)) (fun i e => by cases e; rfl)) (fun i hi e => by have := (inTree_ge HTT.out hi).1; have := HY3.out; omega); have HPPN : Hid (OwnPs y4.heap.size y8 v4 q4) := HPP.out.frs (FrS.of_grown hg (B := fun i => i = (w.heap.size + 1 + 1)) (fun i e => by cases e; rfl)) (fun i hi e => by have := (inPeers_ge HPP.out (Or.inl hi)).1; have := HY4.out; omega) (fun x hx i hi e => by have := (inPeers_ge HPP.out (Or.inr ⟨x, hx, hi⟩)).1; have := HY4.out; omega); have HNNN : Hid (y8.ownsRow y5.heap.size 48 13 v5 c.net.length (flatR letF c.net)) := (FrS.of_grown hg (B := fun i => i = (w.heap.size + 1 + 1)) (fun i e => by cases e; rfl)).own HNN.out (fun i hi e => by have := (HNN.out.lt i hi).1; have := HY5.out; omega); have HDDN : Hid (y8.ownsRow y6.heap.size 46 4 v6 c.said.length (flatR voteF c.said)) := (FrS.of_grown hg (B := fun i => i = (w.heap.size + 1 + 1)) (fun i e => by cases e; rfl)).own HDD.out (fun i hi e => by have := (HDD.out.lt i hi).1; have := HY6.out; omega); have HQQN : Hid (y8.ownsRow y7.heap.size 126 3 v7 c.pend.length (flatR cmdF c.pend)) := (FrS.of_grown hg (B := fun i => i = (w.heap.size + 1 + 1)) (fun i e => by cases e; rfl)).own HQQ.out (fun i hi e => by have := (HQQ.out.lt i hi).1; have := HY7.out; omega); have HZ7 : Hid (x7.heap.size ≤ y8.heap.size) := hg.size; clear hg HTT HPP HNN HDD HQQ; have HTT := HTTN; clear HTTN; have HPP := HPPN; clear HPPN; have HNN := HNNN; clear HNNN; have HDD := HDDN; clear HDDN; have HQQ := HQQN; clear HQQN) | (refine wpList_load_row rfl _ _ rfl (w.heap.size + 1 + 1) rfl 43 _ (0, 0) _ HB8.out.out Tryz.underlying43 rfl (by kernel_rfl) ?_) | (refine wpList_store_blk rfl _ _ _ rfl (w.heap.size + 1) #[.int .i64 c.n, .bool c.chain, .int .i64 c.liars, v3, v4, v5, v6, v7] rfl rfl 43 _ HB8.out.zero (by kernel_rfl) rfl (by have t3 := own_oneC HTT.out.row; have t4 := own_oneC HPP.out.row; have t5 := own_oneC HNN.out; have t6 := own_oneC HDD.out; have t7 := own_oneC HQQ.out; simp [show (Value.int .i64 c.n).oneCell' = true from rfl, show (Value.bool c.chain).oneCell' = true from rfl, show (Value.int .i64 c.liars).oneCell' = true from rfl, t3, t4, t5, t6, t7]) ?_; intro z hg hk hz; have HBz : Hid (Below w.heap.size w z ∧ z.heap[w.heap.size + 1]? = some (.cells #[.int .i64 c.n, .bool c.chain, .int .i64 c.liars, v3, v4, v5, v6, v7] 43 (0, 0))) := ⟨HB8.out.below.grown hg HB8.out.below.size (fun k hk => by cases hk; omega), hk⟩; have HFz : Hid (FrS (fun i => i = w.heap.size + 1) y8 z) := FrS.of_grown hg (fun i e => by cases e; rfl); have HSz : Hid (y8.heap.size ≤ z.heap.size) := hg.size; clear hg hk hz))
  refine bodyPost_ret (v := .agg #[.int .i64 c.n, .bool c.chain, .int .i64 c.liars, v3, v4, v5, v6, v7]) (results_cell_row Tryz.results8 _ _ (w.heap.size + 1) 43 _ (0, 0) _ rfl HBz.out.2 Tryz.underlying43 rfl (by kernel_rfl)) rfl ?_
  refine ⟨⟨v3, q3, v4, q4, v5, v6, v7⟩, rfl, ?_, HBz.out.1⟩
  have y3_ := HY3.out
  have y4_ := HY4.out
  have y5_ := HY5.out
  have y6_ := HY6.out
  have y7_ := HY7.out
  have z3_ := HZ3.out
  have z4_ := HZ4.out
  have z5_ := HZ5.out
  have z6_ := HZ6.out
  have z7_ := HZ7.out
  have z8_ := HSz.out
  have h := ownC_of (b0 := y3.heap.size) (b1 := y4.heap.size) (b2 := y5.heap.size) (b3 := y6.heap.size) (b4 := y7.heap.size) (b5 := y8.heap.size) (w := y8) (c := c) (s := ⟨v3, q3, v4, q4, v5, v6, v7⟩) HE3.out HTT.out (fun g hg => by have := HL3.out g hg; omega) HE4.out HPP.out (fun g hg => by have := HL4.out g hg; omega) HNN.out (fun g hg => by have := HL5.out g hg; omega) HDD.out (fun g hg => by have := HL6.out g hg; omega) HQQ.out (fun g hg => by have := HL7.out g hg; omega) (by omega) (by omega) (by omega) (by omega) (by omega) (Nat.le_refl _)
  exact ((h.frs HFz.out (fun i g hi hg e => by have := (h.lim i g hi hg).1; omega)).low (by omega)).wide (by omega) (Nat.le_refl _)

end Go.Proofs.YtcfgfhodbjakoavGreatDoor

namespace Go.Proofs.YtcfgfhodbjakoavGreatDoor
open Go.RowKit Num

/-- a cluster with its marks -/
def cmS (k : Nat) (s : CW) : CW := { s with tree := tmarks k s.tree, peers := pmarks (tnum k s.tree) s.peers }
def cmC (k : Nat) (c : CU) (s : CW) : CU := { c with tree := bks (tmarks k s.tree), peers := pes (pmarks (tnum k s.tree) s.peers), net := lmarks (pnum (tnum k s.tree) s.peers) c.net.length, said := vmarks (pnum (tnum k s.tree) s.peers + 13 * c.net.length) c.said.length, pend := qmarks (pnum (tnum k s.tree) s.peers + 13 * c.net.length + 4 * c.said.length) c.pend.length }
def cnum (k : Nat) (c : CU) (s : CW) : Nat := pnum (tnum k s.tree) s.peers + 13 * c.net.length + 4 * c.said.length + 3 * c.pend.length
theorem pmarks_snd : ∀ (ps : PL) (k : Nat), (pmarks k ps).map Prod.snd = ps.map Prod.snd := by
  intro ps
  induction ps with
  | nil => intro k; rfl
  | cons x ps ih => intro k; simp only [pmarks, List.map_cons, ih]
theorem inPeers_marks {v : Value} {ps : PL} {k g : Nat} : inPeers v (pmarks k ps) g ↔ inPeers v ps g := by
  unfold inPeers
  have e : ∀ (qs : PL), (∃ x ∈ qs, inSix x.2 g) ↔ ∃ x ∈ qs.map Prod.snd, inSix x g := fun qs => ⟨fun ⟨p, hp, h⟩ => ⟨p.2, List.mem_map_of_mem hp, h⟩, fun ⟨x, hx, h⟩ => by obtain ⟨p, hp, rfl⟩ := List.mem_map.1 hx; exact ⟨p, hp, h⟩⟩
  rw [e, e, pmarks_snd]
theorem partC_marks {k : Nat} {s : CW} {i g : Nat} : partC (cmS k s) i g ↔ partC s i g := by
  match i with
  | 0 => exact inTree_marks
  | 1 => exact inPeers_marks
  | 2 => exact Iff.rfl
  | 3 => exact Iff.rfl
  | _ + 4 => exact Iff.rfl
theorem lenPs_mem {l : List PE} {p : PE} (h : p ∈ l) : lenPe p ≤ lenPs l := by
  induction l with
  | nil => cases h
  | cons q l ih =>
    rcases List.mem_cons.1 h with rfl | h
    · simp only [lenPs]; omega
    · have := ih h; simp only [lenPs]; omega
theorem pnum_wt (ps : PL) : ∀ k, pnum k ps ≤ k + 15 * ps.length + 13 * lenPs (pes ps) := by
  induction ps with
  | nil => intro k; simp [pnum]
  | cons x ps ih =>
    intro k
    have := ih (pnum1 k x.1)
    simp only [pnum, pes, List.map_cons, List.length_cons, lenPs] at this ⊢
    unfold pnum1 at this ⊢
    unfold lenPe
    omega
theorem cnum_wt {c : CU} {s : CW} (e0 : bks s.tree = c.tree) (e1 : pes s.peers = c.peers) (k : Nat) : cnum k c s ≤ k + 15 * wtCl c := by
  have h0 := tnum_wt s.tree k
  have h1 := pnum_wt s.peers (tnum k s.tree)
  have h2 : s.peers.length = c.peers.length := by rw [← e1, pes_len]
  rw [e0] at h0
  rw [e1, h2] at h1
  unfold cnum wtCl
  omega
/-- what the marks ask -/
structure mkC (k : Nat) (c : CU) (s : CW) : Prop where
  pos : 0 < k
  num : cnum k c s ≤ 19000000
  ltree : (s.tree.length : Int) ≤ 1048576
  cmds : ∀ p ∈ s.tree, p.1.2.1.length ≤ 1048576
  lpeers : (s.peers.length : Int) ≤ 1048576
  peers : ∀ x ∈ s.peers, sumPe x.1
  net : c.net.length ≤ 1048576
  said : c.said.length ≤ 1048576
  pend : c.pend.length ≤ 1048576
theorem mkC_of {k : Nat} {c : CU} {s : CW} (e0 : bks s.tree = c.tree) (e1 : pes s.peers = c.peers) (hk : 0 < k) (hk2 : k ≤ 1000000) (h : okC c) (hw : wtCl c ≤ 1200000) : mkC k c s := by
  have hn := cnum_wt e0 e1 k
  have hl := h.tree.1
  rw [← e0, bks_len] at hl
  have hp := h.lpeers
  rw [← e1, pes_len] at hp
  have h2 := h.net
  have h3 := h.said
  have h4 := h.pend.1
  refine ⟨hk, by omega, hl, okT_cmds h.tree e0, hp, fun x hx => ?_, by omega, by omega, by omega⟩
  have hm : x.1 ∈ c.peers := by rw [← e1]; exact List.mem_map_of_mem hx
  have hs := h.peers _ hm
  have hle := lenPs_mem hm
  have hw2 : lenPs c.peers ≤ wtCl c := by unfold wtCl; omega
  have a0 := hs.row
  have a1 := hs.cells
  have a2 := hs.early
  have a3 := hs.undos
  have a4 := hs.votes
  have a5 := hs.news
  exact ⟨by omega, by omega, by omega, by omega, by omega, by omega, by omega⟩
set_option maxRecDepth 100000 in
set_option maxHeartbeats 4000000 in
theorem markCluster_set (c : CU) (s : CW) (k lo hi : Nat) (w : World) (h : OwnC lo hi w c s) (hm : mkC k c s) :
    Calls Tryz.prog 14 #[clusV c s, .int .i64 k] w fun e w' => e = .returned (.int .i64 ((cnum k c s : Nat) : Int)) ∧ OwnC lo hi w' (cmC k c s) (cmS k s) ∧ FrS (fun g => ∃ i, i < 5 ∧ partC s i g) w w' := by
  have HC := hid h
  have HM := hid hm
  have hpos := hm.pos
  have hnum := hm.num
  unfold cnum at hnum
  have hlt := hm.ltree
  have hlp := hm.lpeers
  have hl2 := hm.net
  have hl3 := hm.said
  have hl4 := hm.pend
  have hp0 := pnum_le s.peers (tnum k s.tree)
  have hp1 := tnum_le s.tree k
  clear h hm
  obtain ⟨W, hW⟩ : ∃ W, W = w.alloc (.cells (clusA c s) 43) := ⟨_, rfl⟩
  have HFW : Hid (FrS (fun g => ∃ i, i < 5 ∧ partC s i g) w W) := (by rw [hW]; exact FrS.of_below (ba (Below.refl _ _) _) : FrS _ w W)
  have HKW : Hid (W.heap[w.heap.size]? = some (.cells (clusA c s) 43 (0, 0))) := (by rw [hW]; exact heap_alloc_new w _ : W.heap[w.heap.size]? = _)
  have HCW : Hid (OwnC lo hi W c s) := (by rw [hW]; exact HC.out.below (ba (Below.refl _ _) _) : OwnC lo hi W c s)
  have HNB : Hid (∀ i g, i < 5 → partC s i g → g ≠ w.heap.size) := (fun i g hi hg => by have h1 := (HC.out.lim i g hi hg).2; have h2 := HC.out.size; omega : ∀ i g, i < 5 → partC s i g → g ≠ w.heap.size)
  have HT : Hid (OwnT W lo s.treeV s.tree) := HCW.out.tree
  have HP : Hid (OwnPs lo W s.peersV s.peers) := HCW.out.peers
  have HN : Hid (W.ownsRow lo 48 13 s.net c.net.length (flatR letF c.net)) := HCW.out.net
  have HD : Hid (W.ownsRow lo 46 4 s.said c.said.length (flatR voteF c.said)) := HCW.out.said
  have HQ : Hid (W.ownsRow lo 126 3 s.pend c.pend.length (flatR cmdF c.pend)) := HCW.out.pend
  clear HCW
  go_enter Tryz.func14, Tryz.ntmps14
  have a := blk_cell HKW.out 3 s.treeV rfl
  rw [hW] at a
  go_wp2_with fail
  rw [← hW]
  clear hW a
  refine (markBlocks_set s.tree k lo (partC s 0) s.treeV W HT.out (limS_in _ _) hpos (by omega) (by omega) HM.out.cmds).mono ?_
  rintro e x0 ⟨rfl, ho, hg⟩
  have hf : FrS (partC s 0) W x0 := hg
  have HTN : Hid (OwnT x0 lo s.treeV (tmarks k s.tree)) := ho
  have HPN : Hid (OwnPs lo x0 s.peersV s.peers) := HP.out.frs hf (fun g hg hB => by have := HC.out.dis 1 0 g (by omega) (by omega) (Or.inl hg) hB; omega) (fun x hx g hg hB => by have := HC.out.dis 1 0 g (by omega) (by omega) (Or.inr ⟨x, hx, hg⟩) hB; omega)
  have HNN : Hid (x0.ownsRow lo 48 13 s.net c.net.length (flatR letF c.net)) := hf.own HN.out (fun g hg hB => by have := HC.out.dis 2 0 g (by omega) (by omega) hg hB; omega)
  have HDN : Hid (x0.ownsRow lo 46 4 s.said c.said.length (flatR voteF c.said)) := hf.own HD.out (fun g hg hB => by have := HC.out.dis 3 0 g (by omega) (by omega) hg hB; omega)
  have HQN : Hid (x0.ownsRow lo 126 3 s.pend c.pend.length (flatR cmdF c.pend)) := hf.own HQ.out (fun g hg hB => by have := HC.out.dis 4 0 g (by omega) (by omega) hg hB; omega)
  have HFx0 : Hid (FrS (fun g => ∃ i, i < 5 ∧ partC s i g) w x0) := HFW.out.trans (hf.mono (fun g hg => ⟨0, by omega, hg⟩))
  have HKx0 : Hid (x0.heap[w.heap.size]? = some (.cells (clusA c s) 43 (0, 0))) := (hf.block _ (Array.getElem?_eq_some_iff.1 HKW.out).1 (fun hB => HNB.out 0 _ (by omega) hB rfl)).trans HKW.out
  clear ho hg hf HFW HKW HT HP HN HD HQ
  have HT := HTN
  clear HTN
  have HP := HPN
  clear HPN
  have HN := HNN
  clear HNN
  have HD := HDN
  clear HDN
  have HQ := HQN
  clear HQN
  have a := blk_cell HKx0.out 4 s.peersV rfl
  go_wp2_with fail
  clear a
  refine (markPeers_own s.peers (tnum k s.tree) lo (partC s 1) s.peersV x0 HP.out ⟨fun g hg => Or.inl hg, fun x hx g hg => Or.inr ⟨x, hx, hg⟩⟩ (by omega) hlp HM.out.peers).mono ?_
  rintro e x1 ⟨rfl, ho, hg⟩
  have hf : FrS (partC s 1) x0 x1 := hg
  have HTN : Hid (OwnT x1 lo s.treeV (tmarks k s.tree)) := HT.out.frs hf (fun g hg hB => by have := HC.out.dis 0 1 g (by omega) (by omega) (inTree_marks.1 hg) hB; omega)
  have HPN : Hid (OwnPs lo x1 s.peersV (pmarks (tnum k s.tree) s.peers)) := ho
  have HNN : Hid (x1.ownsRow lo 48 13 s.net c.net.length (flatR letF c.net)) := hf.own HN.out (fun g hg hB => by have := HC.out.dis 2 1 g (by omega) (by omega) hg hB; omega)
  have HDN : Hid (x1.ownsRow lo 46 4 s.said c.said.length (flatR voteF c.said)) := hf.own HD.out (fun g hg hB => by have := HC.out.dis 3 1 g (by omega) (by omega) hg hB; omega)
  have HQN : Hid (x1.ownsRow lo 126 3 s.pend c.pend.length (flatR cmdF c.pend)) := hf.own HQ.out (fun g hg hB => by have := HC.out.dis 4 1 g (by omega) (by omega) hg hB; omega)
  have HFx1 : Hid (FrS (fun g => ∃ i, i < 5 ∧ partC s i g) w x1) := HFx0.out.trans (hf.mono (fun g hg => ⟨1, by omega, hg⟩))
  have HKx1 : Hid (x1.heap[w.heap.size]? = some (.cells (clusA c s) 43 (0, 0))) := (hf.block _ (Array.getElem?_eq_some_iff.1 HKx0.out).1 (fun hB => HNB.out 1 _ (by omega) hB rfl)).trans HKx0.out
  clear ho hg hf HFx0 HKx0 HT HP HN HD HQ
  have HT := HTN
  clear HTN
  have HP := HPN
  clear HPN
  have HN := HNN
  clear HNN
  have HD := HDN
  clear HDN
  have HQ := HQN
  clear HQN
  have a := blk_cell HKx1.out 5 s.net rfl
  go_wp2_with fail
  clear a
  refine (markLetters_own c.net.length (pnum (tnum k s.tree) s.peers) s.net lo _ x1 HN.out (by omega) hl2).mono ?_
  rintro e x2 ⟨rfl, ho, hg⟩
  have hf : FrS (partC s 2) x1 x2 := FrS.of_grown hg (fun g e => e)
  have HTN : Hid (OwnT x2 lo s.treeV (tmarks k s.tree)) := HT.out.frs hf (fun g hg hB => by have := HC.out.dis 0 2 g (by omega) (by omega) (inTree_marks.1 hg) hB; omega)
  have HPN : Hid (OwnPs lo x2 s.peersV (pmarks (tnum k s.tree) s.peers)) := HP.out.frs hf (fun g hg hB => by have := HC.out.dis 1 2 g (by omega) (by omega) (Or.inl hg) hB; omega) (fun x hx g hg hB => by have := HC.out.dis 1 2 g (by omega) (by omega) ((inPeers_marks (k := tnum k s.tree)).1 (Or.inr ⟨x, hx, hg⟩)) hB; omega)
  have HNN : Hid (x2.ownsRow lo 48 13 s.net c.net.length (icells (pnum (tnum k s.tree) s.peers) (c.net.length * 13))) := ho
  have HDN : Hid (x2.ownsRow lo 46 4 s.said c.said.length (flatR voteF c.said)) := hf.own HD.out (fun g hg hB => by have := HC.out.dis 3 2 g (by omega) (by omega) hg hB; omega)
  have HQN : Hid (x2.ownsRow lo 126 3 s.pend c.pend.length (flatR cmdF c.pend)) := hf.own HQ.out (fun g hg hB => by have := HC.out.dis 4 2 g (by omega) (by omega) hg hB; omega)
  have HFx2 : Hid (FrS (fun g => ∃ i, i < 5 ∧ partC s i g) w x2) := HFx1.out.trans (hf.mono (fun g hg => ⟨2, by omega, hg⟩))
  have HKx2 : Hid (x2.heap[w.heap.size]? = some (.cells (clusA c s) 43 (0, 0))) := (hf.block _ (Array.getElem?_eq_some_iff.1 HKx1.out).1 (fun hB => HNB.out 2 _ (by omega) hB rfl)).trans HKx1.out
  clear ho hg hf HFx1 HKx1 HT HP HN HD HQ
  have HT := HTN
  clear HTN
  have HP := HPN
  clear HPN
  have HN := HNN
  clear HNN
  have HD := HDN
  clear HDN
  have HQ := HQN
  clear HQN
  have a := blk_cell HKx2.out 6 s.said rfl
  go_wp2_with fail
  clear a
  refine (markVotes_own c.said.length (pnum (tnum k s.tree) s.peers + 13 * c.net.length) s.said lo _ x2 HD.out (by omega) hl3).mono ?_
  rintro e x3 ⟨rfl, ho, hg⟩
  have hf : FrS (partC s 3) x2 x3 := FrS.of_grown hg (fun g e => e)
  have HTN : Hid (OwnT x3 lo s.treeV (tmarks k s.tree)) := HT.out.frs hf (fun g hg hB => by have := HC.out.dis 0 3 g (by omega) (by omega) (inTree_marks.1 hg) hB; omega)
  have HPN : Hid (OwnPs lo x3 s.peersV (pmarks (tnum k s.tree) s.peers)) := HP.out.frs hf (fun g hg hB => by have := HC.out.dis 1 3 g (by omega) (by omega) (Or.inl hg) hB; omega) (fun x hx g hg hB => by have := HC.out.dis 1 3 g (by omega) (by omega) ((inPeers_marks (k := tnum k s.tree)).1 (Or.inr ⟨x, hx, hg⟩)) hB; omega)
  have HNN : Hid (x3.ownsRow lo 48 13 s.net c.net.length (icells (pnum (tnum k s.tree) s.peers) (c.net.length * 13))) := hf.own HN.out (fun g hg hB => by have := HC.out.dis 2 3 g (by omega) (by omega) hg hB; omega)
  have HDN : Hid (x3.ownsRow lo 46 4 s.said c.said.length (icells (pnum (tnum k s.tree) s.peers + 13 * c.net.length) (c.said.length * 4))) := ho
  have HQN : Hid (x3.ownsRow lo 126 3 s.pend c.pend.length (flatR cmdF c.pend)) := hf.own HQ.out (fun g hg hB => by have := HC.out.dis 4 3 g (by omega) (by omega) hg hB; omega)
  have HFx3 : Hid (FrS (fun g => ∃ i, i < 5 ∧ partC s i g) w x3) := HFx2.out.trans (hf.mono (fun g hg => ⟨3, by omega, hg⟩))
  have HKx3 : Hid (x3.heap[w.heap.size]? = some (.cells (clusA c s) 43 (0, 0))) := (hf.block _ (Array.getElem?_eq_some_iff.1 HKx2.out).1 (fun hB => HNB.out 3 _ (by omega) hB rfl)).trans HKx2.out
  clear ho hg hf HFx2 HKx2 HT HP HN HD HQ
  have HT := HTN
  clear HTN
  have HP := HPN
  clear HPN
  have HN := HNN
  clear HNN
  have HD := HDN
  clear HDN
  have HQ := HQN
  clear HQN
  have a := blk_cell HKx3.out 7 s.pend rfl
  go_wp2_with fail
  clear a
  refine (markCmds_set c.pend.length (pnum (tnum k s.tree) s.peers + 13 * c.net.length + 4 * c.said.length) s.pend lo _ x3 HQ.out (by omega) (by omega) hl4).mono ?_
  rintro e x4 ⟨rfl, ho, hg⟩
  have hf : FrS (partC s 4) x3 x4 := FrS.of_grown hg (fun g e => e)
  have HTN : Hid (OwnT x4 lo s.treeV (tmarks k s.tree)) := HT.out.frs hf (fun g hg hB => by have := HC.out.dis 0 4 g (by omega) (by omega) (inTree_marks.1 hg) hB; omega)
  have HPN : Hid (OwnPs lo x4 s.peersV (pmarks (tnum k s.tree) s.peers)) := HP.out.frs hf (fun g hg hB => by have := HC.out.dis 1 4 g (by omega) (by omega) (Or.inl hg) hB; omega) (fun x hx g hg hB => by have := HC.out.dis 1 4 g (by omega) (by omega) ((inPeers_marks (k := tnum k s.tree)).1 (Or.inr ⟨x, hx, hg⟩)) hB; omega)
  have HNN : Hid (x4.ownsRow lo 48 13 s.net c.net.length (icells (pnum (tnum k s.tree) s.peers) (c.net.length * 13))) := hf.own HN.out (fun g hg hB => by have := HC.out.dis 2 4 g (by omega) (by omega) hg hB; omega)
  have HDN : Hid (x4.ownsRow lo 46 4 s.said c.said.length (icells (pnum (tnum k s.tree) s.peers + 13 * c.net.length) (c.said.length * 4))) := hf.own HD.out (fun g hg hB => by have := HC.out.dis 3 4 g (by omega) (by omega) hg hB; omega)
  have HQN : Hid (x4.ownsRow lo 126 3 s.pend c.pend.length (flatR cmdF (qmarks (pnum (tnum k s.tree) s.peers + 13 * c.net.length + 4 * c.said.length) c.pend.length))) := ho
  have HFx4 : Hid (FrS (fun g => ∃ i, i < 5 ∧ partC s i g) w x4) := HFx3.out.trans (hf.mono (fun g hg => ⟨4, by omega, hg⟩))
  have HKx4 : Hid (x4.heap[w.heap.size]? = some (.cells (clusA c s) 43 (0, 0))) := (hf.block _ (Array.getElem?_eq_some_iff.1 HKx3.out).1 (fun hB => HNB.out 4 _ (by omega) hB rfl)).trans HKx3.out
  clear ho hg hf HFx3 HKx3 HT HP HN HD HQ
  have HT := HTN
  clear HTN
  have HP := HPN
  clear HPN
  have HN := HNN
  clear HNN
  have HD := HDN
  clear HDN
  have HQ := HQN
  clear HQN
  go_wp2
  go_ret
  refine ⟨rfl, ⟨rfl, HT.out, rfl, HP.out, ?_, ?_, ?_, fun i j g hi hj h1 h2 => HC.out.dis i j g hi hj (partC_marks.1 h1) (partC_marks.1 h2), fun i g hi hg => HC.out.lim i g hi (partC_marks.1 hg), Nat.le_trans HC.out.size HFx4.out.size⟩, HFx4.out⟩
  · show x4.ownsRow lo 48 13 s.net (lmarks _ _).length (flatR letF (lmarks _ _))
    rw [lmarks_len, lmarks_flat]; exact HN.out
  · show x4.ownsRow lo 46 4 s.said (vmarks _ _).length (flatR voteF (vmarks _ _))
    rw [vmarks_len, vmarks_flat]; exact HD.out
  · show x4.ownsRow lo 126 3 s.pend (qmarks _ _).length (flatR cmdF (qmarks _ _))
    rw [qmarks_len]; exact HQ.out
theorem markCluster_own (c : CU) (s : CW) (k lo hi : Nat) (w : World) (h : OwnC lo hi w c s) (hm : mkC k c s) :
    Calls Tryz.prog 14 #[clusV c s, .int .i64 k] w fun e w' => e = .returned (.int .i64 ((cnum k c s : Nat) : Int)) ∧ OwnC lo hi w' (cmC k c s) (cmS k s) ∧ Fr lo hi w w' :=
  (markCluster_set c s k lo hi w h hm).mono fun _ _ hq => ⟨hq.1, hq.2.1, hq.2.2.fr (fun g hg => by obtain ⟨i, hi, hg⟩ := hg; exact h.lim i g hi hg)⟩

set_option maxRecDepth 100000 in
set_option maxHeartbeats 4000000 in
theorem heldCluster_own (c : CU) (s : CW) (k lo hi : Nat) (w : World) (h : OwnC lo hi w (cmC k c s) (cmS k s)) (hm : mkC k c s) (c' : CU) :
    Calls Tryz.prog 15 #[clusV c' s, .int .i64 k] w fun e w' => e = .returned (.int .i64 ((cnum k c s : Nat) : Int)) ∧ Below w.heap.size w w' := by
  have HC := hid h
  have HM := hid hm
  have hpos := hm.pos
  have hnum := hm.num
  unfold cnum at hnum
  have hlt := hm.ltree
  have hlp := hm.lpeers
  have hl2 := hm.net
  have hl3 := hm.said
  have hl4 := hm.pend
  have hp0 := pnum_le s.peers (tnum k s.tree)
  have hp1 := tnum_le s.tree k
  have HN : Hid (w.ownsRow lo 48 13 s.net c.net.length (icells (pnum (tnum k s.tree) s.peers) (c.net.length * 13))) := (by have := HC.out.net; rw [show (cmC k c s).net = lmarks (pnum (tnum k s.tree) s.peers) c.net.length from rfl, lmarks_len, lmarks_flat] at this; exact this)
  have HD : Hid (w.ownsRow lo 46 4 s.said c.said.length (icells (pnum (tnum k s.tree) s.peers + 13 * c.net.length) (c.said.length * 4))) := (by have := HC.out.said; rw [show (cmC k c s).said = vmarks (pnum (tnum k s.tree) s.peers + 13 * c.net.length) c.said.length from rfl, vmarks_len, vmarks_flat] at this; exact this)
  clear h hm
  obtain ⟨W, hW⟩ : ∃ W, W = w.alloc (.cells (clusA c' s) 43) := ⟨_, rfl⟩
  have HBW : Hid (Below w.heap.size w W) := (by rw [hW]; exact ba (Below.refl _ _) _ : Below w.heap.size w W)
  have HKW : Hid (W.heap[w.heap.size]? = some (.cells (clusA c' s) 43 (0, 0))) := (by rw [hW]; exact heap_alloc_new w _ : W.heap[w.heap.size]? = _)
  go_enter Tryz.func15, Tryz.ntmps15
  have a := blk_cell HKW.out 3 s.treeV rfl
  rw [hW] at a
  go_wp2_with fail
  rw [← hW]
  clear hW a
  refine (heldBlocks_big s.tree k s.treeV W ((HC.out.tree.below HBW.out).read.q) hpos (by omega) (by omega) HM.out.cmds).mono ?_
  rintro e x0 ⟨rfl, hb⟩
  have HBx0 : Hid (Below w.heap.size w x0) := bt HBW.out hb
  have HKx0 : Hid (x0.heap[w.heap.size]? = some (.cells (clusA c' s) 43 (0, 0))) := (hb.block _ (Array.getElem?_eq_some_iff.1 HKW.out).1).trans HKW.out
  clear hb HBW HKW
  have hnn0 : ¬ (((tnum k s.tree : Nat) : Int) < 0) := by omega
  have a := blk_cell HKx0.out 4 s.peersV rfl
  go_wp2_with fail
  clear a
  refine (heldPeers_own s.peers (tnum k s.tree) lo s.peersV x0 (HC.out.peers.below HBx0.out) (by omega) hlp HM.out.peers).mono ?_
  rintro e x1 ⟨rfl, hb⟩
  have HBx1 : Hid (Below w.heap.size w x1) := bt HBx0.out hb
  have HKx1 : Hid (x1.heap[w.heap.size]? = some (.cells (clusA c' s) 43 (0, 0))) := (hb.block _ (Array.getElem?_eq_some_iff.1 HKx0.out).1).trans HKx0.out
  clear hb HBx0 HKx0
  have hnn1 : ¬ (((pnum (tnum k s.tree) s.peers : Nat) : Int) < 0) := by omega
  have a := blk_cell HKx1.out 5 s.net rfl
  go_wp2_with fail
  clear a
  refine (heldLetters_own c.net.length (pnum (tnum k s.tree) s.peers) s.net lo x1 (own_kept HN.out HBx1.out) (by omega) hl2).mono ?_
  rintro e x_ ⟨rfl, hw⟩
  obtain rfl := hw.symm
  clear hw
  have hnn2 : ¬ (((pnum (tnum k s.tree) s.peers + 13 * c.net.length : Nat) : Int) < 0) := by omega
  have a := blk_cell HKx1.out 6 s.said rfl
  go_wp2_with fail
  clear a
  refine (heldVotes_own c.said.length (pnum (tnum k s.tree) s.peers + 13 * c.net.length) s.said lo x1 (own_kept HD.out HBx1.out) (by omega) hl3).mono ?_
  rintro e x_ ⟨rfl, hw⟩
  obtain rfl := hw.symm
  clear hw
  have hnn3 : ¬ (((pnum (tnum k s.tree) s.peers + 13 * c.net.length + 4 * c.said.length : Nat) : Int) < 0) := by omega
  have a := blk_cell HKx1.out 7 s.pend rfl
  go_wp2_with fail
  clear a
  refine (heldCmds_big c.pend.length (pnum (tnum k s.tree) s.peers + 13 * c.net.length + 4 * c.said.length) s.pend x1 ((rows_of_own cmdF_len HC.out.pend).below HBx1.out) (by omega) (by omega) hl4).mono ?_
  rintro e x4 ⟨rfl, hb⟩
  have HBx4 : Hid (Below w.heap.size w x4) := bt HBx1.out hb
  have HKx4 : Hid (x4.heap[w.heap.size]? = some (.cells (clusA c' s) 43 (0, 0))) := (hb.block _ (Array.getElem?_eq_some_iff.1 HKx1.out).1).trans HKx1.out
  clear hb HBx1 HKx1
  have hnn4 : ¬ (((pnum (tnum k s.tree) s.peers + 13 * c.net.length + 4 * c.said.length + 3 * c.pend.length : Nat) : Int) < 0) := by omega
  go_wp2
  go_ret
  exact ⟨rfl, HBx4.out⟩

end Go.Proofs.YtcfgfhodbjakoavGreatDoor

namespace Go.Proofs.YtcfgfhodbjakoavGreatDoor
open Go.RowKit Num

def zeroC : Array Value := #[.int .i64 0, .bool false, .int .i64 0, .slice none 0 0, .slice none 0 0, .slice none 0 0, .slice none 0 0, .slice none 0 0]
theorem clusA_one {lo hi : Nat} {w : World} {c : CU} {s : CW} (h : OwnC lo hi w c s) : (clusA c s).all (·.oneCell') = true := by
  have t3 := own_oneC h.tree.row
  have t4 := own_oneC h.peers.row
  have t5 := own_oneC h.net
  have t6 := own_oneC h.said
  have t7 := own_oneC h.pend
  simp [clusA, show (Value.int .i64 c.n).oneCell' = true from rfl, show (Value.bool c.chain).oneCell' = true from rfl, show (Value.int .i64 c.liars).oneCell' = true from rfl, t3, t4, t5, t6, t7]
/-- a function of a cluster and a number: what it answers, in memory of its own -/
def Con (f : FuncId) (F : CU → Int → CU × Bool) : Prop := ∀ (c : CU) (s : CW) (lo hi : Nat) (k : Int) (w : World) (_ : OwnC lo hi w c s) (_ : okC c) (_ : goodC c) (_ : wtCl c ≤ 1048576) (_ : (Lit.int .i64 k).wf = true), Calls Tryz.prog f #[clusV c s, .int .i64 k] w fun e w' => ∃ s', e = .returned (.tuple #[clusV (F c k).1 s', .bool (F c k).2]) ∧ OwnC w.heap.size w'.heap.size w' (F c k).1 s' ∧ Below w.heap.size w w'
/-- what it answers is not too great -/
def Fit (F : CU → Int → CU × Bool) : Prop := ∀ (c : CU) (k : Int), okC c → wtCl c ≤ 1048576 → okC (F c k).1 ∧ wtCl (F c k).1 ≤ 1200000
/-- .. of a cluster and letters -/
def ConL (f : FuncId) (F : CU → List LT → CU × Bool) : Prop := ∀ (c : CU) (s : CW) (lo hi : Nat) (l : List LT) (lv : Value) (lb : Nat) (w : World) (_ : OwnC lo hi w c s) (_ : okC c) (_ : goodC c) (_ : wtCl c ≤ 1048576) (_ : w.ownsRow lb 48 13 lv l.length (flatR letF l)) (_ : (l.length : Int) ≤ 1048576) (_ : ∀ x ∈ l, wfL x), Calls Tryz.prog f #[clusV c s, lv] w fun e w' => ∃ s', e = .returned (.tuple #[clusV (F c l).1 s', .bool (F c l).2]) ∧ OwnC w.heap.size w'.heap.size w' (F c l).1 s' ∧ Below w.heap.size w w'
def FitL (F : CU → List LT → CU × Bool) : Prop := ∀ (c : CU) (l : List LT), okC c → wtCl c ≤ 1048576 → okC (F c l).1 ∧ wtCl (F c l).1 ≤ 1200000
/-- .. that answers a bool -/
def ConB (f : FuncId) (F : CU → Int → Bool) : Prop := ∀ (c : CU) (s : CW) (lo hi : Nat) (k : Int) (w : World) (_ : OwnC lo hi w c s) (_ : okC c) (_ : goodC c) (_ : wtCl c ≤ 1048576) (_ : (Lit.int .i64 k).wf = true), Calls Tryz.prog f #[clusV c s, .int .i64 k] w fun e w' => e = .returned (.bool (F c k)) ∧ Below w.heap.size w w'
/-- .. of three numbers, the second one a bool -/
def Con3 (f : FuncId) (F : Int → Bool → Int → CU × Bool) : Prop := ∀ (n : Int) (b : Bool) (l : Int) (w : World) (_ : (Lit.int .i64 n).wf = true) (_ : (Lit.int .i64 l).wf = true), Calls Tryz.prog f #[.int .i64 n, .bool b, .int .i64 l] w fun e w' => ∃ s', e = .returned (.tuple #[clusV (F n b l).1 s', .bool (F n b l).2]) ∧ OwnC w.heap.size w'.heap.size w' (F n b l).1 s' ∧ Below w.heap.size w w'
def Fit3 (F : Int → Bool → Int → CU × Bool) : Prop := ∀ n b l, okC (F n b l).1 ∧ wtCl (F n b l).1 ≤ 1200000

end Go.Proofs.YtcfgfhodbjakoavGreatDoor

namespace Go.Proofs.YtcfgfhodbjakoavGreatDoor
open Go.RowKit Num

/-- nothing is appended -/
theorem run_append_nil {P : Program} {t ty e : TypeId} {i : TypeInfo} (ht : P.underlying t = some (.slice e)) (hi : P.info? e = some i) (w : World) {base : Nat} {v : Value} {n : Nat} {xs : List Value} {m : Nat} (hown : w.ownsRow base e m v n xs) (c : Nat) :
    (Builtin.append_ #[t, t] ty #[v, .slice none 0 c]).run P w = .ok v w := by
  obtain ⟨hl, ⟨rfl, h0⟩ | ⟨g, cap, cur, rfl, hb, hh, hn, hc, hs, htk⟩⟩ := hown
  · simp [Builtin.append_, run_underlying ht, sizeOf, typeInfo, hi, Builtin.lenOf, Builtin.firstCells]
  · have : n ≤ cap := by omega
    simp [Builtin.append_, run_underlying ht, sizeOf, typeInfo, hi, Builtin.lenOf, Builtin.firstCells, storeCells, this]

/-- 'append(out, list...)': out is the call's own, list can be read -/
theorem wpList_append_a {α : Type} {f : α → List Value} {m : Nat} (w : World) {ops : Array Oper} {rest : List Oper} {o : Oper} {a : Act} {Q : Exit → Act → World → Prop} (hgd : o.guard = none) (s x : Operand) (t : TypeId)
    (ho : o.op = .call { callee := .builtin .append, args := #[s, x], argTypes := #[t, t] })
    (base : Nat) (e : TypeId) (i : TypeInfo) (z : Value) (bytes : Nat) (ht : Tryz.prog.underlying t = some (.slice e)) (hi : Tryz.prog.info? e = some i) (hz : i.zero = some z) (hsize : i.size = m) (hby : i.bytes = bytes) (hzs : z.cells.size = m) (hsz : 0 < m)
    (hm : ∀ y, (f y).length = m) (hone : ∀ y, ∀ u ∈ f y, u.oneCell' = true)
    (v : Value) (xs : List α) (hs : a.eval s = v) (hown : w.ownsRow base e m v xs.length (flatR f xs))
    (src : Value) (cs : List α) (hx : a.eval x = src) (hsrc : RowsR w src m f cs) (h63 : xs.length + cs.length ≤ maxLen) (hbytes : (xs.length + cs.length) * bytes ≤ 140737488355328) (hbase : base ≤ w.heap.size)
    (h : ∀ v' w', w'.ownsRow base e m v' (xs ++ cs).length (flatR f (xs ++ cs)) → w.grownBy w' v.ownBlock → wpList Tryz.prog ops Q rest (a.put o.dst v') w') : wpList Tryz.prog ops Q (o :: rest) a w := by
  obtain ⟨ad, cap, rfl, hr⟩ := hsrc
  cases ad with
  | none =>
    have h0 : cs.length = 0 := by
      rcases Nat.eq_zero_or_pos cs.length with h | h
      · exact h
      · obtain ⟨_, _, e, _⟩ := hr h; cases e
    obtain rfl : cs = [] := List.eq_nil_of_length_eq_zero h0
    refine wpList_plain hgd fun K' hK' => ?_
    have hrun := run_append_nil (ty := o.type) ht hi w hown cap
    unfold Oper.wp execOp
    simp only [ho, resolve, invoke, builtin, Sem.run_bind, Sem.run_pure, Result.andThen_ok, List.map_toArray, List.map_cons, List.map_nil, hs, hx, List.length_nil, hrun]
    exact hK' _ _ (h v w (by simpa using hown) ⟨rfl, rfl, rfl, Nat.le_refl _, fun _ _ _ => rfl⟩)
  | some ad =>
    refine wpList_append_own _ hgd s x t ho base e i z m bytes ht hi hz hsize hby hzs hsz v _ _ hs hown ad cs.length cap (flatR f cs) hx (flatR_len hm cs) ?_ (fun u hu => ?_) h63 hbytes hbase fun v' w' h1 h2 _ => h v' w' (by rw [List.length_append, flatR_append]; exact h1) h2
    · intro j u hj
      have hjl : j < cs.length * m := by
        rw [← flatR_len hm]
        exact (List.getElem?_eq_some_iff.1 hj).1
      have h0 : 0 < cs.length := by
        rcases Nat.eq_zero_or_pos cs.length with h | h
        · rw [h] at hjl; omega
        · exact h
      obtain ⟨g, off, rfl0, hg, hc⟩ := hr h0
      cases rfl0
      have hp : (⟨g, off, none⟩ : Addr).add j = ⟨g, off + j, none⟩ := by unfold Addr.add; split <;> simp_all
      have hd : j / m < cs.length := Nat.div_lt_of_lt_mul (by rw [Nat.mul_comm]; exact hjl)
      have hr : j % m < m := Nat.mod_lt _ hsz
      have e : j = j / m * m + j % m := by rw [Nat.mul_comm]; exact (Nat.div_add_mod j m).symm
      have hf := flatR_at hm cs (j / m) hd (j % m) hr
      rw [← e] at hf
      rw [hp, show off + j = off + j / m * m + j % m by omega, hc (j / m) hd (j % m) hr, ← hf, hj]
    · obtain ⟨y, _, hy⟩ := List.mem_flatMap.1 hu
      exact hone y u hy

theorem intF_one_a (n : Int) : ∀ u ∈ intF n, u.oneCell' = true := by intro u hu; simp [intF] at hu; subst hu; rfl
theorem undoF_one (n : UN) : ∀ u ∈ undoF n, u.oneCell' = true := by intro u hu; simp [undoF] at hu; rcases hu with h | h | h <;> subst h <;> rfl
theorem letF_one (n : LT) : ∀ u ∈ letF n, u.oneCell' = true := by
  intro u hu; simp [letF] at hu
  rcases hu with h | h | h | h | h | h | h | h | h | h | h | h | h <;> subst h <;> rfl
/-- an account's cells -/
def cellF (c : ByteArray × Int) : List Value := [.string c.1, .int .i64 c.2]
theorem cellF_len (c : ByteArray × Int) : (cellF c).length = 2 := rfl
theorem cellF_one (c : ByteArray × Int) : ∀ u ∈ cellF c, u.oneCell' = true := by intro u hu; simp [cellF] at hu; rcases hu with h | h <;> subst h <;> rfl
theorem flat_cellF (cs : CL) : flatR cellF cs = flat cs := rfl
theorem rows_cells {w : World} {v : Value} {cs : CL} (h : Cells w v cs) : RowsR w v 2 cellF cs := by
  obtain ⟨a, cap, rfl, hr⟩ := h
  refine ⟨a, cap, rfl, fun h0 => ?_⟩
  obtain ⟨g, off, rfl, hg, hc⟩ := hr h0
  refine ⟨g, off, rfl, hg, fun i hi j hj => ?_⟩
  have := hc i hi
  match j, hj with
  | 0, _ => exact this.1
  | 1, _ => exact this.2
/-- memory that was made, and a row that grew in it -/
theorem made_below {y x : World} {o : Obj} (hg : (y.alloc o).grownBy x (some y.heap.size)) : Below y.heap.size y x :=
  ((Below.refl y.heap.size y).alloc (Nat.le_refl _) o).grown hg (by simp) (fun k hk => by cases hk; exact Nat.le_refl _)

end Go.Proofs.YtcfgfhodbjakoavGreatDoor

namespace Go.Proofs.YtcfgfhodbjakoavGreatDoor
open Go.RowKit Num

/-- while a replica is copied: the box of the one that came in, the box of the answer, the box of the copy -/
structure CopyS (w y : World) (p : PE) (s t : PV) : Prop where
  below : Below w.heap.size w y
  box : y.heap[w.heap.size]? = some (.cells (peerA p s) 124 (0, 0))
  zero : y.heap[w.heap.size + 1]? = some (.cells zeroA 124 (0, 0))
  out : y.heap[w.heap.size + 1 + 1]? = some (.cells (peerA p t) 124 (0, 0))
theorem CopyS.lt {w y : World} {p : PE} {s t : PV} (h : CopyS w y p s t) : w.heap.size + 1 + 1 < y.heap.size := (Array.getElem?_eq_some_iff.1 h.out).1
theorem CopyS.more {w y x : World} {p : PE} {s t : PV} (h : CopyS w y p s t) (hb : Below y.heap.size y x) : CopyS w x p s t := by
  have := h.lt
  exact ⟨bt h.below hb, (hb.block _ (by omega)).trans h.box, (hb.block _ (by omega)).trans h.zero, (hb.block _ (by omega)).trans h.out⟩
theorem CopyS.put {w y x : World} {p : PE} {s t t' : PV} (h : CopyS w y p s t) (hg : y.grownBy x (some (w.heap.size + 1 + 1))) (hk : x.heap[w.heap.size + 1 + 1]? = some (.cells (peerA p t') 124 (0, 0))) : CopyS w x p s t' := by
  have := h.lt
  exact ⟨h.below.grown hg h.below.size (fun k hk => by cases hk; omega), (hg.block _ (by omega) (fun e => by have := Option.some.inj e; omega)).trans h.box, (hg.block _ (by omega) (fun e => by have := Option.some.inj e; omega)).trans h.zero, hk⟩
theorem peerA_oneR {w : World} {p : PE} {s : PV} (h : PeerR w p s) : (peerA p s).all (·.oneCell') = true := by
  obtain ⟨sr, sc, se, su, sv, sn⟩ := s
  obtain ⟨_, _, e1, -⟩ := h.row
  obtain ⟨_, _, e2, -⟩ := h.cells
  obtain ⟨_, _, e3, -⟩ := h.early
  obtain ⟨_, _, e4, -⟩ := h.undos
  obtain ⟨_, _, e5, -⟩ := h.votes
  obtain ⟨_, _, e6, -⟩ := h.news
  change sr = _ at e1
  change sc = _ at e2
  change se = _ at e3
  change su = _ at e4
  change sv = _ at e5
  change sn = _ at e6
  subst e1 e2 e3 e4 e5 e6
  unfold peerA
  simp [Value.oneCell']

set_option maxRecDepth 100000 in
set_option maxHeartbeats 8000000 in
theorem copy_s (p : PE) (s : PV) (w : World) (hR : PeerR w p s) (hs : smallPe p) :
    Calls Tryz.prog 79 #[peerV p s] w fun e w' => ∃ s', e = .returned (peerV p s') ∧ OwnP w.heap.size w' p s' ∧ Below w.heap.size w w' := by
  have HR := hid hR
  have HS := hid hs
  have hz1 := hs.row
  have hz2 := hs.cells
  have hz3 := hs.early
  have hz4 := hs.undos
  have hz5 := hs.votes
  have hz6 := hs.news
  obtain ⟨ii, ihi, ihz0, ihz1, ihz2⟩ := info_parts infoIntL
  obtain ⟨ci, chi, chz0, chz1, chz2⟩ := info_parts infoCell
  obtain ⟨ui, uhi, uhz0, uhz1, uhz2⟩ := info_parts infoUndo
  obtain ⟨vi, vhi, vhz0, vhz1, vhz2⟩ := info_parts infoVote
  obtain ⟨li, lhi, lhz0, lhz1, lhz2⟩ := info_parts infoLetter
  have HONE : Hid ((peerA p s).all (·.oneCell') = true) := peerA_oneR hR
  clear hR hs
  obtain ⟨W, hW⟩ : ∃ W, W = ((w.alloc (.cells (peerA p s) 124)).alloc (.cells zeroA 124)).alloc (.cells zeroA 124) := ⟨_, rfl⟩
  have HC : Hid (Below w.heap.size w W ∧ W.heap[w.heap.size]? = some (.cells (peerA p s) 124 (0, 0)) ∧ W.heap[w.heap.size + 1]? = some (.cells zeroA 124 (0, 0)) ∧ W.heap[w.heap.size + 1 + 1]? = some (.cells zeroA 124 (0, 0))) := by
    rw [hW]; exact ⟨ba (ba (ba (Below.refl _ _) _) _) _, alloc3 w _ _ _⟩
  unfold zeroA at hW
  go_enter Tryz.func79, Tryz.ntmps79
  go_wp2_with (first
    | (rw [← hW]; clear hW; refine wpList_store_blk rfl _ _ _ rfl (w.heap.size + 1 + 1) (peerA p s) rfl rfl 124 zeroA HC.out.2.2.2 (by kernel_rfl) rfl HONE.out ?_; intro y0 hg hk hz; have HS0 : Hid (CopyS w y0 p s s) := ⟨HC.out.1.grown hg HC.out.1.size (fun k hk => by cases hk; omega), (hg.block _ (Array.getElem?_eq_some_iff.1 HC.out.2.1).1 (fun e => by have := Option.some.inj e; omega)).trans HC.out.2.1, (hg.block _ (Array.getElem?_eq_some_iff.1 HC.out.2.2.1).1 (fun e => by have := Option.some.inj e; omega)).trans HC.out.2.2.1, hk⟩; have HQ0 : Hid (w.heap.size + 1 + 1 < y0.heap.size) := HS0.out.lt; clear hg hk hz HC; have c14 := blk_cell (HS0.out.more ((Below.refl y0.heap.size y0).alloc (Nat.le_refl _) (.cells #[] 3))).box 14 s.row rfl)
    | (refine wpList_load_row rfl _ _ rfl w.heap.size rfl 124 _ (0, 0) _ (alloc2 w _ _).1 Tryz.underlying124 rfl (by kernel_rfl) ?_)
    | (at_builtin; refine wpList_append_a _ rfl _ _ 109 rfl y0.heap.size 3 ii _ 8 Tryz.underlying109 ihi ihz0 ihz1 ihz2 rfl (by decide) intF_len intF_one_a _ [] rfl (own_new y0 _ _) _ p.row rfl (((HR.out.below HS0.out.below).row).below ((Below.refl y0.heap.size y0).alloc (Nat.le_refl _) _)) (by simp; unfold maxLen; omega) (by simp; omega) (by simp) ?_; intro v0 x0 ho hg; have hbx : Below y0.heap.size y0 x0 := made_below hg; have HX0 : Hid (CopyS w x0 p s ⟨s.row, s.cells, s.early, s.undos, s.votes, s.news⟩) := HS0.out.more hbx; have HI0a : Hid (In y0.heap.size x0.heap.size x0 3 1 v0 p.row.length (flatR intF p.row)) := ⟨ho, fun g hg => (ho.lt g hg).2⟩; have HL0a : Hid (y0.heap.size ≤ x0.heap.size) := hbx.size; obtain ⟨va0, vc0, rfl, -⟩ := own_form ho; clear ho hg hbx HS0 c14)
    | (refine wpList_store_cell rfl _ _ _ rfl (w.heap.size + 1 + 1) 14 (.slice va0 p.row.length vc0) rfl rfl _ _ HX0.out.out (by kernel_rfl) (by simp [peerA]) rfl (peerA p ⟨.slice va0 p.row.length vc0, s.cells, s.early, s.undos, s.votes, s.news⟩) rfl ?_; intro y1 hg hk; have HS1 : Hid (CopyS w y1 p s ⟨.slice va0 p.row.length vc0, s.cells, s.early, s.undos, s.votes, s.news⟩) := HX0.out.put hg hk; have HI0 : Hid (In y0.heap.size x0.heap.size y1 3 1 (.slice va0 p.row.length vc0) p.row.length (flatR intF p.row)) := HI0a.out.far hg (Or.inl (by have := HQ0.out; omega)); have HM0 : Hid (y0.heap.size ≤ x0.heap.size ∧ x0.heap.size ≤ y1.heap.size) := ⟨HL0a.out, hg.size⟩; have HQ1 : Hid (w.heap.size + 1 + 1 < y1.heap.size) := HS1.out.lt; clear hg hk HX0 HL0a HI0a; have c15 := blk_cell (HS1.out.more ((Below.refl y1.heap.size y1).alloc (Nat.le_refl _) (.cells #[] 195))).box 15 s.cells rfl)
    | (at_builtin; refine wpList_append_a _ rfl _ _ 121 rfl y1.heap.size 195 ci _ 24 Tryz.underlying121 chi chz0 chz1 chz2 rfl (by decide) cellF_len cellF_one _ [] rfl (own_new y1 _ _) _ p.cells rfl ((rows_cells (HR.out.below HS1.out.below).cells).below ((Below.refl y1.heap.size y1).alloc (Nat.le_refl _) _)) (by simp; unfold maxLen; omega) (by simp; omega) (by simp) ?_; intro v1 x1 ho hg; have hbx : Below y1.heap.size y1 x1 := made_below hg; have HX1 : Hid (CopyS w x1 p s ⟨.slice va0 p.row.length vc0, s.cells, s.early, s.undos, s.votes, s.news⟩) := HS1.out.more hbx; have HI1a : Hid (In y1.heap.size x1.heap.size x1 195 2 v1 p.cells.length (flatR cellF p.cells)) := ⟨ho, fun g hg => (ho.lt g hg).2⟩; have HI0a : Hid (In y0.heap.size x0.heap.size x1 3 1 (.slice va0 p.row.length vc0) p.row.length (flatR intF p.row)) := HI0.out.below hbx; have HL1a : Hid (y1.heap.size ≤ x1.heap.size) := hbx.size; obtain ⟨va1, vc1, rfl, -⟩ := own_form ho; clear ho hg hbx HS1 c15 HI0)
    | (refine wpList_store_cell rfl _ _ _ rfl (w.heap.size + 1 + 1) 15 (.slice va1 p.cells.length vc1) rfl rfl _ _ HX1.out.out (by kernel_rfl) (by simp [peerA]) rfl (peerA p ⟨.slice va0 p.row.length vc0, .slice va1 p.cells.length vc1, s.early, s.undos, s.votes, s.news⟩) rfl ?_; intro y2 hg hk; have HS2 : Hid (CopyS w y2 p s ⟨.slice va0 p.row.length vc0, .slice va1 p.cells.length vc1, s.early, s.undos, s.votes, s.news⟩) := HX1.out.put hg hk; have HI0 : Hid (In y0.heap.size x0.heap.size y2 3 1 (.slice va0 p.row.length vc0) p.row.length (flatR intF p.row)) := HI0a.out.far hg (Or.inl (by have := HQ0.out; omega)); have HI1 : Hid (In y1.heap.size x1.heap.size y2 195 2 (.slice va1 p.cells.length vc1) p.cells.length (flatR cellF p.cells)) := HI1a.out.far hg (Or.inl (by have := HQ1.out; omega)); have HM1 : Hid (y1.heap.size ≤ x1.heap.size ∧ x1.heap.size ≤ y2.heap.size) := ⟨HL1a.out, hg.size⟩; have HQ2 : Hid (w.heap.size + 1 + 1 < y2.heap.size) := HS2.out.lt; clear hg hk HX1 HL1a HI0a HI1a; have c16 := blk_cell (HS2.out.more ((Below.refl y2.heap.size y2).alloc (Nat.le_refl _) (.cells #[] 3))).box 16 s.early rfl)
    | (at_builtin; refine wpList_append_a _ rfl _ _ 109 rfl y2.heap.size 3 ii _ 8 Tryz.underlying109 ihi ihz0 ihz1 ihz2 rfl (by decide) intF_len intF_one_a _ [] rfl (own_new y2 _ _) _ p.early rfl (((HR.out.below HS2.out.below).early).below ((Below.refl y2.heap.size y2).alloc (Nat.le_refl _) _)) (by simp; unfold maxLen; omega) (by simp; omega) (by simp) ?_; intro v2 x2 ho hg; have hbx : Below y2.heap.size y2 x2 := made_below hg; have HX2 : Hid (CopyS w x2 p s ⟨.slice va0 p.row.length vc0, .slice va1 p.cells.length vc1, s.early, s.undos, s.votes, s.news⟩) := HS2.out.more hbx; have HI2a : Hid (In y2.heap.size x2.heap.size x2 3 1 v2 p.early.length (flatR intF p.early)) := ⟨ho, fun g hg => (ho.lt g hg).2⟩; have HI0a : Hid (In y0.heap.size x0.heap.size x2 3 1 (.slice va0 p.row.length vc0) p.row.length (flatR intF p.row)) := HI0.out.below hbx; have HI1a : Hid (In y1.heap.size x1.heap.size x2 195 2 (.slice va1 p.cells.length vc1) p.cells.length (flatR cellF p.cells)) := HI1.out.below hbx; have HL2a : Hid (y2.heap.size ≤ x2.heap.size) := hbx.size; obtain ⟨va2, vc2, rfl, -⟩ := own_form ho; clear ho hg hbx HS2 c16 HI0 HI1)
    | (refine wpList_store_cell rfl _ _ _ rfl (w.heap.size + 1 + 1) 16 (.slice va2 p.early.length vc2) rfl rfl _ _ HX2.out.out (by kernel_rfl) (by simp [peerA]) rfl (peerA p ⟨.slice va0 p.row.length vc0, .slice va1 p.cells.length vc1, .slice va2 p.early.length vc2, s.undos, s.votes, s.news⟩) rfl ?_; intro y3 hg hk; have HS3 : Hid (CopyS w y3 p s ⟨.slice va0 p.row.length vc0, .slice va1 p.cells.length vc1, .slice va2 p.early.length vc2, s.undos, s.votes, s.news⟩) := HX2.out.put hg hk; have HI0 : Hid (In y0.heap.size x0.heap.size y3 3 1 (.slice va0 p.row.length vc0) p.row.length (flatR intF p.row)) := HI0a.out.far hg (Or.inl (by have := HQ0.out; omega)); have HI1 : Hid (In y1.heap.size x1.heap.size y3 195 2 (.slice va1 p.cells.length vc1) p.cells.length (flatR cellF p.cells)) := HI1a.out.far hg (Or.inl (by have := HQ1.out; omega)); have HI2 : Hid (In y2.heap.size x2.heap.size y3 3 1 (.slice va2 p.early.length vc2) p.early.length (flatR intF p.early)) := HI2a.out.far hg (Or.inl (by have := HQ2.out; omega)); have HM2 : Hid (y2.heap.size ≤ x2.heap.size ∧ x2.heap.size ≤ y3.heap.size) := ⟨HL2a.out, hg.size⟩; have HQ3 : Hid (w.heap.size + 1 + 1 < y3.heap.size) := HS3.out.lt; clear hg hk HX2 HL2a HI0a HI1a HI2a; have c17 := blk_cell (HS3.out.more ((Below.refl y3.heap.size y3).alloc (Nat.le_refl _) (.cells #[] 197))).box 17 s.undos rfl)
    | (at_builtin; refine wpList_append_a _ rfl _ _ 122 rfl y3.heap.size 197 ui _ 32 Tryz.underlying122 uhi uhz0 uhz1 uhz2 rfl (by decide) undoF_len undoF_one _ [] rfl (own_new y3 _ _) _ p.undos rfl (((HR.out.below HS3.out.below).undos).below ((Below.refl y3.heap.size y3).alloc (Nat.le_refl _) _)) (by simp; unfold maxLen; omega) (by simp; omega) (by simp) ?_; intro v3 x3 ho hg; have hbx : Below y3.heap.size y3 x3 := made_below hg; have HX3 : Hid (CopyS w x3 p s ⟨.slice va0 p.row.length vc0, .slice va1 p.cells.length vc1, .slice va2 p.early.length vc2, s.undos, s.votes, s.news⟩) := HS3.out.more hbx; have HI3a : Hid (In y3.heap.size x3.heap.size x3 197 3 v3 p.undos.length (flatR undoF p.undos)) := ⟨ho, fun g hg => (ho.lt g hg).2⟩; have HI0a : Hid (In y0.heap.size x0.heap.size x3 3 1 (.slice va0 p.row.length vc0) p.row.length (flatR intF p.row)) := HI0.out.below hbx; have HI1a : Hid (In y1.heap.size x1.heap.size x3 195 2 (.slice va1 p.cells.length vc1) p.cells.length (flatR cellF p.cells)) := HI1.out.below hbx; have HI2a : Hid (In y2.heap.size x2.heap.size x3 3 1 (.slice va2 p.early.length vc2) p.early.length (flatR intF p.early)) := HI2.out.below hbx; have HL3a : Hid (y3.heap.size ≤ x3.heap.size) := hbx.size; obtain ⟨va3, vc3, rfl, -⟩ := own_form ho; clear ho hg hbx HS3 c17 HI0 HI1 HI2)
    | (refine wpList_store_cell rfl _ _ _ rfl (w.heap.size + 1 + 1) 17 (.slice va3 p.undos.length vc3) rfl rfl _ _ HX3.out.out (by kernel_rfl) (by simp [peerA]) rfl (peerA p ⟨.slice va0 p.row.length vc0, .slice va1 p.cells.length vc1, .slice va2 p.early.length vc2, .slice va3 p.undos.length vc3, s.votes, s.news⟩) rfl ?_; intro y4 hg hk; have HS4 : Hid (CopyS w y4 p s ⟨.slice va0 p.row.length vc0, .slice va1 p.cells.length vc1, .slice va2 p.early.length vc2, .slice va3 p.undos.length vc3, s.votes, s.news⟩) := HX3.out.put hg hk; have HI0 : Hid (In y0.heap.size x0.heap.size y4 3 1 (.slice va0 p.row.length vc0) p.row.length (flatR intF p.row)) := HI0a.out.far hg (Or.inl (by have := HQ0.out; omega)); have HI1 : Hid (In y1.heap.size x1.heap.size y4 195 2 (.slice va1 p.cells.length vc1) p.cells.length (flatR cellF p.cells)) := HI1a.out.far hg (Or.inl (by have := HQ1.out; omega)); have HI2 : Hid (In y2.heap.size x2.heap.size y4 3 1 (.slice va2 p.early.length vc2) p.early.length (flatR intF p.early)) := HI2a.out.far hg (Or.inl (by have := HQ2.out; omega)); have HI3 : Hid (In y3.heap.size x3.heap.size y4 197 3 (.slice va3 p.undos.length vc3) p.undos.length (flatR undoF p.undos)) := HI3a.out.far hg (Or.inl (by have := HQ3.out; omega)); have HM3 : Hid (y3.heap.size ≤ x3.heap.size ∧ x3.heap.size ≤ y4.heap.size) := ⟨HL3a.out, hg.size⟩; have HQ4 : Hid (w.heap.size + 1 + 1 < y4.heap.size) := HS4.out.lt; clear hg hk HX3 HL3a HI0a HI1a HI2a HI3a; have c18 := blk_cell (HS4.out.more ((Below.refl y4.heap.size y4).alloc (Nat.le_refl _) (.cells #[] 46))).box 18 s.votes rfl)
    | (at_builtin; refine wpList_append_a _ rfl _ _ 40 rfl y4.heap.size 46 vi _ 32 Tryz.underlying40 vhi vhz0 vhz1 vhz2 rfl (by decide) voteF_len voteF_one _ [] rfl (own_new y4 _ _) _ p.votes rfl (((HR.out.below HS4.out.below).votes).below ((Below.refl y4.heap.size y4).alloc (Nat.le_refl _) _)) (by simp; unfold maxLen; omega) (by simp; omega) (by simp) ?_; intro v4 x4 ho hg; have hbx : Below y4.heap.size y4 x4 := made_below hg; have HX4 : Hid (CopyS w x4 p s ⟨.slice va0 p.row.length vc0, .slice va1 p.cells.length vc1, .slice va2 p.early.length vc2, .slice va3 p.undos.length vc3, s.votes, s.news⟩) := HS4.out.more hbx; have HI4a : Hid (In y4.heap.size x4.heap.size x4 46 4 v4 p.votes.length (flatR voteF p.votes)) := ⟨ho, fun g hg => (ho.lt g hg).2⟩; have HI0a : Hid (In y0.heap.size x0.heap.size x4 3 1 (.slice va0 p.row.length vc0) p.row.length (flatR intF p.row)) := HI0.out.below hbx; have HI1a : Hid (In y1.heap.size x1.heap.size x4 195 2 (.slice va1 p.cells.length vc1) p.cells.length (flatR cellF p.cells)) := HI1.out.below hbx; have HI2a : Hid (In y2.heap.size x2.heap.size x4 3 1 (.slice va2 p.early.length vc2) p.early.length (flatR intF p.early)) := HI2.out.below hbx; have HI3a : Hid (In y3.heap.size x3.heap.size x4 197 3 (.slice va3 p.undos.length vc3) p.undos.length (flatR undoF p.undos)) := HI3.out.below hbx; have HL4a : Hid (y4.heap.size ≤ x4.heap.size) := hbx.size; obtain ⟨va4, vc4, rfl, -⟩ := own_form ho; clear ho hg hbx HS4 c18 HI0 HI1 HI2 HI3)
    | (refine wpList_store_cell rfl _ _ _ rfl (w.heap.size + 1 + 1) 18 (.slice va4 p.votes.length vc4) rfl rfl _ _ HX4.out.out (by kernel_rfl) (by simp [peerA]) rfl (peerA p ⟨.slice va0 p.row.length vc0, .slice va1 p.cells.length vc1, .slice va2 p.early.length vc2, .slice va3 p.undos.length vc3, .slice va4 p.votes.length vc4, s.news⟩) rfl ?_; intro y5 hg hk; have HS5 : Hid (CopyS w y5 p s ⟨.slice va0 p.row.length vc0, .slice va1 p.cells.length vc1, .slice va2 p.early.length vc2, .slice va3 p.undos.length vc3, .slice va4 p.votes.length vc4, s.news⟩) := HX4.out.put hg hk; have HI0 : Hid (In y0.heap.size x0.heap.size y5 3 1 (.slice va0 p.row.length vc0) p.row.length (flatR intF p.row)) := HI0a.out.far hg (Or.inl (by have := HQ0.out; omega)); have HI1 : Hid (In y1.heap.size x1.heap.size y5 195 2 (.slice va1 p.cells.length vc1) p.cells.length (flatR cellF p.cells)) := HI1a.out.far hg (Or.inl (by have := HQ1.out; omega)); have HI2 : Hid (In y2.heap.size x2.heap.size y5 3 1 (.slice va2 p.early.length vc2) p.early.length (flatR intF p.early)) := HI2a.out.far hg (Or.inl (by have := HQ2.out; omega)); have HI3 : Hid (In y3.heap.size x3.heap.size y5 197 3 (.slice va3 p.undos.length vc3) p.undos.length (flatR undoF p.undos)) := HI3a.out.far hg (Or.inl (by have := HQ3.out; omega)); have HI4 : Hid (In y4.heap.size x4.heap.size y5 46 4 (.slice va4 p.votes.length vc4) p.votes.length (flatR voteF p.votes)) := HI4a.out.far hg (Or.inl (by have := HQ4.out; omega)); have HM4 : Hid (y4.heap.size ≤ x4.heap.size ∧ x4.heap.size ≤ y5.heap.size) := ⟨HL4a.out, hg.size⟩; have HQ5 : Hid (w.heap.size + 1 + 1 < y5.heap.size) := HS5.out.lt; clear hg hk HX4 HL4a HI0a HI1a HI2a HI3a HI4a; have c19 := blk_cell (HS5.out.more ((Below.refl y5.heap.size y5).alloc (Nat.le_refl _) (.cells #[] 48))).box 19 s.news rfl)
    | (at_builtin; refine wpList_append_a _ rfl _ _ 39 rfl y5.heap.size 48 li _ 104 Tryz.underlying39 lhi lhz0 lhz1 lhz2 rfl (by decide) letF_len letF_one _ [] rfl (own_new y5 _ _) _ p.news rfl (((HR.out.below HS5.out.below).news).below ((Below.refl y5.heap.size y5).alloc (Nat.le_refl _) _)) (by simp; unfold maxLen; omega) (by simp; omega) (by simp) ?_; intro v5 x5 ho hg; have hbx : Below y5.heap.size y5 x5 := made_below hg; have HX5 : Hid (CopyS w x5 p s ⟨.slice va0 p.row.length vc0, .slice va1 p.cells.length vc1, .slice va2 p.early.length vc2, .slice va3 p.undos.length vc3, .slice va4 p.votes.length vc4, s.news⟩) := HS5.out.more hbx; have HI5a : Hid (In y5.heap.size x5.heap.size x5 48 13 v5 p.news.length (flatR letF p.news)) := ⟨ho, fun g hg => (ho.lt g hg).2⟩; have HI0a : Hid (In y0.heap.size x0.heap.size x5 3 1 (.slice va0 p.row.length vc0) p.row.length (flatR intF p.row)) := HI0.out.below hbx; have HI1a : Hid (In y1.heap.size x1.heap.size x5 195 2 (.slice va1 p.cells.length vc1) p.cells.length (flatR cellF p.cells)) := HI1.out.below hbx; have HI2a : Hid (In y2.heap.size x2.heap.size x5 3 1 (.slice va2 p.early.length vc2) p.early.length (flatR intF p.early)) := HI2.out.below hbx; have HI3a : Hid (In y3.heap.size x3.heap.size x5 197 3 (.slice va3 p.undos.length vc3) p.undos.length (flatR undoF p.undos)) := HI3.out.below hbx; have HI4a : Hid (In y4.heap.size x4.heap.size x5 46 4 (.slice va4 p.votes.length vc4) p.votes.length (flatR voteF p.votes)) := HI4.out.below hbx; have HL5a : Hid (y5.heap.size ≤ x5.heap.size) := hbx.size; obtain ⟨va5, vc5, rfl, -⟩ := own_form ho; clear ho hg hbx HS5 c19 HI0 HI1 HI2 HI3 HI4)
    | (refine wpList_store_cell rfl _ _ _ rfl (w.heap.size + 1 + 1) 19 (.slice va5 p.news.length vc5) rfl rfl _ _ HX5.out.out (by kernel_rfl) (by simp [peerA]) rfl (peerA p ⟨.slice va0 p.row.length vc0, .slice va1 p.cells.length vc1, .slice va2 p.early.length vc2, .slice va3 p.undos.length vc3, .slice va4 p.votes.length vc4, .slice va5 p.news.length vc5⟩) rfl ?_; intro y6 hg hk; have HS6 : Hid (CopyS w y6 p s ⟨.slice va0 p.row.length vc0, .slice va1 p.cells.length vc1, .slice va2 p.early.length vc2, .slice va3 p.undos.length vc3, .slice va4 p.votes.length vc4, .slice va5 p.news.length vc5⟩) := HX5.out.put hg hk; have HI0 : Hid (In y0.heap.size x0.heap.size y6 3 1 (.slice va0 p.row.length vc0) p.row.length (flatR intF p.row)) := HI0a.out.far hg (Or.inl (by have := HQ0.out; omega)); have HI1 : Hid (In y1.heap.size x1.heap.size y6 195 2 (.slice va1 p.cells.length vc1) p.cells.length (flatR cellF p.cells)) := HI1a.out.far hg (Or.inl (by have := HQ1.out; omega)); have HI2 : Hid (In y2.heap.size x2.heap.size y6 3 1 (.slice va2 p.early.length vc2) p.early.length (flatR intF p.early)) := HI2a.out.far hg (Or.inl (by have := HQ2.out; omega)); have HI3 : Hid (In y3.heap.size x3.heap.size y6 197 3 (.slice va3 p.undos.length vc3) p.undos.length (flatR undoF p.undos)) := HI3a.out.far hg (Or.inl (by have := HQ3.out; omega)); have HI4 : Hid (In y4.heap.size x4.heap.size y6 46 4 (.slice va4 p.votes.length vc4) p.votes.length (flatR voteF p.votes)) := HI4a.out.far hg (Or.inl (by have := HQ4.out; omega)); have HI5 : Hid (In y5.heap.size x5.heap.size y6 48 13 (.slice va5 p.news.length vc5) p.news.length (flatR letF p.news)) := HI5a.out.far hg (Or.inl (by have := HQ5.out; omega)); have HM5 : Hid (y5.heap.size ≤ x5.heap.size ∧ x5.heap.size ≤ y6.heap.size) := ⟨HL5a.out, hg.size⟩; have HQ6 : Hid (w.heap.size + 1 + 1 < y6.heap.size) := HS6.out.lt; clear hg hk HX5 HL5a HI0a HI1a HI2a HI3a HI4a HI5a) | (refine wpList_load_row rfl _ _ rfl (w.heap.size + 1 + 1) rfl 124 _ (0, 0) _ HS6.out.out Tryz.underlying124 rfl (by kernel_rfl) ?_) | (refine wpList_store_blk rfl _ _ _ rfl (w.heap.size + 1) (peerA p ⟨.slice va0 p.row.length vc0, .slice va1 p.cells.length vc1, .slice va2 p.early.length vc2, .slice va3 p.undos.length vc3, .slice va4 p.votes.length vc4, .slice va5 p.news.length vc5⟩) rfl rfl 124 zeroA HS6.out.zero (by kernel_rfl) rfl (by have h := HONE.out; unfold peerA at h ⊢; simp [Value.oneCell'] at h ⊢) ?_; intro z hg hk hz; have HBz : Hid (Below w.heap.size w z) := HS6.out.below.grown hg HS6.out.below.size (fun k hk => by cases hk; omega); have HKz : Hid (z.heap[w.heap.size + 1]? = Option.some (.cells (peerA p ⟨.slice va0 p.row.length vc0, .slice va1 p.cells.length vc1, .slice va2 p.early.length vc2, .slice va3 p.undos.length vc3, .slice va4 p.votes.length vc4, .slice va5 p.news.length vc5⟩) 124 (0, 0))) := hk; have HMz : Hid (y6.heap.size ≤ z.heap.size) := hg.size; have HI0z : Hid (In y0.heap.size x0.heap.size z 3 1 (.slice va0 p.row.length vc0) p.row.length (flatR intF p.row)) := HI0.out.far hg (Or.inl (by have := HQ0.out; omega)); have HI1z : Hid (In y1.heap.size x1.heap.size z 195 2 (.slice va1 p.cells.length vc1) p.cells.length (flatR cellF p.cells)) := HI1.out.far hg (Or.inl (by have := HQ1.out; omega)); have HI2z : Hid (In y2.heap.size x2.heap.size z 3 1 (.slice va2 p.early.length vc2) p.early.length (flatR intF p.early)) := HI2.out.far hg (Or.inl (by have := HQ2.out; omega)); have HI3z : Hid (In y3.heap.size x3.heap.size z 197 3 (.slice va3 p.undos.length vc3) p.undos.length (flatR undoF p.undos)) := HI3.out.far hg (Or.inl (by have := HQ3.out; omega)); have HI4z : Hid (In y4.heap.size x4.heap.size z 46 4 (.slice va4 p.votes.length vc4) p.votes.length (flatR voteF p.votes)) := HI4.out.far hg (Or.inl (by have := HQ4.out; omega)); have HI5z : Hid (In y5.heap.size x5.heap.size z 48 13 (.slice va5 p.news.length vc5) p.news.length (flatR letF p.news)) := HI5.out.far hg (Or.inl (by have := HQ5.out; omega)); clear hg hk hz HI0 HI1 HI2 HI3 HI4 HI5))
  refine bodyPost_ret (v := .agg (peerA p ⟨.slice va0 p.row.length vc0, .slice va1 p.cells.length vc1, .slice va2 p.early.length vc2, .slice va3 p.undos.length vc3, .slice va4 p.votes.length vc4, .slice va5 p.news.length vc5⟩)) (results_cell_row Tryz.results79 _ _ (w.heap.size + 1) 124 _ (0, 0) _ rfl HKz.out Tryz.underlying124 rfl (by kernel_rfl)) rfl ?_
  refine ⟨_, rfl, ⟨x0.heap.size, x1.heap.size, x2.heap.size, x3.heap.size, x4.heap.size, x5.heap.size, ?_, ?_, ?_, ?_, ?_, ?_, ?_⟩, HBz.out⟩
  · have := HM0.out; have := HM1.out; have := HM2.out; have := HM3.out; have := HM4.out; have := HM5.out; have := HMz.out; have := HQ0.out; omega
  · exact ⟨own_base HI0z.out.1 (by have := HQ0.out; exact (by omega)), HI0z.out.2⟩
  · exact ⟨own_base HI1z.out.1 (by have := HQ0.out; have := HM0.out; exact (by omega)), HI1z.out.2⟩
  · exact ⟨own_base HI2z.out.1 (by have := HQ0.out; have := HM1.out; exact (by omega)), HI2z.out.2⟩
  · exact ⟨own_base HI3z.out.1 (by have := HQ0.out; have := HM2.out; exact (by omega)), HI3z.out.2⟩
  · exact ⟨own_base HI4z.out.1 (by have := HQ0.out; have := HM3.out; exact (by omega)), HI4z.out.2⟩
  · exact ⟨own_base HI5z.out.1 (by have := HQ0.out; have := HM4.out; exact (by omega)), HI5z.out.2⟩

end Go.Proofs.YtcfgfhodbjakoavGreatDoor

namespace Go.Proofs.YtcfgfhodbjakoavGreatDoor
open Go.RowKit Num

/-- whether it may give a vote of this Phase and View -/
def mayB (p : PE) (phase view : Int) : Bool := decide (p.last.2.1 < view) || (decide (p.last.2.1 = view) && decide (p.last.1 < phase))
/-- .. in a View of its own -/
def enterP (p : PE) (view : Int) : PE := if view > p.view ∧ view ≤ 900 then { p with view := view, votes := [], news := [] } else p
/-- .. that gave a vote -/
def votedP (p : PE) (phase view block : Int) : PE := { p with last := (phase, view, block, p.id) }
theorem voted_small {p : PE} (h : smallPe p) (phase view block : Int) : smallPe (votedP p phase view block) := ⟨h.row, h.cells, h.early, h.undos, h.votes, h.news, h.kcells, h.kundos⟩
theorem enter_small {p : PE} (h : smallPe p) (view : Int) : smallPe (enterP p view) := by
  unfold enterP
  split
  · exact ⟨h.row, h.cells, h.early, h.undos, by simp, by simp, h.kcells, h.kundos⟩
  · exact h
theorem enter_len (p : PE) (view : Int) : lenPe (enterP p view) ≤ lenPe p := by
  unfold enterP
  split
  · unfold lenPe; simp; omega
  · exact Nat.le_refl _

theorem enter_sum {p : PE} (h : sumPe p) (view : Int) : sumPe (enterP p view) := by
  have hl := enter_len p view
  unfold enterP at hl ⊢
  split
  · rename_i hc
    rw [if_pos hc] at hl
    exact ⟨Nat.le_trans hl h.1, h.2.1, h.2.2.1, h.2.2.2.1, h.2.2.2.2.1, by simp, by simp⟩
  · exact h


/-- three boxes: of the one that came in, of the answer, and one more -/
structure Bx3 (w y : World) (N : Nat) (A Z O : Array Value) : Prop where
  below : Below w.heap.size w y
  box : y.heap[w.heap.size]? = some (.cells A 124 (0, 0))
  zero : y.heap[w.heap.size + 1]? = some (.cells Z 124 (0, 0))
  out : y.heap[N]? = some (.cells O 124 (0, 0))
  far : w.heap.size + 1 < N
theorem Bx3.lt {w y : World} {N : Nat} {A Z O : Array Value} (h : Bx3 w y N A Z O) : N < y.heap.size := (Array.getElem?_eq_some_iff.1 h.out).1
theorem Bx3.more {w y x : World} {N : Nat} {A Z O : Array Value} (h : Bx3 w y N A Z O) (hb : Below y.heap.size y x) : Bx3 w x N A Z O := by
  have := h.lt
  have := h.far
  exact ⟨bt h.below hb, (hb.block _ (by omega)).trans h.box, (hb.block _ (by omega)).trans h.zero, (hb.block _ (by omega)).trans h.out, h.far⟩
theorem Bx3.put {w y x : World} {N : Nat} {A Z O O' : Array Value} (h : Bx3 w y N A Z O) (hg : y.grownBy x (some N)) (hk : x.heap[N]? = some (.cells O' 124 (0, 0))) : Bx3 w x N A Z O' := by
  have := h.lt
  have := h.far
  exact ⟨h.below.grown hg h.below.size (fun k hk => by cases hk; omega), (hg.block _ (by omega) (fun e => by have := Option.some.inj e; omega)).trans h.box, (hg.block _ (by omega) (fun e => by have := Option.some.inj e; omega)).trans h.zero, hk, h.far⟩


end Go.Proofs.YtcfgfhodbjakoavGreatDoor

namespace Go.Proofs.YtcfgfhodbjakoavGreatDoor
open Go.RowKit Num

theorem exec_load_blk {P : Program} {op : Oper} {a : Act} {w : World} (ty : TypeId) (x : Operand) (ho : op.op = .load ty x) (g : Nat) (hx : a.eval x = .pointer (some ⟨g, 0, none⟩)) (t : TypeId) (cs : Array Value) (fr : Nat × Nat) (d : TypeDesc) (hg : w.heap[g]? = some (.cells cs t fr))
    (hu : P.underlying ty = some d) (hd : (match d with | .struct _ | .array _ _ => true | _ => false) = true) (hi : (P.info? ty).map (·.size) = some cs.size) : (execOp a.eval op).run P w = .ok (.value (.agg cs)) w := by
  unfold execOp
  simp only [ho, hx, Instr.loadAt, Instr.sureAddr, Sem.run_bind, Sem.run_pure, Result.andThen_ok, run_loadVar_row w g t ty cs fr d hg hu hd hi]
theorem results_cells2 {P : Program} {fn : Func} {p q : Tmp} {ty tz : TypeId} (h : fn.results = #[.cell p ty, .cell q tz]) (tmps : Array Value) (w : World) (g : Nat) (t : TypeId) (cs : Array Value) (fr : Nat × Nat) (d : TypeDesc) (g' : Nat) (t' : TypeId) (cs' : Array Value) (fr' : Nat × Nat) (d' : TypeDesc)
    (hp : tmps.getD p undef = .pointer (some ⟨g, 0, none⟩)) (hg : w.heap[g]? = some (.cells cs t fr)) (hu : P.underlying ty = some d) (hd : (match d with | .struct _ | .array _ _ => true | _ => false) = true) (hi : (P.info? ty).map (·.size) = some cs.size)
    (hq : tmps.getD q undef = .pointer (some ⟨g', 0, none⟩)) (hg' : w.heap[g']? = some (.cells cs' t' fr')) (hu' : P.underlying tz = some d') (hd' : (match d' with | .struct _ | .array _ _ => true | _ => false) = true) (hi' : (P.info? tz).map (·.size) = some cs'.size) :
    (results fn tmps).run P w = .ok (.tuple #[.agg cs, .agg cs']) w := by
  have hp' : tmps[p]?.getD undef = .pointer (some ⟨g, 0, none⟩) := by simpa using hp
  have hq' : tmps[q]?.getD undef = .pointer (some ⟨g', 0, none⟩) := by simpa using hq
  simp [results, h, hp', hq', asAddr, run_loadVar_row w g t ty cs fr d hg hu hd hi, run_loadVar_row w g' t' tz cs' fr' d' hg' hu' hd' hi']


end Go.Proofs.YtcfgfhodbjakoavGreatDoor
