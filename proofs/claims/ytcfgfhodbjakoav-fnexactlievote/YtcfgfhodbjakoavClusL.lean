/-
  The contracts of the laws' own helpers over clusters: how great one is, its copy, two held against each other. (Made by gcl15.py.)
-/
import Derived.Test.YtcfgfhodbjakoavClusX
import Derived.Test.YtcfgfhodbjakoavBlkE
import Derived.Test.YtcfgfhodbjakoavBlkTS
namespace Go.Proofs.Ytcfgfhodbjakoav
open Go.RowKit Num

/-- what szCluster tells -/
def SzC (c : CU) (left z : Int) : Prop := z = -1 ∨ (0 ≤ z ∧ z + (wtCl c : Int) ≤ left ∧ okC c)
theorem own_oneC {w : World} {base m n : Nat} {e : TypeId} {v : Value} {xs : List Value} (h : w.ownsRow base e m v n xs) : v.oneCell' = true := by
  obtain ⟨a, cap, rfl, _⟩ := own_form h
  rfl
/-- one cell of a block, loaded -/
theorem wpList_load_blk {P : Program} {ops : Array Oper} {rest : List Oper} {op : Oper} {a : Act} {w : World} {Q : Exit → Act → World → Prop} (hgd : op.guard = none) (ty : TypeId) (x : Operand) (ho : op.op = .load ty x) (g o : Nat) (u : Value) (t : TypeId) (cs : Array Value) (hx : a.eval x = .pointer (some ⟨g, o, none⟩))
    (hg : w.heap[g]? = some (.cells cs t (0, 0))) (hu : cs[o]? = some u) (d : TypeDesc) (ht : P.underlying ty = some d) (hd : d.isRow = false)
    (h : wpList P ops Q rest (a.put op.dst u) w) : wpList P ops Q (op :: rest) a w := by
  refine wpList_plain hgd fun K hK => ?_
  have hcell : w.cell? ⟨g, o, none⟩ = some u := blk_cell hg o u hu
  have hagg : (isAgg ty).run P w = .ok false w := by
    unfold isAgg
    rw [Sem.run_bind, run_underlying ht w]
    cases d <;> simp_all
  have hrun : (loadVar ty ⟨g, o, none⟩).run P w = .ok u w := by simp [loadVar, Sem.run_bind, hagg, hcell]
  unfold Oper.wp execOp
  simp only [ho, hx, Instr.loadAt, Instr.sureAddr, Sem.run_bind, Sem.run_pure, Result.andThen_ok, hrun]
  exact hK _ _ h
/-- the boxes of a copy: what came in, the answer's, the copy's -/
structure ToB (w y : World) (A O : Array Value) : Prop where
  below : Below w.heap.size w y
  box : y.heap[w.heap.size]? = some (.cells A 28 (0, 0))
  zero : y.heap[w.heap.size + 1]? = some (.cells #[.int .i64 0, .bool false, .int .i64 0, .slice none 0 0, .slice none 0 0, .slice none 0 0, .slice none 0 0, .slice none 0 0] 43 (0, 0))
  out : y.heap[w.heap.size + 1 + 1]? = some (.cells O 43 (0, 0))
theorem ToB.far {w y : World} {A O : Array Value} (h : ToB w y A O) : w.heap.size + 1 + 1 < y.heap.size := (Array.getElem?_eq_some_iff.1 h.out).1
theorem ToB.put {w y x : World} {A O O' : Array Value} (h : ToB w y A O) (hg : y.grownBy x (some (w.heap.size + 1 + 1))) (hk : x.heap[w.heap.size + 1 + 1]? = some (.cells O' 43 (0, 0))) : ToB w x A O' :=
  ⟨h.below.grown hg h.below.size (fun k hk => by cases hk; omega), (hg.block _ (Array.getElem?_eq_some_iff.1 h.box).1 (fun e => by have := Option.some.inj e; omega)).trans h.box, (hg.block _ (Array.getElem?_eq_some_iff.1 h.zero).1 (fun e => by have := Option.some.inj e; omega)).trans h.zero, hk⟩
theorem ToB.more {w y x : World} {A O : Array Value} (h : ToB w y A O) (hb : Below y.heap.size y x) : ToB w x A O :=
  ⟨bt h.below hb, (hb.block _ (Array.getElem?_eq_some_iff.1 h.box).1).trans h.box, (hb.block _ (Array.getElem?_eq_some_iff.1 h.zero).1).trans h.zero, (hb.block _ (Array.getElem?_eq_some_iff.1 h.out).1).trans h.out⟩

set_option maxRecDepth 100000 in
set_option maxHeartbeats 4000000 in
theorem szCluster_any (c : CU) (s : CW) (left : Int) (w : World) (h0 : 0 ≤ left) (h1 : left ≤ 1048576) (hR : ClusR w c s) (hg : goodC c) :
    Calls Try.prog 4 #[clusV c s, .int .i64 left] w fun e w' => ∃ z, e = .returned (.int .i64 z) ∧ SzC c left z ∧ Below w.heap.size w w' := by
  have HR := hid hR
  have HG := hid hg
  have hbl : s.tree.length = c.tree.length := by rw [← hR.etree, bks_len]
  have hpl : s.peers.length = c.peers.length := by rw [← hR.epeers, pes_len]
  obtain ⟨an, cn, en, -⟩ := hR.net
  obtain ⟨ad, cd, ed, -⟩ := hR.said
  have g0 := hg.ltree
  have g1 := hg.lpeers
  have g2 := hg.lnet
  have g3 := hg.lsaid
  have g4 := hg.lpend
  have HGL : Hid (c.net.length ≤ maxLen ∧ c.said.length ≤ maxLen) := ⟨g2, g3⟩
  unfold maxLen at g0 g1 g2 g3 g4
  clear hR hg
  obtain ⟨W, hW⟩ : ∃ W, W = w.alloc (.cells (clusA c s) 28) := ⟨_, rfl⟩
  have HBW : Hid (Below w.heap.size w W) := (by rw [hW]; exact ba (Below.refl _ _) _ : Below w.heap.size w W)
  have HKW : Hid (W.heap[w.heap.size]? = some (.cells (clusA c s) 28 (0, 0))) := (by rw [hW]; exact heap_alloc_new w _ : W.heap[w.heap.size]? = _)
  go_enter Try.func4, Try.ntmps4
  have c3 := blk_cell HKW.out 3 s.treeV rfl
  rw [hW] at c3
  go_wp2_with fail
  rw [← hW]
  clear hW c3
  refine (szBlocks_any s.tree s.treeV left W h0 h1 (HR.out.tree.below HBW.out) (by omega) (fun p hp => (HG.out.tree p.1 (by rw [← HR.out.etree]; exact List.mem_map_of_mem hp)).1)).mono ?_
  rintro e x1 ⟨rfl, hb⟩
  have HBx1 : Hid (Below w.heap.size w x1) := bt HBW.out hb
  have HKx1 : Hid (x1.heap[w.heap.size]? = some (.cells (clusA c s) 28 (0, 0))) := (hb.block _ (Array.getElem?_eq_some_iff.1 HKW.out).1).trans HKW.out
  clear hb HBW HKW
  rw [HR.out.etree]
  by_cases k0 : szBlocksC c.tree left < 0
  · go_wp2
    go_ret
    exact ⟨-1, rfl, Or.inl rfl, HBx1.out⟩
  have hbd := szBlocks_bd (t := c.tree) h1 (Int.not_lt.1 k0)
  have HT : Hid (okT c.tree) := hbd.1
  have hwt := szBlocks_wt (Int.not_lt.1 k0)
  have hge := Int.not_lt.1 k0
  have hle := hbd.2
  obtain ⟨z0, hz0⟩ : ∃ z0, z0 = szBlocksC c.tree left := ⟨_, rfl⟩
  rw [← hz0] at k0 hge hle hwt ⊢
  clear hz0 hbd
  have c4 := blk_cell HKx1.out 4 s.peersV rfl
  go_wp2_with fail
  clear c4
  refine (szPeers_any s.peers s.peersV z0 x1 hge (by omega) (HR.out.peers.below HBx1.out) (by omega) (fun x hx => HG.out.peers x.1 (by rw [← HR.out.epeers]; exact List.mem_map_of_mem hx))).mono ?_
  rintro e x2 ⟨z1, rfl, hz, hb⟩
  have HBx2 : Hid (Below w.heap.size w x2) := bt HBx1.out hb
  have HKx2 : Hid (x2.heap[w.heap.size]? = some (.cells (clusA c s) 28 (0, 0))) := (hb.block _ (Array.getElem?_eq_some_iff.1 HKx1.out).1).trans HKx1.out
  clear hb HBx1 HKx1
  rw [HR.out.epeers] at hz
  rcases hz with rfl | ⟨hz1, hz2, hz3⟩
  · go_wp2
    go_ret
    exact ⟨-1, rfl, Or.inl rfl, HBx2.out⟩
  have HP : Hid (∀ p ∈ c.peers, smallPe p) := hz3
  clear hz3
  have k1 : ¬ z1 < 0 := by omega
  have c5 := blk_cell HKx2.out 5 (.slice an c.net.length cn) (by rw [← en]; rfl)
  go_wp2_with fail
  clear c5
  refine (szLetters_any c.net.length cn an z1 x2 hz1 (by omega) HGL.out.1).mono ?_
  rintro e x_ ⟨rfl, hw⟩
  obtain rfl := hw.symm
  clear hw
  by_cases k2 : z1 - (c.net.length : Int) < 0
  · rw [if_pos k2]
    go_wp2
    go_ret
    exact ⟨-1, rfl, Or.inl rfl, HBx2.out⟩
  rw [if_neg k2]
  have c6 := blk_cell HKx2.out 6 (.slice ad c.said.length cd) (by rw [← ed]; rfl)
  go_wp2_with fail
  clear c6
  refine (szVotes_any c.said.length cd ad (z1 - (c.net.length : Int)) x2 (by omega) (by omega) HGL.out.2).mono ?_
  rintro e x_ ⟨rfl, hw⟩
  obtain rfl := hw.symm
  clear hw
  by_cases k3 : z1 - (c.net.length : Int) - (c.said.length : Int) < 0
  · rw [if_pos k3]
    go_wp2
    go_ret
    exact ⟨-1, rfl, Or.inl rfl, HBx2.out⟩
  rw [if_neg k3]
  have c7 := blk_cell HKx2.out 7 s.pend rfl
  go_wp2_with fail
  clear c7
  refine (szCmds_any c.pend s.pend (z1 - (c.net.length : Int) - (c.said.length : Int)) x2 (by omega) (by omega) (HR.out.pend.below HBx2.out) (by omega) (fun x hx => by have := (HG.out.pend x hx).2.1; unfold maxLen at this; omega)).mono ?_
  rintro e x3 ⟨rfl, hb⟩
  have HBx3 : Hid (Below w.heap.size w x3) := bt HBx2.out hb
  have HKx3 : Hid (x3.heap[w.heap.size]? = some (.cells (clusA c s) 28 (0, 0))) := (hb.block _ (Array.getElem?_eq_some_iff.1 HKx2.out).1).trans HKx2.out
  clear hb HBx2 HKx2
  by_cases k4 : szCmdsC c.pend (z1 - (c.net.length : Int) - (c.said.length : Int)) < 0
  · go_wp2
    go_ret
    exact ⟨-1, rfl, Or.inl rfl, HBx3.out⟩
  have hcb := szCmds_bd (l := c.pend) (left := z1 - (c.net.length : Int) - (c.said.length : Int)) (by omega) (Int.not_lt.1 k4)
  have hcw := szCmds_wt (Int.not_lt.1 k4)
  have hc0 := Int.not_lt.1 k4
  obtain ⟨z5, hz5⟩ : ∃ z5, z5 = szCmdsC c.pend (z1 - (c.net.length : Int) - (c.said.length : Int)) := ⟨_, rfl⟩
  rw [← hz5] at k4 hcw hc0 ⊢
  have HF : Hid (SzC c left z5) := Or.inr ⟨hc0, by unfold wtCl; omega, ⟨HT.out, by omega, HP.out, by omega, by omega, hcb⟩⟩
  clear hcb hz5
  go_wp2
  go_ret
  exact ⟨z5, rfl, HF.out, HBx3.out⟩

set_option maxRecDepth 100000 in
set_option maxHeartbeats 4000000 in
theorem eqCluster_yes (c : CU) (s t : CW) (w : World) (hs : ClusR w c s) (ht : ClusR w c t) (hk : okC c) :
    Calls Try.prog 9 #[clusV c s, clusV c t] w fun e w' => e = .returned (.bool true) ∧ Below w.heap.size w w' := by
  have HR := hid hs
  have HT := hid ht
  have HO := hid hk
  clear hs ht hk
  obtain ⟨W, hW⟩ : ∃ W, W = (w.alloc (.cells (clusA c s) 43)).alloc (.cells (clusA c t) 43) := ⟨_, rfl⟩
  have HBW : Hid (Below w.heap.size w W) := (by rw [hW]; exact ba (ba (Below.refl _ _) _) _ : Below w.heap.size w W)
  have HKW : Hid (W.heap[w.heap.size]? = some (.cells (clusA c s) 43 (0, 0))) := (by rw [hW]; exact (alloc2 w _ _).1 : W.heap[w.heap.size]? = _)
  have HJW : Hid (W.heap[w.heap.size + 1]? = some (.cells (clusA c t) 43 (0, 0))) := (by rw [hW]; exact (alloc2 w _ _).2 : W.heap[w.heap.size + 1]? = _)
  have hsl : (s.peers.length : Int) ≤ 1048576 := by have := HO.out.lpeers; rw [← HR.out.epeers, pes_len] at this; exact this
  have HSP : Hid (∀ x ∈ s.peers, smallPe x.1) := (fun x hx => HO.out.peers x.1 (by rw [← HR.out.epeers]; exact List.mem_map_of_mem hx) : ∀ x ∈ s.peers, smallPe x.1)
  go_enter Try.func9, Try.ntmps9
  have a0 := blk_cell HKW.out 0 (.int .i64 c.n) rfl
  have b0 := blk_cell HJW.out 0 (.int .i64 c.n) rfl
  have a1 := blk_cell HKW.out 1 (.bool c.chain) rfl
  have b1 := blk_cell HJW.out 1 (.bool c.chain) rfl
  have a2 := blk_cell HKW.out 2 (.int .i64 c.liars) rfl
  have b2 := blk_cell HJW.out 2 (.int .i64 c.liars) rfl
  have a3 := blk_cell HKW.out 3 s.treeV rfl
  have b3 := blk_cell HJW.out 3 t.treeV rfl
  have hcc : (c.chain != c.chain) = false := by simp
  rw [hW] at a0 b0 a1 b1 a2 b2 a3 b3
  go_wp2_with fail
  rw [← hW]
  clear hW a0 b0 a1 b1 a2 b2 a3 b3
  refine (eqBlocks_yes s.tree t.tree s.treeV t.treeV W (HR.out.tree.below HBW.out) (HT.out.tree.below HBW.out) (by rw [HR.out.etree, HT.out.etree]) (by rw [HR.out.etree]; exact HO.out.tree)).mono ?_
  rintro e x0 ⟨rfl, hb⟩
  have HBx0 : Hid (Below w.heap.size w x0) := bt HBW.out hb
  have HKx0 : Hid (x0.heap[w.heap.size]? = some (.cells (clusA c s) 43 (0, 0))) := (hb.block _ (Array.getElem?_eq_some_iff.1 HKW.out).1).trans HKW.out
  have HJx0 : Hid (x0.heap[w.heap.size + 1]? = some (.cells (clusA c t) 43 (0, 0))) := (hb.block _ (Array.getElem?_eq_some_iff.1 HJW.out).1).trans HJW.out
  clear hb HBW HKW HJW
  have a := blk_cell HKx0.out 4 s.peersV rfl
  have b := blk_cell HJx0.out 4 t.peersV rfl
  go_wp2_with fail
  clear a b
  refine (eqPeers_yes s.peers t.peers s.peersV t.peersV x0 (HR.out.peers.below HBx0.out) (HT.out.peers.below HBx0.out) (by rw [HR.out.epeers, HT.out.epeers]) hsl HSP.out).mono ?_
  rintro e x1 ⟨rfl, hb⟩
  have HBx1 : Hid (Below w.heap.size w x1) := bt HBx0.out hb
  have HKx1 : Hid (x1.heap[w.heap.size]? = some (.cells (clusA c s) 43 (0, 0))) := (hb.block _ (Array.getElem?_eq_some_iff.1 HKx0.out).1).trans HKx0.out
  have HJx1 : Hid (x1.heap[w.heap.size + 1]? = some (.cells (clusA c t) 43 (0, 0))) := (hb.block _ (Array.getElem?_eq_some_iff.1 HJx0.out).1).trans HJx0.out
  clear hb HBx0 HKx0 HJx0
  have a := blk_cell HKx1.out 5 s.net rfl
  have b := blk_cell HJx1.out 5 t.net rfl
  go_wp2_with fail
  clear a b
  refine (eqLetters_yes c.net s.net t.net x1 (HR.out.net.below HBx1.out) (HT.out.net.below HBx1.out) HO.out.net).mono ?_
  rintro e x2 ⟨rfl, hb⟩
  have HBx2 : Hid (Below w.heap.size w x2) := bt HBx1.out hb
  have HKx2 : Hid (x2.heap[w.heap.size]? = some (.cells (clusA c s) 43 (0, 0))) := (hb.block _ (Array.getElem?_eq_some_iff.1 HKx1.out).1).trans HKx1.out
  have HJx2 : Hid (x2.heap[w.heap.size + 1]? = some (.cells (clusA c t) 43 (0, 0))) := (hb.block _ (Array.getElem?_eq_some_iff.1 HJx1.out).1).trans HJx1.out
  clear hb HBx1 HKx1 HJx1
  have a := blk_cell HKx2.out 6 s.said rfl
  have b := blk_cell HJx2.out 6 t.said rfl
  go_wp2_with fail
  clear a b
  refine (eqVotes_yes c.said s.said t.said x2 (HR.out.said.below HBx2.out) (HT.out.said.below HBx2.out) HO.out.said).mono ?_
  rintro e x3 ⟨rfl, hb⟩
  have HBx3 : Hid (Below w.heap.size w x3) := bt HBx2.out hb
  have HKx3 : Hid (x3.heap[w.heap.size]? = some (.cells (clusA c s) 43 (0, 0))) := (hb.block _ (Array.getElem?_eq_some_iff.1 HKx2.out).1).trans HKx2.out
  have HJx3 : Hid (x3.heap[w.heap.size + 1]? = some (.cells (clusA c t) 43 (0, 0))) := (hb.block _ (Array.getElem?_eq_some_iff.1 HJx2.out).1).trans HJx2.out
  clear hb HBx2 HKx2 HJx2
  have a := blk_cell HKx3.out 7 s.pend rfl
  have b := blk_cell HJx3.out 7 t.pend rfl
  go_wp2_with fail
  clear a b
  refine (eqCmds_yes c.pend s.pend t.pend x3 (HR.out.pend.below HBx3.out) (HT.out.pend.below HBx3.out) HO.out.pend.1).mono ?_
  rintro e x4 ⟨rfl, hb⟩
  have HBx4 : Hid (Below w.heap.size w x4) := bt HBx3.out hb
  have HKx4 : Hid (x4.heap[w.heap.size]? = some (.cells (clusA c s) 43 (0, 0))) := (hb.block _ (Array.getElem?_eq_some_iff.1 HKx3.out).1).trans HKx3.out
  have HJx4 : Hid (x4.heap[w.heap.size + 1]? = some (.cells (clusA c t) 43 (0, 0))) := (hb.block _ (Array.getElem?_eq_some_iff.1 HJx3.out).1).trans HJx3.out
  clear hb HBx3 HKx3 HJx3
  go_wp2
  go_ret
  exact ⟨rfl, HBx4.out⟩

set_option maxRecDepth 100000 in
set_option maxHeartbeats 8000000 in
theorem toCluster_any (c : CU) (s : CW) (w : World) (hR : ClusR w c s) (hk : okC c) :
    Calls Try.prog 6 #[clusV c s] w fun e w' => ∃ s', e = .returned (clusV c s') ∧ OwnC w.heap.size w'.heap.size w' c s' ∧ Below w.heap.size w w' := by
  have HR := hid hR
  have HO := hid hk
  clear hR hk
  have hsl : (s.peers.length : Int) ≤ 1048576 := by have := HO.out.lpeers; rw [← HR.out.epeers, pes_len] at this; exact this
  have HSP : Hid (∀ x ∈ s.peers, smallPe x.1) := (fun x hx => HO.out.peers x.1 (by rw [← HR.out.epeers]; exact List.mem_map_of_mem hx) : ∀ x ∈ s.peers, smallPe x.1)
  obtain ⟨W, hW⟩ : ∃ W, W = ((w.alloc (.cells (clusA c s) 28)).alloc (.cells #[.int .i64 0, .bool false, .int .i64 0, .slice none 0 0, .slice none 0 0, .slice none 0 0, .slice none 0 0, .slice none 0 0] 43)).alloc (.cells #[.int .i64 0, .bool false, .int .i64 0, .slice none 0 0, .slice none 0 0, .slice none 0 0, .slice none 0 0, .slice none 0 0] 43) := ⟨_, rfl⟩
  have HB0 : Hid (ToB w W (clusA c s) #[.int .i64 0, .bool false, .int .i64 0, .slice none 0 0, .slice none 0 0, .slice none 0 0, .slice none 0 0, .slice none 0 0]) := (by rw [hW]; exact ⟨ba (ba (ba (Below.refl _ _) _) _) _, (alloc3 w _ _ _).1, (alloc3 w _ _ _).2.1, (alloc3 w _ _ _).2.2⟩ : ToB w W (clusA c s) #[.int .i64 0, .bool false, .int .i64 0, .slice none 0 0, .slice none 0 0, .slice none 0 0, .slice none 0 0, .slice none 0 0])
  go_enter Try.func6, Try.ntmps6
  go_wp2_with (first | (rw [← hW]; clear hW; (refine wpList_load_blk rfl _ _ rfl w.heap.size 0 (.int .i64 c.n) _ _ rfl HB0.out.box rfl _ Try.underlying3 rfl ?_)) | (refine wpList_store_cell rfl _ _ _ rfl (w.heap.size + 1 + 1) 0 (.int .i64 c.n) rfl rfl _ _ HB0.out.out (by kernel_rfl) (by simp) rfl #[.int .i64 c.n, .bool false, .int .i64 0, .slice none 0 0, .slice none 0 0, .slice none 0 0, .slice none 0 0, .slice none 0 0] rfl ?_; intro y1 hg hk; have HB1 : Hid (ToB w y1 (clusA c s) #[.int .i64 c.n, .bool false, .int .i64 0, .slice none 0 0, .slice none 0 0, .slice none 0 0, .slice none 0 0, .slice none 0 0]) := HB0.out.put hg hk; clear hk HB0; clear hg) | (refine wpList_load_blk rfl _ _ rfl w.heap.size 1 (.bool c.chain) _ _ rfl HB1.out.box rfl _ Try.underlying4 rfl ?_) | (refine wpList_store_cell rfl _ _ _ rfl (w.heap.size + 1 + 1) 1 (.bool c.chain) rfl rfl _ _ HB1.out.out (by kernel_rfl) (by simp) rfl #[.int .i64 c.n, .bool c.chain, .int .i64 0, .slice none 0 0, .slice none 0 0, .slice none 0 0, .slice none 0 0, .slice none 0 0] rfl ?_; intro y2 hg hk; have HB2 : Hid (ToB w y2 (clusA c s) #[.int .i64 c.n, .bool c.chain, .int .i64 0, .slice none 0 0, .slice none 0 0, .slice none 0 0, .slice none 0 0, .slice none 0 0]) := HB1.out.put hg hk; clear hk HB1; clear hg) | (refine wpList_load_blk rfl _ _ rfl w.heap.size 2 (.int .i64 c.liars) _ _ rfl HB2.out.box rfl _ Try.underlying3 rfl ?_) | (refine wpList_store_cell rfl _ _ _ rfl (w.heap.size + 1 + 1) 2 (.int .i64 c.liars) rfl rfl _ _ HB2.out.out (by kernel_rfl) (by simp) rfl #[.int .i64 c.n, .bool c.chain, .int .i64 c.liars, .slice none 0 0, .slice none 0 0, .slice none 0 0, .slice none 0 0, .slice none 0 0] rfl ?_; intro y3 hg hk; have HB3 : Hid (ToB w y3 (clusA c s) #[.int .i64 c.n, .bool c.chain, .int .i64 c.liars, .slice none 0 0, .slice none 0 0, .slice none 0 0, .slice none 0 0, .slice none 0 0]) := HB2.out.put hg hk; clear hk HB2; clear hg) | (refine wpList_load_blk rfl _ _ rfl w.heap.size 3 (s.treeV) _ _ rfl HB3.out.box rfl _ Try.underlying22 rfl ?_))
  refine (toBlocks_any s.tree s.treeV y3 (HR.out.tree.below HB3.out.below) (by rw [HR.out.etree]; exact HO.out.tree)).mono ?_
  rintro e x3 ⟨v3, q3, rfl, hq, ho, hb⟩
  have HE3 : Hid (bks q3 = c.tree) := hq.trans HR.out.etree
  have HBB3 : Hid (ToB w x3 (clusA c s) #[.int .i64 c.n, .bool c.chain, .int .i64 c.liars, .slice none 0 0, .slice none 0 0, .slice none 0 0, .slice none 0 0, .slice none 0 0]) := HB3.out.more hb
  have HL3 : Hid (∀ g, inTree v3 q3 g → g < x3.heap.size) := fun g hg => (inTree_ge ho hg).2
  have HY3 : Hid (w.heap.size + 1 + 1 < y3.heap.size ∧ y3.heap.size ≤ x3.heap.size) := ⟨HB3.out.far, hb.size⟩
  have HTT : Hid (OwnT x3 y3.heap.size v3 q3) := ho
  clear ho hb HB3 hq
  have HB3 := HBB3
  clear HBB3
  go_wp2_with (first | (refine wpList_store_cell rfl _ _ _ rfl (w.heap.size + 1 + 1) 3 (v3) rfl rfl _ _ HB3.out.out (by kernel_rfl) (by simp) (own_oneC HTT.out.row) #[.int .i64 c.n, .bool c.chain, .int .i64 c.liars, v3, .slice none 0 0, .slice none 0 0, .slice none 0 0, .slice none 0 0] rfl ?_; intro y4 hg hk; have HB4 : Hid (ToB w y4 (clusA c s) #[.int .i64 c.n, .bool c.chain, .int .i64 c.liars, v3, .slice none 0 0, .slice none 0 0, .slice none 0 0, .slice none 0 0]) := HB3.out.put hg hk; clear hk HB3; have HTTN : Hid (OwnT y4 y3.heap.size v3 q3) := HTT.out.frs (FrS.of_grown hg (B := fun i => i = (w.heap.size + 1 + 1)) (fun i e => by cases e; rfl)) (fun i hi e => by have := (inTree_ge HTT.out hi).1; have := HY3.out; omega); have HZ3 : Hid (x3.heap.size ≤ y4.heap.size) := hg.size; clear hg HTT; have HTT := HTTN; clear HTTN) | (refine wpList_load_blk rfl _ _ rfl w.heap.size 4 (s.peersV) _ _ rfl HB4.out.box rfl _ Try.underlying23 rfl ?_))
  refine (toPeers_any s.peers s.peersV y4 (HR.out.peers.below HB4.out.below) hsl HSP.out).mono ?_
  rintro e x4 ⟨v4, q4, rfl, hq, ho, hb⟩
  have HE4 : Hid (pes q4 = c.peers) := hq.trans HR.out.epeers
  have HBB4 : Hid (ToB w x4 (clusA c s) #[.int .i64 c.n, .bool c.chain, .int .i64 c.liars, v3, .slice none 0 0, .slice none 0 0, .slice none 0 0, .slice none 0 0]) := HB4.out.more hb
  have HL4 : Hid (∀ g, inPeers v4 q4 g → g < x4.heap.size) := fun g hg => (inPeers_ge ho hg).2
  have HY4 : Hid (w.heap.size + 1 + 1 < y4.heap.size ∧ y4.heap.size ≤ x4.heap.size) := ⟨HB4.out.far, hb.size⟩
  have HTTN : Hid (OwnT x4 y3.heap.size v3 q3) := HTT.out.below hb
  have HPP : Hid (OwnPs y4.heap.size x4 v4 q4) := ho
  clear HTT
  have HTT := HTTN
  clear HTTN
  clear ho hb HB4 hq
  have HB4 := HBB4
  clear HBB4
  go_wp2_with (first | (refine wpList_store_cell rfl _ _ _ rfl (w.heap.size + 1 + 1) 4 (v4) rfl rfl _ _ HB4.out.out (by kernel_rfl) (by simp) (own_oneC HPP.out.row) #[.int .i64 c.n, .bool c.chain, .int .i64 c.liars, v3, v4, .slice none 0 0, .slice none 0 0, .slice none 0 0] rfl ?_; intro y5 hg hk; have HB5 : Hid (ToB w y5 (clusA c s) #[.int .i64 c.n, .bool c.chain, .int .i64 c.liars, v3, v4, .slice none 0 0, .slice none 0 0, .slice none 0 0]) := HB4.out.put hg hk; clear hk HB4; have HTTN : Hid (OwnT y5 y3.heap.size v3 q3) := HTT.out.frs (FrS.of_grown hg (B := fun i => i = (w.heap.size + 1 + 1)) (fun i e => by cases e; rfl)) (fun i hi e => by have := (inTree_ge HTT.out hi).1; have := HY3.out; omega); have HPPN : Hid (OwnPs y4.heap.size y5 v4 q4) := HPP.out.frs (FrS.of_grown hg (B := fun i => i = (w.heap.size + 1 + 1)) (fun i e => by cases e; rfl)) (fun i hi e => by have := (inPeers_ge HPP.out (Or.inl hi)).1; have := HY4.out; omega) (fun x hx i hi e => by have := (inPeers_ge HPP.out (Or.inr ⟨x, hx, hi⟩)).1; have := HY4.out; omega); have HZ4 : Hid (x4.heap.size ≤ y5.heap.size) := hg.size; clear hg HTT HPP; have HTT := HTTN; clear HTTN; have HPP := HPPN; clear HPPN) | (refine wpList_load_blk rfl _ _ rfl w.heap.size 5 (s.net) _ _ rfl HB5.out.box rfl _ Try.underlying24 rfl ?_))
  refine (toLetters_any c.net s.net y5 (HR.out.net.below HB5.out.below) HO.out.net).mono ?_
  rintro e x5 ⟨v5, rfl, ho, hb⟩
  have HBB5 : Hid (ToB w x5 (clusA c s) #[.int .i64 c.n, .bool c.chain, .int .i64 c.liars, v3, v4, .slice none 0 0, .slice none 0 0, .slice none 0 0]) := HB5.out.more hb
  have HL5 : Hid (∀ g, v5.ownBlock = some g → g < x5.heap.size) := fun g hg => (ho.lt g hg).2
  have HY5 : Hid (w.heap.size + 1 + 1 < y5.heap.size ∧ y5.heap.size ≤ x5.heap.size) := ⟨HB5.out.far, hb.size⟩
  have HTTN : Hid (OwnT x5 y3.heap.size v3 q3) := HTT.out.below hb
  have HPPN : Hid (OwnPs y4.heap.size x5 v4 q4) := HPP.out.below hb
  have HNN : Hid (x5.ownsRow y5.heap.size 35 13 v5 c.net.length (flatR letF c.net)) := ho
  clear HTT HPP
  have HTT := HTTN
  clear HTTN
  have HPP := HPPN
  clear HPPN
  clear ho hb HB5
  have HB5 := HBB5
  clear HBB5
  go_wp2_with (first | (refine wpList_store_cell rfl _ _ _ rfl (w.heap.size + 1 + 1) 5 (v5) rfl rfl _ _ HB5.out.out (by kernel_rfl) (by simp) (own_oneC HNN.out) #[.int .i64 c.n, .bool c.chain, .int .i64 c.liars, v3, v4, v5, .slice none 0 0, .slice none 0 0] rfl ?_; intro y6 hg hk; have HB6 : Hid (ToB w y6 (clusA c s) #[.int .i64 c.n, .bool c.chain, .int .i64 c.liars, v3, v4, v5, .slice none 0 0, .slice none 0 0]) := HB5.out.put hg hk; clear hk HB5; have HTTN : Hid (OwnT y6 y3.heap.size v3 q3) := HTT.out.frs (FrS.of_grown hg (B := fun i => i = (w.heap.size + 1 + 1)) (fun i e => by cases e; rfl)) (fun i hi e => by have := (inTree_ge HTT.out hi).1; have := HY3.out; omega); have HPPN : Hid (OwnPs y4.heap.size y6 v4 q4) := HPP.out.frs (FrS.of_grown hg (B := fun i => i = (w.heap.size + 1 + 1)) (fun i e => by cases e; rfl)) (fun i hi e => by have := (inPeers_ge HPP.out (Or.inl hi)).1; have := HY4.out; omega) (fun x hx i hi e => by have := (inPeers_ge HPP.out (Or.inr ⟨x, hx, hi⟩)).1; have := HY4.out; omega); have HNNN : Hid (y6.ownsRow y5.heap.size 35 13 v5 c.net.length (flatR letF c.net)) := (FrS.of_grown hg (B := fun i => i = (w.heap.size + 1 + 1)) (fun i e => by cases e; rfl)).own HNN.out (fun i hi e => by have := (HNN.out.lt i hi).1; have := HY5.out; omega); have HZ5 : Hid (x5.heap.size ≤ y6.heap.size) := hg.size; clear hg HTT HPP HNN; have HTT := HTTN; clear HTTN; have HPP := HPPN; clear HPPN; have HNN := HNNN; clear HNNN) | (refine wpList_load_blk rfl _ _ rfl w.heap.size 6 (s.said) _ _ rfl HB6.out.box rfl _ Try.underlying25 rfl ?_))
  refine (toVotes_any c.said s.said y6 (HR.out.said.below HB6.out.below) HO.out.said).mono ?_
  rintro e x6 ⟨v6, rfl, ho, hb⟩
  have HBB6 : Hid (ToB w x6 (clusA c s) #[.int .i64 c.n, .bool c.chain, .int .i64 c.liars, v3, v4, v5, .slice none 0 0, .slice none 0 0]) := HB6.out.more hb
  have HL6 : Hid (∀ g, v6.ownBlock = some g → g < x6.heap.size) := fun g hg => (ho.lt g hg).2
  have HY6 : Hid (w.heap.size + 1 + 1 < y6.heap.size ∧ y6.heap.size ≤ x6.heap.size) := ⟨HB6.out.far, hb.size⟩
  have HTTN : Hid (OwnT x6 y3.heap.size v3 q3) := HTT.out.below hb
  have HPPN : Hid (OwnPs y4.heap.size x6 v4 q4) := HPP.out.below hb
  have HNNN : Hid (x6.ownsRow y5.heap.size 35 13 v5 c.net.length (flatR letF c.net)) := own_kept HNN.out hb
  have HDD : Hid (x6.ownsRow y6.heap.size 33 4 v6 c.said.length (flatR voteF c.said)) := ho
  clear HTT HPP HNN
  have HTT := HTTN
  clear HTTN
  have HPP := HPPN
  clear HPPN
  have HNN := HNNN
  clear HNNN
  clear ho hb HB6
  have HB6 := HBB6
  clear HBB6
  go_wp2_with (first | (refine wpList_store_cell rfl _ _ _ rfl (w.heap.size + 1 + 1) 6 (v6) rfl rfl _ _ HB6.out.out (by kernel_rfl) (by simp) (own_oneC HDD.out) #[.int .i64 c.n, .bool c.chain, .int .i64 c.liars, v3, v4, v5, v6, .slice none 0 0] rfl ?_; intro y7 hg hk; have HB7 : Hid (ToB w y7 (clusA c s) #[.int .i64 c.n, .bool c.chain, .int .i64 c.liars, v3, v4, v5, v6, .slice none 0 0]) := HB6.out.put hg hk; clear hk HB6; have HTTN : Hid (OwnT y7 y3.heap.size v3 q3) := HTT.out.frs (FrS.of_grown hg (B := fun i => i = (w.heap.size + 1 + 1)) (fun i e => by cases e; rfl)) (fun i hi e => by have := (inTree_ge HTT.out hi).1; have := HY3.out; omega); have HPPN : Hid (OwnPs y4.heap.size y7 v4 q4) := HPP.out.frs (FrS.of_grown hg (B := fun i => i = (w.heap.size + 1 + 1)) (fun i e => by cases e; rfl)) (fun i hi e => by have := (inPeers_ge HPP.out (Or.inl hi)).1; have := HY4.out; omega) (fun x hx i hi e => by have := (inPeers_ge HPP.out (Or.inr ⟨x, hx, hi⟩)).1; have := HY4.out; omega); have HNNN : Hid (y7.ownsRow y5.heap.size 35 13 v5 c.net.length (flatR letF c.net)) := (FrS.of_grown hg (B := fun i => i = (w.heap.size + 1 + 1)) (fun i e => by cases e; rfl)).own HNN.out (fun i hi e => by have := (HNN.out.lt i hi).1; have := HY5.out; omega); have HDDN : Hid (y7.ownsRow y6.heap.size 33 4 v6 c.said.length (flatR voteF c.said)) := (FrS.of_grown hg (B := fun i => i = (w.heap.size + 1 + 1)) (fun i e => by cases e; rfl)).own HDD.out (fun i hi e => by have := (HDD.out.lt i hi).1; have := HY6.out; omega); have HZ6 : Hid (x6.heap.size ≤ y7.heap.size) := hg.size; clear hg HTT HPP HNN HDD; have HTT := HTTN; clear HTTN; have HPP := HPPN; clear HPPN; have HNN := HNNN; clear HNNN; have HDD := HDDN; clear HDDN) | (refine wpList_load_blk rfl _ _ rfl w.heap.size 7 (s.pend) _ _ rfl HB7.out.box rfl _ Try.underlying26 rfl ?_))
  refine (toCmds_any c.pend s.pend y7 (HR.out.pend.below HB7.out.below) HO.out.pend.1).mono ?_
  rintro e x7 ⟨v7, rfl, ho, hb⟩
  have HBB7 : Hid (ToB w x7 (clusA c s) #[.int .i64 c.n, .bool c.chain, .int .i64 c.liars, v3, v4, v5, v6, .slice none 0 0]) := HB7.out.more hb
  have HL7 : Hid (∀ g, v7.ownBlock = some g → g < x7.heap.size) := fun g hg => (ho.lt g hg).2
  have HY7 : Hid (w.heap.size + 1 + 1 < y7.heap.size ∧ y7.heap.size ≤ x7.heap.size) := ⟨HB7.out.far, hb.size⟩
  have HTTN : Hid (OwnT x7 y3.heap.size v3 q3) := HTT.out.below hb
  have HPPN : Hid (OwnPs y4.heap.size x7 v4 q4) := HPP.out.below hb
  have HNNN : Hid (x7.ownsRow y5.heap.size 35 13 v5 c.net.length (flatR letF c.net)) := own_kept HNN.out hb
  have HDDN : Hid (x7.ownsRow y6.heap.size 33 4 v6 c.said.length (flatR voteF c.said)) := own_kept HDD.out hb
  have HQQ : Hid (x7.ownsRow y7.heap.size 93 3 v7 c.pend.length (flatR cmdF c.pend)) := ho
  clear HTT HPP HNN HDD
  have HTT := HTTN
  clear HTTN
  have HPP := HPPN
  clear HPPN
  have HNN := HNNN
  clear HNNN
  have HDD := HDDN
  clear HDDN
  clear ho hb HB7
  have HB7 := HBB7
  clear HBB7
  go_wp2_with (first | (refine wpList_store_cell rfl _ _ _ rfl (w.heap.size + 1 + 1) 7 (v7) rfl rfl _ _ HB7.out.out (by kernel_rfl) (by simp) (own_oneC HQQ.out) #[.int .i64 c.n, .bool c.chain, .int .i64 c.liars, v3, v4, v5, v6, v7] rfl ?_; intro y8 hg hk; have HB8 : Hid (ToB w y8 (clusA c s) #[.int .i64 c.n, .bool c.chain, .int .i64 c.liars, v3, v4, v5, v6, v7]) := HB7.out.put hg hk; clear hk HB7; have HTTN : Hid (OwnT y8 y3.heap.size v3 q3) := HTT.out.frs (FrS.of_grown hg (B := fun i => i = (w.heap.size + 1 + 1)) (fun i e => by cases e; rfl)) (fun i hi e => by have := (inTree_ge HTT.out hi).1; have := HY3.out; omega); have HPPN : Hid (OwnPs y4.heap.size y8 v4 q4) := HPP.out.frs (FrS.of_grown hg (B := fun i => i = (w.heap.size + 1 + 1)) (fun i e => by cases e; rfl)) (fun i hi e => by have := (inPeers_ge HPP.out (Or.inl hi)).1; have := HY4.out; omega) (fun x hx i hi e => by have := (inPeers_ge HPP.out (Or.inr ⟨x, hx, hi⟩)).1; have := HY4.out; omega); have HNNN : Hid (y8.ownsRow y5.heap.size 35 13 v5 c.net.length (flatR letF c.net)) := (FrS.of_grown hg (B := fun i => i = (w.heap.size + 1 + 1)) (fun i e => by cases e; rfl)).own HNN.out (fun i hi e => by have := (HNN.out.lt i hi).1; have := HY5.out; omega); have HDDN : Hid (y8.ownsRow y6.heap.size 33 4 v6 c.said.length (flatR voteF c.said)) := (FrS.of_grown hg (B := fun i => i = (w.heap.size + 1 + 1)) (fun i e => by cases e; rfl)).own HDD.out (fun i hi e => by have := (HDD.out.lt i hi).1; have := HY6.out; omega); have HQQN : Hid (y8.ownsRow y7.heap.size 93 3 v7 c.pend.length (flatR cmdF c.pend)) := (FrS.of_grown hg (B := fun i => i = (w.heap.size + 1 + 1)) (fun i e => by cases e; rfl)).own HQQ.out (fun i hi e => by have := (HQQ.out.lt i hi).1; have := HY7.out; omega); have HZ7 : Hid (x7.heap.size ≤ y8.heap.size) := hg.size; clear hg HTT HPP HNN HDD HQQ; have HTT := HTTN; clear HTTN; have HPP := HPPN; clear HPPN; have HNN := HNNN; clear HNNN; have HDD := HDDN; clear HDDN; have HQQ := HQQN; clear HQQN) | (refine wpList_load_row rfl _ _ rfl (w.heap.size + 1 + 1) rfl 43 _ (0, 0) _ HB8.out.out Try.underlying43 rfl (by kernel_rfl) ?_) | (refine wpList_store_blk rfl _ _ _ rfl (w.heap.size + 1) #[.int .i64 c.n, .bool c.chain, .int .i64 c.liars, v3, v4, v5, v6, v7] rfl rfl 43 _ HB8.out.zero (by kernel_rfl) rfl (by have t3 := own_oneC HTT.out.row; have t4 := own_oneC HPP.out.row; have t5 := own_oneC HNN.out; have t6 := own_oneC HDD.out; have t7 := own_oneC HQQ.out; simp [show (Value.int .i64 c.n).oneCell' = true from rfl, show (Value.bool c.chain).oneCell' = true from rfl, show (Value.int .i64 c.liars).oneCell' = true from rfl, t3, t4, t5, t6, t7]) ?_; intro z hg hk hz; have HBz : Hid (Below w.heap.size w z ∧ z.heap[w.heap.size + 1]? = some (.cells #[.int .i64 c.n, .bool c.chain, .int .i64 c.liars, v3, v4, v5, v6, v7] 43 (0, 0))) := ⟨HB8.out.below.grown hg HB8.out.below.size (fun k hk => by cases hk; omega), hk⟩; have HFz : Hid (FrS (fun i => i = w.heap.size + 1) y8 z) := FrS.of_grown hg (fun i e => by cases e; rfl); have HSz : Hid (y8.heap.size ≤ z.heap.size) := hg.size; clear hg hk hz))
  refine bodyPost_ret (v := .agg #[.int .i64 c.n, .bool c.chain, .int .i64 c.liars, v3, v4, v5, v6, v7]) (results_cell_row Try.results6 _ _ (w.heap.size + 1) 43 _ (0, 0) _ rfl HBz.out.2 Try.underlying43 rfl (by kernel_rfl)) rfl ?_
  refine ⟨⟨v3, q3, v4, q4, v5, v6, v7⟩, rfl, ?_, HBz.out.1⟩
  have y3_ := HY3.out
  have y4_ := HY4.out
  have y5_ := HY5.out
  have y6_ := HY6.out
  have y7_ := HY7.out
  have z3_ := HZ3.out
  have z4_ := HZ4.out
  have z5_ := HZ5.out
  have z6_ := HZ6.out
  have z7_ := HZ7.out
  have z8_ := HSz.out
  have h := ownC_of (b0 := y3.heap.size) (b1 := y4.heap.size) (b2 := y5.heap.size) (b3 := y6.heap.size) (b4 := y7.heap.size) (b5 := y8.heap.size) (w := y8) (c := c) (s := ⟨v3, q3, v4, q4, v5, v6, v7⟩) HE3.out HTT.out (fun g hg => by have := HL3.out g hg; omega) HE4.out HPP.out (fun g hg => by have := HL4.out g hg; omega) HNN.out (fun g hg => by have := HL5.out g hg; omega) HDD.out (fun g hg => by have := HL6.out g hg; omega) HQQ.out (fun g hg => by have := HL7.out g hg; omega) (by omega) (by omega) (by omega) (by omega) (by omega) (Nat.le_refl _)
  exact ((h.frs HFz.out (fun i g hi hg e => by have := (h.lim i g hi hg).1; omega)).low (by omega)).wide (by omega) (Nat.le_refl _)

end Go.Proofs.Ytcfgfhodbjakoav
