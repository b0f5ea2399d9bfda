/-
  The contracts of the laws' own helpers over clusters: how great one is, its copy, two held against each other. (Made by gcl15.py.)
-/
import Derived.Test.YtjieklilojmifatClusX
import Derived.Test.YtjieklilojmifatBlkE
import Derived.Test.YtjieklilojmifatBlkTS
namespace Go.Proofs.Ytjieklilojmifat
open Go.RowKit Num

/-- what szCluster tells -/
def SzC (c : CU) (left z : Int) : Prop := z = -1 ∨ (0 ≤ z ∧ z + (wtCl c : Int) ≤ left ∧ okC c)
theorem own_oneC {w : World} {base m n : Nat} {e : TypeId} {v : Value} {xs : List Value} (h : w.ownsRow base e m v n xs) : v.oneCell' = true := by
  obtain ⟨a, cap, rfl, _⟩ := own_form h
  rfl
/-- one cell of a block, loaded -/
theorem wpList_load_blk {P : Program} {ops : Array Oper} {rest : List Oper} {op : Oper} {a : Act} {w : World} {Q : Exit → Act → World → Prop} (hgd : op.guard = none) (ty : TypeId) (x : Operand) (ho : op.op = .load ty x) (g o : Nat) (u : Value) (t : TypeId) (cs : Array Value) (hx : a.eval x = .pointer (some ⟨g, o, none⟩))
    (hg : w.heap[g]? = some (.cells cs t (0, 0))) (hu : cs[o]? = some u) (d : TypeDesc) (ht : P.underlying ty = some d) (hd : d.isRow = false)
    (h : wpList P ops Q rest (a.put op.dst u) w) : wpList P ops Q (op :: rest) a w := by
  refine wpList_plain hgd fun K hK => ?_
  have hcell : w.cell? ⟨g, o, none⟩ = some u := blk_cell hg o u hu
  have hagg : (isAgg ty).run P w = .ok false w := by
    unfold isAgg
    rw [Sem.run_bind, run_underlying ht w]
    cases d <;> simp_all
  have hrun : (loadVar ty ⟨g, o, none⟩).run P w = .ok u w := by simp [loadVar, Sem.run_bind, hagg, hcell]
  unfold Oper.wp execOp
  simp only [ho, hx, Instr.loadAt, Instr.sureAddr, Sem.run_bind, Sem.run_pure, Result.andThen_ok, hrun]
  exact hK _ _ h


set_option maxRecDepth 100000 in
set_option maxHeartbeats 4000000 in
theorem eqCluster_yes (c : CU) (s t : CW) (w : World) (hs : ClusR w c s) (ht : ClusR w c t) (hk : okC c) :
    Calls Try.prog 15 #[clusV c s, clusV c t] w fun e w' => e = .returned (.bool true) ∧ Below w.heap.size w w' := by
  have HR := hid hs
  have HT := hid ht
  have HO := hid hk
  clear hs ht hk
  obtain ⟨W, hW⟩ : ∃ W, W = (w.alloc (.cells (clusA c s) 55)).alloc (.cells (clusA c t) 55) := ⟨_, rfl⟩
  have HBW : Hid (Below w.heap.size w W) := (by rw [hW]; exact ba (ba (Below.refl _ _) _) _ : Below w.heap.size w W)
  have HKW : Hid (W.heap[w.heap.size]? = some (.cells (clusA c s) 55 (0, 0))) := (by rw [hW]; exact (alloc2 w _ _).1 : W.heap[w.heap.size]? = _)
  have HJW : Hid (W.heap[w.heap.size + 1]? = some (.cells (clusA c t) 55 (0, 0))) := (by rw [hW]; exact (alloc2 w _ _).2 : W.heap[w.heap.size + 1]? = _)
  have hsl : (s.peers.length : Int) ≤ 1048576 := by have := HO.out.lpeers; rw [← HR.out.epeers, pes_len] at this; exact this
  have HSP : Hid (∀ x ∈ s.peers, smallPe x.1) := (fun x hx => HO.out.peers x.1 (by rw [← HR.out.epeers]; exact List.mem_map_of_mem hx) : ∀ x ∈ s.peers, smallPe x.1)
  go_enter Try.func15, Try.ntmps15
  have a0 := blk_cell HKW.out 0 (.int .i64 c.n) rfl
  have b0 := blk_cell HJW.out 0 (.int .i64 c.n) rfl
  have a1 := blk_cell HKW.out 1 (.bool c.chain) rfl
  have b1 := blk_cell HJW.out 1 (.bool c.chain) rfl
  have a2 := blk_cell HKW.out 2 (.int .i64 c.liars) rfl
  have b2 := blk_cell HJW.out 2 (.int .i64 c.liars) rfl
  have a3 := blk_cell HKW.out 3 s.treeV rfl
  have b3 := blk_cell HJW.out 3 t.treeV rfl
  have hcc : (c.chain != c.chain) = false := by simp
  rw [hW] at a0 b0 a1 b1 a2 b2 a3 b3
  go_wp2_with fail
  rw [← hW]
  clear hW a0 b0 a1 b1 a2 b2 a3 b3
  refine (eqBlocks_yes s.tree t.tree s.treeV t.treeV W (HR.out.tree.below HBW.out) (HT.out.tree.below HBW.out) (by rw [HR.out.etree, HT.out.etree]) (by rw [HR.out.etree]; exact HO.out.tree)).mono ?_
  rintro e x0 ⟨rfl, hb⟩
  have HBx0 : Hid (Below w.heap.size w x0) := bt HBW.out hb
  have HKx0 : Hid (x0.heap[w.heap.size]? = some (.cells (clusA c s) 55 (0, 0))) := (hb.block _ (Array.getElem?_eq_some_iff.1 HKW.out).1).trans HKW.out
  have HJx0 : Hid (x0.heap[w.heap.size + 1]? = some (.cells (clusA c t) 55 (0, 0))) := (hb.block _ (Array.getElem?_eq_some_iff.1 HJW.out).1).trans HJW.out
  clear hb HBW HKW HJW
  have a := blk_cell HKx0.out 4 s.peersV rfl
  have b := blk_cell HJx0.out 4 t.peersV rfl
  go_wp2_with fail
  clear a b
  refine (eqPeers_yes s.peers t.peers s.peersV t.peersV x0 (HR.out.peers.below HBx0.out) (HT.out.peers.below HBx0.out) (by rw [HR.out.epeers, HT.out.epeers]) hsl HSP.out).mono ?_
  rintro e x1 ⟨rfl, hb⟩
  have HBx1 : Hid (Below w.heap.size w x1) := bt HBx0.out hb
  have HKx1 : Hid (x1.heap[w.heap.size]? = some (.cells (clusA c s) 55 (0, 0))) := (hb.block _ (Array.getElem?_eq_some_iff.1 HKx0.out).1).trans HKx0.out
  have HJx1 : Hid (x1.heap[w.heap.size + 1]? = some (.cells (clusA c t) 55 (0, 0))) := (hb.block _ (Array.getElem?_eq_some_iff.1 HJx0.out).1).trans HJx0.out
  clear hb HBx0 HKx0 HJx0
  have a := blk_cell HKx1.out 5 s.net rfl
  have b := blk_cell HJx1.out 5 t.net rfl
  go_wp2_with fail
  clear a b
  refine (eqLetters_yes c.net s.net t.net x1 (HR.out.net.below HBx1.out) (HT.out.net.below HBx1.out) HO.out.net).mono ?_
  rintro e x2 ⟨rfl, hb⟩
  have HBx2 : Hid (Below w.heap.size w x2) := bt HBx1.out hb
  have HKx2 : Hid (x2.heap[w.heap.size]? = some (.cells (clusA c s) 55 (0, 0))) := (hb.block _ (Array.getElem?_eq_some_iff.1 HKx1.out).1).trans HKx1.out
  have HJx2 : Hid (x2.heap[w.heap.size + 1]? = some (.cells (clusA c t) 55 (0, 0))) := (hb.block _ (Array.getElem?_eq_some_iff.1 HJx1.out).1).trans HJx1.out
  clear hb HBx1 HKx1 HJx1
  have a := blk_cell HKx2.out 6 s.said rfl
  have b := blk_cell HJx2.out 6 t.said rfl
  go_wp2_with fail
  clear a b
  refine (eqVotes_yes c.said s.said t.said x2 (HR.out.said.below HBx2.out) (HT.out.said.below HBx2.out) HO.out.said).mono ?_
  rintro e x3 ⟨rfl, hb⟩
  have HBx3 : Hid (Below w.heap.size w x3) := bt HBx2.out hb
  have HKx3 : Hid (x3.heap[w.heap.size]? = some (.cells (clusA c s) 55 (0, 0))) := (hb.block _ (Array.getElem?_eq_some_iff.1 HKx2.out).1).trans HKx2.out
  have HJx3 : Hid (x3.heap[w.heap.size + 1]? = some (.cells (clusA c t) 55 (0, 0))) := (hb.block _ (Array.getElem?_eq_some_iff.1 HJx2.out).1).trans HJx2.out
  clear hb HBx2 HKx2 HJx2
  have a := blk_cell HKx3.out 7 s.pend rfl
  have b := blk_cell HJx3.out 7 t.pend rfl
  go_wp2_with fail
  clear a b
  refine (eqCmds_yes c.pend s.pend t.pend x3 (HR.out.pend.below HBx3.out) (HT.out.pend.below HBx3.out) HO.out.pend.1).mono ?_
  rintro e x4 ⟨rfl, hb⟩
  have HBx4 : Hid (Below w.heap.size w x4) := bt HBx3.out hb
  have HKx4 : Hid (x4.heap[w.heap.size]? = some (.cells (clusA c s) 55 (0, 0))) := (hb.block _ (Array.getElem?_eq_some_iff.1 HKx3.out).1).trans HKx3.out
  have HJx4 : Hid (x4.heap[w.heap.size + 1]? = some (.cells (clusA c t) 55 (0, 0))) := (hb.block _ (Array.getElem?_eq_some_iff.1 HJx3.out).1).trans HJx3.out
  clear hb HBx3 HKx3 HJx3
  go_wp2
  go_ret
  exact ⟨rfl, HBx4.out⟩


end Go.Proofs.Ytjieklilojmifat
