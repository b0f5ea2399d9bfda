/-
  A struct stored into a part of a block, in a plain walk: the world behind it is named anew; cells of a block that is known.
-/
import Derived.Test.YtnghhfgbobpnkaoDoorFloatX
import Derived.Laws.CopyRow
import Derived.Laws.Rows
namespace Go.Proofs.YtnghhfgbobpnkaoDoor
open Go.RowKit

theorem blk_cell {w : World} {N : Nat} {cur : Array Value} {t : TypeId} {fz : Nat × Nat} (h : w.heap[N]? = some (.cells cur t fz)) (j : Nat) (v : Value) (hj : cur[j]? = some v) : w.cell? ⟨N, j, none⟩ = some v := by
  rw [cell_of_row _ N j _ _ _ h]; exact hj

theorem alloc2 (w : World) (A B : Obj) : ((w.alloc A).alloc B).heap[w.heap.size]? = some A ∧ ((w.alloc A).alloc B).heap[w.heap.size + 1]? = some B := by
  have e1 : (w.alloc A).heap.size = w.heap.size + 1 := by simp
  have a1 := alloc_new w A
  have a2 := alloc_new (w.alloc A) B
  have b1 := alloc_below (w.alloc A) B
  rw [e1] at a2 b1
  exact ⟨(b1.block _ (by omega)).trans a1, a2⟩
theorem alloc3 (w : World) (A B C : Obj) : (((w.alloc A).alloc B).alloc C).heap[w.heap.size]? = some A ∧ (((w.alloc A).alloc B).alloc C).heap[w.heap.size + 1]? = some B ∧ (((w.alloc A).alloc B).alloc C).heap[w.heap.size + 1 + 1]? = some C := by
  have e1 : (w.alloc A).heap.size = w.heap.size + 1 := by simp
  have e2 : ((w.alloc A).alloc B).heap.size = w.heap.size + 1 + 1 := by simp
  have a1 := alloc_new w A
  have a2 := alloc_new (w.alloc A) B
  have a3 := alloc_new ((w.alloc A).alloc B) C
  have b1 := alloc_below (w.alloc A) B
  have b2 := alloc_below ((w.alloc A).alloc B) C
  rw [e1] at a2 b1
  rw [e2] at a3 b2
  exact ⟨(b2.block _ (by omega)).trans ((b1.block _ (by omega)).trans a1), (b2.block _ (by omega)).trans a2, a3⟩

/-- cells o and on of a block, replaced -/
def partA (old : Array Value) (o : Nat) (cells : Array Value) : Array Value := (old.toList.take o ++ cells.toList ++ old.toList.drop (o + cells.size)).toArray

section
variable {P : Program} {ops : Array Oper} {rest : List Oper} {op : Oper} {a : Act} {w : World} {Q : Exit → Act → World → Prop}

theorem run_storeVar_part (w : World) (g o : Nat) (t ty : TypeId) (old cells : Array Value) (hg : w.heap[g]? = some (.cells old t (0, 0))) (hi : (P.info? ty).map (·.size) = some cells.size)
    (ho : o + cells.size ≤ old.size) (h1 : cells.all (·.oneCell') = true) :
    (storeVar ty ⟨g, o, none⟩ (.agg cells)).run P w = .ok () (w.setRow g (partA old o cells)) := by
  have := run_storeCells_at P g o t cells.toList 0 old w hg (by simp; omega) (fun v hv => (Array.all_eq_true_iff_forall_mem.1 h1) v (by simpa using hv))
  cases hq : P.info? ty with
  | none => simp [hq] at hi
  | some i =>
    have hs : cells.size = i.size := by simp [hq] at hi; omega
    simp [storeVar, sizeOf, typeInfo, hq, Value.cells, hs, this, partA]

theorem wpList_store_part (hgd : op.guard = none) (ty : TypeId) (x y : Operand) (ho : op.op = .store ty x y) (g o : Nat) (cells : Array Value) (hx : a.eval x = .pointer (some ⟨g, o, none⟩)) (hy : a.eval y = .agg cells)
    (t : TypeId) (old : Array Value) (hg : w.heap[g]? = some (.cells old t (0, 0))) (hi : (P.info? ty).map (·.size) = some cells.size) (hold : o + cells.size ≤ old.size) (h1 : cells.all (·.oneCell') = true) (new : Array Value) (hn : partA old o cells = new)
    (h : ∀ w', w.grownBy w' (some g) → w'.heap[g]? = some (.cells new t (0, 0)) → wpList P ops Q rest (a.put op.dst undef) w') : wpList P ops Q (op :: rest) a w := by
  subst hn
  obtain ⟨g1, g2, _⟩ := setRow_grown (cells := partA old o cells) hg
  refine wpList_plain hgd fun K hK => ?_
  unfold Oper.wp execOp
  simp only [ho, hx, hy, Instr.storeAt, Instr.sureAddr, Sem.run_bind, Sem.run_pure, Result.andThen_ok, run_storeVar_part w g o t ty old cells hg hi hold h1]
  exact hK _ _ (h _ g1 g2)

/-- one cell of a block -/
theorem wpList_store_cell (hgd : op.guard = none) (ty : TypeId) (x y : Operand) (ho : op.op = .store ty x y) (g o : Nat) (u : Value) (hx : a.eval x = .pointer (some ⟨g, o, none⟩)) (hy : a.eval y = u)
    (t : TypeId) (old : Array Value) (hg : w.heap[g]? = some (.cells old t (0, 0))) (hi : (P.info? ty).map (·.size) = some 1) (hold : o < old.size) (h1 : u.oneCell' = true) (new : Array Value) (hn : old.setIfInBounds o u = new)
    (h : ∀ w', w.grownBy w' (some g) → w'.heap[g]? = some (.cells new t (0, 0)) → wpList P ops Q rest (a.put op.dst undef) w') : wpList P ops Q (op :: rest) a w := by
  subst hn
  refine wpList_plain hgd fun K hK => ?_
  have hcell : w.cell? ⟨g, o, none⟩ = some old[o] := by rw [cell_of_row _ g o _ _ _ hg]; simp [hold]
  have hfro := frozen_of_row _ g o _ _ hg
  have hrun : (storeVar ty ⟨g, o, none⟩ u).run P w = .ok () (w.setCell ⟨g, o, none⟩ u) := by
    cases hq : P.info? ty with
    | none => simp [hq] at hi
    | some i =>
      have hsz : i.size = 1 := by simpa [hq] using hi
      have huc : u.cells = #[u] := by cases u <;> first | rfl | simp [Value.oneCell'] at h1
      have hadd : (⟨g, o, none⟩ : Addr).add 0 = ⟨g, o, none⟩ := by unfold Addr.add; split <;> simp_all
      simp [storeVar, sizeOf, typeInfo, hq, hsz, huc, storeCells, hadd, run_store P w _ u _ h1, hcell, hfro]
  unfold Oper.wp execOp
  simp only [ho, hx, hy, Instr.storeAt, Instr.sureAddr, Sem.run_bind, Sem.run_pure, Result.andThen_ok, hrun]
  exact hK _ _ (h _ ⟨rfl, rfl, rfl, by simp, fun k _ hk => heap_setCell_other w ⟨g, o, none⟩ k u (fun e => hk (by simp [e]))⟩ (heap_setCell_same w g o old t u hg))

end
end Go.Proofs.YtnghhfgbobpnkaoDoor
