/-
  Rows of replicas marked, and looked at again: the loops. (Made by gpm15.py.)
-/
import Derived.Test.YtcfgfhodbjakoavPeersN
import Derived.Test.YtcfgfhodbjakoavTreeX
namespace Go.Proofs.Ytcfgfhodbjakoav
open Go.RowKit Num

/-- a number stored into a cell of a row -/
theorem wpList_store_int {P : Program} {ops : Array Oper} {rest : List Oper} {op : Oper} {a : Act} {w : World} {Q : Exit → Act → World → Prop} (hgd : op.guard = none) (ty : TypeId) (x y : Operand) (ho : op.op = .store ty x y) (base : Nat) (e : TypeId) (m n cap g o : Nat) (u : Int) (xs : List Value) (hx : a.eval x = .pointer (some ⟨g, o, none⟩)) (hy : a.eval y = .int .i64 u)
    (hown : w.ownsRow base e m (.slice (some ⟨g, 0, none⟩) n cap) n xs) (hk : o < n * m) (hi : (P.info? ty).map (·.size) = some 1)
    (h : ∀ w', w.grownBy w' (some g) → w'.ownsRow base e m (.slice (some ⟨g, 0, none⟩) n cap) n (xs.set o (.int .i64 u)) → wpList P ops Q rest (a.put op.dst undef) w') : wpList P ops Q (op :: rest) a w :=
  wpList_store_own hgd ty x y ho base e m n cap g o (.int .i64 u) xs hx hy hown hk hi rfl h

/-- a cell of a row loaded -/
theorem wpList_load_own {P : Program} {ops : Array Oper} {rest : List Oper} {op : Oper} {a : Act} {w : World} {Q : Exit → Act → World → Prop} (hgd : op.guard = none) (ty : TypeId) (x : Operand) (ho : op.op = .load ty x) (base : Nat) (e : TypeId) (m n cap g o : Nat) (u : Value) (xs : List Value) (hx : a.eval x = .pointer (some ⟨g, o, none⟩))
    (hown : w.ownsRow base e m (.slice (some ⟨g, 0, none⟩) n cap) n xs) (hk : o < n * m) (hu : xs[o]? = some u) (d : TypeDesc) (ht : P.underlying ty = some d) (hd : d.isRow = false)
    (h : wpList P ops Q rest (a.put op.dst u) w) : wpList P ops Q (op :: rest) a w := by
  refine wpList_plain hgd fun K hK => ?_
  have hcell : w.cell? ⟨g, o, none⟩ = some u := by rw [hown.cellAt o hk, hu]
  have hagg : (isAgg ty).run P w = .ok false w := by
    unfold isAgg
    rw [Sem.run_bind, run_underlying ht w]
    cases d <;> simp_all
  have hrun : (loadVar ty ⟨g, o, none⟩).run P w = .ok u w := by simp [loadVar, Sem.run_bind, hagg, hcell]
  unfold Oper.wp execOp
  simp only [ho, hx, Instr.loadAt, Instr.sureAddr, Sem.run_bind, Sem.run_pure, Result.andThen_ok, hrun]
  exact hK _ _ h


end Go.Proofs.Ytcfgfhodbjakoav
