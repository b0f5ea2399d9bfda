/-
  A store of a whole struct into its own block, and of one cell of it, in a walk: the world behind it is named anew.
-/
import Derived.Test.YtgljieaichkmiabFloatX
namespace Go.Proofs.Ytgljieaichkmiab
open Go.RowKit
section
variable {P : Program} {ops : Array Oper} {rest : List Oper} {o : Oper} {a : Act} {w : World} {Q : Exit → Act → World → Prop}

theorem wpList_store_blk (hgd : o.guard = none) (ty : TypeId) (x y : Operand) (ho : o.op = .store ty x y) (g : Nat) (cells : Array Value) (hx : a.eval x = .pointer (some ⟨g, 0, none⟩)) (hy : a.eval y = .agg cells)
    (t : TypeId) (old : Array Value) (hg : w.heap[g]? = some (.cells old t (0, 0))) (hi : (P.info? ty).map (·.size) = some cells.size) (hold : old.size = cells.size) (h1 : cells.all (·.oneCell') = true)
    (h : ∀ w', w.grownBy w' (some g) → w'.heap[g]? = some (.cells cells t (0, 0)) → w'.heap.size = w.heap.size → wpList P ops Q rest (a.put o.dst undef) w') : wpList P ops Q (o :: rest) a w := by
  obtain ⟨g1, g2, g3⟩ := setRow_grown (cells := cells) hg
  exact wpList_store_row hgd ty x y ho g cells hx hy t old hg hi hold h1 (h _ g1 g2 g3)

end
end Go.Proofs.Ytgljieaichkmiab
