/-
  Marks laid into rows of votes and of letters, and asked for: each cell has its number. (Made by gm9.py.)
-/
import Derived.Test.YtjdddcldbfhbiasJ0
import Derived.Test.YtjdddcldbfhbiasLetOpen
namespace Go.Proofs.Ytjdddcldbfhbias
open Go.RowKit Num

/-- N cells with the numbers from k on -/
def icells (k N : Nat) : List Value := (List.range N).map fun (i : Nat) => Value.int .i64 ((k : Int) + (i : Int))
theorem icells_len (k N : Nat) : (icells k N).length = N := by simp [icells]
theorem icells_at {k N i : Nat} (h : i < N) : (icells k N)[i]? = some (.int .i64 ((k : Int) + (i : Int))) := by simp [icells, h]
/-- the first j of N cells have their marks -/
def upC (k N : Nat) (ys : List Value) (j : Nat) : Prop := ys.length = N ∧ ∀ i, i < j → ys[i]? = some (.int .i64 ((k : Int) + (i : Int)))
theorem upC_step {k N j : Nat} {ys : List Value} (h : upC k N ys j) (hj : j < N) : upC k N (ys.set j (.int .i64 ((k : Int) + (j : Int)))) (j + 1) := by
  refine ⟨by simp [h.1], fun i hi => ?_⟩
  by_cases e : j = i
  · subst e; rw [List.getElem?_set_self (by rw [h.1]; exact hj)]
  · rw [List.getElem?_set_ne e]; exact h.2 i (by omega)
theorem upC_all {k N : Nat} {ys : List Value} (h : upC k N ys N) : ys = icells k N := by
  apply List.ext_getElem?
  intro i
  by_cases hi : i < N
  · rw [h.2 i hi, icells_at hi]
  · rw [List.getElem?_eq_none (by rw [h.1]; omega), List.getElem?_eq_none (by rw [icells_len]; omega)]
/-- a row whose first j cells have their marks -/
def MkS (base : Nat) (e : TypeId) (c : Nat) (v : Value) (n k j : Nat) (w : World) : Prop := ∃ ys, w.ownsRow base e c v n ys ∧ upC k (n * c) ys j
theorem MkS.cast {base : Nat} {e : TypeId} {c : Nat} {v : Value} {n k j j' : Nat} {w : World} (h : MkS base e c v n k j w) (hj : j = j') : MkS base e c v n k j' w := hj ▸ h
theorem MkS.all {base : Nat} {e : TypeId} {c : Nat} {v : Value} {n k j : Nat} {w : World} (h : MkS base e c v n k j w) (hj : j = n * c) : w.ownsRow base e c v n (icells k (n * c)) := by
  subst hj
  obtain ⟨ys, ho, hu⟩ := h
  rw [← upC_all hu]; exact ho

section
variable {P : Program} {ops : Array Oper} {rest : List Oper} {op : Oper} {a : Act} {w : World} {Q : Exit → Act → World → Prop}
theorem wpList_mark (hgd : op.guard = none) (ty : TypeId) (x y : Operand) (ho : op.op = .store ty x y) (base : Nat) (e : TypeId) (c n cap g k j o : Nat) (u : Int) (hm : MkS base e c (.slice (some ⟨g, 0, none⟩) n cap) n k j w) (hx : a.eval x = .pointer (some ⟨g, o, none⟩)) (hok : o = j) (hy : a.eval y = .int .i64 u) (huk : u = (k : Int) + (j : Int))
    (hj : j < n * c) (hi : (P.info? ty).map (·.size) = some 1)
    (h : ∀ w', w.grownBy w' (some g) → MkS base e c (.slice (some ⟨g, 0, none⟩) n cap) n k (j + 1) w' → wpList P ops Q rest (a.put op.dst undef) w') : wpList P ops Q (op :: rest) a w := by
  subst hok huk
  obtain ⟨ys, hown, hu⟩ := hm
  exact wpList_store_own hgd ty x y ho base e c n cap g o _ ys hx hy hown hj hi rfl fun w' hg hw => h w' hg ⟨_, hw, upC_step hu hj⟩
end



end Go.Proofs.Ytjdddcldbfhbias
