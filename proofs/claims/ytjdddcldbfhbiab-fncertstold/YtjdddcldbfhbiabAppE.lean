/-
  A row appended to that may still be the empty one that it began as: behind it the row lies above a place that was told.
-/
import Derived.Test.YtjdddcldbfhbiabVoteX
import Derived.Laws.AppendOwn
import Derived.Laws.Cells
import Derived.OwnWalk
namespace Go.Proofs.Ytjdddcldbfhbiab
open Go.RowKit Num

theorem run_append_empty {P : Program} {t ty e : TypeId} {i : TypeInfo} (ht : P.underlying t = some (.slice e)) (hi : P.info? e = some i) (hby : i.bytes = 32) (w : World) (p a : Addr) (c : Nat) :
    (Builtin.append_ #[t, t] ty #[.slice (some p) 0 0, .slice (some a) 1 c]).run P w = (Builtin.append_ #[t, t] ty #[.slice none 0 0, .slice (some a) 1 c]).run P w := by
  have hl : ∀ w, (loadCells p 0).run P w = .ok #[] w := fun w => by simpa using run_loadCells_list (P := P) w p [] (by simp)
  have hc : ¬ 281474976710656 < Builtin.nextslicecap 1 0 * 32 := by decide
  simp [Builtin.append_, run_underlying ht, sizeOf, typeInfo, hi, hby, Builtin.lenOf, Builtin.firstCells, hl, hc]

/-- a row of votes: the empty one that it began as, or one that lies from base on -/
def RowE (w : World) (p : Addr) (base : Nat) (v : Value) (xs : List VT) : Prop := (v = .slice (some p) 0 0 ∧ xs = []) ∨ w.ownsRow base 54 4 v xs.length (flatR voteF xs)
theorem RowE.kept {w w' : World} {p : Addr} {base : Nat} {v : Value} {xs : List VT} {r : Option Nat} (h : RowE w p base v xs) (hg : w.grownBy w' r) (hr : ∀ g, r = some g → g < base) : RowE w' p base v xs := by
  rcases h with h | h
  · exact Or.inl h
  · refine Or.inr (World.ownsRow.kept h hg ?_)
    cases e : v.ownBlock with
    | none => exact Or.inl rfl
    | some g => exact Or.inr fun e2 => by have := (h.lt g e).1; have := hr g e2.symm; omega
theorem RowE.below {w w' : World} {p : Addr} {base : Nat} {v : Value} {xs : List VT} (h : RowE w p base v xs) (hb : Below w.heap.size w w') : RowE w' p base v xs := by
  rcases h with h | h
  · exact Or.inl h
  · exact Or.inr (own_kept h hb)
theorem RowE.far {w w' : World} {p : Addr} {base N : Nat} {v : Value} {xs : List VT} (h : RowE w p base v xs) (hg : w.grownBy w' (some N)) (hN : w.heap.size ≤ N ∨ ∀ g, v.ownBlock = some g → g ≠ N) : RowE w' p base v xs := by
  rcases h with h | h
  · exact Or.inl h
  · refine Or.inr (World.ownsRow.kept h hg ?_)
    cases e : v.ownBlock with
    | none => exact Or.inl rfl
    | some g =>
      refine Or.inr fun e2 => ?_
      have e3 := Option.some.inj e2
      rcases hN with hN | hN
      · have := (h.lt g e).2; omega
      · exact hN g e e3

theorem wpList_append_voteE (w : World) {ops : Array Oper} {rest : List Oper} {o : Oper} {a : Act} {Q : Exit → Act → World → Prop} (hgd : o.guard = none) (s x : Operand) (t : TypeId)
    (ho : o.op = .call { callee := .builtin .append, args := #[s, x], argTypes := #[t, t] })
    (p : Addr) (base : Nat) (i : TypeInfo) (z : Value) (ht : Try.prog.underlying t = some (.slice 54)) (hi : Try.prog.info? 54 = some i) (hz : i.zero = some z) (hsize : i.size = 4) (hby : i.bytes = 32) (hzs : z.cells.size = 4)
    (v : Value) (xs : List VT) (hs : a.eval s = v) (hrow : RowE w p base v xs)
    (ad : Addr) (y : VT) (hx : a.eval x = .slice (some ad) 1 1) (hnews : ∀ j u, (voteF y)[j]? = some u → w.cell? (ad.add j) = some u)
    (h63 : xs.length + 1 ≤ maxLen) (hbytes : (xs.length + 1) * 32 ≤ 140737488355328) (hbase : base ≤ w.heap.size)
    (h : ∀ v' w' r, w'.ownsRow base 54 4 v' (xs.length + 1) (flatR voteF xs ++ voteF y) → w.grownBy w' r → (∀ g, r = some g → base ≤ g) → wpList Try.prog ops Q rest (a.put o.dst v') w') : wpList Try.prog ops Q (o :: rest) a w := by
  rcases hrow with ⟨rfl, rfl⟩ | hown
  · obtain ⟨v', w', hrun, hown, hg, _⟩ := run_append_own w base t o.type 54 i z 4 32 ht hi hz hsize hby hzs (by decide) (.slice none 0 0) 0 [] (World.ownsRow_nil _ _ _ _) ad 1 1 (voteF y) rfl hnews (voteF_one y) (by simpa using h63) (by simp) hbase
    rw [← run_append_empty ht hi hby w p ad 1] at hrun
    refine wpList_plain hgd fun K' hK' => ?_
    unfold Oper.wp execOp
    simp only [ho, resolve, invoke, builtin, Sem.run_bind, Sem.run_pure, Result.andThen_ok, List.map_toArray, List.map_cons, List.map_nil, hs, hx, hrun]
    exact hK' _ _ (h v' w' _ (by simpa [flatR] using hown) hg (fun g hg => by cases hg))
  · exact wpList_append_own w hgd s x t ho base 54 i z 4 32 ht hi hz hsize hby hzs (by decide) v _ _ hs hown ad 1 1 (voteF y) hx rfl hnews (voteF_one y) h63 hbytes hbase fun v' w' h1 h2 _ => h v' w' _ h1 h2 fun g hg => (hown.lt g hg).1

end Go.Proofs.Ytjdddcldbfhbiab
