/-
  A row of structs that came in, as the walks want it: each element by what a reader of its type tells.
-/
import Derived.Test.YtjdddcldbfhbialRowX
import Derived.ProofKit
import Derived.OpenShut
import Derived.ChangeOld
import Derived.Deep.SlicePairs
import Derived.Deep.Strs
namespace Go.Proofs.Ytjdddcldbfhbial
open Go.ChangeShapes Go.WideShapes Go.ChangeAt Go.RowKit

theorem choose_rows {α : Type} {good : α → Prop} {Q : Nat → α → Prop} {n : Nat} (h : ∀ i, i < n → ∃ x, good x ∧ Q i x) : ∃ xs : List α, xs.length = n ∧ (∀ x ∈ xs, good x) ∧ ∀ i (hi : i < xs.length), Q i xs[i] := by
  induction n with
  | zero => exact ⟨[], rfl, fun x hx => (by cases hx), fun i hi => (by simp at hi)⟩
  | succ n ih =>
    obtain ⟨xs, hl, hg, hq⟩ := ih fun i hi => h i (by omega)
    obtain ⟨x, hx, hQ⟩ := h n (by omega)
    refine ⟨xs ++ [x], by simp [hl], fun y hy => ?_, fun i hi => ?_⟩
    · rcases List.mem_append.1 hy with h1 | h1
      · exact hg y h1
      · simp at h1; subst h1; exact hx
    · by_cases hin : i < xs.length
      · rw [List.getElem_append_left hin]; exact hq i hin
      · have hi' : i = xs.length := by simp at hi; omega
        subst hi'
        rw [List.getElem_append_right (Nat.le_refl _)]
        simp only [Nat.sub_self, List.getElem_cons_zero]
        rw [hl]; exact hQ

theorem rows_open {H : Type} {enc : TypeId × Value → H} {α : Type} {f : α → List Value} {m : Nat} {good : α → Prop} {W : World} {t e : TypeId} (ht : Try.prog.underlying t = some (.slice e)) (hm : Try.prog.cellsOf e = m) (hpos : 0 < m)
    (hrd : ∀ n cs x, DataW.trod enc Try.prog W 0 (fun _ => true) true n e cs = some x → ∃ y, cs = f y ∧ good y) {a : Option Addr} {len cap : Nat} {d : DataW H} {p : List MemPlace}
    (h : DataW.Trod enc Try.prog W 0 (fun _ => true) true t (.slice a len cap) d p) : ∃ xs : List α, xs.length = len ∧ RowsR W (.slice a len cap) m f xs ∧ xs.length ≤ maxLen ∧ ∀ x ∈ xs, good x := by
  obtain ⟨fuel, hf⟩ := h
  rcases Deep.open_slice ht hf with ⟨hcs, _⟩ | ⟨x, l, c, mm, n, D, Pl, hcs, _, hl, hcm, hmm, _, hx⟩
  · simp [Value.cells] at hcs
    obtain ⟨rfl, rfl, rfl⟩ := hcs
    exact ⟨[], rfl, ⟨none, 0, rfl, fun h => (by simp at h)⟩, Nat.zero_le _, fun c hc => (by cases hc)⟩
  · simp [Value.cells] at hcs
    obtain ⟨rfl, rfl, rfl⟩ := hcs
    have hlm : len ≤ mm := by rw [hmm]; simp; omega
    rw [hm] at hx
    obtain ⟨xs, hxl, hg, hq⟩ := choose_rows (n := len) (good := good) (Q := fun i y => ∀ j, j < m → (f y)[j]? ≠ none ∧ W.cell? ((x.add (i * m)).add j) = (f y)[j]?) fun i hi => by
      obtain ⟨cs', h1, h2⟩ := hx i (by omega)
      obtain ⟨y, rfl, hy⟩ := hrd _ _ _ h2
      obtain ⟨_, hlen, hcell⟩ := World.cells?_some h1
      refine ⟨y, hy, fun j hj => ?_⟩
      have hj' : j < (f y).length := by omega
      have := hcell j (by omega)
      rw [List.getElem?_eq_getElem hj'] at this ⊢
      exact ⟨by simp, this⟩
    refine ⟨xs, hxl, ⟨some x, cap, by rw [hxl], fun h0 => ?_⟩, by omega, hg⟩
    obtain ⟨b, off, spot⟩ := x
    have q0 := hq 0 (by omega) 0 hpos
    obtain ⟨u, hu⟩ := Option.ne_none_iff_exists'.1 q0.1
    have c0 := q0.2
    rw [hu] at c0
    have hspot : spot = none := by
      have := World.cell?_spot c0
      unfold Addr.add at this
      split at this <;> simp_all
    subst hspot
    have hp : ∀ k, (⟨b, off, none⟩ : Addr).add k = ⟨b, off + k, none⟩ := fun k => by unfold Addr.add; split <;> simp_all
    have hlt : b < W.heap.size := by have := World.block_lt_of_cell? W _ c0; rw [hp] at this; unfold Addr.add at this; split at this <;> simp_all
    refine ⟨b, off, rfl, hlt, fun i hi j hj => ?_⟩
    have := (hq i hi j hj).2
    rw [hp] at this
    have e2 : (⟨b, off + i * m, none⟩ : Addr).add j = ⟨b, off + i * m + j, none⟩ := by unfold Addr.add; split <;> simp_all
    rw [e2] at this
    exact this

end Go.Proofs.Ytjdddcldbfhbial
