/-
  Rows of structs in memory: m cells an element, as a function of the element tells them.
-/
import Derived.Test.YtfnneillakdopabOwn
import Derived.Test.YtfnneillakdopabBw
import Derived.WalkSmall
import Derived.Laws.OwnMore
namespace Go.Proofs.Ytfnneillakdopab
open Go.RowKit

section
variable {α : Type} {f : α → List Value} {m : Nat}

def flatR (f : α → List Value) (xs : List α) : List Value := xs.flatMap f
theorem flatR_len (hm : ∀ x, (f x).length = m) (xs : List α) : (flatR f xs).length = xs.length * m := by
  induction xs with
  | nil => simp [flatR]
  | cons x xs ih =>
    have e : flatR f (x :: xs) = f x ++ flatR f xs := rfl
    rw [e, List.length_append, hm, ih, List.length_cons, Nat.add_mul]; omega
theorem flatR_append (xs ys : List α) : flatR f (xs ++ ys) = flatR f xs ++ flatR f ys := by simp [flatR]
theorem flatR_at (hm : ∀ x, (f x).length = m) : ∀ (xs : List α) i (h : i < xs.length) j, j < m → (flatR f xs)[i * m + j]? = (f xs[i])[j]? := by
  intro xs
  induction xs with
  | nil => intro i h; simp at h
  | cons x xs ih =>
    intro i h j hj
    have e : flatR f (x :: xs) = f x ++ flatR f xs := rfl
    rw [e]
    cases i with
    | zero => rw [Nat.zero_mul, Nat.zero_add, List.getElem?_append_left (by rw [hm]; exact hj)]; rfl
    | succ i =>
      have h' : i < xs.length := by simpa using h
      have e2 : (i + 1) * m + j = (f x).length + (i * m + j) := by rw [hm, Nat.add_mul]; omega
      rw [e2, List.getElem?_append_right (by omega), Nat.add_sub_cancel_left, ih i h' j hj]; rfl

/-- a row that can be read: these elements -/
def RowsR (w : World) (v : Value) (m : Nat) (f : α → List Value) (xs : List α) : Prop :=
  ∃ a cap, v = .slice a xs.length cap ∧ (0 < xs.length → ∃ g off, a = some ⟨g, off, none⟩ ∧ g < w.heap.size ∧
    ∀ i (h : i < xs.length) j, j < m → w.cell? ⟨g, off + i * m + j, none⟩ = (f xs[i])[j]?)
theorem RowsR.below {w w' : World} {v : Value} {xs : List α} (h : RowsR w v m f xs) (hb : Below w.heap.size w w') : RowsR w' v m f xs := by
  obtain ⟨a, cap, rfl, hr⟩ := h
  refine ⟨a, cap, rfl, fun hl => ?_⟩
  obtain ⟨g, off, rfl, hg, hc⟩ := hr hl
  refine ⟨g, off, rfl, Nat.lt_of_lt_of_le hg hb.size, fun i hi j hj => ?_⟩
  rw [hb.cell (by exact hg)]
  exact hc i hi j hj

/-- a row that the call made can be read -/
theorem rows_of_own (hm : ∀ x, (f x).length = m) {w : World} {base : Nat} {e : TypeId} {v : Value} {xs : List α} (h : w.ownsRow base e m v xs.length (flatR f xs)) : RowsR w v m f xs := by
  obtain ⟨hl, ⟨rfl, h0⟩ | ⟨g, cap, cur, rfl, hb, hh, hn, hc, hs, ht⟩⟩ := h
  · exact ⟨none, 0, by rw [h0], fun hp => by omega⟩
  · refine ⟨_, cap, rfl, fun _ => ⟨g, 0, rfl, ?_, fun i hi j hj => ?_⟩⟩
    · rcases Nat.lt_or_ge g w.heap.size with h | h
      · exact h
      · rw [Array.getElem?_eq_none h] at hh; cases hh
    · have hf := flatR_at hm xs i hi j hj
      have hlt : i * m + j < xs.length * m := by
        have := Nat.mul_le_mul_right m (show i + 1 ≤ xs.length from hi)
        rw [Nat.add_mul] at this; omega
      rw [← ht, List.getElem?_take_of_lt hlt] at hf
      rw [cell_of_row w g _ cur _ _ hh]
      simpa using hf

/-- as far as place k the row ys is the elements xs -/
def upToR (f : α → List Value) (m : Nat) (xs : List α) (ys : List Value) (k : Nat) : Prop := ys.length = xs.length * m ∧ ∀ j, j < k * m → ys[j]? = (flatR f xs)[j]?
theorem upToR_zero {xs : List α} {ys : List Value} (h : ys.length = xs.length * m) : upToR f m xs ys 0 := ⟨h, fun j hj => by omega⟩
theorem upToR_all (hm : ∀ x, (f x).length = m) {xs : List α} {ys : List Value} (h : upToR f m xs ys xs.length) : ys = flatR f xs := by
  apply List.ext_getElem?
  intro j
  by_cases hj : j < xs.length * m
  · exact h.2 j hj
  · rw [List.getElem?_eq_none (by rw [h.1]; omega), List.getElem?_eq_none (by rw [flatR_len hm]; omega)]
/-- one more element has been set, whatever else stands behind it -/
theorem upToR_step (hm : ∀ x, (f x).length = m) {xs : List α} {ys zs : List Value} {k : Nat} (h : upToR f m xs ys k) (hk : k < xs.length) (hl : zs.length = ys.length)
    (hold : ∀ j, j < k * m → zs[j]? = ys[j]?) (hnew : ∀ j, j < m → zs[k * m + j]? = (f xs[k])[j]?) : upToR f m xs zs (k + 1) := by
  refine ⟨by rw [hl, h.1], fun j hj => ?_⟩
  by_cases h1 : j < k * m
  · rw [hold j h1]; exact h.2 j h1
  · have e : j = k * m + (j - k * m) := by omega
    have hj2 : j - k * m < m := by rw [Nat.add_mul] at hj; omega
    rw [e, hnew _ hj2, flatR_at hm xs k hk _ hj2]
end

/-- a cell of a row of the call's own, and what may be done with it -/
theorem own_cell {w : World} {base g n cap m : Nat} {e : TypeId} {xs : List Value} (h : w.ownsRow base e m (.slice (some ⟨g, 0, none⟩) n cap) n xs) (k : Nat) (hk : k < n * m) :
    w.cell? ⟨g, k, none⟩ = xs[k]? ∧ w.frozen? ⟨g, k, none⟩ = false := ⟨h.cellAt _ hk, h.frozenAt _⟩

/-- three cells of a row of the call's own, set one behind the other -/
theorem own_three {w : World} {base g n cap : Nat} {e : TypeId} {xs : List Value} (h : w.ownsRow base e 3 (.slice (some ⟨g, 0, none⟩) n cap) n xs) (k : Nat) (hk : k < n) (a b c : Value) :
    ∃ u0 u1 u2, (w.cell? ⟨g, k * 3, none⟩ = some u0 ∧ w.frozen? ⟨g, k * 3, none⟩ = false) ∧ (w.cell? ⟨g, k * 3 + 1, none⟩ = some u1 ∧ (w.setCell ⟨g, k * 3, none⟩ a).cell? ⟨g, k * 3 + 1, none⟩ = some u1 ∧ (w.setCell ⟨g, k * 3, none⟩ a).frozen? ⟨g, k * 3 + 1, none⟩ = false) ∧
      (w.cell? ⟨g, k * 3 + 2, none⟩ = some u2 ∧ ((w.setCell ⟨g, k * 3, none⟩ a).setCell ⟨g, k * 3 + 1, none⟩ b).cell? ⟨g, k * 3 + 2, none⟩ = some u2 ∧ ((w.setCell ⟨g, k * 3, none⟩ a).setCell ⟨g, k * 3 + 1, none⟩ b).frozen? ⟨g, k * 3 + 2, none⟩ = false) ∧
      (((w.setCell ⟨g, k * 3, none⟩ a).setCell ⟨g, k * 3 + 1, none⟩ b).setCell ⟨g, k * 3 + 2, none⟩ c).ownsRow base e 3 (.slice (some ⟨g, 0, none⟩) n cap) n (((xs.set (k * 3) a).set (k * 3 + 1) b).set (k * 3 + 2) c) ∧
      w.grownBy (((w.setCell ⟨g, k * 3, none⟩ a).setCell ⟨g, k * 3 + 1, none⟩ b).setCell ⟨g, k * 3 + 2, none⟩ c) (some g) := by
  have hl := h.1
  have b0 : k * 3 < xs.length := by omega
  have b1 : k * 3 + 1 < xs.length := by omega
  have b2 : k * 3 + 2 < xs.length := by omega
  have s0 := h.stored (k * 3) a
  have s1 := s0.1.stored (k * 3 + 1) b
  have s2 := s1.1.stored (k * 3 + 2) c
  refine ⟨xs[k * 3], xs[k * 3 + 1], xs[k * 3 + 2], ⟨?_, h.frozenAt _⟩, ⟨?_, ?_, s0.1.frozenAt _⟩, ⟨?_, ?_, s1.1.frozenAt _⟩, s2.1, grown_trans (grown_trans s0.2 s1.2) s2.2⟩
  · rw [h.cellAt _ (by omega), List.getElem?_eq_getElem b0]
  · rw [h.cellAt _ (by omega), List.getElem?_eq_getElem b1]
  · rw [s0.1.cellAt _ (by omega), List.getElem?_set_ne (by omega), List.getElem?_eq_getElem b1]
  · rw [h.cellAt _ (by omega), List.getElem?_eq_getElem b2]
  · rw [s1.1.cellAt _ (by omega), List.getElem?_set_ne (by omega), List.getElem?_set_ne (by omega), List.getElem?_eq_getElem b2]

/-- a slice is a slice of this many -/
theorem own_form {w : World} {base n m : Nat} {e : TypeId} {v : Value} {xs : List Value} (h : w.ownsRow base e m v n xs) : ∃ a cap, v = .slice a n cap ∧ (0 < n → ∃ g, a = some ⟨g, 0, none⟩) := by
  obtain ⟨hl, ⟨rfl, h0⟩ | ⟨g, cap, cur, rfl, _⟩⟩ := h
  · exact ⟨none, 0, by rw [h0], fun hp => by omega⟩
  · exact ⟨_, cap, rfl, fun _ => ⟨g, rfl⟩⟩

/-- a number, one cell -/
def intF (n : Int) : List Value := [.int .i64 n]
theorem intF_len (n : Int) : (intF n).length = 1 := rfl
theorem flat_int (xs : List Int) : flatR intF xs = xs.map (Value.int .i64) := by
  induction xs with
  | nil => rfl
  | cons x xs ih => simp [flatR, intF] at ih ⊢; exact ih

/-- a row that was made later lies elsewhere -/
theorem own_ne {w1 w2 : World} {b1 b2 : Nat} {e1 e2 : TypeId} {m1 m2 n1 n2 : Nat} {v1 v2 : Value} {xs1 xs2 : List Value} (h1 : w1.ownsRow b1 e1 m1 v1 n1 xs1) (h2 : w2.ownsRow b2 e2 m2 v2 n2 xs2) (h : w1.heap.size ≤ b2) : v2.ownBlock = none ∨ v2.ownBlock ≠ v1.ownBlock := by
  cases e : v2.ownBlock with
  | none => exact Or.inl rfl
  | some g =>
    refine Or.inr fun he => ?_
    have l2 := (h2.lt g e).1
    have l1 := (h1.lt g he.symm).2
    omega
theorem own_ne' {w1 w2 : World} {b1 b2 : Nat} {e1 e2 : TypeId} {m1 m2 n1 n2 : Nat} {v1 v2 : Value} {xs1 xs2 : List Value} (h1 : w1.ownsRow b1 e1 m1 v1 n1 xs1) (h2 : w2.ownsRow b2 e2 m2 v2 n2 xs2) (h : w1.heap.size ≤ b2) : v1.ownBlock = none ∨ v1.ownBlock ≠ v2.ownBlock := by
  cases e : v1.ownBlock with
  | none => exact Or.inl rfl
  | some g =>
    refine Or.inr fun he => ?_
    have l2 := (h2.lt g he.symm).1
    have l1 := (h1.lt g e).2
    omega
theorem one_int (x : Int) : ∀ u ∈ ([.int .i64 x] : List Value), u.oneCell' = true := by
  intro u hu; simp at hu; subst hu; rfl

/-- a block of three cells, written cell by cell -/
theorem blk_three {w : World} {N : Nat} {u0 u1 u2 : Value} {t : TypeId} (h : w.heap[N]? = some (.cells #[u0, u1, u2] t (0, 0))) (a b c : Value) :
    (w.cell? ⟨N, 0, none⟩ = some u0 ∧ w.frozen? ⟨N, 0, none⟩ = false) ∧ ((w.setCell ⟨N, 0, none⟩ a).cell? ⟨N, 1, none⟩ = some u1 ∧ (w.setCell ⟨N, 0, none⟩ a).frozen? ⟨N, 1, none⟩ = false) ∧
      (((w.setCell ⟨N, 0, none⟩ a).setCell ⟨N, 1, none⟩ b).cell? ⟨N, 2, none⟩ = some u2 ∧ ((w.setCell ⟨N, 0, none⟩ a).setCell ⟨N, 1, none⟩ b).frozen? ⟨N, 2, none⟩ = false) ∧
      (((w.setCell ⟨N, 0, none⟩ a).setCell ⟨N, 1, none⟩ b).setCell ⟨N, 2, none⟩ c).heap[N]? = some (.cells #[a, b, c] t (0, 0)) ∧
      w.grownBy (((w.setCell ⟨N, 0, none⟩ a).setCell ⟨N, 1, none⟩ b).setCell ⟨N, 2, none⟩ c) (some N) := by
  have h0 : (w.setCell ⟨N, 0, none⟩ a).heap[N]? = some (.cells #[a, u1, u2] t (0, 0)) := heap_setCell_same w N 0 _ t a h
  have h1 : ((w.setCell ⟨N, 0, none⟩ a).setCell ⟨N, 1, none⟩ b).heap[N]? = some (.cells #[a, b, u2] t (0, 0)) := heap_setCell_same _ N 1 _ t b h0
  have h2 : (((w.setCell ⟨N, 0, none⟩ a).setCell ⟨N, 1, none⟩ b).setCell ⟨N, 2, none⟩ c).heap[N]? = some (.cells #[a, b, c] t (0, 0)) := heap_setCell_same _ N 2 _ t c h1
  refine ⟨⟨?_, frozen_of_row w N 0 _ _ h⟩, ⟨?_, frozen_of_row _ N 1 _ _ h0⟩, ⟨?_, frozen_of_row _ N 2 _ _ h1⟩, h2, grown_trans (grown_trans (set_grown w N 0 a) (set_grown _ N 1 b)) (set_grown _ N 2 c)⟩
  · rw [cell_of_row w N 0 _ _ (0, 0) h]; rfl
  · rw [cell_of_row _ N 1 _ _ (0, 0) h0]; rfl
  · rw [cell_of_row _ N 2 _ _ (0, 0) h1]; rfl

theorem own_far {w : World} {base B m n : Nat} {v : Value} {xs : List Value} {e : TypeId} (h : w.ownsRow base e m v n xs) (hB : B < base) : v.ownBlock = none ∨ v.ownBlock ≠ some B := by
  cases e0 : v.ownBlock with
  | none => exact .inl rfl
  | some k => right; intro e; have := (h.lt k e0).1; have := Option.some.inj e; omega

end Go.Proofs.Ytfnneillakdopab
