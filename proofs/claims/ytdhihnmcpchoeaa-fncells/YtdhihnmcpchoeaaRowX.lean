/-
  Rows of structs in memory: m cells an element, as a function of the element tells them.
-/
import Derived.Test.YtdhihnmcpchoeaaOwn
import Derived.Test.YtdhihnmcpchoeaaBw
import Derived.WalkSmall
import Derived.Laws.OwnMore
namespace Go.Proofs.Ytdhihnmcpchoeaa
open Go.RowKit

section
variable {α : Type} {f : α → List Value} {m : Nat}

def flatR (f : α → List Value) (xs : List α) : List Value := xs.flatMap f
theorem flatR_len (hm : ∀ x, (f x).length = m) (xs : List α) : (flatR f xs).length = xs.length * m := by
  induction xs with
  | nil => simp [flatR]
  | cons x xs ih =>
    have e : flatR f (x :: xs) = f x ++ flatR f xs := rfl
    rw [e, List.length_append, hm, ih, List.length_cons, Nat.add_mul]; omega
theorem flatR_append (xs ys : List α) : flatR f (xs ++ ys) = flatR f xs ++ flatR f ys := by simp [flatR]
theorem flatR_at (hm : ∀ x, (f x).length = m) : ∀ (xs : List α) i (h : i < xs.length) j, j < m → (flatR f xs)[i * m + j]? = (f xs[i])[j]? := by
  intro xs
  induction xs with
  | nil => intro i h; simp at h
  | cons x xs ih =>
    intro i h j hj
    have e : flatR f (x :: xs) = f x ++ flatR f xs := rfl
    rw [e]
    cases i with
    | zero => rw [Nat.zero_mul, Nat.zero_add, List.getElem?_append_left (by rw [hm]; exact hj)]; rfl
    | succ i =>
      have h' : i < xs.length := by simpa using h
      have e2 : (i + 1) * m + j = (f x).length + (i * m + j) := by rw [hm, Nat.add_mul]; omega
      rw [e2, List.getElem?_append_right (by omega), Nat.add_sub_cancel_left, ih i h' j hj]; rfl

/-- a row that can be read: these elements -/
def RowsR (w : World) (v : Value) (m : Nat) (f : α → List Value) (xs : List α) : Prop :=
  ∃ a cap, v = .slice a xs.length cap ∧ (0 < xs.length → ∃ g off, a = some ⟨g, off, none⟩ ∧ g < w.heap.size ∧
    ∀ i (h : i < xs.length) j, j < m → w.cell? ⟨g, off + i * m + j, none⟩ = (f xs[i])[j]?)
theorem RowsR.below {w w' : World} {v : Value} {xs : List α} (h : RowsR w v m f xs) (hb : Below w.heap.size w w') : RowsR w' v m f xs := by
  obtain ⟨a, cap, rfl, hr⟩ := h
  refine ⟨a, cap, rfl, fun hl => ?_⟩
  obtain ⟨g, off, rfl, hg, hc⟩ := hr hl
  refine ⟨g, off, rfl, Nat.lt_of_lt_of_le hg hb.size, fun i hi j hj => ?_⟩
  rw [hb.cell (by exact hg)]
  exact hc i hi j hj

/-- a row that the call made can be read -/
theorem rows_of_own (hm : ∀ x, (f x).length = m) {w : World} {base : Nat} {e : TypeId} {v : Value} {xs : List α} (h : w.ownsRow base e m v xs.length (flatR f xs)) : RowsR w v m f xs := by
  obtain ⟨hl, ⟨rfl, h0⟩ | ⟨g, cap, cur, rfl, hb, hh, hn, hc, hs, ht⟩⟩ := h
  · exact ⟨none, 0, by rw [h0], fun hp => by omega⟩
  · refine ⟨_, cap, rfl, fun _ => ⟨g, 0, rfl, ?_, fun i hi j hj => ?_⟩⟩
    · rcases Nat.lt_or_ge g w.heap.size with h | h
      · exact h
      · rw [Array.getElem?_eq_none h] at hh; cases hh
    · have hf := flatR_at hm xs i hi j hj
      have hlt : i * m + j < xs.length * m := by
        have := Nat.mul_le_mul_right m (show i + 1 ≤ xs.length from hi)
        rw [Nat.add_mul] at this; omega
      rw [← ht, List.getElem?_take_of_lt hlt] at hf
      rw [cell_of_row w g _ cur _ _ hh]
      simpa using hf

/-- as far as place k the row ys is the elements xs -/
def upToR (f : α → List Value) (m : Nat) (xs : List α) (ys : List Value) (k : Nat) : Prop := ys.length = xs.length * m ∧ ∀ j, j < k * m → ys[j]? = (flatR f xs)[j]?
theorem upToR_zero {xs : List α} {ys : List Value} (h : ys.length = xs.length * m) : upToR f m xs ys 0 := ⟨h, fun j hj => by omega⟩
theorem upToR_all (hm : ∀ x, (f x).length = m) {xs : List α} {ys : List Value} (h : upToR f m xs ys xs.length) : ys = flatR f xs := by
  apply List.ext_getElem?
  intro j
  by_cases hj : j < xs.length * m
  · exact h.2 j hj
  · rw [List.getElem?_eq_none (by rw [h.1]; omega), List.getElem?_eq_none (by rw [flatR_len hm]; omega)]
/-- one more element has been set, whatever else stands behind it -/
theorem upToR_step (hm : ∀ x, (f x).length = m) {xs : List α} {ys zs : List Value} {k : Nat} (h : upToR f m xs ys k) (hk : k < xs.length) (hl : zs.length = ys.length)
    (hold : ∀ j, j < k * m → zs[j]? = ys[j]?) (hnew : ∀ j, j < m → zs[k * m + j]? = (f xs[k])[j]?) : upToR f m xs zs (k + 1) := by
  refine ⟨by rw [hl, h.1], fun j hj => ?_⟩
  by_cases h1 : j < k * m
  · rw [hold j h1]; exact h.2 j h1
  · have e : j = k * m + (j - k * m) := by omega
    have hj2 : j - k * m < m := by rw [Nat.add_mul] at hj; omega
    rw [e, hnew _ hj2, flatR_at hm xs k hk _ hj2]
end

/-- a cell of a row of the call's own, and what may be done with it -/
theorem own_cell {w : World} {base g n cap m : Nat} {e : TypeId} {xs : List Value} (h : w.ownsRow base e m (.slice (some ⟨g, 0, none⟩) n cap) n xs) (k : Nat) (hk : k < n * m) :
    w.cell? ⟨g, k, none⟩ = xs[k]? ∧ w.frozen? ⟨g, k, none⟩ = false := ⟨h.cellAt _ hk, h.frozenAt _⟩

/-- a slice is a slice of this many -/
theorem own_form {w : World} {base n m : Nat} {e : TypeId} {v : Value} {xs : List Value} (h : w.ownsRow base e m v n xs) : ∃ a cap, v = .slice a n cap ∧ (0 < n → ∃ g, a = some ⟨g, 0, none⟩) := by
  obtain ⟨hl, ⟨rfl, h0⟩ | ⟨g, cap, cur, rfl, _⟩⟩ := h
  · exact ⟨none, 0, by rw [h0], fun hp => by omega⟩
  · exact ⟨_, cap, rfl, fun _ => ⟨g, rfl⟩⟩

/-- a number, one cell -/
def intF (n : Int) : List Value := [.int .i64 n]
theorem intF_len (n : Int) : (intF n).length = 1 := rfl
theorem flat_int (xs : List Int) : flatR intF xs = xs.map (Value.int .i64) := by
  induction xs with
  | nil => rfl
  | cons x xs ih => simp [flatR, intF] at ih ⊢; exact ih

/-- a row that was made later lies elsewhere -/
theorem own_ne {w1 w2 : World} {b1 b2 : Nat} {e1 e2 : TypeId} {m1 m2 n1 n2 : Nat} {v1 v2 : Value} {xs1 xs2 : List Value} (h1 : w1.ownsRow b1 e1 m1 v1 n1 xs1) (h2 : w2.ownsRow b2 e2 m2 v2 n2 xs2) (h : w1.heap.size ≤ b2) : v2.ownBlock = none ∨ v2.ownBlock ≠ v1.ownBlock := by
  cases e : v2.ownBlock with
  | none => exact Or.inl rfl
  | some g =>
    refine Or.inr fun he => ?_
    have l2 := (h2.lt g e).1
    have l1 := (h1.lt g he.symm).2
    omega
theorem own_ne' {w1 w2 : World} {b1 b2 : Nat} {e1 e2 : TypeId} {m1 m2 n1 n2 : Nat} {v1 v2 : Value} {xs1 xs2 : List Value} (h1 : w1.ownsRow b1 e1 m1 v1 n1 xs1) (h2 : w2.ownsRow b2 e2 m2 v2 n2 xs2) (h : w1.heap.size ≤ b2) : v1.ownBlock = none ∨ v1.ownBlock ≠ v2.ownBlock := by
  cases e : v1.ownBlock with
  | none => exact Or.inl rfl
  | some g =>
    refine Or.inr fun he => ?_
    have l2 := (h2.lt g he.symm).1
    have l1 := (h1.lt g e).2
    omega
theorem one_int (x : Int) : ∀ u ∈ ([.int .i64 x] : List Value), u.oneCell' = true := by
  intro u hu; simp at hu; subst hu; rfl

end Go.Proofs.Ytdhihnmcpchoeaa
