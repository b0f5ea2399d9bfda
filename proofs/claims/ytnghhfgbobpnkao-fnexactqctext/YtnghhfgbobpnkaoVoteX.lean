/-
  Votes in memory: four cells a vote; the contract of the specification's SignersOf.
-/
import Derived.Test.YtnghhfgbobpnkaoNumV
import Derived.Test.YtnghhfgbobpnkaoRowX
namespace Go.Proofs.Ytnghhfgbobpnkao
open Go.RowKit Num

/-- a vote, four cells -/
def voteF (v : VT) : List Value := [.int .i64 v.1, .int .i64 v.2.1, .int .i64 v.2.2.1, .int .i64 v.2.2.2]
theorem voteF_len (v : VT) : (voteF v).length = 4 := rfl
/-- .. as a value -/
def voteV (v : VT) : Value := .agg #[.int .i64 v.1, .int .i64 v.2.1, .int .i64 v.2.2.1, .int .i64 v.2.2.2]
theorem voteF_one (v : VT) : ∀ u ∈ voteF v, u.oneCell' = true := by
  intro u hu; unfold voteF at hu; simp at hu; rcases hu with h | h | h | h <;> subst h <;> rfl

/-- one vote is such a one -/
def saidAt (x : VT) (p v b by' : Int) : Bool := decide (x.2.2.2 = by') && (decide (x.1 = p) && (decide (x.2.1 = v) && decide (x.2.2.1 = b)))
/-- none of the first m is such a one -/
def noneTo (l : List VT) (p v b by' : Int) (m : Nat) : Prop := ∀ j (h : j < l.length), j < m → saidAt l[j] p v b by' = false
theorem said_yes {l : List VT} {p v b by' : Int} {m : Nat} (h : m < l.length) (hs : saidAt l[m] p v b by' = true) : saidV l p v b by' = true := List.any_eq_true.2 ⟨l[m], List.getElem_mem h, hs⟩
theorem said_no {l : List VT} {p v b by' : Int} (h : noneTo l p v b by' l.length) : saidV l p v b by' = false := by
  refine List.any_eq_false.2 fun x hx => ?_
  obtain ⟨j, hj, rfl⟩ := List.mem_iff_getElem.1 hx
  have := h j hj hj
  unfold saidAt at this
  rw [this]; simp
theorem noneTo_next {l : List VT} {p v b by' : Int} {m : Nat} (h : noneTo l p v b by' m) (hm : ∀ hm : m < l.length, saidAt l[m] p v b by' = false) : noneTo l p v b by' (m + 1) := fun j hj hjm => by
  by_cases e : j = m
  · subst e; exact hm hj
  · exact h j hj (by omega)
theorem sigTo_yes {l : List VT} {p v b : Int} {k : Nat} (h : saidV l p v b (k : Int) = true) : sigTo l p v b (k + 1) = sigTo l p v b k + 2 ^ k := by show _ + (if _ then _ else _) = _; rw [if_pos h]
theorem sigTo_no {l : List VT} {p v b : Int} {k : Nat} (h : saidV l p v b (k : Int) = false) : sigTo l p v b (k + 1) = sigTo l p v b k := by show _ + (if _ then _ else _) = _; rw [if_neg (by rw [h]; decide)]; omega

theorem pow_seven {k : Nat} (h : k < 7) : (0 : Int) < 2 ^ k ∧ (2 : Int) ^ k ≤ 64 := by
  match k, h with
  | 0, _ => decide
  | 1, _ => decide
  | 2, _ => decide
  | 3, _ => decide
  | 4, _ => decide
  | 5, _ => decide
  | 6, _ => decide


end Go.Proofs.Ytnghhfgbobpnkao
