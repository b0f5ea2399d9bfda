/-
  Plain mathematics of a tree: how high a block stands, the row to it, who stands on whom.
-/
import Derived.Test.YtjdddcldbfhbiabBlockN
namespace Go.Proofs.Ytjdddcldbfhbiab
open Go.RowKit Num

/-- the Parent of the block at a place -/
def parAt (t : List BK) (k : Nat) : Int := (t[k]?.getD firstB).1.1
theorem parAt_at {t : List BK} {k : Nat} (h : k < t.length) : parAt t k = t[k].1.1 := by unfold parAt; rw [List.getElem?_eq_getElem h]; rfl

/-- the places from a block down to the first one, the block itself first, the first one left out; nothing where a Parent on the way is not ahead of its own. The number bounds the steps. -/
def downN (t : List BK) : Nat → Nat → Option (List Nat)
  | _, 0 => some []
  | 0, _ + 1 => none
  | n + 1, k + 1 => if k + 1 < t.length ∧ 0 ≤ parAt t (k + 1) ∧ parAt t (k + 1) ≤ (k : Int) then (downN t n (parAt t (k + 1)).toNat).map ((k + 1) :: ·) else none
/-- the way down from a place -/
def down (t : List BK) (k : Int) : Option (List Nat) := if 0 ≤ k ∧ k < (t.length : Int) then downN t t.length k.toNat else none

theorem downN_more (t : List BK) : ∀ (n m k : Nat), k ≤ n → n ≤ m → downN t n k = downN t m k
  | n, m, 0, _, _ => by cases n <;> cases m <;> rfl
  | 0, _, k + 1, h, _ => by omega
  | n + 1, 0, k + 1, _, h => by omega
  | n + 1, m + 1, k + 1, h, h2 => by
    unfold downN
    split
    · rename_i hc
      rw [downN_more t n m _ (by omega) (by omega)]
    · rfl
theorem downN_at (t : List BK) (n k : Nat) (hk : k + 1 ≤ n) : downN t n (k + 1) = if k + 1 < t.length ∧ 0 ≤ parAt t (k + 1) ∧ parAt t (k + 1) ≤ (k : Int) then (downN t n (parAt t (k + 1)).toNat).map ((k + 1) :: ·) else none := by
  cases n with
  | zero => omega
  | succ n =>
    rw [downN]
    split
    · rename_i hc
      rw [downN_more t n (n + 1) _ (by omega) (by omega)]
    · rfl

/-- how high a block stands; -1 where it does not -/
def heightT (t : List BK) (k : Int) : Int := match down t k with
  | some l => (l.length : Int)
  | none => -1
/-- the row to a block -/
def rowT (t : List BK) (k : Int) : List Nat := match down t k with
  | some l => l.reverse
  | none => []
/-- whether it is under, or stands on it -/
def extT (t : List BK) (k under : Int) : Bool := match down t k with
  | some l => decide (under = 0) || l.any fun x => decide ((x : Int) = under)
  | none => false
def clashT (t : List BK) (a b : Int) : Bool := (down t a).isSome && ((down t b).isSome && (!extT t a b && !extT t b a))
def afterT (t : List BK) (k under : Int) : List Nat := if extT t k under = true then (rowT t k).filter fun x => decide (under < (x : Int)) else []
def beginB (a b : List Int) : Bool := (a.zip b).all fun p => decide (p.1 = p.2)

/-- a block on the way: its place above 0, its Parent ahead of it -/
def okAtT (t : List BK) (k : Nat) : Prop := 0 < k ∧ k < t.length ∧ 0 ≤ parAt t k ∧ parAt t k ≤ (k : Int) - 1
theorem down_zero {t : List BK} (h : 0 < t.length) : down t 0 = some [] := by
  unfold down
  rw [if_pos ⟨by omega, by omega⟩]
  cases t.length <;> rfl
theorem down_step {t : List BK} {k : Nat} (h : okAtT t k) : down t (k : Int) = (down t (parAt t k)).map (k :: ·) := by
  obtain ⟨h0, h1, h2, h3⟩ := h
  obtain ⟨j, rfl⟩ : ∃ j, k = j + 1 := ⟨k - 1, by omega⟩
  unfold down
  rw [if_pos ⟨by omega, by omega⟩, if_pos ⟨h2, by omega⟩, show ((j + 1 : Nat) : Int).toNat = j + 1 by omega, downN_at t t.length j (by omega), if_pos ⟨h1, h2, by omega⟩]
theorem down_bad {t : List BK} {k : Nat} (h0 : 0 < k) (h : ¬ okAtT t k) : down t (k : Int) = none := by
  obtain ⟨j, rfl⟩ : ∃ j, k = j + 1 := ⟨k - 1, by omega⟩
  unfold down
  by_cases h1 : (0 : Int) ≤ ((j + 1 : Nat) : Int) ∧ ((j + 1 : Nat) : Int) < (t.length : Int)
  · rw [if_pos h1, show ((j + 1 : Nat) : Int).toNat = j + 1 by omega, downN_at t t.length j (by omega), if_neg (fun hc => h ⟨h0, hc.1, hc.2.1, by omega⟩)]
  · rw [if_neg h1]
theorem down_out {t : List BK} {k : Int} (h : ¬ (0 ≤ k ∧ k < (t.length : Int))) : down t k = none := if_neg h

/-- n steps taken, k the place where they led -/
def heightN (t : List BK) (k : Int) (n : Nat) : Int := match down t k with
  | some l => (n : Int) + (l.length : Int)
  | none => -1
theorem heightT_N (t : List BK) (k : Int) : heightT t k = heightN t k 0 := by unfold heightT heightN; cases down t k <;> simp
theorem heightN_step {t : List BK} {k n : Nat} (h : okAtT t k) : heightN t (k : Int) n = heightN t (parAt t k) (n + 1) := by
  unfold heightN
  rw [down_step h]
  cases down t (parAt t k) with
  | none => rfl
  | some l => simp; omega
theorem heightN_bad {t : List BK} {k n : Nat} (h0 : 0 < k) (h : ¬ okAtT t k) : heightN t (k : Int) n = -1 := by unfold heightN; rw [down_bad h0 h]
theorem heightN_out {t : List BK} {k : Int} {n : Nat} (h : ¬ (0 ≤ k ∧ k < (t.length : Int))) : heightN t k n = -1 := by unfold heightN; rw [down_out h]
theorem heightN_zero {t : List BK} {n : Nat} (h : 0 < t.length) : heightN t 0 n = (n : Int) := by unfold heightN; rw [down_zero h]; simp
theorem heightN_none {t : List BK} {n : Nat} (h : t.length = 0) : heightN t 0 n = -1 := heightN_out (by omega)

theorem down_some {t : List BK} {k : Nat} {l : List Nat} (h0 : 0 < k) (h : down t (k : Int) = some l) : okAtT t k ∧ ∃ l', down t (parAt t k) = some l' ∧ l = k :: l' := by
  by_cases hk : okAtT t k
  · rw [down_step hk] at h
    cases hp : down t (parAt t k) with
    | none => rw [hp] at h; cases h
    | some l' =>
      rw [hp] at h
      exact ⟨hk, l', rfl, (Option.some.inj h).symm⟩
  · rw [down_bad h0 hk] at h; cases h
theorem down_range {t : List BK} {k : Int} {l : List Nat} (h : down t k = some l) : 0 ≤ k ∧ k < (t.length : Int) := by
  by_cases hk : 0 ≤ k ∧ k < (t.length : Int)
  · exact hk
  · rw [down_out hk] at h; cases h
theorem heightT_none {t : List BK} {k : Int} (h : down t k = none) : heightT t k = -1 := by unfold heightT; rw [h]
theorem heightT_some {t : List BK} {k : Int} {l : List Nat} (h : down t k = some l) : heightT t k = (l.length : Int) := by unfold heightT; rw [h]

/-- whether under is met on the rest of the way -/
def extL (l : List Nat) (under : Int) : Bool := decide (under = 0) || l.any fun x => decide ((x : Int) = under)
theorem extT_some {t : List BK} {k under : Int} {l : List Nat} (h : down t k = some l) : extT t k under = extL l under := by unfold extT; rw [h]; rfl
theorem extT_none {t : List BK} {k under : Int} (h : down t k = none) : extT t k under = false := by unfold extT; rw [h]
theorem extL_nil (under : Int) : extL [] under = decide (under = 0) := by simp [extL]
theorem extL_hit {x : Nat} {l : List Nat} {under : Int} (h : (x : Int) = under) : extL (x :: l) under = true := by simp [extL, h]
theorem extL_miss {x : Nat} {l : List Nat} {under : Int} (h : ¬ (x : Int) = under) : extL (x :: l) under = extL l under := by simp [extL, h]

/-- as far as place i both are the same -/
def sameUp (a b : List Int) (i : Nat) : Prop := ∀ j (h : j < a.length) (h' : j < b.length), j < i → a[j] = b[j]
theorem beginB_no {a b : List Int} {i : Nat} (h : i < a.length) (h' : i < b.length) (hn : a[i] ≠ b[i]) : beginB a b = false := by
  unfold beginB
  refine List.all_eq_false.2 ⟨(a[i], b[i]), ?_, by simpa using hn⟩
  rw [List.mem_iff_getElem]
  exact ⟨i, by rw [List.length_zip]; omega, by rw [List.getElem_zip]⟩
theorem beginB_yes {a b : List Int} {i : Nat} (h : sameUp a b i) (hi : a.length ≤ i ∨ b.length ≤ i) : beginB a b = true := by
  unfold beginB
  refine List.all_eq_true.2 fun p hp => ?_
  obtain ⟨j, hj, rfl⟩ := List.mem_iff_getElem.1 hp
  rw [List.length_zip] at hj
  rw [List.getElem_zip]
  simpa using h j (by omega) (by omega) (by omega)

/-- places as numbers -/
def intsN (l : List Nat) : List Int := l.map fun x : Nat => (x : Int)
theorem intsN_len (l : List Nat) : (intsN l).length = l.length := by simp [intsN]
theorem intsN_cons (x : Nat) (l : List Nat) : intsN (x :: l) = (x : Int) :: intsN l := rfl
def rowI (t : List BK) (k : Int) : List Int := intsN (rowT t k)
theorem rowI_none {t : List BK} {k : Int} (h : down t k = none) : rowI t k = [] := by unfold rowI rowT; rw [h]; rfl
theorem rowI_some {t : List BK} {k : Int} {l : List Nat} (h : down t k = some l) : rowI t k = intsN l.reverse := by unfold rowI rowT; rw [h]
theorem downN_len (t : List BK) : ∀ (n k : Nat) (l : List Nat), downN t n k = some l → l.length ≤ n
  | n, 0, l, h => by cases n <;> (simp [downN] at h; subst h; simp)
  | 0, _ + 1, _, h => by cases h
  | n + 1, k + 1, l, h => by
    rw [downN] at h
    split at h
    · cases hd : downN t n (parAt t (k + 1)).toNat with
      | none => rw [hd] at h; cases h
      | some l' =>
        rw [hd] at h
        obtain rfl := (Option.some.inj h).symm
        have := downN_len t n _ l' hd
        simp; omega
    · cases h
theorem down_len {t : List BK} {k : Int} {l : List Nat} (h : down t k = some l) : l.length ≤ t.length := by
  unfold down at h
  split at h
  · exact downN_len t _ _ l h
  · cases h

end Go.Proofs.Ytjdddcldbfhbiab
