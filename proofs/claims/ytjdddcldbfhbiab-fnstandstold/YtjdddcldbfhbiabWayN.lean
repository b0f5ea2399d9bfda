/-
  Plain mathematics of a way down: what the program's way tells, place by place, and what it tells of the tree.
-/
import Derived.Test.YtjdddcldbfhbiabTreeN
namespace Go.Proofs.Ytjdddcldbfhbiab
open Go.RowKit Num

/-- what a way down tells, from a place on that must be ahead of ab: the places down to the first one, or, where a step is not ahead, -1 behind those before it; f steps at most -/
def wayF (t : List BK) : Nat → Nat → Int → List Int
  | 0, _, _ => [-1]
  | f + 1, ab, x => if 0 ≤ x ∧ x < (ab : Int) then (if x = 0 then [0] else x :: wayF t f x.toNat (parAt t x.toNat)) else [-1]
theorem wayF_out (t : List BK) {f ab : Nat} {x : Int} (h : ¬ (0 ≤ x ∧ x < (ab : Int))) : wayF t f ab x = [-1] := by
  cases f with
  | zero => rfl
  | succ f => unfold wayF; rw [if_neg h]
theorem wayF_more (t : List BK) : ∀ (f g ab : Nat) (x : Int), ab ≤ f → ab ≤ g → wayF t f ab x = wayF t g ab x
  | 0, g, ab, x, hf, _ => by rw [wayF_out t (by omega), wayF_out t (by omega)]
  | f + 1, 0, ab, x, _, hg => by rw [wayF_out t (by omega), wayF_out t (by omega)]
  | f + 1, g + 1, ab, x, hf, hg => by
    by_cases h : 0 ≤ x ∧ x < (ab : Int)
    · unfold wayF
      rw [if_pos h, if_pos h, wayF_more t f g x.toNat (parAt t x.toNat) (by omega) (by omega)]
    · rw [wayF_out t h, wayF_out t h]
def wayA (t : List BK) (ab : Nat) (x : Int) : List Int := wayF t ab ab x
/-- the whole way -/
def way (t : List BK) (k : Int) : List Int := wayA t t.length k

theorem wayA_zero (t : List BK) {ab : Nat} (h : 0 < ab) : wayA t ab 0 = [0] := by
  obtain ⟨f, rfl⟩ : ∃ f, ab = f + 1 := ⟨ab - 1, by omega⟩
  unfold wayA wayF
  rw [if_pos ⟨Int.le_refl _, by omega⟩, if_pos rfl]
theorem wayA_step (t : List BK) {ab j : Nat} (h0 : 0 < j) (h : j < ab) : wayA t ab (j : Int) = (j : Int) :: wayA t j (parAt t j) := by
  obtain ⟨f, rfl⟩ : ∃ f, ab = f + 1 := ⟨ab - 1, by omega⟩
  unfold wayA
  rw [show wayF t (f + 1) (f + 1) (j : Int) = (if 0 ≤ (j : Int) ∧ (j : Int) < ((f + 1 : Nat) : Int) then (if (j : Int) = 0 then [0] else (j : Int) :: wayF t f (j : Int).toNat (parAt t (j : Int).toNat)) else [-1]) from rfl, if_pos ⟨by omega, by omega⟩, if_neg (by omega), Int.toNat_natCast, wayF_more t f j j _ (by omega) (Nat.le_refl _)]
theorem wayA_out (t : List BK) {ab : Nat} {x : Int} (h : ¬ (0 ≤ x ∧ x < (ab : Int))) : wayA t ab x = [-1] := wayF_out t h

theorem wayA_some (t : List BK) : ∀ (n ab : Nat) (x : Int) (l : List Nat), ab ≤ n → ab ≤ t.length → x < (ab : Int) → down t x = some l → wayA t ab x = intsN l ++ [0]
  | 0, ab, x, l, hn, _, hx, h => by have := (down_range h).1; omega
  | n + 1, ab, x, l, hn, ht, hx, h => by
    obtain ⟨x0, x1⟩ := down_range h
    obtain ⟨j, rfl⟩ := Int.eq_ofNat_of_zero_le x0
    by_cases hz : j = 0
    · subst hz
      have : l = [] := by rw [show ((0 : Nat) : Int) = 0 from rfl, down_zero (by omega)] at h; exact (Option.some.inj h).symm
      subst this
      rw [show ((0 : Nat) : Int) = 0 from rfl, wayA_zero t (by omega)]
      rfl
    · obtain ⟨hok, l', hl', rfl⟩ := down_some (by omega) h
      have h3 := hok.2.2.2
      rw [wayA_step t (by omega) (by omega), wayA_some t n j (parAt t j) l' (by omega) (by omega) (by omega) hl', intsN_cons, List.cons_append]
theorem wayA_none (t : List BK) : ∀ (n ab : Nat) (x : Int), ab ≤ n → ab ≤ t.length → x < (ab : Int) ∨ ab = t.length → down t x = none → ∃ pre, wayA t ab x = pre ++ [-1] ∧ ∀ y ∈ pre, y ≠ -1
  | n, ab, x, hn, ht, hx, h => by
    by_cases hr : 0 ≤ x ∧ x < (ab : Int)
    · obtain ⟨x0, x1⟩ := hr
      obtain ⟨j, rfl⟩ := Int.eq_ofNat_of_zero_le x0
      have hz : j ≠ 0 := by
        intro hz
        subst hz
        rw [show ((0 : Nat) : Int) = 0 from rfl, down_zero (by omega)] at h
        cases h
      rw [wayA_step t (by omega) (by omega)]
      by_cases hok : okAtT t j
      · cases n with
        | zero => omega
        | succ n =>
          have h3 := hok.2.2.2
          rw [down_step hok] at h
          have h2 : down t (parAt t j) = none := by cases hp : down t (parAt t j) with
            | none => rfl
            | some l => rw [hp] at h; cases h
          obtain ⟨pre, hp, hy⟩ := wayA_none t n j (parAt t j) (by omega) (by omega) (Or.inl (by omega)) h2
          refine ⟨(j : Int) :: pre, by rw [hp, List.cons_append], fun y hm => ?_⟩
          rcases List.mem_cons.1 hm with rfl | hm
          · omega
          · exact hy y hm
      · have : ¬ (0 ≤ parAt t j ∧ parAt t j < (j : Int)) := fun hc => hok ⟨by omega, by omega, hc.1, by omega⟩
        rw [wayA_out t this]
        refine ⟨[(j : Int)], rfl, fun y hm => ?_⟩
        simp at hm
        omega
    · exact ⟨[], by rw [wayA_out t hr]; rfl, fun y hm => by cases hm⟩

theorem way_some {t : List BK} {k : Int} {l : List Nat} (h : down t k = some l) : way t k = intsN l ++ [0] := wayA_some t t.length t.length k l (Nat.le_refl _) (Nat.le_refl _) (down_range h).2 h
theorem way_none {t : List BK} {k : Int} (h : down t k = none) : ∃ pre, way t k = pre ++ [-1] ∧ ∀ y ∈ pre, y ≠ -1 := wayA_none t t.length t.length k (Nat.le_refl _) (Nat.le_refl _) (Or.inr rfl) h
theorem wayA_len (t : List BK) : ∀ (n ab : Nat) (x : Int), ab ≤ n → (wayA t ab x).length ≤ ab + 1
  | n, ab, x, hn => by
    by_cases hr : 0 ≤ x ∧ x < (ab : Int)
    · obtain ⟨x0, x1⟩ := hr
      obtain ⟨j, rfl⟩ := Int.eq_ofNat_of_zero_le x0
      by_cases hz : j = 0
      · subst hz
        rw [show ((0 : Nat) : Int) = 0 from rfl, wayA_zero t (by omega)]
        simp
      · cases n with
        | zero => omega
        | succ n =>
          rw [wayA_step t (by omega) (by omega), List.length_cons]
          have := wayA_len t n j (parAt t j) (by omega)
          omega
    · rw [wayA_out t hr]; simp
theorem way_len (t : List BK) (k : Int) : (way t k).length ≤ t.length + 1 := wayA_len t t.length t.length k (Nat.le_refl _)

theorem intsN_ne {l : List Nat} {y : Int} (h : y ∈ intsN l) : 0 ≤ y := by
  unfold intsN at h
  obtain ⟨x, _, rfl⟩ := List.mem_map.1 h
  omega
/-- a way that has told no -1 to its end -/
theorem way_all {t : List BK} {k : Int} (h : ∀ y ∈ way t k, y ≠ -1) : ∃ l, down t k = some l := by
  cases hd : down t k with
  | some l => exact ⟨l, rfl⟩
  | none =>
    obtain ⟨pre, hp, _⟩ := way_none hd
    exact absurd rfl (h (-1) (by rw [hp]; simp))
/-- a way that has told -1 -/
theorem way_bad {t : List BK} {k : Int} {pre : List Int} (h : pre <+: way t k) (hm : (-1 : Int) ∈ pre) : down t k = none := by
  cases hd : down t k with
  | none => rfl
  | some l =>
    have := h.subset hm
    rw [way_some hd] at this
    rcases List.mem_append.1 this with h1 | h1
    · have := intsN_ne h1; omega
    · simp at h1
theorem extL_way (l : List Nat) (under : Int) : extL l under = (intsN l ++ [0]).any fun x => decide (x = under) := by
  unfold extL intsN
  rw [List.any_append, List.any_map, Bool.or_comm]
  congr 1
  simp
  by_cases h : under = 0
  · subst h; simp
  · have : ¬ 0 = under := fun e => h e.symm
    simp [h, this]

/-- a way down falls from place to place -/
theorem down_desc (t : List BK) : ∀ (n k : Nat) (l : List Nat), k ≤ n → down t (k : Int) = some l → (∀ x ∈ l, 0 < x ∧ x ≤ k) ∧ l.Pairwise (· > ·)
  | n, k, l, hn, h => by
    by_cases hz : k = 0
    · subst hz
      obtain ⟨_, x1⟩ := down_range h
      have : l = [] := by rw [show ((0 : Nat) : Int) = 0 from rfl, down_zero (by omega)] at h; exact (Option.some.inj h).symm
      subst this
      exact ⟨fun x hx => (by cases hx), List.Pairwise.nil⟩
    · obtain ⟨hok, l', hl', rfl⟩ := down_some (by omega) h
      have h2 := hok.2.2.1
      have h3 := hok.2.2.2
      obtain ⟨p, hp⟩ := Int.eq_ofNat_of_zero_le h2
      cases n with
      | zero => omega
      | succ n =>
        rw [hp] at hl'
        obtain ⟨ha, hb⟩ := down_desc t n p l' (by omega) hl'
        refine ⟨fun x hx => ?_, List.pairwise_cons.2 ⟨fun x hx => ?_, hb⟩⟩
        · rcases List.mem_cons.1 hx with rfl | hx
          · omega
          · have := ha x hx; omega
        · have := ha x hx; omega
theorem down_falls {t : List BK} {k : Int} {l : List Nat} (h : down t k = some l) : (∀ x ∈ l, 0 < x) ∧ (intsN l ++ [0]).Pairwise (· > ·) := by
  obtain ⟨x0, x1⟩ := down_range h
  obtain ⟨j, rfl⟩ := Int.eq_ofNat_of_zero_le x0
  obtain ⟨ha, hb⟩ := down_desc t j j l (Nat.le_refl _) h
  refine ⟨fun x hx => (ha x hx).1, List.pairwise_append.2 ⟨?_, by simp, fun a hm b hb' => ?_⟩⟩
  · unfold intsN
    rw [List.pairwise_map]
    exact hb.imp fun h => by omega
  · unfold intsN at hm
    obtain ⟨x, hx, rfl⟩ := List.mem_map.1 hm
    simp at hb'
    have := (ha x hx).1
    omega

end Go.Proofs.Ytjdddcldbfhbiab
