/-
  Plain mathematics of a right tree: every block stands on the first one; the row to a block goes down by Parents, one block a step.
-/
import Derived.Test.YtjdddcldbfhbiabBlockP
import Derived.Test.YtjdddcldbfhbiabWayN
import Derived.Test.YtjdddcldbfhbiabRowI
namespace Go.Proofs.Ytjdddcldbfhbiab
open Go.RowKit Num

/-- of a drawn tree each block but the first has its Parent ahead of it -/
theorem drw_at {t : List BK} {n k : Nat} (h : Drw t n) (h0 : 0 < k) (hk : k < t.length) : okAtT t k := by
  obtain ⟨_, _, h2⟩ := treeB_inv h.tree
  have h3 := h2 k hk (by omega)
  unfold treeAt at h3
  rw [List.getElem?_eq_getElem hk] at h3
  simp only [Bool.and_eq_true] at h3
  have h4 := h3.1
  unfold blockB at h4
  simp only [Bool.and_eq_true] at h4
  obtain ⟨p0, p1⟩ := inB_iff.1 h4.1
  rw [List.length_take] at p1
  refine ⟨h0, hk, ?_, ?_⟩
  · rw [parAt_at hk]; exact p0
  · rw [parAt_at hk]; omega
theorem drw_down {t : List BK} {n : Nat} (h : Drw t n) : ∀ (m k : Nat), k ≤ m → k < t.length → ∃ l, down t (k : Int) = some l
  | m, k, hm, hk => by
    by_cases hz : k = 0
    · subst hz; exact ⟨[], down_zero (by omega)⟩
    · have hok := drw_at h (by omega) hk
      have p0 := hok.2.2.1
      have p1 := hok.2.2.2
      obtain ⟨p, hp⟩ := Int.eq_ofNat_of_zero_le p0
      cases m with
      | zero => omega
      | succ m =>
        obtain ⟨l, hl⟩ := drw_down h m p (by omega) (by omega)
        exact ⟨k :: l, by rw [down_step hok, hp, hl]; rfl⟩

/-- the rest of a way down is the way down from there -/
theorem down_drop (t : List BK) : ∀ (l : List Nat) (k : Int), down t k = some l → ∀ j (h : j < l.length), down t (l[j] : Int) = some (l.drop j) ∧ parAt t l[j] = (match l[j + 1]? with | some x => (x : Int) | none => 0) ∧ l[j] < t.length
  | [], _, _, j, h => by simp at h
  | x :: l, k, hd, j, h => by
    obtain ⟨x0, x1⟩ := down_range hd
    obtain ⟨i, rfl⟩ := Int.eq_ofNat_of_zero_le x0
    have hz : 0 < i := by
      rcases Nat.eq_zero_or_pos i with e | e
      · subst e
        rw [show ((0 : Nat) : Int) = 0 from rfl, down_zero (by omega)] at hd
        cases hd
      · exact e
    obtain ⟨hok, l', hl', e⟩ := down_some hz hd
    injection e with e1 e2
    subst e1 e2
    cases j with
    | zero =>
      refine ⟨hd, ?_, by show x < t.length; omega⟩
      show parAt t x = _
      rw [List.getElem?_cons_succ]
      cases l with
      | nil =>
        simp only [List.getElem?_nil]
        have h2 := hok.2.2.1
        obtain ⟨p, hp⟩ := Int.eq_ofNat_of_zero_le h2
        rw [hp] at hl' ⊢
        rcases Nat.eq_zero_or_pos p with e | e
        · rw [e]; rfl
        · obtain ⟨_, _, _, e2⟩ := down_some e hl'
          cases e2
      | cons y l =>
        simp only [List.getElem?_cons_zero]
        have h2 := hok.2.2.1
        obtain ⟨p, hp⟩ := Int.eq_ofNat_of_zero_le h2
        rw [hp] at hl' ⊢
        rcases Nat.eq_zero_or_pos p with e | e
        · subst e
          rw [show ((0 : Nat) : Int) = 0 from rfl, down_zero (by have := hok.2.1; omega)] at hl'
          cases hl'
        · obtain ⟨_, _, _, e2⟩ := down_some e hl'
          injection e2 with e3 _
          rw [e3]
    | succ j =>
      have hj : j < l.length := by simpa using h
      obtain ⟨h1, h2, h3⟩ := down_drop t l _ hl' j hj
      refine ⟨?_, ?_, ?_⟩
      · simpa using h1
      · simpa using h2
      · simpa using h3

/-- what the law asks of each place of the row -/
theorem row_step {t : List BK} {k : Int} {i : Nat} (h : i < (rowI t k).length) : ∃ m : Nat, m < t.length ∧ (rowI t k)[i] = (m : Int) ∧ parAt t m = (if 0 < i then (rowI t k)[i - 1]'(by omega) else 0) ∧ extT t k (m : Int) = true ∧ heightT t (m : Int) = (i : Int) + 1 := by
  cases hd : down t k with
  | none =>
    have := rowI_none hd
    rw [this] at h
    simp at h
  | some l =>
    have hr := rowI_some hd
    have hrl : (rowI t k).length = l.length := by rw [hr, intsN_len, List.length_reverse]
    have hat : ∀ j (hj : j < (rowI t k).length), (rowI t k)[j] = ((l[l.length - 1 - j]'(by omega) : Nat) : Int) := fun j hj => by
      have : (rowI t k)[j]? = (intsN l.reverse)[j]? := by rw [hr]
      rw [List.getElem?_eq_getElem hj] at this
      unfold intsN at this
      rw [List.getElem?_map, List.getElem?_reverse (by omega), List.getElem?_eq_getElem (by omega)] at this
      exact Option.some.inj this
    obtain ⟨h1, h2, h3⟩ := down_drop t l k hd (l.length - 1 - i) (by omega)
    refine ⟨l[l.length - 1 - i]'(by omega), h3, hat i h, ?_, ?_, ?_⟩
    · rw [h2]
      by_cases hi : 0 < i
      · rw [if_pos hi, hat (i - 1) (by omega), List.getElem?_eq_getElem (by omega)]
        simp only
        congr 2; omega
      · rw [if_neg hi, List.getElem?_eq_none (by omega)]
    · rw [extT_some hd]
      unfold extL
      have : (l.any fun x => decide ((x : Int) = ((l[l.length - 1 - i]'(by omega) : Nat) : Int))) = true := List.any_eq_true.2 ⟨l[l.length - 1 - i]'(by omega), List.getElem_mem (by omega), by simp⟩
      rw [this, Bool.or_true]
    · rw [heightT_some h1, List.length_drop]; omega

theorem row_len {t : List BK} {k : Int} {l : List Nat} (h : down t k = some l) : ((rowI t k).length : Int) = heightT t k := by rw [heightT_some h, rowI_some h, intsN_len, List.length_reverse]
theorem ext_zero {t : List BK} {k : Int} {l : List Nat} (h : down t k = some l) : extT t k 0 = true := by rw [extT_some h]; unfold extL; simp
theorem clash_is {t : List BK} {a b : Int} {l l2 : List Nat} (h : down t a = some l) (h2 : down t b = some l2) : clashT t a b = (!extT t a b && !extT t b a) := by unfold clashT; rw [h, h2]; rfl
theorem mem_row {t : List BK} {k : Int} {l : List Nat} (h : down t k = some l) (b : Int) : b ∈ rowI t k ↔ ∃ x ∈ l, (x : Int) = b := by
  rw [rowI_some h]
  unfold intsN
  rw [List.mem_map]
  constructor
  · rintro ⟨x, hx, e⟩; exact ⟨x, by simpa using hx, e⟩
  · rintro ⟨x, hx, e⟩; exact ⟨x, by simpa using hx, e⟩
/-- what stands on b: itself, all on the first one, what the row names -/
theorem ext_is {t : List BK} {a b : Int} {l : List Nat} (h : down t a = some l) : extT t a b = (decide (a = b) || (decide (b = 0) || decide (b ∈ rowI t a))) := by
  rw [extT_some h]
  unfold extL
  have e : (l.any fun x => decide ((x : Int) = b)) = decide (b ∈ rowI t a) := by
    rw [Bool.eq_iff_iff, List.any_eq_true, decide_eq_true_iff, mem_row h]
    simp
  rw [e]
  by_cases hab : a = b
  · subst hab
    obtain ⟨x0, x1⟩ := down_range h
    obtain ⟨i, rfl⟩ := Int.eq_ofNat_of_zero_le x0
    rcases Nat.eq_zero_or_pos i with e | e
    · subst e; simp
    · obtain ⟨_, l', _, rfl⟩ := down_some e h
      have : ((i : Nat) : Int) ∈ rowI t (i : Int) := (mem_row h _).2 ⟨i, by simp, rfl⟩
      rw [decide_eq_true this]; simp
  · rw [decide_eq_false hab, Bool.false_or]
theorem after_len {t : List BK} {a b : Int} {l : List Nat} (h : down t a = some l) (he : extT t a b = true) : ((afterI t a b).length : Int) = ((rowI t a).length : Int) - heightT t b := by
  by_cases hb : b = 0
  · subst hb
    obtain ⟨_, x1⟩ := down_range h
    obtain ⟨x0, _⟩ := down_range h
    rw [row_after, heightT_some (down_zero (by omega))]
    simp
  · have h1 := he
    rw [extT_some h] at h1
    unfold extL at h1
    rw [decide_eq_false hb, Bool.false_or] at h1
    obtain ⟨x, hx, hxb⟩ := List.any_eq_true.1 h1
    obtain ⟨j, hj, rfl⟩ := List.mem_iff_getElem.1 hx
    have e : (l[j] : Int) = b := by simpa using hxb
    subst e
    have h2 := (down_drop t l a h j hj).1
    have hp : intsN (l.take j) ++ [(l[j] : Int)] <+: way t a := by
      refine ⟨intsN (l.drop (j + 1)) ++ [0], ?_⟩
      rw [way_some h]
      have : intsN l = intsN (l.take j) ++ ((l[j] : Nat) : Int) :: intsN (l.drop (j + 1)) := by
        conv => lhs; rw [← List.take_append_drop j l, List.drop_eq_getElem_cons hj]
        unfold intsN
        rw [List.map_append, List.map_cons]
      rw [this]; simp
    rw [after_is he hp, List.length_reverse, intsN_len, List.length_take, heightT_some h2, List.length_drop, rowI_some h, intsN_len, List.length_reverse]
    omega
theorem after_no {t : List BK} {a b : Int} (he : extT t a b = false) : afterI t a b = [] := by unfold afterI; rw [he]; rfl

end Go.Proofs.Ytjdddcldbfhbiab
