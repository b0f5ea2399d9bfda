/-
  Plain mathematics: a row of decimal figures is the Decimal of the number that it tells, just where it has no needless nought.
-/
import Derived.Test.YtnghhfgbobpnkaaDoorDecN
import Derived.Test.YtnghhfgbobpnkaaDoorCanon
namespace Go.Proofs.YtnghhfgbobpnkaaDoor.Num
/-- the number that a row of figures tells -/
def num10 (l : List Int) : Int := l.foldl (fun a b => 10 * a + b - 48) 0
theorem num10_nil : num10 [] = 0 := rfl
theorem num10_snoc (l : List Int) (b : Int) : num10 (l ++ [b]) = 10 * num10 l + b - 48 := by simp [num10]
/-- all are figures -/
def tens (l : List Int) : Prop := ∀ x ∈ l, 48 ≤ x ∧ x ≤ 57
theorem tens_nil : tens [] := fun _ h => by cases h
theorem tens_snoc {l : List Int} {b : Int} (h : tens l) (h0 : 48 ≤ b) (h1 : b ≤ 57) : tens (l ++ [b]) := by
  intro x hx
  rcases List.mem_append.1 hx with h2 | h2
  · exact h x h2
  · simp at h2; omega
theorem tens_of_snoc {l : List Int} {b : Int} (h : tens (l ++ [b])) : tens l ∧ 48 ≤ b ∧ b ≤ 57 :=
  ⟨fun x hx => h x (by simp [hx]), h b (by simp)⟩

theorem snoc_cases (l : List Int) (h : l ≠ []) : ∃ a b, l = a ++ [b] := ⟨l.dropLast, l.getLast h, (List.dropLast_concat_getLast h).symm⟩

theorem num10_nonneg : ∀ (k : Nat) (l : List Int), l.length = k → tens l → 0 ≤ num10 l
  | 0, l, hl, _ => by
    have : l = [] := List.eq_nil_of_length_eq_zero hl
    subst this; simp [num10]
  | k + 1, l, hl, h => by
    obtain ⟨a, b, rfl⟩ := snoc_cases l (by intro e; rw [e] at hl; simp at hl)
    obtain ⟨h1, h2, h3⟩ := tens_of_snoc h
    have := num10_nonneg k a (by simpa using hl) h1
    rw [num10_snoc]; omega

/-- without a nought ahead: the figures of the number are the row -/
theorem dd_canon : ∀ (k : Nat) (l : List Int), l.length = k → l ≠ [] → tens l → l.head? ≠ some 48 → 0 < num10 l ∧ ∀ f, (num10 l).natAbs ≤ f → dd f (num10 l).natAbs = l
  | 0, l, hl, hne, _, _ => absurd (List.eq_nil_of_length_eq_zero hl) hne
  | k + 1, l, hl, hne, h, hh => by
    obtain ⟨a, b, rfl⟩ := snoc_cases l hne
    obtain ⟨h1, h2, h3⟩ := tens_of_snoc h
    rw [num10_snoc]
    by_cases ha : a = []
    · subst ha
      have hb : b ≠ 48 := by intro e; subst e; simp at hh
      rw [num10_nil]
      refine ⟨by omega, fun f hf => ?_⟩
      obtain ⟨g, hg, _⟩ := dd_step f (10 * (0 : Int) + b - 48).natAbs (by omega) hf
      rw [hg, show (10 * (0 : Int) + b - 48).natAbs / 10 = 0 by omega, dd_zero]
      simp; omega
    · have ih := dd_canon k a (by simpa using hl) ha h1 (by
        intro e; apply hh
        cases a with
        | nil => exact absurd rfl ha
        | cons x t => simpa using e)
      refine ⟨by omega, fun f hf => ?_⟩
      obtain ⟨g, hg, hgf⟩ := dd_step f (10 * num10 a + b - 48).natAbs (by omega) hf
      have e1 : (10 * num10 a + b - 48).natAbs / 10 = (num10 a).natAbs := by omega
      have e2 : (48 : Int) + (((10 * num10 a + b - 48).natAbs % 10 : Nat) : Int) = b := by omega
      rw [hg, e2, e1, ih.2 g (by rw [← e1]; exact hgf)]

/-- the first figure of a number above 0 is no nought -/
theorem dd_head : ∀ (f n : Nat), 0 < n → n ≤ f → ∃ x t, dd f n = x :: t ∧ 48 < x
  | 0, n, h, hf => by omega
  | f + 1, n, h, hf => by
    have e : dd (f + 1) n = dd f (n / 10) ++ [(48 : Int) + ((n % 10 : Nat) : Int)] := by
      show (if n = 0 then [] else dd f (n / 10) ++ [(48 : Int) + ((n % 10 : Nat) : Int)]) = _
      rw [if_neg (by omega)]
    by_cases h2 : 0 < n / 10
    · obtain ⟨x, t, hx, hx1⟩ := dd_head f (n / 10) h2 (by omega)
      exact ⟨x, t ++ [(48 : Int) + ((n % 10 : Nat) : Int)], by rw [e, hx]; rfl, hx1⟩
    · refine ⟨(48 : Int) + ((n % 10 : Nat) : Int), [], by rw [e, show n / 10 = 0 by omega, dd_zero]; rfl, by omega⟩

theorem dec_pos (n : Int) (h : 0 < n) : dec n = dd n.natAbs n.natAbs := by unfold dec; rw [if_neg (by omega), if_neg (by omega)]
theorem dec_range_nonneg (n : Int) (h : 0 ≤ n) : ∀ x ∈ dec n, 0 ≤ x ∧ x ≤ 255 := by
  have hd : ∀ (f m : Nat), ∀ x ∈ dd f m, (48 : Int) ≤ x ∧ x ≤ 57 := by
    intro f
    induction f with
    | zero => intro m x hx; simp [dd] at hx
    | succ f ih =>
      intro m x hx
      unfold dd at hx
      split at hx
      · simp at hx
      · rcases List.mem_append.1 hx with h2 | h2
        · exact ih _ x h2
        · simp at h2; omega
  intro x hx
  by_cases h0 : n = 0
  · subst h0
    simp [dec] at hx; omega
  · rw [dec_pos n (by omega)] at hx
    have := hd _ _ x hx; omega

/-- what a text of figures is read as -/
def rdOk (s : ByteArray) : Prop := tens (bs s) ∧ num10 (bs s) ≤ 1000000000 ∧ dec (num10 (bs s)) = bs s

theorem dec_eq_iff (s : ByteArray) (n : Int) (h : 0 ≤ n) : ((strOfNums (dec n)).toList == s.toList) = decide (dec n = bs s) := by
  rw [Bool.eq_iff_iff]
  simp only [beq_iff_eq, decide_eq_true_eq]
  constructor
  · intro h1
    have h2 : strOfNums (dec n) = s := by
      apply ByteArray.ext; apply Array.ext'
      rw [← ByteArray.toList_eq, ← ByteArray.toList_eq]; exact h1
    rw [← bs_str (dec n) (dec_range_nonneg n h), h2]
  · intro h1
    rw [h1, str_bs]

/-- the first is no nought: the row is the number's own -/
theorem rd_good (s : ByteArray) (hne : bs s ≠ []) (hh : (bs s).head? ≠ some 48) (ht : tens (bs s)) : 0 < num10 (bs s) ∧ dec (num10 (bs s)) = bs s := by
  obtain ⟨h1, h2⟩ := dd_canon _ (bs s) rfl hne ht hh
  exact ⟨h1, by rw [dec_pos _ h1]; exact h2 _ (Nat.le_refl _)⟩
/-- a nought ahead of others -/
theorem rd_nought (s : ByteArray) (hh : (bs s).head? = some 48) (hl : 1 < (bs s).length) (ht : tens (bs s)) : dec (num10 (bs s)) ≠ bs s := by
  intro e
  have h0 := num10_nonneg _ (bs s) rfl ht
  by_cases hz : num10 (bs s) = 0
  · rw [hz] at e
    have : (bs s).length = 1 := by rw [← e]; rfl
    omega
  · rw [dec_pos _ (by omega)] at e
    obtain ⟨x, t, hx, hx1⟩ := dd_head (num10 (bs s)).natAbs (num10 (bs s)).natAbs (by omega) (Nat.le_refl _)
    rw [hx] at e
    rw [← e] at hh
    simp at hh
    omega

theorem pow10_bd {k : Nat} (h : k < 10) : (10 : Int) ^ k ≤ 1000000000 := by
  have : k = 0 ∨ k = 1 ∨ k = 2 ∨ k = 3 ∨ k = 4 ∨ k = 5 ∨ k = 6 ∨ k = 7 ∨ k = 8 ∨ k = 9 := by omega
  rcases this with rfl | rfl | rfl | rfl | rfl | rfl | rfl | rfl | rfl | rfl <;> decide
theorem num10_lt : ∀ (k : Nat) (l : List Int), l.length = k → tens l → num10 l < 10 ^ k
  | 0, l, hl, _ => by
    have : l = [] := List.eq_nil_of_length_eq_zero hl
    subst this; simp [num10]
  | k + 1, l, hl, h => by
    obtain ⟨a, b, rfl⟩ := snoc_cases l (by intro e; rw [e] at hl; simp at hl)
    obtain ⟨h1, h2, h3⟩ := tens_of_snoc h
    have := num10_lt k a (by simpa using hl) h1
    rw [num10_snoc, Int.pow_succ]; omega

theorem num10_next {s : ByteArray} {k : Nat} (h : k < s.size) : num10 ((bs s).take (k + 1)) = 10 * num10 ((bs s).take k) + (s[k].toNat : Int) - 48 := by rw [Num.take_snoc s k h, num10_snoc]
theorem num10_bd {s : ByteArray} {k : Nat} (h : k < s.size) (hk : k < 10) (ht : tens ((bs s).take k)) : 0 ≤ num10 ((bs s).take k) ∧ num10 ((bs s).take k) < 1000000000 := by
  have hl : ((bs s).take k).length = k := by simp [bs_len]; omega
  have h1 := num10_lt k _ hl ht
  have h2 := pow10_bd hk
  exact ⟨num10_nonneg k _ hl ht, by omega⟩
theorem not_tens {s : ByteArray} {k : Nat} (h : k < s.size) (hb : (s[k].toNat : Int) < 48 ∨ 57 < (s[k].toNat : Int)) : ¬ tens (bs s) := by
  intro ht
  have hm : (s[k].toNat : Int) ∈ bs s := by
    have : (s[k].toNat : Int) = (bs s)[k]'(by rw [bs_len]; exact h) := by simp [bs]; rfl
    rw [this]; exact List.getElem_mem _
  have := ht _ hm
  omega
end Go.Proofs.YtnghhfgbobpnkaaDoor.Num
namespace Go.Proofs.YtnghhfgbobpnkaaDoor
open Go.RowKit Num

/-- a number and a flag -/
def duo (n : Int) (b : Bool) : Value := .tuple #[.int .i64 n, .bool b]
theorem ret_duo {a c : Int} (b : Bool) (h : a = c) : Ending.returned (.tuple #[.int .i64 a, .bool b]) = .returned (duo c b) := by rw [h]; rfl
end Go.Proofs.YtnghhfgbobpnkaaDoor
