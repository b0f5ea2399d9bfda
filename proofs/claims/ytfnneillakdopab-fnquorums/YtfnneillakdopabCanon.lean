/-
  Plain mathematics: a row of bytes is the VarText of the number that it tells, just where it is not a longer form.
-/
import Derived.Test.YtfnneillakdopabNum
import Derived.Laws.BytesArg
import Derived.Laws.Strings
namespace Go.Proofs.Ytfnneillakdopab.Num

/-- the number that a row of bytes tells, the lowest seven bits first -/
def num : List Int → Int
  | [] => 0
  | b :: l => b % 128 + 128 * num l

theorem num_snoc (l : List Int) (b : Int) : num (l ++ [b]) = num l + b % 128 * 128 ^ l.length := by
  induction l with
  | nil => simp [num]
  | cons x l ih =>
    simp only [List.cons_append, num, ih, List.length_cons, Int.pow_succ]
    have e : b % 128 * (128 ^ l.length * 128) = 128 * (b % 128 * 128 ^ l.length) := by
      rw [← Int.mul_assoc, Int.mul_comm]
    rw [e]; omega

theorem num_nonneg (l : List Int) : 0 ≤ num l := by
  induction l with
  | nil => simp [num]
  | cons x l ih => simp only [num]; omega

theorem num_pos (l : List Int) (b : Int) (h0 : 0 < b) (h1 : b ≤ 127) : 1 ≤ num (l ++ [b]) := by
  induction l with
  | nil => simp [num]; omega
  | cons x l ih => simp only [List.cons_append, num]; omega

theorem canon (l : List Int) (b : Int) (hb0 : 0 ≤ b) (hb1 : b ≤ 127) : (∀ x ∈ l, 128 ≤ x ∧ x ≤ 255) → (l = [] ∨ b ≠ 0) →
    ∀ f, (num (l ++ [b])).toNat ≤ f → vb f (num (l ++ [b])) = l ++ [b] := by
  induction l with
  | nil =>
    intro _ _ f _
    have e : num ([] ++ [b]) = b := by simp [num]; omega
    rw [e, vb_small f b hb1]; rfl
  | cons x l ih =>
    intro hall hor f hf
    have hbn : b ≠ 0 := by rcases hor with h | h; simp at h; exact h
    have hx := hall x (by simp)
    have hp := num_pos l b (by omega) hb1
    have e : num (x :: l ++ [b]) = x % 128 + 128 * num (l ++ [b]) := rfl
    rw [e] at hf ⊢
    obtain ⟨g, hg, hgf⟩ := vb_big f (x % 128 + 128 * num (l ++ [b])) (by omega) hf
    rw [hg]
    have e1 : (x % 128 + 128 * num (l ++ [b])) % 128 + 128 = x := by omega
    have e2 : (x % 128 + 128 * num (l ++ [b])) / 128 = num (l ++ [b]) := by omega
    rw [e2] at hgf
    rw [e1, e2, ih (fun y hy => hall y (by simp [hy])) (.inr hbn) g hgf]
    rfl

theorem vb_last : ∀ (f : Nat) (n : Int), 128 ≤ n → n.toNat ≤ f → ∃ ys y, vb f n = ys ++ [y] ∧ 1 ≤ y
  | 0, n, h, hf => by omega
  | f + 1, n, h, hf => by
    have e : vb (f + 1) n = (n % 128 + 128) :: vb f (n / 128) := by
      show (if 127 < n then (n % 128 + 128) :: vb f (n / 128) else [n]) = _
      rw [if_pos (by omega)]
    by_cases h2 : 128 ≤ n / 128
    · obtain ⟨ys, y, hy, h1⟩ := vb_last f (n / 128) h2 (by omega)
      exact ⟨(n % 128 + 128) :: ys, y, by rw [e, hy]; rfl, h1⟩
    · exact ⟨[n % 128 + 128], n / 128, by rw [e, vb_small f _ (by omega)]; rfl, by omega⟩

theorem not_canon (l : List Int) (n : Int) (hl : l ≠ []) (f : Nat) (hf : n.toNat ≤ f) : vb f n ≠ l ++ [0] := by
  intro h
  by_cases hn : 128 ≤ n
  · obtain ⟨ys, y, hy, h1⟩ := vb_last f n hn hf
    rw [hy] at h
    have := (List.append_inj' h rfl).2
    simp at this
    omega
  · rw [vb_small f n (by omega)] at h
    have := congrArg List.length h
    simp at this
    exact hl this

theorem vb_range : ∀ (f : Nat) (n : Int), 0 ≤ n → n.toNat ≤ f → ∀ x ∈ vb f n, 0 ≤ x ∧ x ≤ 255
  | 0, n, h, hf => by
    intro x hx
    simp [vb] at hx
    omega
  | f + 1, n, h, hf => by
    intro x hx
    by_cases h2 : 127 < n
    · have e : vb (f + 1) n = (n % 128 + 128) :: vb f (n / 128) := by
        show (if 127 < n then (n % 128 + 128) :: vb f (n / 128) else [n]) = _
        rw [if_pos h2]
      rw [e] at hx
      rcases List.mem_cons.1 hx with h3 | h3
      · omega
      · exact vb_range f (n / 128) (by omega) (by omega) x h3
    · rw [vb_small _ n (by omega)] at hx
      simp at hx
      omega

theorem str_bs (s : ByteArray) : strOfNums (bs s) = s := by
  apply ByteArray.ext
  apply Array.ext'
  show ((bs s).map fun n => UInt8.ofNat n.toNat) = s.data.toList
  simp only [bs, List.map_map]
  rw [List.map_congr_left (g := id)]
  · simp
  · intro c _
    simp
theorem bs_str (xs : List Int) (h : ∀ x ∈ xs, 0 ≤ x ∧ x ≤ 255) : bs (strOfNums xs) = xs := by
  show ((xs.map fun n => UInt8.ofNat n.toNat).map fun c => (c.toNat : Int)) = xs
  rw [List.map_map]
  conv => rhs; rw [← List.map_id xs]
  apply List.map_congr_left
  intro x hx
  have := h x hx
  show ((UInt8.ofNat x.toNat).toNat : Int) = x
  rw [UInt8.toNat_ofNat_of_lt' (by show x.toNat < 256; omega)]
  omega

theorem bs_extract (s : ByteArray) (a e : Nat) : bs (s.extract a e) = ((bs s).take e).drop a := by
  simp only [bs, ByteArray.data_extract, Array.toList_extract, List.map_drop, List.map_take, List.extract_eq_take_drop]
  rw [List.drop_take]

theorem seg_snoc (s : ByteArray) (a j : Nat) (haj : a ≤ j) (hj : j < s.size) : ((bs s).take (j + 1)).drop a = ((bs s).take j).drop a ++ [(s[j].toNat : Int)] := by
  have h1 : (bs s).take (j + 1) = (bs s).take j ++ [(s[j].toNat : Int)] := by
    rw [List.take_succ_eq_append_getElem (by rw [bs_len]; exact hj)]
    congr 2
    simp [bs]; rfl
  rw [h1, List.drop_append_of_le_length (by simp [bs_len]; omega)]

theorem take_snoc (s : ByteArray) (k : Nat) (h : k < s.size) : (bs s).take (k + 1) = (bs s).take k ++ [(s[k].toNat : Int)] := by
  have := seg_snoc s 0 k (Nat.zero_le _) h
  simpa using this

/-- the bytes from a up to j go on, and tell N -/
def segOk (s : ByteArray) (a j : Nat) (N : Int) : Prop := N = num (((bs s).take j).drop a) ∧ ∀ x ∈ ((bs s).take j).drop a, 128 ≤ x ∧ x ≤ 255
theorem segOk_start (s : ByteArray) (a : Nat) : segOk s a a 0 := by
  have e : ((bs s).take a).drop a = [] := List.drop_eq_nil_of_le (by simp; omega)
  unfold segOk; rw [e]; simp [num]
theorem segOk_next {s : ByteArray} {a j : Nat} {N SC : Int} (h : segOk s a j N) (haj : a ≤ j) (hj : j < s.size) (hsc : scOk SC (j - a)) (hb : 127 < (s[j].toNat : Int)) :
    segOk s a (j + 1) (N + (s[j].toNat : Int) % 128 * SC) := by
  have hlen : (((bs s).take j).drop a).length = j - a := by simp [bs_len]; omega
  unfold segOk at *
  rw [seg_snoc s a j haj hj]
  refine ⟨?_, ?_⟩
  · rw [num_snoc, hlen, ← h.1]; unfold scOk at hsc; rw [hsc]
  · intro x hx
    rcases List.mem_append.1 hx with h1 | h1
    · exact h.2 x h1
    · have := byte_le s[j]
      simp at h1; omega

/-- whether the text from a up to j is the VarText of the number that it tells -/
theorem same_bytes (s : ByteArray) (a j : Nat) (N SC : Int) (haj : a ≤ j) (hj : j < s.size) (hsc : scOk SC (j - a)) (hN : N = num (((bs s).take j).drop a)) (hall : ∀ x ∈ ((bs s).take j).drop a, 128 ≤ x ∧ x ≤ 255)
    (hb : (s[j].toNat : Int) ≤ 127) :
    ((strOfNums (vbs (N + (s[j].toNat : Int) % 128 * SC))).toList == (s.extract a (j + 1)).toList) = !decide ((s[j].toNat : Int) = 0 ∧ a < j) := by
  have hlen : (((bs s).take j).drop a).length = j - a := by simp [bs_len]; omega
  have hseg : bs (s.extract a (j + 1)) = ((bs s).take j).drop a ++ [(s[j].toNat : Int)] := by
    rw [bs_extract, seg_snoc s a j haj hj]
  have hnum : N + (s[j].toNat : Int) % 128 * SC = num (((bs s).take j).drop a ++ [(s[j].toNat : Int)]) := by
    rw [num_snoc, hlen, ← hN]; unfold scOk at hsc; rw [hsc]
  rw [hnum]
  generalize hl : ((bs s).take j).drop a = l at *
  generalize hbb : (s[j].toNat : Int) = b at *
  have hb0 : 0 ≤ b := by omega
  have hn0 := num_nonneg (l ++ [b])
  rw [Bool.eq_iff_iff]
  simp only [beq_iff_eq, Bool.not_eq_true', decide_eq_false_iff_not]
  constructor
  · intro h hx
    obtain ⟨h0, h1⟩ := hx
    have h2 : strOfNums (vbs (num (l ++ [b]))) = s.extract a (j + 1) := by
      apply ByteArray.ext; apply Array.ext'
      rw [← ByteArray.toList_eq, ← ByteArray.toList_eq]; exact h
    have h3 := congrArg bs h2
    rw [bs_str (vbs (num (l ++ [b]))) (vb_range _ _ hn0 (Nat.le_refl _)), hseg] at h3
    subst h0
    exact not_canon l _ (by intro e; rw [e] at hlen; simp at hlen; omega) _ (Nat.le_refl _) h3
  · intro hx
    have h2 : vbs (num (l ++ [b])) = l ++ [b] := canon l b hb0 hb hall (by
      by_cases e : b = 0
      · left
        have : ¬ a < j := fun h => hx ⟨e, h⟩
        exact List.eq_nil_of_length_eq_zero (by omega)
      · exact .inr e) _ (Nat.le_refl _)
    rw [h2, ← hseg, str_bs]

theorem short_room (s : ByteArray) (h : (s.size : Int) ≤ 20000) : (strOfNums (vbs s.size)).size + s.size ≤ 9223372036854775807 := by
  have := vb_len ((s.size : Int)).toNat s.size
  rw [strOfNums_size]; unfold vbs; omega

end Go.Proofs.Ytfnneillakdopab.Num
