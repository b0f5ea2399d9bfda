/-
  Plain mathematics: what stands between blanks, without the empty pieces, are the words of a line.
-/
import Derived.Test.YtnghhfgbobpnkahDoorParts
import Derived.Lib.SplitLaws
import Derived.Lib.IndexBytes
import Derived.Lib.IndexLaws
namespace Go.Proofs.YtnghhfgbobpnkahDoor.Num

theorem rest_none (s : ByteArray) (b : Nat) : ∀ (d i : Nat), s.size - i = d → i ≤ s.size → (∀ k, i ≤ k → k < s.size → isBlank s k = false) → rest s b i = if b < s.size then [s.extract b s.size] else []
  | 0, i, hd, hi, _ => by
    have : i = s.size := by omega
    subst this
    rw [rest_end, rest_out, List.append_nil]
  | d + 1, i, hd, hi, h => by
    rw [rest_go s b i (by omega) (h i (Nat.le_refl _) (by omega))]
    exact rest_none s b d (i + 1) (by omega) (by omega) fun k hk => h k (by omega)
theorem rest_skip (s : ByteArray) (b t : Nat) (ht : t < s.size) (hb : isBlank s t = true) : ∀ (d i : Nat), t - i = d → i ≤ t → (∀ k, i ≤ k → k < t → isBlank s k = false) → rest s b i = (if b < t then [s.extract b t] else []) ++ rest s (t + 1) (t + 1)
  | 0, i, hd, hi, _ => by
    have : i = t := by omega
    subst this
    exact rest_cut s b i ht hb
  | d + 1, i, hd, hi, h => by
    rw [rest_go s b i (by omega) (h i (Nat.le_refl _) (by omega))]
    exact rest_skip s b t ht hb d (i + 1) (by omega) (by omega) fun k hk => h k (by omega)

/-- a blank, as a text -/
def sp : ByteArray := ⟨#[32]⟩
theorem sp_size : sp.size = 1 := rfl
theorem blank_byte (s : ByteArray) (p k : Nat) (hk : p + k < s.size) : isBlank s (p + k) = decide ((s.extract p s.size).data.toList[k]? = some 32) := by
  have e : (s.extract p s.size).data.toList[k]? = some (s[p + k]) := by
    rw [ByteArray.data_extract, Array.toList_extract, List.extract_eq_take_drop, List.getElem?_take, if_pos (by omega), List.getElem?_drop]
    rw [List.getElem?_eq_getElem (by simpa using hk)]
    rfl
  rw [isBlank_at s (p + k) hk, e, Bool.eq_iff_iff]
  simp only [beq_iff_eq, decide_eq_true_eq, Option.some.injEq]
  constructor
  · intro h
    apply UInt8.toNat_inj.1
    have : s[p + k].toNat = 32 := by omega
    rw [this]; rfl
  · intro h; rw [h]; rfl

/-- the pieces that are not empty -/
def some9 (x : ByteArray) : Bool := decide (x.size ≠ 0)

theorem filter_one (x : ByteArray) (c : Prop) [Decidable c] (h : c ↔ x.size ≠ 0) : [x].filter some9 = if c then [x] else [] := by
  by_cases hc : c
  · rw [if_pos hc, List.filter_cons_of_pos (by simpa [some9] using h.1 hc)]; rfl
  · have : ¬ x.size ≠ 0 := fun e => hc (h.2 e)
    rw [if_neg hc, List.filter_cons_of_neg (by simpa [some9] using this)]; rfl

theorem split_rest (s : ByteArray) : ∀ (k p : Nat), p ≤ s.size → Lib.countB (s.extract p s.size) sp = k → (Lib.splitB sp 0 k (s.extract p s.size)).filter some9 = rest s p p
  | 0, p, hp, hc => by
    have hm : Lib.indexB (s.extract p s.size) sp = -1 := by
      have hge := Lib.indexByte_ge (s.extract p s.size).data.toList 32
      by_cases h : Lib.indexB (s.extract p s.size) sp = -1
      · exact h
      · have e : Lib.indexB (s.extract p s.size) sp = Lib.indexByte (s.extract p s.size).data.toList 32 := Lib.index_one _ 32
        have := Lib.countB_hit (s.extract p s.size) sp (Lib.indexB (s.extract p s.size) sp).toNat (by rw [sp_size]; omega) (by rw [e] at h ⊢; omega)
        omega
    rw [Lib.splitB_zero, filter_one _ (p < s.size) (by rw [ByteArray.size_extract]; omega)]
    have hn : Lib.indexByte (s.extract p s.size).data.toList 32 = -1 := by rw [← Lib.index_one]; exact hm
    rw [rest_none s p _ p rfl hp]
    intro j hj hjs
    have e : j = p + (j - p) := by omega
    rw [e, blank_byte s p (j - p) (by omega)]
    simpa using Lib.indexByte_none hn (j - p)
  | k + 1, p, hp, hc => by
    have e : Lib.indexB (s.extract p s.size) sp = Lib.indexByte (s.extract p s.size).data.toList 32 := Lib.index_one _ 32
    have hge := Lib.indexByte_ge (s.extract p s.size).data.toList 32
    have hne : Lib.indexB (s.extract p s.size) sp ≠ -1 := fun h => by have := Lib.countB_miss _ _ h; omega
    obtain ⟨j, hj⟩ : ∃ j : Nat, Lib.indexB (s.extract p s.size) sp = j := ⟨(Lib.indexB (s.extract p s.size) sp).toNat, by rw [e] at hne ⊢; omega⟩
    have hs := Lib.indexByte_some (e.symm.trans hj)
    have hjl : j < (s.extract p s.size).data.toList.length := by
      rcases Nat.lt_or_ge j (s.extract p s.size).data.toList.length with h | h
      · exact h
      · rw [List.getElem?_eq_none h] at hs; simp at hs
    have hlen : (s.extract p s.size).data.toList.length = s.size - p := by
      rw [Array.length_toList]; show (s.extract p s.size).size = _; rw [ByteArray.size_extract]; omega
    rw [hlen] at hjl
    have hx2 : (s.extract p s.size).extract (j + sp.size) (s.extract p s.size).size = s.extract (p + j + 1) s.size := by
      rw [ByteArray.extract_extract, ByteArray.size_extract, sp_size]
      congr 1 <;> omega
    have hx1 : (s.extract p s.size).extract 0 (j + 0) = s.extract p (p + j) := by
      rw [ByteArray.extract_extract]; congr 1; omega
    have hc2 := Lib.countB_hit (s.extract p s.size) sp j (by rw [sp_size]; omega) hj
    rw [hx2] at hc2
    rw [Lib.splitB_hit sp 0 k _ j hj, hx1, hx2]
    have hbt : isBlank s (p + j) = true := by rw [blank_byte s p j (by omega)]; simpa using hs.1
    rw [rest_skip s p (p + j) (by omega) hbt j p (by omega) (by omega) (fun i hi1 hi2 => by
      have e2 : i = p + (i - p) := by omega
      rw [e2, blank_byte s p (i - p) (by omega)]
      simpa using hs.2 (i - p) (by omega))]
    rw [← split_rest s k (p + j + 1) (by omega) (by omega), ← filter_one (s.extract p (p + j)) (p < p + j) (by rw [ByteArray.size_extract]; omega), ← List.filter_append]
    rfl

/-- what strings.Split hands back at a blank -/
def pieces (s : ByteArray) : List ByteArray := Lib.splitB sp 0 (Lib.countB s sp) s
theorem extract_all (s : ByteArray) : s.extract 0 s.size = s := by
  apply ByteArray.ext; rw [ByteArray.data_extract]
  show s.data.extract 0 s.data.size = s.data
  simp
theorem pieces_parts (s : ByteArray) : (pieces s).filter some9 = parts s := by
  have := split_rest s (Lib.countB s sp) 0 (Nat.zero_le _) (by rw [extract_all])
  rw [extract_all] at this
  rw [parts_rest]; exact this
theorem pieces_len (s : ByteArray) : (pieces s).length = Lib.countB s sp + 1 := Lib.splitB_all sp (by rw [sp_size]; omega) 0 _ s rfl
theorem pieces_le (s : ByteArray) : (pieces s).length ≤ s.size + 1 := by
  rw [pieces_len]
  have := Lib.countB_le sp (by rw [sp_size]; omega) s.size s (Nat.le_refl _)
  omega
theorem split_sizes (n : Nat) : ∀ (k : Nat) (s : ByteArray), s.size ≤ n → ∀ x ∈ Lib.splitB sp 0 k s, x.size ≤ n
  | 0, s, h, x, hx => by rw [Lib.splitB_zero] at hx; simp at hx; subst hx; exact h
  | k + 1, s, h, x, hx => by
    by_cases hm : Lib.indexB s sp = -1
    · rw [Lib.splitB_miss sp 0 _ s hm] at hx; simp at hx; subst hx; exact h
    · have hge := Lib.indexByte_ge s.data.toList 32
      have e : Lib.indexB s sp = Lib.indexByte s.data.toList 32 := Lib.index_one _ 32
      rw [Lib.splitB_hit sp 0 k s (Lib.indexB s sp).toNat (by rw [e] at hm ⊢; omega)] at hx
      rcases List.mem_cons.1 hx with h1 | h1
      · subst h1; rw [ByteArray.size_extract]; omega
      · exact split_sizes n k _ (by rw [ByteArray.size_extract]; omega) x h1
theorem pieces_sizes (s : ByteArray) (i : Nat) (h : i < (pieces s).length) : ((pieces s).getD i ByteArray.empty).size ≤ s.size := by
  have e : (pieces s).getD i ByteArray.empty = (pieces s)[i] := by simp [List.getD, List.getElem?_eq_getElem h]
  rw [e]
  exact split_sizes s.size _ s (Nat.le_refl _) _ (List.getElem_mem h)
end Go.Proofs.YtnghhfgbobpnkahDoor.Num
