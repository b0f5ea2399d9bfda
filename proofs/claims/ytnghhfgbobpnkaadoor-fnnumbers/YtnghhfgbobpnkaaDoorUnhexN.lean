/-
  What figures stand for; the row when some of them have been read.
-/
import Derived.Test.YtnghhfgbobpnkaaDoorCanon
import Derived.Test.YtnghhfgbobpnkaaDoorFigN
import Derived.Laws.BitsLemmas
namespace Go.Proofs.YtnghhfgbobpnkaaDoor.Num

/-- what a figure stands for; -1 where it is none -/
def val (c : Int) : Int := if 48 ≤ c ∧ c ≤ 57 then c - 48 else if 97 ≤ c ∧ c ≤ 102 then c - 87 else -1

theorem val_bd (c : Int) : -1 ≤ val c ∧ val c < 16 := by unfold val; split; omega; split <;> omega

/-- the figure at a place stands for this -/
def vl (s : ByteArray) (i : Nat) : Int := val ((bs s).getD i 0)

theorem vl_at (s : ByteArray) (i : Nat) (h : i < s.size) : vl s i = val (s[i].toNat : Int) := by
  unfold vl
  rw [List.getD_eq_getElem?_getD, List.getElem?_eq_getElem (by rw [bs_len]; exact h)]
  simp [bs]; rfl

theorem vl_bd (s : ByteArray) (i : Nat) : -1 ≤ vl s i ∧ vl s i < 16 := val_bd _

/-- the bytes of the first m pairs of figures -/
def pairs (s : ByteArray) (m : Nat) : List Int := (List.range m).map fun j => 16 * vl s (2 * j) + vl s (2 * j + 1)

theorem pairs_snoc (s : ByteArray) (m : Nat) : pairs s (m + 1) = pairs s m ++ [16 * vl s (2 * m) + vl s (2 * m + 1)] := by
  unfold pairs; rw [List.range_succ, List.map_append]; rfl

theorem pairs_len (s : ByteArray) (m : Nat) : (pairs s m).length = m := by simp [pairs]

/-- all places below k hold figures -/
def okTo (s : ByteArray) (k : Nat) : Prop := ∀ i, i < k → 0 ≤ vl s i

theorem okTo_zero (s : ByteArray) : okTo s 0 := fun i h => by omega

theorem okTo_next {s : ByteArray} {k : Nat} (h : okTo s k) (hk : 0 ≤ vl s k) : okTo s (k + 1) := fun i hi => by
  by_cases e : i = k
  · rw [e]; exact hk
  · exact h i (by omega)

theorem okTo_two {s : ByteArray} {m : Nat} (h : okTo s (2 * m)) (ha : 0 ≤ vl s (2 * m)) (hb : 0 ≤ vl s (2 * m + 1)) : okTo s (2 * (m + 1)) := fun i hi => by
  by_cases e : i = 2 * m
  · rw [e]; exact ha
  · by_cases e' : i = 2 * m + 1
    · rw [e']; exact hb
    · exact h i (by omega)

theorem val_fig (c : Int) (h0 : 0 ≤ c) (h1 : c < 16) : val (fig c) = c := by
  unfold fig val
  split
  · rw [if_pos (by omega)]; omega
  · rw [if_neg (by omega), if_pos (by omega)]; omega

theorem fig_val (b : Int) (h : 0 ≤ val b) : fig (val b) = b := by
  unfold val at h ⊢
  unfold fig
  split at h
  · rename_i h1
    rw [if_pos h1, if_pos (by omega)]; omega
  · rename_i h1
    split at h
    · rename_i h2
      rw [if_neg h1, if_pos h2, if_neg (by omega)]; omega
    · omega

theorem val_none (b : Int) (h : ∀ d : Nat, d < 16 → fig d ≠ b) : val b < 0 := by
  by_cases h0 : 0 ≤ val b
  · have h1 := val_bd b
    exact absurd (by rw [Int.toNat_of_nonneg h0]; exact fig_val b h0) (h (val b).toNat (by omega))
  · omega

/-- the row when k figures have been read -/
def cellOf (s : ByteArray) (k j : Nat) : Int := if 2 * j + 1 < k then 16 * vl s (2 * j) + vl s (2 * j + 1) else if 2 * j < k then vl s (2 * j) else 0

def hexRow (s : ByteArray) (n k : Nat) : List Int := (List.range n).map (cellOf s k)

theorem hexRow_len (s : ByteArray) (n k : Nat) : (hexRow s n k).length = n := by simp [hexRow]

theorem hexRow_zero (s : ByteArray) (n : Nat) : hexRow s n 0 = List.replicate n 0 := by
  apply List.ext_getElem
  · simp [hexRow]
  · intro i h1 h2
    simp [hexRow, cellOf]

theorem hexRow_end (s : ByteArray) (n : Nat) : hexRow s n (2 * n) = pairs s n := by
  unfold hexRow pairs
  apply List.map_congr_left
  intro j hj
  have := List.mem_range.1 hj
  unfold cellOf
  rw [if_pos (by omega)]

theorem cellOf_bd (s : ByteArray) (k : Nat) (h : okTo s k) : 0 ≤ cellOf s k (k / 2) ∧ cellOf s k (k / 2) < 16 := by
  unfold cellOf
  rw [if_neg (by omega)]
  split
  · rename_i h1
    exact ⟨h _ h1, (vl_bd s _).2⟩
  · omega

theorem hexRow_at (s : ByteArray) (n k j : Nat) (h : j < n) : (hexRow s n k)[j]? = some (cellOf s k j) := by
  simp [hexRow, h]

theorem hexRow_next (s : ByteArray) (n k : Nat) : hexRow s n (k + 1) = (hexRow s n k).set (k / 2) (cellOf s k (k / 2) * 16 + vl s k) := by
  apply List.ext_getElem
  · simp [hexRow]
  · intro i h1 h2
    rw [List.getElem_set]
    simp only [hexRow, List.getElem_map, List.getElem_range]
    by_cases e : k / 2 = i
    · rw [if_pos e, ← e]
      unfold cellOf
      rcases Nat.mod_two_eq_zero_or_one k with hm | hm
      · rw [if_neg (by omega), if_pos (by omega), if_neg (by omega), if_neg (by omega), show 2 * (k / 2) = k by omega]; omega
      · rw [if_pos (by omega), if_neg (by omega), if_pos (by omega), show 2 * (k / 2) + 1 = k by omega]; omega
    · rw [if_neg e]
      unfold cellOf
      by_cases e1 : 2 * i + 1 < k
      · rw [if_pos (by omega), if_pos e1]
      · rw [if_neg (by omega), if_neg e1]
        by_cases e2 : 2 * i < k
        · rw [if_pos (by omega), if_pos e2]
        · rw [if_neg (by omega), if_neg e2]

theorem or16 (x c : Int) (hx0 : 0 ≤ x) (hx1 : x < 16) (hc0 : 0 ≤ c) (hc1 : c < 16) : bits .or .u8 (x * 16) c = x * 16 + c :=
  bits_join .u8 8 (by decide) wraps_u8 4 _ _ (by omega) (by show x * 16 % 16 = 0; omega) (by show x * 16 < 256; omega) hc0 (by show c < 16; omega) (by show c < 256; omega)

end Go.Proofs.YtnghhfgbobpnkaaDoor.Num
