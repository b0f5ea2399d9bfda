/-
  Plain mathematics of the words: the bytes of a number in VarText's form, and what a row of such bytes says. No Go text is met here.
-/
import Derived.WalkKit
namespace Go.Proofs.Ytfnneillakdopab.Num

/-- the bytes of a number, the lowest seven bits first; the first argument bounds the number of rounds -/
def vb : Nat → Int → List Int
  | 0, n => [n]
  | f + 1, n => if 127 < n then (n % 128 + 128) :: vb f (n / 128) else [n]

def vbs (n : Int) : List Int := vb n.toNat n

theorem vb_small (f : Nat) (n : Int) (h : n ≤ 127) : vb f n = [n] := by
  cases f with
  | zero => rfl
  | succ f => unfold vb; rw [if_neg (by omega)]

theorem vb_big (f : Nat) (n : Int) (h : 127 < n) (hf : n.toNat ≤ f) : ∃ g, vb f n = (n % 128 + 128) :: vb g (n / 128) ∧ (n / 128).toNat ≤ g := by
  cases f with
  | zero => omega
  | succ f =>
    refine ⟨f, ?_, by omega⟩
    show (if 127 < n then (n % 128 + 128) :: vb f (n / 128) else [n]) = _
    rw [if_pos h]

theorem vb_len : ∀ (f : Nat) (n : Int), (vb f n).length ≤ f + 1
  | 0, n => by simp [vb]
  | f + 1, n => by
    unfold vb
    split
    · have := vb_len f (n / 128); simp; omega
    · simp

/-- what a row of bytes from the place i on is read as: the number so far n, its scale sc, at most f bytes more; the first byte stood at a -/
def rv (a : Nat) : Nat → List Int → Int → Int → Nat → Int × Int × Bool
  | 0, _, _, _, _ => (0, 0, false)
  | _ + 1, [], _, _, _ => (0, 0, false)
  | f + 1, b :: l, n, sc, i =>
    if 127 < b then rv a f l (n + b % 128 * sc) (sc * 128) (i + 1)
    else if 1000000000 < n + b % 128 * sc ∨ (b = 0 ∧ a < i) then (0, 0, false) else (n + b % 128 * sc, (i : Int) + 1, true)

def bs (s : ByteArray) : List Int := s.data.toList.map fun c => (c.toNat : Int)
theorem bs_len (s : ByteArray) : (bs s).length = s.size := by simp only [bs, List.length_map, Array.length_toList]; rfl
theorem bs_drop (s : ByteArray) (j : Nat) (h : j < s.size) : (bs s).drop j = (s[j].toNat : Int) :: (bs s).drop (j + 1) := by
  rw [List.drop_eq_getElem_cons (by rw [bs_len]; exact h)]
  congr 1
  simp [bs]
  rfl
theorem byte_le (c : UInt8) : (0 : Int) ≤ (c.toNat : Int) ∧ (c.toNat : Int) ≤ 255 := by have := c.toNat_lt; omega

/-- the number so far at the place j, read on -/
def rvAt (s : ByteArray) (a : Nat) (n sc : Int) (j : Nat) : Int × Int × Bool := rv a (a + 5 - j) ((bs s).drop j) n sc j

theorem rvAt_stop (s : ByteArray) (a : Nat) (n sc : Int) (j : Nat) (h : s.size ≤ j ∨ a + 5 ≤ j) : rvAt s a n sc j = (0, 0, false) := by
  unfold rvAt
  rcases h with h | h
  · rw [List.drop_eq_nil_of_le (by rw [bs_len]; exact h)]
    cases a + 5 - j <;> rfl
  · rw [show a + 5 - j = 0 by omega]; rfl
theorem rvAt_go (s : ByteArray) (a : Nat) (n sc : Int) (j : Nat) (h : j < s.size) (h5 : j < a + 5) (hb : 127 < (s[j].toNat : Int)) :
    rvAt s a n sc j = rvAt s a (n + (s[j].toNat : Int) % 128 * sc) (sc * 128) (j + 1) := by
  unfold rvAt
  rw [bs_drop s j h, show a + 5 - j = (a + 5 - (j + 1)) + 1 by omega, rv, if_pos hb]
theorem rvAt_no (s : ByteArray) (a : Nat) (n sc : Int) (j : Nat) (h : j < s.size) (h5 : j < a + 5) (hb : (s[j].toNat : Int) ≤ 127)
    (hx : 1000000000 < n + (s[j].toNat : Int) % 128 * sc ∨ ((s[j].toNat : Int) = 0 ∧ a < j)) : rvAt s a n sc j = (0, 0, false) := by
  unfold rvAt
  rw [bs_drop s j h, show a + 5 - j = (a + 5 - (j + 1)) + 1 by omega, rv, if_neg (by omega), if_pos hx]
theorem rvAt_yes (s : ByteArray) (a : Nat) (n sc : Int) (j : Nat) (h : j < s.size) (h5 : j < a + 5) (hb : (s[j].toNat : Int) ≤ 127)
    (hx : ¬ (1000000000 < n + (s[j].toNat : Int) % 128 * sc ∨ ((s[j].toNat : Int) = 0 ∧ a < j))) : rvAt s a n sc j = (n + (s[j].toNat : Int) % 128 * sc, (j : Int) + 1, true) := by
  unfold rvAt
  rw [bs_drop s j h, show a + 5 - j = (a + 5 - (j + 1)) + 1 by omega, rv, if_neg (by omega), if_neg hx]

/-- the bounds of a scale -/
def scOk (sc : Int) (k : Nat) : Prop := sc = 128 ^ k
theorem sc_bd {sc : Int} {k : Nat} (h : scOk sc k) (hk : k < 5) : 1 ≤ sc ∧ sc ≤ 268435456 := by
  unfold scOk at h
  subst h
  have : k = 0 ∨ k = 1 ∨ k = 2 ∨ k = 3 ∨ k = 4 := by omega
  rcases this with rfl | rfl | rfl | rfl | rfl <;> decide
theorem sc_next {sc : Int} {k : Nat} (h : scOk sc k) : scOk (sc * 128) (k + 1) := by unfold scOk at *; rw [h, Int.pow_succ]
theorem mul_bd {b sc : Int} (h1 : 1 ≤ sc) (h2 : sc ≤ 268435456) : 0 ≤ b % 128 * sc ∧ b % 128 * sc ≤ 34091302912 ∧ b % 128 * sc + sc ≤ sc * 128 := by
  have hm0 : 0 ≤ b % 128 := by omega
  have hm1 : b % 128 ≤ 127 := by omega
  have p0 : 0 ≤ b % 128 * sc := Int.mul_nonneg hm0 (by omega)
  have p1 : b % 128 * sc ≤ 127 * sc := Int.mul_le_mul_of_nonneg_right hm1 (by omega)
  omega

end Go.Proofs.Ytfnneillakdopab.Num
