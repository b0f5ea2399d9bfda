/-
  Plain mathematics of the sums: half a sum, eight times for each byte; two ways of doing it are one; no two sums, and no two bytes, come to the same. No Go text is met here.
-/
import Derived.WalkKit
namespace Go.Proofs.YtjdddcldbfhbiaaDoor.Num

/-- one step: half of it (down), turned by the fixed number when it was odd -/
def half (n : Nat) : Nat := if n % 2 = 1 then n / 2 ^^^ 3558460437 else n / 2

theorem half_odd {n : Nat} (h : n % 2 = 1) : half n = n / 2 ^^^ 3558460437 := if_pos h
theorem half_even {n : Nat} (h : n % 2 = 0) : half n = n / 2 := if_neg (by omega)

theorem xor_lt32 {a b : Nat} (ha : a < 4294967296) (hb : b < 4294967296) : a ^^^ b < 4294967296 := Nat.xor_lt_two_pow (n := 32) ha hb
theorem half_lt {n : Nat} (h : n < 4294967296) : half n < 4294967296 := by
  unfold half
  split
  · exact xor_lt32 (by omega) (by decide)
  · omega

theorem xor_mod2 (a b : Nat) : (a ^^^ b) % 2 = (a % 2 + b % 2) % 2 := by
  have h := Nat.xor_mod_two_pow (a := a) (b := b) (n := 1)
  simp only [Nat.pow_one] at h
  rw [h]
  rcases Nat.mod_two_eq_zero_or_one a with h1 | h1 <;> rcases Nat.mod_two_eq_zero_or_one b with h2 | h2 <;> rw [h1, h2] <;> rfl

theorem xor_half (a b : Nat) : (a ^^^ b) / 2 = a / 2 ^^^ b / 2 := by
  have h := Nat.xor_div_two_pow (a := a) (b := b) (n := 1)
  simpa using h

theorem half_xor (a b : Nat) : half (a ^^^ b) = half a ^^^ half b := by
  have h := xor_mod2 a b
  have h2 := xor_half a b
  rcases Nat.mod_two_eq_zero_or_one a with ha | ha <;> rcases Nat.mod_two_eq_zero_or_one b with hb | hb
  · rw [half_even ha, half_even hb, half_even (by omega), h2]
  · rw [half_even ha, half_odd hb, half_odd (by omega), h2, Nat.xor_assoc]
  · rw [half_odd ha, half_even hb, half_odd (by omega), h2, Nat.xor_assoc, Nat.xor_assoc, Nat.xor_comm (b / 2)]
  · rw [half_odd ha, half_odd hb, half_even (by omega), h2, Nat.xor_assoc, Nat.xor_comm (b / 2), ← Nat.xor_assoc 3558460437, Nat.xor_self, Nat.zero_xor]

theorem xor_zero_eq {a b : Nat} (h : a ^^^ b = 0) : a = b := by
  have e : (a ^^^ b) ^^^ b = a := by rw [Nat.xor_assoc, Nat.xor_self, Nat.xor_zero]
  rw [h, Nat.zero_xor] at e
  exact e.symm

/-- no two sums come to the same -/
theorem half_zero {n : Nat} (h : n < 4294967296) (hz : half n = 0) : n = 0 := by
  rcases Nat.mod_two_eq_zero_or_one n with hn | hn
  · rw [half_even hn] at hz; omega
  · rw [half_odd hn] at hz
    have := xor_zero_eq hz
    omega
theorem half_inj {a b : Nat} (ha : a < 4294967296) (hb : b < 4294967296) (h : half a = half b) : a = b := by
  have hz : half (a ^^^ b) = 0 := by rw [half_xor, h, Nat.xor_self]
  exact xor_zero_eq (half_zero (xor_lt32 ha hb) hz)

/-- so many steps -/
def halves : Nat → Nat → Nat
  | 0, n => n
  | k + 1, n => half (halves k n)
theorem halves_lt (k : Nat) {n : Nat} (h : n < 4294967296) : halves k n < 4294967296 := by
  induction k with
  | zero => exact h
  | succ k ih => exact half_lt ih
theorem halves_xor (k a b : Nat) : halves k (a ^^^ b) = halves k a ^^^ halves k b := by
  induction k with
  | zero => rfl
  | succ k ih => show half _ = half _ ^^^ half _; rw [ih, half_xor]
theorem halves_inj (k : Nat) {a b : Nat} (ha : a < 4294967296) (hb : b < 4294967296) (h : halves k a = halves k b) : a = b := by
  induction k with
  | zero => exact h
  | succ k ih => exact ih (half_inj (halves_lt k ha) (halves_lt k hb) h)
theorem halves_add (j k n : Nat) : halves (j + k) n = halves j (halves k n) := by
  induction j with
  | zero => rw [Nat.zero_add]; rfl
  | succ j ih => rw [Nat.succ_add]; show half _ = half _; rw [ih]

/-- the table of four steps -/
def tab : List Nat := [0x00000000, 0x4589ac8d, 0x8b13591a, 0xce9af597, 0xbe152a1f, 0xfb9c8692, 0x35067305, 0x708fdf88, 0xd419cc15, 0x91906098, 0x5f0a950f, 0x1a833982, 0x6a0ce60a, 0x2f854a87, 0xe11fbf10, 0xa496139d]
def tabAt (r : Nat) : Nat := tab.getD r 0
theorem tab_right : ∀ r, r < 16 → tabAt r = halves 4 r := by decide

theorem halves4_even {m : Nat} (h : m % 16 = 0) : halves 4 m = m / 16 := by
  show half (half (half (half m))) = _
  rw [half_even (n := m) (by omega), half_even (n := m / 2) (by omega), half_even (n := m / 2 / 2) (by omega), half_even (n := m / 2 / 2 / 2) (by omega)]
  omega

/-- four steps at once -/
theorem halves4 (n : Nat) : halves 4 n = n / 16 ^^^ tabAt (n % 16) := by
  have hm : (n ^^^ n % 16) % 16 = 0 := by
    have h := Nat.xor_mod_two_pow (a := n) (b := n % 16) (n := 4)
    simp only [show (2 : Nat) ^ 4 = 16 from rfl] at h
    rw [h, Nat.mod_mod, Nat.xor_self]
  have hd : (n ^^^ n % 16) / 16 = n / 16 := by
    have h := Nat.xor_div_two_pow (a := n) (b := n % 16) (n := 4)
    simp only [show (2 : Nat) ^ 4 = 16 from rfl] at h
    rw [h, show n % 16 / 16 = 0 by omega, Nat.xor_zero]
  have hn : n = (n ^^^ n % 16) ^^^ n % 16 := by rw [Nat.xor_assoc, Nat.xor_self, Nat.xor_zero]
  rw [tab_right (n % 16) (by omega)]
  conv => lhs; rw [hn]
  rw [halves_xor, halves4_even hm, hd]
theorem tab_lt : ∀ r, r < 16 → tabAt r < 4294967296 := by decide

/-- a sum and a byte more -/
def byteSum (s b : Nat) : Nat := halves 8 (s ^^^ b)
theorem byteSum_four (s b : Nat) : byteSum s b = halves 4 (halves 4 (s ^^^ b)) := rfl
theorem byteSum_lt {s b : Nat} (h : s < 4294967296) (hb : b < 256) : byteSum s b < 4294967296 := halves_lt 8 (xor_lt32 h (by omega))
theorem byteSum_inj {s s' b : Nat} (h : s < 4294967296) (h' : s' < 4294967296) (hb : b < 256) (he : byteSum s b = byteSum s' b) : s = s' := by
  have := halves_inj 8 (xor_lt32 h (by omega)) (xor_lt32 h' (by omega)) he
  have h2 : (s ^^^ b) ^^^ b = (s' ^^^ b) ^^^ b := by rw [this]
  simpa [Nat.xor_assoc, Nat.xor_self] using h2
theorem byteSum_inj' {s b b' : Nat} (h : s < 4294967296) (hb : b < 256) (hb' : b' < 256) (he : byteSum s b = byteSum s b') : b = b' := by
  have := halves_inj 8 (xor_lt32 h (by omega)) (xor_lt32 h (by omega)) he
  have h2 : s ^^^ (s ^^^ b) = s ^^^ (s ^^^ b') := by rw [this]
  simpa [← Nat.xor_assoc, Nat.xor_self] using h2

/-- a sum and more bytes, in order -/
def sums (s : Nat) (l : List Int) : Nat := l.foldl (fun s b => byteSum s b.toNat) s
theorem sums_nil (s : Nat) : sums s [] = s := rfl
theorem sums_cons (s : Nat) (b : Int) (l : List Int) : sums s (b :: l) = sums (byteSum s b.toNat) l := by unfold sums; rw [List.foldl_cons]
theorem sums_append (s : Nat) (l k : List Int) : sums s (l ++ k) = sums (sums s l) k := List.foldl_append
theorem sums_snoc (s : Nat) (l : List Int) (b : Int) : sums s (l ++ [b]) = byteSum (sums s l) b.toNat := by rw [sums_append, sums_cons, sums_nil]

def bytesOk (l : List Int) : Prop := ∀ x ∈ l, 0 ≤ x ∧ x ≤ 255
theorem sums_lt (l : List Int) : ∀ s : Nat, s < 4294967296 → bytesOk l → sums s l < 4294967296 := by
  induction l with
  | nil => intro s h _; exact h
  | cons b l ih =>
    intro s h hb
    have h0 := hb b (by simp)
    exact ih _ (byteSum_lt h (by omega)) fun x hx => hb x (by simp [hx])
theorem sums_inj (l : List Int) : ∀ s s' : Nat, s < 4294967296 → s' < 4294967296 → bytesOk l → sums s l = sums s' l → s = s' := by
  induction l with
  | nil => intro s s' _ _ _ h; exact h
  | cons b l ih =>
    intro s s' h h' hb he
    have h0 := hb b (by simp)
    exact byteSum_inj h h' (by omega) (ih _ _ (byteSum_lt h (by omega)) (byteSum_lt h' (by omega)) (fun x hx => hb x (by simp [hx])) he)

/-- one byte that is another: another sum -/
theorem sums_turned (l r : List Int) (b b' : Int) (s : Nat) (hs : s < 4294967296) (hl : bytesOk l) (hr : bytesOk r) (hb : 0 ≤ b ∧ b ≤ 255) (hb' : 0 ≤ b' ∧ b' ≤ 255) (h : sums s (l ++ b :: r) = sums s (l ++ b' :: r)) : b = b' := by
  rw [sums_append, sums_append, sums_cons, sums_cons] at h
  have h0 := sums_lt l s hs hl
  have h1 := sums_inj r _ _ (byteSum_lt h0 (by omega)) (byteSum_lt h0 (by omega)) hr h
  have h2 := byteSum_inj' h0 (by omega) (by omega) h1
  omega

/-- the four bytes of a sum, the highest first -/
def seal4 (x : Nat) : List Int := [(x : Int) / 16777216, (x : Int) / 65536 % 256, (x : Int) / 256 % 256, (x : Int) % 256]
theorem seal4_ok {x : Nat} (hx : x < 4294967296) : bytesOk (seal4 x) := by
  intro y hy
  simp only [seal4, List.mem_cons, List.not_mem_nil, or_false] at hy
  rcases hy with rfl | rfl | rfl | rfl <;> omega
theorem seal4_inj {x y : Nat} (h : seal4 x = seal4 y) : x = y := by
  simp only [seal4, List.cons.injEq, and_true] at h
  omega

end Go.Proofs.YtjdddcldbfhbiaaDoor.Num
