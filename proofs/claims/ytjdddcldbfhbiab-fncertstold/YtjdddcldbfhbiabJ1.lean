/-
  Texts of ours that later ones lean on, in one: 6, one behind the other.
-/
import Derived.Test.YtjdddcldbfhbiabRows
import Derived.WalkKit
import Derived.Laws.BytesArg
import Derived.Laws.OwnMore
import Derived.Laws.Strings
import Derived.BigQuiet
import Derived.WalkSmall
namespace Go.Proofs.Ytjdddcldbfhbiab
open Go.RowKit

theorem info5 : (Try.prog.info? 5).map (fun i => (i.zero, i.size, i.bytes)) = some (some (.int .u8 0), 1, 1) := by kernel_rfl

theorem strOfNums_row {w : World} {base n : Nat} {v : Value} {xs : List Int} (h : w.ownsRow base 5 1 v n (xs.map (Value.int .u8))) :
    (convert 22 9 v).run Try.prog w = .ok (.string (strOfNums xs)) w := by
  obtain ⟨hl, ⟨rfl, rfl⟩ | ⟨g, cap, cur, rfl, hb, hh, hn, hc, hs, ht⟩⟩ := h
  · simp at hl
    subst hl
    exact run_convert_bytes_nil w 22 5 Try.underlying22 Try.underlying5 0 0 9 Try.underlying9
  · have hl' : xs.length = n := by simpa using hl
    refine run_convert_bytes_arg w 22 5 Try.underlying22 Try.underlying5 g 0 n cap xs hl' ?_ 9 Try.underlying9
    intro i hi
    have h2 : (xs.map (Value.int .u8))[i]? = some (.int .u8 (xs.getD i 0)) := by
      simp [List.getD, List.getElem?_eq_getElem (show i < xs.length by omega)]
    rw [← ht] at h2
    rw [List.getElem?_take] at h2
    simp only [Nat.mul_one] at h2
    rw [if_pos hi] at h2
    simp only [World.cell?, hh, Nat.zero_add]
    simpa using h2

theorem news1 (wr : World) (x : Value) (t : TypeId) : ∀ j u, ([x] : List Value)[j]? = some u → (wr.alloc (.cells #[x] t)).cell? ((⟨wr.heap.size, 0, none⟩ : Addr).add j) = some u := by
  intro j u hj
  match j, hj with
  | 0, hj => simp at hj; subst hj; simp [Addr.add]
theorem ones1 (k : IntKind) (x : Int) : ∀ u ∈ ([.int k x] : List Value), u.oneCell' = true := by
  intro u hu; simp at hu; subst hu; rfl

theorem push_step {w wr w1 : World} {v v' : Value} {xs : List Int} {x : Int} {o : Obj} (hbel : Below w.heap.size w wr) (hown : wr.ownsRow w.heap.size 5 1 v xs.length (xs.map (Value.int .u8)))
    (hown' : w1.ownsRow w.heap.size 5 1 v' (xs.length + 1) (xs.map (Value.int .u8) ++ [.int .u8 x])) (hg : (wr.alloc o).grownBy w1 v.ownBlock) :
    w1.ownsRow w.heap.size 5 1 v' (xs ++ [x]).length ((xs ++ [x]).map (Value.int .u8)) ∧ Below w.heap.size w w1 := by
  refine ⟨by simpa using hown', (hbel.alloc hbel.size o).grown hg (by have := hbel.size; simp; omega) fun k hk => (hown.lt k hk).1⟩

theorem ret_str {a b : List Int} (h : a = b) : Ending.returned (.string (strOfNums a)) = .returned (.string (strOfNums b)) := by rw [h]
theorem ret_int {k : IntKind} {a b : Int} (h : a = b) : Ending.returned (.int k a) = .returned (.int k b) := by rw [h]
theorem ret_bool {a b : Bool} (h : a = b) : Ending.returned (.bool a) = .returned (.bool b) := by rw [h]
theorem ret_strb {a b : List Int} (h : a = b) : Ending.returned (.tuple #[.string (strOfNums a), .bool true]) = .returned (.tuple #[.string (strOfNums b), .bool true]) := by rw [h]

theorem one_str (W : World) (x : Int) : (convert 22 9 (.slice (some ⟨W.heap.size, 0, none⟩) 1 1)).run Try.prog (W.alloc (.cells #[.int .u8 x] 5)) = .ok (.string (strOfNums [x])) (W.alloc (.cells #[.int .u8 x] 5)) := by
  refine run_convert_bytes_arg _ 22 5 Try.underlying22 Try.underlying5 W.heap.size 0 1 1 [x] rfl ?_ 9 Try.underlying9
  intro i hi
  have : i = 0 := by omega
  subst this
  simp

theorem news2 (wr : World) (x y : Value) (t : TypeId) : ∀ j u, ([x, y] : List Value)[j]? = some u → (wr.alloc (.cells #[x, y] t)).drew.cell? ((⟨wr.heap.size, 0, none⟩ : Addr).add j) = some u := by
  intro j u hj
  match j, hj with
  | 0, hj => simp at hj; subst hj; simp [Addr.add]
  | 1, hj => simp at hj; subst hj; simp [Addr.add]

theorem ones2 (k : IntKind) (x y : Int) : ∀ u ∈ ([.int k x, .int k y] : List Value), u.oneCell' = true := by
  intro u hu; simp at hu; rcases hu with h | h <;> subst h <;> rfl

theorem push2 {w wr w1 : World} {v v' : Value} {xs : List Int} {x y : Int} {o : Obj} (hbel : Below w.heap.size w wr) (hown : wr.ownsRow w.heap.size 5 1 v xs.length (xs.map (Value.int .u8)))
    (hown' : w1.ownsRow w.heap.size 5 1 v' (xs.length + 2) (xs.map (Value.int .u8) ++ [.int .u8 x, .int .u8 y])) (hg : (wr.alloc o).drew.grownBy w1 v.ownBlock) :
    w1.ownsRow w.heap.size 5 1 v' (xs ++ [x, y]).length ((xs ++ [x, y]).map (Value.int .u8)) ∧ Below w.heap.size w w1 := by
  refine ⟨by simpa using hown', ((hbel.alloc hbel.size o).drew).grown hg (by have := hbel.size; show _ ≤ (wr.alloc o).heap.size; simp; omega) fun k hk => (hown.lt k hk).1⟩

theorem wrap_byte (x : Int) (h0 : 0 ≤ x) (h1 : x ≤ 255) : IntKind.i64.wrap x = x := by rw [IntKind.wrap_i64]; omega

theorem below_grown {w w' : World} (h : Below w.heap.size w w') : w.grownBy w' none := ⟨h.os, h.tape, h.output, h.size, fun k hk _ => h.block k hk⟩
theorem grown_trans {a b c : World} {r : Option Nat} (h : a.grownBy b r) (k : b.grownBy c r) : a.grownBy c r :=
  ⟨k.os.trans h.os, k.tape.trans h.tape, k.output.trans h.output, Nat.le_trans h.size k.size, fun i hi hr => (k.block i (Nat.lt_of_lt_of_le hi h.size) hr).trans (h.block i hi hr)⟩
theorem grown_any {a b : World} {r : Option Nat} (h : a.grownBy b none) : a.grownBy b r := ⟨h.os, h.tape, h.output, h.size, fun i hi _ => h.block i hi (by simp)⟩
theorem own_kept {w w' : World} {base : Nat} {e : TypeId} {m n : Nat} {v : Value} {xs : List Value} (h : w.ownsRow base e m v n xs) (hb : Below w.heap.size w w') : w'.ownsRow base e m v n xs :=
  World.ownsRow.kept h (below_grown hb) (by cases v.ownBlock <;> simp)
theorem own_base {w : World} {base base' : Nat} {e : TypeId} {m n : Nat} {v : Value} {xs : List Value} (h : w.ownsRow base e m v n xs) (hb : base' ≤ base) : w.ownsRow base' e m v n xs := by
  obtain ⟨hl, h0 | ⟨g, cap, cur, rfl, hg, r⟩⟩ := h
  · exact ⟨hl, Or.inl h0⟩
  · exact ⟨hl, Or.inr ⟨g, cap, cur, rfl, Nat.le_trans hb hg, r⟩⟩
/-- a row of no element, just made -/
theorem own_new (w : World) (e : TypeId) (m : Nat) : (w.alloc (.cells #[] e)).ownsRow w.heap.size e m (.slice (some ⟨w.heap.size, 0, none⟩) 0 0) 0 [] := by
  refine ⟨by simp, Or.inr ⟨w.heap.size, 0, #[], rfl, Nat.le_refl _, ?_, by simp, by simp, by simp, by simp⟩⟩
  show (w.heap.push (Obj.cells #[] e))[w.heap.size]? = _
  simp

/-- a cell of another block than the one that is written -/
theorem grown_cell {w w' : World} {r : Option Nat} (h : w.grownBy w' r) {g i : Nat} (hg : g < w.heap.size) (hr : ¬ r = some g) : w'.cell? ⟨g, i, none⟩ = w.cell? ⟨g, i, none⟩ := by
  simp only [World.cell?, h.block g hg fun e => hr e.symm]

theorem set_grown (w : World) (B o : Nat) (v : Value) : w.grownBy (w.setCell ⟨B, o, none⟩ v) (some B) :=
  ⟨rfl, rfl, rfl, by simp, fun k _ hk => heap_setCell_other w ⟨B, o, none⟩ k v (fun e => hk (by simp [e]))⟩

end Go.Proofs.Ytjdddcldbfhbiab

namespace Go.Proofs.Ytjdddcldbfhbiab.Num

/-- the bytes of a number, the lowest seven bits first; the first argument bounds the number of rounds -/
def vb : Nat → Int → List Int
  | 0, n => [n]
  | f + 1, n => if 127 < n then (n % 128 + 128) :: vb f (n / 128) else [n]

def vbs (n : Int) : List Int := vb n.toNat n

theorem vb_small (f : Nat) (n : Int) (h : n ≤ 127) : vb f n = [n] := by
  cases f with
  | zero => rfl
  | succ f => unfold vb; rw [if_neg (by omega)]

theorem vb_big (f : Nat) (n : Int) (h : 127 < n) (hf : n.toNat ≤ f) : ∃ g, vb f n = (n % 128 + 128) :: vb g (n / 128) ∧ (n / 128).toNat ≤ g := by
  cases f with
  | zero => omega
  | succ f =>
    refine ⟨f, ?_, by omega⟩
    show (if 127 < n then (n % 128 + 128) :: vb f (n / 128) else [n]) = _
    rw [if_pos h]

theorem vb_len : ∀ (f : Nat) (n : Int), (vb f n).length ≤ f + 1
  | 0, n => by simp [vb]
  | f + 1, n => by
    unfold vb
    split
    · have := vb_len f (n / 128); simp; omega
    · simp

/-- what a row of bytes from the place i on is read as: the number so far n, its scale sc, at most f bytes more; the first byte stood at a -/
def rv (a : Nat) : Nat → List Int → Int → Int → Nat → Int × Int × Bool
  | 0, _, _, _, _ => (0, 0, false)
  | _ + 1, [], _, _, _ => (0, 0, false)
  | f + 1, b :: l, n, sc, i =>
    if 127 < b then rv a f l (n + b % 128 * sc) (sc * 128) (i + 1)
    else if 1000000000 < n + b % 128 * sc ∨ (b = 0 ∧ a < i) then (0, 0, false) else (n + b % 128 * sc, (i : Int) + 1, true)

def bs (s : ByteArray) : List Int := s.data.toList.map fun c => (c.toNat : Int)
theorem bs_len (s : ByteArray) : (bs s).length = s.size := by simp only [bs, List.length_map, Array.length_toList]; rfl
theorem bs_drop (s : ByteArray) (j : Nat) (h : j < s.size) : (bs s).drop j = (s[j].toNat : Int) :: (bs s).drop (j + 1) := by
  rw [List.drop_eq_getElem_cons (by rw [bs_len]; exact h)]
  congr 1
  simp [bs]
  rfl
theorem byte_le (c : UInt8) : (0 : Int) ≤ (c.toNat : Int) ∧ (c.toNat : Int) ≤ 255 := by have := c.toNat_lt; omega

/-- the number so far at the place j, read on -/
def rvAt (s : ByteArray) (a : Nat) (n sc : Int) (j : Nat) : Int × Int × Bool := rv a (a + 5 - j) ((bs s).drop j) n sc j

theorem rvAt_stop (s : ByteArray) (a : Nat) (n sc : Int) (j : Nat) (h : s.size ≤ j ∨ a + 5 ≤ j) : rvAt s a n sc j = (0, 0, false) := by
  unfold rvAt
  rcases h with h | h
  · rw [List.drop_eq_nil_of_le (by rw [bs_len]; exact h)]
    cases a + 5 - j <;> rfl
  · rw [show a + 5 - j = 0 by omega]; rfl
theorem rvAt_go (s : ByteArray) (a : Nat) (n sc : Int) (j : Nat) (h : j < s.size) (h5 : j < a + 5) (hb : 127 < (s[j].toNat : Int)) :
    rvAt s a n sc j = rvAt s a (n + (s[j].toNat : Int) % 128 * sc) (sc * 128) (j + 1) := by
  unfold rvAt
  rw [bs_drop s j h, show a + 5 - j = (a + 5 - (j + 1)) + 1 by omega, rv, if_pos hb]
theorem rvAt_no (s : ByteArray) (a : Nat) (n sc : Int) (j : Nat) (h : j < s.size) (h5 : j < a + 5) (hb : (s[j].toNat : Int) ≤ 127)
    (hx : 1000000000 < n + (s[j].toNat : Int) % 128 * sc ∨ ((s[j].toNat : Int) = 0 ∧ a < j)) : rvAt s a n sc j = (0, 0, false) := by
  unfold rvAt
  rw [bs_drop s j h, show a + 5 - j = (a + 5 - (j + 1)) + 1 by omega, rv, if_neg (by omega), if_pos hx]
theorem rvAt_yes (s : ByteArray) (a : Nat) (n sc : Int) (j : Nat) (h : j < s.size) (h5 : j < a + 5) (hb : (s[j].toNat : Int) ≤ 127)
    (hx : ¬ (1000000000 < n + (s[j].toNat : Int) % 128 * sc ∨ ((s[j].toNat : Int) = 0 ∧ a < j))) : rvAt s a n sc j = (n + (s[j].toNat : Int) % 128 * sc, (j : Int) + 1, true) := by
  unfold rvAt
  rw [bs_drop s j h, show a + 5 - j = (a + 5 - (j + 1)) + 1 by omega, rv, if_neg (by omega), if_neg hx]

/-- the bounds of a scale -/
def scOk (sc : Int) (k : Nat) : Prop := sc = 128 ^ k
theorem sc_bd {sc : Int} {k : Nat} (h : scOk sc k) (hk : k < 5) : 1 ≤ sc ∧ sc ≤ 268435456 := by
  unfold scOk at h
  subst h
  have : k = 0 ∨ k = 1 ∨ k = 2 ∨ k = 3 ∨ k = 4 := by omega
  rcases this with rfl | rfl | rfl | rfl | rfl <;> decide
theorem sc_next {sc : Int} {k : Nat} (h : scOk sc k) : scOk (sc * 128) (k + 1) := by unfold scOk at *; rw [h, Int.pow_succ]
theorem mul_bd {b sc : Int} (h1 : 1 ≤ sc) (h2 : sc ≤ 268435456) : 0 ≤ b % 128 * sc ∧ b % 128 * sc ≤ 34091302912 ∧ b % 128 * sc + sc ≤ sc * 128 := by
  have hm0 : 0 ≤ b % 128 := by omega
  have hm1 : b % 128 ≤ 127 := by omega
  have p0 : 0 ≤ b % 128 * sc := Int.mul_nonneg hm0 (by omega)
  have p1 : b % 128 * sc ≤ 127 * sc := Int.mul_le_mul_of_nonneg_right hm1 (by omega)
  omega

end Go.Proofs.Ytjdddcldbfhbiab.Num

namespace Go.Proofs.Ytjdddcldbfhbiab.Num

/-- the number that a row of bytes tells, the lowest seven bits first -/
def num : List Int → Int
  | [] => 0
  | b :: l => b % 128 + 128 * num l

theorem num_snoc (l : List Int) (b : Int) : num (l ++ [b]) = num l + b % 128 * 128 ^ l.length := by
  induction l with
  | nil => simp [num]
  | cons x l ih =>
    simp only [List.cons_append, num, ih, List.length_cons, Int.pow_succ]
    have e : b % 128 * (128 ^ l.length * 128) = 128 * (b % 128 * 128 ^ l.length) := by
      rw [← Int.mul_assoc, Int.mul_comm]
    rw [e]; omega

theorem num_nonneg (l : List Int) : 0 ≤ num l := by
  induction l with
  | nil => simp [num]
  | cons x l ih => simp only [num]; omega

theorem num_pos (l : List Int) (b : Int) (h0 : 0 < b) (h1 : b ≤ 127) : 1 ≤ num (l ++ [b]) := by
  induction l with
  | nil => simp [num]; omega
  | cons x l ih => simp only [List.cons_append, num]; omega

theorem canon (l : List Int) (b : Int) (hb0 : 0 ≤ b) (hb1 : b ≤ 127) : (∀ x ∈ l, 128 ≤ x ∧ x ≤ 255) → (l = [] ∨ b ≠ 0) →
    ∀ f, (num (l ++ [b])).toNat ≤ f → vb f (num (l ++ [b])) = l ++ [b] := by
  induction l with
  | nil =>
    intro _ _ f _
    have e : num ([] ++ [b]) = b := by simp [num]; omega
    rw [e, vb_small f b hb1]; rfl
  | cons x l ih =>
    intro hall hor f hf
    have hbn : b ≠ 0 := by rcases hor with h | h; simp at h; exact h
    have hx := hall x (by simp)
    have hp := num_pos l b (by omega) hb1
    have e : num (x :: l ++ [b]) = x % 128 + 128 * num (l ++ [b]) := rfl
    rw [e] at hf ⊢
    obtain ⟨g, hg, hgf⟩ := vb_big f (x % 128 + 128 * num (l ++ [b])) (by omega) hf
    rw [hg]
    have e1 : (x % 128 + 128 * num (l ++ [b])) % 128 + 128 = x := by omega
    have e2 : (x % 128 + 128 * num (l ++ [b])) / 128 = num (l ++ [b]) := by omega
    rw [e2] at hgf
    rw [e1, e2, ih (fun y hy => hall y (by simp [hy])) (.inr hbn) g hgf]
    rfl

theorem vb_last : ∀ (f : Nat) (n : Int), 128 ≤ n → n.toNat ≤ f → ∃ ys y, vb f n = ys ++ [y] ∧ 1 ≤ y
  | 0, n, h, hf => by omega
  | f + 1, n, h, hf => by
    have e : vb (f + 1) n = (n % 128 + 128) :: vb f (n / 128) := by
      show (if 127 < n then (n % 128 + 128) :: vb f (n / 128) else [n]) = _
      rw [if_pos (by omega)]
    by_cases h2 : 128 ≤ n / 128
    · obtain ⟨ys, y, hy, h1⟩ := vb_last f (n / 128) h2 (by omega)
      exact ⟨(n % 128 + 128) :: ys, y, by rw [e, hy]; rfl, h1⟩
    · exact ⟨[n % 128 + 128], n / 128, by rw [e, vb_small f _ (by omega)]; rfl, by omega⟩

theorem not_canon (l : List Int) (n : Int) (hl : l ≠ []) (f : Nat) (hf : n.toNat ≤ f) : vb f n ≠ l ++ [0] := by
  intro h
  by_cases hn : 128 ≤ n
  · obtain ⟨ys, y, hy, h1⟩ := vb_last f n hn hf
    rw [hy] at h
    have := (List.append_inj' h rfl).2
    simp at this
    omega
  · rw [vb_small f n (by omega)] at h
    have := congrArg List.length h
    simp at this
    exact hl this

theorem vb_range : ∀ (f : Nat) (n : Int), 0 ≤ n → n.toNat ≤ f → ∀ x ∈ vb f n, 0 ≤ x ∧ x ≤ 255
  | 0, n, h, hf => by
    intro x hx
    simp [vb] at hx
    omega
  | f + 1, n, h, hf => by
    intro x hx
    by_cases h2 : 127 < n
    · have e : vb (f + 1) n = (n % 128 + 128) :: vb f (n / 128) := by
        show (if 127 < n then (n % 128 + 128) :: vb f (n / 128) else [n]) = _
        rw [if_pos h2]
      rw [e] at hx
      rcases List.mem_cons.1 hx with h3 | h3
      · omega
      · exact vb_range f (n / 128) (by omega) (by omega) x h3
    · rw [vb_small _ n (by omega)] at hx
      simp at hx
      omega

theorem str_bs (s : ByteArray) : strOfNums (bs s) = s := by
  apply ByteArray.ext
  apply Array.ext'
  show ((bs s).map fun n => UInt8.ofNat n.toNat) = s.data.toList
  simp only [bs, List.map_map]
  rw [List.map_congr_left (g := id)]
  · simp
  · intro c _
    simp
theorem bs_str (xs : List Int) (h : ∀ x ∈ xs, 0 ≤ x ∧ x ≤ 255) : bs (strOfNums xs) = xs := by
  show ((xs.map fun n => UInt8.ofNat n.toNat).map fun c => (c.toNat : Int)) = xs
  rw [List.map_map]
  conv => rhs; rw [← List.map_id xs]
  apply List.map_congr_left
  intro x hx
  have := h x hx
  show ((UInt8.ofNat x.toNat).toNat : Int) = x
  rw [UInt8.toNat_ofNat_of_lt' (by show x.toNat < 256; omega)]
  omega

theorem bs_extract (s : ByteArray) (a e : Nat) : bs (s.extract a e) = ((bs s).take e).drop a := by
  simp only [bs, ByteArray.data_extract, Array.toList_extract, List.map_drop, List.map_take, List.extract_eq_take_drop]
  rw [List.drop_take]

theorem seg_snoc (s : ByteArray) (a j : Nat) (haj : a ≤ j) (hj : j < s.size) : ((bs s).take (j + 1)).drop a = ((bs s).take j).drop a ++ [(s[j].toNat : Int)] := by
  have h1 : (bs s).take (j + 1) = (bs s).take j ++ [(s[j].toNat : Int)] := by
    rw [List.take_succ_eq_append_getElem (by rw [bs_len]; exact hj)]
    congr 2
    simp [bs]; rfl
  rw [h1, List.drop_append_of_le_length (by simp [bs_len]; omega)]

theorem take_snoc (s : ByteArray) (k : Nat) (h : k < s.size) : (bs s).take (k + 1) = (bs s).take k ++ [(s[k].toNat : Int)] := by
  have := seg_snoc s 0 k (Nat.zero_le _) h
  simpa using this

/-- the bytes from a up to j go on, and tell N -/
def segOk (s : ByteArray) (a j : Nat) (N : Int) : Prop := N = num (((bs s).take j).drop a) ∧ ∀ x ∈ ((bs s).take j).drop a, 128 ≤ x ∧ x ≤ 255
theorem segOk_start (s : ByteArray) (a : Nat) : segOk s a a 0 := by
  have e : ((bs s).take a).drop a = [] := List.drop_eq_nil_of_le (by simp; omega)
  unfold segOk; rw [e]; simp [num]
theorem segOk_next {s : ByteArray} {a j : Nat} {N SC : Int} (h : segOk s a j N) (haj : a ≤ j) (hj : j < s.size) (hsc : scOk SC (j - a)) (hb : 127 < (s[j].toNat : Int)) :
    segOk s a (j + 1) (N + (s[j].toNat : Int) % 128 * SC) := by
  have hlen : (((bs s).take j).drop a).length = j - a := by simp [bs_len]; omega
  unfold segOk at *
  rw [seg_snoc s a j haj hj]
  refine ⟨?_, ?_⟩
  · rw [num_snoc, hlen, ← h.1]; unfold scOk at hsc; rw [hsc]
  · intro x hx
    rcases List.mem_append.1 hx with h1 | h1
    · exact h.2 x h1
    · have := byte_le s[j]
      simp at h1; omega

/-- whether the text from a up to j is the VarText of the number that it tells -/
theorem same_bytes (s : ByteArray) (a j : Nat) (N SC : Int) (haj : a ≤ j) (hj : j < s.size) (hsc : scOk SC (j - a)) (hN : N = num (((bs s).take j).drop a)) (hall : ∀ x ∈ ((bs s).take j).drop a, 128 ≤ x ∧ x ≤ 255)
    (hb : (s[j].toNat : Int) ≤ 127) :
    ((strOfNums (vbs (N + (s[j].toNat : Int) % 128 * SC))).toList == (s.extract a (j + 1)).toList) = !decide ((s[j].toNat : Int) = 0 ∧ a < j) := by
  have hlen : (((bs s).take j).drop a).length = j - a := by simp [bs_len]; omega
  have hseg : bs (s.extract a (j + 1)) = ((bs s).take j).drop a ++ [(s[j].toNat : Int)] := by
    rw [bs_extract, seg_snoc s a j haj hj]
  have hnum : N + (s[j].toNat : Int) % 128 * SC = num (((bs s).take j).drop a ++ [(s[j].toNat : Int)]) := by
    rw [num_snoc, hlen, ← hN]; unfold scOk at hsc; rw [hsc]
  rw [hnum]
  generalize hl : ((bs s).take j).drop a = l at *
  generalize hbb : (s[j].toNat : Int) = b at *
  have hb0 : 0 ≤ b := by omega
  have hn0 := num_nonneg (l ++ [b])
  rw [Bool.eq_iff_iff]
  simp only [beq_iff_eq, Bool.not_eq_true', decide_eq_false_iff_not]
  constructor
  · intro h hx
    obtain ⟨h0, h1⟩ := hx
    have h2 : strOfNums (vbs (num (l ++ [b]))) = s.extract a (j + 1) := by
      apply ByteArray.ext; apply Array.ext'
      rw [← ByteArray.toList_eq, ← ByteArray.toList_eq]; exact h
    have h3 := congrArg bs h2
    rw [bs_str (vbs (num (l ++ [b]))) (vb_range _ _ hn0 (Nat.le_refl _)), hseg] at h3
    subst h0
    exact not_canon l _ (by intro e; rw [e] at hlen; simp at hlen; omega) _ (Nat.le_refl _) h3
  · intro hx
    have h2 : vbs (num (l ++ [b])) = l ++ [b] := canon l b hb0 hb hall (by
      by_cases e : b = 0
      · left
        have : ¬ a < j := fun h => hx ⟨e, h⟩
        exact List.eq_nil_of_length_eq_zero (by omega)
      · exact .inr e) _ (Nat.le_refl _)
    rw [h2, ← hseg, str_bs]

theorem short_room (s : ByteArray) (h : (s.size : Int) ≤ 20000) : (strOfNums (vbs s.size)).size + s.size ≤ 9223372036854775807 := by
  have := vb_len ((s.size : Int)).toNat s.size
  rw [strOfNums_size]; unfold vbs; omega

end Go.Proofs.Ytjdddcldbfhbiab.Num

namespace Go.Proofs.Ytjdddcldbfhbiab
open Go.RowKit

/-- a world that has at most more memory than w -/
structure Bw (w : World) where
  to : World
  below : Below w.heap.size w to

theorem bw_some (w : World) : Nonempty (Bw w) := ⟨⟨w, Below.refl _ _⟩⟩

theorem wp_region_bw {P : Program} {id : Nat} {Q : Exit → Act → World → Prop} {a : Act} {w : World} {l : List Oper} (hm : P.follows .mixedOrders = true) (hB : Region.lexB .any l.toArray = true)
    (h : wpQuiet P l.toArray (fun w' => ∃ x : Bw w, w' = x.to) (fun a' => ∀ w', (∃ x : Bw w, w' = x.to) → Q .normal a' w') l a) : (Code.region id l.toArray true).wp P Q a w :=
  wp_region_quiet (C := fun w' => ∃ x : Bw w, w' = x.to) hm hB ⟨⟨w.drew, (Below.refl _ _).drew⟩, rfl⟩ (by simpa using h)

theorem calls_bw {P : Program} {f : FuncId} {args : Array Value} {w : World} {x : Bw w} {v : Value}
    (h : Calls P f args x.to fun e w' => e = .returned v ∧ Below x.to.heap.size x.to w') : Calls P f args x.to fun e w'' => e = .returned v ∧ ∃ y : Bw w, w'' = y.to :=
  h.mono fun _ w' ⟨he, hb⟩ => ⟨he, ⟨w', x.below.trans (hb.mono x.below.size)⟩, rfl⟩
theorem calls_bw_same {P : Program} {f : FuncId} {args : Array Value} {w : World} {x : Bw w} {v : Value}
    (h : Calls P f args x.to fun e w' => e = .returned v ∧ w' = x.to) : Calls P f args x.to fun e w'' => e = .returned v ∧ ∃ y : Bw w, w'' = y.to :=
  h.mono fun _ _ ⟨he, hb⟩ => ⟨he, x, hb⟩
end Go.Proofs.Ytjdddcldbfhbiab

namespace Go.Proofs.Ytjdddcldbfhbiab
open Go.RowKit Num

theorem ba {a b : World} (h : Below a.heap.size a b) (o : Obj) : Below a.heap.size a (b.alloc o) := h.alloc h.size o
theorem bt {a b c : World} (h1 : Below a.heap.size a b) (h2 : Below b.heap.size b c) : Below a.heap.size a c := h1.trans (h2.mono h1.size)

abbrev CL := List (ByteArray × Int)

/-- a row that can be read: these accounts -/
def Cells (w : World) (v : Value) (cs : CL) : Prop :=
  ∃ a cap, v = .slice a cs.length cap ∧ (0 < cs.length → ∃ g off, a = some ⟨g, off, none⟩ ∧ g < w.heap.size ∧
    ∀ i (h : i < cs.length), w.cell? ⟨g, off + i * 2, none⟩ = some (.string cs[i].1) ∧ w.cell? ⟨g, off + i * 2 + 1, none⟩ = some (.int .i64 cs[i].2))
theorem Cells.below {w w' : World} {v : Value} {cs : CL} (h : Cells w v cs) (hb : Below w.heap.size w w') : Cells w' v cs := by
  obtain ⟨a, cap, rfl, hr⟩ := h
  refine ⟨a, cap, rfl, fun hl => ?_⟩
  obtain ⟨g, off, rfl, hg, hc⟩ := hr hl
  refine ⟨g, off, rfl, Nat.lt_of_lt_of_le hg hb.size, fun i hi => ?_⟩
  rw [hb.cell (by exact hg), hb.cell (by exact hg)]
  exact hc i hi

/-- an account as a value -/
def cellV (c : ByteArray × Int) : Value := .agg #[.string c.1, .int .i64 c.2]

/-- a row of accounts, cell by cell -/
def flat (cs : CL) : List Value := cs.flatMap fun c => [.string c.1, .int .i64 c.2]
theorem flat_len (cs : CL) : (flat cs).length = cs.length * 2 := by
  induction cs with
  | nil => rfl
  | cons c cs ih => simp only [flat, List.flatMap_cons, List.length_append] at ih ⊢; simp [ih]; omega
theorem flat_cons (c : ByteArray × Int) (cs : CL) : flat (c :: cs) = .string c.1 :: .int .i64 c.2 :: flat cs := rfl
theorem flat_append (a b : CL) : flat (a ++ b) = flat a ++ flat b := by simp [flat]
theorem flat_at (cs : CL) : ∀ i (h : i < cs.length), (flat cs)[i * 2]? = some (.string cs[i].1) ∧ (flat cs)[i * 2 + 1]? = some (.int .i64 cs[i].2) := by
  induction cs with
  | nil => intro i h; simp at h
  | cons c cs ih =>
    intro i h
    cases i with
    | zero => simp [flat_cons]
    | succ i =>
      have := ih i (by simpa using h)
      rw [flat_cons, show (i + 1) * 2 = i * 2 + 1 + 1 by omega]
      simpa using this

/-- a row that the call made can be read -/
theorem cells_of_own {w : World} {base : Nat} {e : TypeId} {v : Value} {cs : CL} (h : w.ownsRow base e 2 v cs.length (flat cs)) : Cells w v cs := by
  obtain ⟨hl, ⟨rfl, h0⟩ | ⟨g, cap, cur, rfl, hb, hh, hn, hc, hs, ht⟩⟩ := h
  · exact ⟨none, 0, by rw [h0], fun hp => by omega⟩
  · refine ⟨_, cap, rfl, fun _ => ⟨g, 0, rfl, ?_, fun i hi => ?_⟩⟩
    · rcases Nat.lt_or_ge g w.heap.size with h | h
      · exact h
      · rw [Array.getElem?_eq_none h] at hh; cases hh
    · have hf := flat_at cs i hi
      rw [← ht] at hf
      rw [List.getElem?_take_of_lt (by omega), List.getElem?_take_of_lt (by omega)] at hf
      rw [cell_of_row w g _ cur _ _ hh, cell_of_row w g _ cur _ _ hh]
      simpa using hf

/-- what is left when a row's size is taken off -/
def szc : CL → Int → Int
  | [], left => left
  | c :: cs, left => if left - c.1.size < 0 then -1 else szc cs (left - c.1.size)
def szCells (cs : CL) (left : Int) : Int := if left - cs.length < 0 then -1 else szc cs (left - cs.length)
theorem szc_bd (cs : CL) : ∀ left : Int, left ≤ 1048576 → 0 ≤ szc cs left → szc cs left ≤ left ∧ ∀ c ∈ cs, (c.1.size : Int) ≤ 1048576 := by
  induction cs with
  | nil => intro left _ _; exact ⟨Int.le_refl _, fun c h => by cases h⟩
  | cons c cs ih =>
    intro left hl h
    unfold szc at h ⊢
    split at h
    · omega
    · rename_i hn
      rw [if_neg hn]
      have := ih _ (by omega) h
      refine ⟨by omega, fun x hx => ?_⟩
      rcases List.mem_cons.1 hx with rfl | hx
      · omega
      · exact this.2 x hx
theorem szc_neg {cs : CL} {left : Int} (h0 : 0 ≤ left) : -1 ≤ szc cs left := by
  induction cs generalizing left with
  | nil => unfold szc; omega
  | cons c cs ih =>
    unfold szc
    split
    · omega
    · exact ih (by omega)
theorem szCells_bd {cs : CL} {left : Int} (hl : left ≤ 1048576) (h : 0 ≤ szCells cs left) : (cs.length : Int) ≤ 1048576 ∧ szCells cs left ≤ left ∧ ∀ c ∈ cs, (c.1.size : Int) ≤ 1048576 := by
  unfold szCells at h ⊢
  split at h
  · omega
  · rename_i hn
    rw [if_neg hn]
    have := szc_bd cs _ (by omega) h
    exact ⟨by omega, by omega, this.2⟩

/-- the two cells of an account in a row that the call made can be set, one behind the other -/
theorem own_two {w : World} {base g n cap : Nat} {e : TypeId} {xs : List Value} (h : w.ownsRow base e 2 (.slice (some ⟨g, 0, none⟩) n cap) n xs) (k : Nat) (hk : k < n) :
    ∃ u0 u1, w.cell? ⟨g, k * 2, none⟩ = some u0 ∧ w.frozen? ⟨g, k * 2, none⟩ = false ∧ w.cell? ⟨g, k * 2 + 1, none⟩ = some u1 ∧ (∀ u, (w.setCell ⟨g, k * 2, none⟩ u).cell? ⟨g, k * 2 + 1, none⟩ = some u1) ∧ ∀ u, (w.setCell ⟨g, k * 2, none⟩ u).frozen? ⟨g, k * 2 + 1, none⟩ = false := by
  have hl := h.1
  have h0 : k * 2 < xs.length := by omega
  have h1 : k * 2 + 1 < xs.length := by omega
  refine ⟨xs[k * 2], xs[k * 2 + 1], ?_, h.frozenAt _, ?_, fun u => ?_, fun u => (h.stored (k * 2) u).1.frozenAt _⟩
  · rw [h.cellAt _ (by omega), List.getElem?_eq_getElem h0]
  · rw [h.cellAt _ (by omega), List.getElem?_eq_getElem h1]
  · rw [(h.stored (k * 2) u).1.cellAt _ (by omega), List.getElem?_set_ne (by omega), List.getElem?_eq_getElem h1]
theorem own_set_two {w : World} {base g n cap : Nat} {e : TypeId} {xs : List Value} (h : w.ownsRow base e 2 (.slice (some ⟨g, 0, none⟩) n cap) n xs) (i j : Nat) (a b : Value) :
    ((w.setCell ⟨g, i, none⟩ a).setCell ⟨g, j, none⟩ b).ownsRow base e 2 (.slice (some ⟨g, 0, none⟩) n cap) n ((xs.set i a).set j b) ∧ w.grownBy ((w.setCell ⟨g, i, none⟩ a).setCell ⟨g, j, none⟩ b) (some g) := by
  have h1 := h.stored i a
  have h2 := h1.1.stored j b
  exact ⟨h2.1, ⟨h2.2.os.trans h1.2.os, h2.2.tape.trans h1.2.tape, h2.2.output.trans h1.2.output, Nat.le_trans h1.2.size h2.2.size, fun k hk hr => (h2.2.block k (Nat.lt_of_lt_of_le hk h1.2.size) hr).trans (h1.2.block k hk hr)⟩⟩

end Go.Proofs.Ytjdddcldbfhbiab

namespace Go.Proofs.Ytjdddcldbfhbiab
open Go.RowKit

/-- whether a number stands in an interval, as a Bool that no walk opens -/
def inB (x a b : Int) : Bool := decide (a ≤ x ∧ x ≤ b)

theorem inB_yes {x a b : Int} (h : a ≤ x ∧ x ≤ b) : inB x a b = true := by simp [inB, h]

theorem inB_no {x a b : Int} (h : ¬ (a ≤ x ∧ x ≤ b)) : inB x a b = false := by simp only [inB, decide_eq_false_iff_not]; exact h

theorem in_any (x a b : Int) (w : World) : Calls Try.prog 61 #[.int .i64 x, .int .i64 a, .int .i64 b] w fun e w' => e = .returned (.bool (inB x a b)) ∧ w' = w := by
  by_cases h1 : a ≤ x
  · by_cases h2 : x ≤ b
    · rw [inB_yes ⟨h1, h2⟩]
      go_enter Try.func61, Try.ntmps61
      go_wp2
      go_ret
      exact ⟨rfl, rfl⟩
    · rw [inB_no (by omega)]
      go_enter Try.func61, Try.ntmps61
      go_wp2
      go_ret
      exact ⟨rfl, rfl⟩
  · rw [inB_no (by omega)]
    go_enter Try.func61, Try.ntmps61
    go_wp2
    go_ret
    exact ⟨rfl, rfl⟩

end Go.Proofs.Ytjdddcldbfhbiab
