/-
  What every proof of ours leans on, in one text: 22 small ones, one behind the other.
-/
import Derived.Test.YtcfgfhodbjakoavGreatDoorRows
import Derived.WalkKit
import Derived.Laws.BytesArg
import Derived.Laws.OwnMore
import Derived.Laws.Strings
import Derived.BigQuiet
import Derived.WalkSmall
import Derived.OrdersHeld
import Derived.Deep.RegionHeld
import Derived.Laws.Tables
import Derived.Laws.CopyRow
import Derived.Laws.Rows
import Derived.ProofKit
import Derived.OpenShut
import Derived.ChangeOld
import Derived.Deep.SlicePairs
import Derived.Deep.Strs
/-
  Rows of bytes that the call itself makes: what is appended, what a text made of them holds.
-/
namespace Go.Proofs.YtcfgfhodbjakoavGreatDoor
open Go.RowKit

theorem info5 : (Tryz.prog.info? 5).map (fun i => (i.zero, i.size, i.bytes)) = some (some (.int .u8 0), 1, 1) := by kernel_rfl

theorem strOfNums_row {w : World} {base n : Nat} {v : Value} {xs : List Int} (h : w.ownsRow base 5 1 v n (xs.map (Value.int .u8))) :
    (convert 198 9 v).run Tryz.prog w = .ok (.string (strOfNums xs)) w := by
  obtain ⟨hl, ⟨rfl, rfl⟩ | ⟨g, cap, cur, rfl, hb, hh, hn, hc, hs, ht⟩⟩ := h
  · simp at hl
    subst hl
    exact run_convert_bytes_nil w 198 5 Tryz.underlying198 Tryz.underlying5 0 0 9 Tryz.underlying9
  · have hl' : xs.length = n := by simpa using hl
    refine run_convert_bytes_arg w 198 5 Tryz.underlying198 Tryz.underlying5 g 0 n cap xs hl' ?_ 9 Tryz.underlying9
    intro i hi
    have h2 : (xs.map (Value.int .u8))[i]? = some (.int .u8 (xs.getD i 0)) := by
      simp [List.getD, List.getElem?_eq_getElem (show i < xs.length by omega)]
    rw [← ht] at h2
    rw [List.getElem?_take] at h2
    simp only [Nat.mul_one] at h2
    rw [if_pos hi] at h2
    simp only [World.cell?, hh, Nat.zero_add]
    simpa using h2

theorem news1 (wr : World) (x : Value) (t : TypeId) : ∀ j u, ([x] : List Value)[j]? = some u → (wr.alloc (.cells #[x] t)).cell? ((⟨wr.heap.size, 0, none⟩ : Addr).add j) = some u := by
  intro j u hj
  match j, hj with
  | 0, hj => simp at hj; subst hj; simp [Addr.add]
theorem ones1 (k : IntKind) (x : Int) : ∀ u ∈ ([.int k x] : List Value), u.oneCell' = true := by
  intro u hu; simp at hu; subst hu; rfl

theorem push_step {w wr w1 : World} {v v' : Value} {xs : List Int} {x : Int} {o : Obj} (hbel : Below w.heap.size w wr) (hown : wr.ownsRow w.heap.size 5 1 v xs.length (xs.map (Value.int .u8)))
    (hown' : w1.ownsRow w.heap.size 5 1 v' (xs.length + 1) (xs.map (Value.int .u8) ++ [.int .u8 x])) (hg : (wr.alloc o).grownBy w1 v.ownBlock) :
    w1.ownsRow w.heap.size 5 1 v' (xs ++ [x]).length ((xs ++ [x]).map (Value.int .u8)) ∧ Below w.heap.size w w1 := by
  refine ⟨by simpa using hown', (hbel.alloc hbel.size o).grown hg (by have := hbel.size; simp; omega) fun k hk => (hown.lt k hk).1⟩

theorem ret_str {a b : List Int} (h : a = b) : Ending.returned (.string (strOfNums a)) = .returned (.string (strOfNums b)) := by rw [h]
theorem ret_int {k : IntKind} {a b : Int} (h : a = b) : Ending.returned (.int k a) = .returned (.int k b) := by rw [h]
theorem ret_bool {a b : Bool} (h : a = b) : Ending.returned (.bool a) = .returned (.bool b) := by rw [h]
theorem ret_strb {a b : List Int} (h : a = b) : Ending.returned (.tuple #[.string (strOfNums a), .bool true]) = .returned (.tuple #[.string (strOfNums b), .bool true]) := by rw [h]

theorem one_str (W : World) (x : Int) : (convert 198 9 (.slice (some ⟨W.heap.size, 0, none⟩) 1 1)).run Tryz.prog (W.alloc (.cells #[.int .u8 x] 5)) = .ok (.string (strOfNums [x])) (W.alloc (.cells #[.int .u8 x] 5)) := by
  refine run_convert_bytes_arg _ 198 5 Tryz.underlying198 Tryz.underlying5 W.heap.size 0 1 1 [x] rfl ?_ 9 Tryz.underlying9
  intro i hi
  have : i = 0 := by omega
  subst this
  simp

theorem news2 (wr : World) (x y : Value) (t : TypeId) : ∀ j u, ([x, y] : List Value)[j]? = some u → (wr.alloc (.cells #[x, y] t)).drew.cell? ((⟨wr.heap.size, 0, none⟩ : Addr).add j) = some u := by
  intro j u hj
  match j, hj with
  | 0, hj => simp at hj; subst hj; simp [Addr.add]
  | 1, hj => simp at hj; subst hj; simp [Addr.add]

theorem ones2 (k : IntKind) (x y : Int) : ∀ u ∈ ([.int k x, .int k y] : List Value), u.oneCell' = true := by
  intro u hu; simp at hu; rcases hu with h | h <;> subst h <;> rfl

theorem push2 {w wr w1 : World} {v v' : Value} {xs : List Int} {x y : Int} {o : Obj} (hbel : Below w.heap.size w wr) (hown : wr.ownsRow w.heap.size 5 1 v xs.length (xs.map (Value.int .u8)))
    (hown' : w1.ownsRow w.heap.size 5 1 v' (xs.length + 2) (xs.map (Value.int .u8) ++ [.int .u8 x, .int .u8 y])) (hg : (wr.alloc o).drew.grownBy w1 v.ownBlock) :
    w1.ownsRow w.heap.size 5 1 v' (xs ++ [x, y]).length ((xs ++ [x, y]).map (Value.int .u8)) ∧ Below w.heap.size w w1 := by
  refine ⟨by simpa using hown', ((hbel.alloc hbel.size o).drew).grown hg (by have := hbel.size; show _ ≤ (wr.alloc o).heap.size; simp; omega) fun k hk => (hown.lt k hk).1⟩

theorem wrap_byte (x : Int) (h0 : 0 ≤ x) (h1 : x ≤ 255) : IntKind.i64.wrap x = x := by rw [IntKind.wrap_i64]; omega

theorem below_grown {w w' : World} (h : Below w.heap.size w w') : w.grownBy w' none := ⟨h.os, h.tape, h.output, h.size, fun k hk _ => h.block k hk⟩
theorem grown_trans {a b c : World} {r : Option Nat} (h : a.grownBy b r) (k : b.grownBy c r) : a.grownBy c r :=
  ⟨k.os.trans h.os, k.tape.trans h.tape, k.output.trans h.output, Nat.le_trans h.size k.size, fun i hi hr => (k.block i (Nat.lt_of_lt_of_le hi h.size) hr).trans (h.block i hi hr)⟩
theorem grown_any {a b : World} {r : Option Nat} (h : a.grownBy b none) : a.grownBy b r := ⟨h.os, h.tape, h.output, h.size, fun i hi _ => h.block i hi (by simp)⟩
theorem own_kept {w w' : World} {base : Nat} {e : TypeId} {m n : Nat} {v : Value} {xs : List Value} (h : w.ownsRow base e m v n xs) (hb : Below w.heap.size w w') : w'.ownsRow base e m v n xs :=
  World.ownsRow.kept h (below_grown hb) (by cases v.ownBlock <;> simp)
theorem own_base {w : World} {base base' : Nat} {e : TypeId} {m n : Nat} {v : Value} {xs : List Value} (h : w.ownsRow base e m v n xs) (hb : base' ≤ base) : w.ownsRow base' e m v n xs := by
  obtain ⟨hl, h0 | ⟨g, cap, cur, rfl, hg, r⟩⟩ := h
  · exact ⟨hl, Or.inl h0⟩
  · exact ⟨hl, Or.inr ⟨g, cap, cur, rfl, Nat.le_trans hb hg, r⟩⟩
/-- a row of no element, just made -/
theorem own_new (w : World) (e : TypeId) (m : Nat) : (w.alloc (.cells #[] e)).ownsRow w.heap.size e m (.slice (some ⟨w.heap.size, 0, none⟩) 0 0) 0 [] := by
  refine ⟨by simp, Or.inr ⟨w.heap.size, 0, #[], rfl, Nat.le_refl _, ?_, by simp, by simp, by simp, by simp⟩⟩
  show (w.heap.push (Obj.cells #[] e))[w.heap.size]? = _
  simp

/-- a cell of another block than the one that is written -/
theorem grown_cell {w w' : World} {r : Option Nat} (h : w.grownBy w' r) {g i : Nat} (hg : g < w.heap.size) (hr : ¬ r = some g) : w'.cell? ⟨g, i, none⟩ = w.cell? ⟨g, i, none⟩ := by
  simp only [World.cell?, h.block g hg fun e => hr e.symm]

theorem set_grown (w : World) (B o : Nat) (v : Value) : w.grownBy (w.setCell ⟨B, o, none⟩ v) (some B) :=
  ⟨rfl, rfl, rfl, by simp, fun k _ hk => heap_setCell_other w ⟨B, o, none⟩ k v (fun e => hk (by simp [e]))⟩

end Go.Proofs.YtcfgfhodbjakoavGreatDoor

/-
  Plain mathematics of the words: the bytes of a number in VarText's form, and what a row of such bytes says. No Go text is met here.
-/
namespace Go.Proofs.YtcfgfhodbjakoavGreatDoor.Num

/-- the bytes of a number, the lowest seven bits first; the first argument bounds the number of rounds -/
def vb : Nat → Int → List Int
  | 0, n => [n]
  | f + 1, n => if 127 < n then (n % 128 + 128) :: vb f (n / 128) else [n]

def vbs (n : Int) : List Int := vb n.toNat n

theorem vb_small (f : Nat) (n : Int) (h : n ≤ 127) : vb f n = [n] := by
  cases f with
  | zero => rfl
  | succ f => unfold vb; rw [if_neg (by omega)]

theorem vb_big (f : Nat) (n : Int) (h : 127 < n) (hf : n.toNat ≤ f) : ∃ g, vb f n = (n % 128 + 128) :: vb g (n / 128) ∧ (n / 128).toNat ≤ g := by
  cases f with
  | zero => omega
  | succ f =>
    refine ⟨f, ?_, by omega⟩
    show (if 127 < n then (n % 128 + 128) :: vb f (n / 128) else [n]) = _
    rw [if_pos h]

theorem vb_len : ∀ (f : Nat) (n : Int), (vb f n).length ≤ f + 1
  | 0, n => by simp [vb]
  | f + 1, n => by
    unfold vb
    split
    · have := vb_len f (n / 128); simp; omega
    · simp

/-- what a row of bytes from the place i on is read as: the number so far n, its scale sc, at most f bytes more; the first byte stood at a -/
def rv (a : Nat) : Nat → List Int → Int → Int → Nat → Int × Int × Bool
  | 0, _, _, _, _ => (0, 0, false)
  | _ + 1, [], _, _, _ => (0, 0, false)
  | f + 1, b :: l, n, sc, i =>
    if 127 < b then rv a f l (n + b % 128 * sc) (sc * 128) (i + 1)
    else if 1000000000 < n + b % 128 * sc ∨ (b = 0 ∧ a < i) then (0, 0, false) else (n + b % 128 * sc, (i : Int) + 1, true)

def bs (s : ByteArray) : List Int := s.data.toList.map fun c => (c.toNat : Int)
theorem bs_len (s : ByteArray) : (bs s).length = s.size := by simp only [bs, List.length_map, Array.length_toList]; rfl
theorem bs_drop (s : ByteArray) (j : Nat) (h : j < s.size) : (bs s).drop j = (s[j].toNat : Int) :: (bs s).drop (j + 1) := by
  rw [List.drop_eq_getElem_cons (by rw [bs_len]; exact h)]
  congr 1
  simp [bs]
  rfl
theorem byte_le (c : UInt8) : (0 : Int) ≤ (c.toNat : Int) ∧ (c.toNat : Int) ≤ 255 := by have := c.toNat_lt; omega

/-- the number so far at the place j, read on -/
def rvAt (s : ByteArray) (a : Nat) (n sc : Int) (j : Nat) : Int × Int × Bool := rv a (a + 5 - j) ((bs s).drop j) n sc j

theorem rvAt_stop (s : ByteArray) (a : Nat) (n sc : Int) (j : Nat) (h : s.size ≤ j ∨ a + 5 ≤ j) : rvAt s a n sc j = (0, 0, false) := by
  unfold rvAt
  rcases h with h | h
  · rw [List.drop_eq_nil_of_le (by rw [bs_len]; exact h)]
    cases a + 5 - j <;> rfl
  · rw [show a + 5 - j = 0 by omega]; rfl
theorem rvAt_go (s : ByteArray) (a : Nat) (n sc : Int) (j : Nat) (h : j < s.size) (h5 : j < a + 5) (hb : 127 < (s[j].toNat : Int)) :
    rvAt s a n sc j = rvAt s a (n + (s[j].toNat : Int) % 128 * sc) (sc * 128) (j + 1) := by
  unfold rvAt
  rw [bs_drop s j h, show a + 5 - j = (a + 5 - (j + 1)) + 1 by omega, rv, if_pos hb]
theorem rvAt_no (s : ByteArray) (a : Nat) (n sc : Int) (j : Nat) (h : j < s.size) (h5 : j < a + 5) (hb : (s[j].toNat : Int) ≤ 127)
    (hx : 1000000000 < n + (s[j].toNat : Int) % 128 * sc ∨ ((s[j].toNat : Int) = 0 ∧ a < j)) : rvAt s a n sc j = (0, 0, false) := by
  unfold rvAt
  rw [bs_drop s j h, show a + 5 - j = (a + 5 - (j + 1)) + 1 by omega, rv, if_neg (by omega), if_pos hx]
theorem rvAt_yes (s : ByteArray) (a : Nat) (n sc : Int) (j : Nat) (h : j < s.size) (h5 : j < a + 5) (hb : (s[j].toNat : Int) ≤ 127)
    (hx : ¬ (1000000000 < n + (s[j].toNat : Int) % 128 * sc ∨ ((s[j].toNat : Int) = 0 ∧ a < j))) : rvAt s a n sc j = (n + (s[j].toNat : Int) % 128 * sc, (j : Int) + 1, true) := by
  unfold rvAt
  rw [bs_drop s j h, show a + 5 - j = (a + 5 - (j + 1)) + 1 by omega, rv, if_neg (by omega), if_neg hx]

/-- the bounds of a scale -/
def scOk (sc : Int) (k : Nat) : Prop := sc = 128 ^ k
theorem sc_bd {sc : Int} {k : Nat} (h : scOk sc k) (hk : k < 5) : 1 ≤ sc ∧ sc ≤ 268435456 := by
  unfold scOk at h
  subst h
  have : k = 0 ∨ k = 1 ∨ k = 2 ∨ k = 3 ∨ k = 4 := by omega
  rcases this with rfl | rfl | rfl | rfl | rfl <;> decide
theorem sc_next {sc : Int} {k : Nat} (h : scOk sc k) : scOk (sc * 128) (k + 1) := by unfold scOk at *; rw [h, Int.pow_succ]
theorem mul_bd {b sc : Int} (h1 : 1 ≤ sc) (h2 : sc ≤ 268435456) : 0 ≤ b % 128 * sc ∧ b % 128 * sc ≤ 34091302912 ∧ b % 128 * sc + sc ≤ sc * 128 := by
  have hm0 : 0 ≤ b % 128 := by omega
  have hm1 : b % 128 ≤ 127 := by omega
  have p0 : 0 ≤ b % 128 * sc := Int.mul_nonneg hm0 (by omega)
  have p1 : b % 128 * sc ≤ 127 * sc := Int.mul_le_mul_of_nonneg_right hm1 (by omega)
  omega

end Go.Proofs.YtcfgfhodbjakoavGreatDoor.Num

/-
  Plain mathematics: a row of bytes is the VarText of the number that it tells, just where it is not a longer form.
-/
namespace Go.Proofs.YtcfgfhodbjakoavGreatDoor.Num

/-- the number that a row of bytes tells, the lowest seven bits first -/
def num : List Int → Int
  | [] => 0
  | b :: l => b % 128 + 128 * num l

theorem num_snoc (l : List Int) (b : Int) : num (l ++ [b]) = num l + b % 128 * 128 ^ l.length := by
  induction l with
  | nil => simp [num]
  | cons x l ih =>
    simp only [List.cons_append, num, ih, List.length_cons, Int.pow_succ]
    have e : b % 128 * (128 ^ l.length * 128) = 128 * (b % 128 * 128 ^ l.length) := by
      rw [← Int.mul_assoc, Int.mul_comm]
    rw [e]; omega

theorem num_nonneg (l : List Int) : 0 ≤ num l := by
  induction l with
  | nil => simp [num]
  | cons x l ih => simp only [num]; omega

theorem num_pos (l : List Int) (b : Int) (h0 : 0 < b) (h1 : b ≤ 127) : 1 ≤ num (l ++ [b]) := by
  induction l with
  | nil => simp [num]; omega
  | cons x l ih => simp only [List.cons_append, num]; omega

theorem canon (l : List Int) (b : Int) (hb0 : 0 ≤ b) (hb1 : b ≤ 127) : (∀ x ∈ l, 128 ≤ x ∧ x ≤ 255) → (l = [] ∨ b ≠ 0) →
    ∀ f, (num (l ++ [b])).toNat ≤ f → vb f (num (l ++ [b])) = l ++ [b] := by
  induction l with
  | nil =>
    intro _ _ f _
    have e : num ([] ++ [b]) = b := by simp [num]; omega
    rw [e, vb_small f b hb1]; rfl
  | cons x l ih =>
    intro hall hor f hf
    have hbn : b ≠ 0 := by rcases hor with h | h; simp at h; exact h
    have hx := hall x (by simp)
    have hp := num_pos l b (by omega) hb1
    have e : num (x :: l ++ [b]) = x % 128 + 128 * num (l ++ [b]) := rfl
    rw [e] at hf ⊢
    obtain ⟨g, hg, hgf⟩ := vb_big f (x % 128 + 128 * num (l ++ [b])) (by omega) hf
    rw [hg]
    have e1 : (x % 128 + 128 * num (l ++ [b])) % 128 + 128 = x := by omega
    have e2 : (x % 128 + 128 * num (l ++ [b])) / 128 = num (l ++ [b]) := by omega
    rw [e2] at hgf
    rw [e1, e2, ih (fun y hy => hall y (by simp [hy])) (.inr hbn) g hgf]
    rfl

theorem vb_last : ∀ (f : Nat) (n : Int), 128 ≤ n → n.toNat ≤ f → ∃ ys y, vb f n = ys ++ [y] ∧ 1 ≤ y
  | 0, n, h, hf => by omega
  | f + 1, n, h, hf => by
    have e : vb (f + 1) n = (n % 128 + 128) :: vb f (n / 128) := by
      show (if 127 < n then (n % 128 + 128) :: vb f (n / 128) else [n]) = _
      rw [if_pos (by omega)]
    by_cases h2 : 128 ≤ n / 128
    · obtain ⟨ys, y, hy, h1⟩ := vb_last f (n / 128) h2 (by omega)
      exact ⟨(n % 128 + 128) :: ys, y, by rw [e, hy]; rfl, h1⟩
    · exact ⟨[n % 128 + 128], n / 128, by rw [e, vb_small f _ (by omega)]; rfl, by omega⟩

theorem not_canon (l : List Int) (n : Int) (hl : l ≠ []) (f : Nat) (hf : n.toNat ≤ f) : vb f n ≠ l ++ [0] := by
  intro h
  by_cases hn : 128 ≤ n
  · obtain ⟨ys, y, hy, h1⟩ := vb_last f n hn hf
    rw [hy] at h
    have := (List.append_inj' h rfl).2
    simp at this
    omega
  · rw [vb_small f n (by omega)] at h
    have := congrArg List.length h
    simp at this
    exact hl this

theorem vb_range : ∀ (f : Nat) (n : Int), 0 ≤ n → n.toNat ≤ f → ∀ x ∈ vb f n, 0 ≤ x ∧ x ≤ 255
  | 0, n, h, hf => by
    intro x hx
    simp [vb] at hx
    omega
  | f + 1, n, h, hf => by
    intro x hx
    by_cases h2 : 127 < n
    · have e : vb (f + 1) n = (n % 128 + 128) :: vb f (n / 128) := by
        show (if 127 < n then (n % 128 + 128) :: vb f (n / 128) else [n]) = _
        rw [if_pos h2]
      rw [e] at hx
      rcases List.mem_cons.1 hx with h3 | h3
      · omega
      · exact vb_range f (n / 128) (by omega) (by omega) x h3
    · rw [vb_small _ n (by omega)] at hx
      simp at hx
      omega

theorem str_bs (s : ByteArray) : strOfNums (bs s) = s := by
  apply ByteArray.ext
  apply Array.ext'
  show ((bs s).map fun n => UInt8.ofNat n.toNat) = s.data.toList
  simp only [bs, List.map_map]
  rw [List.map_congr_left (g := id)]
  · simp
  · intro c _
    simp
theorem bs_str (xs : List Int) (h : ∀ x ∈ xs, 0 ≤ x ∧ x ≤ 255) : bs (strOfNums xs) = xs := by
  show ((xs.map fun n => UInt8.ofNat n.toNat).map fun c => (c.toNat : Int)) = xs
  rw [List.map_map]
  conv => rhs; rw [← List.map_id xs]
  apply List.map_congr_left
  intro x hx
  have := h x hx
  show ((UInt8.ofNat x.toNat).toNat : Int) = x
  rw [UInt8.toNat_ofNat_of_lt' (by show x.toNat < 256; omega)]
  omega

theorem bs_extract (s : ByteArray) (a e : Nat) : bs (s.extract a e) = ((bs s).take e).drop a := by
  simp only [bs, ByteArray.data_extract, Array.toList_extract, List.map_drop, List.map_take, List.extract_eq_take_drop]
  rw [List.drop_take]

theorem seg_snoc (s : ByteArray) (a j : Nat) (haj : a ≤ j) (hj : j < s.size) : ((bs s).take (j + 1)).drop a = ((bs s).take j).drop a ++ [(s[j].toNat : Int)] := by
  have h1 : (bs s).take (j + 1) = (bs s).take j ++ [(s[j].toNat : Int)] := by
    rw [List.take_succ_eq_append_getElem (by rw [bs_len]; exact hj)]
    congr 2
    simp [bs]; rfl
  rw [h1, List.drop_append_of_le_length (by simp [bs_len]; omega)]

theorem take_snoc (s : ByteArray) (k : Nat) (h : k < s.size) : (bs s).take (k + 1) = (bs s).take k ++ [(s[k].toNat : Int)] := by
  have := seg_snoc s 0 k (Nat.zero_le _) h
  simpa using this

/-- the bytes from a up to j go on, and tell N -/
def segOk (s : ByteArray) (a j : Nat) (N : Int) : Prop := N = num (((bs s).take j).drop a) ∧ ∀ x ∈ ((bs s).take j).drop a, 128 ≤ x ∧ x ≤ 255
theorem segOk_start (s : ByteArray) (a : Nat) : segOk s a a 0 := by
  have e : ((bs s).take a).drop a = [] := List.drop_eq_nil_of_le (by simp; omega)
  unfold segOk; rw [e]; simp [num]
theorem segOk_next {s : ByteArray} {a j : Nat} {N SC : Int} (h : segOk s a j N) (haj : a ≤ j) (hj : j < s.size) (hsc : scOk SC (j - a)) (hb : 127 < (s[j].toNat : Int)) :
    segOk s a (j + 1) (N + (s[j].toNat : Int) % 128 * SC) := by
  have hlen : (((bs s).take j).drop a).length = j - a := by simp [bs_len]; omega
  unfold segOk at *
  rw [seg_snoc s a j haj hj]
  refine ⟨?_, ?_⟩
  · rw [num_snoc, hlen, ← h.1]; unfold scOk at hsc; rw [hsc]
  · intro x hx
    rcases List.mem_append.1 hx with h1 | h1
    · exact h.2 x h1
    · have := byte_le s[j]
      simp at h1; omega

/-- whether the text from a up to j is the VarText of the number that it tells -/
theorem same_bytes (s : ByteArray) (a j : Nat) (N SC : Int) (haj : a ≤ j) (hj : j < s.size) (hsc : scOk SC (j - a)) (hN : N = num (((bs s).take j).drop a)) (hall : ∀ x ∈ ((bs s).take j).drop a, 128 ≤ x ∧ x ≤ 255)
    (hb : (s[j].toNat : Int) ≤ 127) :
    ((strOfNums (vbs (N + (s[j].toNat : Int) % 128 * SC))).toList == (s.extract a (j + 1)).toList) = !decide ((s[j].toNat : Int) = 0 ∧ a < j) := by
  have hlen : (((bs s).take j).drop a).length = j - a := by simp [bs_len]; omega
  have hseg : bs (s.extract a (j + 1)) = ((bs s).take j).drop a ++ [(s[j].toNat : Int)] := by
    rw [bs_extract, seg_snoc s a j haj hj]
  have hnum : N + (s[j].toNat : Int) % 128 * SC = num (((bs s).take j).drop a ++ [(s[j].toNat : Int)]) := by
    rw [num_snoc, hlen, ← hN]; unfold scOk at hsc; rw [hsc]
  rw [hnum]
  generalize hl : ((bs s).take j).drop a = l at *
  generalize hbb : (s[j].toNat : Int) = b at *
  have hb0 : 0 ≤ b := by omega
  have hn0 := num_nonneg (l ++ [b])
  rw [Bool.eq_iff_iff]
  simp only [beq_iff_eq, Bool.not_eq_true', decide_eq_false_iff_not]
  constructor
  · intro h hx
    obtain ⟨h0, h1⟩ := hx
    have h2 : strOfNums (vbs (num (l ++ [b]))) = s.extract a (j + 1) := by
      apply ByteArray.ext; apply Array.ext'
      rw [← ByteArray.toList_eq, ← ByteArray.toList_eq]; exact h
    have h3 := congrArg bs h2
    rw [bs_str (vbs (num (l ++ [b]))) (vb_range _ _ hn0 (Nat.le_refl _)), hseg] at h3
    subst h0
    exact not_canon l _ (by intro e; rw [e] at hlen; simp at hlen; omega) _ (Nat.le_refl _) h3
  · intro hx
    have h2 : vbs (num (l ++ [b])) = l ++ [b] := canon l b hb0 hb hall (by
      by_cases e : b = 0
      · left
        have : ¬ a < j := fun h => hx ⟨e, h⟩
        exact List.eq_nil_of_length_eq_zero (by omega)
      · exact .inr e) _ (Nat.le_refl _)
    rw [h2, ← hseg, str_bs]

theorem short_room (s : ByteArray) (h : (s.size : Int) ≤ 20000) : (strOfNums (vbs s.size)).size + s.size ≤ 9223372036854775807 := by
  have := vb_len ((s.size : Int)).toNat s.size
  rw [strOfNums_size]; unfold vbs; omega

end Go.Proofs.YtcfgfhodbjakoavGreatDoor.Num

/-
  A region that draws its order, whose operations only read and whose callees at most make new memory: one walk in the order of the text serves every order. The class of worlds is 'the world as it was, and more memory'.
-/
namespace Go.Proofs.YtcfgfhodbjakoavGreatDoor
open Go.RowKit

/-- a world that has at most more memory than w -/
structure Bw (w : World) where
  to : World
  below : Below w.heap.size w to

theorem bw_some (w : World) : Nonempty (Bw w) := ⟨⟨w, Below.refl _ _⟩⟩

theorem wp_region_bw {P : Program} {id : Nat} {Q : Exit → Act → World → Prop} {a : Act} {w : World} {l : List Oper} (hm : P.follows .mixedOrders = true) (hB : Region.lexB .any l.toArray = true)
    (h : wpQuiet P l.toArray (fun w' => ∃ x : Bw w, w' = x.to) (fun a' => ∀ w', (∃ x : Bw w, w' = x.to) → Q .normal a' w') l a) : (Code.region id l.toArray true).wp P Q a w :=
  wp_region_quiet (C := fun w' => ∃ x : Bw w, w' = x.to) hm hB ⟨⟨w.drew, (Below.refl _ _).drew⟩, rfl⟩ (by simpa using h)

theorem calls_bw {P : Program} {f : FuncId} {args : Array Value} {w : World} {x : Bw w} {v : Value}
    (h : Calls P f args x.to fun e w' => e = .returned v ∧ Below x.to.heap.size x.to w') : Calls P f args x.to fun e w'' => e = .returned v ∧ ∃ y : Bw w, w'' = y.to :=
  h.mono fun _ w' ⟨he, hb⟩ => ⟨he, ⟨w', x.below.trans (hb.mono x.below.size)⟩, rfl⟩
theorem calls_bw_same {P : Program} {f : FuncId} {args : Array Value} {w : World} {x : Bw w} {v : Value}
    (h : Calls P f args x.to fun e w' => e = .returned v ∧ w' = x.to) : Calls P f args x.to fun e w'' => e = .returned v ∧ ∃ y : Bw w, w'' = y.to :=
  h.mono fun _ _ ⟨he, hb⟩ => ⟨he, x, hb⟩
end Go.Proofs.YtcfgfhodbjakoavGreatDoor

/-
  Rows of accounts in memory: two cells an account, its key and its number.
-/
namespace Go.Proofs.YtcfgfhodbjakoavGreatDoor
open Go.RowKit Num

theorem ba {a b : World} (h : Below a.heap.size a b) (o : Obj) : Below a.heap.size a (b.alloc o) := h.alloc h.size o
theorem bt {a b c : World} (h1 : Below a.heap.size a b) (h2 : Below b.heap.size b c) : Below a.heap.size a c := h1.trans (h2.mono h1.size)

abbrev CL := List (ByteArray × Int)

/-- a row that can be read: these accounts -/
def Cells (w : World) (v : Value) (cs : CL) : Prop :=
  ∃ a cap, v = .slice a cs.length cap ∧ (0 < cs.length → ∃ g off, a = some ⟨g, off, none⟩ ∧ g < w.heap.size ∧
    ∀ i (h : i < cs.length), w.cell? ⟨g, off + i * 2, none⟩ = some (.string cs[i].1) ∧ w.cell? ⟨g, off + i * 2 + 1, none⟩ = some (.int .i64 cs[i].2))
theorem Cells.below {w w' : World} {v : Value} {cs : CL} (h : Cells w v cs) (hb : Below w.heap.size w w') : Cells w' v cs := by
  obtain ⟨a, cap, rfl, hr⟩ := h
  refine ⟨a, cap, rfl, fun hl => ?_⟩
  obtain ⟨g, off, rfl, hg, hc⟩ := hr hl
  refine ⟨g, off, rfl, Nat.lt_of_lt_of_le hg hb.size, fun i hi => ?_⟩
  rw [hb.cell (by exact hg), hb.cell (by exact hg)]
  exact hc i hi

/-- an account as a value -/
def cellV (c : ByteArray × Int) : Value := .agg #[.string c.1, .int .i64 c.2]

/-- a row of accounts, cell by cell -/
def flat (cs : CL) : List Value := cs.flatMap fun c => [.string c.1, .int .i64 c.2]
theorem flat_len (cs : CL) : (flat cs).length = cs.length * 2 := by
  induction cs with
  | nil => rfl
  | cons c cs ih => simp only [flat, List.flatMap_cons, List.length_append] at ih ⊢; simp [ih]; omega
theorem flat_cons (c : ByteArray × Int) (cs : CL) : flat (c :: cs) = .string c.1 :: .int .i64 c.2 :: flat cs := rfl
theorem flat_append (a b : CL) : flat (a ++ b) = flat a ++ flat b := by simp [flat]
theorem flat_at (cs : CL) : ∀ i (h : i < cs.length), (flat cs)[i * 2]? = some (.string cs[i].1) ∧ (flat cs)[i * 2 + 1]? = some (.int .i64 cs[i].2) := by
  induction cs with
  | nil => intro i h; simp at h
  | cons c cs ih =>
    intro i h
    cases i with
    | zero => simp [flat_cons]
    | succ i =>
      have := ih i (by simpa using h)
      rw [flat_cons, show (i + 1) * 2 = i * 2 + 1 + 1 by omega]
      simpa using this

/-- a row that the call made can be read -/
theorem cells_of_own {w : World} {base : Nat} {e : TypeId} {v : Value} {cs : CL} (h : w.ownsRow base e 2 v cs.length (flat cs)) : Cells w v cs := by
  obtain ⟨hl, ⟨rfl, h0⟩ | ⟨g, cap, cur, rfl, hb, hh, hn, hc, hs, ht⟩⟩ := h
  · exact ⟨none, 0, by rw [h0], fun hp => by omega⟩
  · refine ⟨_, cap, rfl, fun _ => ⟨g, 0, rfl, ?_, fun i hi => ?_⟩⟩
    · rcases Nat.lt_or_ge g w.heap.size with h | h
      · exact h
      · rw [Array.getElem?_eq_none h] at hh; cases hh
    · have hf := flat_at cs i hi
      rw [← ht] at hf
      rw [List.getElem?_take_of_lt (by omega), List.getElem?_take_of_lt (by omega)] at hf
      rw [cell_of_row w g _ cur _ _ hh, cell_of_row w g _ cur _ _ hh]
      simpa using hf

/-- what is left when a row's size is taken off -/
def szc : CL → Int → Int
  | [], left => left
  | c :: cs, left => if left - c.1.size < 0 then -1 else szc cs (left - c.1.size)
def szCells (cs : CL) (left : Int) : Int := if left - cs.length < 0 then -1 else szc cs (left - cs.length)
theorem szc_bd (cs : CL) : ∀ left : Int, left ≤ 1048576 → 0 ≤ szc cs left → szc cs left ≤ left ∧ ∀ c ∈ cs, (c.1.size : Int) ≤ 1048576 := by
  induction cs with
  | nil => intro left _ _; exact ⟨Int.le_refl _, fun c h => by cases h⟩
  | cons c cs ih =>
    intro left hl h
    unfold szc at h ⊢
    split at h
    · omega
    · rename_i hn
      rw [if_neg hn]
      have := ih _ (by omega) h
      refine ⟨by omega, fun x hx => ?_⟩
      rcases List.mem_cons.1 hx with rfl | hx
      · omega
      · exact this.2 x hx
theorem szc_neg {cs : CL} {left : Int} (h0 : 0 ≤ left) : -1 ≤ szc cs left := by
  induction cs generalizing left with
  | nil => unfold szc; omega
  | cons c cs ih =>
    unfold szc
    split
    · omega
    · exact ih (by omega)
theorem szCells_bd {cs : CL} {left : Int} (hl : left ≤ 1048576) (h : 0 ≤ szCells cs left) : (cs.length : Int) ≤ 1048576 ∧ szCells cs left ≤ left ∧ ∀ c ∈ cs, (c.1.size : Int) ≤ 1048576 := by
  unfold szCells at h ⊢
  split at h
  · omega
  · rename_i hn
    rw [if_neg hn]
    have := szc_bd cs _ (by omega) h
    exact ⟨by omega, by omega, this.2⟩

/-- the two cells of an account in a row that the call made can be set, one behind the other -/
theorem own_two {w : World} {base g n cap : Nat} {e : TypeId} {xs : List Value} (h : w.ownsRow base e 2 (.slice (some ⟨g, 0, none⟩) n cap) n xs) (k : Nat) (hk : k < n) :
    ∃ u0 u1, w.cell? ⟨g, k * 2, none⟩ = some u0 ∧ w.frozen? ⟨g, k * 2, none⟩ = false ∧ w.cell? ⟨g, k * 2 + 1, none⟩ = some u1 ∧ (∀ u, (w.setCell ⟨g, k * 2, none⟩ u).cell? ⟨g, k * 2 + 1, none⟩ = some u1) ∧ ∀ u, (w.setCell ⟨g, k * 2, none⟩ u).frozen? ⟨g, k * 2 + 1, none⟩ = false := by
  have hl := h.1
  have h0 : k * 2 < xs.length := by omega
  have h1 : k * 2 + 1 < xs.length := by omega
  refine ⟨xs[k * 2], xs[k * 2 + 1], ?_, h.frozenAt _, ?_, fun u => ?_, fun u => (h.stored (k * 2) u).1.frozenAt _⟩
  · rw [h.cellAt _ (by omega), List.getElem?_eq_getElem h0]
  · rw [h.cellAt _ (by omega), List.getElem?_eq_getElem h1]
  · rw [(h.stored (k * 2) u).1.cellAt _ (by omega), List.getElem?_set_ne (by omega), List.getElem?_eq_getElem h1]
theorem own_set_two {w : World} {base g n cap : Nat} {e : TypeId} {xs : List Value} (h : w.ownsRow base e 2 (.slice (some ⟨g, 0, none⟩) n cap) n xs) (i j : Nat) (a b : Value) :
    ((w.setCell ⟨g, i, none⟩ a).setCell ⟨g, j, none⟩ b).ownsRow base e 2 (.slice (some ⟨g, 0, none⟩) n cap) n ((xs.set i a).set j b) ∧ w.grownBy ((w.setCell ⟨g, i, none⟩ a).setCell ⟨g, j, none⟩ b) (some g) := by
  have h1 := h.stored i a
  have h2 := h1.1.stored j b
  exact ⟨h2.1, ⟨h2.2.os.trans h1.2.os, h2.2.tape.trans h1.2.tape, h2.2.output.trans h1.2.output, Nat.le_trans h1.2.size h2.2.size, fun k hk hr => (h2.2.block k (Nat.lt_of_lt_of_le hk h1.2.size) hr).trans (h1.2.block k hk hr)⟩⟩

end Go.Proofs.YtcfgfhodbjakoavGreatDoor

/-
  The contract of the specification's l01In: whether a number stands in an interval.
-/
namespace Go.Proofs.YtcfgfhodbjakoavGreatDoor
open Go.RowKit

/-- whether a number stands in an interval, as a Bool that no walk opens -/
def inB (x a b : Int) : Bool := decide (a ≤ x ∧ x ≤ b)

theorem inB_yes {x a b : Int} (h : a ≤ x ∧ x ≤ b) : inB x a b = true := by simp [inB, h]

theorem inB_no {x a b : Int} (h : ¬ (a ≤ x ∧ x ≤ b)) : inB x a b = false := by simp only [inB, decide_eq_false_iff_not]; exact h

theorem in_any (x a b : Int) (w : World) : Calls Tryz.prog 65 #[.int .i64 x, .int .i64 a, .int .i64 b] w fun e w' => e = .returned (.bool (inB x a b)) ∧ w' = w := by
  by_cases h1 : a ≤ x
  · by_cases h2 : x ≤ b
    · rw [inB_yes ⟨h1, h2⟩]
      go_enter Tryz.func65, Tryz.ntmps65
      go_wp2
      go_ret
      exact ⟨rfl, rfl⟩
    · rw [inB_no (by omega)]
      go_enter Tryz.func65, Tryz.ntmps65
      go_wp2
      go_ret
      exact ⟨rfl, rfl⟩
  · rw [inB_no (by omega)]
    go_enter Tryz.func65, Tryz.ntmps65
    go_wp2
    go_ret
    exact ⟨rfl, rfl⟩

end Go.Proofs.YtcfgfhodbjakoavGreatDoor

/-
  Plain mathematics of the accounts: what is right, where an account stands.
-/
namespace Go.Proofs.YtcfgfhodbjakoavGreatDoor
open Go.RowKit Num

/-- a right key -/
def keyB (k : ByteArray) : Bool := (bs k).all (fun x => decide (97 ≤ x) && decide (x ≤ 122)) && inB k.size 1 3
/-- a right number -/
def numB (n : Int) : Bool := inB n 0 1000000000

/-- the bytes of a key up to the place i are letters -/
def keyTo (k : ByteArray) (i : Nat) : Prop := ∀ j (h : j < k.size), j < i → 97 ≤ (k[j].toNat : Int) ∧ (k[j].toNat : Int) ≤ 122
theorem bs_at (k : ByteArray) (j : Nat) (h : j < k.size) : (bs k)[j]'(by rw [bs_len]; exact h) = (k[j].toNat : Int) := by simp [bs]; rfl
theorem keyB_all {k : ByteArray} (h : keyTo k k.size) : keyB k = inB k.size 1 3 := by
  have : (bs k).all (fun x => decide (97 ≤ x) && decide (x ≤ 122)) = true := by
    rw [List.all_eq_true]
    intro x hx
    obtain ⟨j, hj, rfl⟩ := List.mem_iff_getElem.1 hx
    rw [bs_len] at hj
    rw [bs_at k j hj]
    have := h j hj hj
    simp [this]
  unfold keyB; rw [this]; simp
theorem keyB_no {k : ByteArray} {j : Nat} (h : j < k.size) (hn : ¬ (97 ≤ (k[j].toNat : Int) ∧ (k[j].toNat : Int) ≤ 122)) : keyB k = false := by
  have : (bs k).all (fun x => decide (97 ≤ x) && decide (x ≤ 122)) = false := by
    rw [List.all_eq_false]
    refine ⟨(bs k)[j]'(by rw [bs_len]; exact h), List.getElem_mem _, ?_⟩
    rw [bs_at k j h]
    simpa using hn
  unfold keyB; rw [this]; rfl

/-- where the first account with this key stands, from the place k on -/
def cellAtFrom (key : ByteArray) : CL → Nat → Int
  | [], _ => -1
  | c :: cs, k => if c.1 = key then (k : Int) else cellAtFrom key cs (k + 1)
def cellAt (cs : CL) (key : ByteArray) : Int := cellAtFrom key cs 0
theorem cellAt_drop (cs : CL) (key : ByteArray) (k : Nat) (h : k < cs.length) : cellAtFrom key (cs.drop k) k = if cs[k].1 = key then (k : Int) else cellAtFrom key (cs.drop (k + 1)) (k + 1) := by
  rw [List.drop_eq_getElem_cons h]; rfl
theorem ba_eq {a b : ByteArray} (h : a = b) : (a.toList == b.toList) = true := by rw [h]; simp
theorem ba_ne {a b : ByteArray} (h : a ≠ b) : (a.toList == b.toList) = false := by
  rw [beq_eq_false_iff_ne]
  intro e
  apply h
  apply ByteArray.ext; apply Array.ext'
  rw [← ByteArray.toList_eq, ← ByteArray.toList_eq]; exact e

/-- the account at the place i is right, and stands behind the one ahead of it -/
def okAt (cs : CL) (i : Nat) : Bool := match cs[i]? with
  | none => true
  | some c => keyB c.1 && (numB c.2 && match i with
    | 0 => true
    | j + 1 => match cs[j]? with
      | none => true
      | some b => Op.bytesLess b.1.toList c.1.toList)
def cellsB (cs : CL) : Bool := (List.range cs.length).all (okAt cs) && decide (cs.length ≤ 12)
theorem okAt_zero {cs : CL} (h : 0 < cs.length) : okAt cs 0 = (keyB cs[0].1 && (numB cs[0].2 && true)) := by
  unfold okAt; rw [List.getElem?_eq_getElem h]
theorem okAt_succ {cs : CL} {j : Nat} (h : j + 1 < cs.length) : okAt cs (j + 1) = (keyB cs[j + 1].1 && (numB cs[j + 1].2 && Op.bytesLess cs[j].1.toList cs[j + 1].1.toList)) := by
  unfold okAt; rw [List.getElem?_eq_getElem h]; simp [List.getElem?_eq_getElem (show j < cs.length by omega)]
theorem cellsB_no {cs : CL} {i : Nat} (h : i < cs.length) (hn : okAt cs i = false) : cellsB cs = false := by
  have : (List.range cs.length).all (okAt cs) = false := List.all_eq_false.2 ⟨i, List.mem_range.2 h, by rw [hn]; simp⟩
  unfold cellsB; rw [this]; rfl
def okTo (cs : CL) (k : Nat) : Prop := ∀ i, i < k → okAt cs i = true
theorem cellsB_all {cs : CL} (h : okTo cs cs.length) : cellsB cs = decide (cs.length ≤ 12) := by
  have : (List.range cs.length).all (okAt cs) = true := List.all_eq_true.2 fun i hi => h i (List.mem_range.1 hi)
  unfold cellsB; rw [this]; simp
theorem okTo_next {cs : CL} {k : Nat} (h : okTo cs k) (hk : okAt cs k = true) : okTo cs (k + 1) := fun i hi => by
  by_cases e : i = k
  · rw [e]; exact hk
  · exact h i (by omega)

end Go.Proofs.YtcfgfhodbjakoavGreatDoor

/-
  Plain mathematics of the accounts: commands, and what they do to a list of accounts.
-/
namespace Go.Proofs.YtcfgfhodbjakoavGreatDoor
open Go.RowKit Num

theorem less_eq : ∀ (x y : List UInt8), Op.bytesLess x y = decide (x < y)
  | [], [] => by simp [Op.bytesLess]
  | _ :: _, [] => by simp [Op.bytesLess]
  | [], _ :: _ => by simp [Op.bytesLess]
  | a :: x, b :: y => by
    rw [Op.bytesLess, less_eq x y]
    simp only [List.cons_lt_cons_iff]
    by_cases h1 : a < b <;> by_cases h2 : a = b <;> by_cases h3 : x < y <;> simp [h1, h2, h3]

/-- a key stands ahead of another one -/
def kLt (a b : ByteArray) : Bool := Op.bytesLess a.toList b.toList
theorem kLt_iff {a b : ByteArray} : kLt a b = true ↔ a.data.toList < b.data.toList := by
  unfold kLt; rw [less_eq, ByteArray.toList_eq, ByteArray.toList_eq]; simp
theorem kLt_trans {a b c : ByteArray} (h : kLt a b = true) (h2 : kLt b c = true) : kLt a c = true := kLt_iff.2 (List.lt_trans (kLt_iff.1 h) (kLt_iff.1 h2))
theorem kLt_irr (a : ByteArray) : kLt a a = false := by
  cases h : kLt a a with
  | false => rfl
  | true => exact absurd (kLt_iff.1 h) (List.lt_irrefl _)
theorem kLt_ne {a b : ByteArray} (h : kLt a b = true) : a ≠ b := fun e => by rw [e, kLt_irr] at h; cases h
theorem kLt_asym {a b : ByteArray} (h : kLt a b = true) : kLt b a = false := by
  cases h2 : kLt b a with
  | false => rfl
  | true => have := kLt_trans h h2; rw [kLt_irr] at this; cases this
theorem kLt_tri {a b : ByteArray} (h : kLt a b = false) (h2 : kLt b a = false) : a = b := by
  have e1 : ¬ a.data.toList < b.data.toList := fun h' => by rw [kLt_iff.2 h'] at h; cases h
  have e2 : ¬ b.data.toList < a.data.toList := fun h' => by rw [kLt_iff.2 h'] at h2; cases h2
  have e := List.le_antisymm (List.not_lt.1 e2) (List.not_lt.1 e1)
  apply ByteArray.ext; apply Array.ext'; exact e
theorem kLt_flip {a b : ByteArray} : (!(Op.bytesLess a.toList b.toList || a.toList == b.toList)) = kLt b a := by
  show (!(kLt a b || a.toList == b.toList)) = kLt b a
  by_cases e : a = b
  · subst e; rw [kLt_irr]; simp
  · rw [ba_ne e, Bool.or_false]
    cases h : kLt a b with
    | true => rw [kLt_asym h]; rfl
    | false =>
      cases h2 : kLt b a with
      | true => rfl
      | false => exact absurd (kLt_tri h h2) e

/-- the accounts' keys ascend -/
def Asc (cs : CL) : Prop := cs.Pairwise fun a b => kLt a.1 b.1 = true

theorem asc_of_steps (cs : CL) (h : ∀ j, (hj : j + 1 < cs.length) → kLt cs[j].1 cs[j + 1].1 = true) : Asc cs := by
  induction cs with
  | nil => exact List.Pairwise.nil
  | cons c cs ih =>
    have hA : Asc cs := ih fun j hj => by have := h (j + 1) (by simpa using hj); simpa using this
    refine List.Pairwise.cons (fun b hb => ?_) hA
    cases cs with
    | nil => cases hb
    | cons d ds =>
      have h0 := h 0 (by simp)
      simp at h0
      rcases List.mem_cons.1 hb with rfl | hb
      · exact h0
      · exact kLt_trans h0 (List.rel_of_pairwise_cons hA hb)
theorem steps_of_asc {cs : CL} (h : Asc cs) (j : Nat) (hj : j + 1 < cs.length) : kLt cs[j].1 cs[j + 1].1 = true :=
  List.pairwise_iff_getElem.1 h j (j + 1) (by omega) hj (by omega)

theorem cellsB_iff {cs : CL} : cellsB cs = true ↔ (∀ c ∈ cs, keyB c.1 = true ∧ numB c.2 = true) ∧ Asc cs ∧ cs.length ≤ 12 := by
  constructor
  · intro h
    unfold cellsB at h
    rw [Bool.and_eq_true, List.all_eq_true, decide_eq_true_eq] at h
    obtain ⟨h, hl⟩ := h
    refine ⟨fun c hc => ?_, asc_of_steps cs fun j hj => ?_, hl⟩
    · obtain ⟨i, hi, rfl⟩ := List.mem_iff_getElem.1 hc
      have := h i (List.mem_range.2 hi)
      cases i with
      | zero => rw [okAt_zero hi] at this; simp at this; exact this
      | succ j => rw [okAt_succ hi] at this; simp at this; exact ⟨this.1, this.2.1⟩
    · have := h (j + 1) (List.mem_range.2 hj)
      rw [okAt_succ hj] at this
      simp at this
      exact this.2.2
  · rintro ⟨h, hA, hl⟩
    have hk : okTo cs cs.length := fun i hi => by
      have hc := h cs[i] (List.getElem_mem hi)
      cases i with
      | zero => rw [okAt_zero hi, hc.1, hc.2]; rfl
      | succ j => rw [okAt_succ hi, hc.1, hc.2]; exact steps_of_asc hA j hi
    rw [cellsB_all hk]; simpa using hl

/-- an account with this key is there -/
def hasK (cs : CL) (k : ByteArray) : Bool := cs.any fun c => decide (c.1 = k)
theorem hasK_iff {cs : CL} {k : ByteArray} : hasK cs k = true ↔ ∃ c ∈ cs, c.1 = k := by simp [hasK]
theorem hasK_no {cs : CL} {k : ByteArray} : hasK cs k = false ↔ ∀ c ∈ cs, c.1 ≠ k := by simp [hasK]

theorem cellAtFrom_no {cs : CL} {k : ByteArray} (h : hasK cs k = false) : ∀ i, cellAtFrom k cs i = -1 := by
  induction cs with
  | nil => intro i; rfl
  | cons c cs ih =>
    intro i
    have hc := (hasK_no.1 h) c (by simp)
    unfold cellAtFrom
    rw [if_neg hc]
    exact ih (hasK_no.2 fun d hd => hasK_no.1 h d (by simp [hd])) _
theorem cellAt_no {cs : CL} {k : ByteArray} (h : hasK cs k = false) : cellAt cs k = -1 := cellAtFrom_no h 0
theorem cellAtFrom_yes {cs : CL} {k : ByteArray} (h : hasK cs k = true) : ∀ i, ∃ j, ∃ hj : j < cs.length, cellAtFrom k cs i = ((i + j : Nat) : Int) ∧ cs[j].1 = k := by
  induction cs with
  | nil => simp [hasK] at h
  | cons c cs ih =>
    intro i
    unfold cellAtFrom
    by_cases hc : c.1 = k
    · rw [if_pos hc]; exact ⟨0, by simp, by simp, by simpa using hc⟩
    · rw [if_neg hc]
      have h' : hasK cs k = true := by
        obtain ⟨d, hd, e⟩ := hasK_iff.1 h
        rcases List.mem_cons.1 hd with rfl | hd
        · exact absurd e hc
        · exact hasK_iff.2 ⟨d, hd, e⟩
      obtain ⟨j, hj, e, ek⟩ := ih h' (i + 1)
      exact ⟨j + 1, by simp; omega, by rw [e]; congr 1; omega, by simpa using ek⟩
theorem cellAt_yes {cs : CL} {k : ByteArray} (h : hasK cs k = true) : ∃ j, ∃ hj : j < cs.length, cellAt cs k = (j : Int) ∧ cs[j].1 = k := by
  obtain ⟨j, hj, e, ek⟩ := cellAtFrom_yes h 0
  exact ⟨j, hj, by unfold cellAt; rw [e]; simp, ek⟩

/-- an account put in its place -/
def putC (cs : CL) (x : ByteArray × Int) : CL := cs.filter (fun c => kLt c.1 x.1) ++ x :: cs.filter (fun c => kLt x.1 c.1)

theorem mem_putC {cs : CL} {x c : ByteArray × Int} : c ∈ putC cs x ↔ c = x ∨ (c ∈ cs ∧ c.1 ≠ x.1) := by
  unfold putC
  simp only [List.mem_append, List.mem_cons, List.mem_filter]
  constructor
  · rintro (⟨h, l⟩ | rfl | ⟨h, l⟩)
    · exact Or.inr ⟨h, kLt_ne l⟩
    · exact Or.inl rfl
    · exact Or.inr ⟨h, (kLt_ne l).symm⟩
  · rintro (rfl | ⟨h, hn⟩)
    · exact Or.inr (Or.inl rfl)
    · cases hl : kLt c.1 x.1 with
      | true => exact Or.inl ⟨h, rfl⟩
      | false =>
        refine Or.inr (Or.inr ⟨h, ?_⟩)
        cases h2 : kLt x.1 c.1 with
        | true => rfl
        | false => exact absurd (kLt_tri hl h2) hn
theorem asc_putC {cs : CL} {x : ByteArray × Int} (h : Asc cs) : Asc (putC cs x) := by
  unfold Asc putC
  rw [List.pairwise_append]
  refine ⟨List.Pairwise.filter _ h, List.Pairwise.cons (fun b hb => (List.mem_filter.1 hb).2) (List.Pairwise.filter _ h), fun a ha b hb => ?_⟩
  have h1 := (List.mem_filter.1 ha).2
  rcases List.mem_cons.1 hb with rfl | hb
  · exact h1
  · exact kLt_trans h1 (List.mem_filter.1 hb).2
theorem hasK_putC {cs : CL} {x : ByteArray × Int} {k : ByteArray} : hasK (putC cs x) k = (decide (x.1 = k) || hasK cs k) := by
  rw [Bool.eq_iff_iff, hasK_iff, Bool.or_eq_true, hasK_iff]
  constructor
  · rintro ⟨c, hc, rfl⟩
    rcases mem_putC.1 hc with rfl | ⟨hc, _⟩
    · exact Or.inl (by simp)
    · exact Or.inr ⟨c, hc, rfl⟩
  · rintro (h | ⟨c, hc, rfl⟩)
    · exact ⟨x, mem_putC.2 (Or.inl rfl), by simpa using h⟩
    · by_cases e : c.1 = x.1
      · exact ⟨x, mem_putC.2 (Or.inl rfl), e.symm⟩
      · exact ⟨c, mem_putC.2 (Or.inr ⟨hc, e⟩), rfl⟩
theorem len_putC {cs : CL} {x : ByteArray × Int} (h : Asc cs) : (putC cs x).length + (if hasK cs x.1 then 1 else 0) = cs.length + 1 := by
  induction cs with
  | nil => simp [putC, hasK]
  | cons c cs ih =>
    have hA : Asc cs := List.Pairwise.of_cons h
    have hc : ∀ d ∈ cs, kLt c.1 d.1 = true := fun d hd => List.rel_of_pairwise_cons h hd
    have ih := ih hA
    unfold putC at ih ⊢
    by_cases e : c.1 = x.1
    · have hn : hasK cs x.1 = false := hasK_no.2 fun d hd he => by have := hc d hd; rw [e, he, kLt_irr] at this; cases this
      have hy : hasK (c :: cs) x.1 = true := hasK_iff.2 ⟨c, by simp, e⟩
      rw [hn] at ih
      rw [hy]
      rw [List.filter_cons_of_neg (by rw [e, kLt_irr]; simp), List.filter_cons_of_neg (by rw [e, kLt_irr]; simp)]
      simp at ih ⊢; omega
    · have hh : hasK (c :: cs) x.1 = hasK cs x.1 := by simp [hasK, e]
      rw [hh]
      cases hl : kLt c.1 x.1 with
      | true =>
        rw [List.filter_cons_of_pos (by rw [hl]), List.filter_cons_of_neg (by rw [kLt_asym hl]; simp)]
        simp at ih ⊢; omega
      | false =>
        have hg : kLt x.1 c.1 = true := by
          cases h2 : kLt x.1 c.1 with
          | true => rfl
          | false => exact absurd (kLt_tri hl h2) e
        rw [List.filter_cons_of_neg (by rw [hl]; simp), List.filter_cons_of_pos (by rw [hg])]
        simp at ih ⊢; omega

theorem len_drop {cs : CL} {k : ByteArray} (h : Asc cs) : (cs.filter fun c => decide (c.1 ≠ k)).length + (if hasK cs k = true then 1 else 0) = cs.length := by
  induction cs with
  | nil => simp [hasK]
  | cons c cs ih =>
    have hA : Asc cs := List.Pairwise.of_cons h
    have ih := ih hA
    by_cases e : c.1 = k
    · have hn : hasK cs k = false := hasK_no.2 fun d hd he => by have := List.rel_of_pairwise_cons h hd; rw [e, he, kLt_irr] at this; cases this
      have hy : hasK (c :: cs) k = true := hasK_iff.2 ⟨c, by simp, e⟩
      rw [hn] at ih
      rw [hy, List.filter_cons_of_neg (by simp [e])]
      simp only [List.length_cons, if_true]
      simp only [Bool.false_eq_true, if_false] at ih
      omega
    · have hh : hasK (c :: cs) k = hasK cs k := by simp [hasK, e]
      rw [hh, List.filter_cons_of_pos (by simp [e]), List.length_cons, List.length_cons]
      omega

/-- a command: its kind, its key, its number -/
abbrev CM := Int × ByteArray × Int
def cmdB (c : CM) : Bool := inB c.1 1 3 && (keyB c.2.1 && numB c.2.2)
/-- the number that an account comes to -/
def comes (cs : CL) (c : CM) : Int := if c.1 = 1 then c.2.2 else match cs.find? (fun d => decide (d.1 = c.2.1)) with
  | none => c.2.2
  | some d => if c.1 = 3 then d.2 - c.2.2 else d.2 + c.2.2
/-- what a command tells -/
def codeC (cs : CL) (c : CM) : Int :=
  if (cellsB cs && cmdB c) = false then 2
  else if c.1 ≠ 1 ∧ hasK cs c.2.1 = false then 1
  else if numB (comes cs c) = false ∨ (hasK cs c.2.1 = false ∧ 12 ≤ cs.length) then 2 else 0
/-- what a command leaves -/
def doneC (cs : CL) (c : CM) : CL := if codeC cs c = 0 then putC cs (c.2.1, comes cs c) else cs

theorem done_ok {cs : CL} {c : CM} (h : cellsB cs = true) : cellsB (doneC cs c) = true := by
  unfold doneC
  by_cases h0 : codeC cs c = 0
  · rw [if_pos h0]
    obtain ⟨hk, hA, hl⟩ := cellsB_iff.1 h
    unfold codeC at h0
    split at h0
    · omega
    rename_i h1
    split at h0
    · omega
    rename_i h2
    split at h0
    · omega
    rename_i h3
    rw [h] at h1
    simp only [Bool.true_and, Bool.not_eq_false] at h1
    unfold cmdB at h1
    simp only [Bool.and_eq_true] at h1
    have h3a : numB (comes cs c) = true := by
      cases e : numB (comes cs c) with
      | true => rfl
      | false => exact absurd (Or.inl e) h3
    refine cellsB_iff.2 ⟨fun d hd => ?_, asc_putC hA, ?_⟩
    · rcases mem_putC.1 hd with rfl | ⟨hd, _⟩
      · exact ⟨h1.2.1, h3a⟩
      · exact hk d hd
    · have := len_putC (x := (c.2.1, comes cs c)) hA
      cases hh : hasK cs c.2.1 with
      | true => simp [hh] at this; omega
      | false =>
        simp [hh] at this
        have : ¬ 12 ≤ cs.length := fun h' => h3 (Or.inr ⟨hh, h'⟩)
        omega
  · rw [if_neg h0]; exact h

/-- commands one behind the other -/
def doneAllC : CL → List CM → CL
  | cs, [] => cs
  | cs, c :: l => doneAllC (doneC cs c) l
def codesC : CL → List CM → List Int
  | _, [] => []
  | cs, c :: l => codeC cs c :: codesC (doneC cs c) l
theorem codesC_len : ∀ (cs : CL) (l : List CM), (codesC cs l).length = l.length
  | _, [] => rfl
  | cs, c :: l => by simp [codesC, codesC_len]
theorem doneAll_bad {cs : CL} (h : cellsB cs = false) : ∀ l : List CM, doneAllC cs l = cs ∧ codesC cs l = List.replicate l.length 2
  | [] => ⟨rfl, rfl⟩
  | c :: l => by
    have hc : codeC cs c = 2 := by unfold codeC; rw [h]; rfl
    have hd : doneC cs c = cs := by unfold doneC; rw [hc]; rfl
    have := doneAll_bad h l
    simp [doneAllC, codesC, hd, hc, this, List.replicate_succ]
theorem doneAll_snoc : ∀ (cs : CL) (l : List CM) (c : CM), doneAllC cs (l ++ [c]) = doneC (doneAllC cs l) c
  | _, [], _ => rfl
  | cs, d :: l, c => by simp [doneAllC, doneAll_snoc]
theorem codes_snoc : ∀ (cs : CL) (l : List CM) (c : CM), codesC cs (l ++ [c]) = codesC cs l ++ [codeC (doneAllC cs l) c]
  | _, [], _ => rfl
  | cs, d :: l, c => by simp [codesC, doneAllC, codes_snoc]
theorem doneAll_ok : ∀ {cs : CL} (l : List CM), cellsB cs = true → cellsB (doneAllC cs l) = true
  | _, [], h => h
  | _, _ :: l, h => doneAll_ok l (done_ok h)

theorem code_bad {cs : CL} {c : CM} (h : cellsB cs = false) : codeC cs c = 2 := by unfold codeC; rw [h]; rfl
theorem code_cmd {cs : CL} {c : CM} (h : cmdB c = false) : codeC cs c = 2 := by unfold codeC; rw [h, Bool.and_false]; rfl
theorem done_code {cs : CL} {c : CM} (h : codeC cs c ≠ 0) : doneC cs c = cs := by unfold doneC; rw [if_neg h]
theorem done_zero {cs : CL} {c : CM} (h : codeC cs c = 0) : doneC cs c = putC cs (c.2.1, comes cs c) := by unfold doneC; rw [if_pos h]

theorem code_none {cs : CL} {c : CM} (h : cellsB cs = true) (h2 : cmdB c = true) (h3 : c.1 ≠ 1) (h4 : hasK cs c.2.1 = false) : codeC cs c = 1 := by
  unfold codeC; rw [h, h2, if_neg (by decide), if_pos ⟨h3, h4⟩]
theorem code_over {cs : CL} {c : CM} (h : cellsB cs = true) (h2 : cmdB c = true) (h3 : ¬ (c.1 ≠ 1 ∧ hasK cs c.2.1 = false)) (h4 : numB (comes cs c) = false ∨ (hasK cs c.2.1 = false ∧ 12 ≤ cs.length)) : codeC cs c = 2 := by
  unfold codeC; rw [h, h2, if_neg (by decide), if_neg h3, if_pos h4]
theorem code_done {cs : CL} {c : CM} (h : cellsB cs = true) (h2 : cmdB c = true) (h3 : ¬ (c.1 ≠ 1 ∧ hasK cs c.2.1 = false)) (h4 : ¬ (numB (comes cs c) = false ∨ (hasK cs c.2.1 = false ∧ 12 ≤ cs.length))) : codeC cs c = 0 := by
  unfold codeC; rw [h, h2, if_neg (by decide), if_neg h3, if_neg h4]
theorem comes_set {cs : CL} {c : CM} (h : c.1 = 1) : comes cs c = c.2.2 := by unfold comes; rw [if_pos h]
theorem find_at {cs : CL} (hA : Asc cs) {j : Nat} (hj : j < cs.length) : cs.find? (fun d => decide (d.1 = cs[j].1)) = some cs[j] := by
  rw [List.find?_eq_some_iff_getElem]
  refine ⟨by simp, j, hj, rfl, fun i hi => ?_⟩
  have := List.pairwise_iff_getElem.1 hA i j (by omega) hj hi
  simpa using kLt_ne this
theorem comes_add {cs : CL} {kd num : Int} (hA : Asc cs) {j : Nat} (hj : j < cs.length) (h1 : kd ≠ 1) (h3 : kd ≠ 3) : comes cs (kd, cs[j].1, num) = cs[j].2 + num := by
  unfold comes; simp only; rw [if_neg h1, find_at hA hj]; simp only; rw [if_neg h3]
theorem comes_take {cs : CL} {num : Int} (hA : Asc cs) {j : Nat} (hj : j < cs.length) : comes cs (3, cs[j].1, num) = cs[j].2 - num := by
  unfold comes; simp only; rw [if_neg (by decide), find_at hA hj]; rfl
theorem numB_bd {n : Int} (h : numB n = true) : 0 ≤ n ∧ n ≤ 1000000000 := by unfold numB inB at h; simpa using h
theorem cmdB_bd {c : CM} (h : cmdB c = true) : (1 ≤ c.1 ∧ c.1 ≤ 3) ∧ keyB c.2.1 = true ∧ numB c.2.2 = true := by
  unfold cmdB at h
  simp only [Bool.and_eq_true] at h
  refine ⟨?_, h.2.1, h.2.2⟩
  have := h.1
  unfold inB at this; simpa using this

/-- a list of accounts of a size that is met -/
def okL (cs : CL) : Prop := (cs.length : Int) ≤ 1048576 ∧ ∀ c ∈ cs, (c.1.size : Int) ≤ 1048576
theorem okL_done {cs : CL} {c : CM} (h : okL cs) (hk : (c.2.1.size : Int) ≤ 1048576) : okL (doneC cs c) := by
  by_cases h0 : codeC cs c = 0
  · have hcb : cellsB cs = true := by
      cases hc : cellsB cs with
      | true => rfl
      | false => rw [code_bad hc] at h0; omega
    have := (cellsB_iff.1 (done_ok (c := c) hcb)).2.2
    refine ⟨by omega, fun d hd => ?_⟩
    rw [done_zero h0] at hd
    rcases mem_putC.1 hd with rfl | ⟨hd, _⟩
    · exact hk
    · exact h.2 d hd
  · rw [done_code h0]; exact h
theorem okL_all {cs : CL} : ∀ (l : List CM), okL cs → (∀ c ∈ l, (c.2.1.size : Int) ≤ 1048576) → okL (doneAllC cs l) := by
  intro l
  induction l generalizing cs with
  | nil => intro h _; exact h
  | cons c l ih => intro h hl; exact ih (okL_done h (hl c (by simp))) fun d hd => hl d (by simp [hd])

theorem take_snoc {α : Type} {l : List α} {k : Nat} (h : k < l.length) : l.take (k + 1) = l.take k ++ [l[k]] := by
  rw [List.take_add_one, List.getElem?_eq_getElem h]; rfl

end Go.Proofs.YtcfgfhodbjakoavGreatDoor

/-
  Plain mathematics of blocks: what is right, where a block stands, how it is put behind the others.
-/
namespace Go.Proofs.YtcfgfhodbjakoavGreatDoor
open Go.RowKit Num

/-- Phase, View, Block, Signers -/
abbrev QC := Int × Int × Int × Int
/-- Parent, View; Cmds, Just -/
abbrev BK := (Int × Int) × (List CM × QC)
def firstB : BK := ((-1, 0), ([], (0, 0, 0, 0)))
/-- the View of the block at a place -/
def viewAt (t : List BK) (k : Int) : Int := (t[k.toNat]?.getD firstB).1.2
theorem viewAt_at {t : List BK} {j : Nat} (h : j < t.length) : viewAt t (j : Int) = t[j].1.2 := by
  unfold viewAt; rw [show ((j : Int)).toNat = j by omega, List.getElem?_eq_getElem h]; rfl

/-- a right block, on a tree -/
def blockB (t : List BK) (b : BK) : Bool :=
  inB b.1.1 0 ((t.length : Int) - 1) && (decide (viewAt t b.1.1 < b.1.2) && (decide (b.1.2 ≤ 900) && (decide (b.2.1.length ≤ 4) && (b.2.1.all cmdB && (decide (b.2.2.2.2.1 = b.1.1) && decide (b.2.2.2.1 = viewAt t b.1.1))))))
theorem blockB_par {t : List BK} {b : BK} (h : inB b.1.1 0 ((t.length : Int) - 1) = false) : blockB t b = false := by unfold blockB; rw [h]; rfl
theorem blockB_low {t : List BK} {b : BK} (h : ¬ viewAt t b.1.1 < b.1.2) : blockB t b = false := by
  unfold blockB; rw [decide_eq_false h, Bool.false_and, Bool.and_false]
theorem blockB_high {t : List BK} {b : BK} (h : ¬ b.1.2 ≤ 900) : blockB t b = false := by
  unfold blockB; rw [decide_eq_false h]; simp
theorem blockB_many {t : List BK} {b : BK} (h : ¬ b.2.1.length ≤ 4) : blockB t b = false := by
  unfold blockB; rw [decide_eq_false h]; simp
theorem blockB_cmd {t : List BK} {b : BK} {j : Nat} (hj : j < b.2.1.length) (h : cmdB b.2.1[j] = false) : blockB t b = false := by
  have : b.2.1.all cmdB = false := List.all_eq_false.2 ⟨_, List.getElem_mem hj, by rw [h]; simp⟩
  unfold blockB; rw [this]; simp
/-- the first k commands are right -/
def cmdsTo (l : List CM) (k : Nat) : Prop := ∀ j (h : j < l.length), j < k → cmdB l[j] = true
theorem cmdsTo_next {l : List CM} {k : Nat} (h : cmdsTo l k) (hk : k < l.length) (hc : cmdB l[k] = true) : cmdsTo l (k + 1) := fun j hj hjk => by
  by_cases e : j = k
  · subst e; exact hc
  · exact h j hj (by omega)
theorem blockB_all {t : List BK} {b : BK} (h0 : inB b.1.1 0 ((t.length : Int) - 1) = true) (h1 : viewAt t b.1.1 < b.1.2) (h2 : b.1.2 ≤ 900) (h3 : b.2.1.length ≤ 4) (h4 : cmdsTo b.2.1 b.2.1.length) :
    blockB t b = (decide (b.2.2.2.2.1 = b.1.1) && decide (b.2.2.2.1 = viewAt t b.1.1)) := by
  have : b.2.1.all cmdB = true := List.all_eq_true.2 fun c hc => by
    obtain ⟨j, hj, rfl⟩ := List.mem_iff_getElem.1 hc
    exact h4 j hj hj
  unfold blockB; rw [h0, decide_eq_true h1, decide_eq_true h2, decide_eq_true h3, this]; rfl

/-- the place of the first block that is the same, from the place k on -/
def blockAtFrom (b : BK) : List BK → Nat → Int
  | [], _ => -1
  | x :: t, k => if x = b then (k : Int) else blockAtFrom b t (k + 1)
def blockAt (t : List BK) (b : BK) : Int := blockAtFrom b t 0
theorem blockAt_drop (t : List BK) (b : BK) (k : Nat) (h : k < t.length) : blockAtFrom b (t.drop k) k = if t[k] = b then (k : Int) else blockAtFrom b (t.drop (k + 1)) (k + 1) := by
  rw [List.drop_eq_getElem_cons h]; rfl
theorem blockAtFrom_cases (b : BK) : ∀ (t : List BK) (k : Nat), (blockAtFrom b t k = -1 ∧ b ∉ t) ∨ ∃ j, ∃ h : j < t.length, blockAtFrom b t k = ((k + j : Nat) : Int) ∧ t[j] = b ∧ ∀ i (hi : i < t.length), i < j → t[i] ≠ b
  | [], k => Or.inl ⟨rfl, by simp⟩
  | x :: t, k => by
    unfold blockAtFrom
    by_cases e : x = b
    · rw [if_pos e]; exact Or.inr ⟨0, by simp, by simp, by simpa using e, fun i _ h => by omega⟩
    · rw [if_neg e]
      rcases blockAtFrom_cases b t (k + 1) with ⟨h1, h2⟩ | ⟨j, hj, h1, h2, h3⟩
      · exact Or.inl ⟨h1, by simp only [List.mem_cons, not_or]; exact ⟨fun h => e h.symm, h2⟩⟩
      · refine Or.inr ⟨j + 1, by simp; omega, by rw [h1]; congr 1; omega, by simpa using h2, fun i hi hij => ?_⟩
        cases i with
        | zero => simpa using e
        | succ i => simpa using h3 i (by simpa using hi) (by omega)
theorem blockAt_cases (t : List BK) (b : BK) : (blockAt t b = -1 ∧ b ∉ t) ∨ ∃ j, ∃ h : j < t.length, blockAt t b = (j : Int) ∧ t[j] = b ∧ ∀ i (hi : i < t.length), i < j → t[i] ≠ b := by
  rcases blockAtFrom_cases b t 0 with h | ⟨j, hj, h1, h2, h3⟩
  · exact Or.inl h
  · exact Or.inr ⟨j, hj, by unfold blockAt; rw [h1]; simp, h2, h3⟩

/-- the block at the place i is right on those ahead of it, and stands there for the first time -/
def treeAt (t : List BK) (i : Nat) : Bool := match t[i]? with
  | none => true
  | some b => blockB (t.take i) b && decide (blockAt t b = (i : Int))
/-- the first block of a tree -/
def headB (t : List BK) : BK := t[0]?.getD ((0, 0), ([], (0, 0, 0, 0)))
theorem headB_at {t : List BK} (h : 0 < t.length) : headB t = t[0] := by unfold headB; rw [List.getElem?_eq_getElem h]; rfl
def treeB (t : List BK) : Bool := inB (t.length : Int) 1 60 && (decide (headB t = firstB) && (List.range t.length).all fun i => decide (i = 0) || treeAt t i)
theorem treeB_len {t : List BK} (h : inB (t.length : Int) 1 60 = false) : treeB t = false := by unfold treeB; rw [h]; rfl
theorem treeB_first {t : List BK} (h : ¬ headB t = firstB) : treeB t = false := by unfold treeB; rw [decide_eq_false h, Bool.false_and, Bool.and_false]
theorem treeB_no {t : List BK} {i : Nat} (h : i < t.length) (h0 : i ≠ 0) (hn : treeAt t i = false) : treeB t = false := by
  have : ((List.range t.length).all fun i => decide (i = 0) || treeAt t i) = false := List.all_eq_false.2 ⟨i, List.mem_range.2 h, by rw [hn]; simp [h0]⟩
  unfold treeB; rw [this]; simp
def treeTo (t : List BK) (k : Nat) : Prop := ∀ i, i < k → i ≠ 0 → treeAt t i = true
theorem treeTo_next {t : List BK} {k : Nat} (h : treeTo t k) (hk : k = 0 ∨ treeAt t k = true) : treeTo t (k + 1) := fun i hi h0 => by
  by_cases e : i = k
  · subst e; exact hk.resolve_left h0
  · exact h i (by omega) h0
theorem treeB_all {t : List BK} (h : inB (t.length : Int) 1 60 = true) (h1 : headB t = firstB) (h2 : treeTo t t.length) : treeB t = true := by
  have : ((List.range t.length).all fun i => decide (i = 0) || treeAt t i) = true := List.all_eq_true.2 fun i hi => by
    by_cases e : i = 0
    · simp [e]
    · rw [h2 i (List.mem_range.1 hi) e]; simp
  unfold treeB; rw [h, decide_eq_true h1, this]; rfl

/-- a block is put behind the others -/
def putAt (t : List BK) (b : BK) : Int := if 0 ≤ blockAt t b then blockAt t b else if blockB t b = false ∨ 60 ≤ t.length then -1 else (t.length : Int)
def putT (t : List BK) (b : BK) : List BK := if 0 ≤ blockAt t b then t else if blockB t b = false ∨ 60 ≤ t.length then t else t ++ [b]
theorem put_there {t : List BK} {b : BK} (h : 0 ≤ blockAt t b) : putAt t b = blockAt t b ∧ putT t b = t := ⟨if_pos h, if_pos h⟩
theorem put_not {t : List BK} {b : BK} (h : ¬ 0 ≤ blockAt t b) (h2 : blockB t b = false ∨ 60 ≤ t.length) : putAt t b = -1 ∧ putT t b = t := ⟨(if_neg h).trans (if_pos h2), (if_neg h).trans (if_pos h2)⟩
theorem put_new {t : List BK} {b : BK} (h : ¬ 0 ≤ blockAt t b) (h2 : ¬ (blockB t b = false ∨ 60 ≤ t.length)) : putAt t b = (t.length : Int) ∧ putT t b = t ++ [b] := ⟨(if_neg h).trans (if_neg h2), (if_neg h).trans (if_neg h2)⟩

end Go.Proofs.YtcfgfhodbjakoavGreatDoor

/-
  Plain mathematics of votes: how many may lie, how many are enough, who leads; signers as bits.
-/
namespace Go.Proofs.YtcfgfhodbjakoavGreatDoor
open Go.RowKit Num

def faultsT (n : Int) : Int := if n < 1 then 0 else (n - 1) / 3
def quorumT (n : Int) : Int := n - faultsT n
def leaderT (view n : Int) : Int := if n < 1 ∨ view < 0 then 0 else view / 4 % n

/-- a vote: Phase, View, Block, By -/
abbrev VT := Int × Int × Int × Int
def voteB (t : List BK) (n : Int) (v : VT) : Bool :=
  inB n 1 7 && (inB v.1 1 4 && (inB v.2.1 1 900 && (inB v.2.2.1 1 ((t.length : Int) - 1) && (decide (viewAt t v.2.2.1 = v.2.1) && inB v.2.2.2 0 (n - 1)))))

/-- whether there is such a vote of this one -/
def saidV (l : List VT) (p v b by' : Int) : Bool := l.any fun x => decide (x.2.2.2 = by') && (decide (x.1 = p) && (decide (x.2.1 = v) && decide (x.2.2.1 = b)))
/-- the signers below k -/
def sigTo (l : List VT) (p v b : Int) : Nat → Int
  | 0 => 0
  | k + 1 => sigTo l p v b k + (if saidV l p v b (k : Int) = true then (2 : Int) ^ k else 0)
def signersT (l : List VT) (p v b : Int) : Int := sigTo l p v b 7
/-- a bit -/
def bitT (x : Int) (i : Nat) : Int := x / (2 : Int) ^ i % 2
def cntTo (s : Int) : Nat → Int
  | 0 => 0
  | k + 1 => cntTo s k + bitT s k
def countT (s : Int) : Int := if s < 0 then 0 else cntTo s 7
def qcRightB (t : List BK) (n : Int) (q : QC) : Bool :=
  if q = (0, 0, 0, 0) then true else voteB t n (q.1, q.2.1, q.2.2.1, 0) && (inB q.2.2.2 0 ((2 : Int) ^ n.toNat - 1) && decide (quorumT n ≤ countT q.2.2.2))
def qcOfT (l : List VT) (p v b n : Int) : QC × Bool := if countT (signersT l p v b) < quorumT n then ((0, 0, 0, 0), false) else ((p, v, b, signersT l p v b), true)
def higherT (a b : QC) : QC := if a.2.1 < b.2.1 then b else a
/-- each signer below k is a liar, or said so -/
def provTo (said signers liars : Int) (k : Nat) : Prop := ∀ i, i < k → ¬ (bitT signers i ≠ 0 ∧ bitT liars i = 0 ∧ bitT said i = 0)
def provenB (l : List VT) (q : QC) (liars : Int) : Bool :=
  if q.2.1 = 0 then true else ((List.range 7).all fun i => !(decide (bitT q.2.2.2 i ≠ 0) && (decide (bitT liars i = 0) && decide (bitT (signersT l q.1 q.2.1 q.2.2.1) i = 0)))) && (decide (0 ≤ q.2.2.2) && decide (q.2.2.2 < 128))

theorem bitT_cases (x : Int) (i : Nat) : bitT x i = 0 ∨ bitT x i = 1 := by unfold bitT; omega
theorem sigTo_bounds (l : List VT) (p v b : Int) : ∀ k, 0 ≤ sigTo l p v b k ∧ sigTo l p v b k < (2 : Int) ^ k
  | 0 => by simp [sigTo]
  | k + 1 => by
    obtain ⟨h0, h1⟩ := sigTo_bounds l p v b k
    have hp : (0 : Int) < (2 : Int) ^ k := Int.pow_pos (by omega)
    have h2 : (2 : Int) ^ (k + 1) = 2 * (2 : Int) ^ k := by rw [Int.pow_succ]; omega
    unfold sigTo
    split <;> omega
theorem signersT_bounds (l : List VT) (p v b : Int) : 0 ≤ signersT l p v b ∧ signersT l p v b < 128 := sigTo_bounds l p v b 7
theorem cntTo_bounds (s : Int) : ∀ k, 0 ≤ cntTo s k ∧ cntTo s k ≤ (k : Int)
  | 0 => by simp [cntTo]
  | k + 1 => by
    obtain ⟨h0, h1⟩ := cntTo_bounds s k
    have := bitT_cases s k
    unfold cntTo
    omega
theorem countT_bounds (s : Int) : 0 ≤ countT s ∧ countT s ≤ 7 := by
  unfold countT
  split
  · omega
  · exact cntTo_bounds s 7
theorem faults_three (n : Int) (h : 1 ≤ n) : 0 ≤ faultsT n ∧ 3 * faultsT n < n := by unfold faultsT; rw [if_neg (by omega)]; omega

end Go.Proofs.YtcfgfhodbjakoavGreatDoor

/-
  Plain mathematics of letters: texts of numbers of every size, of votes, of what enough signed, of blocks, of letters.
-/
namespace Go.Proofs.YtcfgfhodbjakoavGreatDoor
open Go.RowKit Num

theorem vb_bound : ∀ (k f : Nat) (m : Int), m ≤ 128 ^ (k + 1) - 1 → (vb f m).length ≤ k + 1
  | 0, f, m, hm => by rw [vb_small _ _ (by simpa using (by omega : m ≤ 127))]; simp
  | k + 1, 0, m, _ => by simp [vb]
  | k + 1, f + 1, m, hm => by
    by_cases hgt : 127 < m
    · have e : (128 : Int) ^ (k + 1 + 1) = 128 ^ (k + 1) * 128 := Int.pow_succ _ _
      rw [e] at hm
      have h2 := Int.ediv_lt_of_lt_mul (show (0 : Int) < 128 by decide) (show m < 128 ^ (k + 1) * 128 by omega)
      have := vb_bound k f (m / 128) (by omega)
      rw [show vb (f + 1) m = (if 127 < m then (m % 128 + 128) :: vb f (m / 128) else [m]) from rfl, if_pos hgt]
      simp only [List.length_cons]
      omega
    · rw [vb_small _ _ (by omega)]; simp
theorem vbs_ten (n : Int) (h : n ≤ 9223372036854775807) : (vbs n).length ≤ 10 :=
  vb_bound 9 _ _ (by rw [show (128 : Int) ^ (9 + 1) = 1180591620717411303424 from rfl]; omega)

/-- a number below 0 is told as 0 -/
def lowI (n : Int) : Int := if n < 0 then 0 else n
theorem lowI_bounds {n : Int} (h : n ≤ 9223372036854775807) : 0 ≤ lowI n ∧ lowI n ≤ 9223372036854775807 := by unfold lowI; split <;> omega
/-- the text of a number -/
def vT (n : Int) : ByteArray := strOfNums (vbs n)
theorem vT_size {n : Int} (h : n ≤ 9223372036854775807) : (vT n).size ≤ 10 := by unfold vT; rw [strOfNums_size]; exact vbs_ten n h
def lowT (n : Int) : ByteArray := vT (lowI n)
theorem lowT_size {n : Int} (h : n ≤ 9223372036854775807) : (lowT n).size ≤ 10 := vT_size (lowI_bounds h).2
/-- four numbers -/
def fourT (a b c d : Int) : ByteArray := lowT a ++ lowT b ++ lowT c ++ lowT d
def voteTx (v : VT) : ByteArray := fourT v.1 v.2.1 v.2.2.1 v.2.2.2
def qcTx (q : QC) : ByteArray := fourT q.1 q.2.1 q.2.2.1 q.2.2.2
theorem fourT_size {a b c d : Int} (ha : a ≤ 9223372036854775807) (hb : b ≤ 9223372036854775807) (hc : c ≤ 9223372036854775807) (hd : d ≤ 9223372036854775807) : (fourT a b c d).size ≤ 40 := by
  unfold fourT
  rw [ByteArray.size_append, ByteArray.size_append, ByteArray.size_append]
  have := lowT_size ha
  have := lowT_size hb
  have := lowT_size hc
  have := lowT_size hd
  omega
/-- a letter: Kind, From, To, View, Block; Qc; Vote -/
abbrev LT := (Int × Int × Int × Int × Int) × QC × VT
def letT (l : LT) : ByteArray := lowT l.1.1 ++ lowT l.1.2.1 ++ lowT l.1.2.2.1 ++ lowT l.1.2.2.2.1 ++ lowT l.1.2.2.2.2 ++ qcTx l.2.1 ++ voteTx l.2.2
/-- whether a letter is right -/
def letB (t : List BK) (n : Int) (l : LT) : Bool :=
  if ¬ (inB l.1.1 1 4 = true ∧ inB l.1.2.1 0 (n - 1) = true ∧ inB l.1.2.2.1 0 (n - 1) = true ∧ inB l.1.2.2.2.1 1 900 = true ∧ n ≤ 7) then false
  else if (l.1.1 ≠ 1 ∧ l.1.2.2.2.2 ≠ 0) ∨ (l.1.1 ≠ 2 ∧ l.2.2 ≠ (0, 0, 0, 0)) ∨ (l.1.1 = 2 ∧ l.2.1 ≠ (0, 0, 0, 0)) then false
  else if l.1.1 = 1 then inB l.1.2.2.2.2 1 ((t.length : Int) - 1) && (decide (viewAt t l.1.2.2.2.2 = l.1.2.2.2.1) && (decide ((t[l.1.2.2.2.2.toNat]?.getD firstB).2.2 = l.2.1) && qcRightB t n l.2.1))
  else if l.1.1 = 2 then voteB t n l.2.2 && (decide (l.2.2.2.2.2 = l.1.2.1) && decide (l.2.2.2.1 = l.1.2.2.2.1))
  else if l.1.1 = 3 then qcRightB t n l.2.1 && decide (l.2.1.2.1 = l.1.2.2.2.1)
  else qcRightB t n l.2.1 && decide (l.2.1.2.1 < l.1.2.2.2.1)
/-- a command's text -/
def cmdTx (c : CM) : ByteArray := lowT c.1 ++ vT c.2.1.size ++ c.2.1 ++ lowT c.2.2
def cmdsTx (cs : List CM) : ByteArray := cs.foldl (fun s c => s ++ lowT c.1 ++ vT c.2.1.size ++ c.2.1 ++ lowT c.2.2) ByteArray.empty
/-- what stands ahead of a block's commands -/
def blkHd (b : BK) : ByteArray := lowT (if 0 ≤ b.1.1 then wrap64 (b.1.1 + 1) else 0) ++ lowT b.1.2 ++ vT b.2.1.length
/-- .. and up to the first k commands -/
def blkTo (b : BK) (k : Nat) : ByteArray := (b.2.1.take k).foldl (fun s c => s ++ lowT c.1 ++ vT c.2.1.size ++ c.2.1 ++ lowT c.2.2) (blkHd b)
theorem blkTo_step {b : BK} {k : Nat} (h : k < b.2.1.length) : blkTo b (k + 1) = blkTo b k ++ lowT b.2.1[k].1 ++ vT b.2.1[k].2.1.size ++ b.2.1[k].2.1 ++ lowT b.2.1[k].2.2 := by
  unfold blkTo; rw [List.take_add_one, List.getElem?_eq_getElem h, List.foldl_append]; rfl
def blockTx (b : BK) : ByteArray := blkTo b b.2.1.length ++ qcTx b.2.2

end Go.Proofs.YtcfgfhodbjakoavGreatDoor

/-
  Numbers that fit, four of them.
-/
namespace Go.Proofs.YtcfgfhodbjakoavGreatDoor
open Go.RowKit

/-- numbers that fit -/
def wfQ (q : QC) : Prop := (Lit.int .i64 q.1).wf = true ∧ (Lit.int .i64 q.2.1).wf = true ∧ (Lit.int .i64 q.2.2.1).wf = true ∧ (Lit.int .i64 q.2.2.2).wf = true

end Go.Proofs.YtcfgfhodbjakoavGreatDoor

/-
  A region that draws its order, in which a load is taken first although a later operation, which waits for the load, writes the very cell: what the load reads need hold only behind those operations that may come before it.
-/
namespace Go.Proofs.YtcfgfhodbjakoavGreatDoor
open Go.RowKit

section
variable {P : Program} {ops : Array Oper} {Q : Exit → Act → World → Prop} {md : Region.Mode} {C : World → Prop} {pend : Nat → Bool}

/-- whatever order is picked; behind each operation that may come before the loads, C holds -/
def wpAnyP (P : Program) (md : Region.Mode) (ops : Array Oper) (Q : Exit → Act → World → Prop) (C : World → Prop) (pend : Nat → Bool) : Nat → Array Bool → Act → World → Prop
  | 0, listed, a, w => Region.ready md ops listed = [] ∧ Q .normal a w
  | f + 1, listed, a, w => (Region.ready md ops listed = [] → Q .normal a w) ∧
      ∀ i ∈ Region.ready md ops listed, wpOp P ops Q i (fun a' w' => (pend i = true → C w') ∧ wpAnyP P md ops Q C pend f (listed.setIfInBounds i true) a' w') a w

theorem wpAny_of_P : ∀ (f : Nat) (listed : Array Bool) (a : Act) (w : World), wpAnyP P md ops Q C pend f listed a w → wpAny P md ops Q f listed a w
  | 0, _, _, _, h => h
  | f + 1, _, _, _, h => ⟨h.1, fun i hi => wpOp_mono (fun a' w' h' => wpAny_of_P f _ a' w' h'.2) (h.2 i hi)⟩

/-- more may be asked -/
theorem wpAnyP_mono {C' : World → Prop} (hC : ∀ w, C' w → C w) : ∀ {f : Nat} {listed : Array Bool} {a : Act} {w : World}, wpAnyP P md ops Q C' pend f listed a w → wpAnyP P md ops Q C pend f listed a w
  | 0, _, _, _, h => h
  | _ + 1, _, _, _, h => ⟨h.1, fun i hi => wpOp_mono (fun _ _ h' => ⟨fun hp => hC _ (h'.1 hp), wpAnyP_mono hC h'.2⟩) (h.2 i hi)⟩

/-- number j waits for number i, in at most n steps -/
def chainB (md : Region.Mode) (ops : Array Oper) (i : Nat) : Nat → Nat → Bool
  | 0, _ => false
  | n + 1, j => match ops[j]? with
    | some o => o.after.toList.any fun e => Region.binds md e && (e.on == i || chainB md ops i n e.on)
    | none => false
/-- what has come up came up behind all that it waits for -/
def Closed (md : Region.Mode) (ops : Array Oper) (listed : Array Bool) : Prop :=
  ∀ (k : Nat) (o : Oper), ops[k]? = some o → listed.getD k false = true → ∀ e ∈ o.after, Region.binds md e = true → listed.getD e.on false = true
theorem off_of {listed : Array Bool} {i : Nat} (h : listed.getD i true = false) : listed.getD i false = false := by
  rcases Nat.lt_or_ge i listed.size with h' | h'
  · simp [h'] at h ⊢; exact h
  · simp [Array.getElem?_eq_none h']
/-- what has not come up behind one more had not come up ahead of it -/
theorem still_off {listed : Array Bool} {j k : Nat} (hj : listed.getD j true = false) (h : (listed.setIfInBounds j true).getD k true = false) : listed.getD k true = false := by
  by_cases e : j = k
  · rw [← e]; exact hj
  · rwa [getD_set_ne true e] at h
theorem chain_off {i : Nat} {listed : Array Bool} (hc : Closed md ops listed) (hi : listed.getD i true = false) : ∀ (n j : Nat), chainB md ops i n j = true → listed.getD j false = false ∧ j ∉ Region.ready md ops listed
  | 0, _, h => by cases h
  | n + 1, j, h => by
    unfold chainB at h
    cases ho : ops[j]? with
    | none => rw [ho] at h; cases h
    | some o =>
      rw [ho] at h
      obtain ⟨e, he, h2⟩ := List.any_eq_true.1 h
      have he' : e ∈ o.after := by simpa using he
      simp only [Bool.and_eq_true, Bool.or_eq_true, beq_iff_eq] at h2
      have hoff : listed.getD e.on false = false := by
        rcases h2.2 with h3 | h3
        · rw [h3]; exact off_of hi
        · exact (chain_off hc hi n e.on h3).1
      constructor
      · cases hj : listed.getD j false with
        | false => rfl
        | true => have := hc j o ho hj e he' h2.1; rw [hoff] at this; cases this
      · intro hr
        obtain ⟨_, o', ho', hall⟩ := mem_ready.1 hr
        rw [ho] at ho'
        obtain rfl := Option.some.inj ho'
        have := hall e he' h2.1
        rw [hoff] at this; cases this
theorem Closed.set {listed : Array Bool} {j : Nat} (h : Closed md ops listed) (hj : j ∈ Region.ready md ops listed) : Closed md ops (listed.setIfInBounds j true) := fun k o ho hk e he hb => by
  by_cases hjk : j = k
  · subst hjk
    obtain ⟨_, o', ho', hall⟩ := mem_ready.1 hj
    rw [ho] at ho'
    obtain rfl := Option.some.inj ho'
    exact getD_set_true (hall e he hb)
  · rw [getD_set_ne false hjk] at hk
    exact getD_set_true (h k o ho hk e he hb)

/-- every operation that is not pending waits for number i -/
def WaitsFor (md : Region.Mode) (ops : Array Oper) (pend : Nat → Bool) (i : Nat) : Prop := ∀ j, j < ops.size → pend j = false → ∃ n, chainB md ops i n j = true
theorem pend_of_ready {i j : Nat} {listed : Array Bool} (hw : WaitsFor md ops pend i) (hi : listed.getD i true = false) (hl : Closed md ops listed) (hj : j ∈ Region.ready md ops listed) : pend j = true := by
  cases hp : pend j with
  | true => rfl
  | false =>
    obtain ⟨_, o, ho, _⟩ := mem_ready.1 hj
    obtain ⟨n, hn⟩ := hw j (Array.getElem?_eq_some_iff.1 ho).1 hp
    exact absurd hj (chain_off hl hi n j hn).2

theorem wpAnyP_first {i : Nat} {oi : Oper} {v : Value} (hi : ops[i]? = some oi) (hsel : ∀ (j : Nat) (o : Oper) cs b, ops[j]? = some o → o.op ≠ .select cs b)
    (hQ : ∀ c a w, Q (.panic c) (a.put oi.dst v) w → Q (.panic c) a w) (hw : WaitsFor md ops pend i) :
    ∀ (f : Nat) (listed : Array Bool) (a : Act) (w : World),
      (∀ j oj, ops[j]? = some oj → j ≠ i → listed.getD j true = false → (∀ e ∈ oj.after, Region.binds md e = true → e.on ≠ i) → oi.apart ops oj = true) →
      i ∈ Region.ready md ops listed → Closed md ops listed → YieldsIf P ops C oi v a → C w →
      wpAnyP P md ops Q C pend f (listed.setIfInBounds i true) (a.put oi.dst v) w → wpAnyP P md ops Q C pend (f + 1) listed a w := by
  intro f
  induction f with
  | zero =>
    intro listed a w _ hr _ hy hC H
    refine ⟨fun h => (by rw [h] at hr; cases hr), fun j hj => ?_⟩
    by_cases hji : j = i
    · subst hji; exact hy.wpOp hi hC ⟨fun _ => hC, H⟩
    · have := ready_mono hj hji
      rw [H.1] at this
      cases this
  | succ f ih =>
    intro listed a w hfree hr hl hy hC H
    refine ⟨fun h => (by rw [h] at hr; cases hr), fun j hj => ?_⟩
    by_cases hji : j = i
    · subst hji; exact hy.wpOp hi hC ⟨fun _ => hC, H⟩
    · have h1 := H.2 j (ready_mono hj hji)
      have hpj : pend j = true := pend_of_ready hw (mem_ready.1 hr).1 hl hj
      obtain ⟨hjun, oj, hoj, hall⟩ := mem_ready.1 hj
      have hnot : ∀ e ∈ oj.after, Region.binds md e = true → e.on ≠ i := fun e he hb heq => by
        have h4 := hall e he hb
        rw [heq, off_of (mem_ready.1 hr).1] at h4
        cases h4
      have h2 := wpOp_putIf hoj (hfree j oj hoj hji hjun hnot) (fun cs b => hsel i oi cs b hi) (fun cs b => hsel j oj cs b hoj) hQ hy h1
      have hfree' := fun k ok hk hki hun hno => hfree k ok hk hki (still_off hjun hun) hno
      refine wpOp_mono (fun a' w' h3 => ⟨h3.2.1, ih (listed.setIfInBounds j true) a' w' hfree' (ready_mono hr (Ne.symm hji)) (hl.set hj) h3.1 (h3.2.1 hpj) ?_⟩) h2
      rw [Array.setIfInBounds_comm _ _ hji]
      exact h3.2.2

def waitsB (md : Region.Mode) (ops : Array Oper) (pend : Nat → Bool) (i : Nat) : Bool := (List.range ops.size).all fun j => pend j || chainB md ops i 40 j
theorem waitsB_spec {i : Nat} (h : waitsB md ops pend i = true) : WaitsFor md ops pend i := fun j hj hp => by
  have h1 := List.all_eq_true.1 h j (List.mem_range.2 hj)
  rw [hp, Bool.false_or] at h1
  exact ⟨40, h1⟩
def closedB (md : Region.Mode) (ops : Array Oper) (listed : Array Bool) : Bool := (List.range ops.size).all fun k => !listed.getD k false || (match ops[k]? with
  | some o => o.after.toList.all fun e => !Region.binds md e || listed.getD e.on false
  | none => true)
theorem closedB_spec {listed : Array Bool} (h : closedB md ops listed = true) : Closed md ops listed := fun k o ho hk e he hb => by
  have h1 := List.all_eq_true.1 h k (List.mem_range.2 (Array.getElem?_eq_some_iff.1 ho).1)
  rw [hk, ho, Bool.not_true, Bool.false_or] at h1
  have h2 := List.all_eq_true.1 h1 e (by simpa using he)
  rw [hb, Bool.not_true, Bool.false_or] at h2
  exact h2

/-- number i is taken first: a load, or an operation that asks no world -/
theorem wpAnyP_take {i : Nat} {oi : Oper} {v : Value} {f : Nat} {listed : Array Bool} {a : Act} {w : World} (hi : ops[i]? = some oi)
    (hs : Region.noSelect ops = true) (hf : Region.free md ops listed i = true) (hr : (Region.ready md ops listed).contains i = true) (hw : waitsB md ops pend i = true) (hl : closedB md ops listed = true)
    (hQ : ∀ c a w, Q (.panic c) (a.put oi.dst v) w → Q (.panic c) a w) (hy : YieldsIf P ops C oi v a) (hC : C w)
    (h : wpAnyP P md ops Q C pend f (listed.setIfInBounds i true) (a.put oi.dst v) w) : wpAnyP P md ops Q C pend (f + 1) listed a w :=
  wpAnyP_first hi (Region.noSelect_spec hs) hQ (waitsB_spec hw) f listed a w (Region.free_spec hi hf) (by simpa using hr) (closedB_spec hl) hy hC h

/-- one operation alone may come up -/
theorem wpAnyP_one {i : Nat} {o : Oper} {f : Nat} {listed : Array Bool} {a : Act} {w : World} (hr : Region.ready md ops listed = [i]) (ho : ops[i]? = some o)
    (h : ∀ K' : Act → World → Prop, Shut (∀ a w, (pend i = true → C w) → wpAnyP P md ops Q C pend f (listed.setIfInBounds i true) a w → K' a w) → if Region.wanted o (yielded ops a.tmps) = true then Oper.wp P o a w K' Q else K' (a.put o.dst undef) w) :
    wpAnyP P md ops Q C pend (f + 1) listed a w :=
  ⟨fun h0 => (by rw [hr] at h0; cases h0), fun j hj => by
    rw [hr] at hj
    have hji : j = i := by simpa using hj
    subst hji
    exact wpOp_step ho (fun K' hK => h K' (fun a w hC hW => hK a w ⟨hC, hW⟩))⟩

theorem wpAnyP_done {listed : Array Bool} {a : Act} {w : World} (hr : Region.ready md ops listed = []) (h : Q .normal a w) : ∀ f, wpAnyP P md ops Q C pend f listed a w
  | 0 => ⟨hr, h⟩
  | _ + 1 => ⟨fun _ => h, by rw [hr]; simp⟩

/-- the library's walk with a condition that holds throughout: more may be asked; one operation alone may come up -/
theorem wpAnyH_mono {S S' : World → Prop} (hS : ∀ w, S' w → S w) : ∀ {f : Nat} {listed : Array Bool} {a : Act} {w : World}, wpAnyH P md ops Q S' f listed a w → wpAnyH P md ops Q S f listed a w
  | 0, _, _, _, h => h
  | _ + 1, _, _, _, h => ⟨h.1, fun i hi => wpOp_mono (fun _ _ h' => ⟨hS _ h'.1, wpAnyH_mono hS h'.2⟩) (h.2 i hi)⟩
theorem wpAnyH_one {S : World → Prop} {i : Nat} {o : Oper} {f : Nat} {listed : Array Bool} {a : Act} {w : World} (hr : Region.ready md ops listed = [i]) (ho : ops[i]? = some o)
    (h : ∀ K' : Act → World → Prop, Shut (∀ a w, S w → wpAnyH P md ops Q S f (listed.setIfInBounds i true) a w → K' a w) → if Region.wanted o (yielded ops a.tmps) = true then Oper.wp P o a w K' Q else K' (a.put o.dst undef) w) :
    wpAnyH P md ops Q S (f + 1) listed a w :=
  ⟨fun h0 => (by rw [hr] at h0; cases h0), fun j hj => by
    rw [hr] at hj
    have hji : j = i := by simpa using hj
    subst hji
    exact wpOp_step ho (fun K' hK => h K' (fun a w hC hW => hK a w ⟨hC, hW⟩))⟩
theorem wp_region_H {id : Nat} {a : Act} {w : World} (S : World → Prop) (hm : P.follows .mixedOrders = true)
    (h : wpAnyH P .any ops Q S ops.size (Array.replicate ops.size false) a w.drew) : (Code.region id ops true).wp P Q a w := wp_region_held hm h
theorem wp_region_P {id : Nat} {a : Act} {w : World} (pend : Nat → Bool) (C : World → Prop) (hm : P.follows .mixedOrders = true)
    (h : wpAnyP P .any ops Q C pend ops.size (Array.replicate ops.size false) a w.drew) : (Code.region id ops true).wp P Q a w :=
  wp_region_any hm (wpAny_of_P _ _ _ _ h)
end
end Go.Proofs.YtcfgfhodbjakoavGreatDoor

/-
  A region that draws its order, with calls that wait for one another, the making of one block, and at its end a store of what was told into that block: the block may be made ahead of any call. One walk, in the order of the text, for all of these orders: what is known of the world is closed under 'more memory', and the block's place is any.
-/
namespace Go.Proofs.YtcfgfhodbjakoavGreatDoor
open Go.RowKit

theorem setRow_grown {w : World} {N : Nat} {old cells : Array Value} {t : TypeId} (h : w.heap[N]? = some (.cells old t (0, 0))) : w.grownBy (w.setRow N cells) (some N) ∧ (w.setRow N cells).heap[N]? = some (.cells cells t (0, 0)) ∧ (w.setRow N cells).heap.size = w.heap.size := by
  refine ⟨⟨rfl, rfl, rfl, by simp [World.setRow], fun k hk hne => ?_⟩, setRow_heap w N old cells t (0, 0) h, by simp [World.setRow]⟩
  have : k ≠ N := fun e => hne (by rw [e])
  simp only [World.setRow]
  rw [Array.getElem?_modify, if_neg (fun e => this e.symm)]

section
variable {P : Program} {ops : Array Oper} {Q : Exit → Act → World → Prop} {md : Region.Mode} {S : World → Prop}

theorem wpOp_call {c : Nat} {oc : Oper} {fn : FuncId} {args : Array Value} {a : Act} {w : World} {K : Act → World → Prop} (hc : ops[c]? = some oc) (hw : Region.wanted oc (yielded ops a.tmps) = true)
    (hrun : (execOp a.eval oc).run P w = .ok (.enter fn args) w) (h : Calls P fn args w fun e w' => ∃ v, e = .returned v ∧ K (a.put oc.dst v) w') : wpOp P ops Q c K a w := by
  unfold wpOp
  simp only [hc, hw, if_true]
  refine Or.inl ?_
  unfold Oper.wp
  rw [hrun]
  exact h.mono fun e w' he => by obtain ⟨v, rfl, hk⟩ := he; exact hk
theorem wpOp_value {c : Nat} {oc : Oper} {v : Value} {a : Act} {w w' : World} {K : Act → World → Prop} (hc : ops[c]? = some oc) (hw : Region.wanted oc (yielded ops a.tmps) = true)
    (hrun : (execOp a.eval oc).run P w = .ok (.value v) w') (h : K (a.put oc.dst v) w') : wpOp P ops Q c K a w := by
  unfold wpOp
  simp only [hc, hw, if_true]
  refine Or.inl ?_
  unfold Oper.wp
  rw [hrun]
  exact h

def flP (N : Nat) : Value := .pointer (some ⟨N, 0, none⟩)
/-- the block is not made yet, or lies at N -/
def flL (i : Nat) (L : Array Bool) : Option Nat → Array Bool
  | none => L
  | some _ => L.setIfInBounds i true
def flA (d : Option Tmp) (a : Act) : Option Nat → Act
  | none => a
  | some N => a.put d (flP N)
def flI (obj : Obj) (base : Nat) (w : World) : Option Nat → Prop
  | none => True
  | some N => base ≤ N ∧ w.heap[N]? = some obj
def flF (f : Nat) : Option Nat → Nat
  | none => f + 1
  | some _ => f
/-- the walk from here on, wherever the block lies -/
def Fl (P : Program) (md : Region.Mode) (ops : Array Oper) (Q : Exit → Act → World → Prop) (S : World → Prop) (i : Nat) (d : Option Tmp) (obj : Obj) (base : Nat) (T : World → Prop) (f : Nat) (L : Array Bool) (a : Act) : Prop :=
  ∀ al w, T w → flI obj base w al → wpAnyH P md ops Q S (flF f al) (flL i L al) (flA d a al) w
/-- more memory harms nothing -/
def Up (T : World → Prop) : Prop := ∀ w w', T w → Below w.heap.size w w' → T w'

/-- what lies from base on is as it was -/
def KpF (base : Nat) (w w' : World) : Prop := ∀ k, base ≤ k → k < w.heap.size → w'.heap[k]? = w.heap[k]?
theorem KpF.below {base : Nat} {w w' : World} (h : Below w.heap.size w w') : KpF base w w' := fun k _ hk => h.block k hk
theorem KpF.grown {base B : Nat} {w w' : World} (h : w.grownBy w' (some B)) (hB : B < base) : KpF base w w' := fun k hk hl => h.block k hl fun e => by have := Option.some.inj e; omega

/-- what an alloc does, in whatever state -/
def Makes (P : Program) (oi : Oper) (obj : Obj) : Prop := oi.guard = none ∧ ∀ (ρ : Operand → Value) (w : World), (execOp ρ oi).run P w = .ok (.value (flP w.heap.size)) (w.alloc obj)

theorem alloc_new (w : World) (obj : Obj) : (w.alloc obj).heap[w.heap.size]? = some obj := by show (w.heap.push obj)[w.heap.size]? = some obj; simp
theorem alloc_below (w : World) (obj : Obj) : Below w.heap.size w (w.alloc obj) := (Below.refl _ _).alloc (Nat.le_refl _) _

theorem fl_in {i : Nat} {d : Option Tmp} {obj : Obj} {base f : Nat} {T : World → Prop} {L : Array Bool} {a : Act} {w : World} (h : Fl P md ops Q S i d obj base T f L a) (hT : T w) : wpAnyH P md ops Q S (f + 1) L a w := h none w hT trivial

theorem fl_call {i c : Nat} {d e' : Option Tmp} {oi oc : Oper} {obj : Obj} {base f : Nat} {T : World → Prop} {T' : Value → World → Prop} {L : Array Bool} {a : Act} {fn : FuncId} {args : Array Value}
    (hi : ops[i]? = some oi) (hdd : oi.dst = d) (hmk : Makes P oi obj) (hb : ∀ w, T w → base ≤ w.heap.size) (hU : Up T) (hTS : ∀ w, T w → S w)
    (hc : ops[c]? = some oc) (hce : oc.dst = e') (hsel : Region.noSelect ops = true) (hr0 : Region.ready md ops L = [c, i] ∨ Region.ready md ops L = [i, c]) (hr1 : Region.ready md ops (L.setIfInBounds i true) = [c]) (hci : c ≠ i) (hap : oi.apart ops oc = true)
    (hw : Region.wanted oc (yielded ops a.tmps) = true) (hrun : ∀ w, (execOp a.eval oc).run P w = .ok (.enter fn args) w)
    (hcon : ∀ w, T w → Calls P fn args w fun e w' => ∃ v, e = .returned v ∧ KpF base w w' ∧ T' v w') (hTS' : ∀ v w, T' v w → S w)
    (next : ∀ v, Fl P md ops Q S i d obj base (T' v) f (L.setIfInBounds c true) (a.put e' v)) : Fl P md ops Q S i d obj base T (f + 1) L a := by
  subst hdd
  subst hce
  obtain ⟨h1, h2, _⟩ := Oper.apart_spec hap
  have hs : ∀ cs b, oc.op ≠ .select cs b := fun cs b => Region.noSelect_spec hsel c oc cs b hc
  have hsome : ∀ N w, T w → flI obj base w (some N) → wpAnyH P md ops Q S (f + 1) (L.setIfInBounds i true) (a.put oi.dst (flP N)) w := fun N w hT hI => by
    refine ⟨fun h => (by rw [hr1] at h; cases h), fun j hj => ?_⟩
    rw [hr1] at hj
    obtain rfl : j = c := by simpa using hj
    refine wpOp_call hc (by rw [wanted_put oc a oi.dst _ h1]; exact hw) (by rw [execOp_put oc hs a oi.dst _ h1]; exact hrun w) ((hcon w hT).mono ?_)
    rintro e w' ⟨v, rfl, hbe, hT'⟩
    refine ⟨v, rfl, hTS' v w' hT', ?_⟩
    have := next v (some N) w' hT' ⟨hI.1, (hbe N hI.1 (Array.getElem?_eq_some_iff.1 hI.2).1).trans hI.2⟩
    rw [Act.put_comm a (flP N) v h2, Array.setIfInBounds_comm _ _ (Ne.symm hci)]
    exact this
  intro al w hT hI
  cases al with
  | some N => exact hsome N w hT hI
  | none =>
    show wpAnyH P md ops Q S (f + 1 + 1) L a w
    refine ⟨fun h => (by rcases hr0 with e | e <;> rw [e] at h <;> cases h), fun j hj => ?_⟩
    have hj' : j = c ∨ j = i := by rcases hr0 with e | e <;> rw [e] at hj <;> simp at hj <;> omega
    rcases hj' with rfl | rfl
    · refine wpOp_call hc hw (hrun w) ((hcon w hT).mono ?_)
      rintro e w' ⟨v, rfl, _, hT'⟩
      exact ⟨v, rfl, hTS' v w' hT', next v none w' hT' trivial⟩
    · refine wpOp_value hi (by simp [Region.wanted, hmk.1]) (hmk.2 a.eval w) ⟨hTS _ (hU _ _ hT (alloc_below w obj)), ?_⟩
      exact hsome w.heap.size (w.alloc obj) (hU _ _ hT (alloc_below w obj)) ⟨hb w hT, alloc_new w obj⟩

/-- an operation that makes memory -/
theorem fl_make {i c : Nat} {d e' : Option Tmp} {oi oc : Oper} {obj : Obj} {base f : Nat} {T : World → Prop} {T' : Value → World → Prop} {L : Array Bool} {a : Act}
    (hi : ops[i]? = some oi) (hdd : oi.dst = d) (hmk : Makes P oi obj) (hb : ∀ w, T w → base ≤ w.heap.size) (hU : Up T) (hTS : ∀ w, T w → S w)
    (hc : ops[c]? = some oc) (hce : oc.dst = e') (hsel : Region.noSelect ops = true) (hr0 : Region.ready md ops L = [c, i] ∨ Region.ready md ops L = [i, c]) (hr1 : Region.ready md ops (L.setIfInBounds i true) = [c]) (hci : c ≠ i) (hap : oi.apart ops oc = true)
    (hw : Region.wanted oc (yielded ops a.tmps) = true) (hrun : ∀ w, T w → ∃ v w', (execOp a.eval oc).run P w = .ok (.value v) w' ∧ KpF base w w' ∧ T' v w') (hTS' : ∀ v w, T' v w → S w)
    (next : ∀ v, Fl P md ops Q S i d obj base (T' v) f (L.setIfInBounds c true) (a.put e' v)) : Fl P md ops Q S i d obj base T (f + 1) L a := by
  subst hdd
  subst hce
  obtain ⟨h1, h2, _⟩ := Oper.apart_spec hap
  have hs : ∀ cs b, oc.op ≠ .select cs b := fun cs b => Region.noSelect_spec hsel c oc cs b hc
  have hsome : ∀ N w, T w → flI obj base w (some N) → wpAnyH P md ops Q S (f + 1) (L.setIfInBounds i true) (a.put oi.dst (flP N)) w := fun N w hT hI => by
    refine ⟨fun h => (by rw [hr1] at h; cases h), fun j hj => ?_⟩
    rw [hr1] at hj
    obtain rfl : j = c := by simpa using hj
    obtain ⟨v, w', hr, hbe, hT'⟩ := hrun w hT
    refine wpOp_value hc (by rw [wanted_put oc a oi.dst _ h1]; exact hw) (by rw [execOp_put oc hs a oi.dst _ h1]; exact hr) ⟨hTS' v w' hT', ?_⟩
    have := next v (some N) w' hT' ⟨hI.1, (hbe N hI.1 (Array.getElem?_eq_some_iff.1 hI.2).1).trans hI.2⟩
    rw [Act.put_comm a (flP N) v h2, Array.setIfInBounds_comm _ _ (Ne.symm hci)]
    exact this
  intro al w hT hI
  cases al with
  | some N => exact hsome N w hT hI
  | none =>
    show wpAnyH P md ops Q S (f + 1 + 1) L a w
    refine ⟨fun h => (by rcases hr0 with e | e <;> rw [e] at h <;> cases h), fun j hj => ?_⟩
    have hj' : j = c ∨ j = i := by rcases hr0 with e | e <;> rw [e] at hj <;> simp at hj <;> omega
    rcases hj' with rfl | rfl
    · obtain ⟨v, w', hr, _, hT'⟩ := hrun w hT
      exact wpOp_value hc hw hr ⟨hTS' v w' hT', next v none w' hT' trivial⟩
    · refine wpOp_value hi (by simp [Region.wanted, hmk.1]) (hmk.2 a.eval w) ⟨hTS _ (hU _ _ hT (alloc_below w obj)), ?_⟩
      exact hsome w.heap.size (w.alloc obj) (hU _ _ hT (alloc_below w obj)) ⟨hb w hT, alloc_new w obj⟩

/-- a call whose answer is known and that makes memory at most -/
theorem fl_call_v {i c : Nat} {d e' : Option Tmp} {oi oc : Oper} {obj : Obj} {base f : Nat} {T : World → Prop} {v : Value} {L : Array Bool} {a : Act} {fn : FuncId} {args : Array Value}
    (hi : ops[i]? = some oi) (hdd : oi.dst = d) (hmk : Makes P oi obj) (hb : ∀ w, T w → base ≤ w.heap.size) (hU : Up T) (hTS : ∀ w, T w → S w)
    (hc : ops[c]? = some oc) (hce : oc.dst = e') (hsel : Region.noSelect ops = true) (hr0 : Region.ready md ops L = [c, i] ∨ Region.ready md ops L = [i, c]) (hr1 : Region.ready md ops (L.setIfInBounds i true) = [c]) (hci : c ≠ i) (hap : oi.apart ops oc = true)
    (hw : Region.wanted oc (yielded ops a.tmps) = true) (hrun : ∀ w, (execOp a.eval oc).run P w = .ok (.enter fn args) w)
    (hcon : ∀ w, T w → Calls P fn args w fun e w' => e = .returned v ∧ Below w.heap.size w w')
    (next : Fl P md ops Q S i d obj base T f (L.setIfInBounds c true) (a.put e' v)) : Fl P md ops Q S i d obj base T (f + 1) L a :=
  fl_call (T' := fun v' w => v' = v ∧ T w) hi hdd hmk hb hU hTS hc hce hsel hr0 hr1 hci hap hw hrun (fun w hT => (hcon w hT).mono fun _ w' ⟨he, hbe⟩ => ⟨v, he, KpF.below hbe, rfl, hU _ _ hT hbe⟩) (fun _ w h => hTS w h.2) (fun _ al w h hI => by obtain ⟨rfl, hT⟩ := h; exact next al w hT hI)

theorem fl_ex {α : Type} {i : Nat} {d : Option Tmp} {obj : Obj} {base f : Nat} {R : α → World → Prop} {L : Array Bool} {a : Act} (h : ∀ x, Fl P md ops Q S i d obj base (R x) f L a) : Fl P md ops Q S i d obj base (fun w => ∃ x, R x w) f L a := fun al w hT hI => by obtain ⟨x, hx⟩ := hT; exact h x al w hx hI
theorem fl_and {p : Prop} {i : Nat} {d : Option Tmp} {obj : Obj} {base f : Nat} {R : World → Prop} {L : Array Bool} {a : Act} (h : p → Fl P md ops Q S i d obj base R f L a) : Fl P md ops Q S i d obj base (fun w => p ∧ R w) f L a := fun al w hT hI => h hT.1 al w hT.2 hI

theorem fl_take {i j : Nat} {d e' : Option Tmp} {oi oj : Oper} {v : Value} {obj : Obj} {base f : Nat} {T : World → Prop} {L : Array Bool} {a : Act} (_ : ops[i]? = some oi) (hdd : oi.dst = d) (hj : ops[j]? = some oj) (hje : oj.dst = e') (hsel : Region.noSelect ops = true)
    (hf0 : Region.free md ops L j = true) (hf1 : Region.free md ops (L.setIfInBounds i true) j = true) (hr0 : (Region.ready md ops L).contains j = true) (hr1 : (Region.ready md ops (L.setIfInBounds i true)).contains j = true) (hji : j ≠ i) (hap : oi.apart ops oj = true)
    (hQ : ∀ c a w, Q (.panic c) (a.put e' v) w → Q (.panic c) a w) (hTS : ∀ w, T w → S w) (hy : YieldsIf P ops S oj v a)
    (next : Fl P md ops Q S i d obj base T f (L.setIfInBounds j true) (a.put e' v)) : Fl P md ops Q S i d obj base T (f + 1) L a := by
  subst hdd
  subst hje
  obtain ⟨h1, h2, _⟩ := Oper.apart_spec hap
  have hs : ∀ cs b, oj.op ≠ .select cs b := fun cs b => Region.noSelect_spec hsel j oj cs b hj
  intro al w hT hI
  cases al with
  | none => exact wpAnyH_take hj hsel hf0 hr0 hQ hy (hTS w hT) (next none w hT trivial)
  | some N =>
    show wpAnyH P md ops Q S (f + 1) (L.setIfInBounds i true) (a.put oi.dst (flP N)) w
    refine wpAnyH_take (v := v) hj hsel hf1 hr1 hQ (hy.of_same (execOp_put oj hs a oi.dst _ h1) (wanted_put oj a oi.dst _ h1)) (hTS w hT) ?_
    have := next (some N) w hT hI
    rw [Act.put_comm a (flP N) v h2, Array.setIfInBounds_comm _ _ (Ne.symm hji)]
    exact this

theorem fl_end {i s : Nat} {d : Option Tmp} {oi os : Oper} {obj : Obj} {base f : Nat} {T : World → Prop} {L : Array Bool} {a : Act} {ty t : TypeId} {x y : Operand} {old cells : Array Value}
    (hi : ops[i]? = some oi) (hdd : oi.dst = d) (hmk : Makes P oi obj) (hb : ∀ w, T w → base ≤ w.heap.size) (hU : Up T) (hTS : ∀ w, T w → S w)
    (ho : ops[s]? = some os) (hg : os.guard = none) (hop : os.op = .store ty x y) (hd : os.dst = none) (hr0 : Region.ready md ops L = [i]) (hr1 : Region.ready md ops (L.setIfInBounds i true) = [s]) (hr2 : Region.ready md ops ((L.setIfInBounds i true).setIfInBounds s true) = [])
    (hx : ∀ N, (a.put d (flP N)).eval x = flP N) (hy : ∀ N, (a.put d (flP N)).eval y = .agg cells) (hobj : obj = .cells old t (0, 0)) (hsz : (P.info? ty).map (·.size) = some cells.size) (hold : old.size = cells.size) (h1 : cells.all (·.oneCell') = true)
    (fin : ∀ N w w', T w → base ≤ N → w.grownBy w' (some N) → w'.heap[N]? = some (.cells cells t (0, 0)) → N < w'.heap.size → S w' ∧ Q .normal (a.put d (flP N)) w') : Fl P md ops Q S i d obj base T (f + 1) L a := by
  subst hdd
  have hsome : ∀ N w, T w → flI obj base w (some N) → wpAnyH P md ops Q S (f + 1) (L.setIfInBounds i true) (a.put oi.dst (flP N)) w := fun N w hT hI => by
    refine ⟨fun h => (by rw [hr1] at h; cases h), fun j hj => ?_⟩
    rw [hr1] at hj
    obtain rfl : j = s := by simpa using hj
    have hI2 : w.heap[N]? = some (.cells old t (0, 0)) := by rw [← hobj]; exact hI.2
    obtain ⟨g1, g2, g3⟩ := setRow_grown (cells := cells) hI2
    have hf := fin N w _ hT hI.1 g1 g2 (by rw [g3]; exact (Array.getElem?_eq_some_iff.1 hI2).1)
    unfold wpOp
    simp only [ho]
    rw [if_pos (by simp [Region.wanted, hg])]
    refine Or.inl (wp_store_row ty x y hop N cells (hx N) (hy N) t old hI2 hsz hold h1 ?_)
    rw [hd]
    exact ⟨hf.1, wpAnyH_done hr2 hf.2 _⟩
  intro al w hT hI
  cases al with
  | some N => exact hsome N w hT hI
  | none =>
    show wpAnyH P md ops Q S (f + 1 + 1) L a w
    refine ⟨fun h => (by rw [hr0] at h; cases h), fun j hj => ?_⟩
    rw [hr0] at hj
    obtain rfl : j = i := by simpa using hj
    refine wpOp_value hi (by simp [Region.wanted, hmk.1]) (hmk.2 a.eval w) ⟨hTS _ (hU _ _ hT (alloc_below w obj)), ?_⟩
    exact hsome w.heap.size (w.alloc obj) (hU _ _ hT (alloc_below w obj)) ⟨hb w hT, alloc_new w obj⟩

/-- a call, where nothing else may come up -/
theorem h_call {c : Nat} {e' : Option Tmp} {oc : Oper} {f : Nat} {L : Array Bool} {a : Act} {w : World} {fn : FuncId} {args : Array Value} (hc : ops[c]? = some oc) (hce : oc.dst = e') (hr : Region.ready md ops L = [c])
    (hw : Region.wanted oc (yielded ops a.tmps) = true) (hrun : (execOp a.eval oc).run P w = .ok (.enter fn args) w)
    (h : Calls P fn args w fun e w' => ∃ v, e = .returned v ∧ S w' ∧ wpAnyH P md ops Q S f (L.setIfInBounds c true) (a.put e' v) w') : wpAnyH P md ops Q S (f + 1) L a w := by
  subst hce
  refine ⟨fun h0 => (by rw [hr] at h0; cases h0), fun j hj => ?_⟩
  rw [hr] at hj
  obtain rfl : j = c := by simpa using hj
  exact wpOp_call hc hw hrun h
/-- a store of a whole struct, where nothing else may come up -/
theorem h_store {s : Nat} {os : Oper} {f : Nat} {L : Array Bool} {a : Act} {w : World} {ty t : TypeId} {x y : Operand} {N : Nat} {old cells : Array Value} (ho : ops[s]? = some os) (hg : os.guard = none) (hop : os.op = .store ty x y) (hd : os.dst = none) (hr : Region.ready md ops L = [s])
    (hx : a.eval x = flP N) (hy : a.eval y = .agg cells) (hb : w.heap[N]? = some (.cells old t (0, 0))) (hsz : (P.info? ty).map (·.size) = some cells.size) (hold : old.size = cells.size) (h1 : cells.all (·.oneCell') = true)
    (h : ∀ w', w.grownBy w' (some N) → w'.heap[N]? = some (.cells cells t (0, 0)) → S w' ∧ wpAnyH P md ops Q S f (L.setIfInBounds s true) a w') : wpAnyH P md ops Q S (f + 1) L a w := by
  refine ⟨fun h0 => (by rw [hr] at h0; cases h0), fun j hj => ?_⟩
  rw [hr] at hj
  obtain rfl : j = s := by simpa using hj
  obtain ⟨g1, g2, _⟩ := setRow_grown (cells := cells) hb
  unfold wpOp
  simp only [ho]
  rw [if_pos (by simp [Region.wanted, hg])]
  refine Or.inl (wp_store_row ty x y hop N cells hx hy t old hb hsz hold h1 ?_)
  rw [hd]
  exact h _ g1 g2
/-- an operation that asks nothing of the world but S, taken first -/
theorem h_take {j : Nat} {e' : Option Tmp} {oj : Oper} {v : Value} {f : Nat} {L : Array Bool} {a : Act} {w : World} (hj : ops[j]? = some oj) (hje : oj.dst = e') (hsel : Region.noSelect ops = true) (hf : Region.free md ops L j = true) (hr : (Region.ready md ops L).contains j = true)
    (hQ : ∀ c a w, Q (.panic c) (a.put e' v) w → Q (.panic c) a w) (hy : YieldsIf P ops S oj v a) (hS : S w) (next : wpAnyH P md ops Q S f (L.setIfInBounds j true) (a.put e' v) w) : wpAnyH P md ops Q S (f + 1) L a w := by
  subst hje
  exact wpAnyH_take hj hsel hf hr hQ hy hS next
end

/- A store of a whole struct into its own block in a plain walk: the world behind it is named anew. -/
section
variable {P : Program} {ops : Array Oper} {rest : List Oper} {o : Oper} {a : Act} {w : World} {Q : Exit → Act → World → Prop}

theorem wpList_store_blk (hgd : o.guard = none) (ty : TypeId) (x y : Operand) (ho : o.op = .store ty x y) (g : Nat) (cells : Array Value) (hx : a.eval x = .pointer (some ⟨g, 0, none⟩)) (hy : a.eval y = .agg cells)
    (t : TypeId) (old : Array Value) (hg : w.heap[g]? = some (.cells old t (0, 0))) (hi : (P.info? ty).map (·.size) = some cells.size) (hold : old.size = cells.size) (h1 : cells.all (·.oneCell') = true)
    (h : ∀ w', w.grownBy w' (some g) → w'.heap[g]? = some (.cells cells t (0, 0)) → w'.heap.size = w.heap.size → wpList P ops Q rest (a.put o.dst undef) w') : wpList P ops Q (o :: rest) a w := by
  obtain ⟨g1, g2, g3⟩ := setRow_grown (cells := cells) hg
  exact wpList_store_row hgd ty x y ho g cells hx hy t old hg hi hold h1 (h _ g1 g2 g3)

end
end Go.Proofs.YtcfgfhodbjakoavGreatDoor

/-
  A struct stored into a part of a block, in a plain walk: the world behind it is named anew; cells of a block that is known.
-/
namespace Go.Proofs.YtcfgfhodbjakoavGreatDoor
open Go.RowKit

theorem blk_cell {w : World} {N : Nat} {cur : Array Value} {t : TypeId} {fz : Nat × Nat} (h : w.heap[N]? = some (.cells cur t fz)) (j : Nat) (v : Value) (hj : cur[j]? = some v) : w.cell? ⟨N, j, none⟩ = some v := by
  rw [cell_of_row _ N j _ _ _ h]; exact hj

theorem alloc2 (w : World) (A B : Obj) : ((w.alloc A).alloc B).heap[w.heap.size]? = some A ∧ ((w.alloc A).alloc B).heap[w.heap.size + 1]? = some B := by
  have e1 : (w.alloc A).heap.size = w.heap.size + 1 := by simp
  have a1 := alloc_new w A
  have a2 := alloc_new (w.alloc A) B
  have b1 := alloc_below (w.alloc A) B
  rw [e1] at a2 b1
  exact ⟨(b1.block _ (by omega)).trans a1, a2⟩
theorem alloc3 (w : World) (A B C : Obj) : (((w.alloc A).alloc B).alloc C).heap[w.heap.size]? = some A ∧ (((w.alloc A).alloc B).alloc C).heap[w.heap.size + 1]? = some B ∧ (((w.alloc A).alloc B).alloc C).heap[w.heap.size + 1 + 1]? = some C := by
  have e1 : (w.alloc A).heap.size = w.heap.size + 1 := by simp
  have e2 : ((w.alloc A).alloc B).heap.size = w.heap.size + 1 + 1 := by simp
  have a1 := alloc_new w A
  have a2 := alloc_new (w.alloc A) B
  have a3 := alloc_new ((w.alloc A).alloc B) C
  have b1 := alloc_below (w.alloc A) B
  have b2 := alloc_below ((w.alloc A).alloc B) C
  rw [e1] at a2 b1
  rw [e2] at a3 b2
  exact ⟨(b2.block _ (by omega)).trans ((b1.block _ (by omega)).trans a1), (b2.block _ (by omega)).trans a2, a3⟩

/-- cells o and on of a block, replaced -/
def partA (old : Array Value) (o : Nat) (cells : Array Value) : Array Value := (old.toList.take o ++ cells.toList ++ old.toList.drop (o + cells.size)).toArray

section
variable {P : Program} {ops : Array Oper} {rest : List Oper} {op : Oper} {a : Act} {w : World} {Q : Exit → Act → World → Prop}

theorem run_storeVar_part (w : World) (g o : Nat) (t ty : TypeId) (old cells : Array Value) (hg : w.heap[g]? = some (.cells old t (0, 0))) (hi : (P.info? ty).map (·.size) = some cells.size)
    (ho : o + cells.size ≤ old.size) (h1 : cells.all (·.oneCell') = true) :
    (storeVar ty ⟨g, o, none⟩ (.agg cells)).run P w = .ok () (w.setRow g (partA old o cells)) := by
  have := run_storeCells_at P g o t cells.toList 0 old w hg (by simp; omega) (fun v hv => (Array.all_eq_true_iff_forall_mem.1 h1) v (by simpa using hv))
  cases hq : P.info? ty with
  | none => simp [hq] at hi
  | some i =>
    have hs : cells.size = i.size := by simp [hq] at hi; omega
    simp [storeVar, sizeOf, typeInfo, hq, Value.cells, hs, this, partA]

theorem wpList_store_part (hgd : op.guard = none) (ty : TypeId) (x y : Operand) (ho : op.op = .store ty x y) (g o : Nat) (cells : Array Value) (hx : a.eval x = .pointer (some ⟨g, o, none⟩)) (hy : a.eval y = .agg cells)
    (t : TypeId) (old : Array Value) (hg : w.heap[g]? = some (.cells old t (0, 0))) (hi : (P.info? ty).map (·.size) = some cells.size) (hold : o + cells.size ≤ old.size) (h1 : cells.all (·.oneCell') = true) (new : Array Value) (hn : partA old o cells = new)
    (h : ∀ w', w.grownBy w' (some g) → w'.heap[g]? = some (.cells new t (0, 0)) → wpList P ops Q rest (a.put op.dst undef) w') : wpList P ops Q (op :: rest) a w := by
  subst hn
  obtain ⟨g1, g2, _⟩ := setRow_grown (cells := partA old o cells) hg
  refine wpList_plain hgd fun K hK => ?_
  unfold Oper.wp execOp
  simp only [ho, hx, hy, Instr.storeAt, Instr.sureAddr, Sem.run_bind, Sem.run_pure, Result.andThen_ok, run_storeVar_part w g o t ty old cells hg hi hold h1]
  exact hK _ _ (h _ g1 g2)

/-- one cell of a block -/
theorem wpList_store_cell (hgd : op.guard = none) (ty : TypeId) (x y : Operand) (ho : op.op = .store ty x y) (g o : Nat) (u : Value) (hx : a.eval x = .pointer (some ⟨g, o, none⟩)) (hy : a.eval y = u)
    (t : TypeId) (old : Array Value) (hg : w.heap[g]? = some (.cells old t (0, 0))) (hi : (P.info? ty).map (·.size) = some 1) (hold : o < old.size) (h1 : u.oneCell' = true) (new : Array Value) (hn : old.setIfInBounds o u = new)
    (h : ∀ w', w.grownBy w' (some g) → w'.heap[g]? = some (.cells new t (0, 0)) → wpList P ops Q rest (a.put op.dst undef) w') : wpList P ops Q (op :: rest) a w := by
  subst hn
  refine wpList_plain hgd fun K hK => ?_
  have hcell : w.cell? ⟨g, o, none⟩ = some old[o] := by rw [cell_of_row _ g o _ _ _ hg]; simp [hold]
  have hfro := frozen_of_row _ g o _ _ hg
  have hrun : (storeVar ty ⟨g, o, none⟩ u).run P w = .ok () (w.setCell ⟨g, o, none⟩ u) := by
    cases hq : P.info? ty with
    | none => simp [hq] at hi
    | some i =>
      have hsz : i.size = 1 := by simpa [hq] using hi
      have huc : u.cells = #[u] := by cases u <;> first | rfl | simp [Value.oneCell'] at h1
      have hadd : (⟨g, o, none⟩ : Addr).add 0 = ⟨g, o, none⟩ := by unfold Addr.add; split <;> simp_all
      simp [storeVar, sizeOf, typeInfo, hq, hsz, huc, storeCells, hadd, run_store P w _ u _ h1, hcell, hfro]
  unfold Oper.wp execOp
  simp only [ho, hx, hy, Instr.storeAt, Instr.sureAddr, Sem.run_bind, Sem.run_pure, Result.andThen_ok, hrun]
  exact hK _ _ (h _ ⟨rfl, rfl, rfl, by simp, fun k _ hk => heap_setCell_other w ⟨g, o, none⟩ k u (fun e => hk (by simp [e]))⟩ (heap_setCell_same w g o old t u hg))

end
end Go.Proofs.YtcfgfhodbjakoavGreatDoor

/-
  Rows of structs in memory: m cells an element, as a function of the element tells them.
-/
namespace Go.Proofs.YtcfgfhodbjakoavGreatDoor
open Go.RowKit

section
variable {α : Type} {f : α → List Value} {m : Nat}

def flatR (f : α → List Value) (xs : List α) : List Value := xs.flatMap f
theorem flatR_len (hm : ∀ x, (f x).length = m) (xs : List α) : (flatR f xs).length = xs.length * m := by
  induction xs with
  | nil => simp [flatR]
  | cons x xs ih =>
    have e : flatR f (x :: xs) = f x ++ flatR f xs := rfl
    rw [e, List.length_append, hm, ih, List.length_cons, Nat.add_mul]; omega
theorem flatR_append (xs ys : List α) : flatR f (xs ++ ys) = flatR f xs ++ flatR f ys := by simp [flatR]
theorem flatR_at (hm : ∀ x, (f x).length = m) : ∀ (xs : List α) i (h : i < xs.length) j, j < m → (flatR f xs)[i * m + j]? = (f xs[i])[j]? := by
  intro xs
  induction xs with
  | nil => intro i h; simp at h
  | cons x xs ih =>
    intro i h j hj
    have e : flatR f (x :: xs) = f x ++ flatR f xs := rfl
    rw [e]
    cases i with
    | zero => rw [Nat.zero_mul, Nat.zero_add, List.getElem?_append_left (by rw [hm]; exact hj)]; rfl
    | succ i =>
      have h' : i < xs.length := by simpa using h
      have e2 : (i + 1) * m + j = (f x).length + (i * m + j) := by rw [hm, Nat.add_mul]; omega
      rw [e2, List.getElem?_append_right (by omega), Nat.add_sub_cancel_left, ih i h' j hj]; rfl

/-- a row that can be read: these elements -/
def RowsR (w : World) (v : Value) (m : Nat) (f : α → List Value) (xs : List α) : Prop :=
  ∃ a cap, v = .slice a xs.length cap ∧ (0 < xs.length → ∃ g off, a = some ⟨g, off, none⟩ ∧ g < w.heap.size ∧
    ∀ i (h : i < xs.length) j, j < m → w.cell? ⟨g, off + i * m + j, none⟩ = (f xs[i])[j]?)
theorem RowsR.below {w w' : World} {v : Value} {xs : List α} (h : RowsR w v m f xs) (hb : Below w.heap.size w w') : RowsR w' v m f xs := by
  obtain ⟨a, cap, rfl, hr⟩ := h
  refine ⟨a, cap, rfl, fun hl => ?_⟩
  obtain ⟨g, off, rfl, hg, hc⟩ := hr hl
  refine ⟨g, off, rfl, Nat.lt_of_lt_of_le hg hb.size, fun i hi j hj => ?_⟩
  rw [hb.cell (by exact hg)]
  exact hc i hi j hj

/-- a row that the call made can be read -/
theorem rows_of_own (hm : ∀ x, (f x).length = m) {w : World} {base : Nat} {e : TypeId} {v : Value} {xs : List α} (h : w.ownsRow base e m v xs.length (flatR f xs)) : RowsR w v m f xs := by
  obtain ⟨hl, ⟨rfl, h0⟩ | ⟨g, cap, cur, rfl, hb, hh, hn, hc, hs, ht⟩⟩ := h
  · exact ⟨none, 0, by rw [h0], fun hp => by omega⟩
  · refine ⟨_, cap, rfl, fun _ => ⟨g, 0, rfl, ?_, fun i hi j hj => ?_⟩⟩
    · rcases Nat.lt_or_ge g w.heap.size with h | h
      · exact h
      · rw [Array.getElem?_eq_none h] at hh; cases hh
    · have hf := flatR_at hm xs i hi j hj
      have hlt : i * m + j < xs.length * m := by
        have := Nat.mul_le_mul_right m (show i + 1 ≤ xs.length from hi)
        rw [Nat.add_mul] at this; omega
      rw [← ht, List.getElem?_take_of_lt hlt] at hf
      rw [cell_of_row w g _ cur _ _ hh]
      simpa using hf

/-- as far as place k the row ys is the elements xs -/
def upToR (f : α → List Value) (m : Nat) (xs : List α) (ys : List Value) (k : Nat) : Prop := ys.length = xs.length * m ∧ ∀ j, j < k * m → ys[j]? = (flatR f xs)[j]?
theorem upToR_zero {xs : List α} {ys : List Value} (h : ys.length = xs.length * m) : upToR f m xs ys 0 := ⟨h, fun j hj => by omega⟩
theorem upToR_all (hm : ∀ x, (f x).length = m) {xs : List α} {ys : List Value} (h : upToR f m xs ys xs.length) : ys = flatR f xs := by
  apply List.ext_getElem?
  intro j
  by_cases hj : j < xs.length * m
  · exact h.2 j hj
  · rw [List.getElem?_eq_none (by rw [h.1]; omega), List.getElem?_eq_none (by rw [flatR_len hm]; omega)]
/-- one more element has been set, whatever else stands behind it -/
theorem upToR_step (hm : ∀ x, (f x).length = m) {xs : List α} {ys zs : List Value} {k : Nat} (h : upToR f m xs ys k) (hk : k < xs.length) (hl : zs.length = ys.length)
    (hold : ∀ j, j < k * m → zs[j]? = ys[j]?) (hnew : ∀ j, j < m → zs[k * m + j]? = (f xs[k])[j]?) : upToR f m xs zs (k + 1) := by
  refine ⟨by rw [hl, h.1], fun j hj => ?_⟩
  by_cases h1 : j < k * m
  · rw [hold j h1]; exact h.2 j h1
  · have e : j = k * m + (j - k * m) := by omega
    have hj2 : j - k * m < m := by rw [Nat.add_mul] at hj; omega
    rw [e, hnew _ hj2, flatR_at hm xs k hk _ hj2]
end

/-- a cell of a row of the call's own, and what may be done with it -/
theorem own_cell {w : World} {base g n cap m : Nat} {e : TypeId} {xs : List Value} (h : w.ownsRow base e m (.slice (some ⟨g, 0, none⟩) n cap) n xs) (k : Nat) (hk : k < n * m) :
    w.cell? ⟨g, k, none⟩ = xs[k]? ∧ w.frozen? ⟨g, k, none⟩ = false := ⟨h.cellAt _ hk, h.frozenAt _⟩

/-- three cells of a row of the call's own, set one behind the other -/
theorem own_three {w : World} {base g n cap : Nat} {e : TypeId} {xs : List Value} (h : w.ownsRow base e 3 (.slice (some ⟨g, 0, none⟩) n cap) n xs) (k : Nat) (hk : k < n) (a b c : Value) :
    ∃ u0 u1 u2, (w.cell? ⟨g, k * 3, none⟩ = some u0 ∧ w.frozen? ⟨g, k * 3, none⟩ = false) ∧ (w.cell? ⟨g, k * 3 + 1, none⟩ = some u1 ∧ (w.setCell ⟨g, k * 3, none⟩ a).cell? ⟨g, k * 3 + 1, none⟩ = some u1 ∧ (w.setCell ⟨g, k * 3, none⟩ a).frozen? ⟨g, k * 3 + 1, none⟩ = false) ∧
      (w.cell? ⟨g, k * 3 + 2, none⟩ = some u2 ∧ ((w.setCell ⟨g, k * 3, none⟩ a).setCell ⟨g, k * 3 + 1, none⟩ b).cell? ⟨g, k * 3 + 2, none⟩ = some u2 ∧ ((w.setCell ⟨g, k * 3, none⟩ a).setCell ⟨g, k * 3 + 1, none⟩ b).frozen? ⟨g, k * 3 + 2, none⟩ = false) ∧
      (((w.setCell ⟨g, k * 3, none⟩ a).setCell ⟨g, k * 3 + 1, none⟩ b).setCell ⟨g, k * 3 + 2, none⟩ c).ownsRow base e 3 (.slice (some ⟨g, 0, none⟩) n cap) n (((xs.set (k * 3) a).set (k * 3 + 1) b).set (k * 3 + 2) c) ∧
      w.grownBy (((w.setCell ⟨g, k * 3, none⟩ a).setCell ⟨g, k * 3 + 1, none⟩ b).setCell ⟨g, k * 3 + 2, none⟩ c) (some g) := by
  have hl := h.1
  have b0 : k * 3 < xs.length := by omega
  have b1 : k * 3 + 1 < xs.length := by omega
  have b2 : k * 3 + 2 < xs.length := by omega
  have s0 := h.stored (k * 3) a
  have s1 := s0.1.stored (k * 3 + 1) b
  have s2 := s1.1.stored (k * 3 + 2) c
  refine ⟨xs[k * 3], xs[k * 3 + 1], xs[k * 3 + 2], ⟨?_, h.frozenAt _⟩, ⟨?_, ?_, s0.1.frozenAt _⟩, ⟨?_, ?_, s1.1.frozenAt _⟩, s2.1, grown_trans (grown_trans s0.2 s1.2) s2.2⟩
  · rw [h.cellAt _ (by omega), List.getElem?_eq_getElem b0]
  · rw [h.cellAt _ (by omega), List.getElem?_eq_getElem b1]
  · rw [s0.1.cellAt _ (by omega), List.getElem?_set_ne (by omega), List.getElem?_eq_getElem b1]
  · rw [h.cellAt _ (by omega), List.getElem?_eq_getElem b2]
  · rw [s1.1.cellAt _ (by omega), List.getElem?_set_ne (by omega), List.getElem?_set_ne (by omega), List.getElem?_eq_getElem b2]

/-- a slice is a slice of this many -/
theorem own_form {w : World} {base n m : Nat} {e : TypeId} {v : Value} {xs : List Value} (h : w.ownsRow base e m v n xs) : ∃ a cap, v = .slice a n cap ∧ (0 < n → ∃ g, a = some ⟨g, 0, none⟩) := by
  obtain ⟨hl, ⟨rfl, h0⟩ | ⟨g, cap, cur, rfl, _⟩⟩ := h
  · exact ⟨none, 0, by rw [h0], fun hp => by omega⟩
  · exact ⟨_, cap, rfl, fun _ => ⟨g, rfl⟩⟩

/-- a number, one cell -/
def intF (n : Int) : List Value := [.int .i64 n]
theorem intF_len (n : Int) : (intF n).length = 1 := rfl
theorem flat_int (xs : List Int) : flatR intF xs = xs.map (Value.int .i64) := by
  induction xs with
  | nil => rfl
  | cons x xs ih => simp [flatR, intF] at ih ⊢; exact ih

/-- a row that was made later lies elsewhere -/
theorem own_ne {w1 w2 : World} {b1 b2 : Nat} {e1 e2 : TypeId} {m1 m2 n1 n2 : Nat} {v1 v2 : Value} {xs1 xs2 : List Value} (h1 : w1.ownsRow b1 e1 m1 v1 n1 xs1) (h2 : w2.ownsRow b2 e2 m2 v2 n2 xs2) (h : w1.heap.size ≤ b2) : v2.ownBlock = none ∨ v2.ownBlock ≠ v1.ownBlock := by
  cases e : v2.ownBlock with
  | none => exact Or.inl rfl
  | some g =>
    refine Or.inr fun he => ?_
    have l2 := (h2.lt g e).1
    have l1 := (h1.lt g he.symm).2
    omega
theorem own_ne' {w1 w2 : World} {b1 b2 : Nat} {e1 e2 : TypeId} {m1 m2 n1 n2 : Nat} {v1 v2 : Value} {xs1 xs2 : List Value} (h1 : w1.ownsRow b1 e1 m1 v1 n1 xs1) (h2 : w2.ownsRow b2 e2 m2 v2 n2 xs2) (h : w1.heap.size ≤ b2) : v1.ownBlock = none ∨ v1.ownBlock ≠ v2.ownBlock := by
  cases e : v1.ownBlock with
  | none => exact Or.inl rfl
  | some g =>
    refine Or.inr fun he => ?_
    have l2 := (h2.lt g he.symm).1
    have l1 := (h1.lt g e).2
    omega
theorem one_int (x : Int) : ∀ u ∈ ([.int .i64 x] : List Value), u.oneCell' = true := by
  intro u hu; simp at hu; subst hu; rfl

/-- a block of three cells, written cell by cell -/
theorem blk_three {w : World} {N : Nat} {u0 u1 u2 : Value} {t : TypeId} (h : w.heap[N]? = some (.cells #[u0, u1, u2] t (0, 0))) (a b c : Value) :
    (w.cell? ⟨N, 0, none⟩ = some u0 ∧ w.frozen? ⟨N, 0, none⟩ = false) ∧ ((w.setCell ⟨N, 0, none⟩ a).cell? ⟨N, 1, none⟩ = some u1 ∧ (w.setCell ⟨N, 0, none⟩ a).frozen? ⟨N, 1, none⟩ = false) ∧
      (((w.setCell ⟨N, 0, none⟩ a).setCell ⟨N, 1, none⟩ b).cell? ⟨N, 2, none⟩ = some u2 ∧ ((w.setCell ⟨N, 0, none⟩ a).setCell ⟨N, 1, none⟩ b).frozen? ⟨N, 2, none⟩ = false) ∧
      (((w.setCell ⟨N, 0, none⟩ a).setCell ⟨N, 1, none⟩ b).setCell ⟨N, 2, none⟩ c).heap[N]? = some (.cells #[a, b, c] t (0, 0)) ∧
      w.grownBy (((w.setCell ⟨N, 0, none⟩ a).setCell ⟨N, 1, none⟩ b).setCell ⟨N, 2, none⟩ c) (some N) := by
  have h0 : (w.setCell ⟨N, 0, none⟩ a).heap[N]? = some (.cells #[a, u1, u2] t (0, 0)) := heap_setCell_same w N 0 _ t a h
  have h1 : ((w.setCell ⟨N, 0, none⟩ a).setCell ⟨N, 1, none⟩ b).heap[N]? = some (.cells #[a, b, u2] t (0, 0)) := heap_setCell_same _ N 1 _ t b h0
  have h2 : (((w.setCell ⟨N, 0, none⟩ a).setCell ⟨N, 1, none⟩ b).setCell ⟨N, 2, none⟩ c).heap[N]? = some (.cells #[a, b, c] t (0, 0)) := heap_setCell_same _ N 2 _ t c h1
  refine ⟨⟨?_, frozen_of_row w N 0 _ _ h⟩, ⟨?_, frozen_of_row _ N 1 _ _ h0⟩, ⟨?_, frozen_of_row _ N 2 _ _ h1⟩, h2, grown_trans (grown_trans (set_grown w N 0 a) (set_grown _ N 1 b)) (set_grown _ N 2 c)⟩
  · rw [cell_of_row w N 0 _ _ (0, 0) h]; rfl
  · rw [cell_of_row _ N 1 _ _ (0, 0) h0]; rfl
  · rw [cell_of_row _ N 2 _ _ (0, 0) h1]; rfl

theorem own_far {w : World} {base B m n : Nat} {v : Value} {xs : List Value} {e : TypeId} (h : w.ownsRow base e m v n xs) (hB : B < base) : v.ownBlock = none ∨ v.ownBlock ≠ some B := by
  cases e0 : v.ownBlock with
  | none => exact .inl rfl
  | some k => right; intro e; have := (h.lt k e0).1; have := Option.some.inj e; omega

end Go.Proofs.YtcfgfhodbjakoavGreatDoor

/-
  An element of a row of structs stored as a whole, in a plain walk: the world behind it is named anew.
-/
namespace Go.Proofs.YtcfgfhodbjakoavGreatDoor
open Go.RowKit

theorem hid {p : Prop} (h : p) : Hid p := h

/-- cells k * m and on of a row, replaced -/
def setEl (xs : List Value) (k m : Nat) (cs : List Value) : List Value := xs.take (k * m) ++ cs ++ xs.drop (k * m + m)

theorem take_three (A B C : List Value) (N : Nat) (h : A.length + B.length ≤ N) : (A ++ B ++ C).take N = A ++ B ++ C.take (N - (A.length + B.length)) := by
  rw [List.take_append, List.take_of_length_le (by rw [List.length_append]; exact h), List.length_append]

theorem own_part {w w' : World} {base g n cap m : Nat} {e : TypeId} {xs : List Value} {cur : Array Value}
    (h : w.ownsRow base e m (.slice (some ⟨g, 0, none⟩) n cap) n xs) (hcur : w.heap[g]? = some (.cells cur e (0, 0))) (k : Nat) (hk : k < n) (cells : Array Value) (hc : cells.size = m)
    (hg : w'.heap[g]? = some (.cells (partA cur (k * m) cells) e (0, 0))) : w'.ownsRow base e m (.slice (some ⟨g, 0, none⟩) n cap) n (setEl xs k m cells.toList) := by
  obtain ⟨hl, ⟨hv, _⟩ | ⟨g', cap', cur', hv, hb, hh, hn, hcm, hs, ht⟩⟩ := h
  · cases hv
  · injection hv with hv1 _ hv3
    injection hv1 with hv1
    injection hv1 with hv1
    subst hv1 hv3
    rw [hcur] at hh
    injection hh with hh
    injection hh with hh
    subst hh
    have hkm : k * m + m ≤ n * m := by have := Nat.mul_le_mul_right m (show k + 1 ≤ n from hk); rw [Nat.add_mul] at this; omega
    have hnc : n * m ≤ cap * m := Nat.mul_le_mul_right m hn
    have hcl : cells.toList.length = m := by simpa using hc
    refine ⟨?_, Or.inr ⟨g, cap, _, rfl, hb, hg, hn, hcm, ?_, ?_⟩⟩
    · unfold setEl; simp only [List.length_append, List.length_take, List.length_drop, hl, hcl]; omega
    · unfold partA; simp only [List.size_toArray, List.length_append, List.length_take, List.length_drop, Array.length_toList, hs, hcl, hc]; omega
    · unfold partA setEl
      rw [List.toList_toArray, hc, ← ht]
      have e1 : (cur.toList.take (n * m)).take (k * m) = cur.toList.take (k * m) := by rw [List.take_take]; congr 1; omega
      have e2 : (cur.toList.take (n * m)).drop (k * m + m) = (cur.toList.drop (k * m + m)).take (n * m - (k * m + m)) := by rw [List.drop_take]
      have l1 : (cur.toList.take (k * m)).length = k * m := by rw [List.length_take, Array.length_toList, hs]; omega
      rw [e1, e2, take_three _ _ _ _ (by rw [l1, hcl]; exact hkm), l1, hcl]

theorem upToR_part {α : Type} {f : α → List Value} {m : Nat} (hm : ∀ x, (f x).length = m) {l : List α} {xs : List Value} {k : Nat} (h : upToR f m l xs k) (hk : k < l.length) : upToR f m l (setEl xs k m (f l[k])) (k + 1) := by
  have hkm : k * m + m ≤ l.length * m := by have := Nat.mul_le_mul_right m (show k + 1 ≤ l.length from hk); rw [Nat.add_mul] at this; omega
  have l1 : (xs.take (k * m)).length = k * m := by rw [List.length_take, h.1]; omega
  have l2 := hm l[k]
  refine upToR_step hm h hk ?_ (fun j hj => ?_) (fun j hj => ?_)
  · unfold setEl; simp only [List.length_append, List.length_take, List.length_drop, h.1, l2]; omega
  · unfold setEl; rw [List.append_assoc, List.getElem?_append_left (by omega), List.getElem?_take_of_lt hj]
  · unfold setEl; rw [List.append_assoc, List.getElem?_append_right (by omega), l1, Nat.add_sub_cancel_left, List.getElem?_append_left (by omega)]

section
variable {P : Program} {ops : Array Oper} {rest : List Oper} {op : Oper} {a : Act} {w : World} {Q : Exit → Act → World → Prop}

theorem wpList_store_elem (hgd : op.guard = none) (ty : TypeId) (x y : Operand) (ho : op.op = .store ty x y) (base : Nat) (e : TypeId) (m n cap g k o : Nat) (cells : Array Value) (xs : List Value) (hx : a.eval x = .pointer (some ⟨g, o, none⟩)) (hok : o = k * m) (hy : a.eval y = .agg cells)
    (hown : w.ownsRow base e m (.slice (some ⟨g, 0, none⟩) n cap) n xs) (hk : k < n) (hi : (P.info? ty).map (·.size) = some cells.size) (hc : cells.size = m) (h1 : cells.all (·.oneCell') = true)
    (h : ∀ w', w.grownBy w' (some g) → w'.ownsRow base e m (.slice (some ⟨g, 0, none⟩) n cap) n (setEl xs k m cells.toList) → wpList P ops Q rest (a.put op.dst undef) w') : wpList P ops Q (op :: rest) a w := by
  subst hok
  have hown' := hown
  obtain ⟨hl, ⟨hv, _⟩ | ⟨g', cap', cur', hv, hb, hh, hn, hcm, hs, ht⟩⟩ := hown
  · cases hv
  · injection hv with hv1 _ hv3
    injection hv1 with hv1
    injection hv1 with hv1
    subst hv1 hv3
    have hkm : k * m + m ≤ n * m := by have := Nat.mul_le_mul_right m (show k + 1 ≤ n from hk); rw [Nat.add_mul] at this; omega
    have hnc : n * m ≤ cap * m := Nat.mul_le_mul_right m hn
    refine wpList_store_part hgd ty x y ho g (k * m) cells hx hy e cur' hh hi (by omega) h1 _ rfl fun w' hg hw => ?_
    exact h w' hg (own_part hown' hh k hk cells hc hw)

/-- one cell of a row -/
theorem wpList_store_own (hgd : op.guard = none) (ty : TypeId) (x y : Operand) (ho : op.op = .store ty x y) (base : Nat) (e : TypeId) (m n cap g o : Nat) (u : Value) (xs : List Value) (hx : a.eval x = .pointer (some ⟨g, o, none⟩)) (hy : a.eval y = u)
    (hown : w.ownsRow base e m (.slice (some ⟨g, 0, none⟩) n cap) n xs) (hk : o < n * m) (hi : (P.info? ty).map (·.size) = some 1) (h1 : u.oneCell' = true)
    (h : ∀ w', w.grownBy w' (some g) → w'.ownsRow base e m (.slice (some ⟨g, 0, none⟩) n cap) n (xs.set o u) → wpList P ops Q rest (a.put op.dst undef) w') : wpList P ops Q (op :: rest) a w := by
  have hs := hown.stored o u
  have hl := hown.1
  refine wpList_plain hgd fun K hK => ?_
  have hcell : w.cell? ⟨g, o, none⟩ = some xs[o] := by rw [hown.cellAt o hk, List.getElem?_eq_getElem]
  have hrun : (storeVar ty ⟨g, o, none⟩ u).run P w = .ok () (w.setCell ⟨g, o, none⟩ u) := by
    cases hq : P.info? ty with
    | none => simp [hq] at hi
    | some i =>
      have hsz : i.size = 1 := by simpa [hq] using hi
      have huc : u.cells = #[u] := by cases u <;> first | rfl | simp [Value.oneCell'] at h1
      have hadd : (⟨g, o, none⟩ : Addr).add 0 = ⟨g, o, none⟩ := by unfold Addr.add; split <;> simp_all
      simp [storeVar, sizeOf, typeInfo, hq, hsz, huc, storeCells, hadd, run_store P w _ u _ h1, hcell, hown.frozenAt o]
  unfold Oper.wp execOp
  simp only [ho, hx, hy, Instr.storeAt, Instr.sureAddr, Sem.run_bind, Sem.run_pure, Result.andThen_ok, hrun]
  exact hK _ _ (h _ hs.2 hs.1)
end

end Go.Proofs.YtcfgfhodbjakoavGreatDoor

/-
  A row of structs that came in, as the walks want it: each element by what a reader of its type tells.
-/
namespace Go.Proofs.YtcfgfhodbjakoavGreatDoor
open Go.ChangeShapes Go.WideShapes Go.ChangeAt Go.RowKit

theorem choose_rows {α : Type} {good : α → Prop} {Q : Nat → α → Prop} {n : Nat} (h : ∀ i, i < n → ∃ x, good x ∧ Q i x) : ∃ xs : List α, xs.length = n ∧ (∀ x ∈ xs, good x) ∧ ∀ i (hi : i < xs.length), Q i xs[i] := by
  induction n with
  | zero => exact ⟨[], rfl, fun x hx => (by cases hx), fun i hi => (by simp at hi)⟩
  | succ n ih =>
    obtain ⟨xs, hl, hg, hq⟩ := ih fun i hi => h i (by omega)
    obtain ⟨x, hx, hQ⟩ := h n (by omega)
    refine ⟨xs ++ [x], by simp [hl], fun y hy => ?_, fun i hi => ?_⟩
    · rcases List.mem_append.1 hy with h1 | h1
      · exact hg y h1
      · simp at h1; subst h1; exact hx
    · by_cases hin : i < xs.length
      · rw [List.getElem_append_left hin]; exact hq i hin
      · have hi' : i = xs.length := by simp at hi; omega
        subst hi'
        rw [List.getElem_append_right (Nat.le_refl _)]
        simp only [Nat.sub_self, List.getElem_cons_zero]
        rw [hl]; exact hQ

theorem rows_open {H : Type} {enc : TypeId × Value → H} {α : Type} {f : α → List Value} {m : Nat} {good : α → Prop} {W : World} {t e : TypeId} (ht : Tryz.prog.underlying t = some (.slice e)) (hm : Tryz.prog.cellsOf e = m) (hpos : 0 < m)
    (hrd : ∀ n cs x, DataW.trod enc Tryz.prog W 0 (fun _ => true) true n e cs = some x → ∃ y, cs = f y ∧ good y) {a : Option Addr} {len cap : Nat} {d : DataW H} {p : List MemPlace}
    (h : DataW.Trod enc Tryz.prog W 0 (fun _ => true) true t (.slice a len cap) d p) : ∃ xs : List α, xs.length = len ∧ RowsR W (.slice a len cap) m f xs ∧ xs.length ≤ maxLen ∧ ∀ x ∈ xs, good x := by
  obtain ⟨fuel, hf⟩ := h
  rcases Deep.open_slice ht hf with ⟨hcs, _⟩ | ⟨x, l, c, mm, n, D, Pl, hcs, _, hl, hcm, hmm, _, hx⟩
  · simp [Value.cells] at hcs
    obtain ⟨rfl, rfl, rfl⟩ := hcs
    exact ⟨[], rfl, ⟨none, 0, rfl, fun h => (by simp at h)⟩, Nat.zero_le _, fun c hc => (by cases hc)⟩
  · simp [Value.cells] at hcs
    obtain ⟨rfl, rfl, rfl⟩ := hcs
    have hlm : len ≤ mm := by rw [hmm]; simp; omega
    rw [hm] at hx
    obtain ⟨xs, hxl, hg, hq⟩ := choose_rows (n := len) (good := good) (Q := fun i y => ∀ j, j < m → (f y)[j]? ≠ none ∧ W.cell? ((x.add (i * m)).add j) = (f y)[j]?) fun i hi => by
      obtain ⟨cs', h1, h2⟩ := hx i (by omega)
      obtain ⟨y, rfl, hy⟩ := hrd _ _ _ h2
      obtain ⟨_, hlen, hcell⟩ := World.cells?_some h1
      refine ⟨y, hy, fun j hj => ?_⟩
      have hj' : j < (f y).length := by omega
      have := hcell j (by omega)
      rw [List.getElem?_eq_getElem hj'] at this ⊢
      exact ⟨by simp, this⟩
    refine ⟨xs, hxl, ⟨some x, cap, by rw [hxl], fun h0 => ?_⟩, by omega, hg⟩
    obtain ⟨b, off, spot⟩ := x
    have q0 := hq 0 (by omega) 0 hpos
    obtain ⟨u, hu⟩ := Option.ne_none_iff_exists'.1 q0.1
    have c0 := q0.2
    rw [hu] at c0
    have hspot : spot = none := by
      have := World.cell?_spot c0
      unfold Addr.add at this
      split at this <;> simp_all
    subst hspot
    have hp : ∀ k, (⟨b, off, none⟩ : Addr).add k = ⟨b, off + k, none⟩ := fun k => by unfold Addr.add; split <;> simp_all
    have hlt : b < W.heap.size := by have := World.block_lt_of_cell? W _ c0; rw [hp] at this; unfold Addr.add at this; split at this <;> simp_all
    refine ⟨b, off, rfl, hlt, fun i hi j hj => ?_⟩
    have := (hq i hi j hj).2
    rw [hp] at this
    have e2 : (⟨b, off + i * m, none⟩ : Addr).add j = ⟨b, off + i * m + j, none⟩ := by unfold Addr.add; split <;> simp_all
    rw [e2] at this
    exact this

end Go.Proofs.YtcfgfhodbjakoavGreatDoor

/-
  The contracts of the specification's functions on votes that take numbers alone: Faults, Quorum, LeaderOf, CountOf.
-/
namespace Go.Proofs.YtcfgfhodbjakoavGreatDoor
open Go.RowKit Num

theorem faults_s (n : Int) (w : World) (h0 : -9223372036854775808 ≤ n) (h1 : n ≤ 9223372036854775807) :
    Calls Tryz.prog 121 #[.int .i64 n] w fun e w' => e = .returned (.int .i64 (faultsT n)) ∧ w' = w := by
  by_cases h : n < 1
  · have HF : Hid (faultsT n = 0) := if_pos h
    go_enter Tryz.func121, Tryz.ntmps121
    go_wp2
    go_ret
    exact ⟨ret_int HF.out.symm, rfl⟩
  · have HF : Hid (faultsT n = (n - 1) / 3) := if_neg h
    go_enter Tryz.func121, Tryz.ntmps121
    go_wp2
    go_ret
    exact ⟨ret_int HF.out.symm, rfl⟩

theorem faults_le (n : Int) : 0 ≤ faultsT n ∧ (1 ≤ n → faultsT n < n) := by
  unfold faultsT
  split
  · exact ⟨Int.le_refl _, fun h => by omega⟩
  · exact ⟨by omega, fun h => by omega⟩
theorem faults_low {n : Int} (h : n < 1) : faultsT n = 0 := if_pos h

theorem quorum_s (n : Int) (w : World) (h0 : -9223372036854775808 ≤ n) (h1 : n ≤ 9223372036854775807) :
    Calls Tryz.prog 93 #[.int .i64 n] w fun e w' => e = .returned (.int .i64 (quorumT n)) ∧ w' = w := by
  obtain ⟨f, hf⟩ : ∃ f, f = faultsT n := ⟨_, rfl⟩
  have f0 : 0 ≤ f := by rw [hf]; exact (faults_le n).1
  have f1 : n - f ≤ 9223372036854775807 := by omega
  have f2 : -9223372036854775808 ≤ n - f := by
    by_cases h : n < 1
    · rw [hf, faults_low h]; omega
    · have := (faults_le n).2 (by omega); omega
  have HF : Hid (faultsT n = f) := hf.symm
  clear hf
  go_enter Tryz.func93, Tryz.ntmps93
  go_wp2_with fail
  refine (faults_s n w h0 h1).mono ?_
  rintro e w' ⟨rfl, hw⟩
  obtain rfl := hw.symm
  clear hw
  rw [HF.out]
  go_wp2
  go_ret
  exact ⟨ret_int (by unfold quorumT; rw [HF.out]), rfl⟩


theorem shr_bit {s : Int} (h : 0 ≤ s) (k : Nat) : (s / 2 ^ k).tmod 2 = bitT s k := by
  unfold bitT
  exact Int.tmod_eq_emod_of_nonneg (Int.ediv_nonneg h (Int.le_of_lt (Int.pow_pos (by omega))))
theorem shr_odd (s : Int) (k : Nat) : ((s / 2 ^ k).tmod 2 = 0) ↔ bitT s k = 0 := by
  unfold bitT
  rw [← Int.dvd_iff_tmod_eq_zero, ← Int.dvd_iff_emod_eq_zero]
theorem wrap64_fit {x : Int} (h0 : -9223372036854775808 ≤ x) (h1 : x ≤ 9223372036854775807) : wrap64 x = x := by unfold wrap64; omega

set_option maxHeartbeats 1000000 in
theorem count_s (s : Int) (w : World) (_ : -9223372036854775808 ≤ s) (h1 : s ≤ 9223372036854775807) :
    Calls Tryz.prog 92 #[.int .i64 s] w fun e w' => e = .returned (.int .i64 (countT s)) ∧ w' = w := by
  by_cases h : s < 0
  · have HF : Hid (countT s = 0) := if_pos h
    have h' : ¬ 0 ≤ s := by omega
    go_enter Tryz.func92, Tryz.ntmps92
    go_wp2
    go_loop [3, 4] (fun n i => n = .int .i64 0 ∧ i = .int .i64 0) (fun _ _ => 0)
    case atStart => exact ⟨rfl, rfl⟩
    case round =>
      obtain ⟨rfl, rfl⟩ := hrel
      go_wp2
      go_ret
      exact ⟨ret_int HF.out.symm, rfl⟩
  · have HF : Hid (countT s = cntTo s 7) := if_neg h
    have h' : 0 ≤ s := by omega
    go_enter Tryz.func92, Tryz.ntmps92
    go_wp2
    go_loop [3, 4] (fun n i => ∃ k : Nat, k ≤ 7 ∧ n = .int .i64 (cntTo s k) ∧ i = .int .i64 (k : Int)) (fun _ i => 7 - (intOf i).toNat)
    case atStart => exact ⟨0, by omega, rfl, rfl⟩
    case round =>
      obtain ⟨k, hk, rfl, rfl⟩ := hrel
      obtain ⟨c0, c1⟩ := cntTo_bounds s k
      by_cases hlt : (k : Int) < 7
      · have hb := bitT_cases s k
        have HW : Hid (wrap64 (cntTo s k + (s / 2 ^ k).tmod 2) = cntTo s (k + 1)) := (by rw [shr_bit h' k, wrap64_fit (by omega) (by omega)]; rfl : wrap64 (cntTo s k + (s / 2 ^ k).tmod 2) = cntTo s (k + 1))
        go_wp2
        go_round
        case rel => exact ⟨k + 1, by omega, by rw [HW.out], by simp⟩
        case measure => simp [intOf]; omega
      · have : k = 7 := by omega
        subst this
        go_wp2
        go_ret
        exact ⟨ret_int HF.out.symm, rfl⟩

end Go.Proofs.YtcfgfhodbjakoavGreatDoor

/-
  Votes in memory: four cells a vote; the contract of the specification's SignersOf.
-/
namespace Go.Proofs.YtcfgfhodbjakoavGreatDoor
open Go.RowKit Num

/-- a vote, four cells -/
def voteF (v : VT) : List Value := [.int .i64 v.1, .int .i64 v.2.1, .int .i64 v.2.2.1, .int .i64 v.2.2.2]
theorem voteF_len (v : VT) : (voteF v).length = 4 := rfl
/-- .. as a value -/
def voteV (v : VT) : Value := .agg #[.int .i64 v.1, .int .i64 v.2.1, .int .i64 v.2.2.1, .int .i64 v.2.2.2]
theorem voteF_one (v : VT) : ∀ u ∈ voteF v, u.oneCell' = true := by
  intro u hu; unfold voteF at hu; simp at hu; rcases hu with h | h | h | h <;> subst h <;> rfl

/-- one vote is such a one -/
def saidAt (x : VT) (p v b by' : Int) : Bool := decide (x.2.2.2 = by') && (decide (x.1 = p) && (decide (x.2.1 = v) && decide (x.2.2.1 = b)))
/-- none of the first m is such a one -/
def noneTo (l : List VT) (p v b by' : Int) (m : Nat) : Prop := ∀ j (h : j < l.length), j < m → saidAt l[j] p v b by' = false
theorem said_yes {l : List VT} {p v b by' : Int} {m : Nat} (h : m < l.length) (hs : saidAt l[m] p v b by' = true) : saidV l p v b by' = true := List.any_eq_true.2 ⟨l[m], List.getElem_mem h, hs⟩
theorem said_no {l : List VT} {p v b by' : Int} (h : noneTo l p v b by' l.length) : saidV l p v b by' = false := by
  refine List.any_eq_false.2 fun x hx => ?_
  obtain ⟨j, hj, rfl⟩ := List.mem_iff_getElem.1 hx
  have := h j hj hj
  unfold saidAt at this
  rw [this]; simp
theorem noneTo_next {l : List VT} {p v b by' : Int} {m : Nat} (h : noneTo l p v b by' m) (hm : ∀ hm : m < l.length, saidAt l[m] p v b by' = false) : noneTo l p v b by' (m + 1) := fun j hj hjm => by
  by_cases e : j = m
  · subst e; exact hm hj
  · exact h j hj (by omega)
theorem sigTo_yes {l : List VT} {p v b : Int} {k : Nat} (h : saidV l p v b (k : Int) = true) : sigTo l p v b (k + 1) = sigTo l p v b k + 2 ^ k := by show _ + (if _ then _ else _) = _; rw [if_pos h]
theorem sigTo_no {l : List VT} {p v b : Int} {k : Nat} (h : saidV l p v b (k : Int) = false) : sigTo l p v b (k + 1) = sigTo l p v b k := by show _ + (if _ then _ else _) = _; rw [if_neg (by rw [h]; decide)]; omega

theorem pow_seven {k : Nat} (h : k < 7) : (0 : Int) < 2 ^ k ∧ (2 : Int) ^ k ≤ 64 := by
  match k, h with
  | 0, _ => decide
  | 1, _ => decide
  | 2, _ => decide
  | 3, _ => decide
  | 4, _ => decide
  | 5, _ => decide
  | 6, _ => decide

set_option maxRecDepth 100000 in
set_option maxHeartbeats 4000000 in
theorem signers_s (l : List VT) (va : Value) (p v b : Int) (w : World) (ha : RowsR w va 4 voteF l) (hl : (l.length : Int) ≤ 1048576) :
    Calls Tryz.prog 67 #[va, .int .i64 p, .int .i64 v, .int .i64 b] w fun e w' => e = .returned (.int .i64 (signersT l p v b)) ∧ Below w.heap.size w w' := by
  obtain ⟨a, cap, rfl, hr⟩ := ha
  have HR : Hid (0 < l.length → _) := hr
  clear hr
  go_enter Tryz.func67, Tryz.ntmps67
  go_wp2
  go_loopw [9, 10] (fun n y wr => ∃ k : Nat, k ≤ 7 ∧ n = .int .i64 (sigTo l p v b k) ∧ y = .int .i64 (k : Int) ∧ Below w.heap.size w wr) (fun _ y _ => 7 - (intOf y).toNat)
  case atStart => exact ⟨0, by omega, rfl, rfl, Below.refl _ _⟩
  case round =>
    obtain ⟨k, hk, rfl, rfl, hbel⟩ := hrel
    obtain ⟨s0, s1⟩ := sigTo_bounds l p v b k
    have hpw : k < 7 → (0 : Int) < 2 ^ k ∧ (2 : Int) ^ k ≤ 64 := pow_seven
    obtain ⟨s, hs⟩ : ∃ s, s = sigTo l p v b k := ⟨_, rfl⟩
    have HS : Hid (sigTo l p v b k = s) := hs.symm
    rw [← hs] at s0 s1 ⊢
    clear hs
    by_cases hlt : (k : Int) < 7
    · obtain ⟨w0, w1⟩ := hpw (by omega)
      clear hpw
      go_wp2
      go_loopw [9, 11] (fun n i wq => ∃ m : Nat, m ≤ l.length ∧ n = .int .i64 s ∧ i = .int .i64 (m : Int) ∧ Hid (noneTo l p v b (k : Int) m) ∧ Below w.heap.size w wq) (fun _ i _ => l.length - (intOf i).toNat)
      case atStart => exact ⟨0, Nat.zero_le _, rfl, rfl, fun j _ h => by omega, hbel⟩
      case round =>
        obtain ⟨m, hm, rfl, rfl, HN, hbm⟩ := hrel
        clear hbel
        have HBM : Hid (Below w.heap.size w wr) := hbm
        by_cases hml : (m : Int) < l.length
        · have hmn : m < l.length := by omega
          obtain ⟨g, off, rfl, hg, hc⟩ := HR.out (by omega)
          have q0 : (0 : Int) ≤ (m : Int) := by omega
          obtain ⟨x, hx⟩ : ∃ x, x = l[m] := ⟨_, rfl⟩
          have HX : Hid (x = l[m]) := hx
          obtain ⟨x0, x1, x2, x3⟩ := x
          have c0 : wr.cell? ⟨g, off + m * 4, none⟩ = some (.int .i64 x0) := by rw [hbm.cell (by exact hg)]; have := hc m hmn 0 (by omega); rw [← hx] at this; exact this
          have c1 : wr.cell? ⟨g, off + m * 4 + 1, none⟩ = some (.int .i64 x1) := by rw [hbm.cell (by exact hg)]; have := hc m hmn 1 (by omega); rw [← hx] at this; exact this
          have c2 : wr.cell? ⟨g, off + m * 4 + 2, none⟩ = some (.int .i64 x2) := by rw [hbm.cell (by exact hg)]; have := hc m hmn 2 (by omega); rw [← hx] at this; exact this
          have c3 : wr.cell? ⟨g, off + m * 4 + 3, none⟩ = some (.int .i64 x3) := by rw [hbm.cell (by exact hg)]; have := hc m hmn 3 (by omega); rw [← hx] at this; exact this
          have HB2 : Hid (Below w.heap.size w (wr.alloc (.cells #[.int .i64 x0, .int .i64 x1, .int .i64 x2, .int .i64 x3] 46))) := ba hbm _
          clear hc hx hbm
          by_cases h3 : x3 = (k : Int)
          · have d3 : (x3 == (k : Int)) = true := by simpa using h3
            by_cases h0 : x0 = p
            · have d0 : (x0 == p) = true := by simpa using h0
              by_cases h1 : x1 = v
              · have d1 : (x1 == v) = true := by simpa using h1
                by_cases h2 : x2 = b
                · have d2 : (x2 == b) = true := by simpa using h2
                  have HT : Hid (sigTo l p v b (k + 1) = s + 2 ^ k) := (by rw [sigTo_yes (said_yes hmn (by rw [← HX.out]; unfold saidAt; simp [h0, h1, h2, h3])), HS.out] : sigTo l p v b (k + 1) = s + 2 ^ k)
                  clear h0 h1 h2 h3
                  go_wp2
                  go_roundw
                  case rel => exact ⟨k + 1, by omega, by rw [HT.out], by simp, HB2.out⟩
                  case measure => simp [intOf]; omega
                · have d2 : (x2 == b) = false := by simpa using h2
                  have HN2 : Hid (noneTo l p v b (k : Int) (m + 1)) := noneTo_next HN.out fun _ => by rw [← HX.out]; unfold saidAt; simp [h2]
                  clear h3 h0 h1 h2
                  go_wp2
                  go_roundw
                  case rel => exact ⟨m + 1, by omega, rfl, by go_num, HN2, HB2.out⟩
                  case measure => simp [intOf]; omega
              · have d1 : (x1 == v) = false := by simpa using h1
                have HN2 : Hid (noneTo l p v b (k : Int) (m + 1)) := noneTo_next HN.out fun _ => by rw [← HX.out]; unfold saidAt; simp [h1]
                clear h3 h0 h1
                go_wp2
                go_roundw
                case rel => exact ⟨m + 1, by omega, rfl, by go_num, HN2, HB2.out⟩
                case measure => simp [intOf]; omega
            · have d0 : (x0 == p) = false := by simpa using h0
              have HN2 : Hid (noneTo l p v b (k : Int) (m + 1)) := noneTo_next HN.out fun _ => by rw [← HX.out]; unfold saidAt; simp [h0]
              clear h3 h0
              go_wp2
              go_roundw
              case rel => exact ⟨m + 1, by omega, rfl, by go_num, HN2, HB2.out⟩
              case measure => simp [intOf]; omega
          · have d3 : (x3 == (k : Int)) = false := by simpa using h3
            have HN2 : Hid (noneTo l p v b (k : Int) (m + 1)) := noneTo_next HN.out fun _ => by rw [← HX.out]; unfold saidAt; simp [h3]
            clear h3
            go_wp2
            go_roundw
            case rel => exact ⟨m + 1, by omega, rfl, by go_num, HN2, HB2.out⟩
            case measure => simp [intOf]; omega
        · have hml2 : m = l.length := by omega
          have HT : Hid (sigTo l p v b (k + 1) = s) := (by rw [sigTo_no (said_no (by rw [← hml2]; exact HN.out)), HS.out] : sigTo l p v b (k + 1) = s)
          clear hml2
          go_wp2
          go_roundw
          case rel => exact ⟨k + 1, by omega, by rw [HT.out], by go_num, HBM.out⟩
          case measure => simp [intOf]; omega
    · have hk7 : k = 7 := by omega
      have HT : Hid (signersT l p v b = s) := (by rw [hk7] at HS; exact HS.out : signersT l p v b = s)
      clear hk7
      go_wp2
      go_ret
      exact ⟨ret_int HT.out.symm, hbel⟩

end Go.Proofs.YtcfgfhodbjakoavGreatDoor

/-
  Votes whose numbers fit; what a vote's type says.
-/
namespace Go.Proofs.YtcfgfhodbjakoavGreatDoor
open Go.RowKit Num

/-- numbers that fit -/
def wfV (v : VT) : Prop := (Lit.int .i64 v.1).wf = true ∧ (Lit.int .i64 v.2.1).wf = true ∧ (Lit.int .i64 v.2.2.1).wf = true ∧ (Lit.int .i64 v.2.2.2).wf = true
theorem infoVote : (Tryz.prog.info? 46).map (fun i => (i.zero, i.size, i.bytes)) = some (some (.agg #[.int .i64 0, .int .i64 0, .int .i64 0, .int .i64 0]), 4, 32) := by kernel_rfl

end Go.Proofs.YtcfgfhodbjakoavGreatDoor

/-
  The decimal figures of a number.
-/
namespace Go.Proofs.YtcfgfhodbjakoavGreatDoor.Num

/-- the decimal figures of a number above 0, the highest first; the first argument bounds the rounds -/
def dd : Nat → Nat → List Int
  | 0, _ => []
  | f + 1, n => if n = 0 then [] else dd f (n / 10) ++ [(48 : Int) + ((n % 10 : Nat) : Int)]

theorem dd_zero (f : Nat) : dd f 0 = [] := by cases f <;> rfl

theorem dd_step (f n : Nat) (h : 0 < n) (hf : n ≤ f) : ∃ g, dd f n = dd g (n / 10) ++ [(48 : Int) + ((n % 10 : Nat) : Int)] ∧ n / 10 ≤ g := by
  cases f with
  | zero => omega
  | succ f =>
    refine ⟨f, ?_, by omega⟩
    show (if n = 0 then [] else dd f (n / 10) ++ [(48 : Int) + ((n % 10 : Nat) : Int)]) = _
    rw [if_neg (by omega)]

/-- the decimal figures of a number -/
def dec (n : Int) : List Int := if n = 0 then [48] else if n < 0 then 45 :: dd n.natAbs n.natAbs else dd n.natAbs n.natAbs

theorem abs_div (m : Int) (h : 0 ≤ m) : (m / 10).natAbs = m.natAbs / 10 := by omega

theorem abs_mod (m : Int) (h : 0 ≤ m) : ((m.natAbs % 10 : Nat) : Int) = m % 10 := by omega

theorem str_append (a b : List Int) : strOfNums a ++ strOfNums b = strOfNums (a ++ b) := by
  apply ByteArray.ext
  simp [strOfNums, ByteArray.data_append]

end Go.Proofs.YtcfgfhodbjakoavGreatDoor.Num
