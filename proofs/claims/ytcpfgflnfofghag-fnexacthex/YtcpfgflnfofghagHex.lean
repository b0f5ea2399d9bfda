/-
  Contracts of spec.Hex and impl.Hex: two figures for each byte.
-/
import Derived.Test.YtcpfgflnfofghagVar
import Derived.Test.YtcpfgflnfofghagCanon
import Derived.Deep.AppendLies
import Derived.Deep.RegionHeld3
namespace Go.Proofs.Ytcpfgflnfofghag.Num
/-- a figure -/
def fig (d : Int) : Int := if d < 10 then 48 + d else 87 + d
/-- the figures of a row of bytes -/
def figs : List Int → List Int
  | [] => []
  | b :: l => fig (b / 16) :: fig (b % 16) :: figs l
theorem figs_snoc (l : List Int) (b : Int) : figs (l ++ [b]) = figs l ++ [fig (b / 16), fig (b % 16)] := by
  induction l with
  | nil => rfl
  | cons x l ih => simp [figs, ih]
theorem figs_len (l : List Int) : (figs l).length = 2 * l.length := by
  induction l with
  | nil => rfl
  | cons x l ih => simp [figs, ih]; omega
theorem take_snoc (s : ByteArray) (k : Nat) (h : k < s.size) : (bs s).take (k + 1) = (bs s).take k ++ [(s[k].toNat : Int)] := by
  have := seg_snoc s 0 k (Nat.zero_le _) h
  simpa using this
theorem fig_at : ∀ (n : Nat) (_h : n < 16) (hp : n < (⟨#[48, 49, 50, 51, 52, 53, 54, 55, 56, 57, 97, 98, 99, 100, 101, 102]⟩ : ByteArray).size),
    (((⟨#[48, 49, 50, 51, 52, 53, 54, 55, 56, 57, 97, 98, 99, 100, 101, 102]⟩ : ByteArray)[n]'hp).toNat : Int) = fig n
  | 0, _, _ | 1, _, _ | 2, _, _ | 3, _, _ | 4, _, _ | 5, _, _ | 6, _, _ | 7, _, _ | 8, _, _ | 9, _, _ | 10, _, _ | 11, _, _ | 12, _, _ | 13, _, _ | 14, _, _ | 15, _, _ => rfl
  | n + 16, h, _ => by omega
theorem fig_at' (d : Int) (h0 : 0 ≤ d) (h1 : d < 16) (hp : d.toNat < (⟨#[48, 49, 50, 51, 52, 53, 54, 55, 56, 57, 97, 98, 99, 100, 101, 102]⟩ : ByteArray).size) :
    (((⟨#[48, 49, 50, 51, 52, 53, 54, 55, 56, 57, 97, 98, 99, 100, 101, 102]⟩ : ByteArray)[d.toNat]'hp).toNat : Int) = fig d := by
  rw [fig_at d.toNat (by omega) hp]
  rw [Int.toNat_of_nonneg h0]
end Go.Proofs.Ytcpfgflnfofghag.Num
namespace Go.Proofs.Ytcpfgflnfofghag
open Go.RowKit Num

theorem news2 (wr : World) (x y : Value) (t : TypeId) : ∀ j u, ([x, y] : List Value)[j]? = some u → (wr.alloc (.cells #[x, y] t)).drew.cell? ((⟨wr.heap.size, 0, none⟩ : Addr).add j) = some u := by
  intro j u hj
  match j, hj with
  | 0, hj => simp at hj; subst hj; simp [Addr.add]
  | 1, hj => simp at hj; subst hj; simp [Addr.add]
theorem ones2 (k : IntKind) (x y : Int) : ∀ u ∈ ([.int k x, .int k y] : List Value), u.oneCell' = true := by
  intro u hu; simp at hu; rcases hu with h | h <;> subst h <;> rfl

theorem push2 {w wr w1 : World} {v v' : Value} {xs : List Int} {x y : Int} {o : Obj} (hbel : Below w.heap.size w wr) (hown : wr.ownsRow w.heap.size 5 1 v xs.length (xs.map (Value.int .u8)))
    (hown' : w1.ownsRow w.heap.size 5 1 v' (xs.length + 2) (xs.map (Value.int .u8) ++ [.int .u8 x, .int .u8 y])) (hg : (wr.alloc o).drew.grownBy w1 v.ownBlock) :
    w1.ownsRow w.heap.size 5 1 v' (xs ++ [x, y]).length ((xs ++ [x, y]).map (Value.int .u8)) ∧ Below w.heap.size w w1 := by
  refine ⟨by simpa using hown', ((hbel.alloc hbel.size o).drew).grown hg (by have := hbel.size; show _ ≤ (wr.alloc o).heap.size; simp; omega) fun k hk => (hown.lt k hk).1⟩

set_option maxRecDepth 100000 in
set_option maxHeartbeats 1000000 in
theorem ihex_yes (s : ByteArray) (w : World) (hs : (s.size : Int) ≤ 20000) :
    Calls Try.prog 17 #[.string s] w fun e w' => e = .returned (.tuple #[.string (strOfNums (figs (bs s))), .bool true]) ∧ Below w.heap.size w w' := by
  obtain ⟨i0, hi, hz0, hz1, hz2⟩ := info_parts info5
  go_enter Try.func17, Try.ntmps17
  go_wp2_with (at_make; refine wpList_make_own _ rfl _ _ 34 rfl w.heap.size 5 i0 (.int .u8 0) 1 Try.underlying34 hi hz0 hz1 _ _ _ (2 * s.size) rfl rfl (by omega) (by rw [hz2]; omega) (by unfold maxLen; omega) (Nat.le_refl _) ?_; intro w0 hown0 hgrow0)
  have hb0 : Below w.heap.size w w0 := (Below.refl _ _).grown hgrow0 (Nat.le_refl _) (fun k h => by cases h)
  clear hgrow0
  go_loopw [4, 15] (fun v i wr => ∃ (k : Nat) (xs : List Int), k ≤ s.size ∧ i = .int .i64 k ∧ xs.length ≤ 2 * k ∧ Hid (xs = figs ((bs s).take k)) ∧ wr.ownsRow w.heap.size 5 1 v xs.length (xs.map (Value.int .u8)) ∧ Below w.heap.size w wr) (fun _ i _ => s.size - (intOf i).toNat)
  case atStart => exact ⟨0, [], Nat.zero_le _, rfl, Nat.zero_le _, rfl, hown0, hb0⟩
  case round =>
    obtain ⟨k, xs, hk, rfl, hxl, HX, hown, hbel⟩ := hrel
    clear hown0 hb0
    by_cases hlt : (k : Int) < s.size
    · have hkn : k < s.size := by omega
      have hb := byte_le s[k]
      have hmask : bits .and .u8 (s[k].toNat : Int) 15 = (s[k].toNat : Int) % 16 := bits_mask .u8 8 (by decide) wraps_u8 4 (by decide) _ hb.1 (by omega)
      have q0 : (0 : Int) ≤ (k : Int) := by omega
      have q1 : (0 : Int) ≤ (s[k].toNat : Int) / 16 := by omega
      have q2 : (s[k].toNat : Int) / 16 < 16 := by omega
      have q3 : (0 : Int) ≤ (s[k].toNat : Int) % 16 := by omega
      have q4 : (s[k].toNat : Int) % 16 < 16 := by omega
      go_wp2
      have hsz := hbel.size
      go_region_held3 (fun _ => True) (trivial) ((refine step_append_lies _ (by rfl) (.tmp 18) (.tmp 29) 34 (by rfl) w.heap.size 5 i0 (.int .u8 0) 1 1 Try.underlying34 hi hz0 hz1 hz2 rfl (by decide) _ _ _ (by rfl) (hown.alloc _).drew ⟨wr.heap.size, 0, none⟩ 2 2 [.int .u8 _, .int .u8 _] (by rfl) rfl (news2 wr _ _ 5) (ones2 _ _ _) (by decide) (by unfold maxLen; omega) (by omega) (by show _ ≤ (wr.alloc _).heap.size; simp; omega) _ rfl ?_; intro g cap w1 hown1 hgrow1 hx1 hx2; clear hx1 hx2))
      all_goals
        have R := push2 hbel hown hown1 hgrow1
        rw [fig_at' _ q1 q2, fig_at' _ q3 q4] at R
        clear hown1 hgrow1 hown hbel
        go_wp2
        go_roundw
        case rel => exact ⟨k + 1, xs ++ [fig ((s[k].toNat : Int) / 16), fig ((s[k].toNat : Int) % 16)], by omega, by go_num, by simp; omega, (show _ = figs ((bs s).take (k + 1)) from by rw [take_snoc s k hkn, figs_snoc, ← HX.out]), by simpa using R.1, R.2⟩
        case measure => simp [intOf]; omega
    · have hcv := strOfNums_row hown
      go_wp2
      go_ret2
      exact ⟨ret_strb (by rw [HX.out, List.take_of_length_le (by rw [bs_len]; omega)]), hbel⟩

theorem ret_int {k : IntKind} {a b : Int} (h : a = b) : Ending.returned (.int k a) = .returned (.int k b) := by rw [h]
theorem wrap_byte (x : Int) (h0 : 0 ≤ x) (h1 : x ≤ 255) : IntKind.i64.wrap x = x := by rw [IntKind.wrap_i64]; omega

theorem fig_any (x : Int) (w : World) (h0 : 0 ≤ x) (h1 : x < 16) : Calls Try.prog 21 #[.int .i64 x] w fun e w' => e = .returned (.int .u8 (fig x)) ∧ w' = w := by
  unfold fig
  by_cases h : x < 10
  · rw [if_pos h]
    go_enter Try.func21, Try.ntmps21
    go_wp2
    go_ret
    exact ⟨rfl, rfl⟩
  · rw [if_neg h]
    go_enter Try.func21, Try.ntmps21
    go_wp2
    go_ret
    exact ⟨ret_int (by omega), rfl⟩

set_option maxRecDepth 100000 in
set_option maxHeartbeats 1000000 in
theorem shex_yes (s : ByteArray) (w : World) (hs : (s.size : Int) ≤ 20000) :
    Calls Try.prog 16 #[.string s] w fun e w' => e = .returned (.tuple #[.string (strOfNums (figs (bs s))), .bool true]) ∧ Below w.heap.size w w' := by
  obtain ⟨i0, hi, hz0, hz1, hz2⟩ := info_parts info5
  go_enter Try.func16, Try.ntmps16
  go_wp2
  go_loopw [4, 5] (fun v i wr => ∃ (k : Nat) (xs : List Int), k ≤ s.size ∧ i = .int .i64 k ∧ xs.length ≤ 2 * k ∧ Hid (xs = figs ((bs s).take k)) ∧ wr.ownsRow w.heap.size 5 1 v xs.length (xs.map (Value.int .u8)) ∧ Below w.heap.size w wr) (fun _ i _ => s.size - (intOf i).toNat)
  case atStart => exact ⟨0, [], Nat.zero_le _, rfl, Nat.zero_le _, rfl, World.ownsRow_made _ #[] 0 (Nat.le_refl _) (by decide) rfl, (Below.refl _ _).alloc (Nat.le_refl _) _⟩
  case round =>
    obtain ⟨k, xs, hk, rfl, hxl, HX, hown, hbel⟩ := hrel
    by_cases hlt : (k : Int) < s.size
    · have hkn : k < s.size := by omega
      have hb := byte_le s[k]
      have q0 : (0 : Int) ≤ (k : Int) := by omega
      have q1 : (0 : Int) ≤ (s[k].toNat : Int) / 16 := by omega
      have q2 : (s[k].toNat : Int) / 16 < 16 := by omega
      have q3 : (0 : Int) ≤ (s[k].toNat : Int) % 16 := by omega
      have q4 : (s[k].toNat : Int) % 16 < 16 := by omega
      have r1 := wrap_byte _ hb.1 hb.2
      have r2 : (s[k].toNat : Int).tdiv 16 = (s[k].toNat : Int) / 16 := Int.tdiv_eq_ediv_of_nonneg hb.1
      have r3 : (s[k].toNat : Int).tmod 16 = (s[k].toNat : Int) % 16 := Int.tmod_eq_emod_of_nonneg hb.1
      have r4 := wrap_byte _ q1 (by omega)
      go_wp2
      have hsz := hbel.size
      go_region_held3 (fun _ => True) (trivial) (first | (refine step_append_lies _ (by rfl) (.tmp 16) (.tmp 29) 34 (by rfl) w.heap.size 5 i0 (.int .u8 0) 1 1 Try.underlying34 hi hz0 hz1 hz2 rfl (by decide) _ _ _ (by rfl) (hown.alloc _).drew ⟨wr.heap.size, 0, none⟩ 2 2 [.int .u8 _, .int .u8 _] (by rfl) rfl (news2 wr _ _ 5) (ones2 _ _ _) (by decide) (by unfold maxLen; omega) (by omega) (by show _ ≤ (wr.alloc _).heap.size; simp; omega) _ rfl ?_; intro g cap w1 hown1 hgrow1 hx1 hx2; clear hx1 hx2) | (go_at_call 21; refine (fig_any _ _ (by omega) (by omega)).mono ?_; rintro e w' ⟨rfl, rfl⟩))
      all_goals
        have R := push2 hbel hown hown1 hgrow1
        clear hown1 hgrow1 hown hbel
        go_wp2
        go_roundw
        case rel => exact ⟨k + 1, xs ++ [fig ((s[k].toNat : Int) / 16), fig ((s[k].toNat : Int) % 16)], by omega, by go_num, by simp; omega, (show _ = figs ((bs s).take (k + 1)) from by rw [take_snoc s k hkn, figs_snoc, ← HX.out]), by simpa using R.1, R.2⟩
        case measure => simp [intOf]; omega
    · have hcv := strOfNums_row hown
      go_wp2
      go_ret2
      exact ⟨ret_strb (by rw [HX.out, List.take_of_length_le (by rw [bs_len]; omega)]), hbel⟩

theorem shex_no (s : ByteArray) (w : World) (h : (20000 : Int) < s.size) :
    Calls Try.prog 16 #[.string s] w fun e w' => e = .returned (.tuple #[.string ByteArray.empty, .bool false]) ∧ w' = w := by
  go_enter Try.func16, Try.ntmps16
  go_wp2
  go_ret2
  exact ⟨rfl, rfl⟩
theorem ihex_no (s : ByteArray) (w : World) (h : (20000 : Int) < s.size) :
    Calls Try.prog 17 #[.string s] w fun e w' => e = .returned (.tuple #[.string ByteArray.empty, .bool false]) ∧ w' = w := by
  go_enter Try.func17, Try.ntmps17
  go_wp2
  go_ret2
  exact ⟨rfl, rfl⟩
end Go.Proofs.Ytcpfgflnfofghag
