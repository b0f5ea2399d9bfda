/-
  What FnTurned draws: a text, and twelve places.
-/
import Derived.Test.YtjdddcldbfhbiaaDoorDraw2
namespace Go.Proofs.YtjdddcldbfhbiaaDoor
open Go.RowKit

theorem infoInt : (Tryd.prog.info? 3).map (fun i => (i.zero, i.size, i.bytes)) = some (some (.int .i64 0), 1, 8) := by kernel_rfl

theorem drawSum_any {w : World} {ao : Option Addr} {len cap b off : Nat} (hc : Code w ao len b off) :
    Calls Tryd.prog 16 #[.slice ao len cap] w fun e w' => ∃ t : ByteArray, e = .returned (.string t) ∧ t.size ≤ 5000 ∧ Below w.heap.size w w' := by
  have HC : Hid (Code w ao len b off) := hc
  clear hc
  go_enter Tryd.func16, Tryd.ntmps16
  go_wp2_with fail
  refine (new_any HC.out).mono ?_
  rintro e w1 ⟨N, rfl, hN, hS, hb⟩
  have HS : Hid (St w1 N ao len cap b off) := hS
  clear hS
  go_wp2_with fail
  refine (below_st 40 (by omega) (by omega) HS.out).mono ?_
  rintro e w2 ⟨x, rfl, hx0, hx1, hS2, hg2⟩
  have HS2 : Hid (St w2 N ao len cap b off) := hS2
  have B2 := drawn_below hb hN hg2
  clear hS2
  go_wp2_with fail
  refine (text_st x hx0 (by omega) HS2.out).mono ?_
  rintro e w3 ⟨t, rfl, ht, hg3⟩
  have B3 := drawn_below B2 hN hg3
  go_wp2
  go_ret
  exact ⟨t, rfl, ht, B3⟩

theorem push_baseI {base : Nat} {w2 w3 : World} {v v' : Value} {xs : List Int} {x : Int} {o : Obj} (hbase : base ≤ w2.heap.size) (hown : w2.ownsRow base 3 1 v xs.length (xs.map (Value.int .i64)))
    (hown' : w3.ownsRow base 3 1 v' (xs.length + 1) (xs.map (Value.int .i64) ++ [.int .i64 x])) (hg : (w2.alloc o).grownBy w3 v.ownBlock) :
    w3.ownsRow base 3 1 v' (xs ++ [x]).length ((xs ++ [x]).map (Value.int .i64)) ∧ Below base w2 w3 :=
  ⟨by simpa using hown', ((Below.refl base w2).alloc hbase o).grown hg (by simp; omega) fun k hk => (hown.lt k hk).1⟩

theorem ret_slice {a : Option Addr} {n m c : Nat} (h : n = m) : Ending.returned (.slice a n c) = .returned (.slice a m c) := by rw [h]

/-- what a row of ints that the call made holds -/
structure Ints (w : World) (L : Nat) (xs : List Int) : Prop where
  lt : L < w.heap.size
  cell : ∀ k, k < xs.length → w.cell? ⟨L, k, none⟩ = some (.int .i64 (xs.getD k 0))
theorem Ints.below {w w' : World} {L : Nat} {xs : List Int} (h : Ints w L xs) (hb : Below w.heap.size w w') : Ints w' L xs :=
  ⟨Nat.lt_of_lt_of_le h.lt hb.size, fun k hk => by rw [hb.cell (by exact h.lt)]; exact h.cell k hk⟩
theorem ints_of {w : World} {base n : Nat} {v : Value} {xs : List Int} (hx : 0 < xs.length) (h : w.ownsRow base 3 1 v n (xs.map (Value.int .i64))) :
    ∃ L c, v = .slice (some ⟨L, 0, none⟩) xs.length c ∧ Ints w L xs := by
  obtain ⟨hl, ⟨rfl, rfl⟩ | ⟨g, cap, cur, rfl, hb, hh, hn, hc, hs, ht⟩⟩ := h
  · simp at hl; subst hl; simp at hx
  · have hl' : xs.length = n := by simpa using hl
    subst hl'
    have hcell : ∀ k, k < xs.length → w.cell? ⟨g, k, none⟩ = some (.int .i64 (xs.getD k 0)) := fun k hk => by
      have h2 : (xs.map (Value.int .i64))[k]? = some (.int .i64 (xs.getD k 0)) := by
        simp [List.getD, List.getElem?_eq_getElem hk]
      rw [← ht, List.getElem?_take] at h2
      simp only [Nat.mul_one] at h2
      rw [if_pos hk] at h2
      rw [cell_of_row w g k cur _ _ hh]
      simpa using h2
    exact ⟨g, cap, rfl, World.block_lt_of_cell? w _ (hcell 0 hx), hcell⟩

set_option maxRecDepth 100000 in
set_option maxHeartbeats 1000000 in
theorem places_any {w : World} {ao : Option Addr} {len cap b off : Nat} (hc : Code w ao len b off) :
    Calls Tryd.prog 17 #[.slice ao len cap] w fun e w' => ∃ (L c : Nat) (ps : List Int), e = .returned (.slice (some ⟨L, 0, none⟩) 12 c) ∧ ps.length = 12 ∧ (∀ x ∈ ps, 0 ≤ x ∧ x < 10000) ∧ Ints w' L ps ∧ Below w.heap.size w w' := by
  obtain ⟨i0, hi, hz0, hz1, hz2⟩ := info_parts infoInt
  have HC : Hid (Code w ao len b off) := hc
  clear hc
  go_enter Tryd.func17, Tryd.ntmps17
  go_wp2_with fail
  refine (new_any HC.out).mono ?_
  rintro e w1 ⟨N, rfl, hN, hS, hb⟩
  have HS : Hid (St w1 N ao len cap b off) := hS
  clear hS
  go_wp2_with fail
  refine (byte_st HS.out).mono ?_
  rintro e w2 ⟨x, rfl, hx0, hx1, hS2, hg2⟩
  have hNw := hS2.cur.lt
  have HS2 : Hid (St w2 N ao len cap b off) := hS2
  have B2 := drawn_below hb hN hg2
  clear hS2
  go_wp2
  go_loopw [4, 5] (fun v i wr => ∃ (k : Nat) (xs : List Int), k ≤ 12 ∧ i = .int .i64 k ∧ xs.length = k ∧ (∀ x ∈ xs, 0 ≤ x ∧ x < 10000) ∧ wr.ownsRow w2.heap.size 3 1 v xs.length (xs.map (Value.int .i64)) ∧ St wr N ao len cap b off ∧ w2.grownBy wr (Option.some N)) (fun _ i _ => 12 - (intOf i).toNat)
  case atStart =>
    have hb : Below w2.heap.size w2 (w2.alloc (.cells #[] 3)) := (Below.refl _ _).alloc (Nat.le_refl _) _
    exact ⟨0, [], Nat.zero_le _, rfl, rfl, fun x hx => (by cases hx), World.ownsRow_made _ #[] 0 (Nat.le_refl _) (by decide) rfl, HS2.out.below hb, grown_none hb⟩
  case round =>
    obtain ⟨k, xs, hk, rfl, hxl, hall, hown, hS, hg⟩ := hrel
    have HX : Hid (xs.length = k) := hxl
    have HA : Hid (∀ x ∈ xs, 0 ≤ x ∧ x < 10000) := hall
    have hxl' : xs.length ≤ 12 := by omega
    have HO : Hid (wr.ownsRow w2.heap.size 3 1 _ xs.length (xs.map (Value.int .i64))) := hown
    have HS : Hid (St wr N ao len cap b off) := hS
    clear hxl hS hall
    by_cases hlt : (k : Int) < 12
    · clear hown
      go_wp2_with (first | (go_at_call 27; refine (below_st 10000 (by omega) (by omega) HS.out).mono ?_; rintro e w3 ⟨y, rfl, hy0, hy1, hS3, hg3⟩; have HS3 : Hid (St w3 N ao len cap b off) := hS3; have HO3 : Hid (w3.ownsRow w2.heap.size 3 1 _ xs.length (xs.map (Value.int .i64))) := World.ownsRow.kept HO.out hg3 (own_apart HO.out hNw); have hbs3 := hg3.size; have hbs := hg.size; clear hS3) | (at_builtin; refine wpList_append_own _ rfl _ _ 36 rfl w2.heap.size 3 i0 (.int .i64 0) 1 8 Tryd.underlying36 hi hz0 hz1 hz2 rfl (by decide) _ _ _ rfl (World.ownsRow.alloc HO3.out _) ⟨World.heap _ |>.size, 0, none⟩ 1 1 [.int .i64 y] rfl rfl (news1 _ _ _) (ones1 _ _) (by unfold maxLen; omega) (by omega) (by simp; omega) ?_; intro v' w4 hown' hgrow _))
      go_roundw
      case rel =>
        have R := push_baseI (Nat.le_trans hbs hbs3) HO3.out hown' hgrow
        exact ⟨k + 1, xs ++ [y], by omega, by go_num, by simp [HX.out], fun z hz => (by rcases List.mem_append.1 hz with h | h; exact HA.out z h; simp at h; omega), R.1, HS3.out.under R.2 hNw HS2.out.code.lt, grown_below (grown_tr hg hg3) R.2⟩
      case measure => simp [intOf]; omega
    · have h12 : xs.length = 12 := by have := HX.out; omega
      obtain ⟨L, c, rfl, hI⟩ := ints_of (by omega) hown
      have HI : Hid (Ints wr L xs) := hI
      have H12 : Hid (xs.length = 12) := h12
      clear hI h12 hown
      go_wp2
      go_ret
      exact ⟨L, ⟨c, ret_slice H12.out⟩, xs, H12.out, HA.out, HI.out, drawn_below B2 hN hg⟩

end Go.Proofs.YtjdddcldbfhbiaaDoor
