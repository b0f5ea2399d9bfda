/-
  Contracts of the specification's drawing functions, more of them: a new cursor, picks, numbers, texts.
-/
import Derived.Test.YtjdddcldbfhbiaaDoorDraw
namespace Go.Proofs.YtjdddcldbfhbiaaDoor
open Go.RowKit

theorem grown_none {a b : World} {r : Option Nat} (h : Below a.heap.size a b) : a.grownBy b r := ⟨h.os, h.tape, h.output, h.size, fun k hk _ => h.block k hk⟩

set_option maxRecDepth 100000 in
set_option maxHeartbeats 1000000 in
theorem new_any {w : World} {ao : Option Addr} {len cap b off : Nat} (hc : Code w ao len b off) :
    Calls Tryd.prog 23 #[.slice ao len cap] w fun e w' => ∃ N, e = .returned (.pointer (Option.some ⟨N, 0, none⟩)) ∧ w.heap.size ≤ N ∧ St w' N ao len cap b off ∧ Below w.heap.size w w' := by
  have hle := hc.le
  have HC : Hid (Code w ao len b off) := hc
  clear hc
  go_enter Tryd.func23, Tryd.ntmps23
  go_wp2
  go_loop [3, 4] (fun h i => ∃ (k : Nat) (H : Int), k ≤ len ∧ h = .int .i64 H ∧ i = .int .i64 k) (fun _ i => len - (intOf i).toNat)
  case atStart => exact ⟨0, _, Nat.zero_le _, rfl, rfl⟩
  case round =>
    obtain ⟨k, H, hk, rfl, rfl⟩ := hrel
    have fin : ∀ H : Int, ∃ N, Ending.returned (.pointer (Option.some ⟨w.heap.size, 0, none⟩)) = Ending.returned (.pointer (Option.some ⟨N, 0, none⟩)) ∧ w.heap.size ≤ N ∧ St (w.alloc (.cells #[.slice ao len cap, .int .i64 0, .int .i64 H] 56)) N ao len cap b off ∧ Below w.heap.size w (w.alloc (.cells #[.slice ao len cap, .int .i64 0, .int .i64 H] 56)) := fun H =>
      have hb : Below w.heap.size w (w.alloc (.cells #[.slice ao len cap, .int .i64 0, .int .i64 H] 56)) := (Below.refl _ _).alloc (Nat.le_refl _) _
      ⟨w.heap.size, rfl, Nat.le_refl _, ⟨HC.out.below hb, ⟨0, H, Nat.zero_le _, heap_alloc_new w _⟩, fun hl e => by have := HC.out.lt hl; omega⟩, hb⟩
    have HF : Hid _ := fin
    clear fin
    by_cases hlt : (k : Int) < len
    · by_cases h4 : (k : Int) < 4000
      · obtain rfl := HC.out.some (by omega)
        obtain ⟨z, hz0, hz1, hz⟩ := HC.out.cell k (by omega)
        have q0 : (0 : Int) ≤ (k : Int) := by omega
        go_wp2
        go_round
        case rel => exact ⟨k + 1, _, by omega, rfl, by go_num⟩
        case measure => simp [intOf]; omega
      · go_wp2
        go_ret
        exact HF.out _
    · go_wp2
      go_ret
      exact HF.out _

theorem pick_st {w : World} {B L : Nat} {ao : Option Addr} {len cap b off : Nat} (n : Nat) (hn : 0 < n) (hn2 : n ≤ 1000) (h : St w B ao len cap b off) (hL : L ≠ B) (hLl : L < w.heap.size) (hc : ∀ k, k < n → ∃ v : Int, w.cell? ⟨L, k, none⟩ = Option.some (.int .i64 v)) :
    Calls Tryd.prog 33 #[.pointer (Option.some ⟨B, 0, none⟩), .slice (Option.some ⟨L, 0, none⟩) n n] w fun e w' => ∃ x : Int, e = .returned (.int .i64 x) ∧ St w' B ao len cap b off ∧ w.grownBy w' (Option.some B) := by
  have H : Hid (St w B ao len cap b off) := h
  have HC : Hid (∀ k, k < n → ∃ v : Int, w.cell? ⟨L, k, none⟩ = Option.some (.int .i64 v)) := hc
  clear h hc
  go_enter Tryd.func33, Tryd.ntmps33
  go_wp2_with fail
  refine (below_st (n : Int) (by omega) (by omega) H.out).mono ?_
  rintro e w' ⟨x, rfl, hx0, hx1, hS, hg⟩
  obtain ⟨k, rfl⟩ := Int.eq_ofNat_of_zero_le hx0
  obtain ⟨v, hv⟩ := HC.out k (by omega)
  have hv' : w'.cell? ⟨L, k, none⟩ = Option.some (.int .i64 v) := by
    rw [World.cell?_of_block (w := w) (hg.block L hLl (fun e => hL (Option.some.inj e)))]; exact hv
  have HS : Hid (St w' B ao len cap b off) := hS
  clear hS hv
  go_wp2
  go_ret
  exact ⟨_, rfl, HS.out, hg⟩

theorem ten_cells (w : World) (a0 a1 a2 a3 a4 a5 a6 a7 a8 a9 : Int) (t : TypeId) : ∀ k, k < 10 → ∃ v : Int, (w.alloc (.cells #[.int .i64 a0, .int .i64 a1, .int .i64 a2, .int .i64 a3, .int .i64 a4, .int .i64 a5, .int .i64 a6, .int .i64 a7, .int .i64 a8, .int .i64 a9] t)).cell? ⟨w.heap.size, k, none⟩ = Option.some (.int .i64 v) := by
  intro k hk
  rw [cell_of_row _ w.heap.size k _ _ (0, 0) (heap_alloc_new w _)]
  match k, hk with
  | 0, _ => exact ⟨_, rfl⟩
  | 1, _ => exact ⟨_, rfl⟩
  | 2, _ => exact ⟨_, rfl⟩
  | 3, _ => exact ⟨_, rfl⟩
  | 4, _ => exact ⟨_, rfl⟩
  | 5, _ => exact ⟨_, rfl⟩
  | 6, _ => exact ⟨_, rfl⟩
  | 7, _ => exact ⟨_, rfl⟩
  | 8, _ => exact ⟨_, rfl⟩
  | 9, _ => exact ⟨_, rfl⟩

set_option maxRecDepth 100000 in
set_option maxHeartbeats 1000000 in
theorem number_st {w : World} {B : Nat} {ao : Option Addr} {len cap b off : Nat} (h : St w B ao len cap b off) :
    Calls Tryd.prog 22 #[.pointer (Option.some ⟨B, 0, none⟩)] w fun e w' => ∃ x : Int, e = .returned (.int .i64 x) ∧ St w' B ao len cap b off ∧ w.grownBy w' (Option.some B) := by
  have H : Hid (St w B ao len cap b off) := h
  clear h
  go_enter Tryd.func22, Tryd.ntmps22
  go_wp2_with fail
  refine (below_st 4 (by omega) (by omega) H.out).mono ?_
  rintro e w1 ⟨x, rfl, hx0, hx1, hS, hg⟩
  have HS : Hid (St w1 B ao len cap b off) := hS
  clear hS
  by_cases h0 : x = 0
  · have hq : (x == 0) = true := by simp [h0]
    clear h0
    go_wp2_with fail
    have hb : Below w1.heap.size w1 (w1.alloc (.cells #[.int .i64 (-1), .int .i64 0, .int .i64 127, .int .i64 128, .int .i64 16383, .int .i64 16384, .int .i64 1000000000, .int .i64 1000000001, .int .i64 9223372036854775807, .int .i64 (-9223372036854775808)] 3)) := (Below.refl _ _).alloc (Nat.le_refl _) _
    refine (pick_st 10 (by omega) (by omega) (HS.out.below hb) (by have := HS.out.cur.lt; omega) (by simp) (ten_cells w1 _ _ _ _ _ _ _ _ _ _ _)).mono ?_
    rintro e w2 ⟨y, rfl, hS2, hg2⟩
    have HS2 : Hid (St w2 B ao len cap b off) := hS2
    clear hS2
    go_wp2
    go_ret
    exact ⟨_, rfl, HS2.out, grown_tr hg (grown_tr (grown_none hb) hg2)⟩
  · have hq : (x == 0) = false := by simp [h0]
    by_cases h1 : x = 1
    · have hq1 : (x == 1) = true := by simp [h1]
      clear h0 h1
      go_wp2_with fail
      refine (below_st 1000000000 (by omega) (by omega) HS.out).mono ?_
      rintro e w2 ⟨y, rfl, hy0, hy1, hS2, hg2⟩
      have HS2 : Hid (St w2 B ao len cap b off) := hS2
      clear hS2
      go_wp2
      go_ret
      exact ⟨_, rfl, HS2.out, grown_tr hg hg2⟩
    · have hq1 : (x == 1) = false := by simp [h1]
      clear h0 h1
      go_wp2_with fail
      refine (below_st 400 (by omega) (by omega) HS.out).mono ?_
      rintro e w2 ⟨y, rfl, hy0, hy1, hS2, hg2⟩
      have HS2 : Hid (St w2 B ao len cap b off) := hS2
      clear hS2
      go_wp2
      go_ret
      exact ⟨_, rfl, HS2.out, grown_tr hg hg2⟩

theorem own_apart {w : World} {base B n : Nat} {v : Value} {xs : List Value} {e : TypeId} (h : w.ownsRow base e 1 v n xs) (hB : B < base) : v.ownBlock = none ∨ v.ownBlock ≠ Option.some B := by
  cases e0 : v.ownBlock with
  | none => exact .inl rfl
  | some k => right; intro e; have := (h.lt k e0).1; have := Option.some.inj e; omega

theorem drawn_below {w w1 w2 : World} {B : Nat} (hb : Below w.heap.size w w1) (hB : w.heap.size ≤ B) (hg : w1.grownBy w2 (Option.some B)) : Below w.heap.size w w2 :=
  hb.grown hg hb.size fun k hk => by rw [Option.some.inj hk.symm]; exact hB

theorem drawVar_any {w : World} {ao : Option Addr} {len cap b off : Nat} (hc : Code w ao len b off) :
    Calls Tryd.prog 6 #[.slice ao len cap] w fun e w' => ∃ x : Int, e = .returned (.int .i64 x) ∧ Below w.heap.size w w' := by
  have HC : Hid (Code w ao len b off) := hc
  clear hc
  go_enter Tryd.func6, Tryd.ntmps6
  go_wp2_with fail
  refine (new_any HC.out).mono ?_
  rintro e w1 ⟨N, rfl, hN, hS, hb⟩
  have HS : Hid (St w1 N ao len cap b off) := hS
  clear hS
  go_wp2_with fail
  refine (number_st HS.out).mono ?_
  rintro e w2 ⟨y, rfl, _, hg⟩
  go_wp2
  go_ret
  exact ⟨_, rfl, drawn_below hb hN hg⟩

theorem grown_below {a b c : World} {r : Option Nat} (h : a.grownBy b r) (hb : Below a.heap.size b c) : a.grownBy c r :=
  ⟨hb.os.trans h.os, hb.tape.trans h.tape, hb.output.trans h.output, Nat.le_trans h.size hb.size, fun k hk hr => (hb.block k hk).trans (h.block k hk hr)⟩
theorem St.under {w w' : World} {B base : Nat} {ao : Option Addr} {len cap b off : Nat} (h : St w B ao len cap b off) (hb : Below base w w') (hB : B < base) (hbb : 0 < len → b < base) : St w' B ao len cap b off :=
  ⟨⟨h.code.le, h.code.some, fun k hk => by
    obtain ⟨z, h0, h1, h2⟩ := h.code.cell k hk
    exact ⟨z, h0, h1, by rw [hb.cell (by exact hbb (by omega))]; exact h2⟩, fun hl => Nat.lt_of_lt_of_le (h.code.lt hl) hb.size⟩, h.cur.keep (hb.block B hB), h.ne⟩
theorem push_base {base : Nat} {w2 w3 : World} {v v' : Value} {xs : List Int} {x : Int} {o : Obj} (hbase : base ≤ w2.heap.size) (hown : w2.ownsRow base 5 1 v xs.length (xs.map (Value.int .u8)))
    (hown' : w3.ownsRow base 5 1 v' (xs.length + 1) (xs.map (Value.int .u8) ++ [.int .u8 x])) (hg : (w2.alloc o).grownBy w3 v.ownBlock) :
    w3.ownsRow base 5 1 v' (xs ++ [x]).length ((xs ++ [x]).map (Value.int .u8)) ∧ Below base w2 w3 :=
  ⟨by simpa using hown', ((Below.refl base w2).alloc hbase o).grown hg (by simp; omega) fun k hk => (hown.lt k hk).1⟩

set_option maxRecDepth 100000 in
set_option maxHeartbeats 1000000 in
theorem text_st {w : World} {B : Nat} {ao : Option Addr} {len cap b off : Nat} (n : Int) (hn0 : 0 ≤ n) (hn : n ≤ 5000) (h : St w B ao len cap b off) :
    Calls Tryd.prog 28 #[.pointer (Option.some ⟨B, 0, none⟩), .int .i64 n] w fun e w' => ∃ t : ByteArray, e = .returned (.string t) ∧ t.size ≤ 5000 ∧ w.grownBy w' (Option.some B) := by
  obtain ⟨i0, hi, hz0, hz1, hz2⟩ := info_parts info5
  have hBw := h.cur.lt
  have H : Hid (St w B ao len cap b off) := h
  clear h
  go_enter Tryd.func28, Tryd.ntmps28
  go_wp2
  go_loopw [5, 6] (fun v i wr => ∃ (k : Nat) (xs : List Int), (k : Int) ≤ n ∧ i = .int .i64 k ∧ xs.length = k ∧ wr.ownsRow w.heap.size 5 1 v xs.length (xs.map (Value.int .u8)) ∧ St wr B ao len cap b off ∧ w.grownBy wr (Option.some B)) (fun _ i _ => n.toNat - (intOf i).toNat)
  case atStart =>
    have hb : Below w.heap.size w (w.alloc (.cells #[] 5)) := (Below.refl _ _).alloc (Nat.le_refl _) _
    exact ⟨0, [], hn0, rfl, rfl, World.ownsRow_made _ #[] 0 (Nat.le_refl _) (by decide) rfl, H.out.below hb, grown_none hb⟩
  case round =>
    obtain ⟨k, xs, hk, rfl, hxl, hown, hS, hg⟩ := hrel
    have HX : Hid (xs.length = k) := hxl
    have hxl' : xs.length ≤ 5000 := by omega
    have HO : Hid (wr.ownsRow w.heap.size 5 1 _ xs.length (xs.map (Value.int .u8))) := hown
    have HS : Hid (St wr B ao len cap b off) := hS
    clear hxl hS
    by_cases hlt : (k : Int) < n
    · clear hown
      go_wp2_with (first | (go_at_call 30; refine (byte_st HS.out).mono ?_; rintro e w2 ⟨x, rfl, hx0, hx1, hS2, hg2⟩; have HS2 : Hid (St w2 B ao len cap b off) := hS2; have HO2 : Hid (w2.ownsRow w.heap.size 5 1 _ xs.length (xs.map (Value.int .u8))) := World.ownsRow.kept HO.out hg2 (own_apart HO.out hBw); have hbs2 := hg2.size; have hbs := hg.size; clear hS2) | (at_builtin; refine wpList_append_own _ rfl _ _ 22 rfl w.heap.size 5 i0 (.int .u8 0) 1 1 Tryd.underlying22 hi hz0 hz1 hz2 rfl (by decide) _ _ _ rfl (World.ownsRow.alloc HO2.out _) ⟨World.heap _ |>.size, 0, none⟩ 1 1 [.int .u8 x] rfl rfl (news1 _ _ _) (ones1 _ _) (by unfold maxLen; omega) (by omega) (by simp; omega) ?_; intro v' w3 hown' hgrow _))
      go_roundw
      case rel =>
        have R := push_base (Nat.le_trans hbs hbs2) HO2.out hown' hgrow
        exact ⟨k + 1, xs ++ [x], by omega, by go_num, by simp [HX.out], R.1, HS2.out.under R.2 hBw H.out.code.lt, grown_below (grown_tr hg hg2) R.2⟩
      case measure => simp [intOf]; omega
    · have hcv := strOfNums_row hown
      go_wp2
      go_ret
      exact ⟨_, rfl, by rw [strOfNums_size]; exact hxl', hg⟩

set_option maxRecDepth 100000 in
set_option maxHeartbeats 1000000 in
theorem long_any (w : World) (n : Nat) (x : Int) (hn : n ≤ 20001) :
    Calls Tryd.prog 26 #[.int .i64 (n : Int), .int .u8 x] w fun e w' => ∃ t : ByteArray, e = .returned (.string t) ∧ t.size ≤ 20001 ∧ Below w.heap.size w w' := by
  obtain ⟨i0, hi, hz0, hz1, hz2⟩ := info_parts info5
  go_enter Tryd.func26, Tryd.ntmps26
  go_wp2_with (at_make; refine wpList_make_full _ rfl _ _ 22 rfl w.heap.size 5 i0 (.int .u8 0) 1 Tryd.underlying22 hi hz0 hz1 _ _ _ _ n rfl rfl (by omega) (by omega) (by rw [hz2]; omega) (by unfold maxLen; omega) (Nat.le_refl _) ?_; intro w0 hown0 hgrow0)
  have hb0 : Below w.heap.size w w0 := (Below.refl _ _).grown hgrow0 (Nat.le_refl _) (fun k h => by cases h)
  clear hgrow0
  go_loopw [6] (fun i wr => ∃ (k : Nat) (xs : List Int), k ≤ n ∧ i = .int .i64 k ∧ xs.length = n ∧ wr.ownsRow w.heap.size 5 1 (.slice (Option.some ⟨w.heap.size, 0, none⟩) n n) n (xs.map (Value.int .u8)) ∧ Below w.heap.size w wr) (fun i _ => n - (intOf i).toNat)
  case atStart =>
    refine ⟨0, List.replicate n 0, Nat.zero_le _, rfl, by simp, ?_, hb0⟩
    rw [List.map_replicate, ← toList_madeCells_one]
    simpa [Value.cells] using hown0
  case round =>
    obtain ⟨k, xs, hk, rfl, hxl, hown, hbel⟩ := hrel
    have HX : Hid (xs.length = n) := hxl
    clear hown0 hb0
    by_cases hlt : (k : Int) < n
    · have q0 : (0 : Int) ≤ (k : Int) := by omega
      have hca : wr.cell? ⟨w.heap.size, k, none⟩ = Option.some (.int .u8 (xs.getD k 0)) := by
        rw [hown.cellAt k (by omega), List.getElem?_map, List.getElem?_eq_getElem (by omega)]
        simp [List.getD, List.getElem?_eq_getElem (show k < xs.length by omega)]
      have hfz : wr.frozen? ⟨w.heap.size, k, none⟩ = false := hown.frozenAt k
      have HO : Hid (wr.ownsRow w.heap.size 5 1 (.slice (Option.some ⟨w.heap.size, 0, none⟩) n n) n (xs.map (Value.int .u8))) := hown
      clear hown hxl
      go_wp2
      go_roundw
      case rel =>
        refine ⟨k + 1, xs.set k x, by omega, by go_num, by simp [HX.out], ?_, hbel.setCell (p := ⟨w.heap.size, k, none⟩) (Nat.le_refl _) _⟩
        rw [List.map_set]
        exact (World.ownsRow.stored HO.out k (.int .u8 x)).1
      case measure => simp [intOf]; omega
    · have hown' : wr.ownsRow w.heap.size 5 1 (.slice (Option.some ⟨w.heap.size, 0, none⟩) n n) xs.length (xs.map (Value.int .u8)) := by rw [hxl]; exact hown
      have hcv := strOfNums_row hown'
      clear hxl
      go_wp2
      go_ret
      exact ⟨_, rfl, by rw [strOfNums_size, HX.out]; exact hn, hbel⟩

set_option maxRecDepth 100000 in
set_option maxHeartbeats 1000000 in
theorem drawHex_any {w : World} {ao : Option Addr} {len cap b off : Nat} (hc : Code w ao len b off) :
    Calls Tryd.prog 11 #[.slice ao len cap] w fun e w' => ∃ t : ByteArray, e = .returned (.string t) ∧ t.size ≤ 20001 ∧ Below w.heap.size w w' := by
  have HC : Hid (Code w ao len b off) := hc
  clear hc
  go_enter Tryd.func11, Tryd.ntmps11
  go_wp2_with fail
  refine (new_any HC.out).mono ?_
  rintro e w1 ⟨N, rfl, hN, hS, hb⟩
  have HS : Hid (St w1 N ao len cap b off) := hS
  clear hS
  go_wp2_with fail
  refine (once_st 60 (by omega) (by omega) HS.out).mono ?_
  rintro e w2 ⟨y, rfl, hS2, hg2⟩
  have HS2 : Hid (St w2 N ao len cap b off) := hS2
  have B2 := drawn_below hb hN hg2
  clear hS2
  cases y with
  | true =>
    go_wp2_with fail
    refine (below_st 2 (by omega) (by omega) HS2.out).mono ?_
    rintro e w3 ⟨x, rfl, hx0, hx1, _, hg3⟩
    obtain ⟨k, rfl⟩ := Int.eq_ofNat_of_zero_le hx0
    have B3 := drawn_below B2 hN hg3
    go_wp2_with fail
    rw [show (20000 : Int) + (k : Int) = ((20000 + k : Nat) : Int) by simp]
    refine (long_any _ (20000 + k) 200 (by omega)).mono ?_
    rintro e w4 ⟨t, rfl, ht, hb4⟩
    go_wp2
    go_ret
    exact ⟨t, rfl, ht, B3.trans (hb4.mono B3.size)⟩
  | false =>
    go_wp2_with fail
    refine (below_st 30 (by omega) (by omega) HS2.out).mono ?_
    rintro e w3 ⟨x, rfl, hx0, hx1, hS3, hg3⟩
    have HS3 : Hid (St w3 N ao len cap b off) := hS3
    clear hS3
    have B3 := drawn_below B2 hN hg3
    go_wp2_with fail
    refine (text_st x hx0 (by omega) HS3.out).mono ?_
    rintro e w4 ⟨t, rfl, ht, hg4⟩
    go_wp2
    go_ret
    exact ⟨t, rfl, by omega, drawn_below B3 hN hg4⟩
end Go.Proofs.YtjdddcldbfhbiaaDoor
