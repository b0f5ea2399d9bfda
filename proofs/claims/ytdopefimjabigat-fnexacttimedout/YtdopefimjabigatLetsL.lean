/-
  The contracts of the laws' own helpers over rows of letters and of numbers: how great they are, their copy, held against each other.
-/
import Derived.Test.YtdopefimjabigatLetL
import Derived.Test.YtdopefimjabigatJ0
import Derived.BigQuiet
namespace Go.Proofs.Ytdopefimjabigat
open Go.ChangeShapes Go.WideShapes Go.ChangeAt Go.RowKit Num

theorem letF_len (l : LT) : (letF l).length = 13 := rfl

theorem letters_open {H : Type} {enc : TypeId × Value → H} {W : World} {a : Option Addr} {len cap : Nat} {d : DataW H} {p : List MemPlace} (h : DataW.Trod enc Try.prog W 0 (fun _ => true) true 30 (.slice a len cap) d p) :
    ∃ cs : List LT, cs.length = len ∧ RowsR W (.slice a len cap) 13 letF cs ∧ cs.length ≤ maxLen ∧ ∀ c ∈ cs, wfL c :=
  rows_open Try.underlying30 (by kernel_rfl) (by decide) letter_rd h

theorem szLetters_any (n cap : Nat) (a : Option Addr) (left : Int) (w : World) (h0 : 0 ≤ left) (h1 : left ≤ 1048576) (hn : n ≤ maxLen) :
    Calls Try.prog 16 #[.slice a n cap, .int .i64 left] w fun e w' => e = .returned (.int .i64 (if left - (n : Int) < 0 then -1 else left - (n : Int))) ∧ w' = w := by
  unfold maxLen at hn
  by_cases h : left - (n : Int) < 0
  · rw [if_pos h]
    go_enter Try.func16, Try.ntmps16
    go_wp2
    go_ret
    exact ⟨rfl, rfl⟩
  · rw [if_neg h]
    go_enter Try.func16, Try.ntmps16
    go_wp2
    go_ret
    exact ⟨rfl, rfl⟩
theorem szInts_any (n cap : Nat) (a : Option Addr) (left : Int) (w : World) (h0 : 0 ≤ left) (h1 : left ≤ 1048576) (hn : n ≤ maxLen) :
    Calls Try.prog 12 #[.slice a n cap, .int .i64 left] w fun e w' => e = .returned (.int .i64 (if left - (n : Int) < 0 then -1 else left - (n : Int))) ∧ w' = w := by
  unfold maxLen at hn
  by_cases h : left - (n : Int) < 0
  · rw [if_pos h]
    go_enter Try.func12, Try.ntmps12
    go_wp2
    go_ret
    exact ⟨rfl, rfl⟩
  · rw [if_neg h]
    go_enter Try.func12, Try.ntmps12
    go_wp2
    go_ret
    exact ⟨rfl, rfl⟩

theorem eqQ4_yes (a b c d : Int) (w : World) :
    Calls Try.prog 33 #[.agg #[.int .i64 a, .int .i64 b, .int .i64 c, .int .i64 d], .agg #[.int .i64 a, .int .i64 b, .int .i64 c, .int .i64 d]] w fun e w' => e = .returned (.bool true) ∧ Below w.heap.size w w' := by
  go_enter Try.func33, Try.ntmps33
  go_wp2
  go_ret
  exact ⟨rfl, ba (ba (Below.refl _ _) _) _⟩
theorem eqV4_yes (a b c d : Int) (w : World) :
    Calls Try.prog 34 #[.agg #[.int .i64 a, .int .i64 b, .int .i64 c, .int .i64 d], .agg #[.int .i64 a, .int .i64 b, .int .i64 c, .int .i64 d]] w fun e w' => e = .returned (.bool true) ∧ Below w.heap.size w w' := by
  go_enter Try.func34, Try.ntmps34
  go_wp2
  go_ret
  exact ⟨rfl, ba (ba (Below.refl _ _) _) _⟩

set_option maxRecDepth 100000 in
set_option maxHeartbeats 2000000 in
theorem eqLetter_yes (l : LT) (w : World) :
    Calls Try.prog 9 #[letV l, letV l] w fun e w' => e = .returned (.bool true) ∧ Below w.heap.size w w' := by
  obtain ⟨⟨k, f, t, v, b⟩, ⟨q0, q1, q2, q3⟩, ⟨v0, v1, v2, v3⟩⟩ := l
  unfold letV
  simp only
  obtain ⟨W, hW⟩ : ∃ W, W = (w.alloc (.cells #[.int .i64 k, .int .i64 f, .int .i64 t, .int .i64 v, .int .i64 b, .int .i64 q0, .int .i64 q1, .int .i64 q2, .int .i64 q3, .int .i64 v0, .int .i64 v1, .int .i64 v2, .int .i64 v3] 43)).alloc (.cells #[.int .i64 k, .int .i64 f, .int .i64 t, .int .i64 v, .int .i64 b, .int .i64 q0, .int .i64 q1, .int .i64 q2, .int .i64 q3, .int .i64 v0, .int .i64 v1, .int .i64 v2, .int .i64 v3] 43) := ⟨_, rfl⟩
  have HB : Hid (Below w.heap.size w W) := (by rw [hW]; exact ba (ba (Below.refl _ _) _) _ : Below w.heap.size w W)
  have HA : Hid (W.heap[w.heap.size]? = some (.cells #[.int .i64 k, .int .i64 f, .int .i64 t, .int .i64 v, .int .i64 b, .int .i64 q0, .int .i64 q1, .int .i64 q2, .int .i64 q3, .int .i64 v0, .int .i64 v1, .int .i64 v2, .int .i64 v3] 43 (0, 0))) := (by rw [hW]; exact (alloc2 w _ _).1 : W.heap[w.heap.size]? = _)
  have HC : Hid (W.heap[w.heap.size + 1]? = some (.cells #[.int .i64 k, .int .i64 f, .int .i64 t, .int .i64 v, .int .i64 b, .int .i64 q0, .int .i64 q1, .int .i64 q2, .int .i64 q3, .int .i64 v0, .int .i64 v1, .int .i64 v2, .int .i64 v3] 43 (0, 0))) := (by rw [hW]; exact (alloc2 w _ _).2 : W.heap[w.heap.size + 1]? = _)
  go_enter Try.func9, Try.ntmps9
  have c0 := blk_cell HA.out 0 (.int .i64 k) rfl
  have e0 := blk_cell HC.out 0 (.int .i64 k) rfl
  have c1 := blk_cell HA.out 1 (.int .i64 f) rfl
  have e1 := blk_cell HC.out 1 (.int .i64 f) rfl
  have c2 := blk_cell HA.out 2 (.int .i64 t) rfl
  have e2 := blk_cell HC.out 2 (.int .i64 t) rfl
  have c3 := blk_cell HA.out 3 (.int .i64 v) rfl
  have e3 := blk_cell HC.out 3 (.int .i64 v) rfl
  have c4 := blk_cell HA.out 4 (.int .i64 b) rfl
  have e4 := blk_cell HC.out 4 (.int .i64 b) rfl
  have c5 := blk_cell HA.out 5 (.int .i64 q0) rfl
  have e5 := blk_cell HC.out 5 (.int .i64 q0) rfl
  have c6 := blk_cell HA.out 6 (.int .i64 q1) rfl
  have e6 := blk_cell HC.out 6 (.int .i64 q1) rfl
  have c7 := blk_cell HA.out 7 (.int .i64 q2) rfl
  have e7 := blk_cell HC.out 7 (.int .i64 q2) rfl
  have c8 := blk_cell HA.out 8 (.int .i64 q3) rfl
  have e8 := blk_cell HC.out 8 (.int .i64 q3) rfl
  rw [hW] at c0 e0 c1 e1 c2 e2 c3 e3 c4 e4 c5 e5 c6 e6 c7 e7 c8 e8
  go_wp2_with fail
  rw [← hW]
  clear hW c0 e0 c1 e1 c2 e2 c3 e3 c4 e4 c5 e5 c6 e6 c7 e7 c8 e8
  have lW : w.heap.size + 1 < W.heap.size := (Array.getElem?_eq_some_iff.1 HC.out).1
  refine (eqQ4_yes q0 q1 q2 q3 W).mono ?_
  rintro e w1 ⟨rfl, b1⟩
  have HB1 : Hid (Below w.heap.size w w1) := bt HB.out b1
  have c9 := blk_cell ((b1.block _ (by omega)).trans HA.out) 9 (.int .i64 v0) rfl
  have e9 := blk_cell ((b1.block _ (by omega)).trans HC.out) 9 (.int .i64 v0) rfl
  have c10 := blk_cell ((b1.block _ (by omega)).trans HA.out) 10 (.int .i64 v1) rfl
  have e10 := blk_cell ((b1.block _ (by omega)).trans HC.out) 10 (.int .i64 v1) rfl
  have c11 := blk_cell ((b1.block _ (by omega)).trans HA.out) 11 (.int .i64 v2) rfl
  have e11 := blk_cell ((b1.block _ (by omega)).trans HC.out) 11 (.int .i64 v2) rfl
  have c12 := blk_cell ((b1.block _ (by omega)).trans HA.out) 12 (.int .i64 v3) rfl
  have e12 := blk_cell ((b1.block _ (by omega)).trans HC.out) 12 (.int .i64 v3) rfl
  clear b1
  go_wp2_with fail
  clear c9 e9 c10 e10 c11 e11 c12 e12
  refine (eqV4_yes v0 v1 v2 v3 w1).mono ?_
  rintro e w2 ⟨rfl, b2⟩
  have HB2 : Hid (Below w.heap.size w w2) := bt HB1.out b2
  clear b2
  go_wp2
  go_ret
  exact ⟨rfl, HB2.out⟩

set_option maxRecDepth 100000 in
set_option maxHeartbeats 4000000 in
theorem eqLetters_yes (l : List LT) (a b : Value) (w : World) (ha : RowsR w a 13 letF l) (hb : RowsR w b 13 letF l) (hl : (l.length : Int) ≤ 1048576) :
    Calls Try.prog 39 #[a, b] w fun e w' => e = .returned (.bool true) ∧ Below w.heap.size w w' := by
  obtain ⟨a, ca, rfl, hra⟩ := ha
  obtain ⟨b, cb, rfl, hrb⟩ := hb
  have HA : Hid (0 < l.length → _) := hra
  have HB : Hid (0 < l.length → _) := hrb
  clear hra hrb
  go_enter Try.func39, Try.ntmps39
  go_wp2
  go_loopw [5] (fun i wr => ∃ m : Nat, m ≤ l.length ∧ i = .int .i64 m ∧ Below w.heap.size w wr) (fun i _ => l.length - (intOf i).toNat)
  case atStart => exact ⟨0, Nat.zero_le _, rfl, Below.refl _ _⟩
  case round =>
    obtain ⟨m, hm, rfl, hbel⟩ := hrel
    by_cases hlt : (m : Int) < l.length
    · have q0 : (0 : Int) ≤ (m : Int) := by omega
      have hmn : m < l.length := by omega
      obtain ⟨ga, oa, rfl, hga, hca⟩ := HA.out (by omega)
      obtain ⟨gb, ob, rfl, hgb, hcb⟩ := HB.out (by omega)
      have hne := bw_some wr
      obtain ⟨y, hy⟩ : ∃ y, y = l[m] := ⟨_, rfl⟩
      have HQ : Hid (∀ x, Calls Try.prog 9 #[letV y, letV y] x fun e w' => e = .returned (.bool true) ∧ Below x.heap.size x w') := fun x => eqLetter_yes y x
      obtain ⟨⟨y0, y1, y2, y3, y4⟩, ⟨y5, y6, y7, y8⟩, ⟨y9, y10, y11, y12⟩⟩ := y
      unfold letV at HQ
      simp only at HQ
      have c0 : ∀ x : Bw wr, x.to.cell? ⟨ga, oa + m * 13, none⟩ = some (.int .i64 y0) := fun x => by rw [(bt hbel x.below).cell (by exact hga)]; have := hca m hmn 0 (by omega); rw [← hy] at this; exact this
      have d0 : ∀ x : Bw wr, x.to.cell? ⟨gb, ob + m * 13, none⟩ = some (.int .i64 y0) := fun x => by rw [(bt hbel x.below).cell (by exact hgb)]; have := hcb m hmn 0 (by omega); rw [← hy] at this; exact this
      have c1 : ∀ x : Bw wr, x.to.cell? ⟨ga, oa + m * 13 + 1, none⟩ = some (.int .i64 y1) := fun x => by rw [(bt hbel x.below).cell (by exact hga)]; have := hca m hmn 1 (by omega); rw [← hy] at this; exact this
      have d1 : ∀ x : Bw wr, x.to.cell? ⟨gb, ob + m * 13 + 1, none⟩ = some (.int .i64 y1) := fun x => by rw [(bt hbel x.below).cell (by exact hgb)]; have := hcb m hmn 1 (by omega); rw [← hy] at this; exact this
      have c2 : ∀ x : Bw wr, x.to.cell? ⟨ga, oa + m * 13 + 2, none⟩ = some (.int .i64 y2) := fun x => by rw [(bt hbel x.below).cell (by exact hga)]; have := hca m hmn 2 (by omega); rw [← hy] at this; exact this
      have d2 : ∀ x : Bw wr, x.to.cell? ⟨gb, ob + m * 13 + 2, none⟩ = some (.int .i64 y2) := fun x => by rw [(bt hbel x.below).cell (by exact hgb)]; have := hcb m hmn 2 (by omega); rw [← hy] at this; exact this
      have c3 : ∀ x : Bw wr, x.to.cell? ⟨ga, oa + m * 13 + 3, none⟩ = some (.int .i64 y3) := fun x => by rw [(bt hbel x.below).cell (by exact hga)]; have := hca m hmn 3 (by omega); rw [← hy] at this; exact this
      have d3 : ∀ x : Bw wr, x.to.cell? ⟨gb, ob + m * 13 + 3, none⟩ = some (.int .i64 y3) := fun x => by rw [(bt hbel x.below).cell (by exact hgb)]; have := hcb m hmn 3 (by omega); rw [← hy] at this; exact this
      have c4 : ∀ x : Bw wr, x.to.cell? ⟨ga, oa + m * 13 + 4, none⟩ = some (.int .i64 y4) := fun x => by rw [(bt hbel x.below).cell (by exact hga)]; have := hca m hmn 4 (by omega); rw [← hy] at this; exact this
      have d4 : ∀ x : Bw wr, x.to.cell? ⟨gb, ob + m * 13 + 4, none⟩ = some (.int .i64 y4) := fun x => by rw [(bt hbel x.below).cell (by exact hgb)]; have := hcb m hmn 4 (by omega); rw [← hy] at this; exact this
      have c5 : ∀ x : Bw wr, x.to.cell? ⟨ga, oa + m * 13 + 5, none⟩ = some (.int .i64 y5) := fun x => by rw [(bt hbel x.below).cell (by exact hga)]; have := hca m hmn 5 (by omega); rw [← hy] at this; exact this
      have d5 : ∀ x : Bw wr, x.to.cell? ⟨gb, ob + m * 13 + 5, none⟩ = some (.int .i64 y5) := fun x => by rw [(bt hbel x.below).cell (by exact hgb)]; have := hcb m hmn 5 (by omega); rw [← hy] at this; exact this
      have c6 : ∀ x : Bw wr, x.to.cell? ⟨ga, oa + m * 13 + 6, none⟩ = some (.int .i64 y6) := fun x => by rw [(bt hbel x.below).cell (by exact hga)]; have := hca m hmn 6 (by omega); rw [← hy] at this; exact this
      have d6 : ∀ x : Bw wr, x.to.cell? ⟨gb, ob + m * 13 + 6, none⟩ = some (.int .i64 y6) := fun x => by rw [(bt hbel x.below).cell (by exact hgb)]; have := hcb m hmn 6 (by omega); rw [← hy] at this; exact this
      have c7 : ∀ x : Bw wr, x.to.cell? ⟨ga, oa + m * 13 + 7, none⟩ = some (.int .i64 y7) := fun x => by rw [(bt hbel x.below).cell (by exact hga)]; have := hca m hmn 7 (by omega); rw [← hy] at this; exact this
      have d7 : ∀ x : Bw wr, x.to.cell? ⟨gb, ob + m * 13 + 7, none⟩ = some (.int .i64 y7) := fun x => by rw [(bt hbel x.below).cell (by exact hgb)]; have := hcb m hmn 7 (by omega); rw [← hy] at this; exact this
      have c8 : ∀ x : Bw wr, x.to.cell? ⟨ga, oa + m * 13 + 8, none⟩ = some (.int .i64 y8) := fun x => by rw [(bt hbel x.below).cell (by exact hga)]; have := hca m hmn 8 (by omega); rw [← hy] at this; exact this
      have d8 : ∀ x : Bw wr, x.to.cell? ⟨gb, ob + m * 13 + 8, none⟩ = some (.int .i64 y8) := fun x => by rw [(bt hbel x.below).cell (by exact hgb)]; have := hcb m hmn 8 (by omega); rw [← hy] at this; exact this
      have c9 : ∀ x : Bw wr, x.to.cell? ⟨ga, oa + m * 13 + 9, none⟩ = some (.int .i64 y9) := fun x => by rw [(bt hbel x.below).cell (by exact hga)]; have := hca m hmn 9 (by omega); rw [← hy] at this; exact this
      have d9 : ∀ x : Bw wr, x.to.cell? ⟨gb, ob + m * 13 + 9, none⟩ = some (.int .i64 y9) := fun x => by rw [(bt hbel x.below).cell (by exact hgb)]; have := hcb m hmn 9 (by omega); rw [← hy] at this; exact this
      have c10 : ∀ x : Bw wr, x.to.cell? ⟨ga, oa + m * 13 + 10, none⟩ = some (.int .i64 y10) := fun x => by rw [(bt hbel x.below).cell (by exact hga)]; have := hca m hmn 10 (by omega); rw [← hy] at this; exact this
      have d10 : ∀ x : Bw wr, x.to.cell? ⟨gb, ob + m * 13 + 10, none⟩ = some (.int .i64 y10) := fun x => by rw [(bt hbel x.below).cell (by exact hgb)]; have := hcb m hmn 10 (by omega); rw [← hy] at this; exact this
      have c11 : ∀ x : Bw wr, x.to.cell? ⟨ga, oa + m * 13 + 11, none⟩ = some (.int .i64 y11) := fun x => by rw [(bt hbel x.below).cell (by exact hga)]; have := hca m hmn 11 (by omega); rw [← hy] at this; exact this
      have d11 : ∀ x : Bw wr, x.to.cell? ⟨gb, ob + m * 13 + 11, none⟩ = some (.int .i64 y11) := fun x => by rw [(bt hbel x.below).cell (by exact hgb)]; have := hcb m hmn 11 (by omega); rw [← hy] at this; exact this
      have c12 : ∀ x : Bw wr, x.to.cell? ⟨ga, oa + m * 13 + 12, none⟩ = some (.int .i64 y12) := fun x => by rw [(bt hbel x.below).cell (by exact hga)]; have := hca m hmn 12 (by omega); rw [← hy] at this; exact this
      have d12 : ∀ x : Bw wr, x.to.cell? ⟨gb, ob + m * 13 + 12, none⟩ = some (.int .i64 y12) := fun x => by rw [(bt hbel x.below).cell (by exact hgb)]; have := hcb m hmn 12 (by omega); rw [← hy] at this; exact this
      clear hca hcb hy
      go_wp2
      refine wp_region_bw (by kernel_rfl) (by kernel_rfl) ?_
      repeat (go_big_quiet_step (with_reducible refine calls_bw (HQ.out _)))
      refine wpQuiet_nil ?_
      intro _ hw'
      obtain ⟨x, rfl⟩ := hw'
      go_wp2
      go_roundw
      case rel => exact ⟨m + 1, by omega, by go_num, bt hbel x.below⟩
      case measure => simp [intOf]; omega
    · go_wp2
      go_ret
      exact ⟨rfl, hbel⟩

theorem infoLetter : (Try.prog.info? 43).map (fun i => (i.zero, i.size, i.bytes)) = some (some (.agg #[.int .i64 0, .int .i64 0, .int .i64 0, .int .i64 0, .int .i64 0, .int .i64 0, .int .i64 0, .int .i64 0, .int .i64 0, .int .i64 0, .int .i64 0, .int .i64 0, .int .i64 0]), 13, 104) := by kernel_rfl
set_option maxRecDepth 100000 in
set_option maxHeartbeats 4000000 in
theorem toLetters_any (l : List LT) (v : Value) (w : World) (hv : RowsR w v 13 letF l) (hl : (l.length : Int) ≤ 1048576) :
    Calls Try.prog 28 #[v] w fun e w' => ∃ v', e = .returned v' ∧ w'.ownsRow w.heap.size 43 13 v' l.length (flatR letF l) ∧ Below w.heap.size w w' := by
  obtain ⟨i0, hi, hz0, hz1, hz2⟩ := info_parts infoLetter
  obtain ⟨a, cap, rfl, hr⟩ := hv
  have HR : Hid (0 < l.length → _) := hr
  clear hr
  go_enter Try.func28, Try.ntmps28
  go_wp2_with (at_make; refine wpList_make_full _ rfl _ _ 39 rfl w.heap.size 43 i0 _ 13 Try.underlying39 hi hz0 hz1 _ _ _ _ l.length rfl rfl (by omega) (by omega) (by rw [hz2]; omega) (by unfold maxLen; omega) (Nat.le_refl _) ?_; intro w0 hown0 hgrow0)
  have hb0 : Below w.heap.size w w0 := (Below.refl _ _).grown hgrow0 (Nat.le_refl _) (fun k h => by cases h)
  have HO0 : Hid (w0.ownsRow w.heap.size 43 13 (.slice (some ⟨w.heap.size, 0, none⟩) l.length l.length) l.length _) := hown0
  clear hgrow0 hown0
  go_loopw [4] (fun i wr => ∃ (k : Nat) (xs : List Value), k ≤ l.length ∧ i = .int .i64 k ∧ Hid (upToR letF 13 l xs k) ∧ Hid (wr.ownsRow w.heap.size 43 13 (.slice (some ⟨w.heap.size, 0, none⟩) l.length l.length) l.length xs) ∧ Below w.heap.size w wr) (fun i _ => l.length - (intOf i).toNat)
  case atStart => exact ⟨0, _, Nat.zero_le _, rfl, upToR_zero HO0.out.1, HO0.out, hb0⟩
  case round =>
    obtain ⟨k, xs, hk, rfl, HX, HO, hbel⟩ := hrel
    clear hb0
    by_cases hlt : (k : Int) < l.length
    · have hkn : k < l.length := by omega
      obtain ⟨g, off, rfl, hg, hc⟩ := HR.out (by omega)
      obtain ⟨y, hy⟩ : ∃ y, y = l[k] := ⟨_, rfl⟩
      have HY : Hid (y = l[k]) := hy
      have HQ : Hid (∀ x, Calls Try.prog 54 #[letV y] x fun e w' => e = .returned (letV y) ∧ Below x.heap.size x w') := fun x => toLetter_any y x
      obtain ⟨⟨y0, y1, y2, y3, y4⟩, ⟨y5, y6, y7, y8⟩, ⟨y9, y10, y11, y12⟩⟩ := y
      unfold letV at HQ
      simp only at HQ
      have c0 : wr.cell? ⟨g, off + k * 13, none⟩ = some (.int .i64 y0) := by rw [hbel.cell (by exact hg)]; have := hc k hkn 0 (by omega); rw [← hy] at this; exact this
      have c1 : wr.cell? ⟨g, off + k * 13 + 1, none⟩ = some (.int .i64 y1) := by rw [hbel.cell (by exact hg)]; have := hc k hkn 1 (by omega); rw [← hy] at this; exact this
      have c2 : wr.cell? ⟨g, off + k * 13 + 2, none⟩ = some (.int .i64 y2) := by rw [hbel.cell (by exact hg)]; have := hc k hkn 2 (by omega); rw [← hy] at this; exact this
      have c3 : wr.cell? ⟨g, off + k * 13 + 3, none⟩ = some (.int .i64 y3) := by rw [hbel.cell (by exact hg)]; have := hc k hkn 3 (by omega); rw [← hy] at this; exact this
      have c4 : wr.cell? ⟨g, off + k * 13 + 4, none⟩ = some (.int .i64 y4) := by rw [hbel.cell (by exact hg)]; have := hc k hkn 4 (by omega); rw [← hy] at this; exact this
      have c5 : wr.cell? ⟨g, off + k * 13 + 5, none⟩ = some (.int .i64 y5) := by rw [hbel.cell (by exact hg)]; have := hc k hkn 5 (by omega); rw [← hy] at this; exact this
      have c6 : wr.cell? ⟨g, off + k * 13 + 6, none⟩ = some (.int .i64 y6) := by rw [hbel.cell (by exact hg)]; have := hc k hkn 6 (by omega); rw [← hy] at this; exact this
      have c7 : wr.cell? ⟨g, off + k * 13 + 7, none⟩ = some (.int .i64 y7) := by rw [hbel.cell (by exact hg)]; have := hc k hkn 7 (by omega); rw [← hy] at this; exact this
      have c8 : wr.cell? ⟨g, off + k * 13 + 8, none⟩ = some (.int .i64 y8) := by rw [hbel.cell (by exact hg)]; have := hc k hkn 8 (by omega); rw [← hy] at this; exact this
      have c9 : wr.cell? ⟨g, off + k * 13 + 9, none⟩ = some (.int .i64 y9) := by rw [hbel.cell (by exact hg)]; have := hc k hkn 9 (by omega); rw [← hy] at this; exact this
      have c10 : wr.cell? ⟨g, off + k * 13 + 10, none⟩ = some (.int .i64 y10) := by rw [hbel.cell (by exact hg)]; have := hc k hkn 10 (by omega); rw [← hy] at this; exact this
      have c11 : wr.cell? ⟨g, off + k * 13 + 11, none⟩ = some (.int .i64 y11) := by rw [hbel.cell (by exact hg)]; have := hc k hkn 11 (by omega); rw [← hy] at this; exact this
      have c12 : wr.cell? ⟨g, off + k * 13 + 12, none⟩ = some (.int .i64 y12) := by rw [hbel.cell (by exact hg)]; have := hc k hkn 12 (by omega); rw [← hy] at this; exact this
      have q0 : (0 : Int) ≤ (k : Int) := by omega
      clear hc hy
      go_wp2_with fail
      clear c0 c1 c2 c3 c4 c5 c6 c7 c8 c9 c10 c11 c12
      refine (HQ.out wr).mono ?_
      rintro e w1 ⟨rfl, hb1⟩
      have HO1 := hid (own_kept HO.out hb1)
      have B1 := bt hbel hb1
      have HB1 : Hid (Below w.heap.size w w1) := B1
      clear B1 hb1 hbel HO
      go_wp2_with (refine wpList_store_elem rfl _ _ _ rfl w.heap.size 43 13 l.length l.length w.heap.size k _ #[.int .i64 y0, .int .i64 y1, .int .i64 y2, .int .i64 y3, .int .i64 y4, .int .i64 y5, .int .i64 y6, .int .i64 y7, .int .i64 y8, .int .i64 y9, .int .i64 y10, .int .i64 y11, .int .i64 y12] xs rfl (by omega) rfl HO1.out hkn (by kernel_rfl) rfl (by simp [Value.oneCell']) ?_; intro w2 hg2 ho2; have HO2 : Hid (w2.ownsRow w.heap.size 43 13 (.slice (some ⟨w.heap.size, 0, none⟩) l.length l.length) l.length (setEl xs k 13 (letF l[k]))) := (by rw [← HY.out]; exact ho2); have HB2 : Hid (Below w.heap.size w w2) := HB1.out.grown hg2 HB1.out.size (fun b hb => by cases hb; exact Nat.le_refl _); clear hg2 ho2)
      go_roundw
      case rel => exact ⟨k + 1, _, by omega, by go_num, upToR_part letF_len HX.out hkn, HO2.out, HB2.out⟩
      case measure => simp [intOf]; omega
    · have hkl : k = l.length := by omega
      have HK : Hid (k = l.length) := hkl
      clear hkl
      go_wp2
      go_ret
      have hx := HX.out
      rw [HK.out] at hx
      exact ⟨_, rfl, by have := HO.out; rw [upToR_all letF_len hx] at this; exact this, hbel⟩

end Go.Proofs.Ytdopefimjabigat
