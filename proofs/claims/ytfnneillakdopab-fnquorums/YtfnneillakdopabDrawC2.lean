/-
  Contracts of the specification's drawing functions of accounts and commands that may be wrong: of a size that is met.
-/
import Derived.Test.YtfnneillakdopabDrawC
namespace Go.Proofs.Ytfnneillakdopab
open Go.RowKit Num

theorem row_cells {w : World} {X : Nat} {a b c : Value} {t : TypeId} (h : w.heap[X]? = Option.some (.cells #[a, b, c] t (0, 0))) : w.cell? ⟨X, 0, none⟩ = Option.some a ∧ w.cell? ⟨X, 1, none⟩ = Option.some b ∧ w.cell? ⟨X, 2, none⟩ = Option.some c := by
  refine ⟨?_, ?_, ?_⟩
  · rw [cell_of_row w X 0 _ _ (0, 0) h]; rfl
  · rw [cell_of_row w X 1 _ _ (0, 0) h]; rfl
  · rw [cell_of_row w X 2 _ _ (0, 0) h]; rfl

/-- the keys that are drawn, right or not -/
def akey (k : Nat) : ByteArray := match k with
  | 0 => ByteArray.empty
  | 1 => ⟨#[65]⟩
  | _ => ⟨#[97, 98, 99, 100]⟩
theorem akey_size (k : Nat) : (akey k).size ≤ 4 := by
  match k with
  | 0 => decide
  | 1 => decide
  | _ + 2 => exact (by decide : (⟨#[97, 98, 99, 100]⟩ : ByteArray).size ≤ 4)
def anum (k : Nat) : Int := match k with
  | 0 => -1
  | 1 => 1000000000
  | 2 => 1000000001
  | _ => 9223372036854775807

set_option maxRecDepth 100000 in
set_option maxHeartbeats 2000000 in
theorem any_st {w : World} {B : Nat} {ao : Option Addr} {len cap b off : Nat} (h : St w B ao len cap b off) :
    Calls Try.prog 84 #[.pointer (Option.some ⟨B, 0, none⟩)] w fun e w' => ∃ c : CM, e = .returned (cmdV c) ∧ c.2.1.size ≤ 4 ∧ St w' B ao len cap b off ∧ w.grownBy w' (Option.some B) := by
  have H : Hid (St w B ao len cap b off) := h
  have hBw := h.cur.lt
  clear h
  go_enter Try.func84, Try.ntmps84
  go_wp2_with fail
  have hb : Below w.heap.size w (w.alloc (.cells #[.int .i64 0, .string ByteArray.empty, .int .i64 0] 103)) := (Below.refl _ _).alloc (Nat.le_refl _) _
  refine (cmd_st (H.out.below hb)).mono ?_
  rintro e w2 ⟨⟨kd, key, num⟩, rfl, _, hsz, hS2, hg2⟩
  simp only at hsz
  have hR2 : w2.heap[w.heap.size]? = Option.some (.cells #[.int .i64 0, .string ByteArray.empty, .int .i64 0] 103 (0, 0)) := (hg2.block w.heap.size (by simp) (fun e => by have := Option.some.inj e; omega)).trans (heap_alloc_new w _)
  have hs2 : w.heap.size < w2.heap.size := (Array.getElem?_eq_some_iff.1 hR2).1
  have hb2 : Below w2.heap.size w2 (w2.alloc (.cells #[.int .i64 kd, .string key, .int .i64 num] 103)) := (Below.refl _ _).alloc (Nat.le_refl _) _
  have HS2 : Hid (St (w2.alloc (.cells #[.int .i64 kd, .string key, .int .i64 num] 103)) B ao len cap b off) := hS2.below hb2
  have HG2 : Hid (w.grownBy (w2.alloc (.cells #[.int .i64 kd, .string key, .int .i64 num] 103)) (Option.some B)) := grown_tr (grown_tr (grown_none hb) hg2) (grown_none hb2)
  have HR2 : Hid ((w2.alloc (.cells #[.int .i64 kd, .string key, .int .i64 num] 103)).heap[w.heap.size]? = Option.some (.cells #[.int .i64 0, .string ByteArray.empty, .int .i64 0] 103 (0, 0))) := (hb2.block _ hs2).trans hR2
  have HX2 : Hid ((w2.alloc (.cells #[.int .i64 kd, .string key, .int .i64 num] 103)).heap[w2.heap.size]? = Option.some (.cells #[.int .i64 kd, .string key, .int .i64 num] 103 (0, 0))) := heap_alloc_new w2 _
  have hs2' : (w2.alloc (.cells #[.int .i64 kd, .string key, .int .i64 num] 103)).heap.size = w2.heap.size + 1 := by simp
  have hbd : 0 < len → b < w.heap.size := H.out.code.lt
  clear hb hg2 hS2 hb2 hR2
  unfold cmdV
  go_wp2_with fail
  refine (below_st 8 (by omega) (by omega) HS2.out).mono ?_
  rintro e w3 ⟨x, rfl, hx0, hx1, hS3, hg3⟩
  have HS3 : Hid (St w3 B ao len cap b off) := hS3
  have HG3 : Hid (w.grownBy w3 (Option.some B)) := grown_tr HG2.out hg3
  have HR3 : Hid (w3.heap[w.heap.size]? = Option.some (.cells #[.int .i64 0, .string ByteArray.empty, .int .i64 0] 103 (0, 0))) := (hg3.block _ (by omega) (fun e => by have := Option.some.inj e; omega)).trans HR2.out
  have HX3 : Hid (w3.heap[w2.heap.size]? = Option.some (.cells #[.int .i64 kd, .string key, .int .i64 num] 103 (0, 0))) := (hg3.block _ (by omega) (fun e => by have := Option.some.inj e; omega)).trans HX2.out
  have hs3 : w2.heap.size < w3.heap.size := (Array.getElem?_eq_some_iff.1 HX3.out).1
  clear hS3 hg3 HS2 HG2 HR2 HX2 hs2'
  by_cases h0 : x = 0
  · have q0 : (x == 0) = true := by simp [h0]
    clear h0
    have HG3b := HG3
    have HR3b := HR3
    have HX3b := HX3
    go_wp2_with fail
    refine (below_st 5 (by omega) (by omega) HS3.out).mono ?_
    rintro e w4 ⟨y, rfl, hy0, hy1, hS4, hg4⟩
    have HS4 : Hid (St w4 B ao len cap b off) := hS4
    have HG4 : Hid (w.grownBy w4 (Option.some B)) := grown_tr HG3b.out hg4
    have hR4 : w4.heap[w.heap.size]? = Option.some (.cells #[.int .i64 0, .string ByteArray.empty, .int .i64 0] 103 (0, 0)) := (hg4.block _ (by first | omega | (simp; omega)) (fun e => by have := Option.some.inj e; omega)).trans HR3b.out
    have hX4 : w4.heap[w2.heap.size]? = Option.some (.cells #[.int .i64 kd, .string key, .int .i64 num] 103 (0, 0)) := (hg4.block _ (by first | omega | (simp; omega)) (fun e => by have := Option.some.inj e; omega)).trans HX3b.out
    have a0 := (row_cells hX4).1
    have b0 := frozen_of_row w4 w2.heap.size 0 _ _ hX4
    have hX5 : (w4.setCell ⟨w2.heap.size, 0, none⟩ (.int .i64 y)).heap[w2.heap.size]? = Option.some (.cells #[.int .i64 y, .string key, .int .i64 num] 103 (0, 0)) := heap_setCell_same w4 w2.heap.size 0 _ _ _ hX4
    have hR5 : (w4.setCell ⟨w2.heap.size, 0, none⟩ (.int .i64 y)).heap[w.heap.size]? = Option.some (.cells #[.int .i64 0, .string ByteArray.empty, .int .i64 0] 103 (0, 0)) := (heap_setCell_other w4 ⟨w2.heap.size, 0, none⟩ w.heap.size _ (by exact Nat.ne_of_lt hs2)).trans hR4
    obtain ⟨c0, c1, c2⟩ := row_cells hX5
    obtain ⟨⟨x0, f0⟩, ⟨x1, f1⟩, ⟨x2, f2⟩, hk6, hg6⟩ := blk_three hR5 (.int .i64 y) (.string key) (.int .i64 num)
    obtain ⟨y0, y1, y2⟩ := row_cells hk6
    have HG6 : Hid (World.grownBy _ _ (Option.some w.heap.size)) := hg6
    have HG5 : Hid (World.grownBy w4 _ (Option.some w2.heap.size)) := set_grown w4 w2.heap.size 0 (.int .i64 y)
    clear hS4 hg4 hR4 hX4 hX5 hR5 hk6 hg6
    go_wp2
    refine bodyPost_ret (v := .agg #[_, _, _]) (by simp [results, Try.results84, go_sem, y0, y1, y2]; exact ⟨rfl, rfl, rfl⟩) rfl ?_
    exact ⟨(y, key, num), rfl, by simp only; omega, (HS4.out.other HG5.out (by omega) (fun hl e => by have := hbd hl; omega)).other HG6.out (by omega) (fun hl e => by have := hbd hl; omega), grown_two (grown_two HG4.out (by omega) HG5.out) (by omega) HG6.out⟩
  · have q0 : (x == 0) = false := by simp [h0]
    by_cases h1 : x = 1
    · have q1 : (x == 1) = true := by simp [h1]
      clear h0 h1
      have hb3 : Below w3.heap.size w3 (w3.alloc (.cells #[.string ByteArray.empty, .string ⟨#[65]⟩, .string ⟨#[97, 98, 99, 100]⟩] 9)) := (Below.refl _ _).alloc (Nat.le_refl _) _
      have HG3b : Hid (w.grownBy (w3.alloc (.cells #[.string ByteArray.empty, .string ⟨#[65]⟩, .string ⟨#[97, 98, 99, 100]⟩] 9)) (Option.some B)) := grown_tr HG3.out (grown_none hb3)
      have HR3b : Hid ((w3.alloc (.cells #[.string ByteArray.empty, .string ⟨#[65]⟩, .string ⟨#[97, 98, 99, 100]⟩] 9)).heap[w.heap.size]? = Option.some (.cells #[.int .i64 0, .string ByteArray.empty, .int .i64 0] 103 (0, 0))) := (hb3.block _ (by omega)).trans HR3.out
      have HX3b : Hid ((w3.alloc (.cells #[.string ByteArray.empty, .string ⟨#[65]⟩, .string ⟨#[97, 98, 99, 100]⟩] 9)).heap[w2.heap.size]? = Option.some (.cells #[.int .i64 kd, .string key, .int .i64 num] 103 (0, 0))) := (hb3.block _ hs3).trans HX3.out
      go_wp2_with fail
      refine (pickS_st akey 3 (by omega) (by omega) (HS3.out.below hb3) (by have := HS3.out.cur.lt; omega) (by simp) (fun j hj => ?_)).mono ?_
      · rw [cell_of_row _ w3.heap.size j _ _ (0, 0) (heap_alloc_new w3 _)]
        match j, hj with
        | 0, _ => rfl
        | 1, _ => rfl
        | 2, _ => rfl
      rintro e w4 ⟨j, _, rfl, hS4, hg4⟩
      have HS4 : Hid (St w4 B ao len cap b off) := hS4
      have HG4 : Hid (w.grownBy w4 (Option.some B)) := grown_tr HG3b.out hg4
      have hR4 : w4.heap[w.heap.size]? = Option.some (.cells #[.int .i64 0, .string ByteArray.empty, .int .i64 0] 103 (0, 0)) := (hg4.block _ (by first | omega | (simp; omega)) (fun e => by have := Option.some.inj e; omega)).trans HR3b.out
      have hX4 : w4.heap[w2.heap.size]? = Option.some (.cells #[.int .i64 kd, .string key, .int .i64 num] 103 (0, 0)) := (hg4.block _ (by first | omega | (simp; omega)) (fun e => by have := Option.some.inj e; omega)).trans HX3b.out
      have a0 := (row_cells hX4).2.1
      have b0 := frozen_of_row w4 w2.heap.size 1 _ _ hX4
      have hX5 : (w4.setCell ⟨w2.heap.size, 1, none⟩ (.string (akey j))).heap[w2.heap.size]? = Option.some (.cells #[.int .i64 kd, .string (akey j), .int .i64 num] 103 (0, 0)) := heap_setCell_same w4 w2.heap.size 1 _ _ _ hX4
      have hR5 : (w4.setCell ⟨w2.heap.size, 1, none⟩ (.string (akey j))).heap[w.heap.size]? = Option.some (.cells #[.int .i64 0, .string ByteArray.empty, .int .i64 0] 103 (0, 0)) := (heap_setCell_other w4 ⟨w2.heap.size, 1, none⟩ w.heap.size _ (by exact Nat.ne_of_lt hs2)).trans hR4
      obtain ⟨c0, c1, c2⟩ := row_cells hX5
      obtain ⟨⟨x0, f0⟩, ⟨x1, f1⟩, ⟨x2, f2⟩, hk6, hg6⟩ := blk_three hR5 (.int .i64 kd) (.string (akey j)) (.int .i64 num)
      obtain ⟨y0, y1, y2⟩ := row_cells hk6
      have HG6 : Hid (World.grownBy _ _ (Option.some w.heap.size)) := hg6
      have HG5 : Hid (World.grownBy w4 _ (Option.some w2.heap.size)) := set_grown w4 w2.heap.size 1 (.string (akey j))
      clear hS4 hg4 hR4 hX4 hX5 hR5 hk6 hg6
      go_wp2
      refine bodyPost_ret (v := .agg #[_, _, _]) (by simp [results, Try.results84, go_sem, y0, y1, y2]; exact ⟨rfl, rfl, rfl⟩) rfl ?_
      exact ⟨(kd, akey j, num), rfl, akey_size j, (HS4.out.other HG5.out (by omega) (fun hl e => by have := hbd hl; omega)).other HG6.out (by omega) (fun hl e => by have := hbd hl; omega), grown_two (grown_two HG4.out (by omega) HG5.out) (by omega) HG6.out⟩
    · have q1 : (x == 1) = false := by simp [h1]
      by_cases h2 : x = 2
      · have q2 : (x == 2) = true := by simp [h2]
        clear h0 h1 h2
        have hb3 : Below w3.heap.size w3 (w3.alloc (.cells #[.int .i64 (-1), .int .i64 1000000000, .int .i64 1000000001, .int .i64 9223372036854775807] 3)) := (Below.refl _ _).alloc (Nat.le_refl _) _
        have HG3b : Hid (w.grownBy (w3.alloc (.cells #[.int .i64 (-1), .int .i64 1000000000, .int .i64 1000000001, .int .i64 9223372036854775807] 3)) (Option.some B)) := grown_tr HG3.out (grown_none hb3)
        have HR3b : Hid ((w3.alloc (.cells #[.int .i64 (-1), .int .i64 1000000000, .int .i64 1000000001, .int .i64 9223372036854775807] 3)).heap[w.heap.size]? = Option.some (.cells #[.int .i64 0, .string ByteArray.empty, .int .i64 0] 103 (0, 0))) := (hb3.block _ (by omega)).trans HR3.out
        have HX3b : Hid ((w3.alloc (.cells #[.int .i64 (-1), .int .i64 1000000000, .int .i64 1000000001, .int .i64 9223372036854775807] 3)).heap[w2.heap.size]? = Option.some (.cells #[.int .i64 kd, .string key, .int .i64 num] 103 (0, 0))) := (hb3.block _ hs3).trans HX3.out
        go_wp2_with fail
        refine (pickI_st anum 4 (by omega) (by omega) (HS3.out.below hb3) (by have := HS3.out.cur.lt; omega) (by simp) (fun j hj => ?_)).mono ?_
        · rw [cell_of_row _ w3.heap.size j _ _ (0, 0) (heap_alloc_new w3 _)]
          match j, hj with
          | 0, _ => rfl
          | 1, _ => rfl
          | 2, _ => rfl
          | 3, _ => rfl
        rintro e w4 ⟨j, _, rfl, hS4, hg4⟩
        have HS4 : Hid (St w4 B ao len cap b off) := hS4
        have HG4 : Hid (w.grownBy w4 (Option.some B)) := grown_tr HG3b.out hg4
        have hR4 : w4.heap[w.heap.size]? = Option.some (.cells #[.int .i64 0, .string ByteArray.empty, .int .i64 0] 103 (0, 0)) := (hg4.block _ (by first | omega | (simp; omega)) (fun e => by have := Option.some.inj e; omega)).trans HR3b.out
        have hX4 : w4.heap[w2.heap.size]? = Option.some (.cells #[.int .i64 kd, .string key, .int .i64 num] 103 (0, 0)) := (hg4.block _ (by first | omega | (simp; omega)) (fun e => by have := Option.some.inj e; omega)).trans HX3b.out
        have a0 := (row_cells hX4).2.2
        have b0 := frozen_of_row w4 w2.heap.size 2 _ _ hX4
        have hX5 : (w4.setCell ⟨w2.heap.size, 2, none⟩ (.int .i64 (anum j))).heap[w2.heap.size]? = Option.some (.cells #[.int .i64 kd, .string key, .int .i64 (anum j)] 103 (0, 0)) := heap_setCell_same w4 w2.heap.size 2 _ _ _ hX4
        have hR5 : (w4.setCell ⟨w2.heap.size, 2, none⟩ (.int .i64 (anum j))).heap[w.heap.size]? = Option.some (.cells #[.int .i64 0, .string ByteArray.empty, .int .i64 0] 103 (0, 0)) := (heap_setCell_other w4 ⟨w2.heap.size, 2, none⟩ w.heap.size _ (by exact Nat.ne_of_lt hs2)).trans hR4
        obtain ⟨c0, c1, c2⟩ := row_cells hX5
        obtain ⟨⟨x0, f0⟩, ⟨x1, f1⟩, ⟨x2, f2⟩, hk6, hg6⟩ := blk_three hR5 (.int .i64 kd) (.string key) (.int .i64 (anum j))
        obtain ⟨y0, y1, y2⟩ := row_cells hk6
        have HG6 : Hid (World.grownBy _ _ (Option.some w.heap.size)) := hg6
        have HG5 : Hid (World.grownBy w4 _ (Option.some w2.heap.size)) := set_grown w4 w2.heap.size 2 (.int .i64 (anum j))
        clear hS4 hg4 hR4 hX4 hX5 hR5 hk6 hg6
        go_wp2
        refine bodyPost_ret (v := .agg #[_, _, _]) (by simp [results, Try.results84, go_sem, y0, y1, y2]; exact ⟨rfl, rfl, rfl⟩) rfl ?_
        exact ⟨(kd, key, anum j), rfl, by simp only; omega, (HS4.out.other HG5.out (by omega) (fun hl e => by have := hbd hl; omega)).other HG6.out (by omega) (fun hl e => by have := hbd hl; omega), grown_two (grown_two HG4.out (by omega) HG5.out) (by omega) HG6.out⟩
      · have q2 : (x == 2) = false := by simp [h2]
        clear h0 h1 h2
        obtain ⟨c0, c1, c2⟩ := row_cells HX3.out
        obtain ⟨⟨x0, f0⟩, ⟨x1, f1⟩, ⟨x2, f2⟩, hk6, hg6⟩ := blk_three HR3.out (.int .i64 kd) (.string key) (.int .i64 num)
        obtain ⟨y0, y1, y2⟩ := row_cells hk6
        have HG6 : Hid (World.grownBy _ _ (Option.some w.heap.size)) := hg6
        clear hk6 hg6
        go_wp2
        refine bodyPost_ret (v := .agg #[_, _, _]) (by simp [results, Try.results84, go_sem, y0, y1, y2]; exact ⟨rfl, rfl, rfl⟩) rfl ?_
        exact ⟨(kd, key, num), rfl, by simp only; omega, HS3.out.other HG6.out (by omega) (fun hl e => by have := hbd hl; omega), grown_two HG3.out (by omega) HG6.out⟩

end Go.Proofs.Ytfnneillakdopab
