/-
  The contracts of the specification's whole draws: lists of accounts, lists of commands, a list and a command.
-/
import Derived.Test.YtjdddcldbfhbiaaSameC
import Derived.Deep.RegionHeld3
namespace Go.Proofs.Ytjdddcldbfhbiaa
open Go.RowKit Num

set_option maxRecDepth 100000 in
theorem drawCells_any {w : World} {ao : Option Addr} {len cap b off : Nat} (hc : Code w ao len b off) :
    Calls Try.prog 7 #[.slice ao len cap] w fun e w' => ∃ (v : Value) (cs : CL), e = .returned v ∧ cellsB cs = true ∧ okL cs ∧ w'.ownsRow w.heap.size 35 2 v cs.length (flat cs) ∧ Below w.heap.size w w' := by
  have HC : Hid (Code w ao len b off) := hc
  clear hc
  go_enter Try.func7, Try.ntmps7
  go_wp2_with fail
  refine (new_any HC.out).mono ?_
  rintro e w1 ⟨N, rfl, hN, hS, hb⟩
  have HS : Hid (St w1 N ao len cap b off) := hS
  clear hS
  go_wp2_with fail
  refine (cells_st HS.out).mono ?_
  rintro e w2 ⟨v, cs, rfl, hcb, hok, hown, _, hg⟩
  have HO : Hid (w2.ownsRow w1.heap.size 35 2 v cs.length (flat cs)) := hown
  have HK : Hid (cellsB cs = true ∧ okL cs) := ⟨hcb, hok⟩
  clear hown hcb hok
  go_wp2
  go_ret
  exact ⟨v, cs, rfl, HK.out.1, HK.out.2, own_base HO.out hb.size, drawn_below hb hN hg⟩

set_option maxRecDepth 100000 in
theorem drawCmds_any {w : World} {ao : Option Addr} {len cap b off : Nat} (hc : Code w ao len b off) :
    Calls Try.prog 8 #[.slice ao len cap] w fun e w' => ∃ (v : Value) (l : List CM), e = .returned v ∧ l.length ≤ 5 ∧ (∀ c ∈ l, cmdB c = true ∧ c.2.1.size ≤ 3) ∧ w'.ownsRow w.heap.size 29 3 v l.length (flatR cmdF l) ∧ Below w.heap.size w w' := by
  have HC : Hid (Code w ao len b off) := hc
  clear hc
  go_enter Try.func8, Try.ntmps8
  go_wp2_with fail
  refine (new_any HC.out).mono ?_
  rintro e w1 ⟨N, rfl, hN, hS, hb⟩
  have HS : Hid (St w1 N ao len cap b off) := hS
  clear hS
  go_wp2_with fail
  refine (cmds_st HS.out).mono ?_
  rintro e w2 ⟨v, l, rfl, hl, hall, hown, _, hg⟩
  have HO : Hid (w2.ownsRow w1.heap.size 29 3 v l.length (flatR cmdF l)) := hown
  have HK : Hid (∀ c ∈ l, cmdB c = true ∧ c.2.1.size ≤ 3) := hall
  clear hown hall
  go_wp2
  go_ret
  exact ⟨v, l, rfl, hl, HK.out, own_base HO.out hb.size, drawn_below hb hN hg⟩

set_option maxRecDepth 100000 in
set_option maxHeartbeats 2000000 in
theorem drawDone_any {w : World} {ao : Option Addr} {len cap b off : Nat} (hc : Code w ao len b off) :
    Calls Try.prog 13 #[.slice ao len cap] w fun e w' => ∃ (v : Value) (cs : CL) (c : CM), e = .returned (.tuple #[v, cmdV c]) ∧ smallL cs 20 ∧ c.2.1.size ≤ 4 ∧ w'.ownsRow w.heap.size 35 2 v cs.length (flat cs) ∧ Below w.heap.size w w' := by
  have hb0 : Below w.heap.size w (w.alloc (.cells #[.int .i64 0, .string ByteArray.empty, .int .i64 0] 29)) := ba (Below.refl _ _) _
  have HC : Hid (Code (w.alloc (.cells #[.int .i64 0, .string ByteArray.empty, .int .i64 0] 29)) ao len b off) := hc.below hb0
  have hbd : 0 < len → b < w.heap.size := hc.lt
  clear hc
  go_enter Try.func13, Try.ntmps13
  go_wp2_with fail
  refine (new_any HC.out).mono ?_
  rintro e w1 ⟨N, rfl, hN, hS, hb⟩
  have hN' : w.heap.size < N := by simp at hN; omega
  have HS : Hid (St w1 N ao len cap b off) := hS
  have HB1 : Hid (Below w.heap.size w w1) := bt hb0 hb
  have HR1 : Hid (w1.heap[w.heap.size]? = some (.cells #[.int .i64 0, .string ByteArray.empty, .int .i64 0] 29 (0, 0))) := (hb.block _ (by simp)).trans (heap_alloc_new w _)
  have hs1 : w.heap.size < w1.heap.size := (Array.getElem?_eq_some_iff.1 HR1.out).1
  clear hS hb hb0
  go_wp2_with fail
  refine (any_st HS.out).mono ?_
  rintro e w2 ⟨⟨kd, key, num⟩, rfl, hsz, hS2, hg2⟩
  have hs2 := hg2.size
  have hb2 : Below w2.heap.size w2 (w2.alloc (.cells #[.int .i64 kd, .string key, .int .i64 num] 29)) := ba (Below.refl _ _) _
  have HS2 : Hid (St (w2.alloc (.cells #[.int .i64 kd, .string key, .int .i64 num] 29)) N ao len cap b off) := hS2.below hb2
  have HB2 : Hid (Below w.heap.size w (w2.alloc (.cells #[.int .i64 kd, .string key, .int .i64 num] 29))) := bt (drawn_below HB1.out (by omega) hg2) hb2
  have HR2 : Hid ((w2.alloc (.cells #[.int .i64 kd, .string key, .int .i64 num] 29)).heap[w.heap.size]? = some (.cells #[.int .i64 0, .string ByteArray.empty, .int .i64 0] 29 (0, 0))) := (hb2.block _ (by omega)).trans ((hg2.block _ hs1 (fun e => by have := Option.some.inj e; omega)).trans HR1.out)
  have HX2 : Hid ((w2.alloc (.cells #[.int .i64 kd, .string key, .int .i64 num] 29)).heap[w2.heap.size]? = some (.cells #[.int .i64 kd, .string key, .int .i64 num] 29 (0, 0))) := heap_alloc_new w2 _
  have hNw : N < w2.heap.size := hS2.cur.lt
  have hs2' : (w2.alloc (.cells #[.int .i64 kd, .string key, .int .i64 num] 29)).heap.size = w2.heap.size + 1 := by simp
  clear hS2 hg2 hb2 HS HC
  unfold cmdV
  go_wp2
  obtain ⟨w3, hw3⟩ : ∃ w3, w3 = w2.alloc (.cells #[.int .i64 kd, .string key, .int .i64 num] 29) := ⟨_, rfl⟩
  rw [← hw3] at HS2 HB2 HR2 HX2 hs2' ⊢
  clear hw3
  have hx3 := row_cells HX2.out
  go_region_held3 (fun w' => w'.cell? ⟨w2.heap.size, 0, none⟩ = some (.int .i64 kd) ∧ w'.cell? ⟨w2.heap.size, 1, none⟩ = some (.string key) ∧ w'.cell? ⟨w2.heap.size, 2, none⟩ = some (.int .i64 num)) (first | exact hx3 | exact hx4 | exact hx7) (first
    | (go_at_call 56; refine (bent_st (w := w3.drew) ⟨⟨HS2.out.code.le, HS2.out.code.some, HS2.out.code.cell, HS2.out.code.lt⟩, HS2.out.cur, HS2.out.ne⟩).mono ?_; rintro e w4 ⟨v4, cs, rfl, hsm, hown4, hS4, hg4⟩; have HX4 : Hid (w4.heap[w2.heap.size]? = some (.cells #[.int .i64 kd, .string key, .int .i64 num] 29 (0, 0))) := (hg4.block w2.heap.size (by show _ < w3.heap.size; omega) (fun e => by have := Option.some.inj e; omega)).trans HX2.out; have hx4 := row_cells HX4.out; have HR4 : Hid (w4.heap[w.heap.size]? = some (.cells #[.int .i64 0, .string ByteArray.empty, .int .i64 0] 29 (0, 0))) := (hg4.block w.heap.size (by show _ < w3.heap.size; omega) (fun e => by have := Option.some.inj e; omega)).trans HR2.out; have HO4 : Hid (w4.ownsRow w3.heap.size 35 2 v4 cs.length (flat cs)) := hown4; have HB4 : Hid (Below w.heap.size w w4) := drawn_below HB2.out.drew (by omega) hg4; obtain ⟨⟨x0, f0⟩, ⟨x1, f1⟩, ⟨x2, f2⟩, hk7, hg7⟩ := blk_three HR4.out (.int .i64 kd) (.string key) (.int .i64 num); have hx7 := row_cells ((hg7.block w2.heap.size (Array.getElem?_eq_some_iff.1 HX4.out).1 (fun e => by have := Option.some.inj e; omega)).trans HX4.out); have HY7 : Hid (_ ∧ _ ∧ _) := row_cells hk7; have HG7 : Hid (World.grownBy w4 _ (some w.heap.size)) := hg7; clear hown4 hg4 hS4 hk7 hg7))
  obtain ⟨y0, y1, y2⟩ := HY7.out
  clear x0 x1 x2 f0 f1 f2 hx7 hx4 hx3
  go_wp2
  refine bodyPost_ret (v := .tuple #[_, .agg #[_, _, _]]) (by simp [results, Try.results13, go_sem, y0, y1, y2]; exact ⟨rfl, rfl, rfl, rfl⟩) rfl ?_
  exact ⟨v4, cs, (kd, key, num), rfl, hsm, hsz, own_base (World.ownsRow.kept HO4.out HG7.out (own_far HO4.out (by omega))) (by omega), HB4.out.grown HG7.out HB4.out.size fun k hk => by cases hk; exact Nat.le_refl _⟩

end Go.Proofs.Ytjdddcldbfhbiaa
