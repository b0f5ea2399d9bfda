/-
  The contracts of the program's UndoOf, over a list and over a map of accounts.
-/
import Derived.Test.YtjdddcldbfhbiaaUndoS
import Derived.Test.YtjdddcldbfhbiaaCellsI
import Derived.Test.YtjdddcldbfhbiaaClone
import Derived.Test.YtjdddcldbfhbiaaMapI
import Derived.Deep.RegionHeld3
namespace Go.Proofs.Ytjdddcldbfhbiaa
open Go.RowKit Num Go.Maps

theorem undo_next {w w' : World} {n : Nat} {t : TypeId} {u0 u1 u2 : Value} (h : w.heap[n]? = some (.cells #[u0, u1, u2] t (0, 0))) (hb : Below w.heap.size w w') : w'.heap[n]? = some (.cells #[u0, u1, u2] t (0, 0)) :=
  (hb.block n (Array.getElem?_eq_some_iff.1 h).1).trans h

set_option maxRecDepth 100000 in
set_option maxHeartbeats 2000000 in
theorem undoOf_i (cs : CL) (v : Value) (key : ByteArray) (w : World) (hv : Cells w v cs) (hl : (cs.length : Int) ≤ 1048576) (hk : (key.size : Int) ≤ 1048576) :
    Calls Try.prog 28 #[v, .string key] w fun e w' => e = .returned (undoV (undoC cs key)) ∧ Below w.heap.size w w' := by
  have HV : Hid (Cells w v cs) := hv
  obtain ⟨a, cap, rfl, hr⟩ := hv
  have HR : Hid (0 < cs.length → _) := hr
  have hlim : key.size ≤ 281474976710656 := by omega
  clear hr
  go_enter Try.func28, Try.ntmps28
  go_wp2_with fail
  have B1 : Below w.heap.size w (w.alloc (.cells #[.string ByteArray.empty, .bool false, .int .i64 0] 48)) := ba (Below.refl _ _) _
  refine (cellAt_i cs _ key _ (HV.out.below B1) hl).mono ?_
  rintro e w2 ⟨rfl, hb2⟩
  have HK2 : Hid (w2.heap[w.heap.size]? = some (.cells #[.string ByteArray.empty, .bool false, .int .i64 0] 48 (0, 0))) := undo_block hb2
  have HB2 : Hid (Below w.heap.size w w2) := bt B1 hb2
  have hlt2 : w.heap.size < w2.heap.size := (Array.getElem?_eq_some_iff.1 HK2.out).1
  clear B1 hb2
  cases hh : hasK cs key with
  | false =>
    have hca : cellAt cs key = -1 := cellAt_no hh
    have HE : Hid (undoC cs key = (key, false, 0)) := undo_no hh
    rw [hca]
    go_wp2_with fail
    refine (clone key _ hlim).mono ?_
    rintro e w3 ⟨rfl, hb3⟩
    obtain ⟨⟨x0, f0⟩, ⟨x1, f1⟩, ⟨x2, f2⟩, hk5, hg5⟩ := blk_three (undo_next HK2.out hb3) (.string key) (.bool false) (.int .i64 0)
    have y0 := cell_of_row _ w.heap.size 0 _ _ (0, 0) hk5
    have y1 := cell_of_row _ w.heap.size 1 _ _ (0, 0) hk5
    have y2 := cell_of_row _ w.heap.size 2 _ _ (0, 0) hk5
    have HG5 : Hid (World.grownBy _ _ (some w.heap.size)) := hg5
    have HB3 : Hid (Below w.heap.size w w3) := bt HB2.out hb3
    clear hk5 hg5 hb3
    go_wp2
    refine bodyPost_ret (v := .agg #[.string key, .bool false, .int .i64 0]) (by simp [results, Try.results28, go_sem, y0, y1, y2]) rfl ?_
    refine ⟨?_, ?_⟩
    · rw [HE.out]; rfl
    · exact HB3.out.grown HG5.out HB3.out.size fun k hk => by cases hk; exact Nat.le_refl _
  | true =>
    obtain ⟨j, hj, hca, hu⟩ := undo_at hh
    have HE : Hid (undoC cs key = (key, true, cs[j].2)) := hu
    rw [hca]
    clear hu hca
    obtain ⟨g, off, rfl, hg, hc⟩ := HR.out (by omega)
    have q0 : (0 : Int) ≤ (j : Int) := by omega
    have q1 : (j : Int) < cs.length := by omega
    have HS : Hid (∀ w', Below w2.heap.size w2 w' → w'.cell? ⟨g, off + j * 2 + 1, none⟩ = some (.int .i64 cs[j].2)) := fun w' hb => by rw [(bt HB2.out hb).cell (by exact hg)]; exact (hc j hj).2
    clear hc
    go_wp2
    go_region_held3 (fun w' => w'.cell? ⟨g, off + j * 2 + 1, none⟩ = some (.int .i64 cs[j].2)) (first | exact HS.out _ (Below.refl _ _).drew | exact HS.out _ hbc | exact hs3) (first | (go_at_call 76; refine (clone _ _ hlim).mono ?_; rintro e w3 ⟨rfl, hb3⟩; have hbc : Below w2.heap.size w2 w3 := (Below.refl _ _).drew.trans hb3; obtain ⟨⟨x0, f0⟩, ⟨x1, f1⟩, ⟨x2, f2⟩, hk5, hg5⟩ := blk_three (undo_next HK2.out hbc) (.string key) (.bool true) (.int .i64 cs[j].2); have hs3 := (grown_cell (i := off + j * 2 + 1) hg5 (Nat.lt_of_lt_of_le hg (bt HB2.out hbc).size) (fun e => Nat.lt_irrefl _ ((Option.some.inj e) ▸ hg))).trans (HS.out _ hbc)))
    all_goals
      have y0 := cell_of_row _ w.heap.size 0 _ _ (0, 0) hk5
      have y1 := cell_of_row _ w.heap.size 1 _ _ (0, 0) hk5
      have y2 := cell_of_row _ w.heap.size 2 _ _ (0, 0) hk5
      have HG5 : Hid (World.grownBy _ _ (some w.heap.size)) := hg5
      have HB3 : Hid (Below w.heap.size w w3) := bt HB2.out hbc
      clear hk5 hg5 hb3 hs3 x0 f0 x1 f1 x2 f2 hbc
      go_wp2
      refine bodyPost_ret (v := .agg #[.string key, .bool true, .int .i64 cs[j].2]) (by simp [results, Try.results28, go_sem, y0, y1, y2]) rfl ?_
      refine ⟨?_, ?_⟩
      · rw [HE.out]; rfl
      · exact HB3.out.grown HG5.out HB3.out.size fun k hk => by cases hk; exact Nat.le_refl _

set_option maxRecDepth 100000 in
set_option maxHeartbeats 2000000 in
theorem mapUndo_i (cs : CL) (b : Nat) (key : ByteArray) (w : World) (hm : MapIs w b cs) (hk : (key.size : Int) ≤ 1048576) :
    Calls Try.prog 67 #[.map (some b), .string key] w fun e w' => e = .returned (undoV (undoC cs key)) ∧ Below w.heap.size w w' := by
  have hlim : key.size ≤ 281474976710656 := by omega
  have B1 : Below w.heap.size w (w.alloc (.cells #[.string ByteArray.empty, .bool false, .int .i64 0] 48)) := ba (Below.refl _ _) _
  have hm1 := hm.below B1
  obtain ⟨D, hD, hrep⟩ := hm1
  have HD : Hid ((w.alloc (.cells #[.string ByteArray.empty, .bool false, .int .i64 0] 48)).ownsMap Try.prog 9 (plainElem Try.prog 3) b cs.length D) := hD
  have HK : Hid (keyOf Try.prog 9 (.string key) = some (lk key)) := keyS hk
  have HB1 : Hid (Below w.heap.size w (w.alloc (.cells #[.string ByteArray.empty, .bool false, .int .i64 0] 48))) := B1
  have HK1 : Hid ((w.alloc (.cells #[.string ByteArray.empty, .bool false, .int .i64 0] 48)).heap[w.heap.size]? = some (.cells #[.string ByteArray.empty, .bool false, .int .i64 0] 48 (0, 0))) := heap_alloc_new w _
  have hhas : Maps.has D (lk key) = hasK cs key := hrep.2.1 key
  obtain ⟨n0, HC, HE⟩ : ∃ n0 : Int, Hid (D.atKey (lk key) (i64D 0) = i64D n0) ∧ Hid (undoC cs key = (key, hasK cs key, n0)) := by
    cases hh : hasK cs key with
    | false => exact ⟨0, atKey_of_not_has (by rw [hhas, hh]) _, undo_no hh⟩
    | true =>
      obtain ⟨d, hd1, hd2, hu⟩ := undo_find hh
      exact ⟨d.2, (by have := hrep.2.2 d hd1; rw [hd2] at this; exact this), hu⟩
  clear hD hrep hm B1
  go_enter Try.func67, Try.ntmps67
  go_wp2_with (at_lookup; refine wpList_lookup_own_ok_int _ rfl _ _ 83 rfl 9 3 .i64 keyedS mapT Try.underlying3 (zeroI _) b _ _ rfl HD.out _ _ rfl HK.out ?_; intro c hat hwc; have e : c = n0 := (by have := hat.symm.trans HC.out; unfold i64D at this; injection this with t; injection t); subst e; clear hat hwc)
  refine (clone key _ hlim).mono ?_
  rintro e w3 ⟨rfl, hb3⟩
  obtain ⟨⟨x0, f0⟩, ⟨x1, f1⟩, ⟨x2, f2⟩, hk5, hg5⟩ := blk_three (undo_next HK1.out hb3) (.string key) (.bool (hasK cs key)) (.int .i64 c)
  have y0 := cell_of_row _ w.heap.size 0 _ _ (0, 0) hk5
  have y1 := cell_of_row _ w.heap.size 1 _ _ (0, 0) hk5
  have y2 := cell_of_row _ w.heap.size 2 _ _ (0, 0) hk5
  have HG5 : Hid (World.grownBy _ _ (some w.heap.size)) := hg5
  have HB3 : Hid (Below w.heap.size w w3) := bt HB1.out hb3
  clear hk5 hg5 hb3 hhas
  go_wp2
  refine bodyPost_ret (v := .agg #[.string key, .bool (hasK cs key), .int .i64 c]) (by simp [results, Try.results67, go_sem, y0, y1, y2]) rfl ?_
  refine ⟨?_, ?_⟩
  · rw [HE.out]; rfl
  · exact HB3.out.grown HG5.out HB3.out.size fun k hk => by cases hk; exact Nat.le_refl _

end Go.Proofs.Ytjdddcldbfhbiaa
