/-
  Texts of ours that later ones lean on, in one: 23, one behind the other.
-/
import Derived.Test.YtcfgfhodbjakoavGreatDoorJ0
import Derived.ProofKit
import Derived.OpenShut
import Derived.ChangeOld
import Derived.Lib.SmallJoins
import Derived.BigQuiet
import Derived.Deep.SlicePairs
import Derived.Laws.OwnMore
import Derived.Deep.MidRow
namespace Go.Proofs.YtcfgfhodbjakoavGreatDoor
open Go.ChangeShapes Go.WideShapes Go.ChangeAt Go.RowKit

set_option maxRecDepth 100000 in
theorem v4_rd {H : Type} {enc : TypeId × Value → H} {W : World} : ∀ n cs x, DataW.trod enc Tryz.prog W 0 (fun _ => true) true n 32 cs = some x → ∃ q : QC, cs = [.int .i64 q.1, .int .i64 q.2.1, .int .i64 q.2.2.1, .int .i64 q.2.2.2] ∧ wfQ q := by
  intro n cs x h
  obtain ⟨y0, y1, y2, y3, k, _, hl, h0, h1, h2, h3⟩ := Go.Joins.trod_struct4 Tryz.underlying32 h
  have hl4 : cs.length = 4 := hl.trans (by kernel_rfl)
  obtain ⟨a, b, c, d, rfl⟩ : ∃ a b c d, cs = [a, b, c, d] := by
    match cs, hl4 with
    | [a, b, c, d], _ => exact ⟨a, b, c, d, rfl⟩
  have c0 : Tryz.prog.cellsOf 3 = 1 := by kernel_rfl
  simp only [c0] at h0 h1 h2 h3
  obtain ⟨z0, e0, _, w0⟩ := DataW.trod_int Tryz.underlying3 h0
  obtain ⟨z1, e1, _, w1⟩ := DataW.trod_int Tryz.underlying3 h1
  obtain ⟨z2, e2, _, w2⟩ := DataW.trod_int Tryz.underlying3 h2
  obtain ⟨z3, e3, _, w3⟩ := DataW.trod_int Tryz.underlying3 h3
  simp at e0 e1 e2 e3
  exact ⟨(z0, z1, z2, z3), by rw [e0, e1, e2, e3], w0, w1, w2, w3⟩
set_option maxRecDepth 100000 in
theorem v4_open {H : Type} {enc : TypeId × Value → H} {W : World} {base : Nat} {v : Value} {d : DataW H} {p : List MemPlace} (hv : Value.okWide Tryz.prog W .any base 32 v) (h : DataW.Trod enc Tryz.prog W 0 (fun _ => true) true 32 v d p) :
    ∃ q : QC, v = .agg #[.int .i64 q.1, .int .i64 q.2.1, .int .i64 q.2.2.1, .int .i64 q.2.2.2] ∧ wfQ q := by
  obtain ⟨cs, rfl, _⟩ := okWide_struct Tryz.underlying32 hv
  obtain ⟨n, hn⟩ := h
  obtain ⟨y, hy, hg⟩ := v4_rd _ _ _ hn
  refine ⟨y, ?_, hg⟩
  have : cs.toList = [.int .i64 y.1, .int .i64 y.2.1, .int .i64 y.2.2.1, .int .i64 y.2.2.2] := hy
  rw [← Array.toArray_toList (xs := cs), this]
set_option maxRecDepth 100000 in
theorem q4_rd {H : Type} {enc : TypeId × Value → H} {W : World} : ∀ n cs x, DataW.trod enc Tryz.prog W 0 (fun _ => true) true n 30 cs = some x → ∃ q : QC, cs = [.int .i64 q.1, .int .i64 q.2.1, .int .i64 q.2.2.1, .int .i64 q.2.2.2] ∧ wfQ q := by
  intro n cs x h
  obtain ⟨y0, y1, y2, y3, k, _, hl, h0, h1, h2, h3⟩ := Go.Joins.trod_struct4 Tryz.underlying30 h
  have hl4 : cs.length = 4 := hl.trans (by kernel_rfl)
  obtain ⟨a, b, c, d, rfl⟩ : ∃ a b c d, cs = [a, b, c, d] := by
    match cs, hl4 with
    | [a, b, c, d], _ => exact ⟨a, b, c, d, rfl⟩
  have c0 : Tryz.prog.cellsOf 3 = 1 := by kernel_rfl
  simp only [c0] at h0 h1 h2 h3
  obtain ⟨z0, e0, _, w0⟩ := DataW.trod_int Tryz.underlying3 h0
  obtain ⟨z1, e1, _, w1⟩ := DataW.trod_int Tryz.underlying3 h1
  obtain ⟨z2, e2, _, w2⟩ := DataW.trod_int Tryz.underlying3 h2
  obtain ⟨z3, e3, _, w3⟩ := DataW.trod_int Tryz.underlying3 h3
  simp at e0 e1 e2 e3
  exact ⟨(z0, z1, z2, z3), by rw [e0, e1, e2, e3], w0, w1, w2, w3⟩
set_option maxRecDepth 100000 in
theorem q4_open {H : Type} {enc : TypeId × Value → H} {W : World} {base : Nat} {v : Value} {d : DataW H} {p : List MemPlace} (hv : Value.okWide Tryz.prog W .any base 30 v) (h : DataW.Trod enc Tryz.prog W 0 (fun _ => true) true 30 v d p) :
    ∃ q : QC, v = .agg #[.int .i64 q.1, .int .i64 q.2.1, .int .i64 q.2.2.1, .int .i64 q.2.2.2] ∧ wfQ q := by
  obtain ⟨cs, rfl, _⟩ := okWide_struct Tryz.underlying30 hv
  obtain ⟨n, hn⟩ := h
  obtain ⟨y, hy, hg⟩ := q4_rd _ _ _ hn
  refine ⟨y, ?_, hg⟩
  have : cs.toList = [.int .i64 y.1, .int .i64 y.2.1, .int .i64 y.2.2.1, .int .i64 y.2.2.2] := hy
  rw [← Array.toArray_toList (xs := cs), this]

/-- a letter, thirteen cells -/
def letF (l : LT) : List Value := [.int .i64 l.1.1, .int .i64 l.1.2.1, .int .i64 l.1.2.2.1, .int .i64 l.1.2.2.2.1, .int .i64 l.1.2.2.2.2, .int .i64 l.2.1.1, .int .i64 l.2.1.2.1, .int .i64 l.2.1.2.2.1, .int .i64 l.2.1.2.2.2, .int .i64 l.2.2.1, .int .i64 l.2.2.2.1, .int .i64 l.2.2.2.2.1, .int .i64 l.2.2.2.2.2]
/-- .. as a value -/
def letV (l : LT) : Value := .agg #[.int .i64 l.1.1, .int .i64 l.1.2.1, .int .i64 l.1.2.2.1, .int .i64 l.1.2.2.2.1, .int .i64 l.1.2.2.2.2, .int .i64 l.2.1.1, .int .i64 l.2.1.2.1, .int .i64 l.2.1.2.2.1, .int .i64 l.2.1.2.2.2, .int .i64 l.2.2.1, .int .i64 l.2.2.2.1, .int .i64 l.2.2.2.2.1, .int .i64 l.2.2.2.2.2]
/-- its numbers are numbers of this machine -/
def wfL (l : LT) : Prop := ((Lit.int .i64 l.1.1).wf = true ∧ (Lit.int .i64 l.1.2.1).wf = true ∧ (Lit.int .i64 l.1.2.2.1).wf = true ∧ (Lit.int .i64 l.1.2.2.2.1).wf = true ∧ (Lit.int .i64 l.1.2.2.2.2).wf = true) ∧ wfQ l.2.1 ∧ wfQ l.2.2

theorem trod_struct7 {P : Program} {H : Type} {enc : TypeId × Value → H} {w : World} {base : Nat} {spare : Nat → Bool} {held : Bool} {t : TypeId} {f0 f1 f2 f3 f4 f5 f6 : Field} {fuel : Nat} {cs : List Value} {x : DataW H × List MemPlace} (ht : P.underlying t = some (.struct #[f0, f1, f2, f3, f4, f5, f6])) (h : DataW.trod enc P w base spare held fuel t cs = some x) :
    ∃ y0 y1 y2 y3 y4 y5 y6 n, cs.length = P.cellsOf t ∧ DataW.trod enc P w base spare held n f0.type ((cs.drop f0.offset).take (P.cellsOf f0.type)) = some y0 ∧
      DataW.trod enc P w base spare held n f1.type ((cs.drop f1.offset).take (P.cellsOf f1.type)) = some y1 ∧ DataW.trod enc P w base spare held n f2.type ((cs.drop f2.offset).take (P.cellsOf f2.type)) = some y2 ∧
      DataW.trod enc P w base spare held n f3.type ((cs.drop f3.offset).take (P.cellsOf f3.type)) = some y3 ∧ DataW.trod enc P w base spare held n f4.type ((cs.drop f4.offset).take (P.cellsOf f4.type)) = some y4 ∧
      DataW.trod enc P w base spare held n f5.type ((cs.drop f5.offset).take (P.cellsOf f5.type)) = some y5 ∧ DataW.trod enc P w base spare held n f6.type ((cs.drop f6.offset).take (P.cellsOf f6.type)) = some y6 := by
  obtain ⟨xs, n, _, rfl, hl, hlen, hf⟩ := DataW.trod_struct ht h
  match xs, hlen with
  | [y0, y1, y2, y3, y4, y5, y6], _ => exact ⟨y0, y1, y2, y3, y4, y5, y6, n, hl, by simpa using hf 0 f0 rfl, by simpa using hf 1 f1 rfl, by simpa using hf 2 f2 rfl, by simpa using hf 3 f3 rfl, by simpa using hf 4 f4 rfl, by simpa using hf 5 f5 rfl, by simpa using hf 6 f6 rfl⟩

set_option maxRecDepth 100000 in
theorem letter_rd {H : Type} {enc : TypeId × Value → H} {W : World} : ∀ n cs x, DataW.trod enc Tryz.prog W 0 (fun _ => true) true n 34 cs = some x → ∃ l : LT, cs = letF l ∧ wfL l := by
  intro n cs x h
  obtain ⟨y0, y1, y2, y3, y4, y5, y6, k, hl, h0, h1, h2, h3, h4, h5, h6⟩ := trod_struct7 Tryz.underlying34 h
  have hlc : cs.length = 13 := hl.trans (by kernel_rfl)
  obtain ⟨a0, a1, a2, a3, a4, a5, a6, a7, a8, a9, a10, a11, a12, rfl⟩ : ∃ a0 a1 a2 a3 a4 a5 a6 a7 a8 a9 a10 a11 a12, cs = [a0, a1, a2, a3, a4, a5, a6, a7, a8, a9, a10, a11, a12] := by
    match cs, hlc with
    | [a0, a1, a2, a3, a4, a5, a6, a7, a8, a9, a10, a11, a12], _ => exact ⟨a0, a1, a2, a3, a4, a5, a6, a7, a8, a9, a10, a11, a12, rfl⟩
  have c0 : Tryz.prog.cellsOf 3 = 1 := by kernel_rfl
  have c1 : Tryz.prog.cellsOf 30 = 4 := by kernel_rfl
  have c2 : Tryz.prog.cellsOf 32 = 4 := by kernel_rfl
  simp only [c0, c1, c2] at h0 h1 h2 h3 h4 h5 h6
  obtain ⟨z0, e0, _, w0⟩ := DataW.trod_int Tryz.underlying3 h0
  obtain ⟨z1, e1, _, w1⟩ := DataW.trod_int Tryz.underlying3 h1
  obtain ⟨z2, e2, _, w2⟩ := DataW.trod_int Tryz.underlying3 h2
  obtain ⟨z3, e3, _, w3⟩ := DataW.trod_int Tryz.underlying3 h3
  obtain ⟨z4, e4, _, w4⟩ := DataW.trod_int Tryz.underlying3 h4
  obtain ⟨q, e5, w5⟩ := q4_rd _ _ _ h5
  obtain ⟨u, e6, w6⟩ := v4_rd _ _ _ h6
  simp at e0 e1 e2 e3 e4 e5 e6
  obtain ⟨rfl, rfl, rfl, rfl⟩ := e5
  obtain ⟨rfl, rfl, rfl, rfl⟩ := e6
  subst e0 e1 e2 e3 e4
  exact ⟨((z0, z1, z2, z3, z4), q, u), rfl, ⟨w0, w1, w2, w3, w4⟩, w5, w6⟩
set_option maxRecDepth 100000 in
theorem letter_open {H : Type} {enc : TypeId × Value → H} {W : World} {base : Nat} {v : Value} {d : DataW H} {p : List MemPlace} (hv : Value.okWide Tryz.prog W .any base 34 v) (h : DataW.Trod enc Tryz.prog W 0 (fun _ => true) true 34 v d p) :
    ∃ l : LT, v = letV l ∧ wfL l := by
  obtain ⟨cs, rfl, _⟩ := okWide_struct Tryz.underlying34 hv
  obtain ⟨n, hn⟩ := h
  obtain ⟨y, hy, hg⟩ := letter_rd _ _ _ hn
  refine ⟨y, ?_, hg⟩
  have : cs.toList = letF y := hy
  unfold letV
  rw [← Array.toArray_toList (xs := cs), this]
  rfl

end Go.Proofs.YtcfgfhodbjakoavGreatDoor

namespace Go.Proofs.YtcfgfhodbjakoavGreatDoor
open Go.RowKit Num

theorem toQ4_any (a b c d : Int) (w : World) :
    Calls Tryz.prog 35 #[.agg #[.int .i64 a, .int .i64 b, .int .i64 c, .int .i64 d]] w fun e w' => e = .returned (.agg #[.int .i64 a, .int .i64 b, .int .i64 c, .int .i64 d]) ∧ Below w.heap.size w w' := by
  go_enter Tryz.func35, Tryz.ntmps35
  go_wp2
  refine bodyPost_ret (v := .agg #[_, _, _, _]) (by simp [results, Tryz.results35, go_sem]) rfl ⟨rfl, ?_⟩
  exact ba (ba (ba (Below.refl _ _) _) _) _
theorem toV4_any (a b c d : Int) (w : World) :
    Calls Tryz.prog 36 #[.agg #[.int .i64 a, .int .i64 b, .int .i64 c, .int .i64 d]] w fun e w' => e = .returned (.agg #[.int .i64 a, .int .i64 b, .int .i64 c, .int .i64 d]) ∧ Below w.heap.size w w' := by
  go_enter Tryz.func36, Tryz.ntmps36
  go_wp2
  refine bodyPost_ret (v := .agg #[_, _, _, _]) (by simp [results, Tryz.results36, go_sem]) rfl ⟨rfl, ?_⟩
  exact ba (ba (ba (Below.refl _ _) _) _) _

set_option maxRecDepth 100000 in
set_option maxHeartbeats 2000000 in
theorem toLetter_any (l : LT) (w : World) :
    Calls Tryz.prog 9 #[letV l] w fun e w' => e = .returned (letV l) ∧ Below w.heap.size w w' := by
  obtain ⟨⟨k, f, t, v, b⟩, ⟨q0, q1, q2, q3⟩, ⟨v0, v1, v2, v3⟩⟩ := l
  unfold letV
  simp only
  obtain ⟨W, hW⟩ : ∃ W, W = ((w.alloc (.cells #[.int .i64 k, .int .i64 f, .int .i64 t, .int .i64 v, .int .i64 b, .int .i64 q0, .int .i64 q1, .int .i64 q2, .int .i64 q3, .int .i64 v0, .int .i64 v1, .int .i64 v2, .int .i64 v3] 34)).alloc (.cells #[.int .i64 0, .int .i64 0, .int .i64 0, .int .i64 0, .int .i64 0, .int .i64 0, .int .i64 0, .int .i64 0, .int .i64 0, .int .i64 0, .int .i64 0, .int .i64 0, .int .i64 0] 48)).alloc (.cells #[.int .i64 k, .int .i64 f, .int .i64 t, .int .i64 v, .int .i64 b, .int .i64 0, .int .i64 0, .int .i64 0, .int .i64 0, .int .i64 0, .int .i64 0, .int .i64 0, .int .i64 0] 48) := ⟨_, rfl⟩
  have HB : Hid (Below w.heap.size w W) := (by rw [hW]; exact ba (ba (ba (Below.refl _ _) _) _) _ : Below w.heap.size w W)
  have HA : Hid (W.heap[w.heap.size]? = some (.cells #[.int .i64 k, .int .i64 f, .int .i64 t, .int .i64 v, .int .i64 b, .int .i64 q0, .int .i64 q1, .int .i64 q2, .int .i64 q3, .int .i64 v0, .int .i64 v1, .int .i64 v2, .int .i64 v3] 34 (0, 0))) := (by rw [hW]; exact (alloc3 w _ _ _).1 : W.heap[w.heap.size]? = _)
  have HZ : Hid (W.heap[w.heap.size + 1]? = some (.cells #[.int .i64 0, .int .i64 0, .int .i64 0, .int .i64 0, .int .i64 0, .int .i64 0, .int .i64 0, .int .i64 0, .int .i64 0, .int .i64 0, .int .i64 0, .int .i64 0, .int .i64 0] 48 (0, 0))) := (by rw [hW]; exact (alloc3 w _ _ _).2.1 : W.heap[w.heap.size + 1]? = _)
  have HO : Hid (W.heap[w.heap.size + 1 + 1]? = some (.cells #[.int .i64 k, .int .i64 f, .int .i64 t, .int .i64 v, .int .i64 b, .int .i64 0, .int .i64 0, .int .i64 0, .int .i64 0, .int .i64 0, .int .i64 0, .int .i64 0, .int .i64 0] 48 (0, 0))) := (by rw [hW]; exact (alloc3 w _ _ _).2.2 : W.heap[w.heap.size + 1 + 1]? = _)
  go_enter Tryz.func9, Tryz.ntmps9
  go_wp2_with fail
  rw [← hW]
  clear hW
  refine (toQ4_any q0 q1 q2 q3 W).mono ?_
  rintro e w1 ⟨rfl, b1⟩
  have HB1 : Hid (Below w.heap.size w w1) := bt HB.out b1
  have lW : w.heap.size + 1 + 1 < W.heap.size := (Array.getElem?_eq_some_iff.1 HO.out).1
  have HA1 : Hid (w1.heap[w.heap.size]? = some (.cells #[.int .i64 k, .int .i64 f, .int .i64 t, .int .i64 v, .int .i64 b, .int .i64 q0, .int .i64 q1, .int .i64 q2, .int .i64 q3, .int .i64 v0, .int .i64 v1, .int .i64 v2, .int .i64 v3] 34 (0, 0))) := (b1.block _ (by omega)).trans HA.out
  have HZ1 : Hid (w1.heap[w.heap.size + 1]? = some (.cells #[.int .i64 0, .int .i64 0, .int .i64 0, .int .i64 0, .int .i64 0, .int .i64 0, .int .i64 0, .int .i64 0, .int .i64 0, .int .i64 0, .int .i64 0, .int .i64 0, .int .i64 0] 48 (0, 0))) := (b1.block _ (by omega)).trans HZ.out
  have HO1 : Hid (w1.heap[w.heap.size + 1 + 1]? = some (.cells #[.int .i64 k, .int .i64 f, .int .i64 t, .int .i64 v, .int .i64 b, .int .i64 0, .int .i64 0, .int .i64 0, .int .i64 0, .int .i64 0, .int .i64 0, .int .i64 0, .int .i64 0] 48 (0, 0))) := (b1.block _ (by omega)).trans HO.out
  clear b1 HB HA HZ HO lW
  go_wp2_with (refine wpList_store_part rfl _ _ _ rfl (w.heap.size + 1 + 1) 5 #[.int .i64 q0, .int .i64 q1, .int .i64 q2, .int .i64 q3] rfl rfl _ _ HO1.out (by kernel_rfl) (by simp) (by simp [Value.oneCell']) #[.int .i64 k, .int .i64 f, .int .i64 t, .int .i64 v, .int .i64 b, .int .i64 q0, .int .i64 q1, .int .i64 q2, .int .i64 q3, .int .i64 0, .int .i64 0, .int .i64 0, .int .i64 0] rfl ?_; intro w2 g2 k2; have HB2 : Hid (Below w.heap.size w w2) := HB1.out.grown g2 HB1.out.size (fun y hy => by cases hy; omega); have HA2 : Hid (w2.heap[w.heap.size]? = Option.some (.cells #[.int .i64 k, .int .i64 f, .int .i64 t, .int .i64 v, .int .i64 b, .int .i64 q0, .int .i64 q1, .int .i64 q2, .int .i64 q3, .int .i64 v0, .int .i64 v1, .int .i64 v2, .int .i64 v3] 34 (0, 0))) := (g2.block _ (Array.getElem?_eq_some_iff.1 HA1.out).1 (fun e => by have := Option.some.inj e; omega)).trans HA1.out; have HZ2 : Hid (w2.heap[w.heap.size + 1]? = Option.some (.cells #[.int .i64 0, .int .i64 0, .int .i64 0, .int .i64 0, .int .i64 0, .int .i64 0, .int .i64 0, .int .i64 0, .int .i64 0, .int .i64 0, .int .i64 0, .int .i64 0, .int .i64 0] 48 (0, 0))) := (g2.block _ (Array.getElem?_eq_some_iff.1 HZ1.out).1 (fun e => by have := Option.some.inj e; omega)).trans HZ1.out; have HO2 : Hid (w2.heap[w.heap.size + 1 + 1]? = Option.some (.cells #[.int .i64 k, .int .i64 f, .int .i64 t, .int .i64 v, .int .i64 b, .int .i64 q0, .int .i64 q1, .int .i64 q2, .int .i64 q3, .int .i64 0, .int .i64 0, .int .i64 0, .int .i64 0] 48 (0, 0))) := k2; clear g2 k2 HB1 HA1 HZ1 HO1; have c9 := blk_cell HA2.out 9 (.int .i64 v0) rfl; have c10 := blk_cell HA2.out 10 (.int .i64 v1) rfl; have c11 := blk_cell HA2.out 11 (.int .i64 v2) rfl; have c12 := blk_cell HA2.out 12 (.int .i64 v3) rfl)
  clear c9 c10 c11 c12
  refine (toV4_any v0 v1 v2 v3 w2).mono ?_
  rintro e w3 ⟨rfl, b3⟩
  have HB3 : Hid (Below w.heap.size w w3) := bt HB2.out b3
  have HZ3 : Hid (w3.heap[w.heap.size + 1]? = some (.cells #[.int .i64 0, .int .i64 0, .int .i64 0, .int .i64 0, .int .i64 0, .int .i64 0, .int .i64 0, .int .i64 0, .int .i64 0, .int .i64 0, .int .i64 0, .int .i64 0, .int .i64 0] 48 (0, 0))) := (b3.block _ (Array.getElem?_eq_some_iff.1 HZ2.out).1).trans HZ2.out
  have HO3 : Hid (w3.heap[w.heap.size + 1 + 1]? = some (.cells #[.int .i64 k, .int .i64 f, .int .i64 t, .int .i64 v, .int .i64 b, .int .i64 q0, .int .i64 q1, .int .i64 q2, .int .i64 q3, .int .i64 0, .int .i64 0, .int .i64 0, .int .i64 0] 48 (0, 0))) := (b3.block _ (Array.getElem?_eq_some_iff.1 HO2.out).1).trans HO2.out
  clear b3 HB2 HA2 HZ2 HO2
  go_wp2_with (first
    | (refine wpList_store_part rfl _ _ _ rfl (w.heap.size + 1 + 1) 9 #[.int .i64 v0, .int .i64 v1, .int .i64 v2, .int .i64 v3] rfl rfl _ _ HO3.out (by kernel_rfl) (by simp) (by simp [Value.oneCell']) #[.int .i64 k, .int .i64 f, .int .i64 t, .int .i64 v, .int .i64 b, .int .i64 q0, .int .i64 q1, .int .i64 q2, .int .i64 q3, .int .i64 v0, .int .i64 v1, .int .i64 v2, .int .i64 v3] rfl ?_; intro w4 g4 k4; have HB4 : Hid (Below w.heap.size w w4) := HB3.out.grown g4 HB3.out.size (fun y hy => by cases hy; omega); have HZ4 : Hid (w4.heap[w.heap.size + 1]? = Option.some (.cells #[.int .i64 0, .int .i64 0, .int .i64 0, .int .i64 0, .int .i64 0, .int .i64 0, .int .i64 0, .int .i64 0, .int .i64 0, .int .i64 0, .int .i64 0, .int .i64 0, .int .i64 0] 48 (0, 0))) := (g4.block _ (Array.getElem?_eq_some_iff.1 HZ3.out).1 (fun e => by have := Option.some.inj e; omega)).trans HZ3.out; have d0 := blk_cell k4 0 (.int .i64 k) rfl; have d1 := blk_cell k4 1 (.int .i64 f) rfl; have d2 := blk_cell k4 2 (.int .i64 t) rfl; have d3 := blk_cell k4 3 (.int .i64 v) rfl; have d4 := blk_cell k4 4 (.int .i64 b) rfl; have d5 := blk_cell k4 5 (.int .i64 q0) rfl; have d6 := blk_cell k4 6 (.int .i64 q1) rfl; have d7 := blk_cell k4 7 (.int .i64 q2) rfl; have d8 := blk_cell k4 8 (.int .i64 q3) rfl; have d9 := blk_cell k4 9 (.int .i64 v0) rfl; have d10 := blk_cell k4 10 (.int .i64 v1) rfl; have d11 := blk_cell k4 11 (.int .i64 v2) rfl; have d12 := blk_cell k4 12 (.int .i64 v3) rfl; clear g4 k4 HB3 HZ3 HO3)
    | (refine wpList_store_blk rfl _ _ _ rfl (w.heap.size + 1) #[.int .i64 k, .int .i64 f, .int .i64 t, .int .i64 v, .int .i64 b, .int .i64 q0, .int .i64 q1, .int .i64 q2, .int .i64 q3, .int .i64 v0, .int .i64 v1, .int .i64 v2, .int .i64 v3] rfl rfl 48 #[.int .i64 0, .int .i64 0, .int .i64 0, .int .i64 0, .int .i64 0, .int .i64 0, .int .i64 0, .int .i64 0, .int .i64 0, .int .i64 0, .int .i64 0, .int .i64 0, .int .i64 0] HZ4.out (by kernel_rfl) rfl (by simp [Value.oneCell']) ?_; intro w5 g5 k5 s5; have HB5 : Hid (Below w.heap.size w w5) := HB4.out.grown g5 HB4.out.size (fun y hy => by cases hy; omega); have e0 := blk_cell k5 0 (.int .i64 k) rfl; have e1 := blk_cell k5 1 (.int .i64 f) rfl; have e2 := blk_cell k5 2 (.int .i64 t) rfl; have e3 := blk_cell k5 3 (.int .i64 v) rfl; have e4 := blk_cell k5 4 (.int .i64 b) rfl; have e5 := blk_cell k5 5 (.int .i64 q0) rfl; have e6 := blk_cell k5 6 (.int .i64 q1) rfl; have e7 := blk_cell k5 7 (.int .i64 q2) rfl; have e8 := blk_cell k5 8 (.int .i64 q3) rfl; have e9 := blk_cell k5 9 (.int .i64 v0) rfl; have e10 := blk_cell k5 10 (.int .i64 v1) rfl; have e11 := blk_cell k5 11 (.int .i64 v2) rfl; have e12 := blk_cell k5 12 (.int .i64 v3) rfl; clear s5 g5 k5))
  refine bodyPost_ret (v := .agg #[_, _, _, _, _, _, _, _, _, _, _, _, _]) (by simp [results, Tryz.results9, go_sem, *]) rfl ⟨rfl, ?_⟩
  exact HB5.out

end Go.Proofs.YtcfgfhodbjakoavGreatDoor

namespace Go.Proofs.YtcfgfhodbjakoavGreatDoor
open Go.ChangeShapes Go.WideShapes Go.ChangeAt Go.RowKit Num

theorem letF_len (l : LT) : (letF l).length = 13 := rfl

theorem letters_open {H : Type} {enc : TypeId × Value → H} {W : World} {a : Option Addr} {len cap : Nat} {d : DataW H} {p : List MemPlace} (h : DataW.Trod enc Tryz.prog W 0 (fun _ => true) true 24 (.slice a len cap) d p) :
    ∃ cs : List LT, cs.length = len ∧ RowsR W (.slice a len cap) 13 letF cs ∧ cs.length ≤ maxLen ∧ ∀ c ∈ cs, wfL c :=
  rows_open Tryz.underlying24 (by kernel_rfl) (by decide) letter_rd h

theorem szLetters_any (n cap : Nat) (a : Option Addr) (left : Int) (w : World) (h0 : 0 ≤ left) (h1 : left ≤ 1048576) (hn : n ≤ maxLen) :
    Calls Tryz.prog 24 #[.slice a n cap, .int .i64 left] w fun e w' => e = .returned (.int .i64 (if left - (n : Int) < 0 then -1 else left - (n : Int))) ∧ w' = w := by
  unfold maxLen at hn
  by_cases h : left - (n : Int) < 0
  · rw [if_pos h]
    go_enter Tryz.func24, Tryz.ntmps24
    go_wp2
    go_ret
    exact ⟨rfl, rfl⟩
  · rw [if_neg h]
    go_enter Tryz.func24, Tryz.ntmps24
    go_wp2
    go_ret
    exact ⟨rfl, rfl⟩
theorem szInts_any (n cap : Nat) (a : Option Addr) (left : Int) (w : World) (h0 : 0 ≤ left) (h1 : left ≤ 1048576) (hn : n ≤ maxLen) :
    Calls Tryz.prog 101 #[.slice a n cap, .int .i64 left] w fun e w' => e = .returned (.int .i64 (if left - (n : Int) < 0 then -1 else left - (n : Int))) ∧ w' = w := by
  unfold maxLen at hn
  by_cases h : left - (n : Int) < 0
  · rw [if_pos h]
    go_enter Tryz.func101, Tryz.ntmps101
    go_wp2
    go_ret
    exact ⟨rfl, rfl⟩
  · rw [if_neg h]
    go_enter Tryz.func101, Tryz.ntmps101
    go_wp2
    go_ret
    exact ⟨rfl, rfl⟩

theorem eqQ4_yes (a b c d : Int) (w : World) :
    Calls Tryz.prog 62 #[.agg #[.int .i64 a, .int .i64 b, .int .i64 c, .int .i64 d], .agg #[.int .i64 a, .int .i64 b, .int .i64 c, .int .i64 d]] w fun e w' => e = .returned (.bool true) ∧ Below w.heap.size w w' := by
  go_enter Tryz.func62, Tryz.ntmps62
  go_wp2
  go_ret
  exact ⟨rfl, ba (ba (Below.refl _ _) _) _⟩
theorem eqV4_yes (a b c d : Int) (w : World) :
    Calls Tryz.prog 76 #[.agg #[.int .i64 a, .int .i64 b, .int .i64 c, .int .i64 d], .agg #[.int .i64 a, .int .i64 b, .int .i64 c, .int .i64 d]] w fun e w' => e = .returned (.bool true) ∧ Below w.heap.size w w' := by
  go_enter Tryz.func76, Tryz.ntmps76
  go_wp2
  go_ret
  exact ⟨rfl, ba (ba (Below.refl _ _) _) _⟩

set_option maxRecDepth 100000 in
set_option maxHeartbeats 2000000 in
theorem eqLetter_yes (l : LT) (w : World) :
    Calls Tryz.prog 75 #[letV l, letV l] w fun e w' => e = .returned (.bool true) ∧ Below w.heap.size w w' := by
  obtain ⟨⟨k, f, t, v, b⟩, ⟨q0, q1, q2, q3⟩, ⟨v0, v1, v2, v3⟩⟩ := l
  unfold letV
  simp only
  obtain ⟨W, hW⟩ : ∃ W, W = (w.alloc (.cells #[.int .i64 k, .int .i64 f, .int .i64 t, .int .i64 v, .int .i64 b, .int .i64 q0, .int .i64 q1, .int .i64 q2, .int .i64 q3, .int .i64 v0, .int .i64 v1, .int .i64 v2, .int .i64 v3] 48)).alloc (.cells #[.int .i64 k, .int .i64 f, .int .i64 t, .int .i64 v, .int .i64 b, .int .i64 q0, .int .i64 q1, .int .i64 q2, .int .i64 q3, .int .i64 v0, .int .i64 v1, .int .i64 v2, .int .i64 v3] 48) := ⟨_, rfl⟩
  have HB : Hid (Below w.heap.size w W) := (by rw [hW]; exact ba (ba (Below.refl _ _) _) _ : Below w.heap.size w W)
  have HA : Hid (W.heap[w.heap.size]? = some (.cells #[.int .i64 k, .int .i64 f, .int .i64 t, .int .i64 v, .int .i64 b, .int .i64 q0, .int .i64 q1, .int .i64 q2, .int .i64 q3, .int .i64 v0, .int .i64 v1, .int .i64 v2, .int .i64 v3] 48 (0, 0))) := (by rw [hW]; exact (alloc2 w _ _).1 : W.heap[w.heap.size]? = _)
  have HC : Hid (W.heap[w.heap.size + 1]? = some (.cells #[.int .i64 k, .int .i64 f, .int .i64 t, .int .i64 v, .int .i64 b, .int .i64 q0, .int .i64 q1, .int .i64 q2, .int .i64 q3, .int .i64 v0, .int .i64 v1, .int .i64 v2, .int .i64 v3] 48 (0, 0))) := (by rw [hW]; exact (alloc2 w _ _).2 : W.heap[w.heap.size + 1]? = _)
  go_enter Tryz.func75, Tryz.ntmps75
  have c0 := blk_cell HA.out 0 (.int .i64 k) rfl
  have e0 := blk_cell HC.out 0 (.int .i64 k) rfl
  have c1 := blk_cell HA.out 1 (.int .i64 f) rfl
  have e1 := blk_cell HC.out 1 (.int .i64 f) rfl
  have c2 := blk_cell HA.out 2 (.int .i64 t) rfl
  have e2 := blk_cell HC.out 2 (.int .i64 t) rfl
  have c3 := blk_cell HA.out 3 (.int .i64 v) rfl
  have e3 := blk_cell HC.out 3 (.int .i64 v) rfl
  have c4 := blk_cell HA.out 4 (.int .i64 b) rfl
  have e4 := blk_cell HC.out 4 (.int .i64 b) rfl
  have c5 := blk_cell HA.out 5 (.int .i64 q0) rfl
  have e5 := blk_cell HC.out 5 (.int .i64 q0) rfl
  have c6 := blk_cell HA.out 6 (.int .i64 q1) rfl
  have e6 := blk_cell HC.out 6 (.int .i64 q1) rfl
  have c7 := blk_cell HA.out 7 (.int .i64 q2) rfl
  have e7 := blk_cell HC.out 7 (.int .i64 q2) rfl
  have c8 := blk_cell HA.out 8 (.int .i64 q3) rfl
  have e8 := blk_cell HC.out 8 (.int .i64 q3) rfl
  rw [hW] at c0 e0 c1 e1 c2 e2 c3 e3 c4 e4 c5 e5 c6 e6 c7 e7 c8 e8
  go_wp2_with fail
  rw [← hW]
  clear hW c0 e0 c1 e1 c2 e2 c3 e3 c4 e4 c5 e5 c6 e6 c7 e7 c8 e8
  have lW : w.heap.size + 1 < W.heap.size := (Array.getElem?_eq_some_iff.1 HC.out).1
  refine (eqQ4_yes q0 q1 q2 q3 W).mono ?_
  rintro e w1 ⟨rfl, b1⟩
  have HB1 : Hid (Below w.heap.size w w1) := bt HB.out b1
  have c9 := blk_cell ((b1.block _ (by omega)).trans HA.out) 9 (.int .i64 v0) rfl
  have e9 := blk_cell ((b1.block _ (by omega)).trans HC.out) 9 (.int .i64 v0) rfl
  have c10 := blk_cell ((b1.block _ (by omega)).trans HA.out) 10 (.int .i64 v1) rfl
  have e10 := blk_cell ((b1.block _ (by omega)).trans HC.out) 10 (.int .i64 v1) rfl
  have c11 := blk_cell ((b1.block _ (by omega)).trans HA.out) 11 (.int .i64 v2) rfl
  have e11 := blk_cell ((b1.block _ (by omega)).trans HC.out) 11 (.int .i64 v2) rfl
  have c12 := blk_cell ((b1.block _ (by omega)).trans HA.out) 12 (.int .i64 v3) rfl
  have e12 := blk_cell ((b1.block _ (by omega)).trans HC.out) 12 (.int .i64 v3) rfl
  clear b1
  go_wp2_with fail
  clear c9 e9 c10 e10 c11 e11 c12 e12
  refine (eqV4_yes v0 v1 v2 v3 w1).mono ?_
  rintro e w2 ⟨rfl, b2⟩
  have HB2 : Hid (Below w.heap.size w w2) := bt HB1.out b2
  clear b2
  go_wp2
  go_ret
  exact ⟨rfl, HB2.out⟩

set_option maxRecDepth 100000 in
set_option maxHeartbeats 4000000 in
theorem eqLetters_yes (l : List LT) (a b : Value) (w : World) (ha : RowsR w a 13 letF l) (hb : RowsR w b 13 letF l) (hl : (l.length : Int) ≤ 1048576) :
    Calls Tryz.prog 41 #[a, b] w fun e w' => e = .returned (.bool true) ∧ Below w.heap.size w w' := by
  obtain ⟨a, ca, rfl, hra⟩ := ha
  obtain ⟨b, cb, rfl, hrb⟩ := hb
  have HA : Hid (0 < l.length → _) := hra
  have HB : Hid (0 < l.length → _) := hrb
  clear hra hrb
  go_enter Tryz.func41, Tryz.ntmps41
  go_wp2
  go_loopw [5] (fun i wr => ∃ m : Nat, m ≤ l.length ∧ i = .int .i64 m ∧ Below w.heap.size w wr) (fun i _ => l.length - (intOf i).toNat)
  case atStart => exact ⟨0, Nat.zero_le _, rfl, Below.refl _ _⟩
  case round =>
    obtain ⟨m, hm, rfl, hbel⟩ := hrel
    by_cases hlt : (m : Int) < l.length
    · have q0 : (0 : Int) ≤ (m : Int) := by omega
      have hmn : m < l.length := by omega
      obtain ⟨ga, oa, rfl, hga, hca⟩ := HA.out (by omega)
      obtain ⟨gb, ob, rfl, hgb, hcb⟩ := HB.out (by omega)
      have hne := bw_some wr
      obtain ⟨y, hy⟩ : ∃ y, y = l[m] := ⟨_, rfl⟩
      have HQ : Hid (∀ x, Calls Tryz.prog 75 #[letV y, letV y] x fun e w' => e = .returned (.bool true) ∧ Below x.heap.size x w') := fun x => eqLetter_yes y x
      obtain ⟨⟨y0, y1, y2, y3, y4⟩, ⟨y5, y6, y7, y8⟩, ⟨y9, y10, y11, y12⟩⟩ := y
      unfold letV at HQ
      simp only at HQ
      have c0 : ∀ x : Bw wr, x.to.cell? ⟨ga, oa + m * 13, none⟩ = some (.int .i64 y0) := fun x => by rw [(bt hbel x.below).cell (by exact hga)]; have := hca m hmn 0 (by omega); rw [← hy] at this; exact this
      have d0 : ∀ x : Bw wr, x.to.cell? ⟨gb, ob + m * 13, none⟩ = some (.int .i64 y0) := fun x => by rw [(bt hbel x.below).cell (by exact hgb)]; have := hcb m hmn 0 (by omega); rw [← hy] at this; exact this
      have c1 : ∀ x : Bw wr, x.to.cell? ⟨ga, oa + m * 13 + 1, none⟩ = some (.int .i64 y1) := fun x => by rw [(bt hbel x.below).cell (by exact hga)]; have := hca m hmn 1 (by omega); rw [← hy] at this; exact this
      have d1 : ∀ x : Bw wr, x.to.cell? ⟨gb, ob + m * 13 + 1, none⟩ = some (.int .i64 y1) := fun x => by rw [(bt hbel x.below).cell (by exact hgb)]; have := hcb m hmn 1 (by omega); rw [← hy] at this; exact this
      have c2 : ∀ x : Bw wr, x.to.cell? ⟨ga, oa + m * 13 + 2, none⟩ = some (.int .i64 y2) := fun x => by rw [(bt hbel x.below).cell (by exact hga)]; have := hca m hmn 2 (by omega); rw [← hy] at this; exact this
      have d2 : ∀ x : Bw wr, x.to.cell? ⟨gb, ob + m * 13 + 2, none⟩ = some (.int .i64 y2) := fun x => by rw [(bt hbel x.below).cell (by exact hgb)]; have := hcb m hmn 2 (by omega); rw [← hy] at this; exact this
      have c3 : ∀ x : Bw wr, x.to.cell? ⟨ga, oa + m * 13 + 3, none⟩ = some (.int .i64 y3) := fun x => by rw [(bt hbel x.below).cell (by exact hga)]; have := hca m hmn 3 (by omega); rw [← hy] at this; exact this
      have d3 : ∀ x : Bw wr, x.to.cell? ⟨gb, ob + m * 13 + 3, none⟩ = some (.int .i64 y3) := fun x => by rw [(bt hbel x.below).cell (by exact hgb)]; have := hcb m hmn 3 (by omega); rw [← hy] at this; exact this
      have c4 : ∀ x : Bw wr, x.to.cell? ⟨ga, oa + m * 13 + 4, none⟩ = some (.int .i64 y4) := fun x => by rw [(bt hbel x.below).cell (by exact hga)]; have := hca m hmn 4 (by omega); rw [← hy] at this; exact this
      have d4 : ∀ x : Bw wr, x.to.cell? ⟨gb, ob + m * 13 + 4, none⟩ = some (.int .i64 y4) := fun x => by rw [(bt hbel x.below).cell (by exact hgb)]; have := hcb m hmn 4 (by omega); rw [← hy] at this; exact this
      have c5 : ∀ x : Bw wr, x.to.cell? ⟨ga, oa + m * 13 + 5, none⟩ = some (.int .i64 y5) := fun x => by rw [(bt hbel x.below).cell (by exact hga)]; have := hca m hmn 5 (by omega); rw [← hy] at this; exact this
      have d5 : ∀ x : Bw wr, x.to.cell? ⟨gb, ob + m * 13 + 5, none⟩ = some (.int .i64 y5) := fun x => by rw [(bt hbel x.below).cell (by exact hgb)]; have := hcb m hmn 5 (by omega); rw [← hy] at this; exact this
      have c6 : ∀ x : Bw wr, x.to.cell? ⟨ga, oa + m * 13 + 6, none⟩ = some (.int .i64 y6) := fun x => by rw [(bt hbel x.below).cell (by exact hga)]; have := hca m hmn 6 (by omega); rw [← hy] at this; exact this
      have d6 : ∀ x : Bw wr, x.to.cell? ⟨gb, ob + m * 13 + 6, none⟩ = some (.int .i64 y6) := fun x => by rw [(bt hbel x.below).cell (by exact hgb)]; have := hcb m hmn 6 (by omega); rw [← hy] at this; exact this
      have c7 : ∀ x : Bw wr, x.to.cell? ⟨ga, oa + m * 13 + 7, none⟩ = some (.int .i64 y7) := fun x => by rw [(bt hbel x.below).cell (by exact hga)]; have := hca m hmn 7 (by omega); rw [← hy] at this; exact this
      have d7 : ∀ x : Bw wr, x.to.cell? ⟨gb, ob + m * 13 + 7, none⟩ = some (.int .i64 y7) := fun x => by rw [(bt hbel x.below).cell (by exact hgb)]; have := hcb m hmn 7 (by omega); rw [← hy] at this; exact this
      have c8 : ∀ x : Bw wr, x.to.cell? ⟨ga, oa + m * 13 + 8, none⟩ = some (.int .i64 y8) := fun x => by rw [(bt hbel x.below).cell (by exact hga)]; have := hca m hmn 8 (by omega); rw [← hy] at this; exact this
      have d8 : ∀ x : Bw wr, x.to.cell? ⟨gb, ob + m * 13 + 8, none⟩ = some (.int .i64 y8) := fun x => by rw [(bt hbel x.below).cell (by exact hgb)]; have := hcb m hmn 8 (by omega); rw [← hy] at this; exact this
      have c9 : ∀ x : Bw wr, x.to.cell? ⟨ga, oa + m * 13 + 9, none⟩ = some (.int .i64 y9) := fun x => by rw [(bt hbel x.below).cell (by exact hga)]; have := hca m hmn 9 (by omega); rw [← hy] at this; exact this
      have d9 : ∀ x : Bw wr, x.to.cell? ⟨gb, ob + m * 13 + 9, none⟩ = some (.int .i64 y9) := fun x => by rw [(bt hbel x.below).cell (by exact hgb)]; have := hcb m hmn 9 (by omega); rw [← hy] at this; exact this
      have c10 : ∀ x : Bw wr, x.to.cell? ⟨ga, oa + m * 13 + 10, none⟩ = some (.int .i64 y10) := fun x => by rw [(bt hbel x.below).cell (by exact hga)]; have := hca m hmn 10 (by omega); rw [← hy] at this; exact this
      have d10 : ∀ x : Bw wr, x.to.cell? ⟨gb, ob + m * 13 + 10, none⟩ = some (.int .i64 y10) := fun x => by rw [(bt hbel x.below).cell (by exact hgb)]; have := hcb m hmn 10 (by omega); rw [← hy] at this; exact this
      have c11 : ∀ x : Bw wr, x.to.cell? ⟨ga, oa + m * 13 + 11, none⟩ = some (.int .i64 y11) := fun x => by rw [(bt hbel x.below).cell (by exact hga)]; have := hca m hmn 11 (by omega); rw [← hy] at this; exact this
      have d11 : ∀ x : Bw wr, x.to.cell? ⟨gb, ob + m * 13 + 11, none⟩ = some (.int .i64 y11) := fun x => by rw [(bt hbel x.below).cell (by exact hgb)]; have := hcb m hmn 11 (by omega); rw [← hy] at this; exact this
      have c12 : ∀ x : Bw wr, x.to.cell? ⟨ga, oa + m * 13 + 12, none⟩ = some (.int .i64 y12) := fun x => by rw [(bt hbel x.below).cell (by exact hga)]; have := hca m hmn 12 (by omega); rw [← hy] at this; exact this
      have d12 : ∀ x : Bw wr, x.to.cell? ⟨gb, ob + m * 13 + 12, none⟩ = some (.int .i64 y12) := fun x => by rw [(bt hbel x.below).cell (by exact hgb)]; have := hcb m hmn 12 (by omega); rw [← hy] at this; exact this
      clear hca hcb hy
      go_wp2
      refine wp_region_bw (by kernel_rfl) (by kernel_rfl) ?_
      repeat (go_big_quiet_step (with_reducible refine calls_bw (HQ.out _)))
      refine wpQuiet_nil ?_
      intro _ hw'
      obtain ⟨x, rfl⟩ := hw'
      go_wp2
      go_roundw
      case rel => exact ⟨m + 1, by omega, by go_num, bt hbel x.below⟩
      case measure => simp [intOf]; omega
    · go_wp2
      go_ret
      exact ⟨rfl, hbel⟩

theorem infoLetter : (Tryz.prog.info? 48).map (fun i => (i.zero, i.size, i.bytes)) = some (some (.agg #[.int .i64 0, .int .i64 0, .int .i64 0, .int .i64 0, .int .i64 0, .int .i64 0, .int .i64 0, .int .i64 0, .int .i64 0, .int .i64 0, .int .i64 0, .int .i64 0, .int .i64 0]), 13, 104) := by kernel_rfl
set_option maxRecDepth 100000 in
set_option maxHeartbeats 4000000 in
theorem toLetters_any (l : List LT) (v : Value) (w : World) (hv : RowsR w v 13 letF l) (hl : (l.length : Int) ≤ 1048576) :
    Calls Tryz.prog 32 #[v] w fun e w' => ∃ v', e = .returned v' ∧ w'.ownsRow w.heap.size 48 13 v' l.length (flatR letF l) ∧ Below w.heap.size w w' := by
  obtain ⟨i0, hi, hz0, hz1, hz2⟩ := info_parts infoLetter
  obtain ⟨a, cap, rfl, hr⟩ := hv
  have HR : Hid (0 < l.length → _) := hr
  clear hr
  go_enter Tryz.func32, Tryz.ntmps32
  go_wp2_with (at_make; refine wpList_make_full _ rfl _ _ 39 rfl w.heap.size 48 i0 _ 13 Tryz.underlying39 hi hz0 hz1 _ _ _ _ l.length rfl rfl (by omega) (by omega) (by rw [hz2]; omega) (by unfold maxLen; omega) (Nat.le_refl _) ?_; intro w0 hown0 hgrow0)
  have hb0 : Below w.heap.size w w0 := (Below.refl _ _).grown hgrow0 (Nat.le_refl _) (fun k h => by cases h)
  have HO0 : Hid (w0.ownsRow w.heap.size 48 13 (.slice (some ⟨w.heap.size, 0, none⟩) l.length l.length) l.length _) := hown0
  clear hgrow0 hown0
  go_loopw [4] (fun i wr => ∃ (k : Nat) (xs : List Value), k ≤ l.length ∧ i = .int .i64 k ∧ Hid (upToR letF 13 l xs k) ∧ Hid (wr.ownsRow w.heap.size 48 13 (.slice (some ⟨w.heap.size, 0, none⟩) l.length l.length) l.length xs) ∧ Below w.heap.size w wr) (fun i _ => l.length - (intOf i).toNat)
  case atStart => exact ⟨0, _, Nat.zero_le _, rfl, upToR_zero HO0.out.1, HO0.out, hb0⟩
  case round =>
    obtain ⟨k, xs, hk, rfl, HX, HO, hbel⟩ := hrel
    clear hb0
    by_cases hlt : (k : Int) < l.length
    · have hkn : k < l.length := by omega
      obtain ⟨g, off, rfl, hg, hc⟩ := HR.out (by omega)
      obtain ⟨y, hy⟩ : ∃ y, y = l[k] := ⟨_, rfl⟩
      have HY : Hid (y = l[k]) := hy
      have HQ : Hid (∀ x, Calls Tryz.prog 9 #[letV y] x fun e w' => e = .returned (letV y) ∧ Below x.heap.size x w') := fun x => toLetter_any y x
      obtain ⟨⟨y0, y1, y2, y3, y4⟩, ⟨y5, y6, y7, y8⟩, ⟨y9, y10, y11, y12⟩⟩ := y
      unfold letV at HQ
      simp only at HQ
      have c0 : wr.cell? ⟨g, off + k * 13, none⟩ = some (.int .i64 y0) := by rw [hbel.cell (by exact hg)]; have := hc k hkn 0 (by omega); rw [← hy] at this; exact this
      have c1 : wr.cell? ⟨g, off + k * 13 + 1, none⟩ = some (.int .i64 y1) := by rw [hbel.cell (by exact hg)]; have := hc k hkn 1 (by omega); rw [← hy] at this; exact this
      have c2 : wr.cell? ⟨g, off + k * 13 + 2, none⟩ = some (.int .i64 y2) := by rw [hbel.cell (by exact hg)]; have := hc k hkn 2 (by omega); rw [← hy] at this; exact this
      have c3 : wr.cell? ⟨g, off + k * 13 + 3, none⟩ = some (.int .i64 y3) := by rw [hbel.cell (by exact hg)]; have := hc k hkn 3 (by omega); rw [← hy] at this; exact this
      have c4 : wr.cell? ⟨g, off + k * 13 + 4, none⟩ = some (.int .i64 y4) := by rw [hbel.cell (by exact hg)]; have := hc k hkn 4 (by omega); rw [← hy] at this; exact this
      have c5 : wr.cell? ⟨g, off + k * 13 + 5, none⟩ = some (.int .i64 y5) := by rw [hbel.cell (by exact hg)]; have := hc k hkn 5 (by omega); rw [← hy] at this; exact this
      have c6 : wr.cell? ⟨g, off + k * 13 + 6, none⟩ = some (.int .i64 y6) := by rw [hbel.cell (by exact hg)]; have := hc k hkn 6 (by omega); rw [← hy] at this; exact this
      have c7 : wr.cell? ⟨g, off + k * 13 + 7, none⟩ = some (.int .i64 y7) := by rw [hbel.cell (by exact hg)]; have := hc k hkn 7 (by omega); rw [← hy] at this; exact this
      have c8 : wr.cell? ⟨g, off + k * 13 + 8, none⟩ = some (.int .i64 y8) := by rw [hbel.cell (by exact hg)]; have := hc k hkn 8 (by omega); rw [← hy] at this; exact this
      have c9 : wr.cell? ⟨g, off + k * 13 + 9, none⟩ = some (.int .i64 y9) := by rw [hbel.cell (by exact hg)]; have := hc k hkn 9 (by omega); rw [← hy] at this; exact this
      have c10 : wr.cell? ⟨g, off + k * 13 + 10, none⟩ = some (.int .i64 y10) := by rw [hbel.cell (by exact hg)]; have := hc k hkn 10 (by omega); rw [← hy] at this; exact this
      have c11 : wr.cell? ⟨g, off + k * 13 + 11, none⟩ = some (.int .i64 y11) := by rw [hbel.cell (by exact hg)]; have := hc k hkn 11 (by omega); rw [← hy] at this; exact this
      have c12 : wr.cell? ⟨g, off + k * 13 + 12, none⟩ = some (.int .i64 y12) := by rw [hbel.cell (by exact hg)]; have := hc k hkn 12 (by omega); rw [← hy] at this; exact this
      have q0 : (0 : Int) ≤ (k : Int) := by omega
      clear hc hy
      go_wp2_with fail
      clear c0 c1 c2 c3 c4 c5 c6 c7 c8 c9 c10 c11 c12
      refine (HQ.out wr).mono ?_
      rintro e w1 ⟨rfl, hb1⟩
      have HO1 := hid (own_kept HO.out hb1)
      have B1 := bt hbel hb1
      have HB1 : Hid (Below w.heap.size w w1) := B1
      clear B1 hb1 hbel HO
      go_wp2_with (refine wpList_store_elem rfl _ _ _ rfl w.heap.size 48 13 l.length l.length w.heap.size k _ #[.int .i64 y0, .int .i64 y1, .int .i64 y2, .int .i64 y3, .int .i64 y4, .int .i64 y5, .int .i64 y6, .int .i64 y7, .int .i64 y8, .int .i64 y9, .int .i64 y10, .int .i64 y11, .int .i64 y12] xs rfl (by omega) rfl HO1.out hkn (by kernel_rfl) rfl (by simp [Value.oneCell']) ?_; intro w2 hg2 ho2; have HO2 : Hid (w2.ownsRow w.heap.size 48 13 (.slice (some ⟨w.heap.size, 0, none⟩) l.length l.length) l.length (setEl xs k 13 (letF l[k]))) := (by rw [← HY.out]; exact ho2); have HB2 : Hid (Below w.heap.size w w2) := HB1.out.grown hg2 HB1.out.size (fun b hb => by cases hb; exact Nat.le_refl _); clear hg2 ho2)
      go_roundw
      case rel => exact ⟨k + 1, _, by omega, by go_num, upToR_part letF_len HX.out hkn, HO2.out, HB2.out⟩
      case measure => simp [intOf]; omega
    · have hkl : k = l.length := by omega
      have HK : Hid (k = l.length) := hkl
      clear hkl
      go_wp2
      go_ret
      have hx := HX.out
      rw [HK.out] at hx
      exact ⟨_, rfl, by have := HO.out; rw [upToR_all letF_len hx] at this; exact this, hbel⟩

end Go.Proofs.YtcfgfhodbjakoavGreatDoor

namespace Go.Proofs.YtcfgfhodbjakoavGreatDoor
open Go.ChangeShapes Go.WideShapes Go.ChangeAt Go.RowKit Num

set_option maxRecDepth 100000 in
theorem vote_rd {H : Type} {enc : TypeId × Value → H} {W : World} : ∀ n cs x, DataW.trod enc Tryz.prog W 0 (fun _ => true) true n 32 cs = some x → ∃ v : VT, cs = voteF v ∧ wfV v := by
  intro n cs x h
  obtain ⟨y0, y1, y2, y3, k, _, hl, h0, h1, h2, h3⟩ := Go.Joins.trod_struct4 Tryz.underlying32 h
  have hl4 : cs.length = 4 := hl.trans (by kernel_rfl)
  obtain ⟨a, b, c, d, rfl⟩ : ∃ a b c d, cs = [a, b, c, d] := by
    match cs, hl4 with
    | [a, b, c, d], _ => exact ⟨a, b, c, d, rfl⟩
  have c0 : Tryz.prog.cellsOf 3 = 1 := by kernel_rfl
  simp only [c0] at h0 h1 h2 h3
  obtain ⟨z0, e0, _, w0⟩ := DataW.trod_int Tryz.underlying3 h0
  obtain ⟨z1, e1, _, w1⟩ := DataW.trod_int Tryz.underlying3 h1
  obtain ⟨z2, e2, _, w2⟩ := DataW.trod_int Tryz.underlying3 h2
  obtain ⟨z3, e3, _, w3⟩ := DataW.trod_int Tryz.underlying3 h3
  simp at e0 e1 e2 e3
  exact ⟨(z0, z1, z2, z3), by rw [e0, e1, e2, e3]; rfl, w0, w1, w2, w3⟩
set_option maxRecDepth 100000 in
theorem vote_open {H : Type} {enc : TypeId × Value → H} {W : World} {base : Nat} {v : Value} {d : DataW H} {p : List MemPlace} (hv : Value.okWide Tryz.prog W .any base 32 v) (h : DataW.Trod enc Tryz.prog W 0 (fun _ => true) true 32 v d p) :
    ∃ c : VT, v = voteV c ∧ wfV c := by
  obtain ⟨cs, rfl, _⟩ := okWide_struct Tryz.underlying32 hv
  obtain ⟨n, hn⟩ := h
  obtain ⟨y, hy, hg⟩ := vote_rd _ _ _ hn
  refine ⟨y, ?_, hg⟩
  have : cs.toList = voteF y := hy
  unfold voteV
  rw [← Array.toArray_toList (xs := cs), this]
  rfl
theorem votes_open {H : Type} {enc : TypeId × Value → H} {W : World} {a : Option Addr} {len cap : Nat} {d : DataW H} {p : List MemPlace} (h : DataW.Trod enc Tryz.prog W 0 (fun _ => true) true 25 (.slice a len cap) d p) :
    ∃ cs : List VT, cs.length = len ∧ RowsR W (.slice a len cap) 4 voteF cs ∧ cs.length ≤ maxLen ∧ ∀ c ∈ cs, wfV c :=
  rows_open Tryz.underlying25 (by kernel_rfl) (by decide) vote_rd h
theorem szVotes_any (n cap : Nat) (a : Option Addr) (left : Int) (w : World) (h0 : 0 ≤ left) (h1 : left ≤ 1048576) (hn : n ≤ maxLen) :
    Calls Tryz.prog 25 #[.slice a n cap, .int .i64 left] w fun e w' => e = .returned (.int .i64 (if left - (n : Int) < 0 then -1 else left - (n : Int))) ∧ w' = w := by
  unfold maxLen at hn
  by_cases h : left - (n : Int) < 0
  · rw [if_pos h]
    go_enter Tryz.func25, Tryz.ntmps25
    go_wp2
    go_ret
    exact ⟨rfl, rfl⟩
  · rw [if_neg h]
    go_enter Tryz.func25, Tryz.ntmps25
    go_wp2
    go_ret
    exact ⟨rfl, rfl⟩

theorem toVote_any (v : VT) (w : World) :
    Calls Tryz.prog 36 #[voteV v] w fun e w' => e = .returned (voteV v) ∧ Below w.heap.size w w' := by
  obtain ⟨a, b, c, d⟩ := v
  unfold voteV
  go_enter Tryz.func36, Tryz.ntmps36
  go_wp2
  refine bodyPost_ret (v := .agg #[_, _, _, _]) (by simp [results, Tryz.results36, go_sem]) rfl ⟨rfl, ?_⟩
  exact ba (ba (ba (Below.refl _ _) _) _) _

theorem eqVote_yes (v : VT) (w : World) :
    Calls Tryz.prog 76 #[voteV v, voteV v] w fun e w' => e = .returned (.bool true) ∧ Below w.heap.size w w' := by
  obtain ⟨a, b, c, d⟩ := v
  unfold voteV
  go_enter Tryz.func76, Tryz.ntmps76
  go_wp2
  go_ret
  exact ⟨rfl, ba (ba (Below.refl _ _) _) _⟩

set_option maxRecDepth 100000 in
set_option maxHeartbeats 1000000 in
theorem eqVotes_yes (l : List VT) (a b : Value) (w : World) (ha : RowsR w a 4 voteF l) (hb : RowsR w b 4 voteF l) (hl : (l.length : Int) ≤ 1048576) :
    Calls Tryz.prog 42 #[a, b] w fun e w' => e = .returned (.bool true) ∧ Below w.heap.size w w' := by
  obtain ⟨a, ca, rfl, hra⟩ := ha
  obtain ⟨b, cb, rfl, hrb⟩ := hb
  have HA : Hid (0 < l.length → _) := hra
  have HB : Hid (0 < l.length → _) := hrb
  clear hra hrb
  go_enter Tryz.func42, Tryz.ntmps42
  go_wp2
  go_loopw [5] (fun i wr => ∃ m : Nat, m ≤ l.length ∧ i = .int .i64 m ∧ Below w.heap.size w wr) (fun i _ => l.length - (intOf i).toNat)
  case atStart => exact ⟨0, Nat.zero_le _, rfl, Below.refl _ _⟩
  case round =>
    obtain ⟨m, hm, rfl, hbel⟩ := hrel
    by_cases hlt : (m : Int) < l.length
    · have q0 : (0 : Int) ≤ (m : Int) := by omega
      have hmn : m < l.length := by omega
      obtain ⟨ga, oa, rfl, hga, hca⟩ := HA.out (by omega)
      obtain ⟨gb, ob, rfl, hgb, hcb⟩ := HB.out (by omega)
      have hne := bw_some wr
      have c0 : ∀ x : Bw wr, x.to.cell? ⟨ga, oa + m * 4, none⟩ = some (.int .i64 l[m].1) := fun x => by rw [(bt hbel x.below).cell (by exact hga)]; exact hca m hmn 0 (by omega)
      have c1 : ∀ x : Bw wr, x.to.cell? ⟨ga, oa + m * 4 + 1, none⟩ = some (.int .i64 l[m].2.1) := fun x => by rw [(bt hbel x.below).cell (by exact hga)]; exact hca m hmn 1 (by omega)
      have c2 : ∀ x : Bw wr, x.to.cell? ⟨ga, oa + m * 4 + 2, none⟩ = some (.int .i64 l[m].2.2.1) := fun x => by rw [(bt hbel x.below).cell (by exact hga)]; exact hca m hmn 2 (by omega)
      have c3 : ∀ x : Bw wr, x.to.cell? ⟨ga, oa + m * 4 + 3, none⟩ = some (.int .i64 l[m].2.2.2) := fun x => by rw [(bt hbel x.below).cell (by exact hga)]; exact hca m hmn 3 (by omega)
      have d0 : ∀ x : Bw wr, x.to.cell? ⟨gb, ob + m * 4, none⟩ = some (.int .i64 l[m].1) := fun x => by rw [(bt hbel x.below).cell (by exact hgb)]; exact hcb m hmn 0 (by omega)
      have d1 : ∀ x : Bw wr, x.to.cell? ⟨gb, ob + m * 4 + 1, none⟩ = some (.int .i64 l[m].2.1) := fun x => by rw [(bt hbel x.below).cell (by exact hgb)]; exact hcb m hmn 1 (by omega)
      have d2 : ∀ x : Bw wr, x.to.cell? ⟨gb, ob + m * 4 + 2, none⟩ = some (.int .i64 l[m].2.2.1) := fun x => by rw [(bt hbel x.below).cell (by exact hgb)]; exact hcb m hmn 2 (by omega)
      have d3 : ∀ x : Bw wr, x.to.cell? ⟨gb, ob + m * 4 + 3, none⟩ = some (.int .i64 l[m].2.2.2) := fun x => by rw [(bt hbel x.below).cell (by exact hgb)]; exact hcb m hmn 3 (by omega)
      clear hca hcb
      go_wp2
      refine wp_region_bw (by kernel_rfl) (by kernel_rfl) ?_
      repeat (go_big_quiet_step (refine calls_bw (eqVote_yes l[m] _)))
      refine wpQuiet_nil ?_
      intro _ hw'
      obtain ⟨x, rfl⟩ := hw'
      go_wp2
      go_roundw
      case rel => exact ⟨m + 1, by omega, by go_num, bt hbel x.below⟩
      case measure => simp [intOf]; omega
    · go_wp2
      go_ret
      exact ⟨rfl, hbel⟩

/-- four cells of a row of the call's own, set one behind the other -/
theorem own_four {w : World} {base g n cap : Nat} {e : TypeId} {xs : List Value} (h : w.ownsRow base e 4 (.slice (some ⟨g, 0, none⟩) n cap) n xs) (k : Nat) (hk : k < n) (a b c d : Value) :
    ∃ u0 u1 u2 u3, (w.cell? ⟨g, k * 4, none⟩ = some u0 ∧ w.frozen? ⟨g, k * 4, none⟩ = false) ∧ (w.cell? ⟨g, k * 4 + 1, none⟩ = some u1 ∧ (w.setCell ⟨g, k * 4, none⟩ a).cell? ⟨g, k * 4 + 1, none⟩ = some u1 ∧ (w.setCell ⟨g, k * 4, none⟩ a).frozen? ⟨g, k * 4 + 1, none⟩ = false) ∧
      (w.cell? ⟨g, k * 4 + 2, none⟩ = some u2 ∧ ((w.setCell ⟨g, k * 4, none⟩ a).setCell ⟨g, k * 4 + 1, none⟩ b).cell? ⟨g, k * 4 + 2, none⟩ = some u2 ∧ ((w.setCell ⟨g, k * 4, none⟩ a).setCell ⟨g, k * 4 + 1, none⟩ b).frozen? ⟨g, k * 4 + 2, none⟩ = false) ∧
      (w.cell? ⟨g, k * 4 + 3, none⟩ = some u3 ∧ (((w.setCell ⟨g, k * 4, none⟩ a).setCell ⟨g, k * 4 + 1, none⟩ b).setCell ⟨g, k * 4 + 2, none⟩ c).cell? ⟨g, k * 4 + 3, none⟩ = some u3 ∧ (((w.setCell ⟨g, k * 4, none⟩ a).setCell ⟨g, k * 4 + 1, none⟩ b).setCell ⟨g, k * 4 + 2, none⟩ c).frozen? ⟨g, k * 4 + 3, none⟩ = false) ∧
      ((((w.setCell ⟨g, k * 4, none⟩ a).setCell ⟨g, k * 4 + 1, none⟩ b).setCell ⟨g, k * 4 + 2, none⟩ c).setCell ⟨g, k * 4 + 3, none⟩ d).ownsRow base e 4 (.slice (some ⟨g, 0, none⟩) n cap) n ((((xs.set (k * 4) a).set (k * 4 + 1) b).set (k * 4 + 2) c).set (k * 4 + 3) d) ∧
      w.grownBy ((((w.setCell ⟨g, k * 4, none⟩ a).setCell ⟨g, k * 4 + 1, none⟩ b).setCell ⟨g, k * 4 + 2, none⟩ c).setCell ⟨g, k * 4 + 3, none⟩ d) (some g) := by
  have hl := h.1
  have b0 : k * 4 < xs.length := by omega
  have b1 : k * 4 + 1 < xs.length := by omega
  have b2 : k * 4 + 2 < xs.length := by omega
  have b3 : k * 4 + 3 < xs.length := by omega
  have s0 := h.stored (k * 4) a
  have s1 := s0.1.stored (k * 4 + 1) b
  have s2 := s1.1.stored (k * 4 + 2) c
  have s3 := s2.1.stored (k * 4 + 3) d
  refine ⟨xs[k * 4], xs[k * 4 + 1], xs[k * 4 + 2], xs[k * 4 + 3], ⟨?_, h.frozenAt _⟩, ⟨?_, ?_, s0.1.frozenAt _⟩, ⟨?_, ?_, s1.1.frozenAt _⟩, ⟨?_, ?_, s2.1.frozenAt _⟩, s3.1, grown_trans (grown_trans (grown_trans s0.2 s1.2) s2.2) s3.2⟩
  · rw [h.cellAt _ (by omega), List.getElem?_eq_getElem b0]
  · rw [h.cellAt _ (by omega), List.getElem?_eq_getElem b1]
  · rw [s0.1.cellAt _ (by omega), List.getElem?_set_ne (by omega), List.getElem?_eq_getElem b1]
  · rw [h.cellAt _ (by omega), List.getElem?_eq_getElem b2]
  · rw [s1.1.cellAt _ (by omega), List.getElem?_set_ne (by omega), List.getElem?_set_ne (by omega), List.getElem?_eq_getElem b2]
  · rw [h.cellAt _ (by omega), List.getElem?_eq_getElem b3]
  · rw [s2.1.cellAt _ (by omega), List.getElem?_set_ne (by omega), List.getElem?_set_ne (by omega), List.getElem?_set_ne (by omega), List.getElem?_eq_getElem b3]
theorem upTo_four {l : List VT} {xs : List Value} {k : Nat} (h : upToR voteF 4 l xs k) (hk : k < l.length) : upToR voteF 4 l ((((xs.set (k * 4) (.int .i64 l[k].1)).set (k * 4 + 1) (.int .i64 l[k].2.1)).set (k * 4 + 2) (.int .i64 l[k].2.2.1)).set (k * 4 + 3) (.int .i64 l[k].2.2.2)) (k + 1) := by
  have hl := h.1
  refine upToR_step voteF_len h hk (by simp) (fun j hj => ?_) (fun j hj => ?_)
  · rw [List.getElem?_set_ne (by omega), List.getElem?_set_ne (by omega), List.getElem?_set_ne (by omega), List.getElem?_set_ne (by omega)]
  · rcases (by omega : j = 0 ∨ j = 1 ∨ j = 2 ∨ j = 3) with rfl | rfl | rfl | rfl
    · rw [List.getElem?_set_ne (by omega), List.getElem?_set_ne (by omega), List.getElem?_set_ne (by omega), Nat.add_zero, List.getElem?_set_self (by omega)]; rfl
    · rw [List.getElem?_set_ne (by omega), List.getElem?_set_ne (by omega), List.getElem?_set_self (by simp; omega)]; rfl
    · rw [List.getElem?_set_ne (by omega), List.getElem?_set_self (by simp; omega)]; rfl
    · rw [List.getElem?_set_self (by simp; omega)]; rfl

set_option maxRecDepth 100000 in
set_option maxHeartbeats 1000000 in
theorem toVotes_any (l : List VT) (v : Value) (w : World) (hv : RowsR w v 4 voteF l) (hl : (l.length : Int) ≤ 1048576) :
    Calls Tryz.prog 33 #[v] w fun e w' => ∃ v', e = .returned v' ∧ w'.ownsRow w.heap.size 46 4 v' l.length (flatR voteF l) ∧ Below w.heap.size w w' := by
  obtain ⟨i0, hi, hz0, hz1, hz2⟩ := info_parts infoVote
  obtain ⟨a, cap, rfl, hr⟩ := hv
  have HR : Hid (0 < l.length → _) := hr
  clear hr
  go_enter Tryz.func33, Tryz.ntmps33
  go_wp2_with (at_make; refine wpList_make_full _ rfl _ _ 40 rfl w.heap.size 46 i0 _ 4 Tryz.underlying40 hi hz0 hz1 _ _ _ _ l.length rfl rfl (by omega) (by omega) (by rw [hz2]; omega) (by unfold maxLen; omega) (Nat.le_refl _) ?_; intro w0 hown0 hgrow0)
  have hb0 : Below w.heap.size w w0 := (Below.refl _ _).grown hgrow0 (Nat.le_refl _) (fun k h => by cases h)
  have HO0 : Hid (w0.ownsRow w.heap.size 46 4 (.slice (some ⟨w.heap.size, 0, none⟩) l.length l.length) l.length _) := hown0
  clear hgrow0 hown0
  go_loopw [4] (fun i wr => ∃ (k : Nat) (xs : List Value), k ≤ l.length ∧ i = .int .i64 k ∧ Hid (upToR voteF 4 l xs k) ∧ Hid (wr.ownsRow w.heap.size 46 4 (.slice (some ⟨w.heap.size, 0, none⟩) l.length l.length) l.length xs) ∧ Below w.heap.size w wr) (fun i _ => l.length - (intOf i).toNat)
  case atStart => exact ⟨0, _, Nat.zero_le _, rfl, upToR_zero HO0.out.1, HO0.out, hb0⟩
  case round =>
    obtain ⟨k, xs, hk, rfl, HX, HO, hbel⟩ := hrel
    clear hb0
    by_cases hlt : (k : Int) < l.length
    · have hkn : k < l.length := by omega
      obtain ⟨g, off, rfl, hg, hc⟩ := HR.out (by omega)
      have c0 : wr.cell? ⟨g, off + k * 4, none⟩ = some (.int .i64 l[k].1) := by rw [hbel.cell (by exact hg)]; exact hc k hkn 0 (by omega)
      have c1 : wr.cell? ⟨g, off + k * 4 + 1, none⟩ = some (.int .i64 l[k].2.1) := by rw [hbel.cell (by exact hg)]; exact hc k hkn 1 (by omega)
      have c2 : wr.cell? ⟨g, off + k * 4 + 2, none⟩ = some (.int .i64 l[k].2.2.1) := by rw [hbel.cell (by exact hg)]; exact hc k hkn 2 (by omega)
      have c3 : wr.cell? ⟨g, off + k * 4 + 3, none⟩ = some (.int .i64 l[k].2.2.2) := by rw [hbel.cell (by exact hg)]; exact hc k hkn 3 (by omega)
      have q0 : (0 : Int) ≤ (k : Int) := by omega
      clear hc
      go_wp2_with fail
      refine (toVote_any l[k] wr).mono ?_
      rintro e w1 ⟨rfl, hb1⟩
      unfold voteV
      obtain ⟨u0, u1, u2, u3, ⟨x0, f0⟩, ⟨x1, x1', f1⟩, ⟨x2, x2', f2⟩, ⟨x3, x3', f3⟩, R, G⟩ := own_four (own_kept HO.out hb1) k hkn (.int .i64 l[k].1) (.int .i64 l[k].2.1) (.int .i64 l[k].2.2.1) (.int .i64 l[k].2.2.2)
      have HRR : Hid (World.ownsRow _ w.heap.size 46 4 (.slice (some ⟨w.heap.size, 0, none⟩) l.length l.length) l.length _) := R
      have HG : Hid (w1.grownBy _ (some w.heap.size)) := G
      have B1 := bt hbel hb1
      clear R G c0 c1 c2 c3 hb1
      go_wp2
      go_roundw
      case rel => exact ⟨k + 1, _, by omega, by go_num, upTo_four HX.out hkn, HRR.out, B1.grown HG.out B1.size (fun b hb => by cases hb; exact Nat.le_refl _)⟩
      case measure => simp [intOf]; omega
    · have hkl : k = l.length := by omega
      have HK : Hid (k = l.length) := hkl
      clear hkl
      go_wp2
      go_ret
      have hx := HX.out
      rw [HK.out] at hx
      exact ⟨_, rfl, by have := HO.out; rw [upToR_all voteF_len hx] at this; exact this, hbel⟩

end Go.Proofs.YtcfgfhodbjakoavGreatDoor

namespace Go.Proofs.YtcfgfhodbjakoavGreatDoor
open Go.ChangeShapes Go.WideShapes Go.ChangeAt Go.RowKit Num

/-- a number as it can be read -/
def goodInt (z : Int) : Prop := (Lit.int .i64 z).wf = true

theorem int_rd {H : Type} {enc : TypeId × Value → H} {W : World} : ∀ n cs x, DataW.trod enc Tryz.prog W 0 (fun _ => true) true n 3 cs = some x → ∃ y, cs = intF y ∧ goodInt y := by
  intro n cs x h
  obtain ⟨z0, e0, _, w0⟩ := DataW.trod_int Tryz.underlying3 h
  exact ⟨z0, by rw [e0]; rfl, w0⟩

theorem ints_open {H : Type} {enc : TypeId × Value → H} {W : World} {a : Option Addr} {len cap : Nat} {d : DataW H} {p : List MemPlace} (h : DataW.Trod enc Tryz.prog W 0 (fun _ => true) true 109 (.slice a len cap) d p) :
    ∃ cs : List Int, cs.length = len ∧ RowsR W (.slice a len cap) 1 intF cs ∧ cs.length ≤ maxLen ∧ ∀ c ∈ cs, goodInt c :=
  rows_open Tryz.underlying109 (by kernel_rfl) (by decide) int_rd h

theorem infoIntL : (Tryz.prog.info? 3).map (fun i => (i.zero, i.size, i.bytes)) = some (some (.int .i64 0), 1, 8) := by kernel_rfl
theorem upTo_int {l : List Int} {xs : List Value} {k : Nat} (h : upToR intF 1 l xs k) (hk : k < l.length) : upToR intF 1 l (xs.set k (.int .i64 l[k])) (k + 1) := by
  have hl := h.1
  refine upToR_step intF_len h hk (by simp) (fun j hj => ?_) (fun j hj => ?_)
  · rw [List.getElem?_set_ne (by omega)]
  · have : j = 0 := by omega
    subst this
    rw [Nat.mul_one, Nat.add_zero, List.getElem?_set_self (by omega)]; rfl

set_option maxRecDepth 100000 in
set_option maxHeartbeats 1000000 in
theorem toInts_any (l : List Int) (v : Value) (w : World) (hv : RowsR w v 1 intF l) (hl : (l.length : Int) ≤ 1048576) :
    Calls Tryz.prog 104 #[v] w fun e w' => ∃ v', e = .returned v' ∧ w'.ownsRow w.heap.size 3 1 v' l.length (flatR intF l) ∧ Below w.heap.size w w' := by
  obtain ⟨i0, hi, hz0, hz1, hz2⟩ := info_parts infoIntL
  obtain ⟨a, cap, rfl, hr⟩ := hv
  have HR : Hid (0 < l.length → _) := hr
  clear hr
  go_enter Tryz.func104, Tryz.ntmps104
  go_wp2_with (at_make; refine wpList_make_full _ rfl _ _ 109 rfl w.heap.size 3 i0 _ 1 Tryz.underlying109 hi hz0 hz1 _ _ _ _ l.length rfl rfl (by omega) (by omega) (by rw [hz2]; omega) (by unfold maxLen; omega) (Nat.le_refl _) ?_; intro w0 hown0 hgrow0)
  have hb0 : Below w.heap.size w w0 := (Below.refl _ _).grown hgrow0 (Nat.le_refl _) (fun k h => by cases h)
  have HO0 : Hid (w0.ownsRow w.heap.size 3 1 (.slice (some ⟨w.heap.size, 0, none⟩) l.length l.length) l.length _) := hown0
  clear hgrow0 hown0
  go_loopw [4] (fun i wr => ∃ (k : Nat) (xs : List Value), k ≤ l.length ∧ i = .int .i64 k ∧ Hid (upToR intF 1 l xs k) ∧ Hid (wr.ownsRow w.heap.size 3 1 (.slice (some ⟨w.heap.size, 0, none⟩) l.length l.length) l.length xs) ∧ Below w.heap.size w wr) (fun i _ => l.length - (intOf i).toNat)
  case atStart => exact ⟨0, _, Nat.zero_le _, rfl, upToR_zero HO0.out.1, HO0.out, hb0⟩
  case round =>
    obtain ⟨k, xs, hk, rfl, HX, HO, hbel⟩ := hrel
    clear hb0
    by_cases hlt : (k : Int) < l.length
    · have hkn : k < l.length := by omega
      obtain ⟨g, off, rfl, hg, hc⟩ := HR.out (by omega)
      have c0 : wr.cell? ⟨g, off + k, none⟩ = some (.int .i64 l[k]) := by rw [hbel.cell (by exact hg)]; have := hc k hkn 0 (by omega); rw [Nat.mul_one, Nat.add_zero] at this; exact this
      have q0 : (0 : Int) ≤ (k : Int) := by omega
      obtain ⟨x0, f0⟩ := own_cell HO.out k (by omega)
      have hxl : k < xs.length := by have := HX.out.1; omega
      rw [List.getElem?_eq_getElem hxl] at x0
      have S0 := HO.out.stored k (.int .i64 l[k])
      have HS : Hid ((wr.setCell ⟨w.heap.size, k, none⟩ (.int .i64 l[k])).ownsRow w.heap.size 3 1 (.slice (some ⟨w.heap.size, 0, none⟩) l.length l.length) l.length (xs.set k (.int .i64 l[k])) ∧ wr.grownBy (wr.setCell ⟨w.heap.size, k, none⟩ (.int .i64 l[k])) (some w.heap.size)) := S0
      clear hc S0
      go_wp2
      go_roundw
      case rel => exact ⟨k + 1, _, by omega, by go_num, upTo_int HX.out hkn, HS.out.1, hbel.grown HS.out.2 hbel.size (fun b hb => by cases hb; exact Nat.le_refl _)⟩
      case measure => simp [intOf]; omega
    · have hkl : k = l.length := by omega
      have HK : Hid (k = l.length) := hkl
      clear hkl
      go_wp2
      go_ret
      have hx := HX.out
      rw [HK.out] at hx
      exact ⟨_, rfl, by have := HO.out; rw [upToR_all intF_len hx] at this; exact this, hbel⟩

end Go.Proofs.YtcfgfhodbjakoavGreatDoor

namespace Go.Proofs.YtcfgfhodbjakoavGreatDoor
open Go.ChangeShapes Go.WideShapes Go.ChangeAt Go.RowKit

theorem choose_pair {n : Nat} {V0 V1 : Nat → Value} (h : ∀ i, i < n → ∃ s : ByteArray, ∃ z : Int, V0 i = .string s ∧ V1 i = .int .i64 z ∧ s.size ≤ maxLen ∧ (Lit.int .i64 z).wf = true) :
    ∃ cs : CL, cs.length = n ∧ (∀ i (hi : i < cs.length), V0 i = .string cs[i].1 ∧ V1 i = .int .i64 cs[i].2) ∧ (∀ c ∈ cs, c.1.size ≤ maxLen) ∧ ∀ c ∈ cs, (Lit.int .i64 c.2).wf = true := by
  induction n with
  | zero => exact ⟨[], rfl, fun i hi => (by simp at hi), fun c hc => (by cases hc), fun c hc => (by cases hc)⟩
  | succ n ih =>
    obtain ⟨cs, hl, hv, hs, hw⟩ := ih fun i hi => h i (by omega)
    obtain ⟨s, z, e0, e1, hs1, hw1⟩ := h n (by omega)
    refine ⟨cs ++ [(s, z)], by simp [hl], fun i hi => ?_, fun c hc => ?_, fun c hc => ?_⟩
    · by_cases hin : i < cs.length
      · rw [List.getElem_append_left hin]; exact hv i hin
      · have hi' : i = cs.length := by simp at hi; omega
        subst hi'
        rw [List.getElem_append_right (Nat.le_refl _)]
        simp only [Nat.sub_self, List.getElem_cons_zero]
        rw [hl]
        exact ⟨e0, e1⟩
    · rcases List.mem_append.1 hc with h1 | h1
      · exact hs c h1
      · simp at h1; subst h1; exact hs1
    · rcases List.mem_append.1 hc with h1 | h1
      · exact hw c h1
      · simp at h1; subst h1; exact hw1

theorem cells_open {H : Type} {enc : TypeId × Value → H} {W : World} {a : Option Addr} {len cap : Nat} {d : DataW H} {p : List MemPlace} (h : DataW.Trod enc Tryz.prog W 0 (fun _ => true) true 110 (.slice a len cap) d p) :
    ∃ cs : CL, cs.length = len ∧ Cells W (.slice a len cap) cs ∧ cs.length ≤ maxLen ∧ (∀ c ∈ cs, c.1.size ≤ maxLen) ∧ ∀ c ∈ cs, (Lit.int .i64 c.2).wf = true := by
  obtain ⟨fuel, hf⟩ := h
  rcases Deep.open_slice_pairs Tryz.underlying110 Tryz.underlying204 (by kernel_rfl) rfl rfl (by kernel_rfl) (by kernel_rfl) hf with ⟨hcs, _⟩ | ⟨x, l, c, m, n, V0, V1, D0, D1, P0, P1, hcs, _, hl, hm, hmm, _, hcell⟩
  · simp [Value.cells] at hcs
    obtain ⟨rfl, rfl, rfl⟩ := hcs
    exact ⟨[], rfl, ⟨none, 0, rfl, fun h => (by simp at h)⟩, Nat.zero_le _, fun c hc => (by cases hc), fun c hc => (by cases hc)⟩
  · simp [Value.cells] at hcs
    obtain ⟨rfl, rfl, rfl⟩ := hcs
    have hlm : len ≤ m := by rw [hmm]; simp; omega
    obtain ⟨cs, hcl, hv, hs, hw⟩ := choose_pair (n := len) (V0 := V0) (V1 := V1) fun i hi => by
      obtain ⟨_, _, h0, h1⟩ := hcell i (by omega)
      obtain ⟨s, e0, _, hs⟩ := DataW.trod_string Tryz.underlying9 h0
      obtain ⟨z, e1, _, hz⟩ := DataW.trod_int Tryz.underlying3 h1
      exact ⟨s, z, by simpa using e0, by simpa using e1, hs, hz⟩
    refine ⟨cs, hcl, ⟨some x, cap, by rw [hcl], fun h0 => ?_⟩, by omega, hs, hw⟩
    obtain ⟨b, off, spot⟩ := x
    have c0 := (hcell 0 (by omega)).1
    have hspot : spot = none := by simpa [Addr.add] using World.cell?_spot c0
    subst hspot
    have hp : ∀ k, (⟨b, off, none⟩ : Addr).add k = ⟨b, off + k, none⟩ := fun k => by unfold Addr.add; split <;> simp_all
    have hlt : b < W.heap.size := by have := World.block_lt_of_cell? W _ c0; rw [hp] at this; exact this
    refine ⟨b, off, rfl, hlt, fun i hi => ?_⟩
    obtain ⟨h0, h1, _, _⟩ := hcell i (by omega)
    obtain ⟨e0, e1⟩ := hv i hi
    rw [hp, e0] at h0
    rw [hp, e1] at h1
    exact ⟨h0, h1⟩

end Go.Proofs.YtcfgfhodbjakoavGreatDoor

namespace Go.Proofs.YtcfgfhodbjakoavGreatDoor
open Go.RowKit Num

/-- what an account had: its key, whether it was there, its number -/
abbrev UN := ByteArray × Bool × Int
def undoC (cs : CL) (key : ByteArray) : UN := match cs.find? (fun d => decide (d.1 = key)) with
  | none => (key, false, 0)
  | some d => (key, true, d.2)
def undoB (u : UN) : Bool := keyB u.1 && numB u.2.2
def backC (cs : CL) (u : UN) : CL := if u.2.1 = true then putC cs (u.1, u.2.2) else cs.filter fun c => decide (c.1 ≠ u.1)
def undoneC (cs : CL) (u : UN) : CL := if (cellsB cs && undoB u) = false then cs else backC cs u
def undosC : CL → List CM → List UN
  | _, [] => []
  | cs, c :: l => undoC cs c.2.1 :: undosC (doneC cs c) l
def undoneAllC (cs : CL) (us : List UN) : CL := us.foldr (fun u acc => undoneC acc u) cs

theorem back_true (cs : CL) (k : ByteArray) (n : Int) : backC cs (k, true, n) = putC cs (k, n) := if_pos rfl
theorem back_false (cs : CL) (k : ByteArray) (n : Int) : backC cs (k, false, n) = cs.filter fun c => decide (c.1 ≠ k) := if_neg (by simp)
theorem undo_key (cs : CL) (key : ByteArray) : (undoC cs key).1 = key := by unfold undoC; split <;> rfl
theorem undo_no {cs : CL} {key : ByteArray} (h : hasK cs key = false) : undoC cs key = (key, false, 0) := by
  unfold undoC
  rw [List.find?_eq_none.2 fun c hc => by simpa using hasK_no.1 h c hc]
theorem undo_find {cs : CL} {key : ByteArray} (h : hasK cs key = true) : ∃ d, d ∈ cs ∧ d.1 = key ∧ undoC cs key = (key, true, d.2) := by
  cases e : cs.find? (fun d => decide (d.1 = key)) with
  | none =>
    obtain ⟨c, hc, hk⟩ := hasK_iff.1 h
    have := List.find?_eq_none.1 e c hc
    simp [hk] at this
  | some d =>
    refine ⟨d, List.mem_of_find?_eq_some e, by have := List.find?_some e; simpa using this, ?_⟩
    unfold undoC; rw [e]
theorem undoAtFrom {cs : CL} {key : ByteArray} (h : hasK cs key = true) : ∀ i, ∃ j, ∃ hj : j < cs.length, cellAtFrom key cs i = ((i + j : Nat) : Int) ∧ cs.find? (fun d => decide (d.1 = key)) = some cs[j] := by
  induction cs with
  | nil => simp [hasK] at h
  | cons c cs ih =>
    intro i
    unfold cellAtFrom
    by_cases hc : c.1 = key
    · rw [if_pos hc]; exact ⟨0, by simp, by simp, by simp [hc]⟩
    · rw [if_neg hc]
      have h' : hasK cs key = true := by
        obtain ⟨d, hd, e⟩ := hasK_iff.1 h
        rcases List.mem_cons.1 hd with rfl | hd
        · exact absurd e hc
        · exact hasK_iff.2 ⟨d, hd, e⟩
      obtain ⟨j, hj, e, ek⟩ := ih h' (i + 1)
      exact ⟨j + 1, by simp; omega, by rw [e]; congr 1; omega, by rw [List.find?_cons_of_neg (by simpa using hc)]; simpa using ek⟩
theorem undo_at {cs : CL} {key : ByteArray} (h : hasK cs key = true) : ∃ j, ∃ hj : j < cs.length, cellAt cs key = (j : Int) ∧ undoC cs key = (key, true, cs[j].2) := by
  obtain ⟨j, hj, e, ek⟩ := undoAtFrom h 0
  exact ⟨j, hj, by unfold cellAt; rw [e]; simp, by unfold undoC; rw [ek]⟩

theorem undosC_len : ∀ (cs : CL) (l : List CM), (undosC cs l).length = l.length
  | _, [] => rfl
  | cs, c :: l => by simp [undosC, undosC_len]
theorem undos_snoc : ∀ (cs : CL) (l : List CM) (c : CM), undosC cs (l ++ [c]) = undosC cs l ++ [undoC (doneAllC cs l) c.2.1]
  | _, [], _ => rfl
  | cs, d :: l, c => by simp [undosC, doneAllC, undos_snoc]
theorem undos_bad {cs : CL} (h : cellsB cs = false) : ∀ l : List CM, undosC cs l = l.map fun c => undoC cs c.2.1
  | [] => rfl
  | c :: l => by
    have hc : codeC cs c = 2 := by unfold codeC; rw [h]; rfl
    have hd : doneC cs c = cs := by unfold doneC; rw [hc]; rfl
    simp [undosC, hd, undos_bad h l]
theorem undos_keys : ∀ (cs : CL) (l : List CM), (∀ c ∈ l, (c.2.1.size : Int) ≤ 1048576) → ∀ u ∈ undosC cs l, (u.1.size : Int) ≤ 1048576
  | _, [], _, u, hu => by cases hu
  | cs, c :: l, h, u, hu => by
    rcases List.mem_cons.1 hu with rfl | hu
    · rw [undo_key]; exact h c (by simp)
    · exact undos_keys _ l (fun d hd => h d (by simp [hd])) u hu

/-- accounts that are right, or one too many of them -/
def fair (cs : CL) : Prop := (∀ c ∈ cs, keyB c.1 = true ∧ numB c.2 = true) ∧ Asc cs ∧ cs.length ≤ 13
theorem fair_of {cs : CL} (h : cellsB cs = true) : fair cs := by
  obtain ⟨a, b, c⟩ := cellsB_iff.1 h
  exact ⟨a, b, by omega⟩
theorem fair_ok {cs : CL} (h : fair cs) (hl : cs.length ≤ 12) : cellsB cs = true := cellsB_iff.2 ⟨h.1, h.2.1, hl⟩
theorem fair_over {cs : CL} (hl : 12 < cs.length) : cellsB cs = false := by
  cases h : cellsB cs with
  | false => rfl
  | true => have := (cellsB_iff.1 h).2.2; omega
theorem back_fair {cs : CL} {u : UN} (h : cellsB cs = true) (hu : undoB u = true) : fair (backC cs u) := by
  obtain ⟨hk, hA, hl⟩ := cellsB_iff.1 h
  unfold undoB at hu
  rw [Bool.and_eq_true] at hu
  unfold backC
  split
  · refine ⟨fun d hd => ?_, asc_putC hA, ?_⟩
    · rcases mem_putC.1 hd with rfl | ⟨hd, _⟩
      · exact hu
      · exact hk d hd
    · have := len_putC (x := (u.1, u.2.2)) hA
      split at this <;> omega
  · refine ⟨fun d hd => hk d (List.mem_filter.1 hd).1, List.Pairwise.filter _ hA, ?_⟩
    have := List.length_filter_le (fun c : ByteArray × Int => decide (c.1 ≠ u.1)) cs
    omega
theorem undone_fair {cs : CL} {u : UN} (h : fair cs) : fair (undoneC cs u) := by
  unfold undoneC
  split
  · exact h
  · rename_i hc
    simp only [Bool.not_eq_false, Bool.and_eq_true] at hc
    exact back_fair hc.1 hc.2
theorem undoneAll_fair {cs : CL} (h : cellsB cs = true) : ∀ us : List UN, fair (undoneAllC cs us)
  | [] => fair_of h
  | _ :: us => undone_fair (undoneAll_fair h us)
theorem undone_bad {cs : CL} {u : UN} (h : cellsB cs = false) : undoneC cs u = cs := by unfold undoneC; rw [h]; rfl
theorem undone_not {cs : CL} {u : UN} (h : undoB u = false) : undoneC cs u = cs := by unfold undoneC; rw [h, Bool.and_false]; rfl
theorem undone_yes {cs : CL} {u : UN} (h : cellsB cs = true) (h2 : undoB u = true) : undoneC cs u = backC cs u := by unfold undoneC; rw [h, h2]; rfl
theorem undoneAll_bad {cs : CL} (h : cellsB cs = false) : ∀ us : List UN, undoneAllC cs us = cs
  | [] => rfl
  | u :: us => by
    show undoneC (undoneAllC cs us) u = cs
    rw [undoneAll_bad h us, undone_bad h]
theorem undoneAll_step {cs : CL} {us : List UN} {k : Nat} (h : k < us.length) : undoneAllC cs (us.drop k) = undoneC (undoneAllC cs (us.drop (k + 1))) us[k] := by
  rw [List.drop_eq_getElem_cons h]; rfl
theorem undoneAll_over {cs : CL} {us : List UN} {k : Nat} (h : cellsB (undoneAllC cs (us.drop k)) = false) : undoneAllC cs us = undoneAllC cs (us.drop k) := by
  have e : undoneAllC cs us = undoneAllC (undoneAllC cs (us.drop k)) (us.take k) := by
    unfold undoneAllC
    rw [← List.foldr_append, List.take_append_drop]
  rw [e, undoneAll_bad h]

theorem okL_undone {cs : CL} {u : UN} (h : okL cs) (hk : (u.1.size : Int) ≤ 1048576) : okL (undoneC cs u) := by
  cases hc : cellsB cs && undoB u with
  | false => unfold undoneC; rw [hc]; exact h
  | true =>
    rw [Bool.and_eq_true] at hc
    rw [undone_yes hc.1 hc.2]
    have hf := (back_fair hc.1 hc.2).2.2
    refine ⟨by omega, fun d hd => ?_⟩
    unfold backC at hd
    split at hd
    · rcases mem_putC.1 hd with rfl | ⟨hd, _⟩
      · exact hk
      · exact h.2 d hd
    · exact h.2 d (List.mem_filter.1 hd).1
theorem okL_undoneAll {cs : CL} (h : okL cs) : ∀ us : List UN, (∀ u ∈ us, (u.1.size : Int) ≤ 1048576) → okL (undoneAllC cs us)
  | [], _ => h
  | u :: us, hu => okL_undone (okL_undoneAll h us fun x hx => hu x (by simp [hx])) (hu u (by simp))

/-- two lists in the order of their keys that hold the same are the same -/
theorem asc_ext : ∀ {a b : CL}, Asc a → Asc b → (∀ c, c ∈ a ↔ c ∈ b) → a = b
  | [], b, _, _, h => by
    cases b with
    | nil => rfl
    | cons y b => exact absurd ((h y).2 (by simp)) (by simp)
  | x :: a, b, ha, hb, h => by
    cases b with
    | nil => exact absurd ((h x).1 (by simp)) (by simp)
    | cons y b =>
      have e : x = y := by
        rcases List.mem_cons.1 ((h x).1 (by simp)) with e | h1
        · exact e
        · rcases List.mem_cons.1 ((h y).2 (by simp)) with e | h2
          · exact e.symm
          · have l1 := List.rel_of_pairwise_cons hb h1
            have l2 := List.rel_of_pairwise_cons ha h2
            rw [kLt_asym l1] at l2; cases l2
      subst e
      congr 1
      refine asc_ext (List.Pairwise.of_cons ha) (List.Pairwise.of_cons hb) fun c => ⟨fun hc => ?_, fun hc => ?_⟩
      · rcases List.mem_cons.1 ((h c).1 (by simp [hc])) with e | h1
        · subst e; have := List.rel_of_pairwise_cons ha hc; rw [kLt_irr] at this; cases this
        · exact h1
      · rcases List.mem_cons.1 ((h c).2 (by simp [hc])) with e | h1
        · subst e; have := List.rel_of_pairwise_cons hb hc; rw [kLt_irr] at this; cases this
        · exact h1
theorem asc_one : ∀ {cs : CL}, Asc cs → ∀ {c d : ByteArray × Int}, c ∈ cs → d ∈ cs → c.1 = d.1 → c = d
  | [], _, _, _, hc, _, _ => by cases hc
  | x :: cs, h, c, d, hc, hd, e => by
    rcases List.mem_cons.1 hc with e1 | h1
    · rcases List.mem_cons.1 hd with e2 | h2
      · rw [e1, e2]
      · subst e1; exact absurd e (kLt_ne (List.rel_of_pairwise_cons h h2))
    · rcases List.mem_cons.1 hd with e2 | h2
      · subst e2; exact absurd e.symm (kLt_ne (List.rel_of_pairwise_cons h h1))
      · exact asc_one (List.Pairwise.of_cons h) h1 h2 e

theorem back_put {cs : CL} (hA : Asc cs) {k : ByteArray} {n m : Int} (h : (k, m) ∈ cs) : putC (putC cs (k, n)) (k, m) = cs := by
  refine asc_ext (asc_putC (asc_putC hA)) hA fun c => ?_
  rw [mem_putC, mem_putC]
  constructor
  · rintro (rfl | ⟨rfl | ⟨hc, _⟩, hn⟩)
    · exact h
    · exact absurd rfl hn
    · exact hc
  · intro hc
    by_cases e : c.1 = k
    · exact Or.inl (asc_one hA hc h e)
    · exact Or.inr ⟨Or.inr ⟨hc, e⟩, e⟩
theorem put_same {cs : CL} (hA : Asc cs) {k : ByteArray} {m : Int} (h : (k, m) ∈ cs) : putC cs (k, m) = cs := by
  refine asc_ext (asc_putC hA) hA fun c => ?_
  rw [mem_putC]
  constructor
  · rintro (rfl | ⟨hc, _⟩)
    · exact h
    · exact hc
  · intro hc
    by_cases e : c.1 = k
    · exact Or.inl (asc_one hA hc h e)
    · exact Or.inr ⟨hc, e⟩
theorem drop_put {cs : CL} (hA : Asc cs) {k : ByteArray} {n : Int} (h : hasK cs k = false) : ((putC cs (k, n)).filter fun c => decide (c.1 ≠ k)) = cs := by
  refine asc_ext (List.Pairwise.filter _ (asc_putC hA)) hA fun c => ?_
  rw [List.mem_filter, mem_putC]
  constructor
  · rintro ⟨rfl | ⟨hc, _⟩, hn⟩
    · simp at hn
    · exact hc
  · intro hc
    have e := hasK_no.1 h c hc
    exact ⟨Or.inr ⟨hc, e⟩, by simpa using e⟩
theorem drop_none {cs : CL} {k : ByteArray} (h : hasK cs k = false) : (cs.filter fun c => decide (c.1 ≠ k)) = cs :=
  List.filter_eq_self.2 fun c hc => by simpa using hasK_no.1 h c hc

/-- one command taken back -/
theorem undone_done {cs : CL} (h : cellsB cs = true) (c : CM) : undoneC (doneC cs c) (undoC cs c.2.1) = cs := by
  obtain ⟨hk, hA, hl⟩ := cellsB_iff.1 h
  by_cases h0 : codeC cs c = 0
  · have hd : doneC cs c = putC cs (c.2.1, comes cs c) := by unfold doneC; rw [if_pos h0]
    have hcb := done_ok (c := c) h
    have hmb : cmdB c = true := by
      cases e : cmdB c with
      | true => rfl
      | false => unfold codeC at h0; rw [e, Bool.and_false] at h0; simp at h0
    have hkey : keyB c.2.1 = true := by unfold cmdB at hmb; simp at hmb; exact hmb.2.1
    cases hh : hasK cs c.2.1 with
    | true =>
      obtain ⟨d, hd1, hd2, hu⟩ := undo_find hh
      have hn := (hk d hd1).2
      rw [hu, undone_yes hcb (by unfold undoB; simp only; rw [hkey, hn]; rfl), hd]
      unfold backC
      rw [if_pos rfl]
      refine back_put hA ?_
      have : d = (c.2.1, d.2) := by rw [← hd2]
      rw [← this]; exact hd1
    | false =>
      rw [undo_no hh, undone_yes hcb (by unfold undoB; simp only; rw [hkey]; rfl), hd]
      unfold backC
      rw [if_neg (by simp)]
      exact drop_put hA hh
  · have hd : doneC cs c = cs := by unfold doneC; rw [if_neg h0]
    rw [hd]
    cases hh : hasK cs c.2.1 with
    | true =>
      obtain ⟨d, hd1, hd2, hu⟩ := undo_find hh
      have hn := hk d hd1
      rw [hu, undone_yes h (by unfold undoB; simp only; rw [← hd2, hn.1, hn.2]; rfl)]
      unfold backC
      rw [if_pos rfl]
      refine put_same hA ?_
      have : d = (c.2.1, d.2) := by rw [← hd2]
      rw [← this]; exact hd1
    | false =>
      rw [undo_no hh]
      cases hb : undoB (c.2.1, false, 0) with
      | false => exact undone_not hb
      | true =>
        rw [undone_yes h hb]
        unfold backC
        rw [if_neg (by simp)]
        exact drop_none hh
/-- all of them, the last one first -/
theorem undoneAll_done : ∀ {cs : CL} (l : List CM), cellsB cs = true → undoneAllC (doneAllC cs l) (undosC cs l) = cs
  | _, [], _ => rfl
  | cs, c :: l, h => by
    show undoneC (undoneAllC (doneAllC (doneC cs c) l) (undosC (doneC cs c) l)) (undoC cs c.2.1) = cs
    rw [undoneAll_done l (done_ok h)]
    exact undone_done h c

end Go.Proofs.YtcfgfhodbjakoavGreatDoor

namespace Go.Proofs.YtcfgfhodbjakoavGreatDoor
open Go.RowKit Num

/-- .. as a value -/
def undoV (u : UN) : Value := .agg #[.string u.1, .bool u.2.1, .int .i64 u.2.2]
/-- .. as three cells -/
def undoF (u : UN) : List Value := [.string u.1, .bool u.2.1, .int .i64 u.2.2]
theorem undoF_len (u : UN) : (undoF u).length = 3 := rfl

theorem infoUndo : (Tryz.prog.info? 197).map (fun i => (i.zero, i.size, i.bytes)) = some (some (.agg #[.string ByteArray.empty, .bool false, .int .i64 0]), 3, 32) := by kernel_rfl

theorem upTo_threeU {l : List UN} {ys : List Value} {k : Nat} (h : upToR undoF 3 l ys k) (hk : k < l.length) : upToR undoF 3 l (((ys.set (k * 3) (.string l[k].1)).set (k * 3 + 1) (.bool l[k].2.1)).set (k * 3 + 2) (.int .i64 l[k].2.2)) (k + 1) := by
  have hl := h.1
  refine upToR_step undoF_len h hk (by simp) (fun j hj => ?_) (fun j hj => ?_)
  · rw [List.getElem?_set_ne (by omega), List.getElem?_set_ne (by omega), List.getElem?_set_ne (by omega)]
  · have : j = 0 ∨ j = 1 ∨ j = 2 := by omega
    rcases this with rfl | rfl | rfl
    · rw [List.getElem?_set_ne (by omega), List.getElem?_set_ne (by omega), Nat.add_zero, List.getElem?_set_self (by omega)]; rfl
    · rw [List.getElem?_set_ne (by omega), List.getElem?_set_self (by simp; omega)]; rfl
    · rw [List.getElem?_set_self (by simp; omega)]; rfl

end Go.Proofs.YtcfgfhodbjakoavGreatDoor

namespace Go.Proofs.YtcfgfhodbjakoavGreatDoor
open Go.ChangeShapes Go.WideShapes Go.ChangeAt Go.RowKit

/-- .. as it can be read -/
def goodUndo (c : UN) : Prop := c.1.size ≤ maxLen ∧ (Lit.int .i64 c.2.2).wf = true

set_option maxRecDepth 100000 in
theorem undo_rd {H : Type} {enc : TypeId × Value → H} {W : World} : ∀ n cs x, DataW.trod enc Tryz.prog W 0 (fun _ => true) true n 206 cs = some x → ∃ y, cs = undoF y ∧ goodUndo y := by
  intro n cs x h
  obtain ⟨y0, y1, y2, k, _, hl, h0, h1, h2⟩ := Deep.trod_struct3 Tryz.underlying206 h
  have hl3 : cs.length = 3 := hl.trans (by kernel_rfl)
  obtain ⟨a, b, c, rfl⟩ : ∃ a b c, cs = [a, b, c] := by
    match cs, hl3 with
    | [a, b, c], _ => exact ⟨a, b, c, rfl⟩
  have c0 : Tryz.prog.cellsOf 4 = 1 := by kernel_rfl
  have c1 : Tryz.prog.cellsOf 9 = 1 := by kernel_rfl
  have c2 : Tryz.prog.cellsOf 3 = 1 := by kernel_rfl
  simp only [c0, c1, c2] at h0 h1 h2
  obtain ⟨z0, e0, _, w0⟩ := DataW.trod_string Tryz.underlying9 h0
  obtain ⟨z1, e1, _⟩ := DataW.trod_bool Tryz.underlying4 h1
  obtain ⟨z2, e2, _, w2⟩ := DataW.trod_int Tryz.underlying3 h2
  simp at e0 e1 e2
  exact ⟨(z0, z1, z2), by rw [e0, e1, e2]; rfl, w0, w2⟩

set_option maxRecDepth 100000 in
theorem undo_open {H : Type} {enc : TypeId × Value → H} {W : World} {base : Nat} {v : Value} {d : DataW H} {p : List MemPlace} (hv : Value.okWide Tryz.prog W .any base 206 v) (h : DataW.Trod enc Tryz.prog W 0 (fun _ => true) true 206 v d p) :
    ∃ c : UN, v = undoV c ∧ c.1.size ≤ maxLen ∧ (Lit.int .i64 c.2.2).wf = true := by
  obtain ⟨cs, rfl, _⟩ := okWide_struct Tryz.underlying206 hv
  obtain ⟨n, hn⟩ := h
  obtain ⟨y, hy, hg⟩ := undo_rd _ _ _ hn
  refine ⟨y, ?_, hg⟩
  have : cs.toList = undoF y := hy
  unfold undoV
  rw [← Array.toArray_toList (xs := cs), this]
  rfl

set_option maxRecDepth 100000 in
theorem undos_open {H : Type} {enc : TypeId × Value → H} {W : World} {a : Option Addr} {len cap : Nat} {d : DataW H} {p : List MemPlace} (h : DataW.Trod enc Tryz.prog W 0 (fun _ => true) true 111 (.slice a len cap) d p) :
    ∃ cs : List UN, cs.length = len ∧ RowsR W (.slice a len cap) 3 undoF cs ∧ cs.length ≤ maxLen ∧ ∀ c ∈ cs, goodUndo c :=
  rows_open Tryz.underlying111 (by kernel_rfl) (by decide) undo_rd h

end Go.Proofs.YtcfgfhodbjakoavGreatDoor

namespace Go.Proofs.YtcfgfhodbjakoavGreatDoor
open Go.ChangeShapes Go.WideShapes Go.ChangeAt Go.RowKit Num

structure PE where
  id : Int
  view : Int
  high : QC
  lock : QC
  last : VT
  row : List Int
  cells : CL
  early : List Int
  undos : List UN
  votes : List VT
  news : List LT
  shown : Int
/-- the slices of its six lists -/
structure PV where
  row : Value
  cells : Value
  early : Value
  undos : Value
  votes : Value
  news : Value
def peerA (p : PE) (s : PV) : Array Value := #[.int .i64 p.id, .int .i64 p.view, .int .i64 p.high.1, .int .i64 p.high.2.1, .int .i64 p.high.2.2.1, .int .i64 p.high.2.2.2, .int .i64 p.lock.1, .int .i64 p.lock.2.1, .int .i64 p.lock.2.2.1, .int .i64 p.lock.2.2.2, .int .i64 p.last.1, .int .i64 p.last.2.1, .int .i64 p.last.2.2.1, .int .i64 p.last.2.2.2, s.row, s.cells, s.early, s.undos, s.votes, s.news, .int .i64 p.shown]
def peerL (p : PE) (s : PV) : List Value := [.int .i64 p.id, .int .i64 p.view, .int .i64 p.high.1, .int .i64 p.high.2.1, .int .i64 p.high.2.2.1, .int .i64 p.high.2.2.2, .int .i64 p.lock.1, .int .i64 p.lock.2.1, .int .i64 p.lock.2.2.1, .int .i64 p.lock.2.2.2, .int .i64 p.last.1, .int .i64 p.last.2.1, .int .i64 p.last.2.2.1, .int .i64 p.last.2.2.2, s.row, s.cells, s.early, s.undos, s.votes, s.news, .int .i64 p.shown]
abbrev peerV (p : PE) (s : PV) : Value := .agg (peerA p s)
/-- its lists can be read -/
structure PeerR (w : World) (p : PE) (s : PV) : Prop where
  row : RowsR w s.row 1 intF p.row
  cells : Cells w s.cells p.cells
  early : RowsR w s.early 1 intF p.early
  undos : RowsR w s.undos 3 undoF p.undos
  votes : RowsR w s.votes 4 voteF p.votes
  news : RowsR w s.news 13 letF p.news
theorem PeerR.below {w w' : World} {p : PE} {s : PV} (h : PeerR w p s) (hb : Below w.heap.size w w') : PeerR w' p s :=
  ⟨h.row.below hb, h.cells.below hb, h.early.below hb, h.undos.below hb, h.votes.below hb, h.news.below hb⟩
/-- its lists are no longer than they can be, and its numbers are numbers of this machine -/
structure goodPe (p : PE) : Prop where
  lrow : p.row.length ≤ maxLen
  lcells : p.cells.length ≤ maxLen
  learly : p.early.length ≤ maxLen
  lundos : p.undos.length ≤ maxLen
  lvotes : p.votes.length ≤ maxLen
  lnews : p.news.length ≤ maxLen
  kcells : ∀ c ∈ p.cells, c.1.size ≤ maxLen
  ncells : ∀ c ∈ p.cells, (Lit.int .i64 c.2).wf = true
  gundos : ∀ c ∈ p.undos, goodUndo c
  grow : ∀ x ∈ p.row, goodInt x
  gearly : ∀ x ∈ p.early, goodInt x
  gvotes : ∀ c ∈ p.votes, wfV c
  gnews : ∀ c ∈ p.news, wfL c
  gid : (Lit.int .i64 p.id).wf = true
  gview : (Lit.int .i64 p.view).wf = true
  gshown : (Lit.int .i64 p.shown).wf = true
  ghigh : wfQ p.high
  glock : wfQ p.lock
  glast : wfQ p.last
/-- its lists are short -/
structure smallPe (p : PE) : Prop where
  row : (p.row.length : Int) ≤ 1048576
  cells : (p.cells.length : Int) ≤ 1048576
  early : (p.early.length : Int) ≤ 1048576
  undos : (p.undos.length : Int) ≤ 1048576
  votes : (p.votes.length : Int) ≤ 1048576
  news : (p.news.length : Int) ≤ 1048576
  kcells : ∀ c ∈ p.cells, (c.1.size : Int) ≤ 1048576
  kundos : ∀ c ∈ p.undos, (c.1.size : Int) ≤ 1048576

theorem trod_struct12 {P : Program} {H : Type} {enc : TypeId × Value → H} {w : World} {base : Nat} {spare : Nat → Bool} {held : Bool} {t : TypeId} {f0 f1 f2 f3 f4 f5 f6 f7 f8 f9 f10 f11 : Field} {fuel : Nat} {cs : List Value} {x : DataW H × List MemPlace} (ht : P.underlying t = some (.struct #[f0, f1, f2, f3, f4, f5, f6, f7, f8, f9, f10, f11])) (h : DataW.trod enc P w base spare held fuel t cs = some x) :
    ∃ y0 y1 y2 y3 y4 y5 y6 y7 y8 y9 y10 y11 n, cs.length = P.cellsOf t ∧ DataW.trod enc P w base spare held n f0.type ((cs.drop f0.offset).take (P.cellsOf f0.type)) = some y0 ∧ DataW.trod enc P w base spare held n f1.type ((cs.drop f1.offset).take (P.cellsOf f1.type)) = some y1 ∧ DataW.trod enc P w base spare held n f2.type ((cs.drop f2.offset).take (P.cellsOf f2.type)) = some y2 ∧ DataW.trod enc P w base spare held n f3.type ((cs.drop f3.offset).take (P.cellsOf f3.type)) = some y3 ∧ DataW.trod enc P w base spare held n f4.type ((cs.drop f4.offset).take (P.cellsOf f4.type)) = some y4 ∧ DataW.trod enc P w base spare held n f5.type ((cs.drop f5.offset).take (P.cellsOf f5.type)) = some y5 ∧ DataW.trod enc P w base spare held n f6.type ((cs.drop f6.offset).take (P.cellsOf f6.type)) = some y6 ∧ DataW.trod enc P w base spare held n f7.type ((cs.drop f7.offset).take (P.cellsOf f7.type)) = some y7 ∧ DataW.trod enc P w base spare held n f8.type ((cs.drop f8.offset).take (P.cellsOf f8.type)) = some y8 ∧ DataW.trod enc P w base spare held n f9.type ((cs.drop f9.offset).take (P.cellsOf f9.type)) = some y9 ∧ DataW.trod enc P w base spare held n f10.type ((cs.drop f10.offset).take (P.cellsOf f10.type)) = some y10 ∧ DataW.trod enc P w base spare held n f11.type ((cs.drop f11.offset).take (P.cellsOf f11.type)) = some y11 := by
  obtain ⟨xs, n, _, rfl, hl, hlen, hf⟩ := DataW.trod_struct ht h
  match xs, hlen with
  | [y0, y1, y2, y3, y4, y5, y6, y7, y8, y9, y10, y11], _ => exact ⟨y0, y1, y2, y3, y4, y5, y6, y7, y8, y9, y10, y11, n, hl, by simpa using hf 0 f0 rfl, by simpa using hf 1 f1 rfl, by simpa using hf 2 f2 rfl, by simpa using hf 3 f3 rfl, by simpa using hf 4 f4 rfl, by simpa using hf 5 f5 rfl, by simpa using hf 6 f6 rfl, by simpa using hf 7 f7 rfl, by simpa using hf 8 f8 rfl, by simpa using hf 9 f9 rfl, by simpa using hf 10 f10 rfl, by simpa using hf 11 f11 rfl⟩

theorem slice_rd {H : Type} {enc : TypeId × Value → H} {W : World} {t e : TypeId} {n : Nat} {c : Value} {x : DataW H × List MemPlace} (ht : Tryz.prog.underlying t = some (.slice e)) (h : DataW.trod enc Tryz.prog W 0 (fun _ => true) true n t [c] = some x) : ∃ a len cap, c = .slice a len cap := by
  rcases Deep.open_slice ht h with ⟨hcs, _⟩ | ⟨x, l, cp, mm, n, D, Pl, hcs, _⟩
  · simp at hcs; exact ⟨_, _, _, hcs⟩
  · simp at hcs; exact ⟨_, _, _, hcs⟩

set_option maxRecDepth 100000 in
set_option maxHeartbeats 2000000 in
theorem peer_rd {H : Type} {enc : TypeId × Value → H} {W : World} : ∀ n cs x, DataW.trod enc Tryz.prog W 0 (fun _ => true) true n 113 cs = some x → ∃ (p : PE) (s : PV), cs = peerL p s ∧ PeerR W p s ∧ goodPe p := by
  intro n cs x h
  obtain ⟨y0, y1, y2, y3, y4, y5, y6, y7, y8, y9, y10, y11, k, hl, h0, h1, h2, h3, h4, h5, h6, h7, h8, h9, h10, h11⟩ := trod_struct12 Tryz.underlying113 h
  have hlc : cs.length = 21 := hl.trans (by kernel_rfl)
  obtain ⟨a0, a1, a2, a3, a4, a5, a6, a7, a8, a9, a10, a11, a12, a13, a14, a15, a16, a17, a18, a19, a20, rfl⟩ : ∃ a0 a1 a2 a3 a4 a5 a6 a7 a8 a9 a10 a11 a12 a13 a14 a15 a16 a17 a18 a19 a20, cs = [a0, a1, a2, a3, a4, a5, a6, a7, a8, a9, a10, a11, a12, a13, a14, a15, a16, a17, a18, a19, a20] := by
    match cs, hlc with
    | [a0, a1, a2, a3, a4, a5, a6, a7, a8, a9, a10, a11, a12, a13, a14, a15, a16, a17, a18, a19, a20], _ => exact ⟨a0, a1, a2, a3, a4, a5, a6, a7, a8, a9, a10, a11, a12, a13, a14, a15, a16, a17, a18, a19, a20, rfl⟩
  have c0 : Tryz.prog.cellsOf 3 = 1 := by kernel_rfl
  have c1 : Tryz.prog.cellsOf 30 = 4 := by kernel_rfl
  have c2 : Tryz.prog.cellsOf 32 = 4 := by kernel_rfl
  have c3 : Tryz.prog.cellsOf 109 = 1 := by kernel_rfl
  have c4 : Tryz.prog.cellsOf 110 = 1 := by kernel_rfl
  have c5 : Tryz.prog.cellsOf 111 = 1 := by kernel_rfl
  have c6 : Tryz.prog.cellsOf 25 = 1 := by kernel_rfl
  have c7 : Tryz.prog.cellsOf 24 = 1 := by kernel_rfl
  simp only [c0, c1, c2, c3, c4, c5, c6, c7] at h0 h1 h2 h3 h4 h5 h6 h7 h8 h9 h10 h11
  obtain ⟨z0, e0, _, w0⟩ := DataW.trod_int Tryz.underlying3 h0
  obtain ⟨z1, e1, _, w1⟩ := DataW.trod_int Tryz.underlying3 h1
  obtain ⟨q2, e2, w2⟩ := q4_rd _ _ _ h2
  obtain ⟨q3, e3, w3⟩ := q4_rd _ _ _ h3
  obtain ⟨q4, e4, w4⟩ := v4_rd _ _ _ h4
  obtain ⟨z11, e11, _, w11⟩ := DataW.trod_int Tryz.underlying3 h11
  obtain ⟨b5, l5, p5, e5⟩ := slice_rd Tryz.underlying109 h5
  obtain ⟨b6, l6, p6, e6⟩ := slice_rd Tryz.underlying110 h6
  obtain ⟨b7, l7, p7, e7⟩ := slice_rd Tryz.underlying109 h7
  obtain ⟨b8, l8, p8, e8⟩ := slice_rd Tryz.underlying111 h8
  obtain ⟨b9, l9, p9, e9⟩ := slice_rd Tryz.underlying25 h9
  obtain ⟨b10, l10, p10, e10⟩ := slice_rd Tryz.underlying24 h10
  simp at e0 e1 e2 e3 e4 e11
  obtain ⟨rfl, rfl, rfl, rfl⟩ := e2
  obtain ⟨rfl, rfl, rfl, rfl⟩ := e3
  obtain ⟨rfl, rfl, rfl, rfl⟩ := e4
  subst e0 e1 e11
  have e5' : a14 = .slice b5 l5 p5 := e5
  have e6' : a15 = .slice b6 l6 p6 := e6
  have e7' : a16 = .slice b7 l7 p7 := e7
  have e8' : a17 = .slice b8 l8 p8 := e8
  have e9' : a18 = .slice b9 l9 p9 := e9
  have e10' : a19 = .slice b10 l10 p10 := e10
  subst e5' e6' e7' e8' e9' e10'
  obtain ⟨x5, _, r5, m5, g5⟩ := ints_open (a := b5) (len := l5) (cap := p5) ⟨k, h5⟩
  obtain ⟨x6, _, r6, m6, g6, n6⟩ := cells_open (a := b6) (len := l6) (cap := p6) ⟨k, h6⟩
  obtain ⟨x7, _, r7, m7, g7⟩ := ints_open (a := b7) (len := l7) (cap := p7) ⟨k, h7⟩
  obtain ⟨x8, _, r8, m8, g8⟩ := undos_open (a := b8) (len := l8) (cap := p8) ⟨k, h8⟩
  obtain ⟨x9, _, r9, m9, g9⟩ := votes_open (a := b9) (len := l9) (cap := p9) ⟨k, h9⟩
  obtain ⟨x10, _, r10, m10, g10⟩ := letters_open (a := b10) (len := l10) (cap := p10) ⟨k, h10⟩
  exact ⟨⟨z0, z1, q2, q3, q4, x5, x6, x7, x8, x9, x10, z11⟩, ⟨.slice b5 l5 p5, .slice b6 l6 p6, .slice b7 l7 p7, .slice b8 l8 p8, .slice b9 l9 p9, .slice b10 l10 p10⟩, rfl, ⟨r5, r6, r7, r8, r9, r10⟩, ⟨m5, m6, m7, m8, m9, m10, g6, n6, g8, g5, g7, g9, g10, w0, w1, w11, w2, w3, w4⟩⟩
set_option maxRecDepth 100000 in
theorem peer_open {H : Type} {enc : TypeId × Value → H} {W : World} {base : Nat} {v : Value} {d : DataW H} {p : List MemPlace} (hv : Value.okWide Tryz.prog W .any base 113 v) (h : DataW.Trod enc Tryz.prog W 0 (fun _ => true) true 113 v d p) :
    ∃ (p : PE) (s : PV), v = peerV p s ∧ PeerR W p s ∧ goodPe p := by
  obtain ⟨cs, rfl, _⟩ := okWide_struct Tryz.underlying113 hv
  obtain ⟨n, hn⟩ := h
  obtain ⟨p, s, hy, hg⟩ := peer_rd _ _ _ hn
  refine ⟨p, s, ?_, hg⟩
  have : cs.toList = peerL p s := hy
  unfold peerV
  rw [← Array.toArray_toList (xs := cs), this]
  rfl

end Go.Proofs.YtcfgfhodbjakoavGreatDoor

namespace Go.Proofs.YtcfgfhodbjakoavGreatDoor
open Go.RowKit Num

theorem szCell_any (k : ByteArray) (n left : Int) (w : World) (h0 : 0 ≤ left) (h1 : left ≤ 1048576) (hk : (k.size : Int) ≤ 9223372036854775807) :
    Calls Tryz.prog 127 #[.agg #[.string k, .int .i64 n], .int .i64 left] w fun e w' => e = .returned (.int .i64 (if left - k.size < 0 then -1 else left - k.size)) ∧ Below w.heap.size w w' := by
  by_cases h : left - k.size < 0
  · rw [if_pos h]
    go_enter Tryz.func127, Tryz.ntmps127
    go_wp2
    go_ret
    exact ⟨rfl, (Below.refl _ _).alloc (Nat.le_refl _) _⟩
  · rw [if_neg h]
    go_enter Tryz.func127, Tryz.ntmps127
    go_wp2
    go_ret
    exact ⟨rfl, (Below.refl _ _).alloc (Nat.le_refl _) _⟩

theorem szc_drop (cs : CL) (k : Nat) (h : k < cs.length) (left : Int) : szc (cs.drop k) left = if left - (cs[k].1.size : Int) < 0 then -1 else szc (cs.drop (k + 1)) (left - cs[k].1.size) := by
  rw [List.drop_eq_getElem_cons h]; rfl

set_option maxHeartbeats 1000000 in
theorem szCells_any (cs : CL) (v : Value) (left : Int) (w : World) (h0 : 0 ≤ left) (h1 : left ≤ 1048576) (hv : Cells w v cs) (hl : (cs.length : Int) ≤ 9223372036854775807) (hall : ∀ c ∈ cs, (c.1.size : Int) ≤ 9223372036854775807) :
    Calls Tryz.prog 102 #[v, .int .i64 left] w fun e w' => e = .returned (.int .i64 (szCells cs left)) ∧ Below w.heap.size w w' := by
  have HV : Hid (Cells w v cs) := hv
  have HA : Hid (∀ c ∈ cs, (c.1.size : Int) ≤ 9223372036854775807) := hall
  obtain ⟨a, cap, rfl, hr⟩ := hv
  clear hall
  by_cases hneg : left - cs.length < 0
  · clear hr
    have e : szCells cs left = -1 := if_pos hneg
    rw [e]
    go_enter Tryz.func102, Tryz.ntmps102
    go_wp2
    go_ret
    exact ⟨rfl, Below.refl _ _⟩
  · have HE : Hid (szCells cs left = szc cs (left - cs.length)) := if_neg hneg
    have HR : Hid (0 < cs.length → _) := hr
    clear hr
    go_enter Tryz.func102, Tryz.ntmps102
    go_wp2
    go_loopw [1, 5] (fun v i wr => ∃ (k : Nat) (l : Int), k ≤ cs.length ∧ i = .int .i64 (k : Int) ∧ v = .int .i64 l ∧ 0 ≤ l ∧ l ≤ 1048576 ∧ Hid (szCells cs left = szc (cs.drop k) l) ∧ Below w.heap.size w wr) (fun _ i _ => cs.length - (intOf i).toNat)
    case atStart => exact ⟨0, left - cs.length, Nat.zero_le _, rfl, rfl, by omega, by omega, HE.out, Below.refl _ _⟩
    case round =>
      obtain ⟨k, l, hk, rfl, rfl, hl0, hl1, HL, hbel⟩ := hrel
      by_cases hlt : (k : Int) < cs.length
      · have hkn : k < cs.length := by omega
        obtain ⟨g, off, rfl, hg, hc⟩ := HR.out (by omega)
        obtain ⟨hc0, hc1⟩ := hc k hkn
        have hd0 : wr.cell? ⟨g, off + k * 2, none⟩ = some (.string cs[k].1) := by rw [hbel.cell (by exact hg)]; exact hc0
        have hd1 : wr.cell? ⟨g, off + k * 2 + 1, none⟩ = some (.int .i64 cs[k].2) := by rw [hbel.cell (by exact hg)]; exact hc1
        have hsz := HA.out cs[k] (List.getElem_mem hkn)
        have hstep := szc_drop cs k hkn l
        have HS : Hid (szc (cs.drop k) l = _) := hstep
        have q0 : (0 : Int) ≤ (k : Int) := by omega
        clear hc hc0 hc1 hstep
        go_wp2_with fail
        refine (szCell_any cs[k].1 cs[k].2 l wr hl0 hl1 hsz).mono ?_
        rintro e w1 ⟨rfl, hb1⟩
        have B1 : Below w.heap.size w w1 := hbel.trans (hb1.mono hbel.size)
        by_cases hn : l - (cs[k].1.size : Int) < 0
        · rw [if_pos hn]
          go_wp2
          go_ret
          exact ⟨ret_int (by rw [HL.out, HS.out, if_pos hn]), B1⟩
        · rw [if_neg hn]
          have hn' : 0 ≤ l - (cs[k].1.size : Int) := by omega
          go_wp2
          go_roundw
          case rel => exact ⟨k + 1, l - (cs[k].1.size : Int), by omega, by go_num, rfl, hn', by omega, (show szCells cs left = szc (cs.drop (k + 1)) (l - (cs[k].1.size : Int)) from by rw [HL.out, HS.out, if_neg (Int.not_lt.2 hn')]), B1⟩
          case measure => simp [intOf]; omega
      · have hkl : k = cs.length := by omega
        have HK : Hid (k = cs.length) := hkl
        clear hkl
        go_wp2
        go_ret
        exact ⟨ret_int (by rw [HL.out, HK.out, List.drop_length]; rfl), hbel⟩

theorem toCell_any (k : ByteArray) (n : Int) (w : World) :
    Calls Tryz.prog 129 #[.agg #[.string k, .int .i64 n]] w fun e w' => e = .returned (.agg #[.string k, .int .i64 n]) ∧ Below w.heap.size w w' := by
  go_enter Tryz.func129, Tryz.ntmps129
  go_wp2
  refine bodyPost_ret (v := .agg #[_, _]) (by simp [results, Tryz.results129, go_sem]) rfl ⟨rfl, ?_⟩
  exact ba (ba (ba (Below.refl _ _) _) _) _

theorem infoCell : (Tryz.prog.info? 195).map (fun i => (i.zero, i.size, i.bytes)) = some (some (.agg #[.string ByteArray.empty, .int .i64 0]), 2, 24) := by kernel_rfl

/-- as far as place k the row xs is the accounts cs -/
def upTo (cs : CL) (xs : List Value) (k : Nat) : Prop := xs.length = cs.length * 2 ∧ ∀ j, j < k * 2 → xs[j]? = (flat cs)[j]?
theorem upTo_all {cs : CL} {xs : List Value} (h : upTo cs xs cs.length) : xs = flat cs := by
  apply List.ext_getElem?
  intro j
  by_cases hj : j < cs.length * 2
  · exact h.2 j hj
  · rw [List.getElem?_eq_none (by rw [h.1]; omega), List.getElem?_eq_none (by rw [flat_len]; omega)]
theorem upTo_step {cs : CL} {xs : List Value} {k : Nat} (h : upTo cs xs k) (hk : k < cs.length) : upTo cs ((xs.set (k * 2) (.string cs[k].1)).set (k * 2 + 1) (.int .i64 cs[k].2)) (k + 1) := by
  refine ⟨by simpa using h.1, fun j hj => ?_⟩
  have hf := flat_at cs k hk
  have hl := h.1
  by_cases h1 : j = k * 2 + 1
  · subst h1
    rw [List.getElem?_set_self (by simp; omega), hf.2]
  · rw [List.getElem?_set_ne (by omega)]
    by_cases h0 : j = k * 2
    · subst h0
      rw [List.getElem?_set_self (by omega), hf.1]
    · rw [List.getElem?_set_ne (by omega)]
      exact h.2 j (by omega)

set_option maxRecDepth 100000 in
set_option maxHeartbeats 1000000 in
theorem toCells_any (cs : CL) (v : Value) (w : World) (hv : Cells w v cs) (hl : (cs.length : Int) ≤ 1048576) :
    Calls Tryz.prog 105 #[v] w fun e w' => ∃ v', e = .returned v' ∧ w'.ownsRow w.heap.size 195 2 v' cs.length (flat cs) ∧ Below w.heap.size w w' := by
  obtain ⟨i0, hi, hz0, hz1, hz2⟩ := info_parts infoCell
  obtain ⟨a, cap, rfl, hr⟩ := hv
  have HR : Hid (0 < cs.length → _) := hr
  clear hr
  go_enter Tryz.func105, Tryz.ntmps105
  go_wp2_with (at_make; refine wpList_make_full _ rfl _ _ 121 rfl w.heap.size 195 i0 _ 2 Tryz.underlying121 hi hz0 hz1 _ _ _ _ cs.length rfl rfl (by omega) (by omega) (by rw [hz2]; omega) (by unfold maxLen; omega) (Nat.le_refl _) ?_; intro w0 hown0 hgrow0)
  have hb0 : Below w.heap.size w w0 := (Below.refl _ _).grown hgrow0 (Nat.le_refl _) (fun k h => by cases h)
  clear hgrow0
  go_loopw [4] (fun i wr => ∃ (k : Nat) (xs : List Value), k ≤ cs.length ∧ i = .int .i64 k ∧ Hid (upTo cs xs k) ∧ wr.ownsRow w.heap.size 195 2 (.slice (some ⟨w.heap.size, 0, none⟩) cs.length cs.length) cs.length xs ∧ Below w.heap.size w wr) (fun i _ => cs.length - (intOf i).toNat)
  case atStart =>
    exact ⟨0, _, Nat.zero_le _, rfl, ⟨hown0.1, fun j hj => by omega⟩, hown0, hb0⟩
  case round =>
    obtain ⟨k, xs, hk, rfl, HX, hown, hbel⟩ := hrel
    clear hown0 hb0
    by_cases hlt : (k : Int) < cs.length
    · have hkn : k < cs.length := by omega
      obtain ⟨g, off, rfl, hg, hc⟩ := HR.out (by omega)
      obtain ⟨hc0, hc1⟩ := hc k hkn
      have hd0 : wr.cell? ⟨g, off + k * 2, none⟩ = some (.string cs[k].1) := by rw [hbel.cell (by exact hg)]; exact hc0
      have hd1 : wr.cell? ⟨g, off + k * 2 + 1, none⟩ = some (.int .i64 cs[k].2) := by rw [hbel.cell (by exact hg)]; exact hc1
      have q0 : (0 : Int) ≤ (k : Int) := by omega
      have HO : Hid (wr.ownsRow w.heap.size 195 2 (.slice (some ⟨w.heap.size, 0, none⟩) cs.length cs.length) cs.length xs) := hown
      clear hc hc0 hc1 hown
      go_wp2_with fail
      refine (toCell_any cs[k].1 cs[k].2 wr).mono ?_
      rintro e w1 ⟨rfl, hb1⟩
      have hown1 : w1.ownsRow w.heap.size 195 2 (.slice (some ⟨w.heap.size, 0, none⟩) cs.length cs.length) cs.length xs := World.ownsRow.kept HO.out (below_grown hb1) (by simp [Value.ownBlock])
      obtain ⟨u0, u1, hx0, hf0, hx1, hx2, hf2⟩ := own_two hown1 k hkn
      have R := own_set_two hown1 (k * 2) (k * 2 + 1) (.string cs[k].1) (.int .i64 cs[k].2)
      have B1 := bt hbel hb1
      clear hown1 hd0 hd1
      go_wp2
      go_roundw
      case rel => exact ⟨k + 1, _, by omega, by go_num, upTo_step HX.out hkn, R.1, B1.grown R.2 B1.size (fun b hb => by cases hb; exact Nat.le_refl _)⟩
      case measure => simp [intOf]; omega
    · have hkl : k = cs.length := by omega
      have HK : Hid (k = cs.length) := hkl
      have HO : Hid (wr.ownsRow w.heap.size 195 2 (.slice (some ⟨w.heap.size, 0, none⟩) cs.length cs.length) cs.length xs) := hown
      clear hkl hown
      go_wp2
      go_ret
      have hx := HX.out
      rw [HK.out] at hx
      exact ⟨_, rfl, by have := HO.out; rw [upTo_all hx] at this; exact this, hbel⟩

end Go.Proofs.YtcfgfhodbjakoavGreatDoor

namespace Go.Proofs.YtcfgfhodbjakoavGreatDoor
open Go.RowKit Num

/-- a mark -/
def mk (k : Nat) : ByteArray := strOfNums (109 :: dd k k)

theorem m_app (ys : List Int) : (⟨#[109]⟩ : ByteArray) ++ strOfNums ys = strOfNums (109 :: ys) := by
  apply ByteArray.ext; simp [strOfNums, ByteArray.data_append]
theorem ret_ba {a b : ByteArray} (h : a = b) : Ending.returned (.string a) = .returned (.string b) := by rw [h]

set_option maxRecDepth 100000 in
set_option maxHeartbeats 1000000 in
theorem markText_any (k : Nat) (w : World) (h0 : 0 < k) (h1 : k ≤ 1000000000) :
    Calls Tryz.prog 88 #[.int .i64 k] w fun e w' => e = .returned (.string (mk k)) ∧ Below w.heap.size w w' := by
  have hp : (0 : Int) < (k : Int) := by omega
  have hcv := one_str
  go_enter Tryz.func88, Tryz.ntmps88
  go_wp2
  go_loopw [0, 3] (fun a v wr => ∃ (m : Nat) (ys : List Int) (f : Nat), a = .int .i64 m ∧ m ≤ k ∧ m ≤ f ∧ v = .string (strOfNums ys) ∧ ys.length + m ≤ k ∧ Hid (dd k k = dd f m ++ ys) ∧ Below w.heap.size w wr) (fun a _ _ => (intOf a).toNat)
  case atStart => exact ⟨k, [], k, rfl, by omega, by omega, rfl, by simp, by simp [Hid], Below.refl _ _⟩
  case round =>
    obtain ⟨m, ys, f, rfl, hm1, hf, rfl, hyl, HY, hbel⟩ := hrel
    have hbs := hbel.size
    by_cases hm : m = 0
    · have hmz : ¬ (0 : Int) < (m : Int) := by omega
      have HM : Hid (m = 0) := hm
      have hadd : (⟨#[109]⟩ : ByteArray).size + (strOfNums ys).size ≤ 9223372036854775807 := by rw [strOfNums_size]; show 1 + _ ≤ _; omega
      clear hm
      go_wp2
      go_ret
      exact ⟨ret_ba (by rw [m_app, mk, HY.out, HM.out]; simp [dd_zero]), hbel⟩
    · obtain ⟨g, hg, hgf⟩ := dd_step f m (by omega) hf
      have HG : Hid (dd f m = _) := hg
      have hmp : (0 : Int) < (m : Int) := by omega
      have hadd : (strOfNums [48 + (m : Int) % 10]).size + (strOfNums ys).size ≤ 9223372036854775807 := by rw [strOfNums_size, strOfNums_size]; simp; omega
      clear hm hg
      go_wp2
      go_roundw
      case rel => exact ⟨m / 10, (48 + (m : Int) % 10) :: ys, g, by simp, by omega, hgf, by rw [str_append]; rfl, by simp; omega, (show dd k k = dd g (m / 10) ++ ((48 + (m : Int) % 10) :: ys) from by rw [HY.out, HG.out]; simp), hbel.alloc hbs _⟩
      case measure => simp [intOf]; omega

end Go.Proofs.YtcfgfhodbjakoavGreatDoor

namespace Go.Proofs.YtcfgfhodbjakoavGreatDoor
open Go.RowKit Num

theorem eqCell_yes (k : ByteArray) (n : Int) (w : World) :
    Calls Tryz.prog 140 #[.agg #[.string k, .int .i64 n], .agg #[.string k, .int .i64 n]] w fun e w' => e = .returned (.bool true) ∧ Below w.heap.size w w' := by
  go_enter Tryz.func140, Tryz.ntmps140
  go_wp2
  go_ret
  exact ⟨rfl, ba (ba (Below.refl _ _) _) _⟩

set_option maxRecDepth 100000 in
set_option maxHeartbeats 1000000 in
/-- two rows of the same accounts are told to be so -/
theorem eqCells_yes (cs : CL) (a b : Value) (w : World) (ha : Cells w a cs) (hb : Cells w b cs) (hl : (cs.length : Int) ≤ 1048576) :
    Calls Tryz.prog 116 #[a, b] w fun e w' => e = .returned (.bool true) ∧ Below w.heap.size w w' := by
  obtain ⟨a, ca, rfl, hra⟩ := ha
  obtain ⟨b, cb, rfl, hrb⟩ := hb
  have HA : Hid (0 < cs.length → _) := hra
  have HB : Hid (0 < cs.length → _) := hrb
  clear hra hrb
  go_enter Tryz.func116, Tryz.ntmps116
  go_wp2
  go_loopw [5] (fun i wr => ∃ m : Nat, m ≤ cs.length ∧ i = .int .i64 m ∧ Below w.heap.size w wr) (fun i _ => cs.length - (intOf i).toNat)
  case atStart => exact ⟨0, Nat.zero_le _, rfl, Below.refl _ _⟩
  case round =>
    obtain ⟨m, hm, rfl, hbel⟩ := hrel
    by_cases hlt : (m : Int) < cs.length
    · have q0 : (0 : Int) ≤ (m : Int) := by omega
      have hmn : m < cs.length := by omega
      obtain ⟨ga, oa, rfl, hga, hca⟩ := HA.out (by omega)
      obtain ⟨gb, ob, rfl, hgb, hcb⟩ := HB.out (by omega)
      have hne := bw_some wr
      have c0 : ∀ x : Bw wr, x.to.cell? ⟨ga, oa + m * 2, none⟩ = some (.string cs[m].1) := fun x => by rw [(bt hbel x.below).cell (by exact hga)]; exact (hca m hmn).1
      have c1 : ∀ x : Bw wr, x.to.cell? ⟨ga, oa + m * 2 + 1, none⟩ = some (.int .i64 cs[m].2) := fun x => by rw [(bt hbel x.below).cell (by exact hga)]; exact (hca m hmn).2
      have c2 : ∀ x : Bw wr, x.to.cell? ⟨gb, ob + m * 2, none⟩ = some (.string cs[m].1) := fun x => by rw [(bt hbel x.below).cell (by exact hgb)]; exact (hcb m hmn).1
      have c3 : ∀ x : Bw wr, x.to.cell? ⟨gb, ob + m * 2 + 1, none⟩ = some (.int .i64 cs[m].2) := fun x => by rw [(bt hbel x.below).cell (by exact hgb)]; exact (hcb m hmn).2
      clear hca hcb
      go_wp2
      refine wp_region_bw (by kernel_rfl) (by kernel_rfl) ?_
      repeat (go_big_quiet_step (refine calls_bw (eqCell_yes _ _ _)))
      refine wpQuiet_nil ?_
      intro _ hw'
      obtain ⟨x, rfl⟩ := hw'
      go_wp2
      go_roundw
      case rel => exact ⟨m + 1, by omega, by go_num, bt hbel x.below⟩
      case measure => simp [intOf]; omega
    · go_wp2
      go_ret
      exact ⟨rfl, hbel⟩

/-- the marks of n accounts, from the number k on -/
def cmarks (k n : Nat) : CL := (List.range n).map fun i => (mk (k + 2 * i), ((k + 2 * i + 1 : Nat) : Int))
theorem cmarks_len (k n : Nat) : (cmarks k n).length = n := by simp [cmarks]
theorem cmarks_at (k n i : Nat) (h : i < (cmarks k n).length) : (cmarks k n)[i] = (mk (k + 2 * i), ((k + 2 * i + 1 : Nat) : Int)) := by simp [cmarks]

theorem cmarks_step {k n m : Nat} {ys : List Value} (h : upTo (cmarks k n) ys m) (hm : m < n) : upTo (cmarks k n) ((ys.set (m * 2) (.string (mk (k + 2 * m)))).set (m * 2 + 1) (.int .i64 ((k : Int) + 2 * (m : Int) + 1))) (m + 1) := by
  have h1 := upTo_step h (by rw [cmarks_len]; exact hm)
  rw [cmarks_at] at h1
  simpa using h1

set_option maxRecDepth 100000 in
set_option maxHeartbeats 1000000 in
theorem markCells_any (n k : Nat) (v : Value) (base : Nat) (xs : List Value) (w : World) (h : w.ownsRow base 195 2 v n xs) (hk : 0 < k) (hk2 : k ≤ 20000000) (hn : n ≤ 1048576) :
    Calls Tryz.prog 86 #[v, .int .i64 k] w fun e w' => e = .returned (.int .i64 ((k + 2 * n : Nat) : Int)) ∧ w'.ownsRow base 195 2 v n (flat (cmarks k n)) ∧ w.grownBy w' v.ownBlock := by
  have hv : ∃ a cap, v = .slice a n cap ∧ (0 < n → ∃ g, a = some ⟨g, 0, none⟩) := by
    obtain ⟨hl, ⟨rfl, h0⟩ | ⟨g, cap, cur, rfl, _⟩⟩ := h
    · exact ⟨none, 0, by rw [h0], fun hp => by omega⟩
    · exact ⟨_, cap, rfl, fun _ => ⟨g, rfl⟩⟩
  obtain ⟨a, cap, rfl, hg⟩ := hv
  have HG : Hid (0 < n → ∃ g, a = some ⟨g, 0, none⟩) := hg
  have HO : Hid (w.ownsRow base 195 2 (.slice a n cap) n xs) := h
  clear hg h
  go_enter Tryz.func86, Tryz.ntmps86
  go_wp2
  go_loopw [1, 5] (fun q i wr => ∃ (m : Nat) (ys : List Value), m ≤ n ∧ q = .int .i64 ((k + 2 * m : Nat) : Int) ∧ i = .int .i64 m ∧ Hid (upTo (cmarks k n) ys m) ∧ wr.ownsRow base 195 2 (.slice a n cap) n ys ∧ w.grownBy wr (Value.slice a n cap).ownBlock) (fun _ i _ => n - (intOf i).toNat)
  case atStart => exact ⟨0, xs, Nat.zero_le _, by simp, rfl, ⟨by rw [cmarks_len]; exact HO.out.1, fun j hj => by omega⟩, HO.out, ⟨rfl, rfl, rfl, Nat.le_refl _, fun _ _ _ => rfl⟩⟩
  case round =>
    obtain ⟨m, ys, hm, rfl, rfl, HU, hown, hgr⟩ := hrel
    have HGR : Hid (w.grownBy wr (Value.slice a n cap).ownBlock) := hgr
    have HOW : Hid (wr.ownsRow base 195 2 (.slice a n cap) n ys) := hown
    clear hgr hown
    by_cases hlt : (m : Int) < n
    · have q0 : (0 : Int) ≤ (m : Int) := by omega
      obtain ⟨g, rfl⟩ := HG.out (by omega)
      go_wp2_with fail
      refine (markText_any (k + 2 * m) wr (by omega) (by omega)).mono ?_
      rintro e w1 ⟨rfl, hb1⟩
      have hown1 : w1.ownsRow base 195 2 (.slice (some ⟨g, 0, none⟩) n cap) n ys := World.ownsRow.kept HOW.out (below_grown hb1) (by simp [Value.ownBlock])
      obtain ⟨u0, u1, hx0, hf0, hx1, hx2, hf2⟩ := own_two hown1 m (by omega)
      have R := own_set_two hown1 (m * 2) (m * 2 + 1) (.string (mk (k + 2 * m))) (.int .i64 ((k : Int) + 2 * (m : Int) + 1))
      have G1 : w.grownBy w1 (some g) := grown_trans HGR.out (grown_any (below_grown hb1))
      have HR : Hid (((w1.setCell ⟨g, m * 2, none⟩ (.string (mk (k + 2 * m)))).setCell ⟨g, m * 2 + 1, none⟩ (.int .i64 ((k : Int) + 2 * (m : Int) + 1))).ownsRow base 195 2 (.slice (some ⟨g, 0, none⟩) n cap) n _ ∧ _) := R
      clear hown1 R hb1
      go_wp2
      go_roundw
      case rel => exact ⟨m + 1, _, by omega, by go_num, by go_num, cmarks_step HU.out (by omega), HR.out.1, grown_trans G1 HR.out.2⟩
      case measure => simp [intOf]; omega
    · have hmn : m = n := by omega
      have HM : Hid (m = n) := hmn
      clear hmn
      go_wp2
      go_ret
      have hu := HU.out
      rw [HM.out] at hu
      have hx := upTo_all (by rw [cmarks_len]; exact hu)
      refine ⟨ret_int (by rw [HM.out]), ?_, HGR.out⟩
      have := HOW.out
      rw [hx] at this
      exact this

set_option maxRecDepth 100000 in
set_option maxHeartbeats 1000000 in
theorem heldCells_any (n k : Nat) (v : Value) (w : World) (h : Cells w v (cmarks k n)) (hk : 0 < k) (hk2 : k ≤ 20000000) (hn : n ≤ 1048576) :
    Calls Tryz.prog 90 #[v, .int .i64 k] w fun e w' => e = .returned (.int .i64 ((k + 2 * n : Nat) : Int)) ∧ Below w.heap.size w w' := by
  obtain ⟨a, cap, rfl, hr⟩ := h
  have hlen := cmarks_len k n
  have hcell : 0 < n → ∃ g off, a = some ⟨g, off, none⟩ ∧ g < w.heap.size ∧ ∀ i, i < n → w.cell? ⟨g, off + i * 2, none⟩ = some (.string (mk (k + 2 * i))) ∧ w.cell? ⟨g, off + i * 2 + 1, none⟩ = some (.int .i64 ((k : Int) + 2 * (i : Int) + 1)) := fun h0 => by
    obtain ⟨g, off, he, hg, hc⟩ := hr (by rw [hlen]; exact h0)
    refine ⟨g, off, he, hg, fun i hi => ?_⟩
    have := hc i (by rw [hlen]; exact hi)
    rw [cmarks_at] at this
    simpa using this
  have HR : Hid (0 < n → ∃ g off, a = some ⟨g, off, none⟩ ∧ g < w.heap.size ∧ ∀ i, i < n → w.cell? ⟨g, off + i * 2, none⟩ = some (.string (mk (k + 2 * i))) ∧ w.cell? ⟨g, off + i * 2 + 1, none⟩ = some (.int .i64 ((k : Int) + 2 * (i : Int) + 1))) := hcell
  clear hcell hr
  rw [hlen]
  clear hlen
  go_enter Tryz.func90, Tryz.ntmps90
  go_wp2
  go_loopw [1, 5] (fun q i wr => ∃ m : Nat, m ≤ n ∧ q = .int .i64 ((k + 2 * m : Nat) : Int) ∧ i = .int .i64 m ∧ Below w.heap.size w wr) (fun _ i _ => n - (intOf i).toNat)
  case atStart => exact ⟨0, Nat.zero_le _, by simp, rfl, Below.refl _ _⟩
  case round =>
    obtain ⟨m, hm, rfl, rfl, hbel⟩ := hrel
    by_cases hlt : (m : Int) < n
    · have q0 : (0 : Int) ≤ (m : Int) := by omega
      obtain ⟨g, off, rfl, hg, hc⟩ := HR.out (by omega)
      obtain ⟨hc0, hc1⟩ := hc m (by omega)
      have hne := bw_some wr
      have c0 : ∀ x : Bw wr, x.to.cell? ⟨g, off + m * 2, none⟩ = some (.string (mk (k + 2 * m))) := fun x => by rw [(bt hbel x.below).cell (by exact hg)]; exact hc0
      have c1 : ∀ x : Bw wr, x.to.cell? ⟨g, off + m * 2 + 1, none⟩ = some (.int .i64 ((k : Int) + 2 * (m : Int) + 1)) := fun x => by rw [(bt hbel x.below).cell (by exact hg)]; exact hc1
      have hmk : ∀ x : Bw wr, Calls Tryz.prog 88 #[.int .i64 ((k : Int) + 2 * (m : Int))] x.to fun e w' => e = .returned (.string (mk (k + 2 * m))) ∧ Below x.to.heap.size x.to w' := fun x => by
        have := markText_any (k + 2 * m) x.to (by omega) (by omega)
        simpa using this
      have HK : Hid (∀ x : Bw wr, Calls Tryz.prog 88 #[.int .i64 ((k : Int) + 2 * (m : Int))] x.to fun e w' => e = .returned (.string (mk (k + 2 * m))) ∧ Below x.to.heap.size x.to w') := hmk
      clear hmk hc hc0 hc1
      go_wp2
      refine wp_region_bw (by kernel_rfl) (by kernel_rfl) ?_
      repeat (go_big_quiet_step (refine calls_bw (HK.out _)))
      refine wpQuiet_nil ?_
      intro _ hw'
      obtain ⟨x, rfl⟩ := hw'
      go_wp2
      go_roundw
      case rel => exact ⟨m + 1, by omega, by go_num, by go_num, bt hbel x.below⟩
      case measure => simp [intOf]; omega
    · have hmn : m = n := by omega
      have HM : Hid (m = n) := hmn
      clear hmn
      go_wp2
      go_ret
      exact ⟨ret_int (by rw [HM.out]), hbel⟩

end Go.Proofs.YtcfgfhodbjakoavGreatDoor

namespace Go.Proofs.YtcfgfhodbjakoavGreatDoor
open Go.RowKit Num

theorem szUndo_any (u : UN) (left : Int) (w : World) (h0 : 0 ≤ left) (h1 : left ≤ 1048576) (hk : (u.1.size : Int) ≤ 9223372036854775807) :
    Calls Tryz.prog 128 #[undoV u, .int .i64 left] w fun e w' => e = .returned (.int .i64 (if left - u.1.size < 0 then -1 else left - u.1.size)) ∧ Below w.heap.size w w' := by
  obtain ⟨key, had, num⟩ := u
  unfold undoV
  simp only at hk ⊢
  by_cases h : left - key.size < 0
  · rw [if_pos h]
    go_enter Tryz.func128, Tryz.ntmps128
    go_wp2
    go_ret
    exact ⟨rfl, (Below.refl _ _).alloc (Nat.le_refl _) _⟩
  · rw [if_neg h]
    go_enter Tryz.func128, Tryz.ntmps128
    go_wp2
    go_ret
    exact ⟨rfl, (Below.refl _ _).alloc (Nat.le_refl _) _⟩

theorem toUndo_any (u : UN) (w : World) :
    Calls Tryz.prog 130 #[undoV u] w fun e w' => e = .returned (undoV u) ∧ Below w.heap.size w w' := by
  obtain ⟨key, had, num⟩ := u
  unfold undoV
  go_enter Tryz.func130, Tryz.ntmps130
  go_wp2
  refine bodyPost_ret (v := .agg #[_, _, _]) (by simp [results, Tryz.results130, go_sem]) rfl ⟨rfl, ?_⟩
  exact ba (ba (ba (Below.refl _ _) _) _) _

theorem eqUndo_yes (u : UN) (w : World) :
    Calls Tryz.prog 141 #[undoV u, undoV u] w fun e w' => e = .returned (.bool true) ∧ Below w.heap.size w w' := by
  obtain ⟨key, had, num⟩ := u
  unfold undoV
  go_enter Tryz.func141, Tryz.ntmps141
  go_wp2
  go_ret
  exact ⟨rfl, ba (ba (Below.refl _ _) _) _⟩

end Go.Proofs.YtcfgfhodbjakoavGreatDoor

namespace Go.Proofs.YtcfgfhodbjakoavGreatDoor
open Go.RowKit Num

/-- what is left when these sizes are taken off -/
def szu : List UN → Int → Int
  | [], left => left
  | c :: l, left => if left - c.1.size < 0 then -1 else szu l (left - c.1.size)
def szUndosC (l : List UN) (left : Int) : Int := if left - l.length < 0 then -1 else szu l (left - l.length)
theorem szu_bd (l : List UN) : ∀ left : Int, left ≤ 1048576 → 0 ≤ szu l left → ∀ c ∈ l, (c.1.size : Int) ≤ 1048576 := by
  induction l with
  | nil => intro left _ _ c h; cases h
  | cons c l ih =>
    intro left hl h x hx
    unfold szu at h
    split at h
    · omega
    · rcases List.mem_cons.1 hx with rfl | hx
      · omega
      · exact ih _ (by omega) h x hx
theorem szUndos_bd {l : List UN} {left : Int} (hl : left ≤ 1048576) (h : 0 ≤ szUndosC l left) : (l.length : Int) ≤ 1048576 ∧ ∀ c ∈ l, (c.1.size : Int) ≤ 1048576 := by
  unfold szUndosC at h
  split at h
  · omega
  · exact ⟨by omega, szu_bd l _ (by omega) h⟩
theorem szu_drop (l : List UN) (k : Nat) (h : k < l.length) (left : Int) : szu (l.drop k) left = if left - (l[k].1.size : Int) < 0 then -1 else szu (l.drop (k + 1)) (left - l[k].1.size) := by
  rw [List.drop_eq_getElem_cons h]; rfl

set_option maxRecDepth 100000 in
set_option maxHeartbeats 1000000 in
theorem szUndos_any (l : List UN) (v : Value) (left : Int) (w : World) (h0 : 0 ≤ left) (h1 : left ≤ 1048576) (hv : RowsR w v 3 undoF l) (hl : (l.length : Int) ≤ 9223372036854775807) (hall : ∀ c ∈ l, (c.1.size : Int) ≤ 9223372036854775807) :
    Calls Tryz.prog 103 #[v, .int .i64 left] w fun e w' => e = .returned (.int .i64 (szUndosC l left)) ∧ Below w.heap.size w w' := by
  have HA : Hid (∀ c ∈ l, (c.1.size : Int) ≤ 9223372036854775807) := hall
  obtain ⟨a, cap, rfl, hr⟩ := hv
  clear hall
  by_cases hneg : left - l.length < 0
  · clear hr
    have e : szUndosC l left = -1 := if_pos hneg
    rw [e]
    go_enter Tryz.func103, Tryz.ntmps103
    go_wp2
    go_ret
    exact ⟨rfl, Below.refl _ _⟩
  · have HE : Hid (szUndosC l left = szu l (left - l.length)) := if_neg hneg
    have HR : Hid (0 < l.length → _) := hr
    clear hr
    go_enter Tryz.func103, Tryz.ntmps103
    go_wp2
    go_loopw [1, 5] (fun v i wr => ∃ (k : Nat) (q : Int), k ≤ l.length ∧ i = .int .i64 (k : Int) ∧ v = .int .i64 q ∧ 0 ≤ q ∧ q ≤ 1048576 ∧ Hid (szUndosC l left = szu (l.drop k) q) ∧ Below w.heap.size w wr) (fun _ i _ => l.length - (intOf i).toNat)
    case atStart => exact ⟨0, left - l.length, Nat.zero_le _, rfl, rfl, by omega, by omega, HE.out, Below.refl _ _⟩
    case round =>
      obtain ⟨k, q, hk, rfl, rfl, hl0, hl1, HL, hbel⟩ := hrel
      by_cases hlt : (k : Int) < l.length
      · have hkn : k < l.length := by omega
        obtain ⟨g, off, rfl, hg, hc⟩ := HR.out (by omega)
        have c0 : wr.cell? ⟨g, off + k * 3, none⟩ = some (.string l[k].1) := by rw [hbel.cell (by exact hg)]; exact hc k hkn 0 (by omega)
        have c1 : wr.cell? ⟨g, off + k * 3 + 1, none⟩ = some (.bool l[k].2.1) := by rw [hbel.cell (by exact hg)]; exact hc k hkn 1 (by omega)
        have c2 : wr.cell? ⟨g, off + k * 3 + 2, none⟩ = some (.int .i64 l[k].2.2) := by rw [hbel.cell (by exact hg)]; exact hc k hkn 2 (by omega)
        have hsz := HA.out l[k] (List.getElem_mem hkn)
        have HS : Hid (szu (l.drop k) q = _) := szu_drop l k hkn q
        have q0 : (0 : Int) ≤ (k : Int) := by omega
        clear hc
        go_wp2_with fail
        refine (szUndo_any l[k] q wr hl0 hl1 hsz).mono ?_
        rintro e w1 ⟨rfl, hb1⟩
        have B1 : Below w.heap.size w w1 := bt hbel hb1
        by_cases hn : q - (l[k].1.size : Int) < 0
        · rw [if_pos hn]
          go_wp2
          go_ret
          exact ⟨ret_int (by rw [HL.out, HS.out, if_pos hn]), B1⟩
        · rw [if_neg hn]
          have hn' : 0 ≤ q - (l[k].1.size : Int) := by omega
          go_wp2
          go_roundw
          case rel => exact ⟨k + 1, q - (l[k].1.size : Int), by omega, by go_num, rfl, hn', by omega, (show szUndosC l left = szu (l.drop (k + 1)) (q - (l[k].1.size : Int)) from by rw [HL.out, HS.out, if_neg (Int.not_lt.2 hn')]), B1⟩
          case measure => simp [intOf]; omega
      · have hkl : k = l.length := by omega
        have HK : Hid (k = l.length) := hkl
        clear hkl
        go_wp2
        go_ret
        exact ⟨ret_int (by rw [HL.out, HK.out, List.drop_length]; rfl), hbel⟩


set_option maxRecDepth 100000 in
set_option maxHeartbeats 1000000 in
theorem toUndos_any (l : List UN) (v : Value) (w : World) (hv : RowsR w v 3 undoF l) (hl : (l.length : Int) ≤ 1048576) :
    Calls Tryz.prog 106 #[v] w fun e w' => ∃ v', e = .returned v' ∧ w'.ownsRow w.heap.size 197 3 v' l.length (flatR undoF l) ∧ Below w.heap.size w w' := by
  obtain ⟨i0, hi, hz0, hz1, hz2⟩ := info_parts infoUndo
  obtain ⟨a, cap, rfl, hr⟩ := hv
  have HR : Hid (0 < l.length → _) := hr
  clear hr
  go_enter Tryz.func106, Tryz.ntmps106
  go_wp2_with (at_make; refine wpList_make_full _ rfl _ _ 122 rfl w.heap.size 197 i0 _ 3 Tryz.underlying122 hi hz0 hz1 _ _ _ _ l.length rfl rfl (by omega) (by omega) (by rw [hz2]; omega) (by unfold maxLen; omega) (Nat.le_refl _) ?_; intro w0 hown0 hgrow0)
  have hb0 : Below w.heap.size w w0 := (Below.refl _ _).grown hgrow0 (Nat.le_refl _) (fun k h => by cases h)
  have HO0 : Hid (w0.ownsRow w.heap.size 197 3 (.slice (some ⟨w.heap.size, 0, none⟩) l.length l.length) l.length _) := hown0
  clear hgrow0 hown0
  go_loopw [4] (fun i wr => ∃ (k : Nat) (xs : List Value), k ≤ l.length ∧ i = .int .i64 k ∧ Hid (upToR undoF 3 l xs k) ∧ Hid (wr.ownsRow w.heap.size 197 3 (.slice (some ⟨w.heap.size, 0, none⟩) l.length l.length) l.length xs) ∧ Below w.heap.size w wr) (fun i _ => l.length - (intOf i).toNat)
  case atStart =>
    exact ⟨0, _, Nat.zero_le _, rfl, upToR_zero HO0.out.1, HO0.out, hb0⟩
  case round =>
    obtain ⟨k, xs, hk, rfl, HX, HO, hbel⟩ := hrel
    clear hb0
    by_cases hlt : (k : Int) < l.length
    · have hkn : k < l.length := by omega
      obtain ⟨g, off, rfl, hg, hc⟩ := HR.out (by omega)
      have c0 : wr.cell? ⟨g, off + k * 3, none⟩ = some (.string l[k].1) := by rw [hbel.cell (by exact hg)]; exact hc k hkn 0 (by omega)
      have c1 : wr.cell? ⟨g, off + k * 3 + 1, none⟩ = some (.bool l[k].2.1) := by rw [hbel.cell (by exact hg)]; exact hc k hkn 1 (by omega)
      have c2 : wr.cell? ⟨g, off + k * 3 + 2, none⟩ = some (.int .i64 l[k].2.2) := by rw [hbel.cell (by exact hg)]; exact hc k hkn 2 (by omega)
      have q0 : (0 : Int) ≤ (k : Int) := by omega
      clear hc
      go_wp2_with fail
      refine (toUndo_any l[k] wr).mono ?_
      rintro e w1 ⟨rfl, hb1⟩
      unfold undoV
      obtain ⟨u0, u1, u2, ⟨x0, f0⟩, ⟨x1, x1', f1⟩, ⟨x2, x2', f2⟩, R, G⟩ := own_three (own_kept HO.out hb1) k hkn (.string l[k].1) (.bool l[k].2.1) (.int .i64 l[k].2.2)
      have HRR : Hid (World.ownsRow _ w.heap.size 197 3 (.slice (some ⟨w.heap.size, 0, none⟩) l.length l.length) l.length _) := R
      have HG : Hid (w1.grownBy _ (some w.heap.size)) := G
      have B1 := bt hbel hb1
      clear R G c0 c1 c2 hb1
      go_wp2
      go_roundw
      case rel => exact ⟨k + 1, _, by omega, by go_num, upTo_threeU HX.out hkn, HRR.out, B1.grown HG.out B1.size (fun b hb => by cases hb; exact Nat.le_refl _)⟩
      case measure => simp [intOf]; omega
    · have hkl : k = l.length := by omega
      have HK : Hid (k = l.length) := hkl
      clear hkl
      go_wp2
      go_ret
      have hx := HX.out
      rw [HK.out] at hx
      exact ⟨_, rfl, by have := HO.out; rw [upToR_all undoF_len hx] at this; exact this, hbel⟩


end Go.Proofs.YtcfgfhodbjakoavGreatDoor

namespace Go.Proofs.YtcfgfhodbjakoavGreatDoor
open Go.RowKit Num

set_option maxRecDepth 100000 in
set_option maxHeartbeats 1000000 in
theorem eqUndos_yes (l : List UN) (a b : Value) (w : World) (ha : RowsR w a 3 undoF l) (hb : RowsR w b 3 undoF l) (hl : (l.length : Int) ≤ 1048576) :
    Calls Tryz.prog 117 #[a, b] w fun e w' => e = .returned (.bool true) ∧ Below w.heap.size w w' := by
  obtain ⟨a, ca, rfl, hra⟩ := ha
  obtain ⟨b, cb, rfl, hrb⟩ := hb
  have HA : Hid (0 < l.length → _) := hra
  have HB : Hid (0 < l.length → _) := hrb
  clear hra hrb
  go_enter Tryz.func117, Tryz.ntmps117
  go_wp2
  go_loopw [5] (fun i wr => ∃ m : Nat, m ≤ l.length ∧ i = .int .i64 m ∧ Below w.heap.size w wr) (fun i _ => l.length - (intOf i).toNat)
  case atStart => exact ⟨0, Nat.zero_le _, rfl, Below.refl _ _⟩
  case round =>
    obtain ⟨m, hm, rfl, hbel⟩ := hrel
    by_cases hlt : (m : Int) < l.length
    · have q0 : (0 : Int) ≤ (m : Int) := by omega
      have hmn : m < l.length := by omega
      obtain ⟨ga, oa, rfl, hga, hca⟩ := HA.out (by omega)
      obtain ⟨gb, ob, rfl, hgb, hcb⟩ := HB.out (by omega)
      have hne := bw_some wr
      have c0 : ∀ x : Bw wr, x.to.cell? ⟨ga, oa + m * 3, none⟩ = some (.string l[m].1) := fun x => by rw [(bt hbel x.below).cell (by exact hga)]; exact hca m hmn 0 (by omega)
      have c1 : ∀ x : Bw wr, x.to.cell? ⟨ga, oa + m * 3 + 1, none⟩ = some (.bool l[m].2.1) := fun x => by rw [(bt hbel x.below).cell (by exact hga)]; exact hca m hmn 1 (by omega)
      have c2 : ∀ x : Bw wr, x.to.cell? ⟨ga, oa + m * 3 + 2, none⟩ = some (.int .i64 l[m].2.2) := fun x => by rw [(bt hbel x.below).cell (by exact hga)]; exact hca m hmn 2 (by omega)
      have d0 : ∀ x : Bw wr, x.to.cell? ⟨gb, ob + m * 3, none⟩ = some (.string l[m].1) := fun x => by rw [(bt hbel x.below).cell (by exact hgb)]; exact hcb m hmn 0 (by omega)
      have d1 : ∀ x : Bw wr, x.to.cell? ⟨gb, ob + m * 3 + 1, none⟩ = some (.bool l[m].2.1) := fun x => by rw [(bt hbel x.below).cell (by exact hgb)]; exact hcb m hmn 1 (by omega)
      have d2 : ∀ x : Bw wr, x.to.cell? ⟨gb, ob + m * 3 + 2, none⟩ = some (.int .i64 l[m].2.2) := fun x => by rw [(bt hbel x.below).cell (by exact hgb)]; exact hcb m hmn 2 (by omega)
      clear hca hcb
      go_wp2
      refine wp_region_bw (by kernel_rfl) (by kernel_rfl) ?_
      repeat (go_big_quiet_step (refine calls_bw (eqUndo_yes l[m] _)))
      refine wpQuiet_nil ?_
      intro _ hw'
      obtain ⟨x, rfl⟩ := hw'
      go_wp2
      go_roundw
      case rel => exact ⟨m + 1, by omega, by go_num, bt hbel x.below⟩
      case measure => simp [intOf]; omega
    · go_wp2
      go_ret
      exact ⟨rfl, hbel⟩

/-- the marks of n of them, from the number k on -/
def umarks (k n : Nat) : List UN := (List.range n).map fun i => (mk (k + 3 * i), (((k : Int) + 3 * (i : Int) + 1) % 3 == 0), ((k + 3 * i + 2 : Nat) : Int))
theorem umarks_len (k n : Nat) : (umarks k n).length = n := by simp [umarks]
theorem umarks_at (k n i : Nat) (h : i < (umarks k n).length) : (umarks k n)[i] = (mk (k + 3 * i), (((k : Int) + 3 * (i : Int) + 1) % 3 == 0), ((k + 3 * i + 2 : Nat) : Int)) := by simp [umarks]
theorem umarks_step {k n m : Nat} {ys : List Value} (h : upToR undoF 3 (umarks k n) ys m) (hm : m < n) : upToR undoF 3 (umarks k n) (((ys.set (m * 3) (.string (mk (k + 3 * m)))).set (m * 3 + 1) (.bool (((k : Int) + 3 * (m : Int) + 1) % 3 == 0))).set (m * 3 + 2) (.int .i64 ((k : Int) + 3 * (m : Int) + 1 + 1))) (m + 1) := by
  have h1 := upTo_threeU h (by rw [umarks_len]; exact hm)
  rw [umarks_at] at h1
  have e : ((k + 3 * m + 2 : Nat) : Int) = (k : Int) + 3 * (m : Int) + 1 + 1 := by omega
  rw [← e]
  exact h1

set_option maxRecDepth 100000 in
set_option maxHeartbeats 1000000 in
theorem markUndos_any (n k : Nat) (v : Value) (base : Nat) (xs : List Value) (w : World) (h : w.ownsRow base 197 3 v n xs) (hk : 0 < k) (hk2 : k ≤ 20000000) (hn : n ≤ 1048576) :
    Calls Tryz.prog 87 #[v, .int .i64 k] w fun e w' => e = .returned (.int .i64 ((k + 3 * n : Nat) : Int)) ∧ w'.ownsRow base 197 3 v n (flatR undoF (umarks k n)) ∧ w.grownBy w' v.ownBlock := by
  obtain ⟨a, cap, rfl, hg⟩ := own_form h
  have HG : Hid (0 < n → ∃ g, a = some ⟨g, 0, none⟩) := hg
  have HO : Hid (w.ownsRow base 197 3 (.slice a n cap) n xs) := h
  clear hg h
  go_enter Tryz.func87, Tryz.ntmps87
  go_wp2
  go_loopw [1, 5] (fun q i wr => ∃ (m : Nat) (ys : List Value), m ≤ n ∧ q = .int .i64 ((k + 3 * m : Nat) : Int) ∧ i = .int .i64 m ∧ Hid (upToR undoF 3 (umarks k n) ys m) ∧ Hid (wr.ownsRow base 197 3 (.slice a n cap) n ys) ∧ Hid (w.grownBy wr (Value.slice a n cap).ownBlock)) (fun _ i _ => n - (intOf i).toNat)
  case atStart => exact ⟨0, xs, Nat.zero_le _, by simp, rfl, upToR_zero (by rw [umarks_len]; exact HO.out.1), HO.out, ⟨rfl, rfl, rfl, Nat.le_refl _, fun _ _ _ => rfl⟩⟩
  case round =>
    obtain ⟨m, ys, hm, rfl, rfl, HU, HOW, HGR⟩ := hrel
    by_cases hlt : (m : Int) < n
    · have q0 : (0 : Int) ≤ (m : Int) := by omega
      obtain ⟨g, rfl⟩ := HG.out (by omega)
      go_wp2_with fail
      refine (markText_any (k + 3 * m) wr (by omega) (by omega)).mono ?_
      rintro e w1 ⟨rfl, hb1⟩
      have HO1 : Hid (w1.ownsRow base 197 3 (.slice (some ⟨g, 0, none⟩) n cap) n ys) := own_kept HOW.out hb1
      have HG1 : Hid (w.grownBy w1 (some g)) := grown_trans HGR.out (grown_any (below_grown hb1))
      clear hb1
      obtain ⟨u0, u1, u2, ⟨x0, f0⟩, ⟨x1, x1', f1⟩, ⟨x2, x2', f2⟩, R, G⟩ := own_three HO1.out m (by omega) (.string (mk (k + 3 * m))) (.bool ((((k : Int) + 3 * (m : Int) + 1) % 3 == 0))) (.int .i64 ((k : Int) + 3 * (m : Int) + 1 + 1))
      have HR : Hid (World.ownsRow _ base 197 3 (.slice (some ⟨g, 0, none⟩) n cap) n _) := R
      have HG2 : Hid (w1.grownBy _ (some g)) := G
      clear R G
      go_wp2
      go_roundw
      case rel => exact ⟨m + 1, _, by omega, by go_num, by go_num, umarks_step HU.out (by omega), HR.out, grown_trans HG1.out HG2.out⟩
      case measure => simp [intOf]; omega
    · have hmn : m = n := by omega
      have HM : Hid (m = n) := hmn
      clear hmn
      go_wp2
      go_ret
      have hu := HU.out
      rw [HM.out] at hu
      have hx := upToR_all undoF_len (by rw [umarks_len]; exact hu)
      refine ⟨ret_int (by rw [HM.out]), ?_, HGR.out⟩
      have := HOW.out
      rw [hx] at this
      exact this

set_option maxRecDepth 100000 in
set_option maxHeartbeats 1000000 in
theorem heldUndos_any (n k : Nat) (v : Value) (w : World) (h : RowsR w v 3 undoF (umarks k n)) (hk : 0 < k) (hk2 : k ≤ 20000000) (hn : n ≤ 1048576) :
    Calls Tryz.prog 91 #[v, .int .i64 k] w fun e w' => e = .returned (.int .i64 ((k + 3 * n : Nat) : Int)) ∧ Below w.heap.size w w' := by
  obtain ⟨a, cap, rfl, hr⟩ := h
  have hlen := umarks_len k n
  have hcell : 0 < n → ∃ g off, a = some ⟨g, off, none⟩ ∧ g < w.heap.size ∧ ∀ i, i < n → w.cell? ⟨g, off + i * 3, none⟩ = some (.string (mk (k + 3 * i))) ∧ w.cell? ⟨g, off + i * 3 + 1, none⟩ = some (.bool ((((k : Int) + 3 * (i : Int) + 1) % 3 == 0))) ∧ w.cell? ⟨g, off + i * 3 + 2, none⟩ = some (.int .i64 ((k : Int) + 3 * (i : Int) + 2)) := fun h0 => by
    obtain ⟨g, off, he, hg, hc⟩ := hr (by rw [hlen]; exact h0)
    refine ⟨g, off, he, hg, fun i hi => ?_⟩
    have h0 := hc i (by rw [hlen]; exact hi) 0 (by omega)
    have h1 := hc i (by rw [hlen]; exact hi) 1 (by omega)
    have h2 := hc i (by rw [hlen]; exact hi) 2 (by omega)
    rw [umarks_at] at h0 h1 h2
    exact ⟨h0, h1, by simpa [undoF] using h2⟩
  have HR : Hid (0 < n → ∃ g off, a = some ⟨g, off, none⟩ ∧ g < w.heap.size ∧ ∀ i, i < n → w.cell? ⟨g, off + i * 3, none⟩ = some (.string (mk (k + 3 * i))) ∧ w.cell? ⟨g, off + i * 3 + 1, none⟩ = some (.bool ((((k : Int) + 3 * (i : Int) + 1) % 3 == 0))) ∧ w.cell? ⟨g, off + i * 3 + 2, none⟩ = some (.int .i64 ((k : Int) + 3 * (i : Int) + 2))) := hcell
  clear hcell hr
  rw [hlen]
  clear hlen
  go_enter Tryz.func91, Tryz.ntmps91
  go_wp2
  go_loopw [1, 5] (fun q i wr => ∃ m : Nat, m ≤ n ∧ q = .int .i64 ((k + 3 * m : Nat) : Int) ∧ i = .int .i64 m ∧ Below w.heap.size w wr) (fun _ i _ => n - (intOf i).toNat)
  case atStart => exact ⟨0, Nat.zero_le _, by simp, rfl, Below.refl _ _⟩
  case round =>
    obtain ⟨m, hm, rfl, rfl, hbel⟩ := hrel
    by_cases hlt : (m : Int) < n
    · have q0 : (0 : Int) ≤ (m : Int) := by omega
      obtain ⟨g, off, rfl, hg, hc⟩ := HR.out (by omega)
      obtain ⟨hc0, hc1, hc2⟩ := hc m (by omega)
      have hne := bw_some wr
      have c0 : ∀ x : Bw wr, x.to.cell? ⟨g, off + m * 3, none⟩ = some (.string (mk (k + 3 * m))) := fun x => by rw [(bt hbel x.below).cell (by exact hg)]; exact hc0
      have hmk : ∀ x : Bw wr, Calls Tryz.prog 88 #[.int .i64 ((k : Int) + 3 * (m : Int))] x.to fun e w' => e = .returned (.string (mk (k + 3 * m))) ∧ Below x.to.heap.size x.to w' := fun x => by
        have := markText_any (k + 3 * m) x.to (by omega) (by omega)
        simpa using this
      have HK : Hid (∀ x : Bw wr, Calls Tryz.prog 88 #[.int .i64 ((k : Int) + 3 * (m : Int))] x.to fun e w' => e = .returned (.string (mk (k + 3 * m))) ∧ Below x.to.heap.size x.to w') := hmk
      have HC1 : Hid (∀ x : Bw wr, x.to.cell? ⟨g, off + m * 3 + 1, none⟩ = some (.bool ((((k : Int) + 3 * (m : Int) + 1) % 3 == 0)))) := fun x => by rw [(bt hbel x.below).cell (by exact hg)]; exact hc1
      have HC2 : Hid (∀ x : Bw wr, x.to.cell? ⟨g, off + m * 3 + 2, none⟩ = some (.int .i64 ((k : Int) + 3 * (m : Int) + 2))) := fun x => by rw [(bt hbel x.below).cell (by exact hg)]; exact hc2
      clear hmk hc hc0 hc1 hc2
      go_wp2
      refine wp_region_bw (by kernel_rfl) (by kernel_rfl) ?_
      repeat (go_big_quiet_step (refine calls_bw (HK.out _)))
      refine wpQuiet_nil ?_
      intro _ hw'
      obtain ⟨x, rfl⟩ := hw'
      have e1 : x.to.cell? ⟨g, off + m * 3 + 1, none⟩ = some (.bool ((((k : Int) + 3 * (m : Int) + 1) % 3 == 0))) := HC1.out x
      have e2 : x.to.cell? ⟨g, off + m * 3 + 2, none⟩ = some (.int .i64 ((k : Int) + 3 * (m : Int) + 2)) := HC2.out x
      go_wp2
      go_roundw
      case rel => exact ⟨m + 1, by omega, by go_num, by go_num, bt hbel x.below⟩
      case measure => simp [intOf]; omega
    · have hmn : m = n := by omega
      have HM : Hid (m = n) := hmn
      clear hmn
      go_wp2
      go_ret
      exact ⟨ret_int (by rw [HM.out]), hbel⟩


end Go.Proofs.YtcfgfhodbjakoavGreatDoor

namespace Go.Proofs.YtcfgfhodbjakoavGreatDoor
open Go.RowKit Num

set_option maxRecDepth 100000 in
set_option maxHeartbeats 1000000 in
theorem eqInts_yes (l : List Int) (a b : Value) (w : World) (ha : RowsR w a 1 intF l) (hb : RowsR w b 1 intF l) (hl : (l.length : Int) ≤ 1048576) :
    Calls Tryz.prog 115 #[a, b] w fun e w' => e = .returned (.bool true) ∧ Below w.heap.size w w' := by
  obtain ⟨a, ca, rfl, hra⟩ := ha
  obtain ⟨b, cb, rfl, hrb⟩ := hb
  have HA : Hid (0 < l.length → _) := hra
  have HB : Hid (0 < l.length → _) := hrb
  clear hra hrb
  go_enter Tryz.func115, Tryz.ntmps115
  go_wp2
  go_loopw [5] (fun i wr => ∃ m : Nat, m ≤ l.length ∧ i = .int .i64 m ∧ Below w.heap.size w wr) (fun i _ => l.length - (intOf i).toNat)
  case atStart => exact ⟨0, Nat.zero_le _, rfl, Below.refl _ _⟩
  case round =>
    obtain ⟨m, hm, rfl, hbel⟩ := hrel
    by_cases hlt : (m : Int) < l.length
    · have q0 : (0 : Int) ≤ (m : Int) := by omega
      have hmn : m < l.length := by omega
      obtain ⟨ga, oa, rfl, hga, hca⟩ := HA.out (by omega)
      obtain ⟨gb, ob, rfl, hgb, hcb⟩ := HB.out (by omega)
      have hne := bw_some wr
      have c0 : ∀ x : Bw wr, x.to.cell? ⟨ga, oa + m, none⟩ = some (.int .i64 l[m]) := fun x => by rw [(bt hbel x.below).cell (by exact hga)]; have := hca m hmn 0 (by omega); simpa [intF] using this
      have d0 : ∀ x : Bw wr, x.to.cell? ⟨gb, ob + m, none⟩ = some (.int .i64 l[m]) := fun x => by rw [(bt hbel x.below).cell (by exact hgb)]; have := hcb m hmn 0 (by omega); simpa [intF] using this
      clear hca hcb
      go_wp2
      refine wp_region_bw (by kernel_rfl) (by kernel_rfl) ?_
      repeat (go_big_quiet_step (fail))
      refine wpQuiet_nil ?_
      intro _ hw'
      obtain ⟨x, rfl⟩ := hw'
      go_wp2
      go_roundw
      case rel => exact ⟨m + 1, by omega, by go_num, bt hbel x.below⟩
      case measure => simp [intOf]; omega
    · go_wp2
      go_ret
      exact ⟨rfl, hbel⟩

/-- the marks of n numbers, from k on -/
def imarks (k n : Nat) : List Int := (List.range n).map fun i => ((k + i : Nat) : Int)
theorem imarks_len (k n : Nat) : (imarks k n).length = n := by simp [imarks]
theorem imarks_at {k n i : Nat} (h : i < n) : (imarks k n)[i]? = some ((k : Int) + (i : Int)) := by
  unfold imarks; rw [List.getElem?_map, List.getElem?_range h]; simp
theorem upTo_imarks {k n m : Nat} {ys : List Value} (h : upToR intF 1 (imarks k n) ys m) (hm : m < n) : upToR intF 1 (imarks k n) (ys.set m (.int .i64 ((k : Int) + (m : Int)))) (m + 1) := by
  have hl := h.1
  rw [imarks_len] at hl
  refine upToR_step intF_len h (by rw [imarks_len]; exact hm) (by simp) (fun j hj => ?_) (fun j hj => ?_)
  · rw [List.getElem?_set_ne (by omega)]
  · have : j = 0 := by omega
    subst this
    have e := imarks_at (k := k) hm
    rw [List.getElem?_eq_getElem (by rw [imarks_len]; exact hm)] at e
    rw [Nat.mul_one, Nat.add_zero, List.getElem?_set_self (by omega), Option.some.inj e]; rfl

set_option maxRecDepth 100000 in
set_option maxHeartbeats 1000000 in
theorem markInts_any (n k : Nat) (v : Value) (base : Nat) (xs : List Value) (w : World) (h : w.ownsRow base 3 1 v n xs) (hk2 : k ≤ 20000000) (hn : n ≤ 1048576) :
    Calls Tryz.prog 85 #[v, .int .i64 k] w fun e w' => e = .returned (.int .i64 ((k + n : Nat) : Int)) ∧ w'.ownsRow base 3 1 v n (flatR intF (imarks k n)) ∧ w.grownBy w' v.ownBlock := by
  obtain ⟨a, cap, rfl, hg⟩ := own_form h
  have HG : Hid (0 < n → ∃ g, a = some ⟨g, 0, none⟩) := hg
  have HO : Hid (w.ownsRow base 3 1 (.slice a n cap) n xs) := h
  clear hg h
  go_enter Tryz.func85, Tryz.ntmps85
  go_wp2
  go_loopw [1, 5] (fun q i wr => ∃ (m : Nat) (ys : List Value), m ≤ n ∧ q = .int .i64 ((k + m : Nat) : Int) ∧ i = .int .i64 m ∧ Hid (upToR intF 1 (imarks k n) ys m) ∧ Hid (wr.ownsRow base 3 1 (.slice a n cap) n ys) ∧ Hid (w.grownBy wr (Value.slice a n cap).ownBlock)) (fun _ i _ => n - (intOf i).toNat)
  case atStart => exact ⟨0, xs, Nat.zero_le _, by simp, rfl, upToR_zero (by rw [imarks_len]; exact HO.out.1), HO.out, ⟨rfl, rfl, rfl, Nat.le_refl _, fun _ _ _ => rfl⟩⟩
  case round =>
    obtain ⟨m, ys, hm, rfl, rfl, HU, HOW, HGR⟩ := hrel
    by_cases hlt : (m : Int) < n
    · have q0 : (0 : Int) ≤ (m : Int) := by omega
      obtain ⟨g, rfl⟩ := HG.out (by omega)
      obtain ⟨x0, f0⟩ := own_cell HOW.out m (by omega)
      have hyl := HOW.out.1
      rw [List.getElem?_eq_getElem (by omega)] at x0
      have S0 := HOW.out.stored m (.int .i64 ((k : Int) + (m : Int)))
      have HS0 : Hid ((wr.setCell ⟨g, m, none⟩ (.int .i64 ((k : Int) + (m : Int)))).ownsRow base 3 1 (.slice (some ⟨g, 0, none⟩) n cap) n _ ∧ wr.grownBy (wr.setCell ⟨g, m, none⟩ (.int .i64 ((k : Int) + (m : Int)))) (some g)) := S0
      clear S0
      go_wp2
      go_roundw
      case rel => exact ⟨m + 1, _, by omega, by go_num, by go_num, upTo_imarks HU.out (by omega), HS0.out.1, grown_trans HGR.out HS0.out.2⟩
      case measure => simp [intOf]; omega
    · have hmn : m = n := by omega
      have HM : Hid (m = n) := hmn
      clear hmn
      go_wp2
      go_ret
      have hu := HU.out
      rw [HM.out] at hu
      have hx := upToR_all intF_len (by rw [imarks_len]; exact hu)
      refine ⟨ret_int (by rw [HM.out]), ?_, HGR.out⟩
      have := HOW.out
      rw [hx] at this
      exact this
set_option maxRecDepth 100000 in
set_option maxHeartbeats 1000000 in
theorem heldInts_any (n k : Nat) (v : Value) (w : World) (h : RowsR w v 1 intF (imarks k n)) (hk2 : k ≤ 20000000) (hn : n ≤ 1048576) :
    Calls Tryz.prog 89 #[v, .int .i64 k] w fun e w' => e = .returned (.int .i64 ((k + n : Nat) : Int)) ∧ Below w.heap.size w w' := by
  obtain ⟨a, cap, rfl, hr⟩ := h
  have hlen := imarks_len k n
  have hcell : 0 < n → ∃ g off, a = some ⟨g, off, none⟩ ∧ g < w.heap.size ∧ ∀ i, i < n → w.cell? ⟨g, off + i, none⟩ = some (.int .i64 ((k : Int) + (i : Int))) := fun h0 => by
    obtain ⟨g, off, he, hg, hc⟩ := hr (by rw [hlen]; exact h0)
    refine ⟨g, off, he, hg, fun i hi => ?_⟩
    have := hc i (by rw [hlen]; exact hi) 0 (by omega)
    have e := imarks_at (k := k) hi
    rw [List.getElem?_eq_getElem (by rw [imarks_len]; exact hi)] at e
    rw [Option.some.inj e] at this
    simpa [intF] using this
  have HR : Hid (0 < n → ∃ g off, a = some ⟨g, off, none⟩ ∧ g < w.heap.size ∧ ∀ i, i < n → w.cell? ⟨g, off + i, none⟩ = some (.int .i64 ((k : Int) + (i : Int)))) := hcell
  clear hcell hr
  rw [hlen]
  clear hlen
  go_enter Tryz.func89, Tryz.ntmps89
  go_wp2
  go_loopw [1, 5] (fun q i wr => ∃ m : Nat, m ≤ n ∧ q = .int .i64 ((k + m : Nat) : Int) ∧ i = .int .i64 m ∧ Below w.heap.size w wr) (fun _ i _ => n - (intOf i).toNat)
  case atStart => exact ⟨0, Nat.zero_le _, by simp, rfl, Below.refl _ _⟩
  case round =>
    obtain ⟨m, hm, rfl, rfl, hbel⟩ := hrel
    by_cases hlt : (m : Int) < n
    · have q0 : (0 : Int) ≤ (m : Int) := by omega
      obtain ⟨g, off, rfl, hg, hc⟩ := HR.out (by omega)
      have c0 : wr.cell? ⟨g, off + m, none⟩ = some (.int .i64 ((k : Int) + (m : Int))) := by rw [hbel.cell (by exact hg)]; exact hc m (by omega)
      clear hc
      go_wp2
      go_roundw
      case rel => exact ⟨m + 1, by omega, by go_num, by go_num, hbel⟩
      case measure => simp [intOf]; omega
    · have hmn : m = n := by omega
      have HM : Hid (m = n) := hmn
      clear hmn
      go_wp2
      go_ret
      exact ⟨ret_int (by rw [HM.out]), hbel⟩

end Go.Proofs.YtcfgfhodbjakoavGreatDoor

namespace Go.Proofs.YtcfgfhodbjakoavGreatDoor
open Go.RowKit Num

theorem szu_le (l : List UN) : ∀ left : Int, 0 ≤ szu l left → szu l left ≤ left := by
  induction l with
  | nil => intro left _; exact Int.le_refl _
  | cons c l ih =>
    intro left h
    unfold szu at h ⊢
    split at h
    · omega
    · rename_i hn
      rw [if_neg hn]
      have := ih _ h
      omega
theorem szUndos_le {l : List UN} {left : Int} (h : 0 ≤ szUndosC l left) : szUndosC l left + (l.length : Int) ≤ left := by
  unfold szUndosC at h ⊢
  split at h
  · omega
  · rename_i hn
    rw [if_neg hn]
    have := szu_le l _ h
    omega

theorem szCells_le {cs : CL} {left : Int} (hl : left ≤ 1048576) (h : 0 ≤ szCells cs left) : szCells cs left + (cs.length : Int) ≤ left := by
  unfold szCells at h ⊢
  split at h
  · omega
  · rename_i hn
    rw [if_neg hn]
    have := (szc_bd cs _ (by omega) h).1
    omega

/-- what szPeer tells -/
def SzP (p : PE) (left z : Int) : Prop := z = -1 ∨ (0 ≤ z ∧ z + ((p.row.length : Int) + p.cells.length + p.early.length + p.undos.length + p.votes.length + p.news.length) ≤ left ∧ smallPe p)

set_option maxRecDepth 100000 in
set_option maxHeartbeats 4000000 in
theorem szPeer_any (p : PE) (s : PV) (left : Int) (w : World) (h0 : 0 ≤ left) (h1 : left ≤ 1048576) (hR : PeerR w p s) (hg : goodPe p) :
    Calls Tryz.prog 63 #[peerV p s, .int .i64 left] w fun e w' => ∃ z, e = .returned (.int .i64 z) ∧ SzP p left z ∧ Below w.heap.size w w' := by
  obtain ⟨id, view, ⟨hh0, hh1, hh2, hh3⟩, ⟨l0, l1, l2, l3⟩, ⟨a0, a1, a2, a3⟩, row, cells, early, undos, votes, news, shown⟩ := p
  have HR := hid hR
  clear hR
  have HG := hid hg
  clear hg
  obtain ⟨svr, svc, sve, svu, svv, svn⟩ := s
  obtain ⟨sar, scr, ser, -⟩ := HR.out.row
  change svr = _ at ser
  subst ser
  obtain ⟨sac, scc, sec, -⟩ := HR.out.cells
  change svc = _ at sec
  subst sec
  obtain ⟨sae, sce, see, -⟩ := HR.out.early
  change sve = _ at see
  subst see
  obtain ⟨sau, scu, seu, -⟩ := HR.out.undos
  change svu = _ at seu
  subst seu
  obtain ⟨sav, scv, sev, -⟩ := HR.out.votes
  change svv = _ at sev
  subst sev
  obtain ⟨san, scn, sen, -⟩ := HR.out.news
  change svn = _ at sen
  subst sen
  unfold peerV peerA
  simp only
  obtain ⟨W, hW⟩ : ∃ W, W = w.alloc (.cells #[.int .i64 id, .int .i64 view, .int .i64 hh0, .int .i64 hh1, .int .i64 hh2, .int .i64 hh3, .int .i64 l0, .int .i64 l1, .int .i64 l2, .int .i64 l3, .int .i64 a0, .int .i64 a1, .int .i64 a2, .int .i64 a3, .slice sar row.length scr, .slice sac cells.length scc, .slice sae early.length sce, .slice sau undos.length scu, .slice sav votes.length scv, .slice san news.length scn, .int .i64 shown] 113) := ⟨_, rfl⟩
  have HB0 : Hid (Below w.heap.size w W) := (by rw [hW]; exact ba (Below.refl _ _) _ : Below w.heap.size w W)
  have HK0 : Hid (W.heap[w.heap.size]? = some (.cells #[.int .i64 id, .int .i64 view, .int .i64 hh0, .int .i64 hh1, .int .i64 hh2, .int .i64 hh3, .int .i64 l0, .int .i64 l1, .int .i64 l2, .int .i64 l3, .int .i64 a0, .int .i64 a1, .int .i64 a2, .int .i64 a3, .slice sar row.length scr, .slice sac cells.length scc, .slice sae early.length sce, .slice sau undos.length scu, .slice sav votes.length scv, .slice san news.length scn, .int .i64 shown] 113 (0, 0))) := (by rw [hW]; exact heap_alloc_new w _ : W.heap[w.heap.size]? = _)
  go_enter Tryz.func63, Tryz.ntmps63
  have c := blk_cell HK0.out 14 (.slice sar row.length scr) rfl
  rw [hW] at c
  go_wp2_with fail
  rw [← hW]
  clear hW
  clear c
  refine (szInts_any row.length scr sar left W h0 h1 HG.out.lrow).mono ?_
  rintro e w1 ⟨rfl, hw⟩
  obtain rfl := hw.symm
  clear hw
  have HB1 : Hid (Below w.heap.size w _) := HB0.out
  have HK1 := hid HK0.out
  by_cases k0 : left - (row.length : Int) < 0
  · rw [if_pos k0]
    go_wp2
    go_ret
    exact ⟨-1, rfl, Or.inl rfl, HB1.out⟩
  rw [if_neg k0]
  obtain ⟨z1, hz⟩ : ∃ z1, z1 = left - (row.length : Int) := ⟨_, rfl⟩
  have HS0 : Hid ((row.length : Int) ≤ 1048576) := (by have := h1; omega : (row.length : Int) ≤ 1048576)
  have HF1 : Hid (0 ≤ z1 ∧ z1 + ((row.length : Int)) ≤ left ∧ z1 ≤ 1048576) := (by rw [hz]; omega : 0 ≤ z1 ∧ z1 + ((row.length : Int)) ≤ left ∧ z1 ≤ 1048576)
  rw [← hz]
  clear hz k0
  have q : 0 ≤ z1 := HF1.out.1
  have c := blk_cell HK1.out 15 (.slice sac cells.length scc) rfl
  go_wp2_with fail
  clear c
  refine (szCells_any cells _ z1 W HF1.out.1 HF1.out.2.2 (HR.out.cells.below HB1.out) (by have := HG.out.lcells; unfold maxLen at this; simp only at this; omega) (fun c hc => by have := HG.out.kcells c hc; unfold maxLen at this; omega)).mono ?_
  rintro e w2 ⟨rfl, hb⟩
  have HB2 : Hid (Below w.heap.size w w2) := bt HB1.out hb
  have HK2 : Hid (w2.heap[w.heap.size]? = some (.cells #[.int .i64 id, .int .i64 view, .int .i64 hh0, .int .i64 hh1, .int .i64 hh2, .int .i64 hh3, .int .i64 l0, .int .i64 l1, .int .i64 l2, .int .i64 l3, .int .i64 a0, .int .i64 a1, .int .i64 a2, .int .i64 a3, .slice sar row.length scr, .slice sac cells.length scc, .slice sae early.length sce, .slice sau undos.length scu, .slice sav votes.length scv, .slice san news.length scn, .int .i64 shown] 113 (0, 0))) := (hb.block _ (Array.getElem?_eq_some_iff.1 HK1.out).1).trans HK1.out
  clear hb
  by_cases k1 : szCells cells z1 < 0
  · go_wp2
    go_ret
    exact ⟨-1, rfl, Or.inl rfl, HB2.out⟩
  obtain ⟨z2, hz⟩ : ∃ z2, z2 = szCells cells z1 := ⟨_, rfl⟩
  have HS1 : Hid ((cells.length : Int) ≤ 1048576 ∧ ∀ c ∈ cells, (c.1.size : Int) ≤ 1048576) := (by have := szCells_bd HF1.out.2.2 (show 0 ≤ szCells cells z1 by omega); exact ⟨this.1, this.2.2⟩ : (cells.length : Int) ≤ 1048576 ∧ ∀ c ∈ cells, (c.1.size : Int) ≤ 1048576)
  have HF2 : Hid (0 ≤ z2 ∧ z2 + ((row.length : Int) + cells.length) ≤ left ∧ z2 ≤ 1048576) := (by rw [hz]; have := szCells_le HF1.out.2.2 (show 0 ≤ szCells cells z1 by omega); have := HF1.out; omega : 0 ≤ z2 ∧ z2 + ((row.length : Int) + cells.length) ≤ left ∧ z2 ≤ 1048576)
  rw [← hz]
  clear hz k1
  have q : 0 ≤ z2 := HF2.out.1
  have c := blk_cell HK2.out 16 (.slice sae early.length sce) rfl
  go_wp2_with fail
  clear c
  refine (szInts_any early.length sce sae z2 w2 HF2.out.1 HF2.out.2.2 HG.out.learly).mono ?_
  rintro e w3 ⟨rfl, hw⟩
  obtain rfl := hw.symm
  clear hw
  have HB3 : Hid (Below w.heap.size w _) := HB2.out
  have HK3 := hid HK2.out
  by_cases k2 : z2 - (early.length : Int) < 0
  · rw [if_pos k2]
    go_wp2
    go_ret
    exact ⟨-1, rfl, Or.inl rfl, HB3.out⟩
  rw [if_neg k2]
  obtain ⟨z3, hz⟩ : ∃ z3, z3 = z2 - (early.length : Int) := ⟨_, rfl⟩
  have HS2 : Hid ((early.length : Int) ≤ 1048576) := (by have := HF2.out.2.2; omega : (early.length : Int) ≤ 1048576)
  have HF3 : Hid (0 ≤ z3 ∧ z3 + ((row.length : Int) + cells.length + early.length) ≤ left ∧ z3 ≤ 1048576) := (by rw [hz]; have := HF2.out; omega : 0 ≤ z3 ∧ z3 + ((row.length : Int) + cells.length + early.length) ≤ left ∧ z3 ≤ 1048576)
  rw [← hz]
  clear hz k2
  have q : 0 ≤ z3 := HF3.out.1
  have c := blk_cell HK3.out 17 (.slice sau undos.length scu) rfl
  go_wp2_with fail
  clear c
  refine (szUndos_any undos _ z3 w2 HF3.out.1 HF3.out.2.2 (HR.out.undos.below HB3.out) (by have := HG.out.lundos; unfold maxLen at this; simp only at this; omega) (fun c hc => by have := (HG.out.gundos c hc).1; unfold maxLen at this; omega)).mono ?_
  rintro e w4 ⟨rfl, hb⟩
  have HB4 : Hid (Below w.heap.size w w4) := bt HB3.out hb
  have HK4 : Hid (w4.heap[w.heap.size]? = some (.cells #[.int .i64 id, .int .i64 view, .int .i64 hh0, .int .i64 hh1, .int .i64 hh2, .int .i64 hh3, .int .i64 l0, .int .i64 l1, .int .i64 l2, .int .i64 l3, .int .i64 a0, .int .i64 a1, .int .i64 a2, .int .i64 a3, .slice sar row.length scr, .slice sac cells.length scc, .slice sae early.length sce, .slice sau undos.length scu, .slice sav votes.length scv, .slice san news.length scn, .int .i64 shown] 113 (0, 0))) := (hb.block _ (Array.getElem?_eq_some_iff.1 HK3.out).1).trans HK3.out
  clear hb
  by_cases k3 : szUndosC undos z3 < 0
  · go_wp2
    go_ret
    exact ⟨-1, rfl, Or.inl rfl, HB4.out⟩
  obtain ⟨z4, hz⟩ : ∃ z4, z4 = szUndosC undos z3 := ⟨_, rfl⟩
  have HS3 : Hid ((undos.length : Int) ≤ 1048576 ∧ ∀ c ∈ undos, (c.1.size : Int) ≤ 1048576) := (szUndos_bd HF3.out.2.2 (show 0 ≤ szUndosC undos z3 by omega) : (undos.length : Int) ≤ 1048576 ∧ ∀ c ∈ undos, (c.1.size : Int) ≤ 1048576)
  have HF4 : Hid (0 ≤ z4 ∧ z4 + ((row.length : Int) + cells.length + early.length + undos.length) ≤ left ∧ z4 ≤ 1048576) := (by rw [hz]; have := szUndos_le (show 0 ≤ szUndosC undos z3 by omega); have := HF3.out; omega : 0 ≤ z4 ∧ z4 + ((row.length : Int) + cells.length + early.length + undos.length) ≤ left ∧ z4 ≤ 1048576)
  rw [← hz]
  clear hz k3
  have q : 0 ≤ z4 := HF4.out.1
  have c := blk_cell HK4.out 18 (.slice sav votes.length scv) rfl
  go_wp2_with fail
  clear c
  refine (szVotes_any votes.length scv sav z4 w4 HF4.out.1 HF4.out.2.2 HG.out.lvotes).mono ?_
  rintro e w5 ⟨rfl, hw⟩
  obtain rfl := hw.symm
  clear hw
  have HB5 : Hid (Below w.heap.size w _) := HB4.out
  have HK5 := hid HK4.out
  by_cases k4 : z4 - (votes.length : Int) < 0
  · rw [if_pos k4]
    go_wp2
    go_ret
    exact ⟨-1, rfl, Or.inl rfl, HB5.out⟩
  rw [if_neg k4]
  obtain ⟨z5, hz⟩ : ∃ z5, z5 = z4 - (votes.length : Int) := ⟨_, rfl⟩
  have HS4 : Hid ((votes.length : Int) ≤ 1048576) := (by have := HF4.out.2.2; omega : (votes.length : Int) ≤ 1048576)
  have HF5 : Hid (0 ≤ z5 ∧ z5 + ((row.length : Int) + cells.length + early.length + undos.length + votes.length) ≤ left ∧ z5 ≤ 1048576) := (by rw [hz]; have := HF4.out; omega : 0 ≤ z5 ∧ z5 + ((row.length : Int) + cells.length + early.length + undos.length + votes.length) ≤ left ∧ z5 ≤ 1048576)
  rw [← hz]
  clear hz k4
  have q : 0 ≤ z5 := HF5.out.1
  have c := blk_cell HK5.out 19 (.slice san news.length scn) rfl
  go_wp2_with fail
  clear c
  refine (szLetters_any news.length scn san z5 w4 HF5.out.1 HF5.out.2.2 HG.out.lnews).mono ?_
  rintro e w6 ⟨rfl, hw⟩
  obtain rfl := hw.symm
  clear hw
  have HB6 : Hid (Below w.heap.size w _) := HB5.out
  have HK6 := hid HK5.out
  by_cases k5 : z5 - (news.length : Int) < 0
  · rw [if_pos k5]
    go_wp2
    go_ret
    exact ⟨-1, rfl, Or.inl rfl, HB6.out⟩
  rw [if_neg k5]
  obtain ⟨z6, hz⟩ : ∃ z6, z6 = z5 - (news.length : Int) := ⟨_, rfl⟩
  have HS5 : Hid ((news.length : Int) ≤ 1048576) := (by have := HF5.out.2.2; omega : (news.length : Int) ≤ 1048576)
  have HF6 : Hid (0 ≤ z6 ∧ z6 + ((row.length : Int) + cells.length + early.length + undos.length + votes.length + news.length) ≤ left ∧ z6 ≤ 1048576) := (by rw [hz]; have := HF5.out; omega : 0 ≤ z6 ∧ z6 + ((row.length : Int) + cells.length + early.length + undos.length + votes.length + news.length) ≤ left ∧ z6 ≤ 1048576)
  rw [← hz]
  clear hz k5
  have q : 0 ≤ z6 := HF6.out.1
  go_wp2
  go_ret
  exact ⟨_, rfl, Or.inr ⟨HF6.out.1, HF6.out.2.1, ⟨HS0.out, HS1.out.1, HS2.out, HS3.out.1, HS4.out, HS5.out, HS1.out.2, HS3.out.2⟩⟩, HB6.out⟩

/-- a row of its own that lies from lo on, ahead of hi -/
def In (lo hi : Nat) (w : World) (e : TypeId) (m : Nat) (v : Value) (n : Nat) (xs : List Value) : Prop := w.ownsRow lo e m v n xs ∧ ∀ g, v.ownBlock = some g → g < hi
theorem In.below {lo hi : Nat} {w w' : World} {e : TypeId} {m : Nat} {v : Value} {n : Nat} {xs : List Value} (h : In lo hi w e m v n xs) (hb : Below w.heap.size w w') : In lo hi w' e m v n xs := ⟨own_kept h.1 hb, h.2⟩
theorem In.far {lo hi : Nat} {w w' : World} {e : TypeId} {m : Nat} {v : Value} {n : Nat} {xs : List Value} {N : Nat} (h : In lo hi w e m v n xs) (hg : w.grownBy w' (some N)) (hN : N < lo ∨ hi ≤ N) : In lo hi w' e m v n xs := by
  refine ⟨World.ownsRow.kept h.1 hg ?_, h.2⟩
  cases e2 : v.ownBlock with
  | none => exact Or.inl rfl
  | some g => exact Or.inr fun e3 => by have e3 := Option.some.inj e3; have := (h.1.lt g e2).1; have := h.2 g e2; omega
/-- a replica whose lists are rows of their own, all of them apart -/
structure OwnP (base : Nat) (w : World) (p : PE) (s : PV) : Prop where
  ex : ∃ b1 b2 b3 b4 b5 b6, (base ≤ b1 ∧ b1 ≤ b2 ∧ b2 ≤ b3 ∧ b3 ≤ b4 ∧ b4 ≤ b5 ∧ b5 ≤ b6 ∧ b6 ≤ w.heap.size) ∧ In base b1 w 3 1 s.row p.row.length (flatR intF p.row) ∧ In b1 b2 w 195 2 s.cells p.cells.length (flat p.cells) ∧
    In b2 b3 w 3 1 s.early p.early.length (flatR intF p.early) ∧ In b3 b4 w 197 3 s.undos p.undos.length (flatR undoF p.undos) ∧ In b4 b5 w 46 4 s.votes p.votes.length (flatR voteF p.votes) ∧ In b5 b6 w 48 13 s.news p.news.length (flatR letF p.news)
theorem OwnP.reads {base : Nat} {w : World} {p : PE} {s : PV} (h : OwnP base w p s) : PeerR w p s := by
  obtain ⟨b1, b2, b3, b4, b5, b6, _, r0, r1, r2, r3, r4, r5⟩ := h.ex
  exact ⟨rows_of_own intF_len r0.1, cells_of_own r1.1, rows_of_own intF_len r2.1, rows_of_own undoF_len r3.1, rows_of_own voteF_len r4.1, rows_of_own letF_len r5.1⟩
theorem OwnP.below {base : Nat} {w w' : World} {p : PE} {s : PV} (h : OwnP base w p s) (hb : Below w.heap.size w w') : OwnP base w' p s := by
  obtain ⟨b1, b2, b3, b4, b5, b6, hl, r0, r1, r2, r3, r4, r5⟩ := h.ex
  have := hb.size
  exact ⟨b1, b2, b3, b4, b5, b6, by omega, r0.below hb, r1.below hb, r2.below hb, r3.below hb, r4.below hb, r5.below hb⟩

theorem OwnP.lim {base : Nat} {w : World} {p : PE} {s : PV} (h : OwnP base w p s) : ∃ hi, hi ≤ w.heap.size ∧ ∀ v ∈ [s.row, s.cells, s.early, s.undos, s.votes, s.news], ∀ g, v.ownBlock = some g → g < hi := by
  obtain ⟨b1, b2, b3, b4, b5, b6, hl, r0, r1, r2, r3, r4, r5⟩ := h.ex
  refine ⟨b6, hl.2.2.2.2.2.2, fun v hv g hg => ?_⟩
  simp only [List.mem_cons, List.not_mem_nil, or_false] at hv
  rcases hv with rfl | rfl | rfl | rfl | rfl | rfl
  · have := r0.2 g hg; omega
  · have := r1.2 g hg; omega
  · have := r2.2 g hg; omega
  · have := r3.2 g hg; omega
  · have := r4.2 g hg; omega
  · have := r5.2 g hg; omega
/-- a block above its rows is written -/
theorem OwnP.above {base : Nat} {w w' : World} {p : PE} {s : PV} {N : Nat} (h : OwnP base w p s) (hg : w.grownBy w' (some N)) (hi : Nat) (hN : hi ≤ N) (hb : ∀ v ∈ [s.row, s.cells, s.early, s.undos, s.votes, s.news], ∀ g, v.ownBlock = some g → g < hi) : OwnP base w' p s := by
  obtain ⟨b1, b2, b3, b4, b5, b6, hl, r0, r1, r2, r3, r4, r5⟩ := h.ex
  have K : ∀ (lo hh : Nat) (e : TypeId) (m : Nat) (v : Value) (n : Nat) (xs : List Value), v ∈ [s.row, s.cells, s.early, s.undos, s.votes, s.news] → In lo hh w e m v n xs → In lo hh w' e m v n xs := fun lo hh e m v n xs hv hI => by
    refine ⟨World.ownsRow.kept hI.1 hg ?_, hI.2⟩
    cases e2 : v.ownBlock with
    | none => exact Or.inl rfl
    | some g => exact Or.inr fun e3 => by have e3 := Option.some.inj e3; have := hb v hv g e2; omega
  have := hg.size
  exact ⟨b1, b2, b3, b4, b5, b6, by omega, K _ _ _ _ _ _ _ (by simp) r0, K _ _ _ _ _ _ _ (by simp) r1, K _ _ _ _ _ _ _ (by simp) r2, K _ _ _ _ _ _ _ (by simp) r3, K _ _ _ _ _ _ _ (by simp) r4, K _ _ _ _ _ _ _ (by simp) r5⟩
/-- .. just made -/
theorem own_farP {base : Nat} {w w' : World} {p : PE} {s : PV} {o : Obj} {N : Nat} (h : OwnP base (w.alloc o) p s) (hg : (w.alloc o).grownBy w' (some N)) (_ : N < (w.alloc o).heap.size) (hl : ∃ hi, hi ≤ N ∧ ∀ v ∈ [s.row, s.cells, s.early, s.undos, s.votes, s.news], ∀ g, v.ownBlock = some g → g < hi) : OwnP base w' p s := by
  obtain ⟨hi, h1, h2⟩ := hl
  exact h.above hg hi h1 h2

set_option maxRecDepth 100000 in
set_option maxHeartbeats 8000000 in
theorem toPeer_any (p : PE) (s : PV) (w : World) (hR : PeerR w p s) (hs : smallPe p) :
    Calls Tryz.prog 68 #[peerV p s] w fun e w' => ∃ s', e = .returned (peerV p s') ∧ OwnP w.heap.size w' p s' ∧ Below w.heap.size w w' := by
  have HR := hid hR
  have HS := hid hs
  clear hR hs
  obtain ⟨id, view, ⟨h0, h1, h2, h3⟩, ⟨l0, l1, l2, l3⟩, ⟨a0, a1, a2, a3⟩, row, cells, early, undos, votes, news, shown⟩ := p
  obtain ⟨svr, svc, sve, svu, svv, svn⟩ := s
  obtain ⟨sar, scr, ser, -⟩ := HR.out.row
  change svr = _ at ser
  subst ser
  obtain ⟨sac, scc, sec, -⟩ := HR.out.cells
  change svc = _ at sec
  subst sec
  obtain ⟨sae, sce, see, -⟩ := HR.out.early
  change sve = _ at see
  subst see
  obtain ⟨sau, scu, seu, -⟩ := HR.out.undos
  change svu = _ at seu
  subst seu
  obtain ⟨sav, scv, sev, -⟩ := HR.out.votes
  change svv = _ at sev
  subst sev
  obtain ⟨san, scn, sen, -⟩ := HR.out.news
  change svn = _ at sen
  subst sen
  unfold peerV peerA
  simp only
  obtain ⟨W, hW⟩ : ∃ W, W = ((w.alloc (.cells #[.int .i64 id, .int .i64 view, .int .i64 h0, .int .i64 h1, .int .i64 h2, .int .i64 h3, .int .i64 l0, .int .i64 l1, .int .i64 l2, .int .i64 l3, .int .i64 a0, .int .i64 a1, .int .i64 a2, .int .i64 a3, .slice sar row.length scr, .slice sac cells.length scc, .slice sae early.length sce, .slice sau undos.length scu, .slice sav votes.length scv, .slice san news.length scn, .int .i64 shown] 113)).alloc (.cells #[.int .i64 0, .int .i64 0, .int .i64 0, .int .i64 0, .int .i64 0, .int .i64 0, .int .i64 0, .int .i64 0, .int .i64 0, .int .i64 0, .int .i64 0, .int .i64 0, .int .i64 0, .int .i64 0, .slice none 0 0, .slice none 0 0, .slice none 0 0, .slice none 0 0, .slice none 0 0, .slice none 0 0, .int .i64 0] 124)).alloc (.cells #[.int .i64 id, .int .i64 view, .int .i64 0, .int .i64 0, .int .i64 0, .int .i64 0, .int .i64 0, .int .i64 0, .int .i64 0, .int .i64 0, .int .i64 0, .int .i64 0, .int .i64 0, .int .i64 0, .slice none 0 0, .slice none 0 0, .slice none 0 0, .slice none 0 0, .slice none 0 0, .slice none 0 0, .int .i64 0] 124) := ⟨_, rfl⟩
  have HB0 : Hid (Below w.heap.size w W) := (by rw [hW]; exact ba (ba (ba (Below.refl _ _) _) _) _ : Below w.heap.size w W)
  have HA0 : Hid (W.heap[w.heap.size]? = some (.cells #[.int .i64 id, .int .i64 view, .int .i64 h0, .int .i64 h1, .int .i64 h2, .int .i64 h3, .int .i64 l0, .int .i64 l1, .int .i64 l2, .int .i64 l3, .int .i64 a0, .int .i64 a1, .int .i64 a2, .int .i64 a3, .slice sar row.length scr, .slice sac cells.length scc, .slice sae early.length sce, .slice sau undos.length scu, .slice sav votes.length scv, .slice san news.length scn, .int .i64 shown] 113 (0, 0))) := (by rw [hW]; exact (alloc3 w _ _ _).1 : W.heap[w.heap.size]? = _)
  have HZ0 : Hid (W.heap[w.heap.size + 1]? = some (.cells #[.int .i64 0, .int .i64 0, .int .i64 0, .int .i64 0, .int .i64 0, .int .i64 0, .int .i64 0, .int .i64 0, .int .i64 0, .int .i64 0, .int .i64 0, .int .i64 0, .int .i64 0, .int .i64 0, .slice none 0 0, .slice none 0 0, .slice none 0 0, .slice none 0 0, .slice none 0 0, .slice none 0 0, .int .i64 0] 124 (0, 0))) := (by rw [hW]; exact (alloc3 w _ _ _).2.1 : W.heap[w.heap.size + 1]? = _)
  have HO0 : Hid (W.heap[w.heap.size + 1 + 1]? = some (.cells #[.int .i64 id, .int .i64 view, .int .i64 0, .int .i64 0, .int .i64 0, .int .i64 0, .int .i64 0, .int .i64 0, .int .i64 0, .int .i64 0, .int .i64 0, .int .i64 0, .int .i64 0, .int .i64 0, .slice none 0 0, .slice none 0 0, .slice none 0 0, .slice none 0 0, .slice none 0 0, .slice none 0 0, .int .i64 0] 124 (0, 0))) := (by rw [hW]; exact (alloc3 w _ _ _).2.2 : W.heap[w.heap.size + 1 + 1]? = _)
  have HL0 : Hid (w.heap.size + 1 + 1 < W.heap.size) := (Array.getElem?_eq_some_iff.1 HO0.out).1
  go_enter Tryz.func68, Tryz.ntmps68
  have c2 := blk_cell HA0.out 2 (.int .i64 h0) rfl
  have c3 := blk_cell HA0.out 3 (.int .i64 h1) rfl
  have c4 := blk_cell HA0.out 4 (.int .i64 h2) rfl
  have c5 := blk_cell HA0.out 5 (.int .i64 h3) rfl
  rw [hW] at c2 c3 c4 c5
  go_wp2_with fail
  rw [← hW]
  clear hW c2 c3 c4 c5
  refine (toQ4_any h0 h1 h2 h3 W).mono ?_
  rintro e x1 ⟨rfl, hb⟩
  have HBa : Hid (Below w.heap.size w x1) := bt HB0.out hb
  have HAa : Hid (x1.heap[w.heap.size]? = some (.cells #[.int .i64 id, .int .i64 view, .int .i64 h0, .int .i64 h1, .int .i64 h2, .int .i64 h3, .int .i64 l0, .int .i64 l1, .int .i64 l2, .int .i64 l3, .int .i64 a0, .int .i64 a1, .int .i64 a2, .int .i64 a3, .slice sar row.length scr, .slice sac cells.length scc, .slice sae early.length sce, .slice sau undos.length scu, .slice sav votes.length scv, .slice san news.length scn, .int .i64 shown] 113 (0, 0))) := (hb.block _ (by have := HL0.out; omega)).trans HA0.out
  have HZa : Hid (x1.heap[w.heap.size + 1]? = some (.cells #[.int .i64 0, .int .i64 0, .int .i64 0, .int .i64 0, .int .i64 0, .int .i64 0, .int .i64 0, .int .i64 0, .int .i64 0, .int .i64 0, .int .i64 0, .int .i64 0, .int .i64 0, .int .i64 0, .slice none 0 0, .slice none 0 0, .slice none 0 0, .slice none 0 0, .slice none 0 0, .slice none 0 0, .int .i64 0] 124 (0, 0))) := (hb.block _ (by have := HL0.out; omega)).trans HZ0.out
  have HOa : Hid (x1.heap[w.heap.size + 1 + 1]? = some (.cells #[.int .i64 id, .int .i64 view, .int .i64 0, .int .i64 0, .int .i64 0, .int .i64 0, .int .i64 0, .int .i64 0, .int .i64 0, .int .i64 0, .int .i64 0, .int .i64 0, .int .i64 0, .int .i64 0, .slice none 0 0, .slice none 0 0, .slice none 0 0, .slice none 0 0, .slice none 0 0, .slice none 0 0, .int .i64 0] 124 (0, 0))) := (hb.block _ (by have := HL0.out; omega)).trans HO0.out
  have HLa : Hid (W.heap.size ≤ x1.heap.size ∧ w.heap.size + 1 + 1 < x1.heap.size) := ⟨hb.size, Nat.lt_of_lt_of_le HL0.out hb.size⟩
  clear hb HB0 HA0 HZ0 HO0
  go_wp2_with (refine wpList_store_part rfl _ _ _ rfl (w.heap.size + 1 + 1) 2 #[.int .i64 h0, .int .i64 h1, .int .i64 h2, .int .i64 h3] rfl rfl _ _ HOa.out (by kernel_rfl) (by simp) (by simp [Value.oneCell']) #[.int .i64 id, .int .i64 view, .int .i64 h0, .int .i64 h1, .int .i64 h2, .int .i64 h3, .int .i64 0, .int .i64 0, .int .i64 0, .int .i64 0, .int .i64 0, .int .i64 0, .int .i64 0, .int .i64 0, .slice none 0 0, .slice none 0 0, .slice none 0 0, .slice none 0 0, .slice none 0 0, .slice none 0 0, .int .i64 0] rfl ?_; intro y1 hg hk; have HB1 : Hid (Below w.heap.size w y1) := HBa.out.grown hg HBa.out.size (fun y hy => by cases hy; omega); have HA1 : Hid (y1.heap[w.heap.size]? = Option.some (.cells #[.int .i64 id, .int .i64 view, .int .i64 h0, .int .i64 h1, .int .i64 h2, .int .i64 h3, .int .i64 l0, .int .i64 l1, .int .i64 l2, .int .i64 l3, .int .i64 a0, .int .i64 a1, .int .i64 a2, .int .i64 a3, .slice sar row.length scr, .slice sac cells.length scc, .slice sae early.length sce, .slice sau undos.length scu, .slice sav votes.length scv, .slice san news.length scn, .int .i64 shown] 113 (0, 0))) := (hg.block _ (Array.getElem?_eq_some_iff.1 HAa.out).1 (fun e => by have := Option.some.inj e; omega)).trans HAa.out; have HZ1 : Hid (y1.heap[w.heap.size + 1]? = Option.some (.cells #[.int .i64 0, .int .i64 0, .int .i64 0, .int .i64 0, .int .i64 0, .int .i64 0, .int .i64 0, .int .i64 0, .int .i64 0, .int .i64 0, .int .i64 0, .int .i64 0, .int .i64 0, .int .i64 0, .slice none 0 0, .slice none 0 0, .slice none 0 0, .slice none 0 0, .slice none 0 0, .slice none 0 0, .int .i64 0] 124 (0, 0))) := (hg.block _ (Array.getElem?_eq_some_iff.1 HZa.out).1 (fun e => by have := Option.some.inj e; omega)).trans HZa.out; have HO1 : Hid (y1.heap[w.heap.size + 1 + 1]? = Option.some (.cells #[.int .i64 id, .int .i64 view, .int .i64 h0, .int .i64 h1, .int .i64 h2, .int .i64 h3, .int .i64 0, .int .i64 0, .int .i64 0, .int .i64 0, .int .i64 0, .int .i64 0, .int .i64 0, .int .i64 0, .slice none 0 0, .slice none 0 0, .slice none 0 0, .slice none 0 0, .slice none 0 0, .slice none 0 0, .int .i64 0] 124 (0, 0))) := hk; have HL1 : Hid (w.heap.size + 1 + 1 < y1.heap.size) := Nat.lt_of_lt_of_le HLa.out.2 hg.size; have HM1 : Hid (W.heap.size ≤ x1.heap.size ∧ x1.heap.size ≤ y1.heap.size) := ⟨HLa.out.1, hg.size⟩; clear hg hk HBa HAa HZa HOa HLa; have c6 := blk_cell HA1.out 6 (.int .i64 l0) rfl; have c7 := blk_cell HA1.out 7 (.int .i64 l1) rfl; have c8 := blk_cell HA1.out 8 (.int .i64 l2) rfl; have c9 := blk_cell HA1.out 9 (.int .i64 l3) rfl)
  clear c6 c7 c8 c9
  refine (toQ4_any l0 l1 l2 l3 y1).mono ?_
  rintro e x2 ⟨rfl, hb⟩
  have HBa : Hid (Below w.heap.size w x2) := bt HB1.out hb
  have HAa : Hid (x2.heap[w.heap.size]? = some (.cells #[.int .i64 id, .int .i64 view, .int .i64 h0, .int .i64 h1, .int .i64 h2, .int .i64 h3, .int .i64 l0, .int .i64 l1, .int .i64 l2, .int .i64 l3, .int .i64 a0, .int .i64 a1, .int .i64 a2, .int .i64 a3, .slice sar row.length scr, .slice sac cells.length scc, .slice sae early.length sce, .slice sau undos.length scu, .slice sav votes.length scv, .slice san news.length scn, .int .i64 shown] 113 (0, 0))) := (hb.block _ (by have := HL1.out; omega)).trans HA1.out
  have HZa : Hid (x2.heap[w.heap.size + 1]? = some (.cells #[.int .i64 0, .int .i64 0, .int .i64 0, .int .i64 0, .int .i64 0, .int .i64 0, .int .i64 0, .int .i64 0, .int .i64 0, .int .i64 0, .int .i64 0, .int .i64 0, .int .i64 0, .int .i64 0, .slice none 0 0, .slice none 0 0, .slice none 0 0, .slice none 0 0, .slice none 0 0, .slice none 0 0, .int .i64 0] 124 (0, 0))) := (hb.block _ (by have := HL1.out; omega)).trans HZ1.out
  have HOa : Hid (x2.heap[w.heap.size + 1 + 1]? = some (.cells #[.int .i64 id, .int .i64 view, .int .i64 h0, .int .i64 h1, .int .i64 h2, .int .i64 h3, .int .i64 0, .int .i64 0, .int .i64 0, .int .i64 0, .int .i64 0, .int .i64 0, .int .i64 0, .int .i64 0, .slice none 0 0, .slice none 0 0, .slice none 0 0, .slice none 0 0, .slice none 0 0, .slice none 0 0, .int .i64 0] 124 (0, 0))) := (hb.block _ (by have := HL1.out; omega)).trans HO1.out
  have HLa : Hid (y1.heap.size ≤ x2.heap.size ∧ w.heap.size + 1 + 1 < x2.heap.size) := ⟨hb.size, Nat.lt_of_lt_of_le HL1.out hb.size⟩
  clear hb HB1 HA1 HZ1 HO1
  go_wp2_with (refine wpList_store_part rfl _ _ _ rfl (w.heap.size + 1 + 1) 6 #[.int .i64 l0, .int .i64 l1, .int .i64 l2, .int .i64 l3] rfl rfl _ _ HOa.out (by kernel_rfl) (by simp) (by simp [Value.oneCell']) #[.int .i64 id, .int .i64 view, .int .i64 h0, .int .i64 h1, .int .i64 h2, .int .i64 h3, .int .i64 l0, .int .i64 l1, .int .i64 l2, .int .i64 l3, .int .i64 0, .int .i64 0, .int .i64 0, .int .i64 0, .slice none 0 0, .slice none 0 0, .slice none 0 0, .slice none 0 0, .slice none 0 0, .slice none 0 0, .int .i64 0] rfl ?_; intro y2 hg hk; have HB2 : Hid (Below w.heap.size w y2) := HBa.out.grown hg HBa.out.size (fun y hy => by cases hy; omega); have HA2 : Hid (y2.heap[w.heap.size]? = Option.some (.cells #[.int .i64 id, .int .i64 view, .int .i64 h0, .int .i64 h1, .int .i64 h2, .int .i64 h3, .int .i64 l0, .int .i64 l1, .int .i64 l2, .int .i64 l3, .int .i64 a0, .int .i64 a1, .int .i64 a2, .int .i64 a3, .slice sar row.length scr, .slice sac cells.length scc, .slice sae early.length sce, .slice sau undos.length scu, .slice sav votes.length scv, .slice san news.length scn, .int .i64 shown] 113 (0, 0))) := (hg.block _ (Array.getElem?_eq_some_iff.1 HAa.out).1 (fun e => by have := Option.some.inj e; omega)).trans HAa.out; have HZ2 : Hid (y2.heap[w.heap.size + 1]? = Option.some (.cells #[.int .i64 0, .int .i64 0, .int .i64 0, .int .i64 0, .int .i64 0, .int .i64 0, .int .i64 0, .int .i64 0, .int .i64 0, .int .i64 0, .int .i64 0, .int .i64 0, .int .i64 0, .int .i64 0, .slice none 0 0, .slice none 0 0, .slice none 0 0, .slice none 0 0, .slice none 0 0, .slice none 0 0, .int .i64 0] 124 (0, 0))) := (hg.block _ (Array.getElem?_eq_some_iff.1 HZa.out).1 (fun e => by have := Option.some.inj e; omega)).trans HZa.out; have HO2 : Hid (y2.heap[w.heap.size + 1 + 1]? = Option.some (.cells #[.int .i64 id, .int .i64 view, .int .i64 h0, .int .i64 h1, .int .i64 h2, .int .i64 h3, .int .i64 l0, .int .i64 l1, .int .i64 l2, .int .i64 l3, .int .i64 0, .int .i64 0, .int .i64 0, .int .i64 0, .slice none 0 0, .slice none 0 0, .slice none 0 0, .slice none 0 0, .slice none 0 0, .slice none 0 0, .int .i64 0] 124 (0, 0))) := hk; have HL2 : Hid (w.heap.size + 1 + 1 < y2.heap.size) := Nat.lt_of_lt_of_le HLa.out.2 hg.size; have HM2 : Hid (y1.heap.size ≤ x2.heap.size ∧ x2.heap.size ≤ y2.heap.size) := ⟨HLa.out.1, hg.size⟩; clear hg hk HBa HAa HZa HOa HLa; have c10 := blk_cell HA2.out 10 (.int .i64 a0) rfl; have c11 := blk_cell HA2.out 11 (.int .i64 a1) rfl; have c12 := blk_cell HA2.out 12 (.int .i64 a2) rfl; have c13 := blk_cell HA2.out 13 (.int .i64 a3) rfl)
  clear c10 c11 c12 c13
  refine (toV4_any a0 a1 a2 a3 y2).mono ?_
  rintro e x3 ⟨rfl, hb⟩
  have HBa : Hid (Below w.heap.size w x3) := bt HB2.out hb
  have HAa : Hid (x3.heap[w.heap.size]? = some (.cells #[.int .i64 id, .int .i64 view, .int .i64 h0, .int .i64 h1, .int .i64 h2, .int .i64 h3, .int .i64 l0, .int .i64 l1, .int .i64 l2, .int .i64 l3, .int .i64 a0, .int .i64 a1, .int .i64 a2, .int .i64 a3, .slice sar row.length scr, .slice sac cells.length scc, .slice sae early.length sce, .slice sau undos.length scu, .slice sav votes.length scv, .slice san news.length scn, .int .i64 shown] 113 (0, 0))) := (hb.block _ (by have := HL2.out; omega)).trans HA2.out
  have HZa : Hid (x3.heap[w.heap.size + 1]? = some (.cells #[.int .i64 0, .int .i64 0, .int .i64 0, .int .i64 0, .int .i64 0, .int .i64 0, .int .i64 0, .int .i64 0, .int .i64 0, .int .i64 0, .int .i64 0, .int .i64 0, .int .i64 0, .int .i64 0, .slice none 0 0, .slice none 0 0, .slice none 0 0, .slice none 0 0, .slice none 0 0, .slice none 0 0, .int .i64 0] 124 (0, 0))) := (hb.block _ (by have := HL2.out; omega)).trans HZ2.out
  have HOa : Hid (x3.heap[w.heap.size + 1 + 1]? = some (.cells #[.int .i64 id, .int .i64 view, .int .i64 h0, .int .i64 h1, .int .i64 h2, .int .i64 h3, .int .i64 l0, .int .i64 l1, .int .i64 l2, .int .i64 l3, .int .i64 0, .int .i64 0, .int .i64 0, .int .i64 0, .slice none 0 0, .slice none 0 0, .slice none 0 0, .slice none 0 0, .slice none 0 0, .slice none 0 0, .int .i64 0] 124 (0, 0))) := (hb.block _ (by have := HL2.out; omega)).trans HO2.out
  have HLa : Hid (y2.heap.size ≤ x3.heap.size ∧ w.heap.size + 1 + 1 < x3.heap.size) := ⟨hb.size, Nat.lt_of_lt_of_le HL2.out hb.size⟩
  clear hb HB2 HA2 HZ2 HO2
  go_wp2_with (refine wpList_store_part rfl _ _ _ rfl (w.heap.size + 1 + 1) 10 #[.int .i64 a0, .int .i64 a1, .int .i64 a2, .int .i64 a3] rfl rfl _ _ HOa.out (by kernel_rfl) (by simp) (by simp [Value.oneCell']) #[.int .i64 id, .int .i64 view, .int .i64 h0, .int .i64 h1, .int .i64 h2, .int .i64 h3, .int .i64 l0, .int .i64 l1, .int .i64 l2, .int .i64 l3, .int .i64 a0, .int .i64 a1, .int .i64 a2, .int .i64 a3, .slice none 0 0, .slice none 0 0, .slice none 0 0, .slice none 0 0, .slice none 0 0, .slice none 0 0, .int .i64 0] rfl ?_; intro y3 hg hk; have HB3 : Hid (Below w.heap.size w y3) := HBa.out.grown hg HBa.out.size (fun y hy => by cases hy; omega); have HA3 : Hid (y3.heap[w.heap.size]? = Option.some (.cells #[.int .i64 id, .int .i64 view, .int .i64 h0, .int .i64 h1, .int .i64 h2, .int .i64 h3, .int .i64 l0, .int .i64 l1, .int .i64 l2, .int .i64 l3, .int .i64 a0, .int .i64 a1, .int .i64 a2, .int .i64 a3, .slice sar row.length scr, .slice sac cells.length scc, .slice sae early.length sce, .slice sau undos.length scu, .slice sav votes.length scv, .slice san news.length scn, .int .i64 shown] 113 (0, 0))) := (hg.block _ (Array.getElem?_eq_some_iff.1 HAa.out).1 (fun e => by have := Option.some.inj e; omega)).trans HAa.out; have HZ3 : Hid (y3.heap[w.heap.size + 1]? = Option.some (.cells #[.int .i64 0, .int .i64 0, .int .i64 0, .int .i64 0, .int .i64 0, .int .i64 0, .int .i64 0, .int .i64 0, .int .i64 0, .int .i64 0, .int .i64 0, .int .i64 0, .int .i64 0, .int .i64 0, .slice none 0 0, .slice none 0 0, .slice none 0 0, .slice none 0 0, .slice none 0 0, .slice none 0 0, .int .i64 0] 124 (0, 0))) := (hg.block _ (Array.getElem?_eq_some_iff.1 HZa.out).1 (fun e => by have := Option.some.inj e; omega)).trans HZa.out; have HO3 : Hid (y3.heap[w.heap.size + 1 + 1]? = Option.some (.cells #[.int .i64 id, .int .i64 view, .int .i64 h0, .int .i64 h1, .int .i64 h2, .int .i64 h3, .int .i64 l0, .int .i64 l1, .int .i64 l2, .int .i64 l3, .int .i64 a0, .int .i64 a1, .int .i64 a2, .int .i64 a3, .slice none 0 0, .slice none 0 0, .slice none 0 0, .slice none 0 0, .slice none 0 0, .slice none 0 0, .int .i64 0] 124 (0, 0))) := hk; have HL3 : Hid (w.heap.size + 1 + 1 < y3.heap.size) := Nat.lt_of_lt_of_le HLa.out.2 hg.size; have HM3 : Hid (y2.heap.size ≤ x3.heap.size ∧ x3.heap.size ≤ y3.heap.size) := ⟨HLa.out.1, hg.size⟩; clear hg hk HBa HAa HZa HOa HLa; have c14 := blk_cell HA3.out 14 (.slice sar row.length scr) rfl)
  clear c14
  refine (toInts_any row _ y3 (HR.out.row.below HB3.out) HS.out.row).mono ?_
  rintro e x4 ⟨tr, rfl, ho, hb⟩
  obtain ⟨tar, tcr, te, -⟩ := own_form ho
  subst te
  have HBa : Hid (Below w.heap.size w x4) := bt HB3.out hb
  have HAa : Hid (x4.heap[w.heap.size]? = some (.cells #[.int .i64 id, .int .i64 view, .int .i64 h0, .int .i64 h1, .int .i64 h2, .int .i64 h3, .int .i64 l0, .int .i64 l1, .int .i64 l2, .int .i64 l3, .int .i64 a0, .int .i64 a1, .int .i64 a2, .int .i64 a3, .slice sar row.length scr, .slice sac cells.length scc, .slice sae early.length sce, .slice sau undos.length scu, .slice sav votes.length scv, .slice san news.length scn, .int .i64 shown] 113 (0, 0))) := (hb.block _ (by have := HL3.out; omega)).trans HA3.out
  have HZa : Hid (x4.heap[w.heap.size + 1]? = some (.cells #[.int .i64 0, .int .i64 0, .int .i64 0, .int .i64 0, .int .i64 0, .int .i64 0, .int .i64 0, .int .i64 0, .int .i64 0, .int .i64 0, .int .i64 0, .int .i64 0, .int .i64 0, .int .i64 0, .slice none 0 0, .slice none 0 0, .slice none 0 0, .slice none 0 0, .slice none 0 0, .slice none 0 0, .int .i64 0] 124 (0, 0))) := (hb.block _ (by have := HL3.out; omega)).trans HZ3.out
  have HOa : Hid (x4.heap[w.heap.size + 1 + 1]? = some (.cells #[.int .i64 id, .int .i64 view, .int .i64 h0, .int .i64 h1, .int .i64 h2, .int .i64 h3, .int .i64 l0, .int .i64 l1, .int .i64 l2, .int .i64 l3, .int .i64 a0, .int .i64 a1, .int .i64 a2, .int .i64 a3, .slice none 0 0, .slice none 0 0, .slice none 0 0, .slice none 0 0, .slice none 0 0, .slice none 0 0, .int .i64 0] 124 (0, 0))) := (hb.block _ (by have := HL3.out; omega)).trans HO3.out
  have HLa : Hid (y3.heap.size ≤ x4.heap.size ∧ w.heap.size + 1 + 1 < x4.heap.size) := ⟨hb.size, Nat.lt_of_lt_of_le HL3.out hb.size⟩
  have HI0a : Hid (In y3.heap.size x4.heap.size x4 3 1 (.slice tar row.length tcr) row.length (flatR intF row)) := ⟨ho, fun g hg => (ho.lt g hg).2⟩
  clear ho
  clear hb HB3 HA3 HZ3 HO3
  go_wp2_with (refine wpList_store_cell rfl _ _ _ rfl (w.heap.size + 1 + 1) 14 (.slice tar row.length tcr) rfl rfl _ _ HOa.out (by kernel_rfl) (by simp) rfl #[.int .i64 id, .int .i64 view, .int .i64 h0, .int .i64 h1, .int .i64 h2, .int .i64 h3, .int .i64 l0, .int .i64 l1, .int .i64 l2, .int .i64 l3, .int .i64 a0, .int .i64 a1, .int .i64 a2, .int .i64 a3, .slice tar row.length tcr, .slice none 0 0, .slice none 0 0, .slice none 0 0, .slice none 0 0, .slice none 0 0, .int .i64 0] rfl ?_; intro y4 hg hk; have HB4 : Hid (Below w.heap.size w y4) := HBa.out.grown hg HBa.out.size (fun y hy => by cases hy; omega); have HA4 : Hid (y4.heap[w.heap.size]? = Option.some (.cells #[.int .i64 id, .int .i64 view, .int .i64 h0, .int .i64 h1, .int .i64 h2, .int .i64 h3, .int .i64 l0, .int .i64 l1, .int .i64 l2, .int .i64 l3, .int .i64 a0, .int .i64 a1, .int .i64 a2, .int .i64 a3, .slice sar row.length scr, .slice sac cells.length scc, .slice sae early.length sce, .slice sau undos.length scu, .slice sav votes.length scv, .slice san news.length scn, .int .i64 shown] 113 (0, 0))) := (hg.block _ (Array.getElem?_eq_some_iff.1 HAa.out).1 (fun e => by have := Option.some.inj e; omega)).trans HAa.out; have HZ4 : Hid (y4.heap[w.heap.size + 1]? = Option.some (.cells #[.int .i64 0, .int .i64 0, .int .i64 0, .int .i64 0, .int .i64 0, .int .i64 0, .int .i64 0, .int .i64 0, .int .i64 0, .int .i64 0, .int .i64 0, .int .i64 0, .int .i64 0, .int .i64 0, .slice none 0 0, .slice none 0 0, .slice none 0 0, .slice none 0 0, .slice none 0 0, .slice none 0 0, .int .i64 0] 124 (0, 0))) := (hg.block _ (Array.getElem?_eq_some_iff.1 HZa.out).1 (fun e => by have := Option.some.inj e; omega)).trans HZa.out; have HO4 : Hid (y4.heap[w.heap.size + 1 + 1]? = Option.some (.cells #[.int .i64 id, .int .i64 view, .int .i64 h0, .int .i64 h1, .int .i64 h2, .int .i64 h3, .int .i64 l0, .int .i64 l1, .int .i64 l2, .int .i64 l3, .int .i64 a0, .int .i64 a1, .int .i64 a2, .int .i64 a3, .slice tar row.length tcr, .slice none 0 0, .slice none 0 0, .slice none 0 0, .slice none 0 0, .slice none 0 0, .int .i64 0] 124 (0, 0))) := hk; have HL4 : Hid (w.heap.size + 1 + 1 < y4.heap.size) := Nat.lt_of_lt_of_le HLa.out.2 hg.size; have HM4 : Hid (y3.heap.size ≤ x4.heap.size ∧ x4.heap.size ≤ y4.heap.size) := ⟨HLa.out.1, hg.size⟩; have HI0 : Hid (In y3.heap.size x4.heap.size y4 3 1 (.slice tar row.length tcr) row.length (flatR intF row)) := HI0a.out.far hg (Or.inl (by have := HL3.out; omega)); clear hg hk HBa HAa HZa HOa HLa HI0a; have c15 := blk_cell HA4.out 15 (.slice sac cells.length scc) rfl)
  clear c15
  refine (toCells_any cells _ y4 (HR.out.cells.below HB4.out) HS.out.cells).mono ?_
  rintro e x5 ⟨tc, rfl, ho, hb⟩
  obtain ⟨tac, tcc, te, -⟩ := own_form ho
  subst te
  have HBa : Hid (Below w.heap.size w x5) := bt HB4.out hb
  have HAa : Hid (x5.heap[w.heap.size]? = some (.cells #[.int .i64 id, .int .i64 view, .int .i64 h0, .int .i64 h1, .int .i64 h2, .int .i64 h3, .int .i64 l0, .int .i64 l1, .int .i64 l2, .int .i64 l3, .int .i64 a0, .int .i64 a1, .int .i64 a2, .int .i64 a3, .slice sar row.length scr, .slice sac cells.length scc, .slice sae early.length sce, .slice sau undos.length scu, .slice sav votes.length scv, .slice san news.length scn, .int .i64 shown] 113 (0, 0))) := (hb.block _ (by have := HL4.out; omega)).trans HA4.out
  have HZa : Hid (x5.heap[w.heap.size + 1]? = some (.cells #[.int .i64 0, .int .i64 0, .int .i64 0, .int .i64 0, .int .i64 0, .int .i64 0, .int .i64 0, .int .i64 0, .int .i64 0, .int .i64 0, .int .i64 0, .int .i64 0, .int .i64 0, .int .i64 0, .slice none 0 0, .slice none 0 0, .slice none 0 0, .slice none 0 0, .slice none 0 0, .slice none 0 0, .int .i64 0] 124 (0, 0))) := (hb.block _ (by have := HL4.out; omega)).trans HZ4.out
  have HOa : Hid (x5.heap[w.heap.size + 1 + 1]? = some (.cells #[.int .i64 id, .int .i64 view, .int .i64 h0, .int .i64 h1, .int .i64 h2, .int .i64 h3, .int .i64 l0, .int .i64 l1, .int .i64 l2, .int .i64 l3, .int .i64 a0, .int .i64 a1, .int .i64 a2, .int .i64 a3, .slice tar row.length tcr, .slice none 0 0, .slice none 0 0, .slice none 0 0, .slice none 0 0, .slice none 0 0, .int .i64 0] 124 (0, 0))) := (hb.block _ (by have := HL4.out; omega)).trans HO4.out
  have HLa : Hid (y4.heap.size ≤ x5.heap.size ∧ w.heap.size + 1 + 1 < x5.heap.size) := ⟨hb.size, Nat.lt_of_lt_of_le HL4.out hb.size⟩
  have HI0a : Hid (In y3.heap.size x4.heap.size x5 3 1 (.slice tar row.length tcr) row.length (flatR intF row)) := HI0.out.below hb
  have HI1a : Hid (In y4.heap.size x5.heap.size x5 195 2 (.slice tac cells.length tcc) cells.length (flat cells)) := ⟨ho, fun g hg => (ho.lt g hg).2⟩
  clear ho
  clear hb HB4 HA4 HZ4 HO4
  clear HI0
  go_wp2_with (refine wpList_store_cell rfl _ _ _ rfl (w.heap.size + 1 + 1) 15 (.slice tac cells.length tcc) rfl rfl _ _ HOa.out (by kernel_rfl) (by simp) rfl #[.int .i64 id, .int .i64 view, .int .i64 h0, .int .i64 h1, .int .i64 h2, .int .i64 h3, .int .i64 l0, .int .i64 l1, .int .i64 l2, .int .i64 l3, .int .i64 a0, .int .i64 a1, .int .i64 a2, .int .i64 a3, .slice tar row.length tcr, .slice tac cells.length tcc, .slice none 0 0, .slice none 0 0, .slice none 0 0, .slice none 0 0, .int .i64 0] rfl ?_; intro y5 hg hk; have HB5 : Hid (Below w.heap.size w y5) := HBa.out.grown hg HBa.out.size (fun y hy => by cases hy; omega); have HA5 : Hid (y5.heap[w.heap.size]? = Option.some (.cells #[.int .i64 id, .int .i64 view, .int .i64 h0, .int .i64 h1, .int .i64 h2, .int .i64 h3, .int .i64 l0, .int .i64 l1, .int .i64 l2, .int .i64 l3, .int .i64 a0, .int .i64 a1, .int .i64 a2, .int .i64 a3, .slice sar row.length scr, .slice sac cells.length scc, .slice sae early.length sce, .slice sau undos.length scu, .slice sav votes.length scv, .slice san news.length scn, .int .i64 shown] 113 (0, 0))) := (hg.block _ (Array.getElem?_eq_some_iff.1 HAa.out).1 (fun e => by have := Option.some.inj e; omega)).trans HAa.out; have HZ5 : Hid (y5.heap[w.heap.size + 1]? = Option.some (.cells #[.int .i64 0, .int .i64 0, .int .i64 0, .int .i64 0, .int .i64 0, .int .i64 0, .int .i64 0, .int .i64 0, .int .i64 0, .int .i64 0, .int .i64 0, .int .i64 0, .int .i64 0, .int .i64 0, .slice none 0 0, .slice none 0 0, .slice none 0 0, .slice none 0 0, .slice none 0 0, .slice none 0 0, .int .i64 0] 124 (0, 0))) := (hg.block _ (Array.getElem?_eq_some_iff.1 HZa.out).1 (fun e => by have := Option.some.inj e; omega)).trans HZa.out; have HO5 : Hid (y5.heap[w.heap.size + 1 + 1]? = Option.some (.cells #[.int .i64 id, .int .i64 view, .int .i64 h0, .int .i64 h1, .int .i64 h2, .int .i64 h3, .int .i64 l0, .int .i64 l1, .int .i64 l2, .int .i64 l3, .int .i64 a0, .int .i64 a1, .int .i64 a2, .int .i64 a3, .slice tar row.length tcr, .slice tac cells.length tcc, .slice none 0 0, .slice none 0 0, .slice none 0 0, .slice none 0 0, .int .i64 0] 124 (0, 0))) := hk; have HL5 : Hid (w.heap.size + 1 + 1 < y5.heap.size) := Nat.lt_of_lt_of_le HLa.out.2 hg.size; have HM5 : Hid (y4.heap.size ≤ x5.heap.size ∧ x5.heap.size ≤ y5.heap.size) := ⟨HLa.out.1, hg.size⟩; have HI0 : Hid (In y3.heap.size x4.heap.size y5 3 1 (.slice tar row.length tcr) row.length (flatR intF row)) := HI0a.out.far hg (Or.inl (by have := HL3.out; omega)); have HI1 : Hid (In y4.heap.size x5.heap.size y5 195 2 (.slice tac cells.length tcc) cells.length (flat cells)) := HI1a.out.far hg (Or.inl (by have := HL4.out; omega)); clear hg hk HBa HAa HZa HOa HLa HI0a HI1a; have c16 := blk_cell HA5.out 16 (.slice sae early.length sce) rfl)
  clear c16
  refine (toInts_any early _ y5 (HR.out.early.below HB5.out) HS.out.early).mono ?_
  rintro e x6 ⟨te, rfl, ho, hb⟩
  obtain ⟨tae, tce, te, -⟩ := own_form ho
  subst te
  have HBa : Hid (Below w.heap.size w x6) := bt HB5.out hb
  have HAa : Hid (x6.heap[w.heap.size]? = some (.cells #[.int .i64 id, .int .i64 view, .int .i64 h0, .int .i64 h1, .int .i64 h2, .int .i64 h3, .int .i64 l0, .int .i64 l1, .int .i64 l2, .int .i64 l3, .int .i64 a0, .int .i64 a1, .int .i64 a2, .int .i64 a3, .slice sar row.length scr, .slice sac cells.length scc, .slice sae early.length sce, .slice sau undos.length scu, .slice sav votes.length scv, .slice san news.length scn, .int .i64 shown] 113 (0, 0))) := (hb.block _ (by have := HL5.out; omega)).trans HA5.out
  have HZa : Hid (x6.heap[w.heap.size + 1]? = some (.cells #[.int .i64 0, .int .i64 0, .int .i64 0, .int .i64 0, .int .i64 0, .int .i64 0, .int .i64 0, .int .i64 0, .int .i64 0, .int .i64 0, .int .i64 0, .int .i64 0, .int .i64 0, .int .i64 0, .slice none 0 0, .slice none 0 0, .slice none 0 0, .slice none 0 0, .slice none 0 0, .slice none 0 0, .int .i64 0] 124 (0, 0))) := (hb.block _ (by have := HL5.out; omega)).trans HZ5.out
  have HOa : Hid (x6.heap[w.heap.size + 1 + 1]? = some (.cells #[.int .i64 id, .int .i64 view, .int .i64 h0, .int .i64 h1, .int .i64 h2, .int .i64 h3, .int .i64 l0, .int .i64 l1, .int .i64 l2, .int .i64 l3, .int .i64 a0, .int .i64 a1, .int .i64 a2, .int .i64 a3, .slice tar row.length tcr, .slice tac cells.length tcc, .slice none 0 0, .slice none 0 0, .slice none 0 0, .slice none 0 0, .int .i64 0] 124 (0, 0))) := (hb.block _ (by have := HL5.out; omega)).trans HO5.out
  have HLa : Hid (y5.heap.size ≤ x6.heap.size ∧ w.heap.size + 1 + 1 < x6.heap.size) := ⟨hb.size, Nat.lt_of_lt_of_le HL5.out hb.size⟩
  have HI0a : Hid (In y3.heap.size x4.heap.size x6 3 1 (.slice tar row.length tcr) row.length (flatR intF row)) := HI0.out.below hb
  have HI1a : Hid (In y4.heap.size x5.heap.size x6 195 2 (.slice tac cells.length tcc) cells.length (flat cells)) := HI1.out.below hb
  have HI2a : Hid (In y5.heap.size x6.heap.size x6 3 1 (.slice tae early.length tce) early.length (flatR intF early)) := ⟨ho, fun g hg => (ho.lt g hg).2⟩
  clear ho
  clear hb HB5 HA5 HZ5 HO5
  clear HI0 HI1
  go_wp2_with (refine wpList_store_cell rfl _ _ _ rfl (w.heap.size + 1 + 1) 16 (.slice tae early.length tce) rfl rfl _ _ HOa.out (by kernel_rfl) (by simp) rfl #[.int .i64 id, .int .i64 view, .int .i64 h0, .int .i64 h1, .int .i64 h2, .int .i64 h3, .int .i64 l0, .int .i64 l1, .int .i64 l2, .int .i64 l3, .int .i64 a0, .int .i64 a1, .int .i64 a2, .int .i64 a3, .slice tar row.length tcr, .slice tac cells.length tcc, .slice tae early.length tce, .slice none 0 0, .slice none 0 0, .slice none 0 0, .int .i64 0] rfl ?_; intro y6 hg hk; have HB6 : Hid (Below w.heap.size w y6) := HBa.out.grown hg HBa.out.size (fun y hy => by cases hy; omega); have HA6 : Hid (y6.heap[w.heap.size]? = Option.some (.cells #[.int .i64 id, .int .i64 view, .int .i64 h0, .int .i64 h1, .int .i64 h2, .int .i64 h3, .int .i64 l0, .int .i64 l1, .int .i64 l2, .int .i64 l3, .int .i64 a0, .int .i64 a1, .int .i64 a2, .int .i64 a3, .slice sar row.length scr, .slice sac cells.length scc, .slice sae early.length sce, .slice sau undos.length scu, .slice sav votes.length scv, .slice san news.length scn, .int .i64 shown] 113 (0, 0))) := (hg.block _ (Array.getElem?_eq_some_iff.1 HAa.out).1 (fun e => by have := Option.some.inj e; omega)).trans HAa.out; have HZ6 : Hid (y6.heap[w.heap.size + 1]? = Option.some (.cells #[.int .i64 0, .int .i64 0, .int .i64 0, .int .i64 0, .int .i64 0, .int .i64 0, .int .i64 0, .int .i64 0, .int .i64 0, .int .i64 0, .int .i64 0, .int .i64 0, .int .i64 0, .int .i64 0, .slice none 0 0, .slice none 0 0, .slice none 0 0, .slice none 0 0, .slice none 0 0, .slice none 0 0, .int .i64 0] 124 (0, 0))) := (hg.block _ (Array.getElem?_eq_some_iff.1 HZa.out).1 (fun e => by have := Option.some.inj e; omega)).trans HZa.out; have HO6 : Hid (y6.heap[w.heap.size + 1 + 1]? = Option.some (.cells #[.int .i64 id, .int .i64 view, .int .i64 h0, .int .i64 h1, .int .i64 h2, .int .i64 h3, .int .i64 l0, .int .i64 l1, .int .i64 l2, .int .i64 l3, .int .i64 a0, .int .i64 a1, .int .i64 a2, .int .i64 a3, .slice tar row.length tcr, .slice tac cells.length tcc, .slice tae early.length tce, .slice none 0 0, .slice none 0 0, .slice none 0 0, .int .i64 0] 124 (0, 0))) := hk; have HL6 : Hid (w.heap.size + 1 + 1 < y6.heap.size) := Nat.lt_of_lt_of_le HLa.out.2 hg.size; have HM6 : Hid (y5.heap.size ≤ x6.heap.size ∧ x6.heap.size ≤ y6.heap.size) := ⟨HLa.out.1, hg.size⟩; have HI0 : Hid (In y3.heap.size x4.heap.size y6 3 1 (.slice tar row.length tcr) row.length (flatR intF row)) := HI0a.out.far hg (Or.inl (by have := HL3.out; omega)); have HI1 : Hid (In y4.heap.size x5.heap.size y6 195 2 (.slice tac cells.length tcc) cells.length (flat cells)) := HI1a.out.far hg (Or.inl (by have := HL4.out; omega)); have HI2 : Hid (In y5.heap.size x6.heap.size y6 3 1 (.slice tae early.length tce) early.length (flatR intF early)) := HI2a.out.far hg (Or.inl (by have := HL5.out; omega)); clear hg hk HBa HAa HZa HOa HLa HI0a HI1a HI2a; have c17 := blk_cell HA6.out 17 (.slice sau undos.length scu) rfl)
  clear c17
  refine (toUndos_any undos _ y6 (HR.out.undos.below HB6.out) HS.out.undos).mono ?_
  rintro e x7 ⟨tu, rfl, ho, hb⟩
  obtain ⟨tau, tcu, te, -⟩ := own_form ho
  subst te
  have HBa : Hid (Below w.heap.size w x7) := bt HB6.out hb
  have HAa : Hid (x7.heap[w.heap.size]? = some (.cells #[.int .i64 id, .int .i64 view, .int .i64 h0, .int .i64 h1, .int .i64 h2, .int .i64 h3, .int .i64 l0, .int .i64 l1, .int .i64 l2, .int .i64 l3, .int .i64 a0, .int .i64 a1, .int .i64 a2, .int .i64 a3, .slice sar row.length scr, .slice sac cells.length scc, .slice sae early.length sce, .slice sau undos.length scu, .slice sav votes.length scv, .slice san news.length scn, .int .i64 shown] 113 (0, 0))) := (hb.block _ (by have := HL6.out; omega)).trans HA6.out
  have HZa : Hid (x7.heap[w.heap.size + 1]? = some (.cells #[.int .i64 0, .int .i64 0, .int .i64 0, .int .i64 0, .int .i64 0, .int .i64 0, .int .i64 0, .int .i64 0, .int .i64 0, .int .i64 0, .int .i64 0, .int .i64 0, .int .i64 0, .int .i64 0, .slice none 0 0, .slice none 0 0, .slice none 0 0, .slice none 0 0, .slice none 0 0, .slice none 0 0, .int .i64 0] 124 (0, 0))) := (hb.block _ (by have := HL6.out; omega)).trans HZ6.out
  have HOa : Hid (x7.heap[w.heap.size + 1 + 1]? = some (.cells #[.int .i64 id, .int .i64 view, .int .i64 h0, .int .i64 h1, .int .i64 h2, .int .i64 h3, .int .i64 l0, .int .i64 l1, .int .i64 l2, .int .i64 l3, .int .i64 a0, .int .i64 a1, .int .i64 a2, .int .i64 a3, .slice tar row.length tcr, .slice tac cells.length tcc, .slice tae early.length tce, .slice none 0 0, .slice none 0 0, .slice none 0 0, .int .i64 0] 124 (0, 0))) := (hb.block _ (by have := HL6.out; omega)).trans HO6.out
  have HLa : Hid (y6.heap.size ≤ x7.heap.size ∧ w.heap.size + 1 + 1 < x7.heap.size) := ⟨hb.size, Nat.lt_of_lt_of_le HL6.out hb.size⟩
  have HI0a : Hid (In y3.heap.size x4.heap.size x7 3 1 (.slice tar row.length tcr) row.length (flatR intF row)) := HI0.out.below hb
  have HI1a : Hid (In y4.heap.size x5.heap.size x7 195 2 (.slice tac cells.length tcc) cells.length (flat cells)) := HI1.out.below hb
  have HI2a : Hid (In y5.heap.size x6.heap.size x7 3 1 (.slice tae early.length tce) early.length (flatR intF early)) := HI2.out.below hb
  have HI3a : Hid (In y6.heap.size x7.heap.size x7 197 3 (.slice tau undos.length tcu) undos.length (flatR undoF undos)) := ⟨ho, fun g hg => (ho.lt g hg).2⟩
  clear ho
  clear hb HB6 HA6 HZ6 HO6
  clear HI0 HI1 HI2
  go_wp2_with (refine wpList_store_cell rfl _ _ _ rfl (w.heap.size + 1 + 1) 17 (.slice tau undos.length tcu) rfl rfl _ _ HOa.out (by kernel_rfl) (by simp) rfl #[.int .i64 id, .int .i64 view, .int .i64 h0, .int .i64 h1, .int .i64 h2, .int .i64 h3, .int .i64 l0, .int .i64 l1, .int .i64 l2, .int .i64 l3, .int .i64 a0, .int .i64 a1, .int .i64 a2, .int .i64 a3, .slice tar row.length tcr, .slice tac cells.length tcc, .slice tae early.length tce, .slice tau undos.length tcu, .slice none 0 0, .slice none 0 0, .int .i64 0] rfl ?_; intro y7 hg hk; have HB7 : Hid (Below w.heap.size w y7) := HBa.out.grown hg HBa.out.size (fun y hy => by cases hy; omega); have HA7 : Hid (y7.heap[w.heap.size]? = Option.some (.cells #[.int .i64 id, .int .i64 view, .int .i64 h0, .int .i64 h1, .int .i64 h2, .int .i64 h3, .int .i64 l0, .int .i64 l1, .int .i64 l2, .int .i64 l3, .int .i64 a0, .int .i64 a1, .int .i64 a2, .int .i64 a3, .slice sar row.length scr, .slice sac cells.length scc, .slice sae early.length sce, .slice sau undos.length scu, .slice sav votes.length scv, .slice san news.length scn, .int .i64 shown] 113 (0, 0))) := (hg.block _ (Array.getElem?_eq_some_iff.1 HAa.out).1 (fun e => by have := Option.some.inj e; omega)).trans HAa.out; have HZ7 : Hid (y7.heap[w.heap.size + 1]? = Option.some (.cells #[.int .i64 0, .int .i64 0, .int .i64 0, .int .i64 0, .int .i64 0, .int .i64 0, .int .i64 0, .int .i64 0, .int .i64 0, .int .i64 0, .int .i64 0, .int .i64 0, .int .i64 0, .int .i64 0, .slice none 0 0, .slice none 0 0, .slice none 0 0, .slice none 0 0, .slice none 0 0, .slice none 0 0, .int .i64 0] 124 (0, 0))) := (hg.block _ (Array.getElem?_eq_some_iff.1 HZa.out).1 (fun e => by have := Option.some.inj e; omega)).trans HZa.out; have HO7 : Hid (y7.heap[w.heap.size + 1 + 1]? = Option.some (.cells #[.int .i64 id, .int .i64 view, .int .i64 h0, .int .i64 h1, .int .i64 h2, .int .i64 h3, .int .i64 l0, .int .i64 l1, .int .i64 l2, .int .i64 l3, .int .i64 a0, .int .i64 a1, .int .i64 a2, .int .i64 a3, .slice tar row.length tcr, .slice tac cells.length tcc, .slice tae early.length tce, .slice tau undos.length tcu, .slice none 0 0, .slice none 0 0, .int .i64 0] 124 (0, 0))) := hk; have HL7 : Hid (w.heap.size + 1 + 1 < y7.heap.size) := Nat.lt_of_lt_of_le HLa.out.2 hg.size; have HM7 : Hid (y6.heap.size ≤ x7.heap.size ∧ x7.heap.size ≤ y7.heap.size) := ⟨HLa.out.1, hg.size⟩; have HI0 : Hid (In y3.heap.size x4.heap.size y7 3 1 (.slice tar row.length tcr) row.length (flatR intF row)) := HI0a.out.far hg (Or.inl (by have := HL3.out; omega)); have HI1 : Hid (In y4.heap.size x5.heap.size y7 195 2 (.slice tac cells.length tcc) cells.length (flat cells)) := HI1a.out.far hg (Or.inl (by have := HL4.out; omega)); have HI2 : Hid (In y5.heap.size x6.heap.size y7 3 1 (.slice tae early.length tce) early.length (flatR intF early)) := HI2a.out.far hg (Or.inl (by have := HL5.out; omega)); have HI3 : Hid (In y6.heap.size x7.heap.size y7 197 3 (.slice tau undos.length tcu) undos.length (flatR undoF undos)) := HI3a.out.far hg (Or.inl (by have := HL6.out; omega)); clear hg hk HBa HAa HZa HOa HLa HI0a HI1a HI2a HI3a; have c18 := blk_cell HA7.out 18 (.slice sav votes.length scv) rfl)
  clear c18
  refine (toVotes_any votes _ y7 (HR.out.votes.below HB7.out) HS.out.votes).mono ?_
  rintro e x8 ⟨tv, rfl, ho, hb⟩
  obtain ⟨tav, tcv, te, -⟩ := own_form ho
  subst te
  have HBa : Hid (Below w.heap.size w x8) := bt HB7.out hb
  have HAa : Hid (x8.heap[w.heap.size]? = some (.cells #[.int .i64 id, .int .i64 view, .int .i64 h0, .int .i64 h1, .int .i64 h2, .int .i64 h3, .int .i64 l0, .int .i64 l1, .int .i64 l2, .int .i64 l3, .int .i64 a0, .int .i64 a1, .int .i64 a2, .int .i64 a3, .slice sar row.length scr, .slice sac cells.length scc, .slice sae early.length sce, .slice sau undos.length scu, .slice sav votes.length scv, .slice san news.length scn, .int .i64 shown] 113 (0, 0))) := (hb.block _ (by have := HL7.out; omega)).trans HA7.out
  have HZa : Hid (x8.heap[w.heap.size + 1]? = some (.cells #[.int .i64 0, .int .i64 0, .int .i64 0, .int .i64 0, .int .i64 0, .int .i64 0, .int .i64 0, .int .i64 0, .int .i64 0, .int .i64 0, .int .i64 0, .int .i64 0, .int .i64 0, .int .i64 0, .slice none 0 0, .slice none 0 0, .slice none 0 0, .slice none 0 0, .slice none 0 0, .slice none 0 0, .int .i64 0] 124 (0, 0))) := (hb.block _ (by have := HL7.out; omega)).trans HZ7.out
  have HOa : Hid (x8.heap[w.heap.size + 1 + 1]? = some (.cells #[.int .i64 id, .int .i64 view, .int .i64 h0, .int .i64 h1, .int .i64 h2, .int .i64 h3, .int .i64 l0, .int .i64 l1, .int .i64 l2, .int .i64 l3, .int .i64 a0, .int .i64 a1, .int .i64 a2, .int .i64 a3, .slice tar row.length tcr, .slice tac cells.length tcc, .slice tae early.length tce, .slice tau undos.length tcu, .slice none 0 0, .slice none 0 0, .int .i64 0] 124 (0, 0))) := (hb.block _ (by have := HL7.out; omega)).trans HO7.out
  have HLa : Hid (y7.heap.size ≤ x8.heap.size ∧ w.heap.size + 1 + 1 < x8.heap.size) := ⟨hb.size, Nat.lt_of_lt_of_le HL7.out hb.size⟩
  have HI0a : Hid (In y3.heap.size x4.heap.size x8 3 1 (.slice tar row.length tcr) row.length (flatR intF row)) := HI0.out.below hb
  have HI1a : Hid (In y4.heap.size x5.heap.size x8 195 2 (.slice tac cells.length tcc) cells.length (flat cells)) := HI1.out.below hb
  have HI2a : Hid (In y5.heap.size x6.heap.size x8 3 1 (.slice tae early.length tce) early.length (flatR intF early)) := HI2.out.below hb
  have HI3a : Hid (In y6.heap.size x7.heap.size x8 197 3 (.slice tau undos.length tcu) undos.length (flatR undoF undos)) := HI3.out.below hb
  have HI4a : Hid (In y7.heap.size x8.heap.size x8 46 4 (.slice tav votes.length tcv) votes.length (flatR voteF votes)) := ⟨ho, fun g hg => (ho.lt g hg).2⟩
  clear ho
  clear hb HB7 HA7 HZ7 HO7
  clear HI0 HI1 HI2 HI3
  go_wp2_with (refine wpList_store_cell rfl _ _ _ rfl (w.heap.size + 1 + 1) 18 (.slice tav votes.length tcv) rfl rfl _ _ HOa.out (by kernel_rfl) (by simp) rfl #[.int .i64 id, .int .i64 view, .int .i64 h0, .int .i64 h1, .int .i64 h2, .int .i64 h3, .int .i64 l0, .int .i64 l1, .int .i64 l2, .int .i64 l3, .int .i64 a0, .int .i64 a1, .int .i64 a2, .int .i64 a3, .slice tar row.length tcr, .slice tac cells.length tcc, .slice tae early.length tce, .slice tau undos.length tcu, .slice tav votes.length tcv, .slice none 0 0, .int .i64 0] rfl ?_; intro y8 hg hk; have HB8 : Hid (Below w.heap.size w y8) := HBa.out.grown hg HBa.out.size (fun y hy => by cases hy; omega); have HA8 : Hid (y8.heap[w.heap.size]? = Option.some (.cells #[.int .i64 id, .int .i64 view, .int .i64 h0, .int .i64 h1, .int .i64 h2, .int .i64 h3, .int .i64 l0, .int .i64 l1, .int .i64 l2, .int .i64 l3, .int .i64 a0, .int .i64 a1, .int .i64 a2, .int .i64 a3, .slice sar row.length scr, .slice sac cells.length scc, .slice sae early.length sce, .slice sau undos.length scu, .slice sav votes.length scv, .slice san news.length scn, .int .i64 shown] 113 (0, 0))) := (hg.block _ (Array.getElem?_eq_some_iff.1 HAa.out).1 (fun e => by have := Option.some.inj e; omega)).trans HAa.out; have HZ8 : Hid (y8.heap[w.heap.size + 1]? = Option.some (.cells #[.int .i64 0, .int .i64 0, .int .i64 0, .int .i64 0, .int .i64 0, .int .i64 0, .int .i64 0, .int .i64 0, .int .i64 0, .int .i64 0, .int .i64 0, .int .i64 0, .int .i64 0, .int .i64 0, .slice none 0 0, .slice none 0 0, .slice none 0 0, .slice none 0 0, .slice none 0 0, .slice none 0 0, .int .i64 0] 124 (0, 0))) := (hg.block _ (Array.getElem?_eq_some_iff.1 HZa.out).1 (fun e => by have := Option.some.inj e; omega)).trans HZa.out; have HO8 : Hid (y8.heap[w.heap.size + 1 + 1]? = Option.some (.cells #[.int .i64 id, .int .i64 view, .int .i64 h0, .int .i64 h1, .int .i64 h2, .int .i64 h3, .int .i64 l0, .int .i64 l1, .int .i64 l2, .int .i64 l3, .int .i64 a0, .int .i64 a1, .int .i64 a2, .int .i64 a3, .slice tar row.length tcr, .slice tac cells.length tcc, .slice tae early.length tce, .slice tau undos.length tcu, .slice tav votes.length tcv, .slice none 0 0, .int .i64 0] 124 (0, 0))) := hk; have HL8 : Hid (w.heap.size + 1 + 1 < y8.heap.size) := Nat.lt_of_lt_of_le HLa.out.2 hg.size; have HM8 : Hid (y7.heap.size ≤ x8.heap.size ∧ x8.heap.size ≤ y8.heap.size) := ⟨HLa.out.1, hg.size⟩; have HI0 : Hid (In y3.heap.size x4.heap.size y8 3 1 (.slice tar row.length tcr) row.length (flatR intF row)) := HI0a.out.far hg (Or.inl (by have := HL3.out; omega)); have HI1 : Hid (In y4.heap.size x5.heap.size y8 195 2 (.slice tac cells.length tcc) cells.length (flat cells)) := HI1a.out.far hg (Or.inl (by have := HL4.out; omega)); have HI2 : Hid (In y5.heap.size x6.heap.size y8 3 1 (.slice tae early.length tce) early.length (flatR intF early)) := HI2a.out.far hg (Or.inl (by have := HL5.out; omega)); have HI3 : Hid (In y6.heap.size x7.heap.size y8 197 3 (.slice tau undos.length tcu) undos.length (flatR undoF undos)) := HI3a.out.far hg (Or.inl (by have := HL6.out; omega)); have HI4 : Hid (In y7.heap.size x8.heap.size y8 46 4 (.slice tav votes.length tcv) votes.length (flatR voteF votes)) := HI4a.out.far hg (Or.inl (by have := HL7.out; omega)); clear hg hk HBa HAa HZa HOa HLa HI0a HI1a HI2a HI3a HI4a; have c19 := blk_cell HA8.out 19 (.slice san news.length scn) rfl)
  clear c19
  refine (toLetters_any news _ y8 (HR.out.news.below HB8.out) HS.out.news).mono ?_
  rintro e x9 ⟨tn, rfl, ho, hb⟩
  obtain ⟨tan, tcn, te, -⟩ := own_form ho
  subst te
  have HBa : Hid (Below w.heap.size w x9) := bt HB8.out hb
  have HAa : Hid (x9.heap[w.heap.size]? = some (.cells #[.int .i64 id, .int .i64 view, .int .i64 h0, .int .i64 h1, .int .i64 h2, .int .i64 h3, .int .i64 l0, .int .i64 l1, .int .i64 l2, .int .i64 l3, .int .i64 a0, .int .i64 a1, .int .i64 a2, .int .i64 a3, .slice sar row.length scr, .slice sac cells.length scc, .slice sae early.length sce, .slice sau undos.length scu, .slice sav votes.length scv, .slice san news.length scn, .int .i64 shown] 113 (0, 0))) := (hb.block _ (by have := HL8.out; omega)).trans HA8.out
  have HZa : Hid (x9.heap[w.heap.size + 1]? = some (.cells #[.int .i64 0, .int .i64 0, .int .i64 0, .int .i64 0, .int .i64 0, .int .i64 0, .int .i64 0, .int .i64 0, .int .i64 0, .int .i64 0, .int .i64 0, .int .i64 0, .int .i64 0, .int .i64 0, .slice none 0 0, .slice none 0 0, .slice none 0 0, .slice none 0 0, .slice none 0 0, .slice none 0 0, .int .i64 0] 124 (0, 0))) := (hb.block _ (by have := HL8.out; omega)).trans HZ8.out
  have HOa : Hid (x9.heap[w.heap.size + 1 + 1]? = some (.cells #[.int .i64 id, .int .i64 view, .int .i64 h0, .int .i64 h1, .int .i64 h2, .int .i64 h3, .int .i64 l0, .int .i64 l1, .int .i64 l2, .int .i64 l3, .int .i64 a0, .int .i64 a1, .int .i64 a2, .int .i64 a3, .slice tar row.length tcr, .slice tac cells.length tcc, .slice tae early.length tce, .slice tau undos.length tcu, .slice tav votes.length tcv, .slice none 0 0, .int .i64 0] 124 (0, 0))) := (hb.block _ (by have := HL8.out; omega)).trans HO8.out
  have HLa : Hid (y8.heap.size ≤ x9.heap.size ∧ w.heap.size + 1 + 1 < x9.heap.size) := ⟨hb.size, Nat.lt_of_lt_of_le HL8.out hb.size⟩
  have HI0a : Hid (In y3.heap.size x4.heap.size x9 3 1 (.slice tar row.length tcr) row.length (flatR intF row)) := HI0.out.below hb
  have HI1a : Hid (In y4.heap.size x5.heap.size x9 195 2 (.slice tac cells.length tcc) cells.length (flat cells)) := HI1.out.below hb
  have HI2a : Hid (In y5.heap.size x6.heap.size x9 3 1 (.slice tae early.length tce) early.length (flatR intF early)) := HI2.out.below hb
  have HI3a : Hid (In y6.heap.size x7.heap.size x9 197 3 (.slice tau undos.length tcu) undos.length (flatR undoF undos)) := HI3.out.below hb
  have HI4a : Hid (In y7.heap.size x8.heap.size x9 46 4 (.slice tav votes.length tcv) votes.length (flatR voteF votes)) := HI4.out.below hb
  have HI5a : Hid (In y8.heap.size x9.heap.size x9 48 13 (.slice tan news.length tcn) news.length (flatR letF news)) := ⟨ho, fun g hg => (ho.lt g hg).2⟩
  clear ho
  clear hb HB8 HA8 HZ8 HO8
  clear HI0 HI1 HI2 HI3 HI4
  go_wp2_with (first
    | (refine wpList_store_cell rfl _ _ _ rfl (w.heap.size + 1 + 1) 19 (.slice tan news.length tcn) rfl rfl _ _ HOa.out (by kernel_rfl) (by simp) rfl #[.int .i64 id, .int .i64 view, .int .i64 h0, .int .i64 h1, .int .i64 h2, .int .i64 h3, .int .i64 l0, .int .i64 l1, .int .i64 l2, .int .i64 l3, .int .i64 a0, .int .i64 a1, .int .i64 a2, .int .i64 a3, .slice tar row.length tcr, .slice tac cells.length tcc, .slice tae early.length tce, .slice tau undos.length tcu, .slice tav votes.length tcv, .slice tan news.length tcn, .int .i64 0] rfl ?_; intro y9 hg hk; have HB9 : Hid (Below w.heap.size w y9) := HBa.out.grown hg HBa.out.size (fun y hy => by cases hy; omega); have HA9 : Hid (y9.heap[w.heap.size]? = Option.some (.cells #[.int .i64 id, .int .i64 view, .int .i64 h0, .int .i64 h1, .int .i64 h2, .int .i64 h3, .int .i64 l0, .int .i64 l1, .int .i64 l2, .int .i64 l3, .int .i64 a0, .int .i64 a1, .int .i64 a2, .int .i64 a3, .slice sar row.length scr, .slice sac cells.length scc, .slice sae early.length sce, .slice sau undos.length scu, .slice sav votes.length scv, .slice san news.length scn, .int .i64 shown] 113 (0, 0))) := (hg.block _ (Array.getElem?_eq_some_iff.1 HAa.out).1 (fun e => by have := Option.some.inj e; omega)).trans HAa.out; have HZ9 : Hid (y9.heap[w.heap.size + 1]? = Option.some (.cells #[.int .i64 0, .int .i64 0, .int .i64 0, .int .i64 0, .int .i64 0, .int .i64 0, .int .i64 0, .int .i64 0, .int .i64 0, .int .i64 0, .int .i64 0, .int .i64 0, .int .i64 0, .int .i64 0, .slice none 0 0, .slice none 0 0, .slice none 0 0, .slice none 0 0, .slice none 0 0, .slice none 0 0, .int .i64 0] 124 (0, 0))) := (hg.block _ (Array.getElem?_eq_some_iff.1 HZa.out).1 (fun e => by have := Option.some.inj e; omega)).trans HZa.out; have HO9 : Hid (y9.heap[w.heap.size + 1 + 1]? = Option.some (.cells #[.int .i64 id, .int .i64 view, .int .i64 h0, .int .i64 h1, .int .i64 h2, .int .i64 h3, .int .i64 l0, .int .i64 l1, .int .i64 l2, .int .i64 l3, .int .i64 a0, .int .i64 a1, .int .i64 a2, .int .i64 a3, .slice tar row.length tcr, .slice tac cells.length tcc, .slice tae early.length tce, .slice tau undos.length tcu, .slice tav votes.length tcv, .slice tan news.length tcn, .int .i64 0] 124 (0, 0))) := hk; have HL9 : Hid (w.heap.size + 1 + 1 < y9.heap.size) := Nat.lt_of_lt_of_le HLa.out.2 hg.size; have HM9 : Hid (y8.heap.size ≤ x9.heap.size ∧ x9.heap.size ≤ y9.heap.size) := ⟨HLa.out.1, hg.size⟩; have HI0 : Hid (In y3.heap.size x4.heap.size y9 3 1 (.slice tar row.length tcr) row.length (flatR intF row)) := HI0a.out.far hg (Or.inl (by have := HL3.out; omega)); have HI1 : Hid (In y4.heap.size x5.heap.size y9 195 2 (.slice tac cells.length tcc) cells.length (flat cells)) := HI1a.out.far hg (Or.inl (by have := HL4.out; omega)); have HI2 : Hid (In y5.heap.size x6.heap.size y9 3 1 (.slice tae early.length tce) early.length (flatR intF early)) := HI2a.out.far hg (Or.inl (by have := HL5.out; omega)); have HI3 : Hid (In y6.heap.size x7.heap.size y9 197 3 (.slice tau undos.length tcu) undos.length (flatR undoF undos)) := HI3a.out.far hg (Or.inl (by have := HL6.out; omega)); have HI4 : Hid (In y7.heap.size x8.heap.size y9 46 4 (.slice tav votes.length tcv) votes.length (flatR voteF votes)) := HI4a.out.far hg (Or.inl (by have := HL7.out; omega)); have HI5 : Hid (In y8.heap.size x9.heap.size y9 48 13 (.slice tan news.length tcn) news.length (flatR letF news)) := HI5a.out.far hg (Or.inl (by have := HL8.out; omega)); clear hg hk HBa HAa HZa HOa HLa HI0a HI1a HI2a HI3a HI4a HI5a; have c20 := blk_cell HA9.out 20 (.int .i64 shown) rfl)
    | (refine wpList_store_cell rfl _ _ _ rfl (w.heap.size + 1 + 1) 20 (.int .i64 shown) rfl rfl _ _ HO9.out (by kernel_rfl) (by simp) rfl #[.int .i64 id, .int .i64 view, .int .i64 h0, .int .i64 h1, .int .i64 h2, .int .i64 h3, .int .i64 l0, .int .i64 l1, .int .i64 l2, .int .i64 l3, .int .i64 a0, .int .i64 a1, .int .i64 a2, .int .i64 a3, .slice tar row.length tcr, .slice tac cells.length tcc, .slice tae early.length tce, .slice tau undos.length tcu, .slice tav votes.length tcv, .slice tan news.length tcn, .int .i64 shown] rfl ?_; intro z1 hg hk; have HBz : Hid (Below w.heap.size w z1) := HB9.out.grown hg HB9.out.size (fun y hy => by cases hy; omega); have HZz : Hid (z1.heap[w.heap.size + 1]? = Option.some (.cells #[.int .i64 0, .int .i64 0, .int .i64 0, .int .i64 0, .int .i64 0, .int .i64 0, .int .i64 0, .int .i64 0, .int .i64 0, .int .i64 0, .int .i64 0, .int .i64 0, .int .i64 0, .int .i64 0, .slice none 0 0, .slice none 0 0, .slice none 0 0, .slice none 0 0, .slice none 0 0, .slice none 0 0, .int .i64 0] 124 (0, 0))) := (hg.block _ (Array.getElem?_eq_some_iff.1 HZ9.out).1 (fun e => by have := Option.some.inj e; omega)).trans HZ9.out; have HMz : Hid (y9.heap.size ≤ z1.heap.size) := hg.size; have HI0z : Hid (In y3.heap.size x4.heap.size z1 3 1 (.slice tar row.length tcr) row.length (flatR intF row)) := HI0.out.far hg (Or.inl (by have := HL3.out; omega)); have HI1z : Hid (In y4.heap.size x5.heap.size z1 195 2 (.slice tac cells.length tcc) cells.length (flat cells)) := HI1.out.far hg (Or.inl (by have := HL4.out; omega)); have HI2z : Hid (In y5.heap.size x6.heap.size z1 3 1 (.slice tae early.length tce) early.length (flatR intF early)) := HI2.out.far hg (Or.inl (by have := HL5.out; omega)); have HI3z : Hid (In y6.heap.size x7.heap.size z1 197 3 (.slice tau undos.length tcu) undos.length (flatR undoF undos)) := HI3.out.far hg (Or.inl (by have := HL6.out; omega)); have HI4z : Hid (In y7.heap.size x8.heap.size z1 46 4 (.slice tav votes.length tcv) votes.length (flatR voteF votes)) := HI4.out.far hg (Or.inl (by have := HL7.out; omega)); have HI5z : Hid (In y8.heap.size x9.heap.size z1 48 13 (.slice tan news.length tcn) news.length (flatR letF news)) := HI5.out.far hg (Or.inl (by have := HL8.out; omega)); have HKz : Hid (z1.heap[w.heap.size + 1 + 1]? = Option.some (.cells #[.int .i64 id, .int .i64 view, .int .i64 h0, .int .i64 h1, .int .i64 h2, .int .i64 h3, .int .i64 l0, .int .i64 l1, .int .i64 l2, .int .i64 l3, .int .i64 a0, .int .i64 a1, .int .i64 a2, .int .i64 a3, .slice tar row.length tcr, .slice tac cells.length tcc, .slice tae early.length tce, .slice tau undos.length tcu, .slice tav votes.length tcv, .slice tan news.length tcn, .int .i64 shown] 124 (0, 0))) := hk; clear hg hk)
    | (refine wpList_load_row rfl _ _ rfl (w.heap.size + 1 + 1) rfl 124 #[.int .i64 id, .int .i64 view, .int .i64 h0, .int .i64 h1, .int .i64 h2, .int .i64 h3, .int .i64 l0, .int .i64 l1, .int .i64 l2, .int .i64 l3, .int .i64 a0, .int .i64 a1, .int .i64 a2, .int .i64 a3, .slice tar row.length tcr, .slice tac cells.length tcc, .slice tae early.length tce, .slice tau undos.length tcu, .slice tav votes.length tcv, .slice tan news.length tcn, .int .i64 shown] (0, 0) _ HKz.out Tryz.underlying124 rfl (by kernel_rfl) ?_)
    | (refine wpList_store_blk rfl _ _ _ rfl (w.heap.size + 1) #[.int .i64 id, .int .i64 view, .int .i64 h0, .int .i64 h1, .int .i64 h2, .int .i64 h3, .int .i64 l0, .int .i64 l1, .int .i64 l2, .int .i64 l3, .int .i64 a0, .int .i64 a1, .int .i64 a2, .int .i64 a3, .slice tar row.length tcr, .slice tac cells.length tcc, .slice tae early.length tce, .slice tau undos.length tcu, .slice tav votes.length tcv, .slice tan news.length tcn, .int .i64 shown] rfl rfl 124 #[.int .i64 0, .int .i64 0, .int .i64 0, .int .i64 0, .int .i64 0, .int .i64 0, .int .i64 0, .int .i64 0, .int .i64 0, .int .i64 0, .int .i64 0, .int .i64 0, .int .i64 0, .int .i64 0, .slice none 0 0, .slice none 0 0, .slice none 0 0, .slice none 0 0, .slice none 0 0, .slice none 0 0, .int .i64 0] HZz.out (by kernel_rfl) rfl (by simp [Value.oneCell']) ?_; intro z2 hg hk hsz; have HBy : Hid (Below w.heap.size w z2) := HBz.out.grown hg HBz.out.size (fun y hy => by cases hy; omega); have HMy : Hid (z1.heap.size ≤ z2.heap.size) := hg.size; have HI0y : Hid (In y3.heap.size x4.heap.size z2 3 1 (.slice tar row.length tcr) row.length (flatR intF row)) := HI0z.out.far hg (Or.inl (by have := HL3.out; omega)); have HI1y : Hid (In y4.heap.size x5.heap.size z2 195 2 (.slice tac cells.length tcc) cells.length (flat cells)) := HI1z.out.far hg (Or.inl (by have := HL4.out; omega)); have HI2y : Hid (In y5.heap.size x6.heap.size z2 3 1 (.slice tae early.length tce) early.length (flatR intF early)) := HI2z.out.far hg (Or.inl (by have := HL5.out; omega)); have HI3y : Hid (In y6.heap.size x7.heap.size z2 197 3 (.slice tau undos.length tcu) undos.length (flatR undoF undos)) := HI3z.out.far hg (Or.inl (by have := HL6.out; omega)); have HI4y : Hid (In y7.heap.size x8.heap.size z2 46 4 (.slice tav votes.length tcv) votes.length (flatR voteF votes)) := HI4z.out.far hg (Or.inl (by have := HL7.out; omega)); have HI5y : Hid (In y8.heap.size x9.heap.size z2 48 13 (.slice tan news.length tcn) news.length (flatR letF news)) := HI5z.out.far hg (Or.inl (by have := HL8.out; omega)); have HKy : Hid (z2.heap[w.heap.size + 1]? = Option.some (.cells #[.int .i64 id, .int .i64 view, .int .i64 h0, .int .i64 h1, .int .i64 h2, .int .i64 h3, .int .i64 l0, .int .i64 l1, .int .i64 l2, .int .i64 l3, .int .i64 a0, .int .i64 a1, .int .i64 a2, .int .i64 a3, .slice tar row.length tcr, .slice tac cells.length tcc, .slice tae early.length tce, .slice tau undos.length tcu, .slice tav votes.length tcv, .slice tan news.length tcn, .int .i64 shown] 124 (0, 0))) := hk; clear hg hk hsz))
  refine bodyPost_ret (v := .agg #[.int .i64 id, .int .i64 view, .int .i64 h0, .int .i64 h1, .int .i64 h2, .int .i64 h3, .int .i64 l0, .int .i64 l1, .int .i64 l2, .int .i64 l3, .int .i64 a0, .int .i64 a1, .int .i64 a2, .int .i64 a3, .slice tar row.length tcr, .slice tac cells.length tcc, .slice tae early.length tce, .slice tau undos.length tcu, .slice tav votes.length tcv, .slice tan news.length tcn, .int .i64 shown]) (results_cell_row Tryz.results68 _ _ (w.heap.size + 1) 124 _ (0, 0) _ rfl HKy.out Tryz.underlying124 rfl (by kernel_rfl)) rfl ?_
  refine ⟨⟨.slice tar row.length tcr, .slice tac cells.length tcc, .slice tae early.length tce, .slice tau undos.length tcu, .slice tav votes.length tcv, .slice tan news.length tcn⟩, rfl, ?_, HBy.out⟩
  have HQ : w.heap.size ≤ y3.heap.size ∧ x4.heap.size ≤ y4.heap.size ∧ x5.heap.size ≤ y5.heap.size ∧ x6.heap.size ≤ y6.heap.size ∧ x7.heap.size ≤ y7.heap.size ∧ x8.heap.size ≤ y8.heap.size ∧ x9.heap.size ≤ z2.heap.size ∧ y3.heap.size ≤ x4.heap.size ∧ y4.heap.size ≤ x5.heap.size ∧ y5.heap.size ≤ x6.heap.size ∧ y6.heap.size ≤ x7.heap.size ∧ y7.heap.size ≤ x8.heap.size ∧ y8.heap.size ≤ x9.heap.size := by
    have := HL0.out; have := HM1.out; have := HM2.out; have := HM3.out; have := HM4.out; have := HM5.out; have := HM6.out; have := HM7.out; have := HM8.out; have := HM9.out; have := HMz.out; have := HMy.out
    omega
  refine ⟨x4.heap.size, x5.heap.size, x6.heap.size, x7.heap.size, x8.heap.size, x9.heap.size, by omega, ?_, ?_, ?_, ?_, ?_, ?_⟩
  · exact ⟨own_base HI0y.out.1 (by omega), HI0y.out.2⟩
  · exact ⟨own_base HI1y.out.1 (by omega), HI1y.out.2⟩
  · exact ⟨own_base HI2y.out.1 (by omega), HI2y.out.2⟩
  · exact ⟨own_base HI3y.out.1 (by omega), HI3y.out.2⟩
  · exact ⟨own_base HI4y.out.1 (by omega), HI4y.out.2⟩
  · exact ⟨own_base HI5y.out.1 (by omega), HI5y.out.2⟩

set_option maxRecDepth 100000 in
set_option maxHeartbeats 8000000 in
theorem eqPeer_yes (p : PE) (s t : PV) (w : World) (hR : PeerR w p s) (hT : PeerR w p t) (hs : smallPe p) :
    Calls Tryz.prog 74 #[peerV p s, peerV p t] w fun e w' => e = .returned (.bool true) ∧ Below w.heap.size w w' := by
  have HR := hid hR
  have HT := hid hT
  have HS := hid hs
  clear hR hT hs
  obtain ⟨id, view, ⟨h0, h1, h2, h3⟩, ⟨l0, l1, l2, l3⟩, ⟨a0, a1, a2, a3⟩, row, cells, early, undos, votes, news, shown⟩ := p
  obtain ⟨svr, svc, sve, svu, svv, svn⟩ := s
  obtain ⟨sar, scr, ser, -⟩ := HR.out.row
  change svr = _ at ser
  subst ser
  obtain ⟨sac, scc, sec, -⟩ := HR.out.cells
  change svc = _ at sec
  subst sec
  obtain ⟨sae, sce, see, -⟩ := HR.out.early
  change sve = _ at see
  subst see
  obtain ⟨sau, scu, seu, -⟩ := HR.out.undos
  change svu = _ at seu
  subst seu
  obtain ⟨sav, scv, sev, -⟩ := HR.out.votes
  change svv = _ at sev
  subst sev
  obtain ⟨san, scn, sen, -⟩ := HR.out.news
  change svn = _ at sen
  subst sen
  obtain ⟨tvr, tvc, tve, tvu, tvv, tvn⟩ := t
  obtain ⟨tar, tcr, ter, -⟩ := HT.out.row
  change tvr = _ at ter
  subst ter
  obtain ⟨tac, tcc, tec, -⟩ := HT.out.cells
  change tvc = _ at tec
  subst tec
  obtain ⟨tae, tce, tee, -⟩ := HT.out.early
  change tve = _ at tee
  subst tee
  obtain ⟨tau, tcu, teu, -⟩ := HT.out.undos
  change tvu = _ at teu
  subst teu
  obtain ⟨tav, tcv, tev, -⟩ := HT.out.votes
  change tvv = _ at tev
  subst tev
  obtain ⟨tan, tcn, ten, -⟩ := HT.out.news
  change tvn = _ at ten
  subst ten
  unfold peerV peerA
  simp only
  obtain ⟨W, hW⟩ : ∃ W, W = (w.alloc (.cells #[.int .i64 id, .int .i64 view, .int .i64 h0, .int .i64 h1, .int .i64 h2, .int .i64 h3, .int .i64 l0, .int .i64 l1, .int .i64 l2, .int .i64 l3, .int .i64 a0, .int .i64 a1, .int .i64 a2, .int .i64 a3, .slice sar row.length scr, .slice sac cells.length scc, .slice sae early.length sce, .slice sau undos.length scu, .slice sav votes.length scv, .slice san news.length scn, .int .i64 shown] 124)).alloc (.cells #[.int .i64 id, .int .i64 view, .int .i64 h0, .int .i64 h1, .int .i64 h2, .int .i64 h3, .int .i64 l0, .int .i64 l1, .int .i64 l2, .int .i64 l3, .int .i64 a0, .int .i64 a1, .int .i64 a2, .int .i64 a3, .slice tar row.length tcr, .slice tac cells.length tcc, .slice tae early.length tce, .slice tau undos.length tcu, .slice tav votes.length tcv, .slice tan news.length tcn, .int .i64 shown] 124) := ⟨_, rfl⟩
  have HB0 : Hid (Below w.heap.size w W) := (by rw [hW]; exact ba (ba (Below.refl _ _) _) _ : Below w.heap.size w W)
  have HA0 : Hid (W.heap[w.heap.size]? = some (.cells #[.int .i64 id, .int .i64 view, .int .i64 h0, .int .i64 h1, .int .i64 h2, .int .i64 h3, .int .i64 l0, .int .i64 l1, .int .i64 l2, .int .i64 l3, .int .i64 a0, .int .i64 a1, .int .i64 a2, .int .i64 a3, .slice sar row.length scr, .slice sac cells.length scc, .slice sae early.length sce, .slice sau undos.length scu, .slice sav votes.length scv, .slice san news.length scn, .int .i64 shown] 124 (0, 0))) := (by rw [hW]; exact (alloc2 w _ _).1 : W.heap[w.heap.size]? = _)
  have HC0 : Hid (W.heap[w.heap.size + 1]? = some (.cells #[.int .i64 id, .int .i64 view, .int .i64 h0, .int .i64 h1, .int .i64 h2, .int .i64 h3, .int .i64 l0, .int .i64 l1, .int .i64 l2, .int .i64 l3, .int .i64 a0, .int .i64 a1, .int .i64 a2, .int .i64 a3, .slice tar row.length tcr, .slice tac cells.length tcc, .slice tae early.length tce, .slice tau undos.length tcu, .slice tav votes.length tcv, .slice tan news.length tcn, .int .i64 shown] 124 (0, 0))) := (by rw [hW]; exact (alloc2 w _ _).2 : W.heap[w.heap.size + 1]? = _)
  go_enter Tryz.func74, Tryz.ntmps74
  have c0 := blk_cell HA0.out 0 (.int .i64 id) rfl
  have d0 := blk_cell HC0.out 0 (.int .i64 id) rfl
  have c1 := blk_cell HA0.out 1 (.int .i64 view) rfl
  have d1 := blk_cell HC0.out 1 (.int .i64 view) rfl
  have c2 := blk_cell HA0.out 2 (.int .i64 h0) rfl
  have d2 := blk_cell HC0.out 2 (.int .i64 h0) rfl
  have c3 := blk_cell HA0.out 3 (.int .i64 h1) rfl
  have d3 := blk_cell HC0.out 3 (.int .i64 h1) rfl
  have c4 := blk_cell HA0.out 4 (.int .i64 h2) rfl
  have d4 := blk_cell HC0.out 4 (.int .i64 h2) rfl
  have c5 := blk_cell HA0.out 5 (.int .i64 h3) rfl
  have d5 := blk_cell HC0.out 5 (.int .i64 h3) rfl
  rw [hW] at c0 d0 c1 d1 c2 d2 c3 d3 c4 d4 c5 d5
  go_wp2_with fail
  rw [← hW]
  clear hW
  clear c0 d0 c1 d1 c2 d2 c3 d3 c4 d4 c5 d5
  refine (eqQ4_yes h0 h1 h2 h3 W).mono ?_
  rintro e w1 ⟨rfl, hb⟩
  have HB1 : Hid (Below w.heap.size w w1) := bt HB0.out hb
  have HA1 : Hid (w1.heap[w.heap.size]? = some (.cells #[.int .i64 id, .int .i64 view, .int .i64 h0, .int .i64 h1, .int .i64 h2, .int .i64 h3, .int .i64 l0, .int .i64 l1, .int .i64 l2, .int .i64 l3, .int .i64 a0, .int .i64 a1, .int .i64 a2, .int .i64 a3, .slice sar row.length scr, .slice sac cells.length scc, .slice sae early.length sce, .slice sau undos.length scu, .slice sav votes.length scv, .slice san news.length scn, .int .i64 shown] 124 (0, 0))) := (hb.block _ (Array.getElem?_eq_some_iff.1 HA0.out).1).trans HA0.out
  have HC1 : Hid (w1.heap[w.heap.size + 1]? = some (.cells #[.int .i64 id, .int .i64 view, .int .i64 h0, .int .i64 h1, .int .i64 h2, .int .i64 h3, .int .i64 l0, .int .i64 l1, .int .i64 l2, .int .i64 l3, .int .i64 a0, .int .i64 a1, .int .i64 a2, .int .i64 a3, .slice tar row.length tcr, .slice tac cells.length tcc, .slice tae early.length tce, .slice tau undos.length tcu, .slice tav votes.length tcv, .slice tan news.length tcn, .int .i64 shown] 124 (0, 0))) := (hb.block _ (Array.getElem?_eq_some_iff.1 HC0.out).1).trans HC0.out
  clear hb HB0 HA0 HC0
  have c6 := blk_cell HA1.out 6 (.int .i64 l0) rfl
  have d6 := blk_cell HC1.out 6 (.int .i64 l0) rfl
  have c7 := blk_cell HA1.out 7 (.int .i64 l1) rfl
  have d7 := blk_cell HC1.out 7 (.int .i64 l1) rfl
  have c8 := blk_cell HA1.out 8 (.int .i64 l2) rfl
  have d8 := blk_cell HC1.out 8 (.int .i64 l2) rfl
  have c9 := blk_cell HA1.out 9 (.int .i64 l3) rfl
  have d9 := blk_cell HC1.out 9 (.int .i64 l3) rfl
  go_wp2_with fail
  clear c6 d6 c7 d7 c8 d8 c9 d9
  refine (eqQ4_yes l0 l1 l2 l3 w1).mono ?_
  rintro e w2 ⟨rfl, hb⟩
  have HB2 : Hid (Below w.heap.size w w2) := bt HB1.out hb
  have HA2 : Hid (w2.heap[w.heap.size]? = some (.cells #[.int .i64 id, .int .i64 view, .int .i64 h0, .int .i64 h1, .int .i64 h2, .int .i64 h3, .int .i64 l0, .int .i64 l1, .int .i64 l2, .int .i64 l3, .int .i64 a0, .int .i64 a1, .int .i64 a2, .int .i64 a3, .slice sar row.length scr, .slice sac cells.length scc, .slice sae early.length sce, .slice sau undos.length scu, .slice sav votes.length scv, .slice san news.length scn, .int .i64 shown] 124 (0, 0))) := (hb.block _ (Array.getElem?_eq_some_iff.1 HA1.out).1).trans HA1.out
  have HC2 : Hid (w2.heap[w.heap.size + 1]? = some (.cells #[.int .i64 id, .int .i64 view, .int .i64 h0, .int .i64 h1, .int .i64 h2, .int .i64 h3, .int .i64 l0, .int .i64 l1, .int .i64 l2, .int .i64 l3, .int .i64 a0, .int .i64 a1, .int .i64 a2, .int .i64 a3, .slice tar row.length tcr, .slice tac cells.length tcc, .slice tae early.length tce, .slice tau undos.length tcu, .slice tav votes.length tcv, .slice tan news.length tcn, .int .i64 shown] 124 (0, 0))) := (hb.block _ (Array.getElem?_eq_some_iff.1 HC1.out).1).trans HC1.out
  clear hb HB1 HA1 HC1
  have c10 := blk_cell HA2.out 10 (.int .i64 a0) rfl
  have d10 := blk_cell HC2.out 10 (.int .i64 a0) rfl
  have c11 := blk_cell HA2.out 11 (.int .i64 a1) rfl
  have d11 := blk_cell HC2.out 11 (.int .i64 a1) rfl
  have c12 := blk_cell HA2.out 12 (.int .i64 a2) rfl
  have d12 := blk_cell HC2.out 12 (.int .i64 a2) rfl
  have c13 := blk_cell HA2.out 13 (.int .i64 a3) rfl
  have d13 := blk_cell HC2.out 13 (.int .i64 a3) rfl
  go_wp2_with fail
  clear c10 d10 c11 d11 c12 d12 c13 d13
  refine (eqV4_yes a0 a1 a2 a3 w2).mono ?_
  rintro e w3 ⟨rfl, hb⟩
  have HB3 : Hid (Below w.heap.size w w3) := bt HB2.out hb
  have HA3 : Hid (w3.heap[w.heap.size]? = some (.cells #[.int .i64 id, .int .i64 view, .int .i64 h0, .int .i64 h1, .int .i64 h2, .int .i64 h3, .int .i64 l0, .int .i64 l1, .int .i64 l2, .int .i64 l3, .int .i64 a0, .int .i64 a1, .int .i64 a2, .int .i64 a3, .slice sar row.length scr, .slice sac cells.length scc, .slice sae early.length sce, .slice sau undos.length scu, .slice sav votes.length scv, .slice san news.length scn, .int .i64 shown] 124 (0, 0))) := (hb.block _ (Array.getElem?_eq_some_iff.1 HA2.out).1).trans HA2.out
  have HC3 : Hid (w3.heap[w.heap.size + 1]? = some (.cells #[.int .i64 id, .int .i64 view, .int .i64 h0, .int .i64 h1, .int .i64 h2, .int .i64 h3, .int .i64 l0, .int .i64 l1, .int .i64 l2, .int .i64 l3, .int .i64 a0, .int .i64 a1, .int .i64 a2, .int .i64 a3, .slice tar row.length tcr, .slice tac cells.length tcc, .slice tae early.length tce, .slice tau undos.length tcu, .slice tav votes.length tcv, .slice tan news.length tcn, .int .i64 shown] 124 (0, 0))) := (hb.block _ (Array.getElem?_eq_some_iff.1 HC2.out).1).trans HC2.out
  clear hb HB2 HA2 HC2
  have c14 := blk_cell HA3.out 14 (.slice sar row.length scr) rfl
  have d14 := blk_cell HC3.out 14 (.slice tar row.length tcr) rfl
  go_wp2_with fail
  clear c14 d14
  refine (eqInts_yes row _ _ w3 (HR.out.row.below HB3.out) (HT.out.row.below HB3.out) HS.out.row).mono ?_
  rintro e w4 ⟨rfl, hb⟩
  have HB4 : Hid (Below w.heap.size w w4) := bt HB3.out hb
  have HA4 : Hid (w4.heap[w.heap.size]? = some (.cells #[.int .i64 id, .int .i64 view, .int .i64 h0, .int .i64 h1, .int .i64 h2, .int .i64 h3, .int .i64 l0, .int .i64 l1, .int .i64 l2, .int .i64 l3, .int .i64 a0, .int .i64 a1, .int .i64 a2, .int .i64 a3, .slice sar row.length scr, .slice sac cells.length scc, .slice sae early.length sce, .slice sau undos.length scu, .slice sav votes.length scv, .slice san news.length scn, .int .i64 shown] 124 (0, 0))) := (hb.block _ (Array.getElem?_eq_some_iff.1 HA3.out).1).trans HA3.out
  have HC4 : Hid (w4.heap[w.heap.size + 1]? = some (.cells #[.int .i64 id, .int .i64 view, .int .i64 h0, .int .i64 h1, .int .i64 h2, .int .i64 h3, .int .i64 l0, .int .i64 l1, .int .i64 l2, .int .i64 l3, .int .i64 a0, .int .i64 a1, .int .i64 a2, .int .i64 a3, .slice tar row.length tcr, .slice tac cells.length tcc, .slice tae early.length tce, .slice tau undos.length tcu, .slice tav votes.length tcv, .slice tan news.length tcn, .int .i64 shown] 124 (0, 0))) := (hb.block _ (Array.getElem?_eq_some_iff.1 HC3.out).1).trans HC3.out
  clear hb HB3 HA3 HC3
  have c15 := blk_cell HA4.out 15 (.slice sac cells.length scc) rfl
  have d15 := blk_cell HC4.out 15 (.slice tac cells.length tcc) rfl
  go_wp2_with fail
  clear c15 d15
  refine (eqCells_yes cells _ _ w4 (HR.out.cells.below HB4.out) (HT.out.cells.below HB4.out) HS.out.cells).mono ?_
  rintro e w5 ⟨rfl, hb⟩
  have HB5 : Hid (Below w.heap.size w w5) := bt HB4.out hb
  have HA5 : Hid (w5.heap[w.heap.size]? = some (.cells #[.int .i64 id, .int .i64 view, .int .i64 h0, .int .i64 h1, .int .i64 h2, .int .i64 h3, .int .i64 l0, .int .i64 l1, .int .i64 l2, .int .i64 l3, .int .i64 a0, .int .i64 a1, .int .i64 a2, .int .i64 a3, .slice sar row.length scr, .slice sac cells.length scc, .slice sae early.length sce, .slice sau undos.length scu, .slice sav votes.length scv, .slice san news.length scn, .int .i64 shown] 124 (0, 0))) := (hb.block _ (Array.getElem?_eq_some_iff.1 HA4.out).1).trans HA4.out
  have HC5 : Hid (w5.heap[w.heap.size + 1]? = some (.cells #[.int .i64 id, .int .i64 view, .int .i64 h0, .int .i64 h1, .int .i64 h2, .int .i64 h3, .int .i64 l0, .int .i64 l1, .int .i64 l2, .int .i64 l3, .int .i64 a0, .int .i64 a1, .int .i64 a2, .int .i64 a3, .slice tar row.length tcr, .slice tac cells.length tcc, .slice tae early.length tce, .slice tau undos.length tcu, .slice tav votes.length tcv, .slice tan news.length tcn, .int .i64 shown] 124 (0, 0))) := (hb.block _ (Array.getElem?_eq_some_iff.1 HC4.out).1).trans HC4.out
  clear hb HB4 HA4 HC4
  have c16 := blk_cell HA5.out 16 (.slice sae early.length sce) rfl
  have d16 := blk_cell HC5.out 16 (.slice tae early.length tce) rfl
  go_wp2_with fail
  clear c16 d16
  refine (eqInts_yes early _ _ w5 (HR.out.early.below HB5.out) (HT.out.early.below HB5.out) HS.out.early).mono ?_
  rintro e w6 ⟨rfl, hb⟩
  have HB6 : Hid (Below w.heap.size w w6) := bt HB5.out hb
  have HA6 : Hid (w6.heap[w.heap.size]? = some (.cells #[.int .i64 id, .int .i64 view, .int .i64 h0, .int .i64 h1, .int .i64 h2, .int .i64 h3, .int .i64 l0, .int .i64 l1, .int .i64 l2, .int .i64 l3, .int .i64 a0, .int .i64 a1, .int .i64 a2, .int .i64 a3, .slice sar row.length scr, .slice sac cells.length scc, .slice sae early.length sce, .slice sau undos.length scu, .slice sav votes.length scv, .slice san news.length scn, .int .i64 shown] 124 (0, 0))) := (hb.block _ (Array.getElem?_eq_some_iff.1 HA5.out).1).trans HA5.out
  have HC6 : Hid (w6.heap[w.heap.size + 1]? = some (.cells #[.int .i64 id, .int .i64 view, .int .i64 h0, .int .i64 h1, .int .i64 h2, .int .i64 h3, .int .i64 l0, .int .i64 l1, .int .i64 l2, .int .i64 l3, .int .i64 a0, .int .i64 a1, .int .i64 a2, .int .i64 a3, .slice tar row.length tcr, .slice tac cells.length tcc, .slice tae early.length tce, .slice tau undos.length tcu, .slice tav votes.length tcv, .slice tan news.length tcn, .int .i64 shown] 124 (0, 0))) := (hb.block _ (Array.getElem?_eq_some_iff.1 HC5.out).1).trans HC5.out
  clear hb HB5 HA5 HC5
  have c17 := blk_cell HA6.out 17 (.slice sau undos.length scu) rfl
  have d17 := blk_cell HC6.out 17 (.slice tau undos.length tcu) rfl
  go_wp2_with fail
  clear c17 d17
  refine (eqUndos_yes undos _ _ w6 (HR.out.undos.below HB6.out) (HT.out.undos.below HB6.out) HS.out.undos).mono ?_
  rintro e w7 ⟨rfl, hb⟩
  have HB7 : Hid (Below w.heap.size w w7) := bt HB6.out hb
  have HA7 : Hid (w7.heap[w.heap.size]? = some (.cells #[.int .i64 id, .int .i64 view, .int .i64 h0, .int .i64 h1, .int .i64 h2, .int .i64 h3, .int .i64 l0, .int .i64 l1, .int .i64 l2, .int .i64 l3, .int .i64 a0, .int .i64 a1, .int .i64 a2, .int .i64 a3, .slice sar row.length scr, .slice sac cells.length scc, .slice sae early.length sce, .slice sau undos.length scu, .slice sav votes.length scv, .slice san news.length scn, .int .i64 shown] 124 (0, 0))) := (hb.block _ (Array.getElem?_eq_some_iff.1 HA6.out).1).trans HA6.out
  have HC7 : Hid (w7.heap[w.heap.size + 1]? = some (.cells #[.int .i64 id, .int .i64 view, .int .i64 h0, .int .i64 h1, .int .i64 h2, .int .i64 h3, .int .i64 l0, .int .i64 l1, .int .i64 l2, .int .i64 l3, .int .i64 a0, .int .i64 a1, .int .i64 a2, .int .i64 a3, .slice tar row.length tcr, .slice tac cells.length tcc, .slice tae early.length tce, .slice tau undos.length tcu, .slice tav votes.length tcv, .slice tan news.length tcn, .int .i64 shown] 124 (0, 0))) := (hb.block _ (Array.getElem?_eq_some_iff.1 HC6.out).1).trans HC6.out
  clear hb HB6 HA6 HC6
  have c18 := blk_cell HA7.out 18 (.slice sav votes.length scv) rfl
  have d18 := blk_cell HC7.out 18 (.slice tav votes.length tcv) rfl
  go_wp2_with fail
  clear c18 d18
  refine (eqVotes_yes votes _ _ w7 (HR.out.votes.below HB7.out) (HT.out.votes.below HB7.out) HS.out.votes).mono ?_
  rintro e w8 ⟨rfl, hb⟩
  have HB8 : Hid (Below w.heap.size w w8) := bt HB7.out hb
  have HA8 : Hid (w8.heap[w.heap.size]? = some (.cells #[.int .i64 id, .int .i64 view, .int .i64 h0, .int .i64 h1, .int .i64 h2, .int .i64 h3, .int .i64 l0, .int .i64 l1, .int .i64 l2, .int .i64 l3, .int .i64 a0, .int .i64 a1, .int .i64 a2, .int .i64 a3, .slice sar row.length scr, .slice sac cells.length scc, .slice sae early.length sce, .slice sau undos.length scu, .slice sav votes.length scv, .slice san news.length scn, .int .i64 shown] 124 (0, 0))) := (hb.block _ (Array.getElem?_eq_some_iff.1 HA7.out).1).trans HA7.out
  have HC8 : Hid (w8.heap[w.heap.size + 1]? = some (.cells #[.int .i64 id, .int .i64 view, .int .i64 h0, .int .i64 h1, .int .i64 h2, .int .i64 h3, .int .i64 l0, .int .i64 l1, .int .i64 l2, .int .i64 l3, .int .i64 a0, .int .i64 a1, .int .i64 a2, .int .i64 a3, .slice tar row.length tcr, .slice tac cells.length tcc, .slice tae early.length tce, .slice tau undos.length tcu, .slice tav votes.length tcv, .slice tan news.length tcn, .int .i64 shown] 124 (0, 0))) := (hb.block _ (Array.getElem?_eq_some_iff.1 HC7.out).1).trans HC7.out
  clear hb HB7 HA7 HC7
  have c19 := blk_cell HA8.out 19 (.slice san news.length scn) rfl
  have d19 := blk_cell HC8.out 19 (.slice tan news.length tcn) rfl
  go_wp2_with fail
  clear c19 d19
  refine (eqLetters_yes news _ _ w8 (HR.out.news.below HB8.out) (HT.out.news.below HB8.out) HS.out.news).mono ?_
  rintro e w9 ⟨rfl, hb⟩
  have HB9 : Hid (Below w.heap.size w w9) := bt HB8.out hb
  have HA9 : Hid (w9.heap[w.heap.size]? = some (.cells #[.int .i64 id, .int .i64 view, .int .i64 h0, .int .i64 h1, .int .i64 h2, .int .i64 h3, .int .i64 l0, .int .i64 l1, .int .i64 l2, .int .i64 l3, .int .i64 a0, .int .i64 a1, .int .i64 a2, .int .i64 a3, .slice sar row.length scr, .slice sac cells.length scc, .slice sae early.length sce, .slice sau undos.length scu, .slice sav votes.length scv, .slice san news.length scn, .int .i64 shown] 124 (0, 0))) := (hb.block _ (Array.getElem?_eq_some_iff.1 HA8.out).1).trans HA8.out
  have HC9 : Hid (w9.heap[w.heap.size + 1]? = some (.cells #[.int .i64 id, .int .i64 view, .int .i64 h0, .int .i64 h1, .int .i64 h2, .int .i64 h3, .int .i64 l0, .int .i64 l1, .int .i64 l2, .int .i64 l3, .int .i64 a0, .int .i64 a1, .int .i64 a2, .int .i64 a3, .slice tar row.length tcr, .slice tac cells.length tcc, .slice tae early.length tce, .slice tau undos.length tcu, .slice tav votes.length tcv, .slice tan news.length tcn, .int .i64 shown] 124 (0, 0))) := (hb.block _ (Array.getElem?_eq_some_iff.1 HC8.out).1).trans HC8.out
  clear hb HB8 HA8 HC8
  have c20 := blk_cell HA9.out 20 (.int .i64 shown) rfl
  have d20 := blk_cell HC9.out 20 (.int .i64 shown) rfl
  go_wp2
  go_ret
  exact ⟨rfl, HB9.out⟩

end Go.Proofs.YtcfgfhodbjakoavGreatDoor

namespace Go.Proofs.YtcfgfhodbjakoavGreatDoor
open Go.RowKit Num

/-- N cells with the numbers from k on -/
def icells (k N : Nat) : List Value := (List.range N).map fun (i : Nat) => Value.int .i64 ((k : Int) + (i : Int))
theorem icells_len (k N : Nat) : (icells k N).length = N := by simp [icells]
theorem icells_at {k N i : Nat} (h : i < N) : (icells k N)[i]? = some (.int .i64 ((k : Int) + (i : Int))) := by simp [icells, h]
/-- the first j of N cells have their marks -/
def upC (k N : Nat) (ys : List Value) (j : Nat) : Prop := ys.length = N ∧ ∀ i, i < j → ys[i]? = some (.int .i64 ((k : Int) + (i : Int)))
theorem upC_step {k N j : Nat} {ys : List Value} (h : upC k N ys j) (hj : j < N) : upC k N (ys.set j (.int .i64 ((k : Int) + (j : Int)))) (j + 1) := by
  refine ⟨by simp [h.1], fun i hi => ?_⟩
  by_cases e : j = i
  · subst e; rw [List.getElem?_set_self (by rw [h.1]; exact hj)]
  · rw [List.getElem?_set_ne e]; exact h.2 i (by omega)
theorem upC_all {k N : Nat} {ys : List Value} (h : upC k N ys N) : ys = icells k N := by
  apply List.ext_getElem?
  intro i
  by_cases hi : i < N
  · rw [h.2 i hi, icells_at hi]
  · rw [List.getElem?_eq_none (by rw [h.1]; omega), List.getElem?_eq_none (by rw [icells_len]; omega)]
/-- a row whose first j cells have their marks -/
def MkS (base : Nat) (e : TypeId) (c : Nat) (v : Value) (n k j : Nat) (w : World) : Prop := ∃ ys, w.ownsRow base e c v n ys ∧ upC k (n * c) ys j
theorem MkS.cast {base : Nat} {e : TypeId} {c : Nat} {v : Value} {n k j j' : Nat} {w : World} (h : MkS base e c v n k j w) (hj : j = j') : MkS base e c v n k j' w := hj ▸ h
theorem MkS.all {base : Nat} {e : TypeId} {c : Nat} {v : Value} {n k j : Nat} {w : World} (h : MkS base e c v n k j w) (hj : j = n * c) : w.ownsRow base e c v n (icells k (n * c)) := by
  subst hj
  obtain ⟨ys, ho, hu⟩ := h
  rw [← upC_all hu]; exact ho

section
variable {P : Program} {ops : Array Oper} {rest : List Oper} {op : Oper} {a : Act} {w : World} {Q : Exit → Act → World → Prop}
theorem wpList_mark (hgd : op.guard = none) (ty : TypeId) (x y : Operand) (ho : op.op = .store ty x y) (base : Nat) (e : TypeId) (c n cap g k j o : Nat) (u : Int) (hm : MkS base e c (.slice (some ⟨g, 0, none⟩) n cap) n k j w) (hx : a.eval x = .pointer (some ⟨g, o, none⟩)) (hok : o = j) (hy : a.eval y = .int .i64 u) (huk : u = (k : Int) + (j : Int))
    (hj : j < n * c) (hi : (P.info? ty).map (·.size) = some 1)
    (h : ∀ w', w.grownBy w' (some g) → MkS base e c (.slice (some ⟨g, 0, none⟩) n cap) n k (j + 1) w' → wpList P ops Q rest (a.put op.dst undef) w') : wpList P ops Q (op :: rest) a w := by
  subst hok huk
  obtain ⟨ys, hown, hu⟩ := hm
  exact wpList_store_own hgd ty x y ho base e c n cap g o _ ys hx hy hown hj hi rfl fun w' hg hw => h w' hg ⟨_, hw, upC_step hu hj⟩
end

set_option maxRecDepth 100000 in
set_option maxHeartbeats 4000000 in
theorem markVotes_own (n k : Nat) (v : Value) (base : Nat) (xs : List Value) (w : World) (h : w.ownsRow base 46 4 v n xs) (hk2 : k ≤ 20000000) (hn : n ≤ 1048576) :
    Calls Tryz.prog 51 #[v, .int .i64 k] w fun e w' => e = .returned (.int .i64 ((k + 4 * n : Nat) : Int)) ∧ w'.ownsRow base 46 4 v n (icells k (n * 4)) ∧ w.grownBy w' v.ownBlock := by
  obtain ⟨a, cap, rfl, hg⟩ := own_form h
  have HG : Hid (0 < n → ∃ g, a = some ⟨g, 0, none⟩) := hg
  have HO : Hid (w.ownsRow base 46 4 (.slice a n cap) n xs) := h
  clear hg h
  go_enter Tryz.func51, Tryz.ntmps51
  go_wp2
  go_loopw [1, 5] (fun q i wr => ∃ m : Nat, m ≤ n ∧ q = .int .i64 ((k + 4 * m : Nat) : Int) ∧ i = .int .i64 m ∧ Hid (MkS base 46 4 (.slice a n cap) n k (m * 4) wr) ∧ Hid (w.grownBy wr (Value.slice a n cap).ownBlock)) (fun _ i _ => n - (intOf i).toNat)
  case atStart => exact ⟨0, Nat.zero_le _, by simp, rfl, ⟨xs, HO.out, by rw [HO.out.1], fun i hi => by omega⟩, ⟨rfl, rfl, rfl, Nat.le_refl _, fun _ _ _ => rfl⟩⟩
  case round =>
    obtain ⟨m, hm, rfl, rfl, HMS, HGR⟩ := hrel
    by_cases hlt : (m : Int) < n
    · have q0 : (0 : Int) ≤ (m : Int) := by omega
      obtain ⟨g, rfl⟩ := HG.out (by omega)
      have HGR : Hid (w.grownBy wr (some g)) := HGR
      go_wp2_with (refine wpList_mark rfl _ _ _ rfl base 46 4 n cap g k _ _ _ HMS.out rfl (by omega) rfl (by omega) (by omega) (by kernel_rfl) ?_; intro w' hg hm'; replace HMS := hid hm'; replace HGR := hid (grown_trans HGR.out hg); clear hg hm')
      go_roundw
      case rel => exact ⟨m + 1, by omega, by go_num, by go_num, MkS.cast HMS.out (by omega), HGR.out⟩
      case measure => simp [intOf]; omega
    · have hmn : m = n := by omega
      have HM : Hid (m = n) := hmn
      clear hmn
      go_wp2
      go_ret
      exact ⟨ret_int (by rw [HM.out]), HMS.out.all (by rw [HM.out]), HGR.out⟩
set_option maxRecDepth 100000 in
set_option maxHeartbeats 4000000 in
theorem heldVotes_own (n k : Nat) (v : Value) (base : Nat) (w : World) (h : w.ownsRow base 46 4 v n (icells k (n * 4))) (hk2 : k ≤ 20000000) (hn : n ≤ 1048576) :
    Calls Tryz.prog 56 #[v, .int .i64 k] w fun e w' => e = .returned (.int .i64 ((k + 4 * n : Nat) : Int)) ∧ w' = w := by
  obtain ⟨a, cap, rfl, hg⟩ := own_form h
  have HG : Hid (0 < n → ∃ g, a = some ⟨g, 0, none⟩) := hg
  have HO : Hid (w.ownsRow base 46 4 (.slice a n cap) n (icells k (n * 4))) := h
  clear hg h
  go_enter Tryz.func56, Tryz.ntmps56
  go_wp2
  go_loopw [1, 5] (fun q i wr => ∃ m : Nat, m ≤ n ∧ q = .int .i64 ((k + 4 * m : Nat) : Int) ∧ i = .int .i64 m ∧ wr = w) (fun _ i _ => n - (intOf i).toNat)
  case atStart => exact ⟨0, Nat.zero_le _, by simp, rfl, rfl⟩
  case round =>
    obtain ⟨m, hm, rfl, rfl, rfl⟩ := hrel
    by_cases hlt : (m : Int) < n
    · have q0 : (0 : Int) ≤ (m : Int) := by omega
      obtain ⟨g, rfl⟩ := HG.out (by omega)
      have c0 : wr.cell? ⟨g, m * 4, none⟩ = some (.int .i64 ((k : Int) + 4 * (m : Int))) := by rw [HO.out.cellAt _ (by omega), icells_at (by omega)]; congr 2; omega
      have c1 : wr.cell? ⟨g, m * 4 + 1, none⟩ = some (.int .i64 ((k : Int) + 4 * (m : Int) + 1)) := by rw [HO.out.cellAt _ (by omega), icells_at (by omega)]; congr 2; omega
      have c2 : wr.cell? ⟨g, m * 4 + 2, none⟩ = some (.int .i64 ((k : Int) + 4 * (m : Int) + 1 + 1)) := by rw [HO.out.cellAt _ (by omega), icells_at (by omega)]; congr 2; omega
      have c3 : wr.cell? ⟨g, m * 4 + 3, none⟩ = some (.int .i64 ((k : Int) + 4 * (m : Int) + 1 + 1 + 1)) := by rw [HO.out.cellAt _ (by omega), icells_at (by omega)]; congr 2; omega
      go_wp2
      go_roundw
      case rel => exact ⟨m + 1, by omega, by go_num, by go_num, trivial⟩
      case measure => simp [intOf]; omega
    · have hmn : m = n := by omega
      have HM : Hid (m = n) := hmn
      clear hmn
      go_wp2
      go_ret
      exact ⟨ret_int (by rw [HM.out]), rfl⟩

set_option maxRecDepth 100000 in
set_option maxHeartbeats 4000000 in
theorem markLetters_own (n k : Nat) (v : Value) (base : Nat) (xs : List Value) (w : World) (h : w.ownsRow base 48 13 v n xs) (hk2 : k ≤ 20000000) (hn : n ≤ 1048576) :
    Calls Tryz.prog 50 #[v, .int .i64 k] w fun e w' => e = .returned (.int .i64 ((k + 13 * n : Nat) : Int)) ∧ w'.ownsRow base 48 13 v n (icells k (n * 13)) ∧ w.grownBy w' v.ownBlock := by
  obtain ⟨a, cap, rfl, hg⟩ := own_form h
  have HG : Hid (0 < n → ∃ g, a = some ⟨g, 0, none⟩) := hg
  have HO : Hid (w.ownsRow base 48 13 (.slice a n cap) n xs) := h
  clear hg h
  go_enter Tryz.func50, Tryz.ntmps50
  go_wp2
  go_loopw [1, 5] (fun q i wr => ∃ m : Nat, m ≤ n ∧ q = .int .i64 ((k + 13 * m : Nat) : Int) ∧ i = .int .i64 m ∧ Hid (MkS base 48 13 (.slice a n cap) n k (m * 13) wr) ∧ Hid (w.grownBy wr (Value.slice a n cap).ownBlock)) (fun _ i _ => n - (intOf i).toNat)
  case atStart => exact ⟨0, Nat.zero_le _, by simp, rfl, ⟨xs, HO.out, by rw [HO.out.1], fun i hi => by omega⟩, ⟨rfl, rfl, rfl, Nat.le_refl _, fun _ _ _ => rfl⟩⟩
  case round =>
    obtain ⟨m, hm, rfl, rfl, HMS, HGR⟩ := hrel
    by_cases hlt : (m : Int) < n
    · have q0 : (0 : Int) ≤ (m : Int) := by omega
      obtain ⟨g, rfl⟩ := HG.out (by omega)
      have HGR : Hid (w.grownBy wr (some g)) := HGR
      go_wp2_with (refine wpList_mark rfl _ _ _ rfl base 48 13 n cap g k _ _ _ HMS.out rfl (by omega) rfl (by omega) (by omega) (by kernel_rfl) ?_; intro w' hg hm'; replace HMS := hid hm'; replace HGR := hid (grown_trans HGR.out hg); clear hg hm')
      go_roundw
      case rel => exact ⟨m + 1, by omega, by go_num, by go_num, MkS.cast HMS.out (by omega), HGR.out⟩
      case measure => simp [intOf]; omega
    · have hmn : m = n := by omega
      have HM : Hid (m = n) := hmn
      clear hmn
      go_wp2
      go_ret
      exact ⟨ret_int (by rw [HM.out]), HMS.out.all (by rw [HM.out]), HGR.out⟩
set_option maxRecDepth 100000 in
set_option maxHeartbeats 4000000 in
theorem heldLetters_own (n k : Nat) (v : Value) (base : Nat) (w : World) (h : w.ownsRow base 48 13 v n (icells k (n * 13))) (hk2 : k ≤ 20000000) (hn : n ≤ 1048576) :
    Calls Tryz.prog 55 #[v, .int .i64 k] w fun e w' => e = .returned (.int .i64 ((k + 13 * n : Nat) : Int)) ∧ w' = w := by
  obtain ⟨a, cap, rfl, hg⟩ := own_form h
  have HG : Hid (0 < n → ∃ g, a = some ⟨g, 0, none⟩) := hg
  have HO : Hid (w.ownsRow base 48 13 (.slice a n cap) n (icells k (n * 13))) := h
  clear hg h
  go_enter Tryz.func55, Tryz.ntmps55
  go_wp2
  go_loopw [1, 5] (fun q i wr => ∃ m : Nat, m ≤ n ∧ q = .int .i64 ((k + 13 * m : Nat) : Int) ∧ i = .int .i64 m ∧ wr = w) (fun _ i _ => n - (intOf i).toNat)
  case atStart => exact ⟨0, Nat.zero_le _, by simp, rfl, rfl⟩
  case round =>
    obtain ⟨m, hm, rfl, rfl, rfl⟩ := hrel
    by_cases hlt : (m : Int) < n
    · have q0 : (0 : Int) ≤ (m : Int) := by omega
      obtain ⟨g, rfl⟩ := HG.out (by omega)
      have c0 : wr.cell? ⟨g, m * 13, none⟩ = some (.int .i64 ((k : Int) + 13 * (m : Int))) := by rw [HO.out.cellAt _ (by omega), icells_at (by omega)]; congr 2; omega
      have c1 : wr.cell? ⟨g, m * 13 + 1, none⟩ = some (.int .i64 ((k : Int) + 13 * (m : Int) + 1)) := by rw [HO.out.cellAt _ (by omega), icells_at (by omega)]; congr 2; omega
      have c2 : wr.cell? ⟨g, m * 13 + 2, none⟩ = some (.int .i64 ((k : Int) + 13 * (m : Int) + 1 + 1)) := by rw [HO.out.cellAt _ (by omega), icells_at (by omega)]; congr 2; omega
      have c3 : wr.cell? ⟨g, m * 13 + 3, none⟩ = some (.int .i64 ((k : Int) + 13 * (m : Int) + 1 + 1 + 1)) := by rw [HO.out.cellAt _ (by omega), icells_at (by omega)]; congr 2; omega
      have c4 : wr.cell? ⟨g, m * 13 + 4, none⟩ = some (.int .i64 ((k : Int) + 13 * (m : Int) + 1 + 1 + 1 + 1)) := by rw [HO.out.cellAt _ (by omega), icells_at (by omega)]; congr 2; omega
      have c5 : wr.cell? ⟨g, m * 13 + 5, none⟩ = some (.int .i64 ((k : Int) + 13 * (m : Int) + 1 + 1 + 1 + 1 + 1)) := by rw [HO.out.cellAt _ (by omega), icells_at (by omega)]; congr 2; omega
      have c6 : wr.cell? ⟨g, m * 13 + 6, none⟩ = some (.int .i64 ((k : Int) + 13 * (m : Int) + 1 + 1 + 1 + 1 + 1 + 1)) := by rw [HO.out.cellAt _ (by omega), icells_at (by omega)]; congr 2; omega
      have c7 : wr.cell? ⟨g, m * 13 + 7, none⟩ = some (.int .i64 ((k : Int) + 13 * (m : Int) + 1 + 1 + 1 + 1 + 1 + 1 + 1)) := by rw [HO.out.cellAt _ (by omega), icells_at (by omega)]; congr 2; omega
      have c8 : wr.cell? ⟨g, m * 13 + 8, none⟩ = some (.int .i64 ((k : Int) + 13 * (m : Int) + 1 + 1 + 1 + 1 + 1 + 1 + 1 + 1)) := by rw [HO.out.cellAt _ (by omega), icells_at (by omega)]; congr 2; omega
      have c9 : wr.cell? ⟨g, m * 13 + 9, none⟩ = some (.int .i64 ((k : Int) + 13 * (m : Int) + 1 + 1 + 1 + 1 + 1 + 1 + 1 + 1 + 1)) := by rw [HO.out.cellAt _ (by omega), icells_at (by omega)]; congr 2; omega
      have c10 : wr.cell? ⟨g, m * 13 + 10, none⟩ = some (.int .i64 ((k : Int) + 13 * (m : Int) + 1 + 1 + 1 + 1 + 1 + 1 + 1 + 1 + 1 + 1)) := by rw [HO.out.cellAt _ (by omega), icells_at (by omega)]; congr 2; omega
      have c11 : wr.cell? ⟨g, m * 13 + 11, none⟩ = some (.int .i64 ((k : Int) + 13 * (m : Int) + 1 + 1 + 1 + 1 + 1 + 1 + 1 + 1 + 1 + 1 + 1)) := by rw [HO.out.cellAt _ (by omega), icells_at (by omega)]; congr 2; omega
      have c12 : wr.cell? ⟨g, m * 13 + 12, none⟩ = some (.int .i64 ((k : Int) + 13 * (m : Int) + 1 + 1 + 1 + 1 + 1 + 1 + 1 + 1 + 1 + 1 + 1 + 1)) := by rw [HO.out.cellAt _ (by omega), icells_at (by omega)]; congr 2; omega
      go_wp2
      go_roundw
      case rel => exact ⟨m + 1, by omega, by go_num, by go_num, trivial⟩
      case measure => simp [intOf]; omega
    · have hmn : m = n := by omega
      have HM : Hid (m = n) := hmn
      clear hmn
      go_wp2
      go_ret
      exact ⟨ret_int (by rw [HM.out]), rfl⟩

end Go.Proofs.YtcfgfhodbjakoavGreatDoor

namespace Go.Proofs.YtcfgfhodbjakoavGreatDoor
open Go.RowKit Num

/-- two rows do not lie in one block -/
def apart (a b : Value) : Prop := ∀ g, a.ownBlock = some g → b.ownBlock ≠ some g
theorem apart.symm {a b : Value} (h : apart a b) : apart b a := fun g hb ha => h g ha hb
theorem apart.ne {a b : Value} (h : apart a b) : a.ownBlock = none ∨ a.ownBlock ≠ b.ownBlock := by
  cases e : a.ownBlock with
  | none => exact Or.inl rfl
  | some g => exact Or.inr fun e2 => h g e e2.symm
/-- the six slices are apart, and lie from lo on, ahead of hi -/
structure Apart6 (lo hi : Nat) (s : PV) : Prop where
  a01 : apart s.row s.cells
  a02 : apart s.row s.early
  a03 : apart s.row s.undos
  a04 : apart s.row s.votes
  a05 : apart s.row s.news
  a10 : apart s.cells s.row
  a12 : apart s.cells s.early
  a13 : apart s.cells s.undos
  a14 : apart s.cells s.votes
  a15 : apart s.cells s.news
  a20 : apart s.early s.row
  a21 : apart s.early s.cells
  a23 : apart s.early s.undos
  a24 : apart s.early s.votes
  a25 : apart s.early s.news
  a30 : apart s.undos s.row
  a31 : apart s.undos s.cells
  a32 : apart s.undos s.early
  a34 : apart s.undos s.votes
  a35 : apart s.undos s.news
  a40 : apart s.votes s.row
  a41 : apart s.votes s.cells
  a42 : apart s.votes s.early
  a43 : apart s.votes s.undos
  a45 : apart s.votes s.news
  a50 : apart s.news s.row
  a51 : apart s.news s.cells
  a52 : apart s.news s.early
  a53 : apart s.news s.undos
  a54 : apart s.news s.votes
  l0 : ∀ g, s.row.ownBlock = some g → lo ≤ g ∧ g < hi
  l1 : ∀ g, s.cells.ownBlock = some g → lo ≤ g ∧ g < hi
  l2 : ∀ g, s.early.ownBlock = some g → lo ≤ g ∧ g < hi
  l3 : ∀ g, s.undos.ownBlock = some g → lo ≤ g ∧ g < hi
  l4 : ∀ g, s.votes.ownBlock = some g → lo ≤ g ∧ g < hi
  l5 : ∀ g, s.news.ownBlock = some g → lo ≤ g ∧ g < hi
/-- rows of its own, with these cells -/
structure Own6 (lo : Nat) (w : World) (p : PE) (s : PV) (xr xc xe xu xv xn : List Value) : Prop where
  row : w.ownsRow lo 3 1 s.row p.row.length xr
  cells : w.ownsRow lo 195 2 s.cells p.cells.length xc
  early : w.ownsRow lo 3 1 s.early p.early.length xe
  undos : w.ownsRow lo 197 3 s.undos p.undos.length xu
  votes : w.ownsRow lo 46 4 s.votes p.votes.length xv
  news : w.ownsRow lo 48 13 s.news p.news.length xn
def OwnD (lo hi : Nat) (w : World) (p : PE) (s : PV) : Prop := Own6 lo w p s (flatR intF p.row) (flat p.cells) (flatR intF p.early) (flatR undoF p.undos) (flatR voteF p.votes) (flatR letF p.news) ∧ Apart6 lo hi s ∧ hi ≤ w.heap.size
theorem OwnD.reads {lo hi : Nat} {w : World} {p : PE} {s : PV} (h : OwnD lo hi w p s) : PeerR w p s :=
  ⟨rows_of_own intF_len h.1.row, cells_of_own h.1.cells, rows_of_own intF_len h.1.early, rows_of_own undoF_len h.1.undos, rows_of_own voteF_len h.1.votes, rows_of_own letF_len h.1.news⟩
theorem Own6.below {lo : Nat} {w w' : World} {p : PE} {s : PV} {xr xc xe xu xv xn : List Value} (h : Own6 lo w p s xr xc xe xu xv xn) (hb : Below w.heap.size w w') : Own6 lo w' p s xr xc xe xu xv xn :=
  ⟨own_kept h.row hb, own_kept h.cells hb, own_kept h.early hb, own_kept h.undos hb, own_kept h.votes hb, own_kept h.news hb⟩
theorem OwnD.below {lo hi : Nat} {w w' : World} {p : PE} {s : PV} (h : OwnD lo hi w p s) (hb : Below w.heap.size w w') : OwnD lo hi w' p s := ⟨h.1.below hb, h.2.1, Nat.le_trans h.2.2 hb.size⟩
/-- what lies outside of lo .. hi is as it was -/
structure Fr (lo hi : Nat) (w w' : World) : Prop where
  os : w'.os = w.os
  tape : w'.tape = w.tape
  output : w'.output = w.output
  size : w.heap.size ≤ w'.heap.size
  block : ∀ k, k < w.heap.size → k < lo ∨ hi ≤ k → w'.heap[k]? = w.heap[k]?
theorem Fr.refl (lo hi : Nat) (w : World) : Fr lo hi w w := ⟨rfl, rfl, rfl, Nat.le_refl _, fun _ _ _ => rfl⟩
theorem Fr.trans {lo hi : Nat} {a b c : World} (h : Fr lo hi a b) (k : Fr lo hi b c) : Fr lo hi a c := ⟨k.os.trans h.os, k.tape.trans h.tape, k.output.trans h.output, Nat.le_trans h.size k.size, fun i hi h2 => (k.block i (Nat.lt_of_lt_of_le hi h.size) h2).trans (h.block i hi h2)⟩
theorem Fr.of_below {lo hi : Nat} {w w' : World} (h : Below w.heap.size w w') : Fr lo hi w w' := ⟨h.os, h.tape, h.output, h.size, fun k hk _ => h.block k hk⟩
theorem Fr.of_grown {lo hi : Nat} {w w' : World} {v : Value} (h : w.grownBy w' v.ownBlock) (hv : ∀ g, v.ownBlock = some g → lo ≤ g ∧ g < hi) : Fr lo hi w w' :=
  ⟨h.os, h.tape, h.output, h.size, fun k hk h2 => h.block k hk fun e => by have := hv k e.symm; omega⟩
/-- a row outside of lo .. hi -/
theorem Fr.own {lo hi : Nat} {w w' : World} (h : Fr lo hi w w') {base : Nat} {e : TypeId} {m n : Nat} {v : Value} {xs : List Value} (ho : w.ownsRow base e m v n xs) (hv : ∀ g, v.ownBlock = some g → g < lo ∨ hi ≤ g) : w'.ownsRow base e m v n xs := by
  obtain ⟨hl, h0 | ⟨g, cap, cur, rfl, hb, hh, r⟩⟩ := ho
  · exact ⟨hl, Or.inl h0⟩
  · exact ⟨hl, Or.inr ⟨g, cap, cur, rfl, hb, (h.block g (Array.getElem?_eq_some_iff.1 hh).1 (hv g rfl)).trans hh, r⟩⟩

def mk2 (k : Nat) (p : PE) : Nat := k + p.row.length + 2 * p.cells.length
def mk3 (k : Nat) (p : PE) : Nat := mk2 k p + p.early.length
def mk4 (k : Nat) (p : PE) : Nat := mk3 k p + 3 * p.undos.length
def mk5 (k : Nat) (p : PE) : Nat := mk4 k p + 4 * p.votes.length
def mk6 (k : Nat) (p : PE) : Nat := mk5 k p + 13 * p.news.length
/-- its lists together are short -/
def lenPe (p : PE) : Nat := p.row.length + p.cells.length + p.early.length + p.undos.length + p.votes.length + p.news.length
def sumPe (p : PE) : Prop := lenPe p ≤ 3200000 ∧ p.row.length ≤ 1048576 ∧ p.cells.length ≤ 1048576 ∧ p.early.length ≤ 1048576 ∧ p.undos.length ≤ 1048576 ∧ p.votes.length ≤ 1048576 ∧ p.news.length ≤ 1048576

theorem In.at {lo hi : Nat} {w : World} {e : TypeId} {m : Nat} {v : Value} {n : Nat} {xs : List Value} (h : In lo hi w e m v n xs) : ∀ g, v.ownBlock = some g → lo ≤ g ∧ g < hi := fun g hg => ⟨(h.1.lt g hg).1, h.2 g hg⟩
theorem apart_of {a b : Value} {la ha lb hb : Nat} (h1 : ∀ g, a.ownBlock = some g → la ≤ g ∧ g < ha) (h2 : ∀ g, b.ownBlock = some g → lb ≤ g ∧ g < hb) (h : ha ≤ lb ∨ hb ≤ la) : apart a b := fun g e1 e2 => by have := h1 g e1; have := h2 g e2; omega
theorem OwnP.toD {base : Nat} {w : World} {p : PE} {s : PV} (h : OwnP base w p s) : OwnD base w.heap.size w p s := by
  obtain ⟨b1, b2, b3, b4, b5, b6, hl, r0, r1, r2, r3, r4, r5⟩ := h.ex
  have t0 := r0.at
  have t1 := r1.at
  have t2 := r2.at
  have t3 := r3.at
  have t4 := r4.at
  have t5 := r5.at
  refine ⟨⟨own_base r0.1 (by omega), own_base r1.1 (by omega), own_base r2.1 (by omega), own_base r3.1 (by omega), own_base r4.1 (by omega), own_base r5.1 (by omega)⟩, ⟨apart_of t0 t1 (by omega), apart_of t0 t2 (by omega), apart_of t0 t3 (by omega), apart_of t0 t4 (by omega), apart_of t0 t5 (by omega), apart_of t1 t0 (by omega), apart_of t1 t2 (by omega), apart_of t1 t3 (by omega), apart_of t1 t4 (by omega), apart_of t1 t5 (by omega), apart_of t2 t0 (by omega), apart_of t2 t1 (by omega), apart_of t2 t3 (by omega), apart_of t2 t4 (by omega), apart_of t2 t5 (by omega), apart_of t3 t0 (by omega), apart_of t3 t1 (by omega), apart_of t3 t2 (by omega), apart_of t3 t4 (by omega), apart_of t3 t5 (by omega), apart_of t4 t0 (by omega), apart_of t4 t1 (by omega), apart_of t4 t2 (by omega), apart_of t4 t3 (by omega), apart_of t4 t5 (by omega), apart_of t5 t0 (by omega), apart_of t5 t1 (by omega), apart_of t5 t2 (by omega), apart_of t5 t3 (by omega), apart_of t5 t4 (by omega), fun g hg => by have := t0 g hg; omega, fun g hg => by have := t1 g hg; omega, fun g hg => by have := t2 g hg; omega, fun g hg => by have := t3 g hg; omega, fun g hg => by have := t4 g hg; omega, fun g hg => by have := t5 g hg; omega⟩, Nat.le_refl _⟩



end Go.Proofs.YtcfgfhodbjakoavGreatDoor

namespace Go.Proofs.YtcfgfhodbjakoavGreatDoor
open Go.RowKit Num

/-- a replica's zero value -/
def zeroA : Array Value := #[.int .i64 0, .int .i64 0, .int .i64 0, .int .i64 0, .int .i64 0, .int .i64 0, .int .i64 0, .int .i64 0, .int .i64 0, .int .i64 0, .int .i64 0, .int .i64 0, .int .i64 0, .int .i64 0, .slice none 0 0, .slice none 0 0, .slice none 0 0, .slice none 0 0, .slice none 0 0, .slice none 0 0, .int .i64 0]
theorem own_one {w : World} {base n m : Nat} {e : TypeId} {v : Value} {xs : List Value} (h : w.ownsRow base e m v n xs) : v.oneCell' = true := by
  obtain ⟨a, cap, rfl, _⟩ := own_form h
  rfl
theorem peerA_one {lo : Nat} {w : World} {p : PE} {s : PV} {xr xc xe xu xv xn : List Value} (h : Own6 lo w p s xr xc xe xu xv xn) : (peerA p s).all (·.oneCell') = true := by
  obtain ⟨sr, sc, se, su, sv, sn⟩ := s
  obtain ⟨_, _, e1, -⟩ := own_form h.row
  obtain ⟨_, _, e2, -⟩ := own_form h.cells
  obtain ⟨_, _, e3, -⟩ := own_form h.early
  obtain ⟨_, _, e4, -⟩ := own_form h.undos
  obtain ⟨_, _, e5, -⟩ := own_form h.votes
  obtain ⟨_, _, e6, -⟩ := own_form h.news
  change sr = _ at e1
  change sc = _ at e2
  change se = _ at e3
  change su = _ at e4
  change sv = _ at e5
  change sn = _ at e6
  subst e1 e2 e3 e4 e5 e6
  unfold peerA
  simp [Value.oneCell']
theorem Own6.far {lo hi : Nat} {w w' : World} {p : PE} {s : PV} {xr xc xe xu xv xn : List Value} {N : Nat} (h : Own6 lo w p s xr xc xe xu xv xn) (ha : Apart6 lo hi s) (hg : w.grownBy w' (some N)) (hN : N < lo ∨ hi ≤ N) : Own6 lo w' p s xr xc xe xu xv xn := by
  have K : ∀ v : Value, (∀ g, v.ownBlock = some g → lo ≤ g ∧ g < hi) → v.ownBlock = none ∨ v.ownBlock ≠ some N := fun v hv => by
    cases e : v.ownBlock with
    | none => exact Or.inl rfl
    | some g => exact Or.inr fun e2 => by have e2 := Option.some.inj e2; have := hv g e; omega
  exact ⟨World.ownsRow.kept h.row hg (K _ ha.l0), World.ownsRow.kept h.cells hg (K _ ha.l1), World.ownsRow.kept h.early hg (K _ ha.l2), World.ownsRow.kept h.undos hg (K _ ha.l3), World.ownsRow.kept h.votes hg (K _ ha.l4), World.ownsRow.kept h.news hg (K _ ha.l5)⟩
theorem OwnD.far {lo hi : Nat} {w w' : World} {p : PE} {s : PV} {N : Nat} (h : OwnD lo hi w p s) (hg : w.grownBy w' (some N)) (hN : N < lo ∨ hi ≤ N) : OwnD lo hi w' p s := ⟨h.1.far h.2.1 hg hN, h.2.1, Nat.le_trans h.2.2 hg.size⟩
theorem Fr.own6 {a b lo hi : Nat} {w w' : World} (hf : Fr a b w w') {p : PE} {s : PV} {xr xc xe xu xv xn : List Value} (h : Own6 lo w p s xr xc xe xu xv xn) (ha : Apart6 lo hi s) (hN : hi ≤ a ∨ b ≤ lo) : Own6 lo w' p s xr xc xe xu xv xn := by
  have K : ∀ v : Value, (∀ g, v.ownBlock = some g → lo ≤ g ∧ g < hi) → ∀ g, v.ownBlock = some g → g < a ∨ b ≤ g := fun v hv g hg => by have := hv g hg; omega
  exact ⟨hf.own h.row (K _ ha.l0), hf.own h.cells (K _ ha.l1), hf.own h.early (K _ ha.l2), hf.own h.undos (K _ ha.l3), hf.own h.votes (K _ ha.l4), hf.own h.news (K _ ha.l5)⟩

/-- a new replica -/
def newP (id : Int) : PE := ⟨id, 1, (0, 0, 0, 0), (0, 0, 0, 0), (0, 0, 0, 0), [], [], [], [], [], [], 0⟩
def nilS : PV := ⟨.slice none 0 0, .slice none 0 0, .slice none 0 0, .slice none 0 0, .slice none 0 0, .slice none 0 0⟩
theorem nil_own (lo : Nat) (w : World) (id : Int) : OwnD lo w.heap.size w (newP id) nilS := by
  have N : ∀ g, (Value.slice none 0 0).ownBlock ≠ some g := fun g h => by cases h
  refine ⟨⟨World.ownsRow_nil _ _ _ _, World.ownsRow_nil _ _ _ _, World.ownsRow_nil _ _ _ _, World.ownsRow_nil _ _ _ _, World.ownsRow_nil _ _ _ _, World.ownsRow_nil _ _ _ _⟩, ⟨?_, ?_, ?_, ?_, ?_, ?_, ?_, ?_, ?_, ?_, ?_, ?_, ?_, ?_, ?_, ?_, ?_, ?_, ?_, ?_, ?_, ?_, ?_, ?_, ?_, ?_, ?_, ?_, ?_, ?_, ?_, ?_, ?_, ?_, ?_, ?_⟩, Nat.le_refl _⟩ <;> intro g h <;> exact absurd h (N g)
theorem new_small (id : Int) : smallPe (newP id) := ⟨by simp [newP], by simp [newP], by simp [newP], by simp [newP], by simp [newP], by simp [newP], fun c h => by simp [newP] at h, fun c h => by simp [newP] at h⟩
theorem new_sum (id : Int) : sumPe (newP id) := by simp [sumPe, lenPe, newP]


end Go.Proofs.YtcfgfhodbjakoavGreatDoor

namespace Go.Proofs.YtcfgfhodbjakoavGreatDoor
open Go.RowKit Num

theorem apart_new {x v old : Value} {lo hi : Nat} (ha : apart x old) (hx : ∀ g, x.ownBlock = some g → lo ≤ g ∧ g < hi) (hv : ∀ g, v.ownBlock = some g → old.ownBlock = some g ∨ hi ≤ g) : apart x v := fun g e1 e2 => by
  rcases hv g e2 with h | h
  · exact ha g e1 h
  · have := hx g e1; omega
theorem Apart6.wide {lo hi hi' : Nat} {s : PV} (h : Apart6 lo hi s) (hh : hi ≤ hi') : Apart6 lo hi' s :=
  ⟨h.a01, h.a02, h.a03, h.a04, h.a05, h.a10, h.a12, h.a13, h.a14, h.a15, h.a20, h.a21, h.a23, h.a24, h.a25, h.a30, h.a31, h.a32, h.a34, h.a35, h.a40, h.a41, h.a42, h.a43, h.a45, h.a50, h.a51, h.a52, h.a53, h.a54, fun g e => ⟨(h.l0 g e).1, Nat.lt_of_lt_of_le (h.l0 g e).2 hh⟩, fun g e => ⟨(h.l1 g e).1, Nat.lt_of_lt_of_le (h.l1 g e).2 hh⟩, fun g e => ⟨(h.l2 g e).1, Nat.lt_of_lt_of_le (h.l2 g e).2 hh⟩, fun g e => ⟨(h.l3 g e).1, Nat.lt_of_lt_of_le (h.l3 g e).2 hh⟩, fun g e => ⟨(h.l4 g e).1, Nat.lt_of_lt_of_le (h.l4 g e).2 hh⟩, fun g e => ⟨(h.l5 g e).1, Nat.lt_of_lt_of_le (h.l5 g e).2 hh⟩⟩
theorem OwnD.wide {lo hi hi' : Nat} {w : World} {p : PE} {s : PV} (h : OwnD lo hi w p s) (hh : hi ≤ hi') (hs : hi' ≤ w.heap.size) : OwnD lo hi' w p s := ⟨h.1, h.2.1.wide hh, hs⟩
theorem OwnD.other {lo hi : Nat} {w : World} {p q : PE} {s : PV} (h : OwnD lo hi w p s) (e0 : q.row = p.row) (e1 : q.cells = p.cells) (e2 : q.early = p.early) (e3 : q.undos = p.undos) (e4 : q.votes = p.votes) (e5 : q.news = p.news) : OwnD lo hi w q s := by
  obtain ⟨⟨r0, r1, r2, r3, r4, r5⟩, ha, hs⟩ := h
  refine ⟨⟨?_, ?_, ?_, ?_, ?_, ?_⟩, ha, hs⟩
  · rw [e0]; exact r0
  · rw [e1]; exact r1
  · rw [e2]; exact r2
  · rw [e3]; exact r3
  · rw [e4]; exact r4
  · rw [e5]; exact r5
theorem OwnD.low {lo lo' hi : Nat} {w : World} {p : PE} {s : PV} (h : OwnD lo hi w p s) (hl : lo' ≤ lo) : OwnD lo' hi w p s := by
  obtain ⟨⟨r0, r1, r2, r3, r4, r5⟩, ha, hs⟩ := h
  exact ⟨⟨own_base r0 hl, own_base r1 hl, own_base r2 hl, own_base r3 hl, own_base r4 hl, own_base r5 hl⟩, ⟨ha.a01, ha.a02, ha.a03, ha.a04, ha.a05, ha.a10, ha.a12, ha.a13, ha.a14, ha.a15, ha.a20, ha.a21, ha.a23, ha.a24, ha.a25, ha.a30, ha.a31, ha.a32, ha.a34, ha.a35, ha.a40, ha.a41, ha.a42, ha.a43, ha.a45, ha.a50, ha.a51, ha.a52, ha.a53, ha.a54, fun g e => ⟨Nat.le_trans hl (ha.l0 g e).1, (ha.l0 g e).2⟩, fun g e => ⟨Nat.le_trans hl (ha.l1 g e).1, (ha.l1 g e).2⟩, fun g e => ⟨Nat.le_trans hl (ha.l2 g e).1, (ha.l2 g e).2⟩, fun g e => ⟨Nat.le_trans hl (ha.l3 g e).1, (ha.l3 g e).2⟩, fun g e => ⟨Nat.le_trans hl (ha.l4 g e).1, (ha.l4 g e).2⟩, fun g e => ⟨Nat.le_trans hl (ha.l5 g e).1, (ha.l5 g e).2⟩⟩, hs⟩
theorem Apart6.setRow {lo hi hi' : Nat} {s : PV} {v : Value} (h : Apart6 lo hi s) (hh : hi ≤ hi') (hr : ∀ g, v.ownBlock = some g → lo ≤ g ∧ g < hi') (hv : ∀ g, v.ownBlock = some g → s.row.ownBlock = some g ∨ hi ≤ g) : Apart6 lo hi' { s with row := v } :=
  ⟨(apart_new h.a10 h.l1 hv).symm, (apart_new h.a20 h.l2 hv).symm, (apart_new h.a30 h.l3 hv).symm, (apart_new h.a40 h.l4 hv).symm, (apart_new h.a50 h.l5 hv).symm, apart_new h.a10 h.l1 hv, h.a12, h.a13, h.a14, h.a15, apart_new h.a20 h.l2 hv, h.a21, h.a23, h.a24, h.a25, apart_new h.a30 h.l3 hv, h.a31, h.a32, h.a34, h.a35, apart_new h.a40 h.l4 hv, h.a41, h.a42, h.a43, h.a45, apart_new h.a50 h.l5 hv, h.a51, h.a52, h.a53, h.a54, hr, fun g e => ⟨(h.l1 g e).1, Nat.lt_of_lt_of_le (h.l1 g e).2 hh⟩, fun g e => ⟨(h.l2 g e).1, Nat.lt_of_lt_of_le (h.l2 g e).2 hh⟩, fun g e => ⟨(h.l3 g e).1, Nat.lt_of_lt_of_le (h.l3 g e).2 hh⟩, fun g e => ⟨(h.l4 g e).1, Nat.lt_of_lt_of_le (h.l4 g e).2 hh⟩, fun g e => ⟨(h.l5 g e).1, Nat.lt_of_lt_of_le (h.l5 g e).2 hh⟩⟩
theorem OwnD.setRow {lo hi hi' : Nat} {w : World} {p : PE} {s : PV} {v : Value} {l : List (Int)} (h : OwnD lo hi w p s) (hh : hi ≤ hi') (hs : hi' ≤ w.heap.size) (ho : w.ownsRow lo 3 1 v l.length (flatR intF l)) (hr : ∀ g, v.ownBlock = some g → g < hi') (hv : ∀ g, v.ownBlock = some g → s.row.ownBlock = some g ∨ hi ≤ g) : OwnD lo hi' w { p with row := l } { s with row := v } :=
  ⟨⟨ho, h.1.cells, h.1.early, h.1.undos, h.1.votes, h.1.news⟩, h.2.1.setRow hh (fun g e => ⟨(ho.lt g e).1, hr g e⟩) hv, hs⟩
theorem Apart6.setCells {lo hi hi' : Nat} {s : PV} {v : Value} (h : Apart6 lo hi s) (hh : hi ≤ hi') (hr : ∀ g, v.ownBlock = some g → lo ≤ g ∧ g < hi') (hv : ∀ g, v.ownBlock = some g → s.cells.ownBlock = some g ∨ hi ≤ g) : Apart6 lo hi' { s with cells := v } :=
  ⟨apart_new h.a01 h.l0 hv, h.a02, h.a03, h.a04, h.a05, (apart_new h.a01 h.l0 hv).symm, (apart_new h.a21 h.l2 hv).symm, (apart_new h.a31 h.l3 hv).symm, (apart_new h.a41 h.l4 hv).symm, (apart_new h.a51 h.l5 hv).symm, h.a20, apart_new h.a21 h.l2 hv, h.a23, h.a24, h.a25, h.a30, apart_new h.a31 h.l3 hv, h.a32, h.a34, h.a35, h.a40, apart_new h.a41 h.l4 hv, h.a42, h.a43, h.a45, h.a50, apart_new h.a51 h.l5 hv, h.a52, h.a53, h.a54, fun g e => ⟨(h.l0 g e).1, Nat.lt_of_lt_of_le (h.l0 g e).2 hh⟩, hr, fun g e => ⟨(h.l2 g e).1, Nat.lt_of_lt_of_le (h.l2 g e).2 hh⟩, fun g e => ⟨(h.l3 g e).1, Nat.lt_of_lt_of_le (h.l3 g e).2 hh⟩, fun g e => ⟨(h.l4 g e).1, Nat.lt_of_lt_of_le (h.l4 g e).2 hh⟩, fun g e => ⟨(h.l5 g e).1, Nat.lt_of_lt_of_le (h.l5 g e).2 hh⟩⟩
theorem OwnD.setCells {lo hi hi' : Nat} {w : World} {p : PE} {s : PV} {v : Value} {l : List (ByteArray × Int)} (h : OwnD lo hi w p s) (hh : hi ≤ hi') (hs : hi' ≤ w.heap.size) (ho : w.ownsRow lo 195 2 v l.length (flat l)) (hr : ∀ g, v.ownBlock = some g → g < hi') (hv : ∀ g, v.ownBlock = some g → s.cells.ownBlock = some g ∨ hi ≤ g) : OwnD lo hi' w { p with cells := l } { s with cells := v } :=
  ⟨⟨h.1.row, ho, h.1.early, h.1.undos, h.1.votes, h.1.news⟩, h.2.1.setCells hh (fun g e => ⟨(ho.lt g e).1, hr g e⟩) hv, hs⟩
theorem Apart6.setEarly {lo hi hi' : Nat} {s : PV} {v : Value} (h : Apart6 lo hi s) (hh : hi ≤ hi') (hr : ∀ g, v.ownBlock = some g → lo ≤ g ∧ g < hi') (hv : ∀ g, v.ownBlock = some g → s.early.ownBlock = some g ∨ hi ≤ g) : Apart6 lo hi' { s with early := v } :=
  ⟨h.a01, apart_new h.a02 h.l0 hv, h.a03, h.a04, h.a05, h.a10, apart_new h.a12 h.l1 hv, h.a13, h.a14, h.a15, (apart_new h.a02 h.l0 hv).symm, (apart_new h.a12 h.l1 hv).symm, (apart_new h.a32 h.l3 hv).symm, (apart_new h.a42 h.l4 hv).symm, (apart_new h.a52 h.l5 hv).symm, h.a30, h.a31, apart_new h.a32 h.l3 hv, h.a34, h.a35, h.a40, h.a41, apart_new h.a42 h.l4 hv, h.a43, h.a45, h.a50, h.a51, apart_new h.a52 h.l5 hv, h.a53, h.a54, fun g e => ⟨(h.l0 g e).1, Nat.lt_of_lt_of_le (h.l0 g e).2 hh⟩, fun g e => ⟨(h.l1 g e).1, Nat.lt_of_lt_of_le (h.l1 g e).2 hh⟩, hr, fun g e => ⟨(h.l3 g e).1, Nat.lt_of_lt_of_le (h.l3 g e).2 hh⟩, fun g e => ⟨(h.l4 g e).1, Nat.lt_of_lt_of_le (h.l4 g e).2 hh⟩, fun g e => ⟨(h.l5 g e).1, Nat.lt_of_lt_of_le (h.l5 g e).2 hh⟩⟩
theorem OwnD.setEarly {lo hi hi' : Nat} {w : World} {p : PE} {s : PV} {v : Value} {l : List (Int)} (h : OwnD lo hi w p s) (hh : hi ≤ hi') (hs : hi' ≤ w.heap.size) (ho : w.ownsRow lo 3 1 v l.length (flatR intF l)) (hr : ∀ g, v.ownBlock = some g → g < hi') (hv : ∀ g, v.ownBlock = some g → s.early.ownBlock = some g ∨ hi ≤ g) : OwnD lo hi' w { p with early := l } { s with early := v } :=
  ⟨⟨h.1.row, h.1.cells, ho, h.1.undos, h.1.votes, h.1.news⟩, h.2.1.setEarly hh (fun g e => ⟨(ho.lt g e).1, hr g e⟩) hv, hs⟩
theorem Apart6.setUndos {lo hi hi' : Nat} {s : PV} {v : Value} (h : Apart6 lo hi s) (hh : hi ≤ hi') (hr : ∀ g, v.ownBlock = some g → lo ≤ g ∧ g < hi') (hv : ∀ g, v.ownBlock = some g → s.undos.ownBlock = some g ∨ hi ≤ g) : Apart6 lo hi' { s with undos := v } :=
  ⟨h.a01, h.a02, apart_new h.a03 h.l0 hv, h.a04, h.a05, h.a10, h.a12, apart_new h.a13 h.l1 hv, h.a14, h.a15, h.a20, h.a21, apart_new h.a23 h.l2 hv, h.a24, h.a25, (apart_new h.a03 h.l0 hv).symm, (apart_new h.a13 h.l1 hv).symm, (apart_new h.a23 h.l2 hv).symm, (apart_new h.a43 h.l4 hv).symm, (apart_new h.a53 h.l5 hv).symm, h.a40, h.a41, h.a42, apart_new h.a43 h.l4 hv, h.a45, h.a50, h.a51, h.a52, apart_new h.a53 h.l5 hv, h.a54, fun g e => ⟨(h.l0 g e).1, Nat.lt_of_lt_of_le (h.l0 g e).2 hh⟩, fun g e => ⟨(h.l1 g e).1, Nat.lt_of_lt_of_le (h.l1 g e).2 hh⟩, fun g e => ⟨(h.l2 g e).1, Nat.lt_of_lt_of_le (h.l2 g e).2 hh⟩, hr, fun g e => ⟨(h.l4 g e).1, Nat.lt_of_lt_of_le (h.l4 g e).2 hh⟩, fun g e => ⟨(h.l5 g e).1, Nat.lt_of_lt_of_le (h.l5 g e).2 hh⟩⟩
theorem OwnD.setUndos {lo hi hi' : Nat} {w : World} {p : PE} {s : PV} {v : Value} {l : List (UN)} (h : OwnD lo hi w p s) (hh : hi ≤ hi') (hs : hi' ≤ w.heap.size) (ho : w.ownsRow lo 197 3 v l.length (flatR undoF l)) (hr : ∀ g, v.ownBlock = some g → g < hi') (hv : ∀ g, v.ownBlock = some g → s.undos.ownBlock = some g ∨ hi ≤ g) : OwnD lo hi' w { p with undos := l } { s with undos := v } :=
  ⟨⟨h.1.row, h.1.cells, h.1.early, ho, h.1.votes, h.1.news⟩, h.2.1.setUndos hh (fun g e => ⟨(ho.lt g e).1, hr g e⟩) hv, hs⟩
theorem Apart6.setVotes {lo hi hi' : Nat} {s : PV} {v : Value} (h : Apart6 lo hi s) (hh : hi ≤ hi') (hr : ∀ g, v.ownBlock = some g → lo ≤ g ∧ g < hi') (hv : ∀ g, v.ownBlock = some g → s.votes.ownBlock = some g ∨ hi ≤ g) : Apart6 lo hi' { s with votes := v } :=
  ⟨h.a01, h.a02, h.a03, apart_new h.a04 h.l0 hv, h.a05, h.a10, h.a12, h.a13, apart_new h.a14 h.l1 hv, h.a15, h.a20, h.a21, h.a23, apart_new h.a24 h.l2 hv, h.a25, h.a30, h.a31, h.a32, apart_new h.a34 h.l3 hv, h.a35, (apart_new h.a04 h.l0 hv).symm, (apart_new h.a14 h.l1 hv).symm, (apart_new h.a24 h.l2 hv).symm, (apart_new h.a34 h.l3 hv).symm, (apart_new h.a54 h.l5 hv).symm, h.a50, h.a51, h.a52, h.a53, apart_new h.a54 h.l5 hv, fun g e => ⟨(h.l0 g e).1, Nat.lt_of_lt_of_le (h.l0 g e).2 hh⟩, fun g e => ⟨(h.l1 g e).1, Nat.lt_of_lt_of_le (h.l1 g e).2 hh⟩, fun g e => ⟨(h.l2 g e).1, Nat.lt_of_lt_of_le (h.l2 g e).2 hh⟩, fun g e => ⟨(h.l3 g e).1, Nat.lt_of_lt_of_le (h.l3 g e).2 hh⟩, hr, fun g e => ⟨(h.l5 g e).1, Nat.lt_of_lt_of_le (h.l5 g e).2 hh⟩⟩
theorem OwnD.setVotes {lo hi hi' : Nat} {w : World} {p : PE} {s : PV} {v : Value} {l : List (VT)} (h : OwnD lo hi w p s) (hh : hi ≤ hi') (hs : hi' ≤ w.heap.size) (ho : w.ownsRow lo 46 4 v l.length (flatR voteF l)) (hr : ∀ g, v.ownBlock = some g → g < hi') (hv : ∀ g, v.ownBlock = some g → s.votes.ownBlock = some g ∨ hi ≤ g) : OwnD lo hi' w { p with votes := l } { s with votes := v } :=
  ⟨⟨h.1.row, h.1.cells, h.1.early, h.1.undos, ho, h.1.news⟩, h.2.1.setVotes hh (fun g e => ⟨(ho.lt g e).1, hr g e⟩) hv, hs⟩
theorem Apart6.setNews {lo hi hi' : Nat} {s : PV} {v : Value} (h : Apart6 lo hi s) (hh : hi ≤ hi') (hr : ∀ g, v.ownBlock = some g → lo ≤ g ∧ g < hi') (hv : ∀ g, v.ownBlock = some g → s.news.ownBlock = some g ∨ hi ≤ g) : Apart6 lo hi' { s with news := v } :=
  ⟨h.a01, h.a02, h.a03, h.a04, apart_new h.a05 h.l0 hv, h.a10, h.a12, h.a13, h.a14, apart_new h.a15 h.l1 hv, h.a20, h.a21, h.a23, h.a24, apart_new h.a25 h.l2 hv, h.a30, h.a31, h.a32, h.a34, apart_new h.a35 h.l3 hv, h.a40, h.a41, h.a42, h.a43, apart_new h.a45 h.l4 hv, (apart_new h.a05 h.l0 hv).symm, (apart_new h.a15 h.l1 hv).symm, (apart_new h.a25 h.l2 hv).symm, (apart_new h.a35 h.l3 hv).symm, (apart_new h.a45 h.l4 hv).symm, fun g e => ⟨(h.l0 g e).1, Nat.lt_of_lt_of_le (h.l0 g e).2 hh⟩, fun g e => ⟨(h.l1 g e).1, Nat.lt_of_lt_of_le (h.l1 g e).2 hh⟩, fun g e => ⟨(h.l2 g e).1, Nat.lt_of_lt_of_le (h.l2 g e).2 hh⟩, fun g e => ⟨(h.l3 g e).1, Nat.lt_of_lt_of_le (h.l3 g e).2 hh⟩, fun g e => ⟨(h.l4 g e).1, Nat.lt_of_lt_of_le (h.l4 g e).2 hh⟩, hr⟩
theorem OwnD.setNews {lo hi hi' : Nat} {w : World} {p : PE} {s : PV} {v : Value} {l : List (LT)} (h : OwnD lo hi w p s) (hh : hi ≤ hi') (hs : hi' ≤ w.heap.size) (ho : w.ownsRow lo 48 13 v l.length (flatR letF l)) (hr : ∀ g, v.ownBlock = some g → g < hi') (hv : ∀ g, v.ownBlock = some g → s.news.ownBlock = some g ∨ hi ≤ g) : OwnD lo hi' w { p with news := l } { s with news := v } :=
  ⟨⟨h.1.row, h.1.cells, h.1.early, h.1.undos, h.1.votes, ho⟩, h.2.1.setNews hh (fun g e => ⟨(ho.lt g e).1, hr g e⟩) hv, hs⟩
/-- a row is no box -/
theorem row_not_box {w : World} {base n m N : Nat} {e T : TypeId} {v : Value} {xs : List Value} {A : Array Value} {fz : Nat × Nat} (h : w.ownsRow base e m v n xs) (hN : w.heap[N]? = some (.cells A T fz)) (hne : e ≠ T) : v.ownBlock = none ∨ v.ownBlock ≠ some N := by
  cases e2 : v.ownBlock with
  | none => exact Or.inl rfl
  | some g =>
    refine Or.inr fun e3 => ?_
    obtain rfl := Option.some.inj e3
    obtain ⟨_, ⟨rfl, _⟩ | ⟨g', cap, cur, rfl, _, hh, _⟩⟩ := h
    · cases e2
    · obtain rfl : g' = g := Option.some.inj e2
      rw [hN] at hh
      injection hh with hh
      injection hh with _ hh
      exact hne hh.symm
theorem OwnD.boxed {lo hi N : Nat} {w w' : World} {p : PE} {s : PV} {A : Array Value} (h : OwnD lo hi w p s) (hN : w.heap[N]? = some (.cells A 124 (0, 0))) (hg : w.grownBy w' (some N)) : OwnD lo hi w' p s :=
  ⟨⟨World.ownsRow.kept h.1.row hg (row_not_box h.1.row hN (by decide)), World.ownsRow.kept h.1.cells hg (row_not_box h.1.cells hN (by decide)), World.ownsRow.kept h.1.early hg (row_not_box h.1.early hN (by decide)), World.ownsRow.kept h.1.undos hg (row_not_box h.1.undos hN (by decide)), World.ownsRow.kept h.1.votes hg (row_not_box h.1.votes hN (by decide)), World.ownsRow.kept h.1.news hg (row_not_box h.1.news hN (by decide))⟩, h.2.1, Nat.le_trans h.2.2 hg.size⟩

/-- a struct loaded where a guard lets it -/
theorem wpList_load_row_w {P : Program} {ops : Array Oper} {rest : List Oper} {o : Oper} {a : Act} {w : World} {Q : Exit → Act → World → Prop} (hw : Region.wanted o (yielded ops a.tmps) = true) (ty : TypeId) (x : Operand) (ho : o.op = .load ty x)
    (g : Nat) (hx : a.eval x = .pointer (some ⟨g, 0, none⟩)) (t : TypeId) (cs : Array Value) (fr : Nat × Nat) (d : TypeDesc) (hg : w.heap[g]? = some (.cells cs t fr))
    (hu : P.underlying ty = some d) (hd : (match d with | .struct _ | .array _ _ => true | _ => false) = true) (hi : (P.info? ty).map (·.size) = some cs.size)
    (h : wpList P ops Q rest (a.put o.dst (.agg cs)) w) : wpList P ops Q (o :: rest) a w :=
  wpList_step fun K hK => by rw [if_pos hw]; exact wp_load_row ty x ho g hx t cs fr d hg hu hd hi (hK _ _ h)

end Go.Proofs.YtcfgfhodbjakoavGreatDoor

namespace Go.Proofs.YtcfgfhodbjakoavGreatDoor
open Go.ChangeShapes Go.WideShapes Go.ChangeAt Go.RowKit Num

/-- replicas, each with its slices -/
abbrev PL := List (PE × PV)
def pes (ps : PL) : List PE := ps.map Prod.fst
theorem pes_len (ps : PL) : (pes ps).length = ps.length := by simp [pes]
theorem pes_at {ps : PL} {i : Nat} (h : i < ps.length) : (pes ps)[i]'(by rw [pes_len]; exact h) = ps[i].1 := by simp [pes]
theorem pes_snoc (ps : PL) (x : PE × PV) : pes (ps ++ [x]) = pes ps ++ [x.1] := by simp [pes]
def peerF (x : PE × PV) : List Value := peerL x.1 x.2
theorem peerF_len (x : PE × PV) : (peerF x).length = 21 := rfl
/-- replicas that can be read -/
structure PeersR (w : World) (v : Value) (ps : PL) : Prop where
  row : RowsR w v 21 peerF ps
  each : ∀ x ∈ ps, PeerR w x.1 x.2
theorem PeersR.below {w w' : World} {v : Value} {ps : PL} (h : PeersR w v ps) (hb : Below w.heap.size w w') : PeersR w' v ps := ⟨h.row.below hb, fun x hx => (h.each x hx).below hb⟩
/-- the six slices of one replica and those of another have no block in common -/
def six (s : PV) : List Value := [s.row, s.cells, s.early, s.undos, s.votes, s.news]
def apartP (s t : PV) : Prop := ∀ a ∈ six s, ∀ b ∈ six t, apart a b
theorem apartP.symm {s t : PV} (h : apartP s t) : apartP t s := fun a ha b hb => (h b hb a ha).symm
theorem six_in {lo hi : Nat} {s : PV} (h : Apart6 lo hi s) : ∀ a ∈ six s, ∀ g, a.ownBlock = some g → lo ≤ g ∧ g < hi := by
  intro a ha
  simp only [six, List.mem_cons, List.not_mem_nil, or_false] at ha
  rcases ha with rfl | rfl | rfl | rfl | rfl | rfl
  · exact h.l0
  · exact h.l1
  · exact h.l2
  · exact h.l3
  · exact h.l4
  · exact h.l5
theorem apartP_of {la ha lb hb : Nat} {s t : PV} (h1 : Apart6 la ha s) (h2 : Apart6 lb hb t) (h : ha ≤ lb ∨ hb ≤ la) : apartP s t := fun a m b n => apart_of (six_in h1 a m) (six_in h2 b n) h
/-- replicas whose lists are the call's own, each apart -/
structure OwnE (lo : Nat) (w : World) (ps : PL) : Prop where
  each : ∀ x ∈ ps, OwnD lo w.heap.size w x.1 x.2
  apart : ps.Pairwise fun x y => apartP x.2 y.2
theorem OwnE.nil (lo : Nat) (w : World) : OwnE lo w [] := ⟨fun x h => (by cases h), List.Pairwise.nil⟩
theorem OwnE.below {lo : Nat} {w w' : World} {ps : PL} (h : OwnE lo w ps) (hb : Below w.heap.size w w') : OwnE lo w' ps := ⟨fun x hx => ((h.each x hx).below hb).wide hb.size (Nat.le_refl _), h.apart⟩
theorem OwnE.low {lo lo' : Nat} {w : World} {ps : PL} (h : OwnE lo w ps) (hl : lo' ≤ lo) : OwnE lo' w ps := ⟨fun x hx => (h.each x hx).low hl, h.apart⟩
theorem OwnE.boxed {lo N : Nat} {w w' : World} {ps : PL} {A : Array Value} (h : OwnE lo w ps) (hN : w.heap[N]? = some (.cells A 124 (0, 0))) (hg : w.grownBy w' (some N)) : OwnE lo w' ps :=
  ⟨fun x hx => ((h.each x hx).boxed hN hg).wide hg.size (Nat.le_refl _), h.apart⟩
theorem OwnE.push {lo hi lo2 hi2 : Nat} {w : World} {ps : PL} {p : PE} {s : PV} (h : OwnE lo w ps) (hx : OwnD lo2 hi2 w p s) (hl : lo ≤ lo2) (hb : ∀ x ∈ ps, Apart6 lo hi x.2) (hh : hi ≤ lo2) : OwnE lo w (ps ++ [(p, s)]) := by
  refine ⟨fun x hx' => ?_, ?_⟩
  · rcases List.mem_append.1 hx' with h' | h'
    · exact h.each x h'
    · simp at h'
      subst h'
      exact (hx.wide hx.2.2 (Nat.le_refl _)).low hl
  · rw [List.pairwise_append]
    refine ⟨h.apart, by simp, fun x hx' y hy => ?_⟩
    simp at hy
    subst hy
    exact apartP_of (hb x hx') hx.2.1 (Or.inl hh)
/-- replicas of the call's own, their row too -/
structure OwnPs (lo : Nat) (w : World) (v : Value) (ps : PL) : Prop where
  row : w.ownsRow lo 124 21 v ps.length (flatR peerF ps)
  own : OwnE lo w ps
theorem OwnPs.reads {lo : Nat} {w : World} {v : Value} {ps : PL} (h : OwnPs lo w v ps) : PeersR w v ps := ⟨rows_of_own peerF_len h.row, fun x hx => (h.own.each x hx).reads⟩
theorem OwnPs.below {lo : Nat} {w w' : World} {v : Value} {ps : PL} (h : OwnPs lo w v ps) (hb : Below w.heap.size w w') : OwnPs lo w' v ps := ⟨own_kept h.row hb, h.own.below hb⟩
theorem OwnPs.low {lo lo' : Nat} {w : World} {v : Value} {ps : PL} (h : OwnPs lo w v ps) (hl : lo' ≤ lo) : OwnPs lo' w v ps := ⟨own_base h.row hl, h.own.low hl⟩
/-- these have been set, whatever else stands behind them -/
def preR {α : Type} (f : α → List Value) (qs : List α) (xs : List Value) : Prop := ∃ ys, xs = flatR f qs ++ ys
theorem preR_step {α : Type} {f : α → List Value} {m : Nat} (hm : ∀ x, (f x).length = m) {qs : List α} {xs : List Value} {k : Nat} (h : preR f qs xs) (hq : qs.length = k) (x : α) : preR f (qs ++ [x]) (setEl xs k m (f x)) := by
  obtain ⟨ys, rfl⟩ := h
  have hf := flatR_len hm qs
  refine ⟨(flatR f qs ++ ys).drop (k * m + m), ?_⟩
  unfold setEl
  rw [flatR_append, List.take_append_of_le_length (by rw [hf, hq]; exact Nat.le_refl _), List.take_of_length_le (by rw [hf, hq]; exact Nat.le_refl _)]
  simp [flatR]
theorem preR_all {α : Type} {f : α → List Value} {m : Nat} (hm : ∀ x, (f x).length = m) {qs : List α} {xs : List Value} (h : preR f qs xs) (hx : xs.length = qs.length * m) : xs = flatR f qs := by
  obtain ⟨ys, rfl⟩ := h
  rw [List.length_append, flatR_len hm] at hx
  obtain rfl : ys = [] := List.eq_nil_of_length_eq_zero (by omega)
  simp
theorem range_el {α : Type} {f : α → List Value} {m : Nat} {w w' : World} {g off n i : Nat} {xs : List α} (hb : Below n w w') (hg : g < n) (hc : ∀ i (h : i < xs.length) j, j < m → w.cell? ⟨g, off + i * m + j, none⟩ = (f xs[i])[j]?) (hi : i < xs.length) (hm : ∀ x, (f x).length = m) : w'.rangeAt g (off + i * m) (f xs[i]) := fun j v hj => by
  rw [hb.cell (by exact hg), hc i hi j (by rw [← hm xs[i]]; exact (List.getElem?_eq_some_iff.1 hj).1)]
  exact hj
theorem range_below {w w' : World} {g o n : Nat} {cs : List Value} (hb : Below n w w') (hg : g < n) (h : w.rangeAt g o cs) : w'.rangeAt g o cs := fun j v hj => by rw [hb.cell (by exact hg)]; exact h j v hj
/-- how many their lists have together -/
def lenPs : List PE → Nat
  | [] => 0
  | p :: l => lenPe p + lenPs l
theorem lenPs_drop (l : List PE) (k : Nat) (h : k < l.length) : lenPs (l.drop k) = lenPe l[k] + lenPs (l.drop (k + 1)) := by rw [List.drop_eq_getElem_cons h]; rfl

set_option maxRecDepth 100000 in
theorem peers_open {H : Type} {enc : TypeId × Value → H} {W : World} {a : Option Addr} {len cap : Nat} {d : DataW H} {p : List MemPlace} (h : DataW.Trod enc Tryz.prog W 0 (fun _ => true) true 23 (.slice a len cap) d p) :
    ∃ ps : PL, ps.length = len ∧ PeersR W (.slice a len cap) ps ∧ ps.length ≤ maxLen ∧ ∀ x ∈ ps, goodPe x.1 := by
  obtain ⟨ps, h1, h2, h3, h4⟩ := rows_open (good := fun x => PeerR W x.1 x.2 ∧ goodPe x.1) (f := peerF) (m := 21) Tryz.underlying23 (by kernel_rfl) (by decide) (fun n cs x hx => by obtain ⟨p, s, h1, h2, h3⟩ := peer_rd n cs x hx; exact ⟨(p, s), h1, h2, h3⟩) h
  exact ⟨ps, h1, ⟨h2, fun x hx => (h4 x hx).1⟩, h3, fun x hx => (h4 x hx).2⟩

end Go.Proofs.YtcfgfhodbjakoavGreatDoor
