/-
  Texts of ours that later ones lean on, in one: 16, one behind the other.
-/
import Derived.Test.YtjieklilojmifatJ1
import Derived.Deep.MidRow
import Derived.Test.YtjieklilojmifatJ0
import Derived.Laws.Cover1
import Derived.BigQuiet
import Derived.Laws.AppendOwn
import Derived.OwnWalk
import Derived.Laws.StructEq
namespace Go.Proofs.Ytjieklilojmifat
open Go.RowKit Num

theorem apart_new {x v old : Value} {lo hi : Nat} (ha : apart x old) (hx : ∀ g, x.ownBlock = some g → lo ≤ g ∧ g < hi) (hv : ∀ g, v.ownBlock = some g → old.ownBlock = some g ∨ hi ≤ g) : apart x v := fun g e1 e2 => by
  rcases hv g e2 with h | h
  · exact ha g e1 h
  · have := hx g e1; omega
theorem Apart6.wide {lo hi hi' : Nat} {s : PV} (h : Apart6 lo hi s) (hh : hi ≤ hi') : Apart6 lo hi' s :=
  ⟨h.a01, h.a02, h.a03, h.a04, h.a05, h.a10, h.a12, h.a13, h.a14, h.a15, h.a20, h.a21, h.a23, h.a24, h.a25, h.a30, h.a31, h.a32, h.a34, h.a35, h.a40, h.a41, h.a42, h.a43, h.a45, h.a50, h.a51, h.a52, h.a53, h.a54, fun g e => ⟨(h.l0 g e).1, Nat.lt_of_lt_of_le (h.l0 g e).2 hh⟩, fun g e => ⟨(h.l1 g e).1, Nat.lt_of_lt_of_le (h.l1 g e).2 hh⟩, fun g e => ⟨(h.l2 g e).1, Nat.lt_of_lt_of_le (h.l2 g e).2 hh⟩, fun g e => ⟨(h.l3 g e).1, Nat.lt_of_lt_of_le (h.l3 g e).2 hh⟩, fun g e => ⟨(h.l4 g e).1, Nat.lt_of_lt_of_le (h.l4 g e).2 hh⟩, fun g e => ⟨(h.l5 g e).1, Nat.lt_of_lt_of_le (h.l5 g e).2 hh⟩⟩
theorem OwnD.wide {lo hi hi' : Nat} {w : World} {p : PE} {s : PV} (h : OwnD lo hi w p s) (hh : hi ≤ hi') (hs : hi' ≤ w.heap.size) : OwnD lo hi' w p s := ⟨h.1, h.2.1.wide hh, hs⟩
theorem OwnD.other {lo hi : Nat} {w : World} {p q : PE} {s : PV} (h : OwnD lo hi w p s) (e0 : q.row = p.row) (e1 : q.cells = p.cells) (e2 : q.early = p.early) (e3 : q.undos = p.undos) (e4 : q.votes = p.votes) (e5 : q.news = p.news) : OwnD lo hi w q s := by
  obtain ⟨⟨r0, r1, r2, r3, r4, r5⟩, ha, hs⟩ := h
  refine ⟨⟨?_, ?_, ?_, ?_, ?_, ?_⟩, ha, hs⟩
  · rw [e0]; exact r0
  · rw [e1]; exact r1
  · rw [e2]; exact r2
  · rw [e3]; exact r3
  · rw [e4]; exact r4
  · rw [e5]; exact r5
theorem OwnD.low {lo lo' hi : Nat} {w : World} {p : PE} {s : PV} (h : OwnD lo hi w p s) (hl : lo' ≤ lo) : OwnD lo' hi w p s := by
  obtain ⟨⟨r0, r1, r2, r3, r4, r5⟩, ha, hs⟩ := h
  exact ⟨⟨own_base r0 hl, own_base r1 hl, own_base r2 hl, own_base r3 hl, own_base r4 hl, own_base r5 hl⟩, ⟨ha.a01, ha.a02, ha.a03, ha.a04, ha.a05, ha.a10, ha.a12, ha.a13, ha.a14, ha.a15, ha.a20, ha.a21, ha.a23, ha.a24, ha.a25, ha.a30, ha.a31, ha.a32, ha.a34, ha.a35, ha.a40, ha.a41, ha.a42, ha.a43, ha.a45, ha.a50, ha.a51, ha.a52, ha.a53, ha.a54, fun g e => ⟨Nat.le_trans hl (ha.l0 g e).1, (ha.l0 g e).2⟩, fun g e => ⟨Nat.le_trans hl (ha.l1 g e).1, (ha.l1 g e).2⟩, fun g e => ⟨Nat.le_trans hl (ha.l2 g e).1, (ha.l2 g e).2⟩, fun g e => ⟨Nat.le_trans hl (ha.l3 g e).1, (ha.l3 g e).2⟩, fun g e => ⟨Nat.le_trans hl (ha.l4 g e).1, (ha.l4 g e).2⟩, fun g e => ⟨Nat.le_trans hl (ha.l5 g e).1, (ha.l5 g e).2⟩⟩, hs⟩
theorem Apart6.setRow {lo hi hi' : Nat} {s : PV} {v : Value} (h : Apart6 lo hi s) (hh : hi ≤ hi') (hr : ∀ g, v.ownBlock = some g → lo ≤ g ∧ g < hi') (hv : ∀ g, v.ownBlock = some g → s.row.ownBlock = some g ∨ hi ≤ g) : Apart6 lo hi' { s with row := v } :=
  ⟨(apart_new h.a10 h.l1 hv).symm, (apart_new h.a20 h.l2 hv).symm, (apart_new h.a30 h.l3 hv).symm, (apart_new h.a40 h.l4 hv).symm, (apart_new h.a50 h.l5 hv).symm, apart_new h.a10 h.l1 hv, h.a12, h.a13, h.a14, h.a15, apart_new h.a20 h.l2 hv, h.a21, h.a23, h.a24, h.a25, apart_new h.a30 h.l3 hv, h.a31, h.a32, h.a34, h.a35, apart_new h.a40 h.l4 hv, h.a41, h.a42, h.a43, h.a45, apart_new h.a50 h.l5 hv, h.a51, h.a52, h.a53, h.a54, hr, fun g e => ⟨(h.l1 g e).1, Nat.lt_of_lt_of_le (h.l1 g e).2 hh⟩, fun g e => ⟨(h.l2 g e).1, Nat.lt_of_lt_of_le (h.l2 g e).2 hh⟩, fun g e => ⟨(h.l3 g e).1, Nat.lt_of_lt_of_le (h.l3 g e).2 hh⟩, fun g e => ⟨(h.l4 g e).1, Nat.lt_of_lt_of_le (h.l4 g e).2 hh⟩, fun g e => ⟨(h.l5 g e).1, Nat.lt_of_lt_of_le (h.l5 g e).2 hh⟩⟩
theorem OwnD.setRow {lo hi hi' : Nat} {w : World} {p : PE} {s : PV} {v : Value} {l : List (Int)} (h : OwnD lo hi w p s) (hh : hi ≤ hi') (hs : hi' ≤ w.heap.size) (ho : w.ownsRow lo 3 1 v l.length (flatR intF l)) (hr : ∀ g, v.ownBlock = some g → g < hi') (hv : ∀ g, v.ownBlock = some g → s.row.ownBlock = some g ∨ hi ≤ g) : OwnD lo hi' w { p with row := l } { s with row := v } :=
  ⟨⟨ho, h.1.cells, h.1.early, h.1.undos, h.1.votes, h.1.news⟩, h.2.1.setRow hh (fun g e => ⟨(ho.lt g e).1, hr g e⟩) hv, hs⟩
theorem Apart6.setCells {lo hi hi' : Nat} {s : PV} {v : Value} (h : Apart6 lo hi s) (hh : hi ≤ hi') (hr : ∀ g, v.ownBlock = some g → lo ≤ g ∧ g < hi') (hv : ∀ g, v.ownBlock = some g → s.cells.ownBlock = some g ∨ hi ≤ g) : Apart6 lo hi' { s with cells := v } :=
  ⟨apart_new h.a01 h.l0 hv, h.a02, h.a03, h.a04, h.a05, (apart_new h.a01 h.l0 hv).symm, (apart_new h.a21 h.l2 hv).symm, (apart_new h.a31 h.l3 hv).symm, (apart_new h.a41 h.l4 hv).symm, (apart_new h.a51 h.l5 hv).symm, h.a20, apart_new h.a21 h.l2 hv, h.a23, h.a24, h.a25, h.a30, apart_new h.a31 h.l3 hv, h.a32, h.a34, h.a35, h.a40, apart_new h.a41 h.l4 hv, h.a42, h.a43, h.a45, h.a50, apart_new h.a51 h.l5 hv, h.a52, h.a53, h.a54, fun g e => ⟨(h.l0 g e).1, Nat.lt_of_lt_of_le (h.l0 g e).2 hh⟩, hr, fun g e => ⟨(h.l2 g e).1, Nat.lt_of_lt_of_le (h.l2 g e).2 hh⟩, fun g e => ⟨(h.l3 g e).1, Nat.lt_of_lt_of_le (h.l3 g e).2 hh⟩, fun g e => ⟨(h.l4 g e).1, Nat.lt_of_lt_of_le (h.l4 g e).2 hh⟩, fun g e => ⟨(h.l5 g e).1, Nat.lt_of_lt_of_le (h.l5 g e).2 hh⟩⟩
theorem OwnD.setCells {lo hi hi' : Nat} {w : World} {p : PE} {s : PV} {v : Value} {l : List (ByteArray × Int)} (h : OwnD lo hi w p s) (hh : hi ≤ hi') (hs : hi' ≤ w.heap.size) (ho : w.ownsRow lo 113 2 v l.length (flat l)) (hr : ∀ g, v.ownBlock = some g → g < hi') (hv : ∀ g, v.ownBlock = some g → s.cells.ownBlock = some g ∨ hi ≤ g) : OwnD lo hi' w { p with cells := l } { s with cells := v } :=
  ⟨⟨h.1.row, ho, h.1.early, h.1.undos, h.1.votes, h.1.news⟩, h.2.1.setCells hh (fun g e => ⟨(ho.lt g e).1, hr g e⟩) hv, hs⟩
theorem Apart6.setEarly {lo hi hi' : Nat} {s : PV} {v : Value} (h : Apart6 lo hi s) (hh : hi ≤ hi') (hr : ∀ g, v.ownBlock = some g → lo ≤ g ∧ g < hi') (hv : ∀ g, v.ownBlock = some g → s.early.ownBlock = some g ∨ hi ≤ g) : Apart6 lo hi' { s with early := v } :=
  ⟨h.a01, apart_new h.a02 h.l0 hv, h.a03, h.a04, h.a05, h.a10, apart_new h.a12 h.l1 hv, h.a13, h.a14, h.a15, (apart_new h.a02 h.l0 hv).symm, (apart_new h.a12 h.l1 hv).symm, (apart_new h.a32 h.l3 hv).symm, (apart_new h.a42 h.l4 hv).symm, (apart_new h.a52 h.l5 hv).symm, h.a30, h.a31, apart_new h.a32 h.l3 hv, h.a34, h.a35, h.a40, h.a41, apart_new h.a42 h.l4 hv, h.a43, h.a45, h.a50, h.a51, apart_new h.a52 h.l5 hv, h.a53, h.a54, fun g e => ⟨(h.l0 g e).1, Nat.lt_of_lt_of_le (h.l0 g e).2 hh⟩, fun g e => ⟨(h.l1 g e).1, Nat.lt_of_lt_of_le (h.l1 g e).2 hh⟩, hr, fun g e => ⟨(h.l3 g e).1, Nat.lt_of_lt_of_le (h.l3 g e).2 hh⟩, fun g e => ⟨(h.l4 g e).1, Nat.lt_of_lt_of_le (h.l4 g e).2 hh⟩, fun g e => ⟨(h.l5 g e).1, Nat.lt_of_lt_of_le (h.l5 g e).2 hh⟩⟩
theorem OwnD.setEarly {lo hi hi' : Nat} {w : World} {p : PE} {s : PV} {v : Value} {l : List (Int)} (h : OwnD lo hi w p s) (hh : hi ≤ hi') (hs : hi' ≤ w.heap.size) (ho : w.ownsRow lo 3 1 v l.length (flatR intF l)) (hr : ∀ g, v.ownBlock = some g → g < hi') (hv : ∀ g, v.ownBlock = some g → s.early.ownBlock = some g ∨ hi ≤ g) : OwnD lo hi' w { p with early := l } { s with early := v } :=
  ⟨⟨h.1.row, h.1.cells, ho, h.1.undos, h.1.votes, h.1.news⟩, h.2.1.setEarly hh (fun g e => ⟨(ho.lt g e).1, hr g e⟩) hv, hs⟩
theorem Apart6.setUndos {lo hi hi' : Nat} {s : PV} {v : Value} (h : Apart6 lo hi s) (hh : hi ≤ hi') (hr : ∀ g, v.ownBlock = some g → lo ≤ g ∧ g < hi') (hv : ∀ g, v.ownBlock = some g → s.undos.ownBlock = some g ∨ hi ≤ g) : Apart6 lo hi' { s with undos := v } :=
  ⟨h.a01, h.a02, apart_new h.a03 h.l0 hv, h.a04, h.a05, h.a10, h.a12, apart_new h.a13 h.l1 hv, h.a14, h.a15, h.a20, h.a21, apart_new h.a23 h.l2 hv, h.a24, h.a25, (apart_new h.a03 h.l0 hv).symm, (apart_new h.a13 h.l1 hv).symm, (apart_new h.a23 h.l2 hv).symm, (apart_new h.a43 h.l4 hv).symm, (apart_new h.a53 h.l5 hv).symm, h.a40, h.a41, h.a42, apart_new h.a43 h.l4 hv, h.a45, h.a50, h.a51, h.a52, apart_new h.a53 h.l5 hv, h.a54, fun g e => ⟨(h.l0 g e).1, Nat.lt_of_lt_of_le (h.l0 g e).2 hh⟩, fun g e => ⟨(h.l1 g e).1, Nat.lt_of_lt_of_le (h.l1 g e).2 hh⟩, fun g e => ⟨(h.l2 g e).1, Nat.lt_of_lt_of_le (h.l2 g e).2 hh⟩, hr, fun g e => ⟨(h.l4 g e).1, Nat.lt_of_lt_of_le (h.l4 g e).2 hh⟩, fun g e => ⟨(h.l5 g e).1, Nat.lt_of_lt_of_le (h.l5 g e).2 hh⟩⟩
theorem OwnD.setUndos {lo hi hi' : Nat} {w : World} {p : PE} {s : PV} {v : Value} {l : List (UN)} (h : OwnD lo hi w p s) (hh : hi ≤ hi') (hs : hi' ≤ w.heap.size) (ho : w.ownsRow lo 115 3 v l.length (flatR undoF l)) (hr : ∀ g, v.ownBlock = some g → g < hi') (hv : ∀ g, v.ownBlock = some g → s.undos.ownBlock = some g ∨ hi ≤ g) : OwnD lo hi' w { p with undos := l } { s with undos := v } :=
  ⟨⟨h.1.row, h.1.cells, h.1.early, ho, h.1.votes, h.1.news⟩, h.2.1.setUndos hh (fun g e => ⟨(ho.lt g e).1, hr g e⟩) hv, hs⟩
theorem Apart6.setVotes {lo hi hi' : Nat} {s : PV} {v : Value} (h : Apart6 lo hi s) (hh : hi ≤ hi') (hr : ∀ g, v.ownBlock = some g → lo ≤ g ∧ g < hi') (hv : ∀ g, v.ownBlock = some g → s.votes.ownBlock = some g ∨ hi ≤ g) : Apart6 lo hi' { s with votes := v } :=
  ⟨h.a01, h.a02, h.a03, apart_new h.a04 h.l0 hv, h.a05, h.a10, h.a12, h.a13, apart_new h.a14 h.l1 hv, h.a15, h.a20, h.a21, h.a23, apart_new h.a24 h.l2 hv, h.a25, h.a30, h.a31, h.a32, apart_new h.a34 h.l3 hv, h.a35, (apart_new h.a04 h.l0 hv).symm, (apart_new h.a14 h.l1 hv).symm, (apart_new h.a24 h.l2 hv).symm, (apart_new h.a34 h.l3 hv).symm, (apart_new h.a54 h.l5 hv).symm, h.a50, h.a51, h.a52, h.a53, apart_new h.a54 h.l5 hv, fun g e => ⟨(h.l0 g e).1, Nat.lt_of_lt_of_le (h.l0 g e).2 hh⟩, fun g e => ⟨(h.l1 g e).1, Nat.lt_of_lt_of_le (h.l1 g e).2 hh⟩, fun g e => ⟨(h.l2 g e).1, Nat.lt_of_lt_of_le (h.l2 g e).2 hh⟩, fun g e => ⟨(h.l3 g e).1, Nat.lt_of_lt_of_le (h.l3 g e).2 hh⟩, hr, fun g e => ⟨(h.l5 g e).1, Nat.lt_of_lt_of_le (h.l5 g e).2 hh⟩⟩
theorem OwnD.setVotes {lo hi hi' : Nat} {w : World} {p : PE} {s : PV} {v : Value} {l : List (VT)} (h : OwnD lo hi w p s) (hh : hi ≤ hi') (hs : hi' ≤ w.heap.size) (ho : w.ownsRow lo 35 4 v l.length (flatR voteF l)) (hr : ∀ g, v.ownBlock = some g → g < hi') (hv : ∀ g, v.ownBlock = some g → s.votes.ownBlock = some g ∨ hi ≤ g) : OwnD lo hi' w { p with votes := l } { s with votes := v } :=
  ⟨⟨h.1.row, h.1.cells, h.1.early, h.1.undos, ho, h.1.news⟩, h.2.1.setVotes hh (fun g e => ⟨(ho.lt g e).1, hr g e⟩) hv, hs⟩
theorem Apart6.setNews {lo hi hi' : Nat} {s : PV} {v : Value} (h : Apart6 lo hi s) (hh : hi ≤ hi') (hr : ∀ g, v.ownBlock = some g → lo ≤ g ∧ g < hi') (hv : ∀ g, v.ownBlock = some g → s.news.ownBlock = some g ∨ hi ≤ g) : Apart6 lo hi' { s with news := v } :=
  ⟨h.a01, h.a02, h.a03, h.a04, apart_new h.a05 h.l0 hv, h.a10, h.a12, h.a13, h.a14, apart_new h.a15 h.l1 hv, h.a20, h.a21, h.a23, h.a24, apart_new h.a25 h.l2 hv, h.a30, h.a31, h.a32, h.a34, apart_new h.a35 h.l3 hv, h.a40, h.a41, h.a42, h.a43, apart_new h.a45 h.l4 hv, (apart_new h.a05 h.l0 hv).symm, (apart_new h.a15 h.l1 hv).symm, (apart_new h.a25 h.l2 hv).symm, (apart_new h.a35 h.l3 hv).symm, (apart_new h.a45 h.l4 hv).symm, fun g e => ⟨(h.l0 g e).1, Nat.lt_of_lt_of_le (h.l0 g e).2 hh⟩, fun g e => ⟨(h.l1 g e).1, Nat.lt_of_lt_of_le (h.l1 g e).2 hh⟩, fun g e => ⟨(h.l2 g e).1, Nat.lt_of_lt_of_le (h.l2 g e).2 hh⟩, fun g e => ⟨(h.l3 g e).1, Nat.lt_of_lt_of_le (h.l3 g e).2 hh⟩, fun g e => ⟨(h.l4 g e).1, Nat.lt_of_lt_of_le (h.l4 g e).2 hh⟩, hr⟩
theorem OwnD.setNews {lo hi hi' : Nat} {w : World} {p : PE} {s : PV} {v : Value} {l : List (LT)} (h : OwnD lo hi w p s) (hh : hi ≤ hi') (hs : hi' ≤ w.heap.size) (ho : w.ownsRow lo 43 13 v l.length (flatR letF l)) (hr : ∀ g, v.ownBlock = some g → g < hi') (hv : ∀ g, v.ownBlock = some g → s.news.ownBlock = some g ∨ hi ≤ g) : OwnD lo hi' w { p with news := l } { s with news := v } :=
  ⟨⟨h.1.row, h.1.cells, h.1.early, h.1.undos, h.1.votes, ho⟩, h.2.1.setNews hh (fun g e => ⟨(ho.lt g e).1, hr g e⟩) hv, hs⟩
/-- a row is no box -/
theorem row_not_box {w : World} {base n m N : Nat} {e T : TypeId} {v : Value} {xs : List Value} {A : Array Value} {fz : Nat × Nat} (h : w.ownsRow base e m v n xs) (hN : w.heap[N]? = some (.cells A T fz)) (hne : e ≠ T) : v.ownBlock = none ∨ v.ownBlock ≠ some N := by
  cases e2 : v.ownBlock with
  | none => exact Or.inl rfl
  | some g =>
    refine Or.inr fun e3 => ?_
    obtain rfl := Option.some.inj e3
    obtain ⟨_, ⟨rfl, _⟩ | ⟨g', cap, cur, rfl, _, hh, _⟩⟩ := h
    · cases e2
    · obtain rfl : g' = g := Option.some.inj e2
      rw [hN] at hh
      injection hh with hh
      injection hh with _ hh
      exact hne hh.symm
theorem OwnD.boxed {lo hi N : Nat} {w w' : World} {p : PE} {s : PV} {A : Array Value} (h : OwnD lo hi w p s) (hN : w.heap[N]? = some (.cells A 41 (0, 0))) (hg : w.grownBy w' (some N)) : OwnD lo hi w' p s :=
  ⟨⟨World.ownsRow.kept h.1.row hg (row_not_box h.1.row hN (by decide)), World.ownsRow.kept h.1.cells hg (row_not_box h.1.cells hN (by decide)), World.ownsRow.kept h.1.early hg (row_not_box h.1.early hN (by decide)), World.ownsRow.kept h.1.undos hg (row_not_box h.1.undos hN (by decide)), World.ownsRow.kept h.1.votes hg (row_not_box h.1.votes hN (by decide)), World.ownsRow.kept h.1.news hg (row_not_box h.1.news hN (by decide))⟩, h.2.1, Nat.le_trans h.2.2 hg.size⟩

/-- a struct loaded where a guard lets it -/
theorem wpList_load_row_w {P : Program} {ops : Array Oper} {rest : List Oper} {o : Oper} {a : Act} {w : World} {Q : Exit → Act → World → Prop} (hw : Region.wanted o (yielded ops a.tmps) = true) (ty : TypeId) (x : Operand) (ho : o.op = .load ty x)
    (g : Nat) (hx : a.eval x = .pointer (some ⟨g, 0, none⟩)) (t : TypeId) (cs : Array Value) (fr : Nat × Nat) (d : TypeDesc) (hg : w.heap[g]? = some (.cells cs t fr))
    (hu : P.underlying ty = some d) (hd : (match d with | .struct _ | .array _ _ => true | _ => false) = true) (hi : (P.info? ty).map (·.size) = some cs.size)
    (h : wpList P ops Q rest (a.put o.dst (.agg cs)) w) : wpList P ops Q (o :: rest) a w :=
  wpList_step fun K hK => by rw [if_pos hw]; exact wp_load_row ty x ho g hx t cs fr d hg hu hd hi (hK _ _ h)

end Go.Proofs.Ytjieklilojmifat

namespace Go.Proofs.Ytjieklilojmifat
open Go.ChangeShapes Go.WideShapes Go.ChangeAt Go.RowKit Num

/-- replicas, each with its slices -/
abbrev PL := List (PE × PV)
def pes (ps : PL) : List PE := ps.map Prod.fst
theorem pes_len (ps : PL) : (pes ps).length = ps.length := by simp [pes]
theorem pes_at {ps : PL} {i : Nat} (h : i < ps.length) : (pes ps)[i]'(by rw [pes_len]; exact h) = ps[i].1 := by simp [pes]
theorem pes_snoc (ps : PL) (x : PE × PV) : pes (ps ++ [x]) = pes ps ++ [x.1] := by simp [pes]
def peerF (x : PE × PV) : List Value := peerL x.1 x.2
theorem peerF_len (x : PE × PV) : (peerF x).length = 21 := rfl
/-- replicas that can be read -/
structure PeersR (w : World) (v : Value) (ps : PL) : Prop where
  row : RowsR w v 21 peerF ps
  each : ∀ x ∈ ps, PeerR w x.1 x.2
theorem PeersR.below {w w' : World} {v : Value} {ps : PL} (h : PeersR w v ps) (hb : Below w.heap.size w w') : PeersR w' v ps := ⟨h.row.below hb, fun x hx => (h.each x hx).below hb⟩
/-- the six slices of one replica and those of another have no block in common -/
def six (s : PV) : List Value := [s.row, s.cells, s.early, s.undos, s.votes, s.news]
def apartP (s t : PV) : Prop := ∀ a ∈ six s, ∀ b ∈ six t, apart a b
theorem apartP.symm {s t : PV} (h : apartP s t) : apartP t s := fun a ha b hb => (h b hb a ha).symm
theorem six_in {lo hi : Nat} {s : PV} (h : Apart6 lo hi s) : ∀ a ∈ six s, ∀ g, a.ownBlock = some g → lo ≤ g ∧ g < hi := by
  intro a ha
  simp only [six, List.mem_cons, List.not_mem_nil, or_false] at ha
  rcases ha with rfl | rfl | rfl | rfl | rfl | rfl
  · exact h.l0
  · exact h.l1
  · exact h.l2
  · exact h.l3
  · exact h.l4
  · exact h.l5
theorem apartP_of {la ha lb hb : Nat} {s t : PV} (h1 : Apart6 la ha s) (h2 : Apart6 lb hb t) (h : ha ≤ lb ∨ hb ≤ la) : apartP s t := fun a m b n => apart_of (six_in h1 a m) (six_in h2 b n) h
/-- replicas whose lists are the call's own, each apart -/
structure OwnE (lo : Nat) (w : World) (ps : PL) : Prop where
  each : ∀ x ∈ ps, OwnD lo w.heap.size w x.1 x.2
  apart : ps.Pairwise fun x y => apartP x.2 y.2
theorem OwnE.nil (lo : Nat) (w : World) : OwnE lo w [] := ⟨fun x h => (by cases h), List.Pairwise.nil⟩
theorem OwnE.below {lo : Nat} {w w' : World} {ps : PL} (h : OwnE lo w ps) (hb : Below w.heap.size w w') : OwnE lo w' ps := ⟨fun x hx => ((h.each x hx).below hb).wide hb.size (Nat.le_refl _), h.apart⟩
theorem OwnE.low {lo lo' : Nat} {w : World} {ps : PL} (h : OwnE lo w ps) (hl : lo' ≤ lo) : OwnE lo' w ps := ⟨fun x hx => (h.each x hx).low hl, h.apart⟩
theorem OwnE.boxed {lo N : Nat} {w w' : World} {ps : PL} {A : Array Value} (h : OwnE lo w ps) (hN : w.heap[N]? = some (.cells A 41 (0, 0))) (hg : w.grownBy w' (some N)) : OwnE lo w' ps :=
  ⟨fun x hx => ((h.each x hx).boxed hN hg).wide hg.size (Nat.le_refl _), h.apart⟩
theorem OwnE.push {lo hi lo2 hi2 : Nat} {w : World} {ps : PL} {p : PE} {s : PV} (h : OwnE lo w ps) (hx : OwnD lo2 hi2 w p s) (hl : lo ≤ lo2) (hb : ∀ x ∈ ps, Apart6 lo hi x.2) (hh : hi ≤ lo2) : OwnE lo w (ps ++ [(p, s)]) := by
  refine ⟨fun x hx' => ?_, ?_⟩
  · rcases List.mem_append.1 hx' with h' | h'
    · exact h.each x h'
    · simp at h'
      subst h'
      exact (hx.wide hx.2.2 (Nat.le_refl _)).low hl
  · rw [List.pairwise_append]
    refine ⟨h.apart, by simp, fun x hx' y hy => ?_⟩
    simp at hy
    subst hy
    exact apartP_of (hb x hx') hx.2.1 (Or.inl hh)
/-- replicas of the call's own, their row too -/
structure OwnPs (lo : Nat) (w : World) (v : Value) (ps : PL) : Prop where
  row : w.ownsRow lo 41 21 v ps.length (flatR peerF ps)
  own : OwnE lo w ps
theorem OwnPs.reads {lo : Nat} {w : World} {v : Value} {ps : PL} (h : OwnPs lo w v ps) : PeersR w v ps := ⟨rows_of_own peerF_len h.row, fun x hx => (h.own.each x hx).reads⟩
theorem OwnPs.below {lo : Nat} {w w' : World} {v : Value} {ps : PL} (h : OwnPs lo w v ps) (hb : Below w.heap.size w w') : OwnPs lo w' v ps := ⟨own_kept h.row hb, h.own.below hb⟩
theorem OwnPs.low {lo lo' : Nat} {w : World} {v : Value} {ps : PL} (h : OwnPs lo w v ps) (hl : lo' ≤ lo) : OwnPs lo' w v ps := ⟨own_base h.row hl, h.own.low hl⟩
/-- these have been set, whatever else stands behind them -/
def preR {α : Type} (f : α → List Value) (qs : List α) (xs : List Value) : Prop := ∃ ys, xs = flatR f qs ++ ys
theorem preR_step {α : Type} {f : α → List Value} {m : Nat} (hm : ∀ x, (f x).length = m) {qs : List α} {xs : List Value} {k : Nat} (h : preR f qs xs) (hq : qs.length = k) (x : α) : preR f (qs ++ [x]) (setEl xs k m (f x)) := by
  obtain ⟨ys, rfl⟩ := h
  have hf := flatR_len hm qs
  refine ⟨(flatR f qs ++ ys).drop (k * m + m), ?_⟩
  unfold setEl
  rw [flatR_append, List.take_append_of_le_length (by rw [hf, hq]; exact Nat.le_refl _), List.take_of_length_le (by rw [hf, hq]; exact Nat.le_refl _)]
  simp [flatR]
theorem preR_all {α : Type} {f : α → List Value} {m : Nat} (hm : ∀ x, (f x).length = m) {qs : List α} {xs : List Value} (h : preR f qs xs) (hx : xs.length = qs.length * m) : xs = flatR f qs := by
  obtain ⟨ys, rfl⟩ := h
  rw [List.length_append, flatR_len hm] at hx
  obtain rfl : ys = [] := List.eq_nil_of_length_eq_zero (by omega)
  simp
theorem range_el {α : Type} {f : α → List Value} {m : Nat} {w w' : World} {g off n i : Nat} {xs : List α} (hb : Below n w w') (hg : g < n) (hc : ∀ i (h : i < xs.length) j, j < m → w.cell? ⟨g, off + i * m + j, none⟩ = (f xs[i])[j]?) (hi : i < xs.length) (hm : ∀ x, (f x).length = m) : w'.rangeAt g (off + i * m) (f xs[i]) := fun j v hj => by
  rw [hb.cell (by exact hg), hc i hi j (by rw [← hm xs[i]]; exact (List.getElem?_eq_some_iff.1 hj).1)]
  exact hj
theorem range_below {w w' : World} {g o n : Nat} {cs : List Value} (hb : Below n w w') (hg : g < n) (h : w.rangeAt g o cs) : w'.rangeAt g o cs := fun j v hj => by rw [hb.cell (by exact hg)]; exact h j v hj
/-- how many their lists have together -/
def lenPs : List PE → Nat
  | [] => 0
  | p :: l => lenPe p + lenPs l
theorem lenPs_drop (l : List PE) (k : Nat) (h : k < l.length) : lenPs (l.drop k) = lenPe l[k] + lenPs (l.drop (k + 1)) := by rw [List.drop_eq_getElem_cons h]; rfl


end Go.Proofs.Ytjieklilojmifat

namespace Go.Proofs.Ytjieklilojmifat
open Go.RowKit Num

theorem lenPs_app (l m : List PE) : lenPs (l ++ m) = lenPs l + lenPs m := by
  induction l with
  | nil => simp [lenPs]
  | cons p l ih => simp only [List.cons_append, lenPs, ih]; omega
theorem own_block {w : World} {base g n cap m : Nat} {e : TypeId} {xs : List Value} (h : w.ownsRow base e m (.slice (some ⟨g, 0, none⟩) n cap) n xs) : ∃ cur, w.heap[g]? = some (.cells cur e (0, 0)) := by
  obtain ⟨_, ⟨hv, _⟩ | ⟨g2, cap2, cur, hv, _, hh, _⟩⟩ := h
  · cases hv
  · injection hv with hv1 _ _
    injection hv1 with hv1
    injection hv1 with hv1
    subst hv1
    exact ⟨cur, hh⟩
theorem infoPeer : (Try.prog.info? 41).map (fun i => (i.zero, i.size, i.bytes)) = some (some (.agg #[.int .i64 0, .int .i64 0, .int .i64 0, .int .i64 0, .int .i64 0, .int .i64 0, .int .i64 0, .int .i64 0, .int .i64 0, .int .i64 0, .int .i64 0, .int .i64 0, .int .i64 0, .int .i64 0, .slice none 0 0, .slice none 0 0, .slice none 0 0, .slice none 0 0, .slice none 0 0, .slice none 0 0, .int .i64 0]), 21, 264) := by kernel_rfl
/-- what szPeerS tells -/
def SzPs (l : List PE) (left z : Int) : Prop := z = -1 ∨ (0 ≤ z ∧ z + (l.length : Int) + (lenPs l : Int) ≤ left ∧ ∀ p ∈ l, smallPe p)
theorem SzP.len {p : PE} {left z : Int} (h : SzP p left z) : z = -1 ∨ (0 ≤ z ∧ z + (lenPe p : Int) ≤ left ∧ smallPe p) := by
  rcases h with h | ⟨h0, h1, h2⟩
  · exact Or.inl h
  · exact Or.inr ⟨h0, by unfold lenPe; omega, h2⟩



set_option maxRecDepth 100000 in
set_option maxHeartbeats 4000000 in
theorem eqPeers_yes (ps qs : PL) (a b : Value) (w : World) (ha : PeersR w a ps) (hb : PeersR w b qs) (he : pes qs = pes ps) (hl : (ps.length : Int) ≤ 1048576) (hs : ∀ x ∈ ps, smallPe x.1) :
    Calls Try.prog 68 #[a, b] w fun e w' => e = .returned (.bool true) ∧ Below w.heap.size w w' := by
  have HPA : Hid (PeersR w a ps) := ha
  have HPB : Hid (PeersR w b qs) := hb
  have HE : Hid (pes qs = pes ps) := he
  have HS : Hid (∀ x ∈ ps, smallPe x.1) := hs
  have hql : qs.length = ps.length := by rw [← pes_len qs, he, pes_len]
  have hml : (ps.length : Int) ≤ qs.length := by omega
  have hml2 : (qs.length : Int) ≤ ps.length := by omega
  obtain ⟨a, ca, rfl, hra⟩ := ha.row
  obtain ⟨b, cb, rfl, hrb⟩ := hb.row
  have HA : Hid (0 < ps.length → _) := hra
  have HB : Hid (0 < qs.length → _) := hrb
  clear hra hrb ha hb he hs
  rw [hql]
  go_enter Try.func68, Try.ntmps68
  go_wp2
  go_loopw [5] (fun i wr => ∃ m : Nat, m ≤ ps.length ∧ i = .int .i64 m ∧ Below w.heap.size w wr) (fun i _ => ps.length - (intOf i).toNat)
  case atStart => exact ⟨0, Nat.zero_le _, rfl, Below.refl _ _⟩
  case round =>
    obtain ⟨m, hm, rfl, hbel⟩ := hrel
    by_cases hlt : (m : Int) < ps.length
    · have q0 : (0 : Int) ≤ (m : Int) := by omega
      have hkn : m < ps.length := by omega
      have hkq : m < qs.length := by omega
      obtain ⟨ga, oa, rfl, hga, hca⟩ := HA.out (by omega)
      obtain ⟨gb, ob, rfl, hgb, hcb⟩ := HB.out (by omega)
      obtain ⟨p, s, hy⟩ : ∃ p s, ps[m] = (p, s) := ⟨_, _, rfl⟩
      obtain ⟨p2, t, hz⟩ : ∃ p t, qs[m] = (p, t) := ⟨_, _, rfl⟩
      have hpp : p2 = p := by
        have h1 := pes_at hkn
        have h2 := pes_at hkq
        rw [hy] at h1
        rw [hz] at h2
        have h3 : (pes qs)[m]'(by rw [pes_len]; exact hkq) = (pes ps)[m]'(by rw [pes_len]; exact hkn) := by simp only [HE.out]
        rw [h1, h2] at h3
        exact h3
      subst hpp
      have HY : Hid (ps[m] = (p2, s)) := hy
      have HZ : Hid (qs[m] = (p2, t)) := hz
      have hm1 : (p2, s) ∈ ps := by rw [← hy]; exact List.getElem_mem hkn
      have hm2 : (p2, t) ∈ qs := by rw [← hz]; exact List.getElem_mem hkq
      obtain ⟨p, hp⟩ : ∃ p, p = p2 := ⟨_, rfl⟩
      rw [← hp] at HY HZ hm1 hm2
      have HQ : Hid (∀ x, Below wr.heap.size wr x → PeerR x p s ∧ PeerR x p t ∧ smallPe p) := (fun x hx => ⟨(HPA.out.each _ hm1).below (bt hbel hx), (HPB.out.each _ hm2).below (bt hbel hx), HS.out _ hm1⟩ : ∀ x, Below wr.heap.size wr x → PeerR x p s ∧ PeerR x p t ∧ smallPe p)
      clear hy hz hm1 hm2 hp
      have HRA : Hid (wr.rangeAt ga (oa + m * 21) (peerF (p, s))) := (by rw [← HY.out]; exact range_el hbel hga hca hkn peerF_len : wr.rangeAt ga (oa + m * 21) (peerF (p, s)))
      have HRB : Hid (wr.rangeAt gb (ob + m * 21) (peerF (p, t))) := (by rw [← HZ.out]; exact range_el hbel hgb hcb hkq peerF_len : wr.rangeAt gb (ob + m * 21) (peerF (p, t)))
      have hga' : ga < wr.heap.size := Nat.lt_of_lt_of_le hga hbel.size
      have hgb' : gb < wr.heap.size := Nat.lt_of_lt_of_le hgb hbel.size
      clear hca hcb HY HZ
      go_wp2
      refine wp_region_H (Below wr.heap.size wr) (by kernel_rfl) ?_
      show wpAnyH Try.prog _ _ _ _ (9 + 1) (Array.replicate 10 false) _ _
      have hS0 : Below wr.heap.size wr wr.drew := (Below.refl _ _).drew
      refine h_take (j := 0) (e' := some 17) (v := .slice (some ⟨ga, oa, none⟩) ps.length ca) rfl rfl (by kernel_rfl) (by kernel_rfl) (by kernel_rfl) (fun _ _ _ h => h) (Or.inl ⟨by rfl, ?_⟩) hS0 ?_
      · intro x hx
        go_simp
        try with_reducible rfl
      simp only [Act.put, List.setIfInBounds_toArray, List.set_cons_zero, List.set_cons_succ]
      refine h_take (j := 1) (e' := some 18) (v := .int .i64 m) rfl rfl (by kernel_rfl) (by kernel_rfl) (by kernel_rfl) (fun _ _ _ h => h) (Or.inl ⟨by rfl, ?_⟩) hS0 ?_
      · intro x hx
        go_simp
        try with_reducible rfl
      simp only [Act.put, List.setIfInBounds_toArray, List.set_cons_zero, List.set_cons_succ]
      refine h_take (j := 2) (e' := some 19) (v := .pointer (some ⟨ga, oa + m * 21, none⟩)) rfl rfl (by kernel_rfl) (by kernel_rfl) (by kernel_rfl) (fun _ _ _ h => h) (Or.inl ⟨by rfl, ?_⟩) hS0 ?_
      · intro x hx
        go_simp
        try with_reducible rfl
      simp only [Act.put, List.setIfInBounds_toArray, List.set_cons_zero, List.set_cons_succ]
      refine h_take (j := 3) (e' := some 20) (v := .agg (peerA p s)) rfl rfl (by kernel_rfl) (by kernel_rfl) (by kernel_rfl) (fun _ _ _ h => h) (yieldsIf_load_mid (by rfl) _ _ rfl ga (oa + m * 21) rfl (peerF (p, s)) _ (fun x hx => range_below hx hga' HRA.out) Try.underlying41 rfl (by kernel_rfl)) hS0 ?_
      simp only [Act.put, List.setIfInBounds_toArray, List.set_cons_zero, List.set_cons_succ]
      refine h_take (j := 4) (e' := some 21) (v := .slice (some ⟨gb, ob, none⟩) ps.length cb) rfl rfl (by kernel_rfl) (by kernel_rfl) (by kernel_rfl) (fun _ _ _ h => h) (Or.inl ⟨by rfl, ?_⟩) hS0 ?_
      · intro x hx
        go_simp
        try with_reducible rfl
      simp only [Act.put, List.setIfInBounds_toArray, List.set_cons_zero, List.set_cons_succ]
      refine h_take (j := 5) (e' := some 22) (v := .int .i64 m) rfl rfl (by kernel_rfl) (by kernel_rfl) (by kernel_rfl) (fun _ _ _ h => h) (Or.inl ⟨by rfl, ?_⟩) hS0 ?_
      · intro x hx
        go_simp
        try with_reducible rfl
      simp only [Act.put, List.setIfInBounds_toArray, List.set_cons_zero, List.set_cons_succ]
      refine h_take (j := 6) (e' := some 23) (v := .pointer (some ⟨gb, ob + m * 21, none⟩)) rfl rfl (by kernel_rfl) (by kernel_rfl) (by kernel_rfl) (fun _ _ _ h => h) (Or.inl ⟨by rfl, ?_⟩) hS0 ?_
      · intro x hx
        go_simp
        try with_reducible rfl
      simp only [Act.put, List.setIfInBounds_toArray, List.set_cons_zero, List.set_cons_succ]
      refine h_take (j := 7) (e' := some 24) (v := .agg (peerA p t)) rfl rfl (by kernel_rfl) (by kernel_rfl) (by kernel_rfl) (fun _ _ _ h => h) (yieldsIf_load_mid (by rfl) _ _ rfl gb (ob + m * 21) rfl (peerF (p, t)) _ (fun x hx => range_below hx hgb' HRB.out) Try.underlying41 rfl (by kernel_rfl)) hS0 ?_
      simp only [Act.put, List.setIfInBounds_toArray, List.set_cons_zero, List.set_cons_succ]
      refine h_call (c := 8) (e' := some 25) (fn := 9) (args := #[peerV p s, peerV p t]) rfl rfl (by kernel_rfl) (by rfl) ?_ ((eqPeer_yes p s t wr.drew (HQ.out wr.drew hS0).1 (HQ.out wr.drew hS0).2.1 (HQ.out wr.drew hS0).2.2).mono ?_)
      · go_simp
        try with_reducible rfl
      rintro e x ⟨rfl, hbx⟩
      have hS1 : Below wr.heap.size wr x := bt hS0 hbx
      refine ⟨_, rfl, hS1, ?_⟩
      simp only [Act.put, List.setIfInBounds_toArray, List.set_cons_zero, List.set_cons_succ]
      refine h_take (j := 9) (e' := some 26) (v := .bool false) rfl rfl (by kernel_rfl) (by kernel_rfl) (by kernel_rfl) (fun _ _ _ h => h) (Or.inl ⟨by rfl, ?_⟩) hS1 ?_
      · intro x hx
        go_simp
        try with_reducible rfl
      simp only [Act.put, List.setIfInBounds_toArray, List.set_cons_zero, List.set_cons_succ]
      refine wpAnyH_done (by kernel_rfl) ?_ _
      have B1 : Below w.heap.size w x := bt hbel hS1
      clear hS0 hS1 hbx HRA HRB hga' hgb' HQ
      go_wp2
      go_roundw
      case rel => exact ⟨m + 1, by omega, by go_num, B1⟩
      case measure => simp [intOf]; omega
    · go_wp2
      go_ret
      exact ⟨rfl, hbel⟩

end Go.Proofs.Ytjieklilojmifat

namespace Go.Proofs.Ytjieklilojmifat
open Go.RowKit Num

structure FrS (B : Nat → Prop) (w w' : World) : Prop where
  os : w'.os = w.os
  tape : w'.tape = w.tape
  output : w'.output = w.output
  size : w.heap.size ≤ w'.heap.size
  block : ∀ k, k < w.heap.size → ¬ B k → w'.heap[k]? = w.heap[k]?
theorem FrS.refl (B : Nat → Prop) (w : World) : FrS B w w := ⟨rfl, rfl, rfl, Nat.le_refl _, fun _ _ _ => rfl⟩
theorem FrS.trans {B : Nat → Prop} {a b c : World} (h : FrS B a b) (k : FrS B b c) : FrS B a c := ⟨k.os.trans h.os, k.tape.trans h.tape, k.output.trans h.output, Nat.le_trans h.size k.size, fun i hi h2 => (k.block i (Nat.lt_of_lt_of_le hi h.size) h2).trans (h.block i hi h2)⟩
theorem FrS.of_below {B : Nat → Prop} {w w' : World} (h : Below w.heap.size w w') : FrS B w w' := ⟨h.os, h.tape, h.output, h.size, fun k hk _ => h.block k hk⟩
theorem FrS.of_grown {B : Nat → Prop} {w w' : World} {r : Option Nat} (h : w.grownBy w' r) (hr : ∀ g, r = some g → B g) : FrS B w w' := ⟨h.os, h.tape, h.output, h.size, fun k hk hn => h.block k hk fun e => hn (hr k e.symm)⟩
theorem FrS.mono {B C : Nat → Prop} {w w' : World} (h : FrS B w w') (hc : ∀ g, B g → C g) : FrS C w w' := ⟨h.os, h.tape, h.output, h.size, fun k hk hn => h.block k hk fun hb => hn (hc k hb)⟩
theorem FrS.own {B : Nat → Prop} {w w' : World} (h : FrS B w w') {base : Nat} {e : TypeId} {m n : Nat} {v : Value} {xs : List Value} (ho : w.ownsRow base e m v n xs) (hv : ∀ g, v.ownBlock = some g → ¬ B g) : w'.ownsRow base e m v n xs := by
  obtain ⟨hl, h0 | ⟨g, cap, cur, rfl, hb, hh, r⟩⟩ := ho
  · exact ⟨hl, Or.inl h0⟩
  · exact ⟨hl, Or.inr ⟨g, cap, cur, rfl, hb, (h.block g (Array.getElem?_eq_some_iff.1 hh).1 (hv g rfl)).trans hh, r⟩⟩
theorem FrS.fr {B : Nat → Prop} {w w' : World} {lo hi : Nat} (h : FrS B w w') (hb : ∀ g, B g → lo ≤ g ∧ g < hi) : Fr lo hi w w' := ⟨h.os, h.tape, h.output, h.size, fun k hk hn => h.block k hk fun hB => by have := hb k hB; omega⟩
/-- a block of one of a replica's six rows -/
def inSix (s : PV) (g : Nat) : Prop := ∃ a ∈ six s, a.ownBlock = some g
theorem Own6.frs {B : Nat → Prop} {lo : Nat} {w w' : World} {p : PE} {s : PV} {xr xc xe xu xv xn : List Value} (h : Own6 lo w p s xr xc xe xu xv xn) (hf : FrS B w w') (hB : ∀ g, inSix s g → ¬ B g) : Own6 lo w' p s xr xc xe xu xv xn :=
  ⟨hf.own h.row (fun g hg => hB g ⟨_, by simp [six], hg⟩), hf.own h.cells (fun g hg => hB g ⟨_, by simp [six], hg⟩), hf.own h.early (fun g hg => hB g ⟨_, by simp [six], hg⟩), hf.own h.undos (fun g hg => hB g ⟨_, by simp [six], hg⟩), hf.own h.votes (fun g hg => hB g ⟨_, by simp [six], hg⟩), hf.own h.news (fun g hg => hB g ⟨_, by simp [six], hg⟩)⟩
theorem OwnD.frs {B : Nat → Prop} {lo hi : Nat} {w w' : World} {p : PE} {s : PV} (h : OwnD lo hi w p s) (hf : FrS B w w') (hB : ∀ g, inSix s g → ¬ B g) : OwnD lo hi w' p s := ⟨h.1.frs hf hB, h.2.1, Nat.le_trans h.2.2 hf.size⟩
theorem OwnE.frs {B : Nat → Prop} {lo : Nat} {w w' : World} {ps : PL} (h : OwnE lo w ps) (hf : FrS B w w') (hB : ∀ x ∈ ps, ∀ g, inSix x.2 g → ¬ B g) : OwnE lo w' ps := ⟨fun x hx => ((h.each x hx).frs hf (hB x hx)).wide hf.size (Nat.le_refl _), h.apart⟩
theorem OwnPs.frs {B : Nat → Prop} {lo : Nat} {w w' : World} {v : Value} {ps : PL} (h : OwnPs lo w v ps) (hf : FrS B w w') (hv : ∀ g, v.ownBlock = some g → ¬ B g) (hB : ∀ x ∈ ps, ∀ g, inSix x.2 g → ¬ B g) : OwnPs lo w' v ps := ⟨hf.own h.row hv, h.own.frs hf hB⟩
/-- a replica's rows do not lie in a block of replicas -/
theorem six_not_box {lo hi N : Nat} {w : World} {p : PE} {s : PV} {A : Array Value} (h : OwnD lo hi w p s) (hN : w.heap[N]? = some (.cells A 41 (0, 0))) : ¬ inSix s N := by
  rintro ⟨a, ha, e⟩
  simp only [six, List.mem_cons, List.not_mem_nil, or_false] at ha
  rcases ha with rfl | rfl | rfl | rfl | rfl | rfl
  · rcases row_not_box h.1.row hN (by decide) with h | h
    · rw [h] at e; cases e
    · exact h e
  · rcases row_not_box h.1.cells hN (by decide) with h | h
    · rw [h] at e; cases e
    · exact h e
  · rcases row_not_box h.1.early hN (by decide) with h | h
    · rw [h] at e; cases e
    · exact h e
  · rcases row_not_box h.1.undos hN (by decide) with h | h
    · rw [h] at e; cases e
    · exact h e
  · rcases row_not_box h.1.votes hN (by decide) with h | h
    · rw [h] at e; cases e
    · exact h e
  · rcases row_not_box h.1.news hN (by decide) with h | h
    · rw [h] at e; cases e
    · exact h e
/-- a replica of a row is another one, its rows where they were -/
theorem OwnPs.put {lo g n cap m : Nat} {w w' : World} {L : PL} {p p' : PE} {s : PV} (h : OwnPs lo w (.slice (some ⟨g, 0, none⟩) n cap) L) (hm : m < L.length) (hat : L[m] = (p, s)) (hf : FrS (fun k => k = g ∨ inSix s k) w w')
    (hrow : w'.ownsRow lo 41 21 (.slice (some ⟨g, 0, none⟩) n cap) L.length (flatR peerF (L.set m (p', s)))) (hd : OwnD lo w'.heap.size w' p' s) : OwnPs lo w' (.slice (some ⟨g, 0, none⟩) n cap) (L.set m (p', s)) := by
  obtain ⟨cur, hcur⟩ : ∃ cur, w.heap[g]? = some (.cells cur 41 (0, 0)) := by
    obtain ⟨_, ⟨hv, _⟩ | ⟨g2, cap2, cur, hv, _, hh, _⟩⟩ := h.row
    · cases hv
    · injection hv with hv1 _ _
      injection hv1 with hv1
      injection hv1 with hv1
      subst hv1
      exact ⟨cur, hh⟩
  have hpw := List.pairwise_iff_getElem.1 h.own.apart
  refine ⟨by rw [List.length_set]; exact hrow, fun x hx => ?_, ?_⟩
  · rcases List.mem_iff_getElem.1 hx with ⟨i, hi, rfl⟩
    rw [List.length_set] at hi
    by_cases hne : m = i
    · subst hne
      rw [List.getElem_set_self]
      exact hd
    · rw [List.getElem_set_ne hne]
      have hx := h.own.each _ (List.getElem_mem hi)
      refine (hx.frs hf fun k hk hB => ?_).wide hf.size (Nat.le_refl _)
      rcases hB with rfl | hB
      · exact six_not_box hx hcur hk
      · obtain ⟨a, ha, ea⟩ := hk
        obtain ⟨b, hb, eb⟩ := hB
        have hap : apartP L[i].2 s := by
          rcases Nat.lt_or_gt_of_ne hne with hlt | hlt
          · have := hpw m i hm hi hlt
            rw [hat] at this
            exact this.symm
          · have := hpw i m hi hm hlt
            rw [hat] at this
            exact this
        exact hap a ha b hb k ea eb
  · refine List.pairwise_iff_getElem.2 fun i j hi hj hij => ?_
    rw [List.length_set] at hi hj
    have hap := hpw i j hi hj hij
    have e : ∀ i (hi : i < L.length), ((L.set m (p', s))[i]'(by rw [List.length_set]; exact hi)).2 = L[i].2 := fun i hi => by
      by_cases hne : m = i
      · subst hne; rw [List.getElem_set_self, hat]
      · rw [List.getElem_set_ne hne]
    rw [e i hi, e j hj]
    exact hap

end Go.Proofs.Ytjieklilojmifat

namespace Go.Proofs.Ytjieklilojmifat
open Go.RowKit Num

def vmarks (k n : Nat) : List VT := (List.range n).map fun (i : Nat) => ((k : Int) + (i * 4 + 0 : Nat), (k : Int) + (i * 4 + 1 : Nat), (k : Int) + (i * 4 + 2 : Nat), (k : Int) + (i * 4 + 3 : Nat))
def lmarks (k n : Nat) : List LT := (List.range n).map fun (i : Nat) => (((k : Int) + (i * 13 + 0 : Nat), (k : Int) + (i * 13 + 1 : Nat), (k : Int) + (i * 13 + 2 : Nat), (k : Int) + (i * 13 + 3 : Nat), (k : Int) + (i * 13 + 4 : Nat)), ((k : Int) + (i * 13 + 5 : Nat), (k : Int) + (i * 13 + 6 : Nat), (k : Int) + (i * 13 + 7 : Nat), (k : Int) + (i * 13 + 8 : Nat)), ((k : Int) + (i * 13 + 9 : Nat), (k : Int) + (i * 13 + 10 : Nat), (k : Int) + (i * 13 + 11 : Nat), (k : Int) + (i * 13 + 12 : Nat)))
def lmarks1 (k n : Nat) : List LT := [(((k : Int) + (n * 13 + 0 : Nat), (k : Int) + (n * 13 + 1 : Nat), (k : Int) + (n * 13 + 2 : Nat), (k : Int) + (n * 13 + 3 : Nat), (k : Int) + (n * 13 + 4 : Nat)), ((k : Int) + (n * 13 + 5 : Nat), (k : Int) + (n * 13 + 6 : Nat), (k : Int) + (n * 13 + 7 : Nat), (k : Int) + (n * 13 + 8 : Nat)), ((k : Int) + (n * 13 + 9 : Nat), (k : Int) + (n * 13 + 10 : Nat), (k : Int) + (n * 13 + 11 : Nat), (k : Int) + (n * 13 + 12 : Nat)))]
theorem vmarks_len (k n : Nat) : (vmarks k n).length = n := by simp [vmarks]
theorem lmarks_len (k n : Nat) : (lmarks k n).length = n := by simp [lmarks]
theorem vmarks_flat (k n : Nat) : flatR voteF (vmarks k n) = icells k (n * 4) := by
  induction n with
  | zero => rfl
  | succ n ih =>
    have e : vmarks k (n + 1) = vmarks k n ++ [((k : Int) + (n * 4 + 0 : Nat), (k : Int) + (n * 4 + 1 : Nat), (k : Int) + (n * 4 + 2 : Nat), (k : Int) + (n * 4 + 3 : Nat))] := by simp only [vmarks, List.range_succ, List.map_append, List.map_cons, List.map_nil]
    have e2 : icells k ((n + 1) * 4) = icells k (n * 4) ++ [.int .i64 ((k : Int) + (n * 4 + 0 : Nat)), .int .i64 ((k : Int) + (n * 4 + 1 : Nat)), .int .i64 ((k : Int) + (n * 4 + 2 : Nat)), .int .i64 ((k : Int) + (n * 4 + 3 : Nat))] := by
      rw [show (n + 1) * 4 = n * 4 + 3 + 1 by omega]
      simp only [icells, List.range_succ, List.map_append, List.map_cons, List.map_nil, List.append_assoc, List.cons_append, List.nil_append]
      simp
    rw [e, flatR_append, ih, e2]
    rfl
theorem lmarks_flat (k n : Nat) : flatR letF (lmarks k n) = icells k (n * 13) := by
  induction n with
  | zero => rfl
  | succ n ih =>
    have e2 : icells k ((n + 1) * 13) = icells k (n * 13) ++ [.int .i64 ((k : Int) + (n * 13 + 0 : Nat)), .int .i64 ((k : Int) + (n * 13 + 1 : Nat)), .int .i64 ((k : Int) + (n * 13 + 2 : Nat)), .int .i64 ((k : Int) + (n * 13 + 3 : Nat)), .int .i64 ((k : Int) + (n * 13 + 4 : Nat)), .int .i64 ((k : Int) + (n * 13 + 5 : Nat)), .int .i64 ((k : Int) + (n * 13 + 6 : Nat)), .int .i64 ((k : Int) + (n * 13 + 7 : Nat)), .int .i64 ((k : Int) + (n * 13 + 8 : Nat)), .int .i64 ((k : Int) + (n * 13 + 9 : Nat)), .int .i64 ((k : Int) + (n * 13 + 10 : Nat)), .int .i64 ((k : Int) + (n * 13 + 11 : Nat)), .int .i64 ((k : Int) + (n * 13 + 12 : Nat))] := by
      rw [show (n + 1) * 13 = n * 13 + 12 + 1 by omega]
      simp only [icells, List.range_succ, List.map_append, List.map_cons, List.map_nil, List.append_assoc, List.cons_append, List.nil_append]
      simp
    have e : lmarks k (n + 1) = lmarks k n ++ lmarks1 k n := by simp only [lmarks, lmarks1, List.range_succ, List.map_append, List.map_cons, List.map_nil]
    rw [e, flatR_append, ih, e2]
    rfl
/-- a replica with its marks, from k on -/
def pm (k : Nat) (p : PE) : PE := ⟨(k : Int), (k : Int) + 1, ((k : Int) + 1 + 1, (k : Int) + 1 + 1 + 1, (k : Int) + 1 + 1 + 1 + 1, (k : Int) + 1 + 1 + 1 + 1 + 1), ((k : Int) + 1 + 1 + 1 + 1 + 1 + 1, (k : Int) + 1 + 1 + 1 + 1 + 1 + 1 + 1, (k : Int) + 1 + 1 + 1 + 1 + 1 + 1 + 1 + 1, (k : Int) + 1 + 1 + 1 + 1 + 1 + 1 + 1 + 1 + 1), ((k : Int) + 1 + 1 + 1 + 1 + 1 + 1 + 1 + 1 + 1 + 1, (k : Int) + 1 + 1 + 1 + 1 + 1 + 1 + 1 + 1 + 1 + 1 + 1, (k : Int) + 1 + 1 + 1 + 1 + 1 + 1 + 1 + 1 + 1 + 1 + 1 + 1, (k : Int) + 1 + 1 + 1 + 1 + 1 + 1 + 1 + 1 + 1 + 1 + 1 + 1 + 1), imarks (k + 14) p.row.length, cmarks (k + 14 + p.row.length) p.cells.length, imarks (k + 14 + p.row.length + 2 * p.cells.length) p.early.length, umarks (k + 14 + p.row.length + 2 * p.cells.length + p.early.length) p.undos.length, vmarks (k + 14 + p.row.length + 2 * p.cells.length + p.early.length + 3 * p.undos.length) p.votes.length, lmarks (k + 14 + p.row.length + 2 * p.cells.length + p.early.length + 3 * p.undos.length + 4 * p.votes.length) p.news.length, ((k + 14 + p.row.length + 2 * p.cells.length + p.early.length + 3 * p.undos.length + 4 * p.votes.length + 13 * p.news.length : Nat) : Int)⟩
def pnum1 (k : Nat) (p : PE) : Nat := k + 14 + p.row.length + 2 * p.cells.length + p.early.length + 3 * p.undos.length + 4 * p.votes.length + 13 * p.news.length + 1
def pnum : Nat → PL → Nat
  | k, [] => k
  | k, x :: ps => pnum (pnum1 k x.1) ps
def pmarks : Nat → PL → PL
  | _, [] => []
  | k, x :: ps => (pm k x.1, x.2) :: pmarks (pnum1 k x.1) ps
theorem pmarks_len (ps : PL) : ∀ k, (pmarks k ps).length = ps.length := by
  induction ps with
  | nil => intro k; rfl
  | cons x ps ih => intro k; simp [pmarks, ih]
theorem pnum_app (xs ys : PL) : ∀ k, pnum k (xs ++ ys) = pnum (pnum k xs) ys := by
  induction xs with
  | nil => intro k; rfl
  | cons x xs ih => intro k; simp [pnum, ih]
theorem pmarks_app (xs ys : PL) : ∀ k, pmarks k (xs ++ ys) = pmarks k xs ++ pmarks (pnum k xs) ys := by
  induction xs with
  | nil => intro k; rfl
  | cons x xs ih => intro k; simp [pnum, pmarks, ih]
theorem pnum_le (ps : PL) : ∀ k, k ≤ pnum k ps := by
  induction ps with
  | nil => intro k; exact Nat.le_refl _
  | cons x ps ih => intro k; have := ih (pnum1 k x.1); unfold pnum1 at this; simp only [pnum]; unfold pnum1; omega
theorem pnum_take {ps : PL} {m : Nat} (h : m < ps.length) (k : Nat) : pnum k (ps.take (m + 1)) = pnum1 (pnum k (ps.take m)) ps[m].1 := by
  rw [Go.Proofs.Ytjieklilojmifat.take_snoc h, pnum_app]; rfl
theorem pnum_take_le (ps : PL) (m k : Nat) : pnum k (ps.take m) ≤ pnum k ps := by
  conv => rhs; rw [← List.take_append_drop m ps, pnum_app]
  exact pnum_le _ _
/-- the first m with their marks, the others as they were -/
def pmix (k : Nat) (ps : PL) (m : Nat) : PL := pmarks k (ps.take m) ++ ps.drop m
theorem pmix_zero (k : Nat) (ps : PL) : pmix k ps 0 = ps := by simp [pmix, pmarks]
theorem pmix_all (k : Nat) (ps : PL) : pmix k ps ps.length = pmarks k ps := by simp [pmix]
theorem pmix_len (k : Nat) (ps : PL) {m : Nat} (h : m ≤ ps.length) : (pmix k ps m).length = ps.length := by
  simp only [pmix, List.length_append, pmarks_len, List.length_take, List.length_drop]; omega
theorem pmix_at (k : Nat) (ps : PL) {m : Nat} (h : m < ps.length) : (pmix k ps m)[m]'(by rw [pmix_len k ps (Nat.le_of_lt h)]; exact h) = ps[m] := by
  have hl : (pmarks k (ps.take m)).length = m := by rw [pmarks_len, List.length_take]; omega
  unfold pmix
  rw [List.getElem_append_right (by omega)]
  simp only [hl, Nat.sub_self, List.getElem_drop, Nat.add_zero]
theorem pmix_step (k : Nat) (ps : PL) {m : Nat} (h : m < ps.length) : (pmix k ps m).set m (pm (pnum k (ps.take m)) ps[m].1, ps[m].2) = pmix k ps (m + 1) := by
  have hl : (pmarks k (ps.take m)).length = m := by rw [pmarks_len, List.length_take]; omega
  unfold pmix
  rw [List.set_append_right _ _ (by omega), hl, Nat.sub_self, List.drop_eq_getElem_cons h, List.set_cons_zero, Go.Proofs.Ytjieklilojmifat.take_snoc h, pmarks_app, List.append_assoc]
  rfl
/-- cells set in the middle of a row -/
theorem set_mid {A B : List Value} {k : Nat} (h : A.length = k) (j : Nat) (u : Value) : (A ++ B).set (k + j) u = A ++ B.set j u := by
  subst h
  rw [List.set_append_right _ _ (by omega), Nat.add_sub_cancel_left]
theorem set_mid0 {A B : List Value} {k : Nat} (h : A.length = k) (u : Value) : (A ++ B).set k u = A ++ B.set 0 u := set_mid h 0 u
theorem flatP_mid {L : PL} {m : Nat} (hm : m < L.length) : flatR peerF L = flatR peerF (L.take m) ++ (peerF L[m] ++ flatR peerF (L.drop (m + 1))) ∧ (flatR peerF (L.take m)).length = m * 21 ∧ ∀ y, flatR peerF (L.set m y) = flatR peerF (L.take m) ++ (peerF y ++ flatR peerF (L.drop (m + 1))) := by
  have e1 : L = L.take m ++ L[m] :: L.drop (m + 1) := by rw [← List.drop_eq_getElem_cons hm, List.take_append_drop]
  have hl : (L.take m).length = m := by rw [List.length_take]; omega
  refine ⟨?_, by rw [flatR_len peerF_len, hl], fun y => ?_⟩
  · conv => lhs; rw [e1]
    rw [flatR_append]; rfl
  · have e2 : L.set m y = L.take m ++ y :: L.drop (m + 1) := by
      conv => lhs; rw [e1]
      rw [List.set_append_right _ _ (by omega), hl, Nat.sub_self, List.set_cons_zero]
    rw [e2, flatR_append]; rfl
set_option maxRecDepth 100000 in
theorem flatP_set14 {L : PL} {m : Nat} (hm : m < L.length) (k : Nat) (p : PE) (s : PV) (hat : L[m] = (p, s)) (q : PE) (hq : q = { pm k p with shown := p.shown }) :
    (((((((((((((((flatR peerF L).set (m * 21) (.int .i64 ((k : Int)))).set (m * 21 + 1) (.int .i64 ((k : Int) + 1))).set (m * 21 + 2) (.int .i64 ((k : Int) + 1 + 1))).set (m * 21 + 3) (.int .i64 ((k : Int) + 1 + 1 + 1))).set (m * 21 + 4) (.int .i64 ((k : Int) + 1 + 1 + 1 + 1))).set (m * 21 + 5) (.int .i64 ((k : Int) + 1 + 1 + 1 + 1 + 1))).set (m * 21 + 6) (.int .i64 ((k : Int) + 1 + 1 + 1 + 1 + 1 + 1))).set (m * 21 + 7) (.int .i64 ((k : Int) + 1 + 1 + 1 + 1 + 1 + 1 + 1))).set (m * 21 + 8) (.int .i64 ((k : Int) + 1 + 1 + 1 + 1 + 1 + 1 + 1 + 1))).set (m * 21 + 9) (.int .i64 ((k : Int) + 1 + 1 + 1 + 1 + 1 + 1 + 1 + 1 + 1))).set (m * 21 + 10) (.int .i64 ((k : Int) + 1 + 1 + 1 + 1 + 1 + 1 + 1 + 1 + 1 + 1))).set (m * 21 + 11) (.int .i64 ((k : Int) + 1 + 1 + 1 + 1 + 1 + 1 + 1 + 1 + 1 + 1 + 1))).set (m * 21 + 12) (.int .i64 ((k : Int) + 1 + 1 + 1 + 1 + 1 + 1 + 1 + 1 + 1 + 1 + 1 + 1))).set (m * 21 + 13) (.int .i64 ((k : Int) + 1 + 1 + 1 + 1 + 1 + 1 + 1 + 1 + 1 + 1 + 1 + 1 + 1))) = flatR peerF (L.set m (q, s)) := by
  obtain ⟨e1, hl, e2⟩ := flatP_mid hm
  rw [e2, e1, hat, hq]
  rw [set_mid0 hl]
  iterate 13 rw [set_mid hl]
  rfl
set_option maxRecDepth 100000 in
theorem flatP_set20 {L : PL} {m : Nat} (hm : m < L.length) (p : PE) (s : PV) (hat : L[m] = (p, s)) (z : Int) : (flatR peerF L).set (m * 21 + 20) (.int .i64 z) = flatR peerF (L.set m ({ p with shown := z }, s)) := by
  obtain ⟨e1, hl, e2⟩ := flatP_mid hm
  rw [e2, e1, hat]
  rw [set_mid hl]
  rfl
/-- a set of blocks that holds all of theirs -/
def LimP (B : Nat → Prop) (v : Value) (ps : PL) : Prop := (∀ g, v.ownBlock = some g → B g) ∧ ∀ x ∈ ps, ∀ g, inSix x.2 g → B g

theorem own6_pm {k lo : Nat} {w : World} {p : PE} {s : PV} (h : Own6 lo w p s (flatR intF (imarks (k + 14) p.row.length)) (flat (cmarks (k + 14 + p.row.length) p.cells.length)) (flatR intF (imarks (k + 14 + p.row.length + 2 * p.cells.length) p.early.length)) (flatR undoF (umarks (k + 14 + p.row.length + 2 * p.cells.length + p.early.length) p.undos.length)) (icells (k + 14 + p.row.length + 2 * p.cells.length + p.early.length + 3 * p.undos.length) (p.votes.length * 4)) (icells (k + 14 + p.row.length + 2 * p.cells.length + p.early.length + 3 * p.undos.length + 4 * p.votes.length) (p.news.length * 13))) :
    Own6 lo w (pm k p) s (flatR intF (pm k p).row) (flat (pm k p).cells) (flatR intF (pm k p).early) (flatR undoF (pm k p).undos) (flatR voteF (pm k p).votes) (flatR letF (pm k p).news) := by
  refine ⟨?_, ?_, ?_, ?_, ?_, ?_⟩
  · show w.ownsRow lo 3 1 s.row (imarks _ _).length _
    rw [imarks_len]; exact h.row
  · show w.ownsRow lo 113 2 s.cells (cmarks _ _).length _
    rw [cmarks_len]; exact h.cells
  · show w.ownsRow lo 3 1 s.early (imarks _ _).length _
    rw [imarks_len]; exact h.early
  · show w.ownsRow lo 115 3 s.undos (umarks _ _).length _
    rw [umarks_len]; exact h.undos
  · show w.ownsRow lo 35 4 s.votes (vmarks _ _).length (flatR voteF (vmarks _ _))
    rw [vmarks_len, vmarks_flat]; exact h.votes
  · show w.ownsRow lo 43 13 s.news (lmarks _ _).length (flatR letF (lmarks _ _))
    rw [lmarks_len, lmarks_flat]; exact h.news

end Go.Proofs.Ytjieklilojmifat

namespace Go.Proofs.Ytjieklilojmifat
open Go.RowKit Num


theorem keyB_len {k : ByteArray} (h : ¬ (1 ≤ (k.size : Int) ∧ (k.size : Int) ≤ 3)) : keyB k = false := by
  unfold keyB; rw [inB_no h, Bool.and_false]
theorem keyB_yes {k : ByteArray} (h : keyTo k k.size) (h2 : 1 ≤ (k.size : Int) ∧ (k.size : Int) ≤ 3) : keyB k = true := by
  rw [keyB_all h, inB_yes h2]

theorem ba_none {k : ByteArray} (h : k.size = 0) : k = ByteArray.empty := by
  apply ByteArray.ext
  have : k.data.size = 0 := h
  exact Array.eq_empty_of_size_eq_zero this


end Go.Proofs.Ytjieklilojmifat

namespace Go.Proofs.Ytjieklilojmifat
open Go.RowKit Num


end Go.Proofs.Ytjieklilojmifat

namespace Go.Proofs.Ytjieklilojmifat
open Go.RowKit Num

/-- a command as a value -/
def cmdV (c : CM) : Value := .agg #[.int .i64 c.1, .string c.2.1, .int .i64 c.2.2]

theorem cmdB_kind {c : CM} (h : ¬ (1 ≤ c.1 ∧ c.1 ≤ 3)) : cmdB c = false := by unfold cmdB; rw [inB_no h]; rfl
theorem cmdB_key {c : CM} (h : keyB c.2.1 = false) : cmdB c = false := by unfold cmdB; rw [h, Bool.false_and, Bool.and_false]
theorem cmdB_rest {c : CM} (h : 1 ≤ c.1 ∧ c.1 ≤ 3) (h2 : keyB c.2.1 = true) : cmdB c = numB c.2.2 := by unfold cmdB; rw [inB_yes h, h2]; rfl


end Go.Proofs.Ytjieklilojmifat

namespace Go.Proofs.Ytjieklilojmifat
open Go.RowKit Num

/-- a command, three cells -/
def cmdF (c : CM) : List Value := [.int .i64 c.1, .string c.2.1, .int .i64 c.2.2]
theorem cmdF_len (c : CM) : (cmdF c).length = 3 := rfl

end Go.Proofs.Ytjieklilojmifat

namespace Go.Proofs.Ytjieklilojmifat
open Go.RowKit Num

/-- a block as a value: cv the row of its commands -/
def blkV (b : BK) (cv : Value) : Value := .agg #[.int .i64 b.1.1, .int .i64 b.1.2, cv, .int .i64 b.2.2.1, .int .i64 b.2.2.2.1, .int .i64 b.2.2.2.2.1, .int .i64 b.2.2.2.2.2]
/-- .. as seven cells -/
def blkF (p : BK × Value) : List Value := [.int .i64 p.1.1.1, .int .i64 p.1.1.2, p.2, .int .i64 p.1.2.2.1, .int .i64 p.1.2.2.2.1, .int .i64 p.1.2.2.2.2.1, .int .i64 p.1.2.2.2.2.2]
theorem blkF_len (p : BK × Value) : (blkF p).length = 7 := rfl
/-- .. as an array of cells -/
abbrev blkA (b : BK) (cv : Value) : Array Value := #[.int .i64 b.1.1, .int .i64 b.1.2, cv, .int .i64 b.2.2.1, .int .i64 b.2.2.2.1, .int .i64 b.2.2.2.2.1, .int .i64 b.2.2.2.2.2]

/-- blocks, each with the row of its commands -/
abbrev TL := List (BK × Value)
def bks (ps : TL) : List BK := ps.map Prod.fst
theorem bks_len (ps : TL) : (bks ps).length = ps.length := by simp [bks]
theorem bks_at {ps : TL} {i : Nat} (h : i < ps.length) : (bks ps)[i]'(by rw [bks_len]; exact h) = ps[i].1 := by simp [bks]
theorem bks_take (ps : TL) (k : Nat) : bks (ps.take k) = (bks ps).take k := by simp [bks, List.map_take]

/-- blocks that can be read -/
def TreeQ (w : World) (v : Value) (ps : TL) : Prop := RowsR w v 7 blkF ps ∧ ∀ p ∈ ps, RowsR w p.2 3 cmdF p.1.2.1
theorem TreeQ.below {w w' : World} {v : Value} {ps : TL} (h : TreeQ w v ps) (hb : Below w.heap.size w w') : TreeQ w' v ps := ⟨h.1.below hb, fun p hp => (h.2 p hp).below hb⟩
/-- a slice's room is no less than its length -/
def capOk (v : Value) : Prop := ∀ a n cap, v = .slice a n cap → n ≤ cap
theorem capOk_own {w : World} {base m n : Nat} {e : TypeId} {v : Value} {xs : List Value} (h : w.ownsRow base e m v n xs) : capOk v := by
  obtain ⟨_, ⟨rfl, _⟩ | ⟨g, cap, cur, rfl, _, _, hn, _⟩⟩ := h
  · intro a n cap e; injection e with _ e2 e3; omega
  · intro a n' cap' e; injection e with _ e2 e3; omega
/-- a tree that can be read -/
structure TreeR (w : World) (v : Value) (ps : TL) : Prop where
  row : RowsR w v 7 blkF ps
  cmds : ∀ p ∈ ps, RowsR w p.2 3 cmdF p.1.2.1
  cap : capOk v
theorem TreeR.below {w w' : World} {v : Value} {ps : TL} (h : TreeR w v ps) (hb : Below w.heap.size w w') : TreeR w' v ps := ⟨h.row.below hb, fun p hp => (h.cmds p hp).below hb, h.cap⟩
theorem TreeR.q {w : World} {v : Value} {ps : TL} (h : TreeR w v ps) : TreeQ w v ps := ⟨h.row, h.cmds⟩
theorem RowsR.take {α : Type} {f : α → List Value} {m : Nat} {w : World} {a : Option Addr} {n cap : Nat} {xs : List α} (h : RowsR w (.slice a n cap) m f xs) (k : Nat) (hk : k ≤ xs.length) (c : Nat) : RowsR w (.slice a k c) m f (xs.take k) := by
  obtain ⟨a', cap', e, hr⟩ := h
  injection e with e1 e2 e3
  subst e1
  refine ⟨a, c, by rw [List.length_take, Nat.min_eq_left hk], fun h0 => ?_⟩
  rw [List.length_take] at h0
  obtain ⟨g, off, rfl, hg, hc⟩ := hr (by omega)
  refine ⟨g, off, rfl, hg, fun i hi j hj => ?_⟩
  rw [List.length_take] at hi
  rw [List.getElem_take]
  exact hc i (by omega) j hj
theorem TreeR.take {w : World} {a : Option Addr} {n cap : Nat} {ps : TL} (h : TreeR w (.slice a n cap) ps) (k : Nat) (hk : k ≤ ps.length) (c : Nat) (hc : k ≤ c) : TreeR w (.slice a k c) (ps.take k) :=
  ⟨h.row.take k hk c, fun p hp => h.cmds p (List.mem_of_mem_take hp), fun a' n' c' e => by injection e with _ e2 e3; omega⟩

/-- the seven cells of a block of a tree -/
theorem treeq_cells {w : World} {v : Value} {ps : TL} (h : TreeQ w v ps) : ∃ a cap, v = .slice a ps.length cap ∧ (0 < ps.length → ∃ g off, a = some ⟨g, off, none⟩ ∧ g < w.heap.size ∧ ∀ i (hi : i < ps.length),
    w.cell? ⟨g, off + i * 7, none⟩ = some (.int .i64 ps[i].1.1.1) ∧ w.cell? ⟨g, off + i * 7 + 1, none⟩ = some (.int .i64 ps[i].1.1.2) ∧ w.cell? ⟨g, off + i * 7 + 2, none⟩ = some ps[i].2 ∧ w.cell? ⟨g, off + i * 7 + 3, none⟩ = some (.int .i64 ps[i].1.2.2.1) ∧
    w.cell? ⟨g, off + i * 7 + 4, none⟩ = some (.int .i64 ps[i].1.2.2.2.1) ∧ w.cell? ⟨g, off + i * 7 + 5, none⟩ = some (.int .i64 ps[i].1.2.2.2.2.1) ∧ w.cell? ⟨g, off + i * 7 + 6, none⟩ = some (.int .i64 ps[i].1.2.2.2.2.2)) := by
  obtain ⟨a, cap, rfl, hr⟩ := h.1
  refine ⟨a, cap, rfl, fun h0 => ?_⟩
  obtain ⟨g, off, rfl, hg, hc⟩ := hr h0
  refine ⟨g, off, rfl, hg, fun i hi => ⟨?_, ?_, ?_, ?_, ?_, ?_, ?_⟩⟩
  · exact hc i hi 0 (by omega)
  · exact hc i hi 1 (by omega)
  · exact hc i hi 2 (by omega)
  · exact hc i hi 3 (by omega)
  · exact hc i hi 4 (by omega)
  · exact hc i hi 5 (by omega)
  · exact hc i hi 6 (by omega)
theorem tree_cells {w : World} {v : Value} {ps : TL} (h : TreeR w v ps) : ∃ a cap, v = .slice a ps.length cap ∧ ps.length ≤ cap ∧ (0 < ps.length → ∃ g off, a = some ⟨g, off, none⟩ ∧ g < w.heap.size ∧ ∀ i (hi : i < ps.length),
    w.cell? ⟨g, off + i * 7, none⟩ = some (.int .i64 ps[i].1.1.1) ∧ w.cell? ⟨g, off + i * 7 + 1, none⟩ = some (.int .i64 ps[i].1.1.2) ∧ w.cell? ⟨g, off + i * 7 + 2, none⟩ = some ps[i].2 ∧ w.cell? ⟨g, off + i * 7 + 3, none⟩ = some (.int .i64 ps[i].1.2.2.1) ∧
    w.cell? ⟨g, off + i * 7 + 4, none⟩ = some (.int .i64 ps[i].1.2.2.2.1) ∧ w.cell? ⟨g, off + i * 7 + 5, none⟩ = some (.int .i64 ps[i].1.2.2.2.2.1) ∧ w.cell? ⟨g, off + i * 7 + 6, none⟩ = some (.int .i64 ps[i].1.2.2.2.2.2)) := by
  have hcap := h.cap
  obtain ⟨a, cap, rfl, hr⟩ := treeq_cells h.q
  exact ⟨a, cap, rfl, hcap _ _ _ rfl, hr⟩

/-- a row of commands is a slice of this many -/
theorem rows_form {α : Type} {f : α → List Value} {m : Nat} {w : World} {v : Value} {xs : List α} (h : RowsR w v m f xs) : ∃ a cap, v = .slice a xs.length cap := by
  obtain ⟨a, cap, rfl, _⟩ := h; exact ⟨a, cap, rfl⟩

/-- a block just boxed: its seven cells -/
theorem box_cells {w w' : World} {A : Array Value} {t : TypeId} (h : Below (w.alloc (.cells A t)).heap.size (w.alloc (.cells A t)) w') : w'.heap[w.heap.size]? = some (.cells A t (0, 0)) := (h.block w.heap.size (by simp)).trans (heap_alloc_new w _)

/-- what is owned stays, where its block is as it was -/
theorem own_same {w w' : World} {base m n : Nat} {e : TypeId} {v : Value} {xs : List Value} (h : w.ownsRow base e m v n xs) (hk : ∀ g, v.ownBlock = some g → w'.heap[g]? = w.heap[g]?) : w'.ownsRow base e m v n xs := by
  obtain ⟨hl, h0 | ⟨g, cap, cur, rfl, hb, hh, r⟩⟩ := h
  · exact ⟨hl, Or.inl h0⟩
  · exact ⟨hl, Or.inr ⟨g, cap, cur, rfl, hb, (hk g rfl).trans hh, r⟩⟩

/-- only blocks from lo on, up to hi, are other than they were -/
structure Wn (lo hi : Nat) (w w' : World) : Prop where
  os : w'.os = w.os
  tape : w'.tape = w.tape
  output : w'.output = w.output
  size : w.heap.size ≤ w'.heap.size
  block : ∀ k, k < w.heap.size → (k < lo ∨ hi ≤ k) → w'.heap[k]? = w.heap[k]?
theorem Wn.of_below {lo hi : Nat} {w w' : World} (h : Below w.heap.size w w') : Wn lo hi w w' := ⟨h.os, h.tape, h.output, h.size, fun k hk _ => h.block k hk⟩
theorem Wn.of_grown {lo hi : Nat} {w w' : World} {r : Option Nat} (h : w.grownBy w' r) (hr : ∀ g, r = some g → lo ≤ g ∧ g < hi) : Wn lo hi w w' :=
  ⟨h.os, h.tape, h.output, h.size, fun k hk hne => h.block k hk fun e => by have := hr k e.symm; omega⟩
theorem Wn.trans {lo hi : Nat} {a b c : World} (h : Wn lo hi a b) (k : Wn lo hi b c) : Wn lo hi a c :=
  ⟨k.os.trans h.os, k.tape.trans h.tape, k.output.trans h.output, Nat.le_trans h.size k.size, fun i hi' hne => (k.block i (Nat.lt_of_lt_of_le hi' h.size) hne).trans (h.block i hi' hne)⟩
theorem Wn.below {lo hi n : Nat} {w w1 w2 : World} (hb : Below n w w1) (h : Wn lo hi w1 w2) (hn : n ≤ lo) (hs : n ≤ w1.heap.size) : Below n w w2 :=
  ⟨h.os.trans hb.os, h.tape.trans hb.tape, h.output.trans hb.output, Nat.le_trans hb.size h.size, fun k hk => (h.block k (by omega) (by omega)).trans (hb.block k hk)⟩

/-- a tree of the call's own -/
structure OwnT (w : World) (base : Nat) (v : Value) (ps : TL) : Prop where
  row : w.ownsRow base 128 7 v ps.length (flatR blkF ps)
  cmds : ∀ p ∈ ps, w.ownsRow base 134 3 p.2 p.1.2.1.length (flatR cmdF p.1.2.1)
  apart : ps.Pairwise fun p q => q.2.ownBlock = none ∨ q.2.ownBlock ≠ p.2.ownBlock
theorem OwnT.read {w : World} {base : Nat} {v : Value} {ps : TL} (h : OwnT w base v ps) : TreeR w v ps := ⟨rows_of_own blkF_len h.row, fun p hp => rows_of_own cmdF_len (h.cmds p hp), capOk_own h.row⟩
theorem OwnT.same {w w' : World} {base : Nat} {v : Value} {ps : TL} (h : OwnT w base v ps) (hk : ∀ g, base ≤ g → g < w.heap.size → w'.heap[g]? = w.heap[g]?) : OwnT w' base v ps :=
  ⟨own_same h.row fun g hg => hk g (h.row.lt g hg).1 (h.row.lt g hg).2, fun p hp => own_same (h.cmds p hp) fun g hg => hk g ((h.cmds p hp).lt g hg).1 ((h.cmds p hp).lt g hg).2, h.apart⟩
theorem OwnT.below {w w' : World} {base : Nat} {v : Value} {ps : TL} (h : OwnT w base v ps) (hb : Below w.heap.size w w') : OwnT w' base v ps := h.same fun g _ hg => hb.block g hg
theorem OwnT.base {w : World} {base base' : Nat} {v : Value} {ps : TL} (h : OwnT w base v ps) (hb : base' ≤ base) : OwnT w base' v ps := ⟨own_base h.row hb, fun p hp => own_base (h.cmds p hp) hb, h.apart⟩

end Go.Proofs.Ytjieklilojmifat

namespace Go.Proofs.Ytjieklilojmifat
open Go.RowKit Num

set_option maxRecDepth 100000 in
theorem blk_seven {w : World} {N : Nat} {u0 u1 u2 u3 u4 u5 u6 : Value} {t : TypeId} (h0 : w.heap[N]? = some (.cells #[u0, u1, u2, u3, u4, u5, u6] t (0, 0))) (a b c d e f g : Value) :
    (w.cell? ⟨N, 0, none⟩ = some u0 ∧ w.frozen? ⟨N, 0, none⟩ = false) ∧
      ((w.setCell ⟨N, 0, none⟩ a).cell? ⟨N, 1, none⟩ = some u1 ∧ (w.setCell ⟨N, 0, none⟩ a).frozen? ⟨N, 1, none⟩ = false) ∧
      (((w.setCell ⟨N, 0, none⟩ a).setCell ⟨N, 1, none⟩ b).cell? ⟨N, 2, none⟩ = some u2 ∧ ((w.setCell ⟨N, 0, none⟩ a).setCell ⟨N, 1, none⟩ b).frozen? ⟨N, 2, none⟩ = false) ∧
      ((((w.setCell ⟨N, 0, none⟩ a).setCell ⟨N, 1, none⟩ b).setCell ⟨N, 2, none⟩ c).cell? ⟨N, 3, none⟩ = some u3 ∧ (((w.setCell ⟨N, 0, none⟩ a).setCell ⟨N, 1, none⟩ b).setCell ⟨N, 2, none⟩ c).frozen? ⟨N, 3, none⟩ = false) ∧
      (((((w.setCell ⟨N, 0, none⟩ a).setCell ⟨N, 1, none⟩ b).setCell ⟨N, 2, none⟩ c).setCell ⟨N, 3, none⟩ d).cell? ⟨N, 4, none⟩ = some u4 ∧ ((((w.setCell ⟨N, 0, none⟩ a).setCell ⟨N, 1, none⟩ b).setCell ⟨N, 2, none⟩ c).setCell ⟨N, 3, none⟩ d).frozen? ⟨N, 4, none⟩ = false) ∧
      ((((((w.setCell ⟨N, 0, none⟩ a).setCell ⟨N, 1, none⟩ b).setCell ⟨N, 2, none⟩ c).setCell ⟨N, 3, none⟩ d).setCell ⟨N, 4, none⟩ e).cell? ⟨N, 5, none⟩ = some u5 ∧ (((((w.setCell ⟨N, 0, none⟩ a).setCell ⟨N, 1, none⟩ b).setCell ⟨N, 2, none⟩ c).setCell ⟨N, 3, none⟩ d).setCell ⟨N, 4, none⟩ e).frozen? ⟨N, 5, none⟩ = false) ∧
      (((((((w.setCell ⟨N, 0, none⟩ a).setCell ⟨N, 1, none⟩ b).setCell ⟨N, 2, none⟩ c).setCell ⟨N, 3, none⟩ d).setCell ⟨N, 4, none⟩ e).setCell ⟨N, 5, none⟩ f).cell? ⟨N, 6, none⟩ = some u6 ∧ ((((((w.setCell ⟨N, 0, none⟩ a).setCell ⟨N, 1, none⟩ b).setCell ⟨N, 2, none⟩ c).setCell ⟨N, 3, none⟩ d).setCell ⟨N, 4, none⟩ e).setCell ⟨N, 5, none⟩ f).frozen? ⟨N, 6, none⟩ = false) ∧
      (((((((w.setCell ⟨N, 0, none⟩ a).setCell ⟨N, 1, none⟩ b).setCell ⟨N, 2, none⟩ c).setCell ⟨N, 3, none⟩ d).setCell ⟨N, 4, none⟩ e).setCell ⟨N, 5, none⟩ f).setCell ⟨N, 6, none⟩ g).heap[N]? = some (.cells #[a, b, c, d, e, f, g] t (0, 0)) ∧ w.grownBy (((((((w.setCell ⟨N, 0, none⟩ a).setCell ⟨N, 1, none⟩ b).setCell ⟨N, 2, none⟩ c).setCell ⟨N, 3, none⟩ d).setCell ⟨N, 4, none⟩ e).setCell ⟨N, 5, none⟩ f).setCell ⟨N, 6, none⟩ g) (some N) := by
  have h1 : (w.setCell ⟨N, 0, none⟩ a).heap[N]? = some (.cells #[a, u1, u2, u3, u4, u5, u6] t (0, 0)) := heap_setCell_same _ N 0 _ t a h0
  have h2 : ((w.setCell ⟨N, 0, none⟩ a).setCell ⟨N, 1, none⟩ b).heap[N]? = some (.cells #[a, b, u2, u3, u4, u5, u6] t (0, 0)) := heap_setCell_same _ N 1 _ t b h1
  have h3 : (((w.setCell ⟨N, 0, none⟩ a).setCell ⟨N, 1, none⟩ b).setCell ⟨N, 2, none⟩ c).heap[N]? = some (.cells #[a, b, c, u3, u4, u5, u6] t (0, 0)) := heap_setCell_same _ N 2 _ t c h2
  have h4 : ((((w.setCell ⟨N, 0, none⟩ a).setCell ⟨N, 1, none⟩ b).setCell ⟨N, 2, none⟩ c).setCell ⟨N, 3, none⟩ d).heap[N]? = some (.cells #[a, b, c, d, u4, u5, u6] t (0, 0)) := heap_setCell_same _ N 3 _ t d h3
  have h5 : (((((w.setCell ⟨N, 0, none⟩ a).setCell ⟨N, 1, none⟩ b).setCell ⟨N, 2, none⟩ c).setCell ⟨N, 3, none⟩ d).setCell ⟨N, 4, none⟩ e).heap[N]? = some (.cells #[a, b, c, d, e, u5, u6] t (0, 0)) := heap_setCell_same _ N 4 _ t e h4
  have h6 : ((((((w.setCell ⟨N, 0, none⟩ a).setCell ⟨N, 1, none⟩ b).setCell ⟨N, 2, none⟩ c).setCell ⟨N, 3, none⟩ d).setCell ⟨N, 4, none⟩ e).setCell ⟨N, 5, none⟩ f).heap[N]? = some (.cells #[a, b, c, d, e, f, u6] t (0, 0)) := heap_setCell_same _ N 5 _ t f h5
  have h7 : (((((((w.setCell ⟨N, 0, none⟩ a).setCell ⟨N, 1, none⟩ b).setCell ⟨N, 2, none⟩ c).setCell ⟨N, 3, none⟩ d).setCell ⟨N, 4, none⟩ e).setCell ⟨N, 5, none⟩ f).setCell ⟨N, 6, none⟩ g).heap[N]? = some (.cells #[a, b, c, d, e, f, g] t (0, 0)) := heap_setCell_same _ N 6 _ t g h6
  refine ⟨⟨?_, frozen_of_row _ N 0 _ _ h0⟩, ⟨?_, frozen_of_row _ N 1 _ _ h1⟩, ⟨?_, frozen_of_row _ N 2 _ _ h2⟩, ⟨?_, frozen_of_row _ N 3 _ _ h3⟩, ⟨?_, frozen_of_row _ N 4 _ _ h4⟩, ⟨?_, frozen_of_row _ N 5 _ _ h5⟩, ⟨?_, frozen_of_row _ N 6 _ _ h6⟩, h7, grown_trans (grown_trans (grown_trans (grown_trans (grown_trans (grown_trans (set_grown w N 0 a) (set_grown _ N 1 b)) (set_grown _ N 2 c)) (set_grown _ N 3 d)) (set_grown _ N 4 e)) (set_grown _ N 5 f)) (set_grown _ N 6 g)⟩
  · rw [cell_of_row _ N 0 _ _ (0, 0) h0]; rfl
  · rw [cell_of_row _ N 1 _ _ (0, 0) h1]; rfl
  · rw [cell_of_row _ N 2 _ _ (0, 0) h2]; rfl
  · rw [cell_of_row _ N 3 _ _ (0, 0) h3]; rfl
  · rw [cell_of_row _ N 4 _ _ (0, 0) h4]; rfl
  · rw [cell_of_row _ N 5 _ _ (0, 0) h5]; rfl
  · rw [cell_of_row _ N 6 _ _ (0, 0) h6]; rfl

set_option maxRecDepth 100000 in
theorem blk_tail {w : World} {N : Nat} {u0 u1 u2 u3 u4 u5 u6 : Value} {t : TypeId} (h3 : w.heap[N]? = some (.cells #[u0, u1, u2, u3, u4, u5, u6] t (0, 0))) (d e f g : Value) :
    (w.cell? ⟨N, 3, none⟩ = some u3 ∧ w.frozen? ⟨N, 3, none⟩ = false) ∧
      ((w.setCell ⟨N, 3, none⟩ d).cell? ⟨N, 4, none⟩ = some u4 ∧ (w.setCell ⟨N, 3, none⟩ d).frozen? ⟨N, 4, none⟩ = false) ∧
      (((w.setCell ⟨N, 3, none⟩ d).setCell ⟨N, 4, none⟩ e).cell? ⟨N, 5, none⟩ = some u5 ∧ ((w.setCell ⟨N, 3, none⟩ d).setCell ⟨N, 4, none⟩ e).frozen? ⟨N, 5, none⟩ = false) ∧
      ((((w.setCell ⟨N, 3, none⟩ d).setCell ⟨N, 4, none⟩ e).setCell ⟨N, 5, none⟩ f).cell? ⟨N, 6, none⟩ = some u6 ∧ (((w.setCell ⟨N, 3, none⟩ d).setCell ⟨N, 4, none⟩ e).setCell ⟨N, 5, none⟩ f).frozen? ⟨N, 6, none⟩ = false) ∧
      ((((w.setCell ⟨N, 3, none⟩ d).setCell ⟨N, 4, none⟩ e).setCell ⟨N, 5, none⟩ f).setCell ⟨N, 6, none⟩ g).heap[N]? = some (.cells #[u0, u1, u2, d, e, f, g] t (0, 0)) ∧ w.grownBy ((((w.setCell ⟨N, 3, none⟩ d).setCell ⟨N, 4, none⟩ e).setCell ⟨N, 5, none⟩ f).setCell ⟨N, 6, none⟩ g) (some N) := by
  have h4 : (w.setCell ⟨N, 3, none⟩ d).heap[N]? = some (.cells #[u0, u1, u2, d, u4, u5, u6] t (0, 0)) := heap_setCell_same _ N 3 _ t d h3
  have h5 : ((w.setCell ⟨N, 3, none⟩ d).setCell ⟨N, 4, none⟩ e).heap[N]? = some (.cells #[u0, u1, u2, d, e, u5, u6] t (0, 0)) := heap_setCell_same _ N 4 _ t e h4
  have h6 : (((w.setCell ⟨N, 3, none⟩ d).setCell ⟨N, 4, none⟩ e).setCell ⟨N, 5, none⟩ f).heap[N]? = some (.cells #[u0, u1, u2, d, e, f, u6] t (0, 0)) := heap_setCell_same _ N 5 _ t f h5
  have h7 : ((((w.setCell ⟨N, 3, none⟩ d).setCell ⟨N, 4, none⟩ e).setCell ⟨N, 5, none⟩ f).setCell ⟨N, 6, none⟩ g).heap[N]? = some (.cells #[u0, u1, u2, d, e, f, g] t (0, 0)) := heap_setCell_same _ N 6 _ t g h6
  refine ⟨⟨?_, frozen_of_row _ N 3 _ _ h3⟩, ⟨?_, frozen_of_row _ N 4 _ _ h4⟩, ⟨?_, frozen_of_row _ N 5 _ _ h5⟩, ⟨?_, frozen_of_row _ N 6 _ _ h6⟩, h7, grown_trans (grown_trans (grown_trans (set_grown w N 3 d) (set_grown _ N 4 e)) (set_grown _ N 5 f)) (set_grown _ N 6 g)⟩
  · rw [cell_of_row _ N 3 _ _ (0, 0) h3]; rfl
  · rw [cell_of_row _ N 4 _ _ (0, 0) h4]; rfl
  · rw [cell_of_row _ N 5 _ _ (0, 0) h5]; rfl
  · rw [cell_of_row _ N 6 _ _ (0, 0) h6]; rfl

/-- nothing is appended -/
theorem run_append_no {P : Program} {t ty e : TypeId} {i : TypeInfo} (ht : P.underlying t = some (.slice e)) (hi : P.info? e = some i) (w : World) {base : Nat} {v : Value} {n : Nat} {xs : List Value} {m : Nat} (hown : w.ownsRow base e m v n xs) (c : Nat) :
    (Builtin.append_ #[t, t] ty #[v, .slice none 0 c]).run P w = .ok v w := by
  obtain ⟨hl, ⟨rfl, h0⟩ | ⟨g, cap, cur, rfl, hb, hh, hn, hc, hs, htk⟩⟩ := hown
  · simp [Builtin.append_, run_underlying ht, sizeOf, typeInfo, hi, Builtin.lenOf, Builtin.firstCells]
  · have : n ≤ cap := by omega
    simp [Builtin.append_, run_underlying ht, sizeOf, typeInfo, hi, Builtin.lenOf, Builtin.firstCells, storeCells, this]

/-- 'append(out, list...)': out is the call's own, list can be read -/
theorem wpList_append_rows {α : Type} {f : α → List Value} {m : Nat} (w : World) {ops : Array Oper} {rest : List Oper} {o : Oper} {a : Act} {Q : Exit → Act → World → Prop} (hgd : o.guard = none) (s x : Operand) (t : TypeId)
    (ho : o.op = .call { callee := .builtin .append, args := #[s, x], argTypes := #[t, t] })
    (base : Nat) (e : TypeId) (i : TypeInfo) (z : Value) (bytes : Nat) (ht : Try.prog.underlying t = some (.slice e)) (hi : Try.prog.info? e = some i) (hz : i.zero = some z) (hsize : i.size = m) (hby : i.bytes = bytes) (hzs : z.cells.size = m) (hsz : 0 < m)
    (hm : ∀ y, (f y).length = m) (hone : ∀ y, ∀ u ∈ f y, u.oneCell' = true)
    (v : Value) (xs : List α) (hs : a.eval s = v) (hown : w.ownsRow base e m v xs.length (flatR f xs))
    (src : Value) (cs : List α) (hx : a.eval x = src) (hsrc : RowsR w src m f cs) (h63 : xs.length + cs.length ≤ maxLen) (hbytes : (xs.length + cs.length) * bytes ≤ 140737488355328) (hbase : base ≤ w.heap.size)
    (h : ∀ v' w', w'.ownsRow base e m v' (xs ++ cs).length (flatR f (xs ++ cs)) → w.grownBy w' v.ownBlock → wpList Try.prog ops Q rest (a.put o.dst v') w') : wpList Try.prog ops Q (o :: rest) a w := by
  obtain ⟨ad, cap, rfl, hr⟩ := hsrc
  cases ad with
  | none =>
    have h0 : cs.length = 0 := by
      rcases Nat.eq_zero_or_pos cs.length with h | h
      · exact h
      · obtain ⟨_, _, e, _⟩ := hr h; cases e
    obtain rfl : cs = [] := List.eq_nil_of_length_eq_zero h0
    refine wpList_plain hgd fun K' hK' => ?_
    have hrun := run_append_no (ty := o.type) ht hi w hown cap
    unfold Oper.wp execOp
    simp only [ho, resolve, invoke, builtin, Sem.run_bind, Sem.run_pure, Result.andThen_ok, List.map_toArray, List.map_cons, List.map_nil, hs, hx, List.length_nil, hrun]
    exact hK' _ _ (h v w (by simpa using hown) ⟨rfl, rfl, rfl, Nat.le_refl _, fun _ _ _ => rfl⟩)
  | some ad =>
    refine wpList_append_own _ hgd s x t ho base e i z m bytes ht hi hz hsize hby hzs hsz v _ _ hs hown ad cs.length cap (flatR f cs) hx (flatR_len hm cs) ?_ (fun u hu => ?_) h63 hbytes hbase fun v' w' h1 h2 _ => h v' w' (by rw [List.length_append, flatR_append]; exact h1) h2
    · intro j u hj
      have hjl : j < cs.length * m := by
        rw [← flatR_len hm]
        exact (List.getElem?_eq_some_iff.1 hj).1
      have h0 : 0 < cs.length := by
        rcases Nat.eq_zero_or_pos cs.length with h | h
        · rw [h] at hjl; omega
        · exact h
      obtain ⟨g, off, rfl0, hg, hc⟩ := hr h0
      cases rfl0
      have hp : (⟨g, off, none⟩ : Addr).add j = ⟨g, off + j, none⟩ := by unfold Addr.add; split <;> simp_all
      have hd : j / m < cs.length := Nat.div_lt_of_lt_mul (by rw [Nat.mul_comm]; exact hjl)
      have hr : j % m < m := Nat.mod_lt _ hsz
      have e : j = j / m * m + j % m := by rw [Nat.mul_comm]; exact (Nat.div_add_mod j m).symm
      have hf := flatR_at hm cs (j / m) hd (j % m) hr
      rw [← e] at hf
      rw [hp, show off + j = off + j / m * m + j % m by omega, hc (j / m) hd (j % m) hr, ← hf, hj]
    · obtain ⟨y, _, hy⟩ := List.mem_flatMap.1 hu
      exact hone y u hy

theorem cmdF_one (c : CM) : ∀ u ∈ cmdF c, u.oneCell' = true := by
  intro u hu; unfold cmdF at hu; simp at hu; rcases hu with h | h | h <;> subst h <;> rfl
theorem infoCm3 : (Try.prog.info? 134).map (fun i => (i.zero, i.size, i.bytes)) = some (some (.agg #[.int .i64 0, .string ByteArray.empty, .int .i64 0]), 3, 32) := by kernel_rfl
theorem infoBlk : (Try.prog.info? 128).map (fun i => (i.zero, i.size, i.bytes)) = some (some (.agg #[.int .i64 0, .int .i64 0, .slice none 0 0, .int .i64 0, .int .i64 0, .int .i64 0, .int .i64 0]), 7, 72) := by kernel_rfl

end Go.Proofs.Ytjieklilojmifat

namespace Go.Proofs.Ytjieklilojmifat
open Go.RowKit Num

/-- rows of other elements lie elsewhere -/
theorem own_kind {w : World} {b1 b2 m1 m2 n1 n2 : Nat} {e1 e2 : TypeId} {v1 v2 : Value} {xs1 xs2 : List Value} (h1 : w.ownsRow b1 e1 m1 v1 n1 xs1) (h2 : w.ownsRow b2 e2 m2 v2 n2 xs2) (he : e1 ≠ e2) : v1.ownBlock = none ∨ v1.ownBlock ≠ v2.ownBlock := by
  obtain ⟨_, ⟨rfl, _⟩ | ⟨g1, cap1, cur1, rfl, _, hh1, _⟩⟩ := h1
  · exact Or.inl rfl
  · refine Or.inr fun e => ?_
    obtain ⟨_, ⟨rfl, _⟩ | ⟨g2, cap2, cur2, rfl, _, hh2, _⟩⟩ := h2
    · simp [Value.ownBlock] at e
    · have : g1 = g2 := by simpa [Value.ownBlock] using e
      subst this
      rw [hh1] at hh2
      injection hh2 with hh2
      injection hh2 with _ hh3
      exact he hh3
theorem newsB (W : World) (b : BK) (cv : Value) (t : TypeId) : ∀ j u, (blkF (b, cv))[j]? = some u → (W.alloc (.cells (blkA b cv) t)).cell? ((⟨W.heap.size, 0, none⟩ : Addr).add j) = some u := by
  intro j u hj
  have hp : (⟨W.heap.size, 0, none⟩ : Addr).add j = ⟨W.heap.size, j, none⟩ := by unfold Addr.add; split <;> simp_all
  rw [hp, cell_of_row _ W.heap.size j _ _ (0, 0) (heap_alloc_new W _), ← hj]
  simp [blkF]
theorem onesB (b : BK) (a : Option Addr) (n cap : Nat) : ∀ u ∈ blkF (b, .slice a n cap), u.oneCell' = true := by
  intro u hu; unfold blkF at hu; simp at hu; rcases hu with h | h | h | h | h | h | h <;> subst h <;> rfl
theorem flatB_one (p : BK × Value) : flatR blkF [p] = blkF p := by simp [flatR]
theorem bks_snoc (qs : TL) (p : BK × Value) : bks (qs ++ [p]) = bks qs ++ [p.1] := by simp [bks]
theorem ne_ids : 134 ≠ 128 := by decide

theorem OwnT.push {wr w2 w3 : World} {base : Nat} {v v3 : Value} {qs : TL} {b : BK} {cv : Value} {o : Obj} (h : OwnT wr base v qs) (hb : Below wr.heap.size wr w2) (hc : w2.ownsRow wr.heap.size 134 3 cv b.2.1.length (flatR cmdF b.2.1))
    (row : w3.ownsRow base 128 7 v3 (qs.length + 1) (flatR blkF qs ++ blkF (b, cv))) (hg : (w2.alloc o).grownBy w3 v.ownBlock) (hbase : base ≤ wr.heap.size) : OwnT w3 base v3 (qs ++ [(b, cv)]) := by
  have hrow2 : (w2.alloc o).ownsRow base 128 7 v qs.length (flatR blkF qs) := World.ownsRow.alloc (own_kept h.row hb) o
  refine ⟨by rw [List.length_append, flatR_append, flatB_one]; exact row, fun p hp => ?_, ?_⟩
  · rcases List.mem_append.1 hp with hp | hp
    · have h2 : (w2.alloc o).ownsRow base 134 3 p.2 p.1.2.1.length (flatR cmdF p.1.2.1) := World.ownsRow.alloc (own_kept (h.cmds p hp) hb) o
      exact World.ownsRow.kept h2 hg (own_kind h2 hrow2 ne_ids)
    · simp at hp
      subst hp
      have h2 : (w2.alloc o).ownsRow wr.heap.size 134 3 cv b.2.1.length (flatR cmdF b.2.1) := World.ownsRow.alloc hc o
      exact own_base (World.ownsRow.kept h2 hg (own_kind h2 hrow2 ne_ids)) hbase
  · rw [List.pairwise_append]
    refine ⟨h.apart, by simp, fun p hp q hq => ?_⟩
    simp at hq
    subst hq
    exact own_ne (h.cmds p hp) hc (Nat.le_refl _)
theorem ownT_nil (w : World) : OwnT (w.alloc (.cells #[] 128)) w.heap.size (.slice (some ⟨w.heap.size, 0, none⟩) 0 0) [] := ⟨own_new w _ 7, fun p hp => (by cases hp), List.Pairwise.nil⟩

/-- a tree of one block, its commands of the call's own -/
theorem ownT_one {w : World} {base : Nat} {b : BK} {cv : Value} (hb : base ≤ w.heap.size) (hc : w.ownsRow base 134 3 cv b.2.1.length (flatR cmdF b.2.1)) :
    OwnT (w.alloc (.cells (blkA b cv) 128)) base (.slice (some ⟨w.heap.size, 0, none⟩) 1 1) [(b, cv)] := by
  refine ⟨⟨rfl, Or.inr ⟨w.heap.size, 1, blkA b cv, rfl, hb, heap_alloc_new w _, Nat.le_refl _, by unfold maxLen; omega, rfl, rfl⟩⟩, fun p hp => ?_, by simp⟩
  simp at hp
  subst hp
  exact World.ownsRow.alloc hc _

end Go.Proofs.Ytjieklilojmifat

namespace Go.Proofs.Ytjieklilojmifat
open Go.RowKit Num

/-- a number stored into a cell of a row -/
theorem wpList_store_int {P : Program} {ops : Array Oper} {rest : List Oper} {op : Oper} {a : Act} {w : World} {Q : Exit → Act → World → Prop} (hgd : op.guard = none) (ty : TypeId) (x y : Operand) (ho : op.op = .store ty x y) (base : Nat) (e : TypeId) (m n cap g o : Nat) (u : Int) (xs : List Value) (hx : a.eval x = .pointer (some ⟨g, o, none⟩)) (hy : a.eval y = .int .i64 u)
    (hown : w.ownsRow base e m (.slice (some ⟨g, 0, none⟩) n cap) n xs) (hk : o < n * m) (hi : (P.info? ty).map (·.size) = some 1)
    (h : ∀ w', w.grownBy w' (some g) → w'.ownsRow base e m (.slice (some ⟨g, 0, none⟩) n cap) n (xs.set o (.int .i64 u)) → wpList P ops Q rest (a.put op.dst undef) w') : wpList P ops Q (op :: rest) a w :=
  wpList_store_own hgd ty x y ho base e m n cap g o (.int .i64 u) xs hx hy hown hk hi rfl h

/-- a cell of a row loaded -/
theorem wpList_load_own {P : Program} {ops : Array Oper} {rest : List Oper} {op : Oper} {a : Act} {w : World} {Q : Exit → Act → World → Prop} (hgd : op.guard = none) (ty : TypeId) (x : Operand) (ho : op.op = .load ty x) (base : Nat) (e : TypeId) (m n cap g o : Nat) (u : Value) (xs : List Value) (hx : a.eval x = .pointer (some ⟨g, o, none⟩))
    (hown : w.ownsRow base e m (.slice (some ⟨g, 0, none⟩) n cap) n xs) (hk : o < n * m) (hu : xs[o]? = some u) (d : TypeDesc) (ht : P.underlying ty = some d) (hd : d.isRow = false)
    (h : wpList P ops Q rest (a.put op.dst u) w) : wpList P ops Q (op :: rest) a w := by
  refine wpList_plain hgd fun K hK => ?_
  have hcell : w.cell? ⟨g, o, none⟩ = some u := by rw [hown.cellAt o hk, hu]
  have hagg : (isAgg ty).run P w = .ok false w := by
    unfold isAgg
    rw [Sem.run_bind, run_underlying ht w]
    cases d <;> simp_all
  have hrun : (loadVar ty ⟨g, o, none⟩).run P w = .ok u w := by simp [loadVar, Sem.run_bind, hagg, hcell]
  unfold Oper.wp execOp
  simp only [ho, hx, Instr.loadAt, Instr.sureAddr, Sem.run_bind, Sem.run_pure, Result.andThen_ok, hrun]
  exact hK _ _ h

set_option maxRecDepth 100000 in
set_option maxHeartbeats 8000000 in
theorem markPeers_own (ps : PL) (k lo : Nat) (B : Nat → Prop) (v : Value) (w : World) (h : OwnPs lo w v ps) (hB : LimP B v ps) (hk2 : pnum k ps ≤ 19000000) (hl : (ps.length : Int) ≤ 1048576) (hn : ∀ x ∈ ps, sumPe x.1) :
    Calls Try.prog 71 #[v, .int .i64 k] w fun e w' => e = .returned (.int .i64 ((pnum k ps : Nat) : Int)) ∧ OwnPs lo w' v (pmarks k ps) ∧ FrS B w w' := by
  have HO : Hid (OwnPs lo w v ps) := h
  have HL : Hid (LimP B v ps) := hB
  have HN : Hid (∀ x ∈ ps, sumPe x.1) := hn
  obtain ⟨a, cap, rfl, hg⟩ := own_form h.row
  have HG : Hid (0 < ps.length → ∃ g, a = some ⟨g, 0, none⟩) := hg
  clear hg h hB hn
  go_enter Try.func71, Try.ntmps71
  go_wp2
  go_loopw [1, 5] (fun q i wr => ∃ (m s : Nat), m ≤ ps.length ∧ q = .int .i64 (s : Int) ∧ s ≤ 19000000 ∧ i = .int .i64 m ∧ Hid (s = pnum k (ps.take m)) ∧ Hid (OwnPs lo wr (.slice a ps.length cap) (pmix k ps m)) ∧ Hid (FrS B w wr)) (fun _ i _ => ps.length - (intOf i).toNat)
  case atStart => exact ⟨0, k, Nat.zero_le _, rfl, by have := pnum_le ps k; omega, rfl, rfl, (by rw [pmix_zero]; exact HO.out : OwnPs lo w (.slice a ps.length cap) (pmix k ps 0)), FrS.refl _ _⟩
  case round =>
    obtain ⟨m, s, hm, rfl, hs1, rfl, HS, HOW, HW⟩ := hrel
    by_cases hlt : (m : Int) < ps.length
    · have q0 : (0 : Int) ≤ (m : Int) := by omega
      have hmn : m < ps.length := by omega
      have hml := pmix_len k ps hm
      have hmm : m < (pmix k ps m).length := by omega
      have hat := pmix_at k ps hmn
      obtain ⟨p, t, hy⟩ : ∃ p t, ps[m] = (p, t) := ⟨_, _, rfl⟩
      have hsp := HN.out _ (List.getElem_mem hmn)
      have hnx : pnum1 s p ≤ 19000000 := by
        have h1 := pnum_take hmn k
        have h2 := pnum_take_le ps (m + 1) k
        have h3 := HS.out
        rw [hy] at h1
        simp only at h1
        rw [← h3] at h1
        omega
      have hst := pmix_step k ps hmn
      rw [hy] at hst hat hsp
      simp only at hst hsp
      rw [← HS.out] at hst
      have HST : Hid ((pmix k ps m).set m (pm s p, t) = pmix k ps (m + 1)) := hst
      have HNS : Hid (pnum1 s p = pnum k (ps.take (m + 1))) := (by rw [pnum_take hmn k, hy, HS.out] : pnum1 s p = pnum k (ps.take (m + 1)))
      obtain ⟨L, hL⟩ : ∃ L, L = pmix k ps m := ⟨_, rfl⟩
      rw [← hL] at hml hmm HST HOW
      have hatL : L[m] = (p, t) := by simp only [hL]; exact hat
      have HAT : Hid (L[m] = (p, t)) := hatL
      have HIN : Hid (∀ g, inSix t g → B g) := HL.out.2 (p, t) (by rw [← hy]; exact List.getElem_mem hmn)
      have HD : Hid (OwnD lo wr.heap.size wr p t) := HOW.out.own.each (p, t) (by rw [← hatL]; exact List.getElem_mem hmm)
      clear hat hL hst hatL hy
      obtain ⟨g, rfl⟩ := HG.out (by omega)
      have HGB : Hid (B g) := HL.out.1 g rfl
      have HR0 : Hid (wr.ownsRow lo 41 21 (.slice (some ⟨g, 0, none⟩) ps.length cap) ps.length (flatR peerF L)) := (by have := HOW.out.row; rw [hml] at this; exact this)
      unfold sumPe lenPe at hsp
      unfold pnum1 at hnx
      replace HR := HR0
      have HGR : Hid (wr.grownBy wr (some g)) := ⟨rfl, rfl, rfl, Nat.le_refl _, fun _ _ _ => rfl⟩
      go_wp2_with (first | (refine wpList_store_int rfl _ _ _ rfl lo 41 21 ps.length cap g _ _ _ rfl rfl HR.out (by omega) (by kernel_rfl) ?_; intro y hg ho; replace HR := hid ho; replace HGR := hid (grown_trans HGR.out hg); clear hg ho) | (refine wpList_load_own rfl _ _ rfl lo 41 21 ps.length cap g (m * 21 + 14) t.row _ rfl HR.out (by omega) (by (iterate 14 rw [List.getElem?_set_ne (by omega)]); rw [flatR_at peerF_len _ m hmm 14 (by omega), HAT.out]; rfl) _ Try.underlying26 rfl ?_))
      have hcur : ∃ cur, wr.heap[g]? = some (.cells cur 41 (0, 0)) := own_block HR0.out
      have HNB : Hid (¬ inSix t g) := (by obtain ⟨cur, hc⟩ := hcur; exact six_not_box HD.out hc : ¬ inSix t g)
      have HD0 : Hid (OwnD lo wr.heap.size y p t) := (by obtain ⟨cur, hc⟩ := hcur; exact HD.out.boxed hc HGR.out : OwnD lo wr.heap.size y p t)
      have HA6 : Hid (Apart6 lo wr.heap.size t) := HD.out.2.1
      have HF0 : Hid (FrS (fun k => k = g ∨ inSix t k) wr y) := FrS.of_grown HGR.out (fun k e => Or.inl (by cases e; rfl))
      obtain ⟨q, hq⟩ : ∃ q : PE, q = { pm s p with shown := p.shown } := ⟨_, rfl⟩
      have HQ : Hid (q = { pm s p with shown := p.shown }) := hq
      replace HR := HR.out
      rw [flatP_set14 hmm s p t HAT.out q hq] at HR
      have HRx : Hid (y.ownsRow lo 41 21 (.slice (some ⟨g, 0, none⟩) ps.length cap) ps.length (flatR peerF (L.set m (q, t)))) := HR
      have hmL : m < (L.set m (q, t)).length := by rw [List.length_set]; exact hmm
      have hatL : (L.set m (q, t))[m] = (q, t) := List.getElem_set_self _
      have HX : Hid (Own6 lo y p t (flatR intF p.row) (flat p.cells) (flatR intF p.early) (flatR undoF p.undos) (flatR voteF p.votes) (flatR letF p.news)) := HD0.out.1
      clear HR hq hcur HGR HD0 HR0
      have hmt := markInts_any p.row.length (s + 14) t.row lo _ y HX.out.row (by omega) (by omega)
      rw [show ((s + 14 : Nat) : Int) = (s : Int) + 1 + 1 + 1 + 1 + 1 + 1 + 1 + 1 + 1 + 1 + 1 + 1 + 1 + 1 by omega] at hmt
      refine hmt.mono ?_
      rintro e x0 ⟨rfl, ho, hg⟩
      have HXN : Hid (Own6 lo x0 p t (flatR intF (imarks (s + 14) p.row.length)) (flat p.cells) (flatR intF p.early) (flatR undoF p.undos) (flatR voteF p.votes) (flatR letF p.news)) := ⟨ho, World.ownsRow.kept HX.out.cells hg (HA6.out.a10.ne), World.ownsRow.kept HX.out.early hg (HA6.out.a20.ne), World.ownsRow.kept HX.out.undos hg (HA6.out.a30.ne), World.ownsRow.kept HX.out.votes hg (HA6.out.a40.ne), World.ownsRow.kept HX.out.news hg (HA6.out.a50.ne)⟩
      have HRN : Hid (x0.ownsRow lo 41 21 (.slice (some ⟨g, 0, none⟩) ps.length cap) ps.length (flatR peerF (L.set m (q, t)))) := World.ownsRow.kept HRx.out hg (own_kind HRx.out HX.out.row (by decide))
      have HFN : Hid (FrS (fun k => k = g ∨ inSix t k) wr x0) := HF0.out.trans (FrS.of_grown hg (fun k e => Or.inr ⟨t.row, by simp [six], e⟩))
      clear ho hg hmt HX HRx HF0
      have HX := HXN
      have HRx := HRN
      have HF0 := HFN
      clear HXN HRN HFN
      go_wp2_with (refine wpList_load_own rfl _ _ rfl lo 41 21 ps.length cap g (m * 21 + 15) t.cells _ rfl HRx.out (by omega) (by rw [flatR_at peerF_len _ m hmL 15 (by omega), hatL]; rfl) _ Try.underlying36 rfl ?_)
      have hmt := markCells_any p.cells.length (s + 14 + p.row.length) t.cells lo _ x0 HX.out.cells (by omega) (by omega) (by omega)
      refine hmt.mono ?_
      rintro e x1 ⟨rfl, ho, hg⟩
      have HXN : Hid (Own6 lo x1 p t (flatR intF (imarks (s + 14) p.row.length)) (flat (cmarks (s + 14 + p.row.length) p.cells.length)) (flatR intF p.early) (flatR undoF p.undos) (flatR voteF p.votes) (flatR letF p.news)) := ⟨World.ownsRow.kept HX.out.row hg (HA6.out.a01.ne), ho, World.ownsRow.kept HX.out.early hg (HA6.out.a21.ne), World.ownsRow.kept HX.out.undos hg (HA6.out.a31.ne), World.ownsRow.kept HX.out.votes hg (HA6.out.a41.ne), World.ownsRow.kept HX.out.news hg (HA6.out.a51.ne)⟩
      have HRN : Hid (x1.ownsRow lo 41 21 (.slice (some ⟨g, 0, none⟩) ps.length cap) ps.length (flatR peerF (L.set m (q, t)))) := World.ownsRow.kept HRx.out hg (own_kind HRx.out HX.out.cells (by decide))
      have HFN : Hid (FrS (fun k => k = g ∨ inSix t k) wr x1) := HF0.out.trans (FrS.of_grown hg (fun k e => Or.inr ⟨t.cells, by simp [six], e⟩))
      clear ho hg hmt HX HRx HF0
      have HX := HXN
      have HRx := HRN
      have HF0 := HFN
      clear HXN HRN HFN
      go_wp2_with (refine wpList_load_own rfl _ _ rfl lo 41 21 ps.length cap g (m * 21 + 16) t.early _ rfl HRx.out (by omega) (by rw [flatR_at peerF_len _ m hmL 16 (by omega), hatL]; rfl) _ Try.underlying26 rfl ?_)
      have hmt := markInts_any p.early.length (s + 14 + p.row.length + 2 * p.cells.length) t.early lo _ x1 HX.out.early (by omega) (by omega)
      refine hmt.mono ?_
      rintro e x2 ⟨rfl, ho, hg⟩
      have HXN : Hid (Own6 lo x2 p t (flatR intF (imarks (s + 14) p.row.length)) (flat (cmarks (s + 14 + p.row.length) p.cells.length)) (flatR intF (imarks (s + 14 + p.row.length + 2 * p.cells.length) p.early.length)) (flatR undoF p.undos) (flatR voteF p.votes) (flatR letF p.news)) := ⟨World.ownsRow.kept HX.out.row hg (HA6.out.a02.ne), World.ownsRow.kept HX.out.cells hg (HA6.out.a12.ne), ho, World.ownsRow.kept HX.out.undos hg (HA6.out.a32.ne), World.ownsRow.kept HX.out.votes hg (HA6.out.a42.ne), World.ownsRow.kept HX.out.news hg (HA6.out.a52.ne)⟩
      have HRN : Hid (x2.ownsRow lo 41 21 (.slice (some ⟨g, 0, none⟩) ps.length cap) ps.length (flatR peerF (L.set m (q, t)))) := World.ownsRow.kept HRx.out hg (own_kind HRx.out HX.out.early (by decide))
      have HFN : Hid (FrS (fun k => k = g ∨ inSix t k) wr x2) := HF0.out.trans (FrS.of_grown hg (fun k e => Or.inr ⟨t.early, by simp [six], e⟩))
      clear ho hg hmt HX HRx HF0
      have HX := HXN
      have HRx := HRN
      have HF0 := HFN
      clear HXN HRN HFN
      go_wp2_with (refine wpList_load_own rfl _ _ rfl lo 41 21 ps.length cap g (m * 21 + 17) t.undos _ rfl HRx.out (by omega) (by rw [flatR_at peerF_len _ m hmL 17 (by omega), hatL]; rfl) _ Try.underlying37 rfl ?_)
      have hmt := markUndos_any p.undos.length (s + 14 + p.row.length + 2 * p.cells.length + p.early.length) t.undos lo _ x2 HX.out.undos (by omega) (by omega) (by omega)
      refine hmt.mono ?_
      rintro e x3 ⟨rfl, ho, hg⟩
      have HXN : Hid (Own6 lo x3 p t (flatR intF (imarks (s + 14) p.row.length)) (flat (cmarks (s + 14 + p.row.length) p.cells.length)) (flatR intF (imarks (s + 14 + p.row.length + 2 * p.cells.length) p.early.length)) (flatR undoF (umarks (s + 14 + p.row.length + 2 * p.cells.length + p.early.length) p.undos.length)) (flatR voteF p.votes) (flatR letF p.news)) := ⟨World.ownsRow.kept HX.out.row hg (HA6.out.a03.ne), World.ownsRow.kept HX.out.cells hg (HA6.out.a13.ne), World.ownsRow.kept HX.out.early hg (HA6.out.a23.ne), ho, World.ownsRow.kept HX.out.votes hg (HA6.out.a43.ne), World.ownsRow.kept HX.out.news hg (HA6.out.a53.ne)⟩
      have HRN : Hid (x3.ownsRow lo 41 21 (.slice (some ⟨g, 0, none⟩) ps.length cap) ps.length (flatR peerF (L.set m (q, t)))) := World.ownsRow.kept HRx.out hg (own_kind HRx.out HX.out.undos (by decide))
      have HFN : Hid (FrS (fun k => k = g ∨ inSix t k) wr x3) := HF0.out.trans (FrS.of_grown hg (fun k e => Or.inr ⟨t.undos, by simp [six], e⟩))
      clear ho hg hmt HX HRx HF0
      have HX := HXN
      have HRx := HRN
      have HF0 := HFN
      clear HXN HRN HFN
      go_wp2_with (refine wpList_load_own rfl _ _ rfl lo 41 21 ps.length cap g (m * 21 + 18) t.votes _ rfl HRx.out (by omega) (by rw [flatR_at peerF_len _ m hmL 18 (by omega), hatL]; rfl) _ Try.underlying38 rfl ?_)
      have hmt := markVotes_own p.votes.length (s + 14 + p.row.length + 2 * p.cells.length + p.early.length + 3 * p.undos.length) t.votes lo _ x3 HX.out.votes (by omega) (by omega)
      refine hmt.mono ?_
      rintro e x4 ⟨rfl, ho, hg⟩
      have HXN : Hid (Own6 lo x4 p t (flatR intF (imarks (s + 14) p.row.length)) (flat (cmarks (s + 14 + p.row.length) p.cells.length)) (flatR intF (imarks (s + 14 + p.row.length + 2 * p.cells.length) p.early.length)) (flatR undoF (umarks (s + 14 + p.row.length + 2 * p.cells.length + p.early.length) p.undos.length)) (icells (s + 14 + p.row.length + 2 * p.cells.length + p.early.length + 3 * p.undos.length) (p.votes.length * 4)) (flatR letF p.news)) := ⟨World.ownsRow.kept HX.out.row hg (HA6.out.a04.ne), World.ownsRow.kept HX.out.cells hg (HA6.out.a14.ne), World.ownsRow.kept HX.out.early hg (HA6.out.a24.ne), World.ownsRow.kept HX.out.undos hg (HA6.out.a34.ne), ho, World.ownsRow.kept HX.out.news hg (HA6.out.a54.ne)⟩
      have HRN : Hid (x4.ownsRow lo 41 21 (.slice (some ⟨g, 0, none⟩) ps.length cap) ps.length (flatR peerF (L.set m (q, t)))) := World.ownsRow.kept HRx.out hg (own_kind HRx.out HX.out.votes (by decide))
      have HFN : Hid (FrS (fun k => k = g ∨ inSix t k) wr x4) := HF0.out.trans (FrS.of_grown hg (fun k e => Or.inr ⟨t.votes, by simp [six], e⟩))
      clear ho hg hmt HX HRx HF0
      have HX := HXN
      have HRx := HRN
      have HF0 := HFN
      clear HXN HRN HFN
      go_wp2_with (refine wpList_load_own rfl _ _ rfl lo 41 21 ps.length cap g (m * 21 + 19) t.news _ rfl HRx.out (by omega) (by rw [flatR_at peerF_len _ m hmL 19 (by omega), hatL]; rfl) _ Try.underlying39 rfl ?_)
      have hmt := markLetters_own p.news.length (s + 14 + p.row.length + 2 * p.cells.length + p.early.length + 3 * p.undos.length + 4 * p.votes.length) t.news lo _ x4 HX.out.news (by omega) (by omega)
      refine hmt.mono ?_
      rintro e x5 ⟨rfl, ho, hg⟩
      have HXN : Hid (Own6 lo x5 p t (flatR intF (imarks (s + 14) p.row.length)) (flat (cmarks (s + 14 + p.row.length) p.cells.length)) (flatR intF (imarks (s + 14 + p.row.length + 2 * p.cells.length) p.early.length)) (flatR undoF (umarks (s + 14 + p.row.length + 2 * p.cells.length + p.early.length) p.undos.length)) (icells (s + 14 + p.row.length + 2 * p.cells.length + p.early.length + 3 * p.undos.length) (p.votes.length * 4)) (icells (s + 14 + p.row.length + 2 * p.cells.length + p.early.length + 3 * p.undos.length + 4 * p.votes.length) (p.news.length * 13))) := ⟨World.ownsRow.kept HX.out.row hg (HA6.out.a05.ne), World.ownsRow.kept HX.out.cells hg (HA6.out.a15.ne), World.ownsRow.kept HX.out.early hg (HA6.out.a25.ne), World.ownsRow.kept HX.out.undos hg (HA6.out.a35.ne), World.ownsRow.kept HX.out.votes hg (HA6.out.a45.ne), ho⟩
      have HRN : Hid (x5.ownsRow lo 41 21 (.slice (some ⟨g, 0, none⟩) ps.length cap) ps.length (flatR peerF (L.set m (q, t)))) := World.ownsRow.kept HRx.out hg (own_kind HRx.out HX.out.news (by decide))
      have HFN : Hid (FrS (fun k => k = g ∨ inSix t k) wr x5) := HF0.out.trans (FrS.of_grown hg (fun k e => Or.inr ⟨t.news, by simp [six], e⟩))
      clear ho hg hmt HX HRx HF0
      have HX := HXN
      have HRx := HRN
      have HF0 := HFN
      clear HXN HRN HFN
      replace HR := HRx
      have HGR : Hid (x5.grownBy x5 (some g)) := ⟨rfl, rfl, rfl, Nat.le_refl _, fun _ _ _ => rfl⟩
      clear HRx
      go_wp2_with (refine wpList_store_int rfl _ _ _ rfl lo 41 21 ps.length cap g _ _ _ rfl rfl HR.out (by omega) (by kernel_rfl) ?_; intro z hg ho; replace HR := hid ho; replace HGR := hid (grown_trans HGR.out hg); clear hg ho)
      go_roundw
      case rel =>
        have hr := HR.out
        rw [flatP_set20 hmL q t hatL, List.set_set] at hr
        have hqe : ∀ z : Int, z = ((s + 14 + p.row.length + 2 * p.cells.length + p.early.length + 3 * p.undos.length + 4 * p.votes.length + 13 * p.news.length : Nat) : Int) → ({ q with shown := z } : PE) = pm s p := fun z hz => by rw [HQ.out, hz]; rfl
        rw [hqe _ (by omega)] at hr
        have hf : FrS (fun k => k = g ∨ inSix t k) wr _ := HF0.out.trans (FrS.of_grown HGR.out (fun k e => Or.inl (by cases e; rfl)))
        have hox := own6_pm HX.out
        have hoz := hox.frs (FrS.of_grown HGR.out (B := fun k => k = g) (fun k e => by cases e; rfl)) (fun k hk e => HNB.out (by rw [← e]; exact hk))
        have hfin := HOW.out.put hmm HAT.out hf (by rw [hml]; exact hr) (⟨hoz, HA6.out.wide hf.size, Nat.le_refl _⟩ : OwnD lo _ _ (pm s p) t)
        rw [HST.out] at hfin
        have e2 : ((s + 14 + p.row.length + 2 * p.cells.length + p.early.length + 3 * p.undos.length + 4 * p.votes.length + 13 * p.news.length : Nat) : Int) + 1 = ((pnum1 s p : Nat) : Int) := by unfold pnum1; omega
        exact ⟨m + 1, pnum1 s p, by omega, congrArg (Value.int .i64) (by rw [← e2]; omega), by unfold pnum1; omega, by go_num, HNS.out, hfin, HW.out.trans (hf.mono (fun k hk => by rcases hk with rfl | hk; exact HGB.out; exact HIN.out k hk))⟩
      case measure => simp [intOf]; omega
    · have hmn : m = ps.length := by omega
      have HM : Hid (m = ps.length) := hmn
      clear hmn
      go_wp2
      go_ret
      have h1 := HOW.out
      rw [HM.out, pmix_all] at h1
      exact ⟨ret_int (by rw [HS.out, HM.out, List.take_length]), h1, HW.out⟩

end Go.Proofs.Ytjieklilojmifat

namespace Go.Proofs.Ytjieklilojmifat
open Go.RowKit Num

theorem pmarks_at {ps : PL} {m : Nat} (h : m < ps.length) (k : Nat) : (pmarks k ps)[m]'(by rw [pmarks_len]; exact h) = (pm (pnum k (ps.take m)) ps[m].1, ps[m].2) := by
  have e : pmarks k ps = pmarks k (ps.take m) ++ (pm (pnum k (ps.take m)) ps[m].1, ps[m].2) :: pmarks (pnum k (ps.take (m + 1))) (ps.drop (m + 1)) := by
    conv => lhs; rw [← List.take_append_drop m ps, pmarks_app, List.drop_eq_getElem_cons h]
    rw [pnum_take h]
    rfl
  have hl : (pmarks k (ps.take m)).length = m := by rw [pmarks_len, List.length_take]; omega
  simp only [e]
  rw [List.getElem_append_right (by omega)]
  simp [hl]
set_option maxRecDepth 100000 in
set_option maxHeartbeats 8000000 in
theorem heldPeers_own (ps : PL) (k lo : Nat) (v : Value) (w : World) (h : OwnPs lo w v (pmarks k ps)) (hk2 : pnum k ps ≤ 19000000) (hl : (ps.length : Int) ≤ 1048576) (hn : ∀ x ∈ ps, sumPe x.1) :
    Calls Try.prog 74 #[v, .int .i64 k] w fun e w' => e = .returned (.int .i64 ((pnum k ps : Nat) : Int)) ∧ Below w.heap.size w w' := by
  have hpl := pmarks_len ps k
  have HO : Hid (OwnPs lo w v (pmarks k ps)) := h
  have HN : Hid (∀ x ∈ ps, sumPe x.1) := hn
  obtain ⟨a, cap, hv, hg⟩ := own_form h.row
  rw [hpl] at hv hg
  subst hv
  have HG : Hid (0 < ps.length → ∃ g, a = some ⟨g, 0, none⟩) := hg
  clear hg h hn
  go_enter Try.func74, Try.ntmps74
  go_wp2
  go_loopw [1, 5] (fun q i wr => ∃ (m s : Nat), m ≤ ps.length ∧ q = .int .i64 (s : Int) ∧ s ≤ 19000000 ∧ i = .int .i64 m ∧ Hid (s = pnum k (ps.take m)) ∧ Hid (Below w.heap.size w wr)) (fun _ i _ => ps.length - (intOf i).toNat)
  case atStart => exact ⟨0, k, Nat.zero_le _, rfl, by have := pnum_le ps k; omega, rfl, rfl, Below.refl _ _⟩
  case round =>
    obtain ⟨m, s, hm, rfl, hs1, rfl, HS, HW⟩ := hrel
    by_cases hlt : (m : Int) < ps.length
    · have q0 : (0 : Int) ≤ (m : Int) := by omega
      have hmn : m < ps.length := by omega
      have hmL : m < (pmarks k ps).length := by omega
      have hat := pmarks_at hmn k
      obtain ⟨p, t, hy⟩ : ∃ p t, ps[m] = (p, t) := ⟨_, _, rfl⟩
      have hsp := HN.out _ (List.getElem_mem hmn)
      have hnx : pnum1 s p ≤ 19000000 := by
        have h1 := pnum_take hmn k
        have h2 := pnum_take_le ps (m + 1) k
        have h3 := HS.out
        rw [hy] at h1
        simp only at h1
        rw [← h3] at h1
        omega
      rw [hy] at hat hsp
      simp only at hat hsp
      rw [← HS.out] at hat
      have HNS : Hid (pnum1 s p = pnum k (ps.take (m + 1))) := (by rw [pnum_take hmn k, hy, HS.out] : pnum1 s p = pnum k (ps.take (m + 1)))
      have HD0 : Hid (OwnD lo w.heap.size w (pm s p) t) := HO.out.own.each (pm s p, t) (by rw [← hat]; exact List.getElem_mem hmL)
      have HX : Hid (OwnD lo w.heap.size wr (pm s p) t) := HD0.out.below HW.out
      have hatL := hat
      clear hat hy HD0
      obtain ⟨g, rfl⟩ := HG.out (by omega)
      have HRx : Hid (wr.ownsRow lo 41 21 (.slice (some ⟨g, 0, none⟩) ps.length cap) ps.length (flatR peerF (pmarks k ps))) := (by have := own_kept HO.out.row HW.out; rw [hpl] at this; exact this)
      unfold sumPe lenPe at hsp
      unfold pnum1 at hnx
      go_wp2_with (first | (refine wpList_load_own rfl _ _ rfl lo 41 21 ps.length cap g (m * 21 + 0) (.int .i64 ((s : Int))) _ rfl HRx.out (by omega) (by rw [flatR_at peerF_len _ m hmL 0 (by omega), hatL]; rfl) _ Try.underlying3 rfl ?_) | (refine wpList_load_own rfl _ _ rfl lo 41 21 ps.length cap g (m * 21 + 1) (.int .i64 ((s : Int) + 1)) _ rfl HRx.out (by omega) (by rw [flatR_at peerF_len _ m hmL 1 (by omega), hatL]; rfl) _ Try.underlying3 rfl ?_) | (refine wpList_load_own rfl _ _ rfl lo 41 21 ps.length cap g (m * 21 + 2) (.int .i64 ((s : Int) + 1 + 1)) _ rfl HRx.out (by omega) (by rw [flatR_at peerF_len _ m hmL 2 (by omega), hatL]; rfl) _ Try.underlying3 rfl ?_) | (refine wpList_load_own rfl _ _ rfl lo 41 21 ps.length cap g (m * 21 + 3) (.int .i64 ((s : Int) + 1 + 1 + 1)) _ rfl HRx.out (by omega) (by rw [flatR_at peerF_len _ m hmL 3 (by omega), hatL]; rfl) _ Try.underlying3 rfl ?_) | (refine wpList_load_own rfl _ _ rfl lo 41 21 ps.length cap g (m * 21 + 4) (.int .i64 ((s : Int) + 1 + 1 + 1 + 1)) _ rfl HRx.out (by omega) (by rw [flatR_at peerF_len _ m hmL 4 (by omega), hatL]; rfl) _ Try.underlying3 rfl ?_) | (refine wpList_load_own rfl _ _ rfl lo 41 21 ps.length cap g (m * 21 + 5) (.int .i64 ((s : Int) + 1 + 1 + 1 + 1 + 1)) _ rfl HRx.out (by omega) (by rw [flatR_at peerF_len _ m hmL 5 (by omega), hatL]; rfl) _ Try.underlying3 rfl ?_) | (refine wpList_load_own rfl _ _ rfl lo 41 21 ps.length cap g (m * 21 + 6) (.int .i64 ((s : Int) + 1 + 1 + 1 + 1 + 1 + 1)) _ rfl HRx.out (by omega) (by rw [flatR_at peerF_len _ m hmL 6 (by omega), hatL]; rfl) _ Try.underlying3 rfl ?_) | (refine wpList_load_own rfl _ _ rfl lo 41 21 ps.length cap g (m * 21 + 7) (.int .i64 ((s : Int) + 1 + 1 + 1 + 1 + 1 + 1 + 1)) _ rfl HRx.out (by omega) (by rw [flatR_at peerF_len _ m hmL 7 (by omega), hatL]; rfl) _ Try.underlying3 rfl ?_) | (refine wpList_load_own rfl _ _ rfl lo 41 21 ps.length cap g (m * 21 + 8) (.int .i64 ((s : Int) + 1 + 1 + 1 + 1 + 1 + 1 + 1 + 1)) _ rfl HRx.out (by omega) (by rw [flatR_at peerF_len _ m hmL 8 (by omega), hatL]; rfl) _ Try.underlying3 rfl ?_) | (refine wpList_load_own rfl _ _ rfl lo 41 21 ps.length cap g (m * 21 + 9) (.int .i64 ((s : Int) + 1 + 1 + 1 + 1 + 1 + 1 + 1 + 1 + 1)) _ rfl HRx.out (by omega) (by rw [flatR_at peerF_len _ m hmL 9 (by omega), hatL]; rfl) _ Try.underlying3 rfl ?_) | (refine wpList_load_own rfl _ _ rfl lo 41 21 ps.length cap g (m * 21 + 10) (.int .i64 ((s : Int) + 1 + 1 + 1 + 1 + 1 + 1 + 1 + 1 + 1 + 1)) _ rfl HRx.out (by omega) (by rw [flatR_at peerF_len _ m hmL 10 (by omega), hatL]; rfl) _ Try.underlying3 rfl ?_) | (refine wpList_load_own rfl _ _ rfl lo 41 21 ps.length cap g (m * 21 + 11) (.int .i64 ((s : Int) + 1 + 1 + 1 + 1 + 1 + 1 + 1 + 1 + 1 + 1 + 1)) _ rfl HRx.out (by omega) (by rw [flatR_at peerF_len _ m hmL 11 (by omega), hatL]; rfl) _ Try.underlying3 rfl ?_) | (refine wpList_load_own rfl _ _ rfl lo 41 21 ps.length cap g (m * 21 + 12) (.int .i64 ((s : Int) + 1 + 1 + 1 + 1 + 1 + 1 + 1 + 1 + 1 + 1 + 1 + 1)) _ rfl HRx.out (by omega) (by rw [flatR_at peerF_len _ m hmL 12 (by omega), hatL]; rfl) _ Try.underlying3 rfl ?_) | (refine wpList_load_own rfl _ _ rfl lo 41 21 ps.length cap g (m * 21 + 13) (.int .i64 ((s : Int) + 1 + 1 + 1 + 1 + 1 + 1 + 1 + 1 + 1 + 1 + 1 + 1 + 1)) _ rfl HRx.out (by omega) (by rw [flatR_at peerF_len _ m hmL 13 (by omega), hatL]; rfl) _ Try.underlying3 rfl ?_) | (refine wpList_load_own rfl _ _ rfl lo 41 21 ps.length cap g (m * 21 + 14) (t.row) _ rfl HRx.out (by omega) (by rw [flatR_at peerF_len _ m hmL 14 (by omega), hatL]; rfl) _ Try.underlying26 rfl ?_))
      have hmt := heldInts_any p.row.length (s + 14) t.row wr (rows_of_own intF_len HX.out.1.row) (by omega) (by omega)
      rw [show ((s + 14 : Nat) : Int) = (s : Int) + 1 + 1 + 1 + 1 + 1 + 1 + 1 + 1 + 1 + 1 + 1 + 1 + 1 + 1 by omega] at hmt
      refine hmt.mono ?_
      rintro e x0 ⟨rfl, hb⟩
      have HXN : Hid (OwnD lo w.heap.size x0 (pm s p) t) := HX.out.below hb
      have HRN : Hid (x0.ownsRow lo 41 21 (.slice (some ⟨g, 0, none⟩) ps.length cap) ps.length (flatR peerF (pmarks k ps))) := own_kept HRx.out hb
      have HWN : Hid (Below w.heap.size w x0) := bt HW.out hb
      clear hb hmt HX HRx HW
      have HX := HXN
      have HRx := HRN
      have HW := HWN
      clear HXN HRN HWN
      have hnn0 : ¬ (((s + 14 + p.row.length : Nat) : Int) < 0) := by omega
      go_wp2_with (first | (refine wpList_load_own rfl _ _ rfl lo 41 21 ps.length cap g (m * 21 + 15) (t.cells) _ rfl HRx.out (by omega) (by rw [flatR_at peerF_len _ m hmL 15 (by omega), hatL]; rfl) _ Try.underlying36 rfl ?_))
      have hmt := heldCells_any p.cells.length (s + 14 + p.row.length) t.cells x0 (cells_of_own HX.out.1.cells) (by omega) (by omega) (by omega)
      refine hmt.mono ?_
      rintro e x1 ⟨rfl, hb⟩
      have HXN : Hid (OwnD lo w.heap.size x1 (pm s p) t) := HX.out.below hb
      have HRN : Hid (x1.ownsRow lo 41 21 (.slice (some ⟨g, 0, none⟩) ps.length cap) ps.length (flatR peerF (pmarks k ps))) := own_kept HRx.out hb
      have HWN : Hid (Below w.heap.size w x1) := bt HW.out hb
      clear hb hmt HX HRx HW
      have HX := HXN
      have HRx := HRN
      have HW := HWN
      clear HXN HRN HWN
      have hnn1 : ¬ (((s + 14 + p.row.length + 2 * p.cells.length : Nat) : Int) < 0) := by omega
      go_wp2_with (first | (refine wpList_load_own rfl _ _ rfl lo 41 21 ps.length cap g (m * 21 + 16) (t.early) _ rfl HRx.out (by omega) (by rw [flatR_at peerF_len _ m hmL 16 (by omega), hatL]; rfl) _ Try.underlying26 rfl ?_))
      have hmt := heldInts_any p.early.length (s + 14 + p.row.length + 2 * p.cells.length) t.early x1 (rows_of_own intF_len HX.out.1.early) (by omega) (by omega)
      refine hmt.mono ?_
      rintro e x2 ⟨rfl, hb⟩
      have HXN : Hid (OwnD lo w.heap.size x2 (pm s p) t) := HX.out.below hb
      have HRN : Hid (x2.ownsRow lo 41 21 (.slice (some ⟨g, 0, none⟩) ps.length cap) ps.length (flatR peerF (pmarks k ps))) := own_kept HRx.out hb
      have HWN : Hid (Below w.heap.size w x2) := bt HW.out hb
      clear hb hmt HX HRx HW
      have HX := HXN
      have HRx := HRN
      have HW := HWN
      clear HXN HRN HWN
      have hnn2 : ¬ (((s + 14 + p.row.length + 2 * p.cells.length + p.early.length : Nat) : Int) < 0) := by omega
      go_wp2_with (first | (refine wpList_load_own rfl _ _ rfl lo 41 21 ps.length cap g (m * 21 + 17) (t.undos) _ rfl HRx.out (by omega) (by rw [flatR_at peerF_len _ m hmL 17 (by omega), hatL]; rfl) _ Try.underlying37 rfl ?_))
      have hmt := heldUndos_any p.undos.length (s + 14 + p.row.length + 2 * p.cells.length + p.early.length) t.undos x2 (rows_of_own undoF_len HX.out.1.undos) (by omega) (by omega) (by omega)
      refine hmt.mono ?_
      rintro e x3 ⟨rfl, hb⟩
      have HXN : Hid (OwnD lo w.heap.size x3 (pm s p) t) := HX.out.below hb
      have HRN : Hid (x3.ownsRow lo 41 21 (.slice (some ⟨g, 0, none⟩) ps.length cap) ps.length (flatR peerF (pmarks k ps))) := own_kept HRx.out hb
      have HWN : Hid (Below w.heap.size w x3) := bt HW.out hb
      clear hb hmt HX HRx HW
      have HX := HXN
      have HRx := HRN
      have HW := HWN
      clear HXN HRN HWN
      have hnn3 : ¬ (((s + 14 + p.row.length + 2 * p.cells.length + p.early.length + 3 * p.undos.length : Nat) : Int) < 0) := by omega
      go_wp2_with (first | (refine wpList_load_own rfl _ _ rfl lo 41 21 ps.length cap g (m * 21 + 18) (t.votes) _ rfl HRx.out (by omega) (by rw [flatR_at peerF_len _ m hmL 18 (by omega), hatL]; rfl) _ Try.underlying38 rfl ?_))
      have hmt := heldVotes_own p.votes.length (s + 14 + p.row.length + 2 * p.cells.length + p.early.length + 3 * p.undos.length) t.votes lo x3 (by have := HX.out.1.votes; rw [show (pm s p).votes = vmarks (s + 14 + p.row.length + 2 * p.cells.length + p.early.length + 3 * p.undos.length) p.votes.length from rfl, vmarks_len, vmarks_flat] at this; exact this) (by omega) (by omega)
      refine hmt.mono ?_
      rintro e x_ ⟨rfl, hw⟩
      obtain rfl := hw.symm
      clear hw hmt
      have hnn4 : ¬ (((s + 14 + p.row.length + 2 * p.cells.length + p.early.length + 3 * p.undos.length + 4 * p.votes.length : Nat) : Int) < 0) := by omega
      go_wp2_with (first | (refine wpList_load_own rfl _ _ rfl lo 41 21 ps.length cap g (m * 21 + 19) (t.news) _ rfl HRx.out (by omega) (by rw [flatR_at peerF_len _ m hmL 19 (by omega), hatL]; rfl) _ Try.underlying39 rfl ?_))
      have hmt := heldLetters_own p.news.length (s + 14 + p.row.length + 2 * p.cells.length + p.early.length + 3 * p.undos.length + 4 * p.votes.length) t.news lo x3 (by have := HX.out.1.news; rw [show (pm s p).news = lmarks (s + 14 + p.row.length + 2 * p.cells.length + p.early.length + 3 * p.undos.length + 4 * p.votes.length) p.news.length from rfl, lmarks_len, lmarks_flat] at this; exact this) (by omega) (by omega)
      refine hmt.mono ?_
      rintro e x_ ⟨rfl, hw⟩
      obtain rfl := hw.symm
      clear hw hmt
      have hnn5 : ¬ (((s + 14 + p.row.length + 2 * p.cells.length + p.early.length + 3 * p.undos.length + 4 * p.votes.length + 13 * p.news.length : Nat) : Int) < 0) := by omega
      go_wp2_with ((refine wpList_load_own rfl _ _ rfl lo 41 21 ps.length cap g (m * 21 + 20) (.int .i64 ((s + 14 + p.row.length + 2 * p.cells.length + p.early.length + 3 * p.undos.length + 4 * p.votes.length + 13 * p.news.length : Nat) : Int)) _ rfl HRx.out (by omega) (by rw [flatR_at peerF_len _ m hmL 20 (by omega), hatL]; rfl) _ Try.underlying3 rfl ?_))
      go_roundw
      case rel =>
        have e2 : ((s + 14 + p.row.length + 2 * p.cells.length + p.early.length + 3 * p.undos.length + 4 * p.votes.length + 13 * p.news.length : Nat) : Int) + 1 = ((pnum1 s p : Nat) : Int) := by unfold pnum1; omega
        exact ⟨m + 1, pnum1 s p, by omega, congrArg (Value.int .i64) (by rw [← e2]; omega), by unfold pnum1; omega, by go_num, HNS.out, HW.out⟩
      case measure => simp [intOf]; omega
    · have hmn : m = ps.length := by omega
      have HM : Hid (m = ps.length) := hmn
      clear hmn
      go_wp2
      go_ret
      exact ⟨ret_int (by rw [HS.out, HM.out, List.take_length]), HW.out⟩

end Go.Proofs.Ytjieklilojmifat

namespace Go.Proofs.Ytjieklilojmifat
open Go.RowKit Num

theorem eqQ (q r : QC) (w : World) : (Op.equalIn 10000 34 (.agg #[.int .i64 q.1, .int .i64 q.2.1, .int .i64 q.2.2.1, .int .i64 q.2.2.2]) (.agg #[.int .i64 r.1, .int .i64 r.2.1, .int .i64 r.2.2.1, .int .i64 r.2.2.2])).run Try.prog w = .ok (decide (q = r)) w := by
  have u3 := Try.underlying3
  have hS : Try.prog.underlying 34 = some (.struct (Try.prog.fieldsOf 34)) := by kernel_rfl
  have hp : Try.prog.stoodInHeld 34 = false := by kernel_rfl
  rw [show (10000 : Nat) = 9999 + 1 from rfl, run_equalIn_agg w 9999 34 _ _ hS hp]
  simp only [Program.fieldsOf, Try.underlying34]
  go_simp
  obtain ⟨a, b, c, d⟩ := q
  obtain ⟨a', b', c', d'⟩ := r
  simp only [Prod.mk.injEq]
  by_cases h1 : a = a' <;> by_cases h2 : b = b' <;> by_cases h3 : c = c' <;> by_cases h4 : d = d' <;> simp [h1, h2, h3, h4]
theorem guardQ : Try.prog.eqGuardType Try.prog.depth 34 = false := by kernel_rfl

theorem eqM (c d : CM) (w : World) : (Op.equalIn 10000 134 (.agg #[.int .i64 c.1, .string c.2.1, .int .i64 c.2.2]) (.agg #[.int .i64 d.1, .string d.2.1, .int .i64 d.2.2])).run Try.prog w = .ok (decide (c = d)) w := by
  have u3 := Try.underlying3
  have u9 := Try.underlying9
  have hS : Try.prog.underlying 134 = some (.struct (Try.prog.fieldsOf 134)) := by kernel_rfl
  have hp : Try.prog.stoodInHeld 134 = false := by kernel_rfl
  rw [show (10000 : Nat) = 9999 + 1 from rfl, run_equalIn_agg w 9999 134 _ _ hS hp]
  simp only [Program.fieldsOf, Try.underlying134]
  go_simp
  obtain ⟨k, s, n⟩ := c
  obtain ⟨k', s', n'⟩ := d
  simp only [Prod.mk.injEq]
  by_cases h1 : k = k'
  · by_cases h2 : s = s'
    · by_cases h3 : n = n' <;> simp [h1, h2, h3]
    · have e2 : ¬ s.toList = s'.toList := beq_eq_false_iff_ne.1 (ba_ne h2)
      simp [h1, h2, e2]
  · simp [h1]
theorem guardM : Try.prog.eqGuardType Try.prog.depth 134 = false := by kernel_rfl

end Go.Proofs.Ytjieklilojmifat

namespace Go.Proofs.Ytjieklilojmifat
open Go.RowKit Num

set_option maxRecDepth 100000 in
theorem first_s (w : World) : Calls Try.prog 89 #[] w fun e w' => e = .returned (blkV firstB (.slice none 0 0)) ∧ Below w.heap.size w w' := by
  go_enter Try.func89, Try.ntmps89
  go_wp2
  refine bodyPost_ret (v := blkV firstB (.slice none 0 0)) (by simp [results, Try.results89, go_sem, blkV, firstB]) rfl ⟨rfl, ?_⟩
  exact ba (Below.refl _ _) _

/-- as far as place k two rows of commands are the same -/
def sameTo (l l' : List CM) (k : Nat) : Prop := ∀ j (h : j < l.length) (h' : j < l'.length), j < k → l[j] = l'[j]
theorem sameTo_all {l l' : List CM} (hl : l.length = l'.length) (h : sameTo l l' l.length) : l = l' :=
  List.ext_getElem hl fun i h1 h2 => h i h1 h2 h1
theorem sameTo_next {l l' : List CM} {k : Nat} (h : sameTo l l' k) (hk : k < l.length) (hk' : k < l'.length) (e : l[k] = l'[k]) : sameTo l l' (k + 1) := fun j hj hj' hjk => by
  by_cases hh : j = k
  · subst hh; exact e
  · exact h j hj hj' (by omega)
theorem bk_ne1 {a b : BK} (h : a.1.1 ≠ b.1.1) : decide (a = b) = false := decide_eq_false fun e => h (by rw [e])
theorem bk_ne2 {a b : BK} (h : a.1.2 ≠ b.1.2) : decide (a = b) = false := decide_eq_false fun e => h (by rw [e])
theorem bk_ne3 {a b : BK} (h : a.2.2 ≠ b.2.2) : decide (a = b) = false := decide_eq_false fun e => h (by rw [e])
theorem bk_ne4 {a b : BK} (h : a.2.1.length ≠ b.2.1.length) : decide (a = b) = false := decide_eq_false fun e => h (by rw [e])
theorem bk_ne5 {a b : BK} {k : Nat} (hk : k < a.2.1.length) (hk' : k < b.2.1.length) (h : a.2.1[k] ≠ b.2.1[k]) : decide (a = b) = false := decide_eq_false fun e => h (by simp only [e])
theorem bk_eq {a b : BK} (h1 : a.1.1 = b.1.1) (h2 : a.1.2 = b.1.2) (h3 : a.2.2 = b.2.2) (h4 : a.2.1 = b.2.1) : decide (a = b) = true := decide_eq_true (Prod.ext (Prod.ext h1 h2) (Prod.ext h4 h3))

/-- the seven cells of a boxed block -/
theorem blk_cells {w : World} {n : Nat} {b : BK} {cv : Value} {t : TypeId} (h : w.heap[n]? = some (.cells (blkA b cv) t (0, 0))) :
    w.cell? ⟨n, 0, none⟩ = some (.int .i64 b.1.1) ∧ w.cell? ⟨n, 1, none⟩ = some (.int .i64 b.1.2) ∧ w.cell? ⟨n, 2, none⟩ = some cv ∧ w.cell? ⟨n, 3, none⟩ = some (.int .i64 b.2.2.1) ∧ w.cell? ⟨n, 4, none⟩ = some (.int .i64 b.2.2.2.1) ∧ w.cell? ⟨n, 5, none⟩ = some (.int .i64 b.2.2.2.2.1) ∧ w.cell? ⟨n, 6, none⟩ = some (.int .i64 b.2.2.2.2.2) := by
  refine ⟨?_, ?_, ?_, ?_, ?_, ?_, ?_⟩ <;> rw [cell_of_row w n _ _ _ (0, 0) h] <;> rfl


end Go.Proofs.Ytjieklilojmifat
