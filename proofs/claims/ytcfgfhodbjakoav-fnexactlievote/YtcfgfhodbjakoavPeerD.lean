/-
  One of a replica's lists replaced by another row of the call's own. (Made by gd10.py.)
-/
import Derived.Test.YtcfgfhodbjakoavPeerB
namespace Go.Proofs.Ytcfgfhodbjakoav
open Go.RowKit Num

theorem apart_new {x v old : Value} {lo hi : Nat} (ha : apart x old) (hx : ∀ g, x.ownBlock = some g → lo ≤ g ∧ g < hi) (hv : ∀ g, v.ownBlock = some g → old.ownBlock = some g ∨ hi ≤ g) : apart x v := fun g e1 e2 => by
  rcases hv g e2 with h | h
  · exact ha g e1 h
  · have := hx g e1; omega
theorem Apart6.wide {lo hi hi' : Nat} {s : PV} (h : Apart6 lo hi s) (hh : hi ≤ hi') : Apart6 lo hi' s :=
  ⟨h.a01, h.a02, h.a03, h.a04, h.a05, h.a10, h.a12, h.a13, h.a14, h.a15, h.a20, h.a21, h.a23, h.a24, h.a25, h.a30, h.a31, h.a32, h.a34, h.a35, h.a40, h.a41, h.a42, h.a43, h.a45, h.a50, h.a51, h.a52, h.a53, h.a54, fun g e => ⟨(h.l0 g e).1, Nat.lt_of_lt_of_le (h.l0 g e).2 hh⟩, fun g e => ⟨(h.l1 g e).1, Nat.lt_of_lt_of_le (h.l1 g e).2 hh⟩, fun g e => ⟨(h.l2 g e).1, Nat.lt_of_lt_of_le (h.l2 g e).2 hh⟩, fun g e => ⟨(h.l3 g e).1, Nat.lt_of_lt_of_le (h.l3 g e).2 hh⟩, fun g e => ⟨(h.l4 g e).1, Nat.lt_of_lt_of_le (h.l4 g e).2 hh⟩, fun g e => ⟨(h.l5 g e).1, Nat.lt_of_lt_of_le (h.l5 g e).2 hh⟩⟩
theorem OwnD.wide {lo hi hi' : Nat} {w : World} {p : PE} {s : PV} (h : OwnD lo hi w p s) (hh : hi ≤ hi') (hs : hi' ≤ w.heap.size) : OwnD lo hi' w p s := ⟨h.1, h.2.1.wide hh, hs⟩
theorem OwnD.other {lo hi : Nat} {w : World} {p q : PE} {s : PV} (h : OwnD lo hi w p s) (e0 : q.row = p.row) (e1 : q.cells = p.cells) (e2 : q.early = p.early) (e3 : q.undos = p.undos) (e4 : q.votes = p.votes) (e5 : q.news = p.news) : OwnD lo hi w q s := by
  obtain ⟨⟨r0, r1, r2, r3, r4, r5⟩, ha, hs⟩ := h
  refine ⟨⟨?_, ?_, ?_, ?_, ?_, ?_⟩, ha, hs⟩
  · rw [e0]; exact r0
  · rw [e1]; exact r1
  · rw [e2]; exact r2
  · rw [e3]; exact r3
  · rw [e4]; exact r4
  · rw [e5]; exact r5
theorem OwnD.low {lo lo' hi : Nat} {w : World} {p : PE} {s : PV} (h : OwnD lo hi w p s) (hl : lo' ≤ lo) : OwnD lo' hi w p s := by
  obtain ⟨⟨r0, r1, r2, r3, r4, r5⟩, ha, hs⟩ := h
  exact ⟨⟨own_base r0 hl, own_base r1 hl, own_base r2 hl, own_base r3 hl, own_base r4 hl, own_base r5 hl⟩, ⟨ha.a01, ha.a02, ha.a03, ha.a04, ha.a05, ha.a10, ha.a12, ha.a13, ha.a14, ha.a15, ha.a20, ha.a21, ha.a23, ha.a24, ha.a25, ha.a30, ha.a31, ha.a32, ha.a34, ha.a35, ha.a40, ha.a41, ha.a42, ha.a43, ha.a45, ha.a50, ha.a51, ha.a52, ha.a53, ha.a54, fun g e => ⟨Nat.le_trans hl (ha.l0 g e).1, (ha.l0 g e).2⟩, fun g e => ⟨Nat.le_trans hl (ha.l1 g e).1, (ha.l1 g e).2⟩, fun g e => ⟨Nat.le_trans hl (ha.l2 g e).1, (ha.l2 g e).2⟩, fun g e => ⟨Nat.le_trans hl (ha.l3 g e).1, (ha.l3 g e).2⟩, fun g e => ⟨Nat.le_trans hl (ha.l4 g e).1, (ha.l4 g e).2⟩, fun g e => ⟨Nat.le_trans hl (ha.l5 g e).1, (ha.l5 g e).2⟩⟩, hs⟩
theorem Apart6.setRow {lo hi hi' : Nat} {s : PV} {v : Value} (h : Apart6 lo hi s) (hh : hi ≤ hi') (hr : ∀ g, v.ownBlock = some g → lo ≤ g ∧ g < hi') (hv : ∀ g, v.ownBlock = some g → s.row.ownBlock = some g ∨ hi ≤ g) : Apart6 lo hi' { s with row := v } :=
  ⟨(apart_new h.a10 h.l1 hv).symm, (apart_new h.a20 h.l2 hv).symm, (apart_new h.a30 h.l3 hv).symm, (apart_new h.a40 h.l4 hv).symm, (apart_new h.a50 h.l5 hv).symm, apart_new h.a10 h.l1 hv, h.a12, h.a13, h.a14, h.a15, apart_new h.a20 h.l2 hv, h.a21, h.a23, h.a24, h.a25, apart_new h.a30 h.l3 hv, h.a31, h.a32, h.a34, h.a35, apart_new h.a40 h.l4 hv, h.a41, h.a42, h.a43, h.a45, apart_new h.a50 h.l5 hv, h.a51, h.a52, h.a53, h.a54, hr, fun g e => ⟨(h.l1 g e).1, Nat.lt_of_lt_of_le (h.l1 g e).2 hh⟩, fun g e => ⟨(h.l2 g e).1, Nat.lt_of_lt_of_le (h.l2 g e).2 hh⟩, fun g e => ⟨(h.l3 g e).1, Nat.lt_of_lt_of_le (h.l3 g e).2 hh⟩, fun g e => ⟨(h.l4 g e).1, Nat.lt_of_lt_of_le (h.l4 g e).2 hh⟩, fun g e => ⟨(h.l5 g e).1, Nat.lt_of_lt_of_le (h.l5 g e).2 hh⟩⟩
theorem OwnD.setRow {lo hi hi' : Nat} {w : World} {p : PE} {s : PV} {v : Value} {l : List (Int)} (h : OwnD lo hi w p s) (hh : hi ≤ hi') (hs : hi' ≤ w.heap.size) (ho : w.ownsRow lo 3 1 v l.length (flatR intF l)) (hr : ∀ g, v.ownBlock = some g → g < hi') (hv : ∀ g, v.ownBlock = some g → s.row.ownBlock = some g ∨ hi ≤ g) : OwnD lo hi' w { p with row := l } { s with row := v } :=
  ⟨⟨ho, h.1.cells, h.1.early, h.1.undos, h.1.votes, h.1.news⟩, h.2.1.setRow hh (fun g e => ⟨(ho.lt g e).1, hr g e⟩) hv, hs⟩
theorem Apart6.setCells {lo hi hi' : Nat} {s : PV} {v : Value} (h : Apart6 lo hi s) (hh : hi ≤ hi') (hr : ∀ g, v.ownBlock = some g → lo ≤ g ∧ g < hi') (hv : ∀ g, v.ownBlock = some g → s.cells.ownBlock = some g ∨ hi ≤ g) : Apart6 lo hi' { s with cells := v } :=
  ⟨apart_new h.a01 h.l0 hv, h.a02, h.a03, h.a04, h.a05, (apart_new h.a01 h.l0 hv).symm, (apart_new h.a21 h.l2 hv).symm, (apart_new h.a31 h.l3 hv).symm, (apart_new h.a41 h.l4 hv).symm, (apart_new h.a51 h.l5 hv).symm, h.a20, apart_new h.a21 h.l2 hv, h.a23, h.a24, h.a25, h.a30, apart_new h.a31 h.l3 hv, h.a32, h.a34, h.a35, h.a40, apart_new h.a41 h.l4 hv, h.a42, h.a43, h.a45, h.a50, apart_new h.a51 h.l5 hv, h.a52, h.a53, h.a54, fun g e => ⟨(h.l0 g e).1, Nat.lt_of_lt_of_le (h.l0 g e).2 hh⟩, hr, fun g e => ⟨(h.l2 g e).1, Nat.lt_of_lt_of_le (h.l2 g e).2 hh⟩, fun g e => ⟨(h.l3 g e).1, Nat.lt_of_lt_of_le (h.l3 g e).2 hh⟩, fun g e => ⟨(h.l4 g e).1, Nat.lt_of_lt_of_le (h.l4 g e).2 hh⟩, fun g e => ⟨(h.l5 g e).1, Nat.lt_of_lt_of_le (h.l5 g e).2 hh⟩⟩
theorem OwnD.setCells {lo hi hi' : Nat} {w : World} {p : PE} {s : PV} {v : Value} {l : List (ByteArray × Int)} (h : OwnD lo hi w p s) (hh : hi ≤ hi') (hs : hi' ≤ w.heap.size) (ho : w.ownsRow lo 115 2 v l.length (flat l)) (hr : ∀ g, v.ownBlock = some g → g < hi') (hv : ∀ g, v.ownBlock = some g → s.cells.ownBlock = some g ∨ hi ≤ g) : OwnD lo hi' w { p with cells := l } { s with cells := v } :=
  ⟨⟨h.1.row, ho, h.1.early, h.1.undos, h.1.votes, h.1.news⟩, h.2.1.setCells hh (fun g e => ⟨(ho.lt g e).1, hr g e⟩) hv, hs⟩
theorem Apart6.setEarly {lo hi hi' : Nat} {s : PV} {v : Value} (h : Apart6 lo hi s) (hh : hi ≤ hi') (hr : ∀ g, v.ownBlock = some g → lo ≤ g ∧ g < hi') (hv : ∀ g, v.ownBlock = some g → s.early.ownBlock = some g ∨ hi ≤ g) : Apart6 lo hi' { s with early := v } :=
  ⟨h.a01, apart_new h.a02 h.l0 hv, h.a03, h.a04, h.a05, h.a10, apart_new h.a12 h.l1 hv, h.a13, h.a14, h.a15, (apart_new h.a02 h.l0 hv).symm, (apart_new h.a12 h.l1 hv).symm, (apart_new h.a32 h.l3 hv).symm, (apart_new h.a42 h.l4 hv).symm, (apart_new h.a52 h.l5 hv).symm, h.a30, h.a31, apart_new h.a32 h.l3 hv, h.a34, h.a35, h.a40, h.a41, apart_new h.a42 h.l4 hv, h.a43, h.a45, h.a50, h.a51, apart_new h.a52 h.l5 hv, h.a53, h.a54, fun g e => ⟨(h.l0 g e).1, Nat.lt_of_lt_of_le (h.l0 g e).2 hh⟩, fun g e => ⟨(h.l1 g e).1, Nat.lt_of_lt_of_le (h.l1 g e).2 hh⟩, hr, fun g e => ⟨(h.l3 g e).1, Nat.lt_of_lt_of_le (h.l3 g e).2 hh⟩, fun g e => ⟨(h.l4 g e).1, Nat.lt_of_lt_of_le (h.l4 g e).2 hh⟩, fun g e => ⟨(h.l5 g e).1, Nat.lt_of_lt_of_le (h.l5 g e).2 hh⟩⟩
theorem OwnD.setEarly {lo hi hi' : Nat} {w : World} {p : PE} {s : PV} {v : Value} {l : List (Int)} (h : OwnD lo hi w p s) (hh : hi ≤ hi') (hs : hi' ≤ w.heap.size) (ho : w.ownsRow lo 3 1 v l.length (flatR intF l)) (hr : ∀ g, v.ownBlock = some g → g < hi') (hv : ∀ g, v.ownBlock = some g → s.early.ownBlock = some g ∨ hi ≤ g) : OwnD lo hi' w { p with early := l } { s with early := v } :=
  ⟨⟨h.1.row, h.1.cells, ho, h.1.undos, h.1.votes, h.1.news⟩, h.2.1.setEarly hh (fun g e => ⟨(ho.lt g e).1, hr g e⟩) hv, hs⟩
theorem Apart6.setUndos {lo hi hi' : Nat} {s : PV} {v : Value} (h : Apart6 lo hi s) (hh : hi ≤ hi') (hr : ∀ g, v.ownBlock = some g → lo ≤ g ∧ g < hi') (hv : ∀ g, v.ownBlock = some g → s.undos.ownBlock = some g ∨ hi ≤ g) : Apart6 lo hi' { s with undos := v } :=
  ⟨h.a01, h.a02, apart_new h.a03 h.l0 hv, h.a04, h.a05, h.a10, h.a12, apart_new h.a13 h.l1 hv, h.a14, h.a15, h.a20, h.a21, apart_new h.a23 h.l2 hv, h.a24, h.a25, (apart_new h.a03 h.l0 hv).symm, (apart_new h.a13 h.l1 hv).symm, (apart_new h.a23 h.l2 hv).symm, (apart_new h.a43 h.l4 hv).symm, (apart_new h.a53 h.l5 hv).symm, h.a40, h.a41, h.a42, apart_new h.a43 h.l4 hv, h.a45, h.a50, h.a51, h.a52, apart_new h.a53 h.l5 hv, h.a54, fun g e => ⟨(h.l0 g e).1, Nat.lt_of_lt_of_le (h.l0 g e).2 hh⟩, fun g e => ⟨(h.l1 g e).1, Nat.lt_of_lt_of_le (h.l1 g e).2 hh⟩, fun g e => ⟨(h.l2 g e).1, Nat.lt_of_lt_of_le (h.l2 g e).2 hh⟩, hr, fun g e => ⟨(h.l4 g e).1, Nat.lt_of_lt_of_le (h.l4 g e).2 hh⟩, fun g e => ⟨(h.l5 g e).1, Nat.lt_of_lt_of_le (h.l5 g e).2 hh⟩⟩
theorem OwnD.setUndos {lo hi hi' : Nat} {w : World} {p : PE} {s : PV} {v : Value} {l : List (UN)} (h : OwnD lo hi w p s) (hh : hi ≤ hi') (hs : hi' ≤ w.heap.size) (ho : w.ownsRow lo 117 3 v l.length (flatR undoF l)) (hr : ∀ g, v.ownBlock = some g → g < hi') (hv : ∀ g, v.ownBlock = some g → s.undos.ownBlock = some g ∨ hi ≤ g) : OwnD lo hi' w { p with undos := l } { s with undos := v } :=
  ⟨⟨h.1.row, h.1.cells, h.1.early, ho, h.1.votes, h.1.news⟩, h.2.1.setUndos hh (fun g e => ⟨(ho.lt g e).1, hr g e⟩) hv, hs⟩
theorem Apart6.setVotes {lo hi hi' : Nat} {s : PV} {v : Value} (h : Apart6 lo hi s) (hh : hi ≤ hi') (hr : ∀ g, v.ownBlock = some g → lo ≤ g ∧ g < hi') (hv : ∀ g, v.ownBlock = some g → s.votes.ownBlock = some g ∨ hi ≤ g) : Apart6 lo hi' { s with votes := v } :=
  ⟨h.a01, h.a02, h.a03, apart_new h.a04 h.l0 hv, h.a05, h.a10, h.a12, h.a13, apart_new h.a14 h.l1 hv, h.a15, h.a20, h.a21, h.a23, apart_new h.a24 h.l2 hv, h.a25, h.a30, h.a31, h.a32, apart_new h.a34 h.l3 hv, h.a35, (apart_new h.a04 h.l0 hv).symm, (apart_new h.a14 h.l1 hv).symm, (apart_new h.a24 h.l2 hv).symm, (apart_new h.a34 h.l3 hv).symm, (apart_new h.a54 h.l5 hv).symm, h.a50, h.a51, h.a52, h.a53, apart_new h.a54 h.l5 hv, fun g e => ⟨(h.l0 g e).1, Nat.lt_of_lt_of_le (h.l0 g e).2 hh⟩, fun g e => ⟨(h.l1 g e).1, Nat.lt_of_lt_of_le (h.l1 g e).2 hh⟩, fun g e => ⟨(h.l2 g e).1, Nat.lt_of_lt_of_le (h.l2 g e).2 hh⟩, fun g e => ⟨(h.l3 g e).1, Nat.lt_of_lt_of_le (h.l3 g e).2 hh⟩, hr, fun g e => ⟨(h.l5 g e).1, Nat.lt_of_lt_of_le (h.l5 g e).2 hh⟩⟩
theorem OwnD.setVotes {lo hi hi' : Nat} {w : World} {p : PE} {s : PV} {v : Value} {l : List (VT)} (h : OwnD lo hi w p s) (hh : hi ≤ hi') (hs : hi' ≤ w.heap.size) (ho : w.ownsRow lo 33 4 v l.length (flatR voteF l)) (hr : ∀ g, v.ownBlock = some g → g < hi') (hv : ∀ g, v.ownBlock = some g → s.votes.ownBlock = some g ∨ hi ≤ g) : OwnD lo hi' w { p with votes := l } { s with votes := v } :=
  ⟨⟨h.1.row, h.1.cells, h.1.early, h.1.undos, ho, h.1.news⟩, h.2.1.setVotes hh (fun g e => ⟨(ho.lt g e).1, hr g e⟩) hv, hs⟩
theorem Apart6.setNews {lo hi hi' : Nat} {s : PV} {v : Value} (h : Apart6 lo hi s) (hh : hi ≤ hi') (hr : ∀ g, v.ownBlock = some g → lo ≤ g ∧ g < hi') (hv : ∀ g, v.ownBlock = some g → s.news.ownBlock = some g ∨ hi ≤ g) : Apart6 lo hi' { s with news := v } :=
  ⟨h.a01, h.a02, h.a03, h.a04, apart_new h.a05 h.l0 hv, h.a10, h.a12, h.a13, h.a14, apart_new h.a15 h.l1 hv, h.a20, h.a21, h.a23, h.a24, apart_new h.a25 h.l2 hv, h.a30, h.a31, h.a32, h.a34, apart_new h.a35 h.l3 hv, h.a40, h.a41, h.a42, h.a43, apart_new h.a45 h.l4 hv, (apart_new h.a05 h.l0 hv).symm, (apart_new h.a15 h.l1 hv).symm, (apart_new h.a25 h.l2 hv).symm, (apart_new h.a35 h.l3 hv).symm, (apart_new h.a45 h.l4 hv).symm, fun g e => ⟨(h.l0 g e).1, Nat.lt_of_lt_of_le (h.l0 g e).2 hh⟩, fun g e => ⟨(h.l1 g e).1, Nat.lt_of_lt_of_le (h.l1 g e).2 hh⟩, fun g e => ⟨(h.l2 g e).1, Nat.lt_of_lt_of_le (h.l2 g e).2 hh⟩, fun g e => ⟨(h.l3 g e).1, Nat.lt_of_lt_of_le (h.l3 g e).2 hh⟩, fun g e => ⟨(h.l4 g e).1, Nat.lt_of_lt_of_le (h.l4 g e).2 hh⟩, hr⟩
theorem OwnD.setNews {lo hi hi' : Nat} {w : World} {p : PE} {s : PV} {v : Value} {l : List (LT)} (h : OwnD lo hi w p s) (hh : hi ≤ hi') (hs : hi' ≤ w.heap.size) (ho : w.ownsRow lo 35 13 v l.length (flatR letF l)) (hr : ∀ g, v.ownBlock = some g → g < hi') (hv : ∀ g, v.ownBlock = some g → s.news.ownBlock = some g ∨ hi ≤ g) : OwnD lo hi' w { p with news := l } { s with news := v } :=
  ⟨⟨h.1.row, h.1.cells, h.1.early, h.1.undos, h.1.votes, ho⟩, h.2.1.setNews hh (fun g e => ⟨(ho.lt g e).1, hr g e⟩) hv, hs⟩
/-- a row is no box -/
theorem row_not_box {w : World} {base n m N : Nat} {e T : TypeId} {v : Value} {xs : List Value} {A : Array Value} {fz : Nat × Nat} (h : w.ownsRow base e m v n xs) (hN : w.heap[N]? = some (.cells A T fz)) (hne : e ≠ T) : v.ownBlock = none ∨ v.ownBlock ≠ some N := by
  cases e2 : v.ownBlock with
  | none => exact Or.inl rfl
  | some g =>
    refine Or.inr fun e3 => ?_
    obtain rfl := Option.some.inj e3
    obtain ⟨_, ⟨rfl, _⟩ | ⟨g', cap, cur, rfl, _, hh, _⟩⟩ := h
    · cases e2
    · obtain rfl : g' = g := Option.some.inj e2
      rw [hN] at hh
      injection hh with hh
      injection hh with _ hh
      exact hne hh.symm
theorem OwnD.boxed {lo hi N : Nat} {w w' : World} {p : PE} {s : PV} {A : Array Value} (h : OwnD lo hi w p s) (hN : w.heap[N]? = some (.cells A 87 (0, 0))) (hg : w.grownBy w' (some N)) : OwnD lo hi w' p s :=
  ⟨⟨World.ownsRow.kept h.1.row hg (row_not_box h.1.row hN (by decide)), World.ownsRow.kept h.1.cells hg (row_not_box h.1.cells hN (by decide)), World.ownsRow.kept h.1.early hg (row_not_box h.1.early hN (by decide)), World.ownsRow.kept h.1.undos hg (row_not_box h.1.undos hN (by decide)), World.ownsRow.kept h.1.votes hg (row_not_box h.1.votes hN (by decide)), World.ownsRow.kept h.1.news hg (row_not_box h.1.news hN (by decide))⟩, h.2.1, Nat.le_trans h.2.2 hg.size⟩

/-- a struct loaded where a guard lets it -/
theorem wpList_load_row_w {P : Program} {ops : Array Oper} {rest : List Oper} {o : Oper} {a : Act} {w : World} {Q : Exit → Act → World → Prop} (hw : Region.wanted o (yielded ops a.tmps) = true) (ty : TypeId) (x : Operand) (ho : o.op = .load ty x)
    (g : Nat) (hx : a.eval x = .pointer (some ⟨g, 0, none⟩)) (t : TypeId) (cs : Array Value) (fr : Nat × Nat) (d : TypeDesc) (hg : w.heap[g]? = some (.cells cs t fr))
    (hu : P.underlying ty = some d) (hd : (match d with | .struct _ | .array _ _ => true | _ => false) = true) (hi : (P.info? ty).map (·.size) = some cs.size)
    (h : wpList P ops Q rest (a.put o.dst (.agg cs)) w) : wpList P ops Q (o :: rest) a w :=
  wpList_step fun K hK => by rw [if_pos hw]; exact wp_load_row ty x ho g hx t cs fr d hg hu hd hi (hK _ _ h)

end Go.Proofs.Ytcfgfhodbjakoav
