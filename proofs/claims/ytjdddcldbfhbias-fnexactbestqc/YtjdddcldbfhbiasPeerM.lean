/-
  A replica whose lists are rows of its own, each apart from the others; marks laid into it and asked for. (Made by gp9m.py.)
-/
import Derived.Test.YtjdddcldbfhbiasPeerL
import Derived.Test.YtjdddcldbfhbiasMarkL
namespace Go.Proofs.Ytjdddcldbfhbias
open Go.RowKit Num

/-- two rows do not lie in one block -/
def apart (a b : Value) : Prop := ∀ g, a.ownBlock = some g → b.ownBlock ≠ some g
theorem apart.symm {a b : Value} (h : apart a b) : apart b a := fun g hb ha => h g ha hb
theorem apart.ne {a b : Value} (h : apart a b) : a.ownBlock = none ∨ a.ownBlock ≠ b.ownBlock := by
  cases e : a.ownBlock with
  | none => exact Or.inl rfl
  | some g => exact Or.inr fun e2 => h g e e2.symm
/-- the six slices are apart, and lie from lo on, ahead of hi -/
structure Apart6 (lo hi : Nat) (s : PV) : Prop where
  a01 : apart s.row s.cells
  a02 : apart s.row s.early
  a03 : apart s.row s.undos
  a04 : apart s.row s.votes
  a05 : apart s.row s.news
  a10 : apart s.cells s.row
  a12 : apart s.cells s.early
  a13 : apart s.cells s.undos
  a14 : apart s.cells s.votes
  a15 : apart s.cells s.news
  a20 : apart s.early s.row
  a21 : apart s.early s.cells
  a23 : apart s.early s.undos
  a24 : apart s.early s.votes
  a25 : apart s.early s.news
  a30 : apart s.undos s.row
  a31 : apart s.undos s.cells
  a32 : apart s.undos s.early
  a34 : apart s.undos s.votes
  a35 : apart s.undos s.news
  a40 : apart s.votes s.row
  a41 : apart s.votes s.cells
  a42 : apart s.votes s.early
  a43 : apart s.votes s.undos
  a45 : apart s.votes s.news
  a50 : apart s.news s.row
  a51 : apart s.news s.cells
  a52 : apart s.news s.early
  a53 : apart s.news s.undos
  a54 : apart s.news s.votes
  l0 : ∀ g, s.row.ownBlock = some g → lo ≤ g ∧ g < hi
  l1 : ∀ g, s.cells.ownBlock = some g → lo ≤ g ∧ g < hi
  l2 : ∀ g, s.early.ownBlock = some g → lo ≤ g ∧ g < hi
  l3 : ∀ g, s.undos.ownBlock = some g → lo ≤ g ∧ g < hi
  l4 : ∀ g, s.votes.ownBlock = some g → lo ≤ g ∧ g < hi
  l5 : ∀ g, s.news.ownBlock = some g → lo ≤ g ∧ g < hi
/-- rows of its own, with these cells -/
structure Own6 (lo : Nat) (w : World) (p : PE) (s : PV) (xr xc xe xu xv xn : List Value) : Prop where
  row : w.ownsRow lo 3 1 s.row p.row.length xr
  cells : w.ownsRow lo 105 2 s.cells p.cells.length xc
  early : w.ownsRow lo 3 1 s.early p.early.length xe
  undos : w.ownsRow lo 107 3 s.undos p.undos.length xu
  votes : w.ownsRow lo 44 4 s.votes p.votes.length xv
  news : w.ownsRow lo 75 13 s.news p.news.length xn
def OwnD (lo hi : Nat) (w : World) (p : PE) (s : PV) : Prop := Own6 lo w p s (flatR intF p.row) (flat p.cells) (flatR intF p.early) (flatR undoF p.undos) (flatR voteF p.votes) (flatR letF p.news) ∧ Apart6 lo hi s ∧ hi ≤ w.heap.size
theorem OwnD.reads {lo hi : Nat} {w : World} {p : PE} {s : PV} (h : OwnD lo hi w p s) : PeerR w p s :=
  ⟨rows_of_own intF_len h.1.row, cells_of_own h.1.cells, rows_of_own intF_len h.1.early, rows_of_own undoF_len h.1.undos, rows_of_own voteF_len h.1.votes, rows_of_own letF_len h.1.news⟩
theorem Own6.below {lo : Nat} {w w' : World} {p : PE} {s : PV} {xr xc xe xu xv xn : List Value} (h : Own6 lo w p s xr xc xe xu xv xn) (hb : Below w.heap.size w w') : Own6 lo w' p s xr xc xe xu xv xn :=
  ⟨own_kept h.row hb, own_kept h.cells hb, own_kept h.early hb, own_kept h.undos hb, own_kept h.votes hb, own_kept h.news hb⟩
theorem OwnD.below {lo hi : Nat} {w w' : World} {p : PE} {s : PV} (h : OwnD lo hi w p s) (hb : Below w.heap.size w w') : OwnD lo hi w' p s := ⟨h.1.below hb, h.2.1, Nat.le_trans h.2.2 hb.size⟩
/-- what lies outside of lo .. hi is as it was -/
structure Fr (lo hi : Nat) (w w' : World) : Prop where
  os : w'.os = w.os
  tape : w'.tape = w.tape
  output : w'.output = w.output
  size : w.heap.size ≤ w'.heap.size
  block : ∀ k, k < w.heap.size → k < lo ∨ hi ≤ k → w'.heap[k]? = w.heap[k]?
theorem Fr.refl (lo hi : Nat) (w : World) : Fr lo hi w w := ⟨rfl, rfl, rfl, Nat.le_refl _, fun _ _ _ => rfl⟩
theorem Fr.trans {lo hi : Nat} {a b c : World} (h : Fr lo hi a b) (k : Fr lo hi b c) : Fr lo hi a c := ⟨k.os.trans h.os, k.tape.trans h.tape, k.output.trans h.output, Nat.le_trans h.size k.size, fun i hi h2 => (k.block i (Nat.lt_of_lt_of_le hi h.size) h2).trans (h.block i hi h2)⟩
theorem Fr.of_below {lo hi : Nat} {w w' : World} (h : Below w.heap.size w w') : Fr lo hi w w' := ⟨h.os, h.tape, h.output, h.size, fun k hk _ => h.block k hk⟩
theorem Fr.of_grown {lo hi : Nat} {w w' : World} {v : Value} (h : w.grownBy w' v.ownBlock) (hv : ∀ g, v.ownBlock = some g → lo ≤ g ∧ g < hi) : Fr lo hi w w' :=
  ⟨h.os, h.tape, h.output, h.size, fun k hk h2 => h.block k hk fun e => by have := hv k e.symm; omega⟩
/-- a row outside of lo .. hi -/
theorem Fr.own {lo hi : Nat} {w w' : World} (h : Fr lo hi w w') {base : Nat} {e : TypeId} {m n : Nat} {v : Value} {xs : List Value} (ho : w.ownsRow base e m v n xs) (hv : ∀ g, v.ownBlock = some g → g < lo ∨ hi ≤ g) : w'.ownsRow base e m v n xs := by
  obtain ⟨hl, h0 | ⟨g, cap, cur, rfl, hb, hh, r⟩⟩ := ho
  · exact ⟨hl, Or.inl h0⟩
  · exact ⟨hl, Or.inr ⟨g, cap, cur, rfl, hb, (h.block g (Array.getElem?_eq_some_iff.1 hh).1 (hv g rfl)).trans hh, r⟩⟩

def mk2 (k : Nat) (p : PE) : Nat := k + p.row.length + 2 * p.cells.length
def mk3 (k : Nat) (p : PE) : Nat := mk2 k p + p.early.length
def mk4 (k : Nat) (p : PE) : Nat := mk3 k p + 3 * p.undos.length
def mk5 (k : Nat) (p : PE) : Nat := mk4 k p + 4 * p.votes.length
def mk6 (k : Nat) (p : PE) : Nat := mk5 k p + 13 * p.news.length
/-- its lists together are short -/
def lenPe (p : PE) : Nat := p.row.length + p.cells.length + p.early.length + p.undos.length + p.votes.length + p.news.length
def sumPe (p : PE) : Prop := lenPe p ≤ 3200000 ∧ p.row.length ≤ 1048576 ∧ p.cells.length ≤ 1048576 ∧ p.early.length ≤ 1048576 ∧ p.undos.length ≤ 1048576 ∧ p.votes.length ≤ 1048576 ∧ p.news.length ≤ 1048576

theorem In.at {lo hi : Nat} {w : World} {e : TypeId} {m : Nat} {v : Value} {n : Nat} {xs : List Value} (h : In lo hi w e m v n xs) : ∀ g, v.ownBlock = some g → lo ≤ g ∧ g < hi := fun g hg => ⟨(h.1.lt g hg).1, h.2 g hg⟩
theorem apart_of {a b : Value} {la ha lb hb : Nat} (h1 : ∀ g, a.ownBlock = some g → la ≤ g ∧ g < ha) (h2 : ∀ g, b.ownBlock = some g → lb ≤ g ∧ g < hb) (h : ha ≤ lb ∨ hb ≤ la) : apart a b := fun g e1 e2 => by have := h1 g e1; have := h2 g e2; omega
theorem OwnP.toD {base : Nat} {w : World} {p : PE} {s : PV} (h : OwnP base w p s) : OwnD base w.heap.size w p s := by
  obtain ⟨b1, b2, b3, b4, b5, b6, hl, r0, r1, r2, r3, r4, r5⟩ := h.ex
  have t0 := r0.at
  have t1 := r1.at
  have t2 := r2.at
  have t3 := r3.at
  have t4 := r4.at
  have t5 := r5.at
  refine ⟨⟨own_base r0.1 (by omega), own_base r1.1 (by omega), own_base r2.1 (by omega), own_base r3.1 (by omega), own_base r4.1 (by omega), own_base r5.1 (by omega)⟩, ⟨apart_of t0 t1 (by omega), apart_of t0 t2 (by omega), apart_of t0 t3 (by omega), apart_of t0 t4 (by omega), apart_of t0 t5 (by omega), apart_of t1 t0 (by omega), apart_of t1 t2 (by omega), apart_of t1 t3 (by omega), apart_of t1 t4 (by omega), apart_of t1 t5 (by omega), apart_of t2 t0 (by omega), apart_of t2 t1 (by omega), apart_of t2 t3 (by omega), apart_of t2 t4 (by omega), apart_of t2 t5 (by omega), apart_of t3 t0 (by omega), apart_of t3 t1 (by omega), apart_of t3 t2 (by omega), apart_of t3 t4 (by omega), apart_of t3 t5 (by omega), apart_of t4 t0 (by omega), apart_of t4 t1 (by omega), apart_of t4 t2 (by omega), apart_of t4 t3 (by omega), apart_of t4 t5 (by omega), apart_of t5 t0 (by omega), apart_of t5 t1 (by omega), apart_of t5 t2 (by omega), apart_of t5 t3 (by omega), apart_of t5 t4 (by omega), fun g hg => by have := t0 g hg; omega, fun g hg => by have := t1 g hg; omega, fun g hg => by have := t2 g hg; omega, fun g hg => by have := t3 g hg; omega, fun g hg => by have := t4 g hg; omega, fun g hg => by have := t5 g hg; omega⟩, Nat.le_refl _⟩



end Go.Proofs.Ytjdddcldbfhbias
