/-
  A replica whose lists are rows of its own, each apart from the others; marks laid into it and asked for. (Made by gp9m.py.)
-/
import Derived.Test.YtdopefimjabigatPeerL
import Derived.Test.YtdopefimjabigatMarkL
namespace Go.Proofs.Ytdopefimjabigat
open Go.RowKit Num

/-- two rows do not lie in one block -/
def apart (a b : Value) : Prop := ∀ g, a.ownBlock = some g → b.ownBlock ≠ some g
theorem apart.symm {a b : Value} (h : apart a b) : apart b a := fun g hb ha => h g ha hb
theorem apart.ne {a b : Value} (h : apart a b) : a.ownBlock = none ∨ a.ownBlock ≠ b.ownBlock := by
  cases e : a.ownBlock with
  | none => exact Or.inl rfl
  | some g => exact Or.inr fun e2 => h g e e2.symm
/-- the six slices are apart, and lie from lo on, ahead of hi -/
structure Apart6 (lo hi : Nat) (s : PV) : Prop where
  a01 : apart s.row s.cells
  a02 : apart s.row s.early
  a03 : apart s.row s.undos
  a04 : apart s.row s.votes
  a05 : apart s.row s.news
  a10 : apart s.cells s.row
  a12 : apart s.cells s.early
  a13 : apart s.cells s.undos
  a14 : apart s.cells s.votes
  a15 : apart s.cells s.news
  a20 : apart s.early s.row
  a21 : apart s.early s.cells
  a23 : apart s.early s.undos
  a24 : apart s.early s.votes
  a25 : apart s.early s.news
  a30 : apart s.undos s.row
  a31 : apart s.undos s.cells
  a32 : apart s.undos s.early
  a34 : apart s.undos s.votes
  a35 : apart s.undos s.news
  a40 : apart s.votes s.row
  a41 : apart s.votes s.cells
  a42 : apart s.votes s.early
  a43 : apart s.votes s.undos
  a45 : apart s.votes s.news
  a50 : apart s.news s.row
  a51 : apart s.news s.cells
  a52 : apart s.news s.early
  a53 : apart s.news s.undos
  a54 : apart s.news s.votes
  l0 : ∀ g, s.row.ownBlock = some g → lo ≤ g ∧ g < hi
  l1 : ∀ g, s.cells.ownBlock = some g → lo ≤ g ∧ g < hi
  l2 : ∀ g, s.early.ownBlock = some g → lo ≤ g ∧ g < hi
  l3 : ∀ g, s.undos.ownBlock = some g → lo ≤ g ∧ g < hi
  l4 : ∀ g, s.votes.ownBlock = some g → lo ≤ g ∧ g < hi
  l5 : ∀ g, s.news.ownBlock = some g → lo ≤ g ∧ g < hi
/-- rows of its own, with these cells -/
structure Own6 (lo : Nat) (w : World) (p : PE) (s : PV) (xr xc xe xu xv xn : List Value) : Prop where
  row : w.ownsRow lo 3 1 s.row p.row.length xr
  cells : w.ownsRow lo 85 2 s.cells p.cells.length xc
  early : w.ownsRow lo 3 1 s.early p.early.length xe
  undos : w.ownsRow lo 87 3 s.undos p.undos.length xu
  votes : w.ownsRow lo 35 4 s.votes p.votes.length xv
  news : w.ownsRow lo 43 13 s.news p.news.length xn
def OwnD (lo hi : Nat) (w : World) (p : PE) (s : PV) : Prop := Own6 lo w p s (flatR intF p.row) (flat p.cells) (flatR intF p.early) (flatR undoF p.undos) (flatR voteF p.votes) (flatR letF p.news) ∧ Apart6 lo hi s ∧ hi ≤ w.heap.size
theorem OwnD.reads {lo hi : Nat} {w : World} {p : PE} {s : PV} (h : OwnD lo hi w p s) : PeerR w p s :=
  ⟨rows_of_own intF_len h.1.row, cells_of_own h.1.cells, rows_of_own intF_len h.1.early, rows_of_own undoF_len h.1.undos, rows_of_own voteF_len h.1.votes, rows_of_own letF_len h.1.news⟩
theorem Own6.below {lo : Nat} {w w' : World} {p : PE} {s : PV} {xr xc xe xu xv xn : List Value} (h : Own6 lo w p s xr xc xe xu xv xn) (hb : Below w.heap.size w w') : Own6 lo w' p s xr xc xe xu xv xn :=
  ⟨own_kept h.row hb, own_kept h.cells hb, own_kept h.early hb, own_kept h.undos hb, own_kept h.votes hb, own_kept h.news hb⟩
theorem OwnD.below {lo hi : Nat} {w w' : World} {p : PE} {s : PV} (h : OwnD lo hi w p s) (hb : Below w.heap.size w w') : OwnD lo hi w' p s := ⟨h.1.below hb, h.2.1, Nat.le_trans h.2.2 hb.size⟩
/-- what lies outside of lo .. hi is as it was -/
structure Fr (lo hi : Nat) (w w' : World) : Prop where
  os : w'.os = w.os
  tape : w'.tape = w.tape
  output : w'.output = w.output
  size : w.heap.size ≤ w'.heap.size
  block : ∀ k, k < w.heap.size → k < lo ∨ hi ≤ k → w'.heap[k]? = w.heap[k]?
theorem Fr.refl (lo hi : Nat) (w : World) : Fr lo hi w w := ⟨rfl, rfl, rfl, Nat.le_refl _, fun _ _ _ => rfl⟩
theorem Fr.trans {lo hi : Nat} {a b c : World} (h : Fr lo hi a b) (k : Fr lo hi b c) : Fr lo hi a c := ⟨k.os.trans h.os, k.tape.trans h.tape, k.output.trans h.output, Nat.le_trans h.size k.size, fun i hi h2 => (k.block i (Nat.lt_of_lt_of_le hi h.size) h2).trans (h.block i hi h2)⟩
theorem Fr.of_below {lo hi : Nat} {w w' : World} (h : Below w.heap.size w w') : Fr lo hi w w' := ⟨h.os, h.tape, h.output, h.size, fun k hk _ => h.block k hk⟩
theorem Fr.of_grown {lo hi : Nat} {w w' : World} {v : Value} (h : w.grownBy w' v.ownBlock) (hv : ∀ g, v.ownBlock = some g → lo ≤ g ∧ g < hi) : Fr lo hi w w' :=
  ⟨h.os, h.tape, h.output, h.size, fun k hk h2 => h.block k hk fun e => by have := hv k e.symm; omega⟩
/-- a row outside of lo .. hi -/
theorem Fr.own {lo hi : Nat} {w w' : World} (h : Fr lo hi w w') {base : Nat} {e : TypeId} {m n : Nat} {v : Value} {xs : List Value} (ho : w.ownsRow base e m v n xs) (hv : ∀ g, v.ownBlock = some g → g < lo ∨ hi ≤ g) : w'.ownsRow base e m v n xs := by
  obtain ⟨hl, h0 | ⟨g, cap, cur, rfl, hb, hh, r⟩⟩ := ho
  · exact ⟨hl, Or.inl h0⟩
  · exact ⟨hl, Or.inr ⟨g, cap, cur, rfl, hb, (h.block g (Array.getElem?_eq_some_iff.1 hh).1 (hv g rfl)).trans hh, r⟩⟩

def mk2 (k : Nat) (p : PE) : Nat := k + p.row.length + 2 * p.cells.length
def mk3 (k : Nat) (p : PE) : Nat := mk2 k p + p.early.length
def mk4 (k : Nat) (p : PE) : Nat := mk3 k p + 3 * p.undos.length
def mk5 (k : Nat) (p : PE) : Nat := mk4 k p + 4 * p.votes.length
def mk6 (k : Nat) (p : PE) : Nat := mk5 k p + 13 * p.news.length
/-- a replica with its marks -/
def MarkD (k lo : Nat) (w : World) (p : PE) (s : PV) : Prop := Own6 lo w p s (flatR intF (imarks k p.row.length)) (flat (cmarks (k + p.row.length) p.cells.length)) (flatR intF (imarks (mk2 k p) p.early.length)) (flatR undoF (umarks (mk3 k p) p.undos.length)) (icells (mk4 k p) (p.votes.length * 4)) (icells (mk5 k p) (p.news.length * 13))
/-- its lists together are short -/
def lenPe (p : PE) : Nat := p.row.length + p.cells.length + p.early.length + p.undos.length + p.votes.length + p.news.length
def sumPe (p : PE) : Prop := lenPe p ≤ 3200000 ∧ p.row.length ≤ 1048576 ∧ p.cells.length ≤ 1048576 ∧ p.early.length ≤ 1048576 ∧ p.undos.length ≤ 1048576 ∧ p.votes.length ≤ 1048576 ∧ p.news.length ≤ 1048576

theorem In.at {lo hi : Nat} {w : World} {e : TypeId} {m : Nat} {v : Value} {n : Nat} {xs : List Value} (h : In lo hi w e m v n xs) : ∀ g, v.ownBlock = some g → lo ≤ g ∧ g < hi := fun g hg => ⟨(h.1.lt g hg).1, h.2 g hg⟩
theorem apart_of {a b : Value} {la ha lb hb : Nat} (h1 : ∀ g, a.ownBlock = some g → la ≤ g ∧ g < ha) (h2 : ∀ g, b.ownBlock = some g → lb ≤ g ∧ g < hb) (h : ha ≤ lb ∨ hb ≤ la) : apart a b := fun g e1 e2 => by have := h1 g e1; have := h2 g e2; omega
theorem OwnP.toD {base : Nat} {w : World} {p : PE} {s : PV} (h : OwnP base w p s) : OwnD base w.heap.size w p s := by
  obtain ⟨b1, b2, b3, b4, b5, b6, hl, r0, r1, r2, r3, r4, r5⟩ := h.ex
  have t0 := r0.at
  have t1 := r1.at
  have t2 := r2.at
  have t3 := r3.at
  have t4 := r4.at
  have t5 := r5.at
  refine ⟨⟨own_base r0.1 (by omega), own_base r1.1 (by omega), own_base r2.1 (by omega), own_base r3.1 (by omega), own_base r4.1 (by omega), own_base r5.1 (by omega)⟩, ⟨apart_of t0 t1 (by omega), apart_of t0 t2 (by omega), apart_of t0 t3 (by omega), apart_of t0 t4 (by omega), apart_of t0 t5 (by omega), apart_of t1 t0 (by omega), apart_of t1 t2 (by omega), apart_of t1 t3 (by omega), apart_of t1 t4 (by omega), apart_of t1 t5 (by omega), apart_of t2 t0 (by omega), apart_of t2 t1 (by omega), apart_of t2 t3 (by omega), apart_of t2 t4 (by omega), apart_of t2 t5 (by omega), apart_of t3 t0 (by omega), apart_of t3 t1 (by omega), apart_of t3 t2 (by omega), apart_of t3 t4 (by omega), apart_of t3 t5 (by omega), apart_of t4 t0 (by omega), apart_of t4 t1 (by omega), apart_of t4 t2 (by omega), apart_of t4 t3 (by omega), apart_of t4 t5 (by omega), apart_of t5 t0 (by omega), apart_of t5 t1 (by omega), apart_of t5 t2 (by omega), apart_of t5 t3 (by omega), apart_of t5 t4 (by omega), fun g hg => by have := t0 g hg; omega, fun g hg => by have := t1 g hg; omega, fun g hg => by have := t2 g hg; omega, fun g hg => by have := t3 g hg; omega, fun g hg => by have := t4 g hg; omega, fun g hg => by have := t5 g hg; omega⟩, Nat.le_refl _⟩

set_option maxRecDepth 100000 in
set_option maxHeartbeats 8000000 in
theorem markPeer_own (p : PE) (s : PV) (k lo hi : Nat) (w : World) (h : OwnD lo hi w p s) (hp : sumPe p) (hk : 0 < k) (hk2 : k + 4 * lenPe p ≤ 19900000) :
    Calls Try.prog 10 #[peerV p s, .int .i64 k] w fun e w' => e = .returned (.int .i64 ((mk6 k p : Nat) : Int)) ∧ MarkD k lo w' p s ∧ Fr lo hi w w' := by
  have HA := hid h.2.1
  have HH := hid h.2.2
  have HO := hid h.1
  unfold sumPe lenPe at hp
  unfold lenPe at hk2
  clear h
  obtain ⟨id, view, ⟨h0, h1, h2, h3⟩, ⟨l0, l1, l2, l3⟩, ⟨a0, a1, a2, a3⟩, row, cells, early, undos, votes, news, shown⟩ := p
  obtain ⟨svr, svc, sve, svu, svv, svn⟩ := s
  obtain ⟨sar, scr, ser, -⟩ := own_form HO.out.row
  change svr = _ at ser
  subst ser
  obtain ⟨sac, scc, sec, -⟩ := own_form HO.out.cells
  change svc = _ at sec
  subst sec
  obtain ⟨sae, sce, see, -⟩ := own_form HO.out.early
  change sve = _ at see
  subst see
  obtain ⟨sau, scu, seu, -⟩ := own_form HO.out.undos
  change svu = _ at seu
  subst seu
  obtain ⟨sav, scv, sev, -⟩ := own_form HO.out.votes
  change svv = _ at sev
  subst sev
  obtain ⟨san, scn, sen, -⟩ := own_form HO.out.news
  change svn = _ at sen
  subst sen
  unfold peerV peerA MarkD mk6 mk5 mk4 mk3 mk2
  simp only at hp hk2 ⊢
  obtain ⟨W, hW⟩ : ∃ W, W = w.alloc (.cells #[.int .i64 id, .int .i64 view, .int .i64 h0, .int .i64 h1, .int .i64 h2, .int .i64 h3, .int .i64 l0, .int .i64 l1, .int .i64 l2, .int .i64 l3, .int .i64 a0, .int .i64 a1, .int .i64 a2, .int .i64 a3, .slice sar row.length scr, .slice sac cells.length scc, .slice sae early.length sce, .slice sau undos.length scu, .slice sav votes.length scv, .slice san news.length scn, .int .i64 shown] 41) := ⟨_, rfl⟩
  have HF0 : Hid (Fr lo hi w W) := (by rw [hW]; exact Fr.of_below (ba (Below.refl _ _) _) : Fr lo hi w W)
  have HK0 : Hid (W.heap[w.heap.size]? = some (.cells #[.int .i64 id, .int .i64 view, .int .i64 h0, .int .i64 h1, .int .i64 h2, .int .i64 h3, .int .i64 l0, .int .i64 l1, .int .i64 l2, .int .i64 l3, .int .i64 a0, .int .i64 a1, .int .i64 a2, .int .i64 a3, .slice sar row.length scr, .slice sac cells.length scc, .slice sae early.length sce, .slice sau undos.length scu, .slice sav votes.length scv, .slice san news.length scn, .int .i64 shown] 41 (0, 0))) := (by rw [hW]; exact heap_alloc_new w _ : W.heap[w.heap.size]? = _)
  have HO0 : Hid (Own6 lo W (PE.mk id view (h0, h1, h2, h3) (l0, l1, l2, l3) (a0, a1, a2, a3) row cells early undos votes news shown) (PV.mk (.slice sar row.length scr) (.slice sac cells.length scc) (.slice sae early.length sce) (.slice sau undos.length scu) (.slice sav votes.length scv) (.slice san news.length scn)) (flatR intF row) (flat cells) (flatR intF early) (flatR undoF undos) (flatR voteF votes) (flatR letF news)) := (by rw [hW]; exact HO.out.below (ba (Below.refl _ _) _) : Own6 lo W _ _ _ _ _ _ _ _)
  clear HO
  go_enter Try.func10, Try.ntmps10
  have c := blk_cell HK0.out 14 (.slice sar row.length scr) rfl
  rw [hW] at c
  go_wp2_with fail
  rw [← hW]
  clear hW
  clear c
  refine (markInts_any row.length k _ lo _ W HO0.out.row (by omega) (by omega)).mono ?_
  rintro e w1 ⟨rfl, ho, hg⟩
  have HO1 : Hid (Own6 lo w1 (PE.mk id view (h0, h1, h2, h3) (l0, l1, l2, l3) (a0, a1, a2, a3) row cells early undos votes news shown) (PV.mk (.slice sar row.length scr) (.slice sac cells.length scc) (.slice sae early.length sce) (.slice sau undos.length scu) (.slice sav votes.length scv) (.slice san news.length scn)) (flatR intF (imarks k row.length)) (flat cells) (flatR intF early) (flatR undoF undos) (flatR voteF votes) (flatR letF news)) := ⟨ho, World.ownsRow.kept HO0.out.cells hg (HA.out.a10.ne), World.ownsRow.kept HO0.out.early hg (HA.out.a20.ne), World.ownsRow.kept HO0.out.undos hg (HA.out.a30.ne), World.ownsRow.kept HO0.out.votes hg (HA.out.a40.ne), World.ownsRow.kept HO0.out.news hg (HA.out.a50.ne)⟩
  have HF1 : Hid (Fr lo hi w w1) := HF0.out.trans (Fr.of_grown hg HA.out.l0)
  have HK1 : Hid (w1.heap[w.heap.size]? = some (.cells #[.int .i64 id, .int .i64 view, .int .i64 h0, .int .i64 h1, .int .i64 h2, .int .i64 h3, .int .i64 l0, .int .i64 l1, .int .i64 l2, .int .i64 l3, .int .i64 a0, .int .i64 a1, .int .i64 a2, .int .i64 a3, .slice sar row.length scr, .slice sac cells.length scc, .slice sae early.length sce, .slice sau undos.length scu, .slice sav votes.length scv, .slice san news.length scn, .int .i64 shown] 41 (0, 0))) := (hg.block _ (Array.getElem?_eq_some_iff.1 HK0.out).1 (fun e => by have := HA.out.l0 _ e.symm; have := HH.out; omega)).trans HK0.out
  clear ho hg HO0 HF0 HK0
  have c := blk_cell HK1.out 15 (.slice sac cells.length scc) rfl
  go_wp2_with fail
  clear c
  refine (markCells_any cells.length (k + row.length) _ lo _ w1 HO1.out.cells (by omega) (by omega) (by omega)).mono ?_
  rintro e w2 ⟨rfl, ho, hg⟩
  have HO2 : Hid (Own6 lo w2 (PE.mk id view (h0, h1, h2, h3) (l0, l1, l2, l3) (a0, a1, a2, a3) row cells early undos votes news shown) (PV.mk (.slice sar row.length scr) (.slice sac cells.length scc) (.slice sae early.length sce) (.slice sau undos.length scu) (.slice sav votes.length scv) (.slice san news.length scn)) (flatR intF (imarks k row.length)) (flat (cmarks (k + row.length) cells.length)) (flatR intF early) (flatR undoF undos) (flatR voteF votes) (flatR letF news)) := ⟨World.ownsRow.kept HO1.out.row hg (HA.out.a01.ne), ho, World.ownsRow.kept HO1.out.early hg (HA.out.a21.ne), World.ownsRow.kept HO1.out.undos hg (HA.out.a31.ne), World.ownsRow.kept HO1.out.votes hg (HA.out.a41.ne), World.ownsRow.kept HO1.out.news hg (HA.out.a51.ne)⟩
  have HF2 : Hid (Fr lo hi w w2) := HF1.out.trans (Fr.of_grown hg HA.out.l1)
  have HK2 : Hid (w2.heap[w.heap.size]? = some (.cells #[.int .i64 id, .int .i64 view, .int .i64 h0, .int .i64 h1, .int .i64 h2, .int .i64 h3, .int .i64 l0, .int .i64 l1, .int .i64 l2, .int .i64 l3, .int .i64 a0, .int .i64 a1, .int .i64 a2, .int .i64 a3, .slice sar row.length scr, .slice sac cells.length scc, .slice sae early.length sce, .slice sau undos.length scu, .slice sav votes.length scv, .slice san news.length scn, .int .i64 shown] 41 (0, 0))) := (hg.block _ (Array.getElem?_eq_some_iff.1 HK1.out).1 (fun e => by have := HA.out.l1 _ e.symm; have := HH.out; omega)).trans HK1.out
  clear ho hg HO1 HF1 HK1
  have c := blk_cell HK2.out 16 (.slice sae early.length sce) rfl
  go_wp2_with fail
  clear c
  refine (markInts_any early.length (k + row.length + 2 * cells.length) _ lo _ w2 HO2.out.early (by omega) (by omega)).mono ?_
  rintro e w3 ⟨rfl, ho, hg⟩
  have HO3 : Hid (Own6 lo w3 (PE.mk id view (h0, h1, h2, h3) (l0, l1, l2, l3) (a0, a1, a2, a3) row cells early undos votes news shown) (PV.mk (.slice sar row.length scr) (.slice sac cells.length scc) (.slice sae early.length sce) (.slice sau undos.length scu) (.slice sav votes.length scv) (.slice san news.length scn)) (flatR intF (imarks k row.length)) (flat (cmarks (k + row.length) cells.length)) (flatR intF (imarks (k + row.length + 2 * cells.length) early.length)) (flatR undoF undos) (flatR voteF votes) (flatR letF news)) := ⟨World.ownsRow.kept HO2.out.row hg (HA.out.a02.ne), World.ownsRow.kept HO2.out.cells hg (HA.out.a12.ne), ho, World.ownsRow.kept HO2.out.undos hg (HA.out.a32.ne), World.ownsRow.kept HO2.out.votes hg (HA.out.a42.ne), World.ownsRow.kept HO2.out.news hg (HA.out.a52.ne)⟩
  have HF3 : Hid (Fr lo hi w w3) := HF2.out.trans (Fr.of_grown hg HA.out.l2)
  have HK3 : Hid (w3.heap[w.heap.size]? = some (.cells #[.int .i64 id, .int .i64 view, .int .i64 h0, .int .i64 h1, .int .i64 h2, .int .i64 h3, .int .i64 l0, .int .i64 l1, .int .i64 l2, .int .i64 l3, .int .i64 a0, .int .i64 a1, .int .i64 a2, .int .i64 a3, .slice sar row.length scr, .slice sac cells.length scc, .slice sae early.length sce, .slice sau undos.length scu, .slice sav votes.length scv, .slice san news.length scn, .int .i64 shown] 41 (0, 0))) := (hg.block _ (Array.getElem?_eq_some_iff.1 HK2.out).1 (fun e => by have := HA.out.l2 _ e.symm; have := HH.out; omega)).trans HK2.out
  clear ho hg HO2 HF2 HK2
  have c := blk_cell HK3.out 17 (.slice sau undos.length scu) rfl
  go_wp2_with fail
  clear c
  refine (markUndos_any undos.length (k + row.length + 2 * cells.length + early.length) _ lo _ w3 HO3.out.undos (by omega) (by omega) (by omega)).mono ?_
  rintro e w4 ⟨rfl, ho, hg⟩
  have HO4 : Hid (Own6 lo w4 (PE.mk id view (h0, h1, h2, h3) (l0, l1, l2, l3) (a0, a1, a2, a3) row cells early undos votes news shown) (PV.mk (.slice sar row.length scr) (.slice sac cells.length scc) (.slice sae early.length sce) (.slice sau undos.length scu) (.slice sav votes.length scv) (.slice san news.length scn)) (flatR intF (imarks k row.length)) (flat (cmarks (k + row.length) cells.length)) (flatR intF (imarks (k + row.length + 2 * cells.length) early.length)) (flatR undoF (umarks (k + row.length + 2 * cells.length + early.length) undos.length)) (flatR voteF votes) (flatR letF news)) := ⟨World.ownsRow.kept HO3.out.row hg (HA.out.a03.ne), World.ownsRow.kept HO3.out.cells hg (HA.out.a13.ne), World.ownsRow.kept HO3.out.early hg (HA.out.a23.ne), ho, World.ownsRow.kept HO3.out.votes hg (HA.out.a43.ne), World.ownsRow.kept HO3.out.news hg (HA.out.a53.ne)⟩
  have HF4 : Hid (Fr lo hi w w4) := HF3.out.trans (Fr.of_grown hg HA.out.l3)
  have HK4 : Hid (w4.heap[w.heap.size]? = some (.cells #[.int .i64 id, .int .i64 view, .int .i64 h0, .int .i64 h1, .int .i64 h2, .int .i64 h3, .int .i64 l0, .int .i64 l1, .int .i64 l2, .int .i64 l3, .int .i64 a0, .int .i64 a1, .int .i64 a2, .int .i64 a3, .slice sar row.length scr, .slice sac cells.length scc, .slice sae early.length sce, .slice sau undos.length scu, .slice sav votes.length scv, .slice san news.length scn, .int .i64 shown] 41 (0, 0))) := (hg.block _ (Array.getElem?_eq_some_iff.1 HK3.out).1 (fun e => by have := HA.out.l3 _ e.symm; have := HH.out; omega)).trans HK3.out
  clear ho hg HO3 HF3 HK3
  have c := blk_cell HK4.out 18 (.slice sav votes.length scv) rfl
  go_wp2_with fail
  clear c
  refine (markVotes_own votes.length (k + row.length + 2 * cells.length + early.length + 3 * undos.length) _ lo _ w4 HO4.out.votes (by omega) (by omega)).mono ?_
  rintro e w5 ⟨rfl, ho, hg⟩
  have HO5 : Hid (Own6 lo w5 (PE.mk id view (h0, h1, h2, h3) (l0, l1, l2, l3) (a0, a1, a2, a3) row cells early undos votes news shown) (PV.mk (.slice sar row.length scr) (.slice sac cells.length scc) (.slice sae early.length sce) (.slice sau undos.length scu) (.slice sav votes.length scv) (.slice san news.length scn)) (flatR intF (imarks k row.length)) (flat (cmarks (k + row.length) cells.length)) (flatR intF (imarks (k + row.length + 2 * cells.length) early.length)) (flatR undoF (umarks (k + row.length + 2 * cells.length + early.length) undos.length)) (icells (k + row.length + 2 * cells.length + early.length + 3 * undos.length) (votes.length * 4)) (flatR letF news)) := ⟨World.ownsRow.kept HO4.out.row hg (HA.out.a04.ne), World.ownsRow.kept HO4.out.cells hg (HA.out.a14.ne), World.ownsRow.kept HO4.out.early hg (HA.out.a24.ne), World.ownsRow.kept HO4.out.undos hg (HA.out.a34.ne), ho, World.ownsRow.kept HO4.out.news hg (HA.out.a54.ne)⟩
  have HF5 : Hid (Fr lo hi w w5) := HF4.out.trans (Fr.of_grown hg HA.out.l4)
  have HK5 : Hid (w5.heap[w.heap.size]? = some (.cells #[.int .i64 id, .int .i64 view, .int .i64 h0, .int .i64 h1, .int .i64 h2, .int .i64 h3, .int .i64 l0, .int .i64 l1, .int .i64 l2, .int .i64 l3, .int .i64 a0, .int .i64 a1, .int .i64 a2, .int .i64 a3, .slice sar row.length scr, .slice sac cells.length scc, .slice sae early.length sce, .slice sau undos.length scu, .slice sav votes.length scv, .slice san news.length scn, .int .i64 shown] 41 (0, 0))) := (hg.block _ (Array.getElem?_eq_some_iff.1 HK4.out).1 (fun e => by have := HA.out.l4 _ e.symm; have := HH.out; omega)).trans HK4.out
  clear ho hg HO4 HF4 HK4
  have c := blk_cell HK5.out 19 (.slice san news.length scn) rfl
  go_wp2_with fail
  clear c
  refine (markLetters_own news.length (k + row.length + 2 * cells.length + early.length + 3 * undos.length + 4 * votes.length) _ lo _ w5 HO5.out.news (by omega) (by omega)).mono ?_
  rintro e w6 ⟨rfl, ho, hg⟩
  have HO6 : Hid (Own6 lo w6 (PE.mk id view (h0, h1, h2, h3) (l0, l1, l2, l3) (a0, a1, a2, a3) row cells early undos votes news shown) (PV.mk (.slice sar row.length scr) (.slice sac cells.length scc) (.slice sae early.length sce) (.slice sau undos.length scu) (.slice sav votes.length scv) (.slice san news.length scn)) (flatR intF (imarks k row.length)) (flat (cmarks (k + row.length) cells.length)) (flatR intF (imarks (k + row.length + 2 * cells.length) early.length)) (flatR undoF (umarks (k + row.length + 2 * cells.length + early.length) undos.length)) (icells (k + row.length + 2 * cells.length + early.length + 3 * undos.length) (votes.length * 4)) (icells (k + row.length + 2 * cells.length + early.length + 3 * undos.length + 4 * votes.length) (news.length * 13))) := ⟨World.ownsRow.kept HO5.out.row hg (HA.out.a05.ne), World.ownsRow.kept HO5.out.cells hg (HA.out.a15.ne), World.ownsRow.kept HO5.out.early hg (HA.out.a25.ne), World.ownsRow.kept HO5.out.undos hg (HA.out.a35.ne), World.ownsRow.kept HO5.out.votes hg (HA.out.a45.ne), ho⟩
  have HF6 : Hid (Fr lo hi w w6) := HF5.out.trans (Fr.of_grown hg HA.out.l5)
  have HK6 : Hid (w6.heap[w.heap.size]? = some (.cells #[.int .i64 id, .int .i64 view, .int .i64 h0, .int .i64 h1, .int .i64 h2, .int .i64 h3, .int .i64 l0, .int .i64 l1, .int .i64 l2, .int .i64 l3, .int .i64 a0, .int .i64 a1, .int .i64 a2, .int .i64 a3, .slice sar row.length scr, .slice sac cells.length scc, .slice sae early.length sce, .slice sau undos.length scu, .slice sav votes.length scv, .slice san news.length scn, .int .i64 shown] 41 (0, 0))) := (hg.block _ (Array.getElem?_eq_some_iff.1 HK5.out).1 (fun e => by have := HA.out.l5 _ e.symm; have := HH.out; omega)).trans HK5.out
  clear ho hg HO5 HF5 HK5
  go_wp2
  go_ret
  exact ⟨rfl, HO6.out, HF6.out⟩

set_option maxRecDepth 100000 in
set_option maxHeartbeats 8000000 in
theorem heldPeer_own (p : PE) (s : PV) (k lo : Nat) (w : World) (h : MarkD k lo w p s) (hp : sumPe p) (hk : 0 < k) (hk2 : k + 4 * lenPe p ≤ 19900000) :
    Calls Try.prog 11 #[peerV p s, .int .i64 k] w fun e w' => e = .returned (.int .i64 ((mk6 k p : Nat) : Int)) ∧ Below w.heap.size w w' := by
  unfold MarkD mk5 mk4 mk3 mk2 at h
  have HO := hid h
  unfold sumPe lenPe at hp
  unfold lenPe at hk2
  clear h
  obtain ⟨id, view, ⟨h0, h1, h2, h3⟩, ⟨l0, l1, l2, l3⟩, ⟨a0, a1, a2, a3⟩, row, cells, early, undos, votes, news, shown⟩ := p
  obtain ⟨svr, svc, sve, svu, svv, svn⟩ := s
  obtain ⟨sar, scr, ser, -⟩ := own_form HO.out.row
  change svr = _ at ser
  subst ser
  obtain ⟨sac, scc, sec, -⟩ := own_form HO.out.cells
  change svc = _ at sec
  subst sec
  obtain ⟨sae, sce, see, -⟩ := own_form HO.out.early
  change sve = _ at see
  subst see
  obtain ⟨sau, scu, seu, -⟩ := own_form HO.out.undos
  change svu = _ at seu
  subst seu
  obtain ⟨sav, scv, sev, -⟩ := own_form HO.out.votes
  change svv = _ at sev
  subst sev
  obtain ⟨san, scn, sen, -⟩ := own_form HO.out.news
  change svn = _ at sen
  subst sen
  simp only at HO
  unfold peerV peerA mk6 mk5 mk4 mk3 mk2
  simp only at hp hk2 ⊢
  obtain ⟨W, hW⟩ : ∃ W, W = w.alloc (.cells #[.int .i64 id, .int .i64 view, .int .i64 h0, .int .i64 h1, .int .i64 h2, .int .i64 h3, .int .i64 l0, .int .i64 l1, .int .i64 l2, .int .i64 l3, .int .i64 a0, .int .i64 a1, .int .i64 a2, .int .i64 a3, .slice sar row.length scr, .slice sac cells.length scc, .slice sae early.length sce, .slice sau undos.length scu, .slice sav votes.length scv, .slice san news.length scn, .int .i64 shown] 41) := ⟨_, rfl⟩
  have HB0 : Hid (Below w.heap.size w W) := (by rw [hW]; exact ba (Below.refl _ _) _ : Below w.heap.size w W)
  have HK0 : Hid (W.heap[w.heap.size]? = some (.cells #[.int .i64 id, .int .i64 view, .int .i64 h0, .int .i64 h1, .int .i64 h2, .int .i64 h3, .int .i64 l0, .int .i64 l1, .int .i64 l2, .int .i64 l3, .int .i64 a0, .int .i64 a1, .int .i64 a2, .int .i64 a3, .slice sar row.length scr, .slice sac cells.length scc, .slice sae early.length sce, .slice sau undos.length scu, .slice sav votes.length scv, .slice san news.length scn, .int .i64 shown] 41 (0, 0))) := (by rw [hW]; exact heap_alloc_new w _ : W.heap[w.heap.size]? = _)
  go_enter Try.func11, Try.ntmps11
  have c := blk_cell HK0.out 14 (.slice sar row.length scr) rfl
  rw [hW] at c
  go_wp2_with fail
  rw [← hW]
  clear hW
  clear c
  refine (heldInts_any row.length k _ W (rows_of_own intF_len (by rw [imarks_len]; exact own_kept HO.out.row HB0.out)) (by omega) (by omega)).mono ?_
  rintro e w1 ⟨rfl, hb⟩
  have HB1 : Hid (Below w.heap.size w w1) := bt HB0.out hb
  have HK1 : Hid (w1.heap[w.heap.size]? = some (.cells #[.int .i64 id, .int .i64 view, .int .i64 h0, .int .i64 h1, .int .i64 h2, .int .i64 h3, .int .i64 l0, .int .i64 l1, .int .i64 l2, .int .i64 l3, .int .i64 a0, .int .i64 a1, .int .i64 a2, .int .i64 a3, .slice sar row.length scr, .slice sac cells.length scc, .slice sae early.length sce, .slice sau undos.length scu, .slice sav votes.length scv, .slice san news.length scn, .int .i64 shown] 41 (0, 0))) := (hb.block _ (Array.getElem?_eq_some_iff.1 HK0.out).1).trans HK0.out
  clear hb HB0 HK0
  have c := blk_cell HK1.out 15 (.slice sac cells.length scc) rfl
  go_wp2_with fail
  clear c
  refine (heldCells_any cells.length (k + row.length) _ w1 (cells_of_own (by rw [cmarks_len]; exact own_kept HO.out.cells HB1.out)) (by omega) (by omega) (by omega)).mono ?_
  rintro e w2 ⟨rfl, hb⟩
  have HB2 : Hid (Below w.heap.size w w2) := bt HB1.out hb
  have HK2 : Hid (w2.heap[w.heap.size]? = some (.cells #[.int .i64 id, .int .i64 view, .int .i64 h0, .int .i64 h1, .int .i64 h2, .int .i64 h3, .int .i64 l0, .int .i64 l1, .int .i64 l2, .int .i64 l3, .int .i64 a0, .int .i64 a1, .int .i64 a2, .int .i64 a3, .slice sar row.length scr, .slice sac cells.length scc, .slice sae early.length sce, .slice sau undos.length scu, .slice sav votes.length scv, .slice san news.length scn, .int .i64 shown] 41 (0, 0))) := (hb.block _ (Array.getElem?_eq_some_iff.1 HK1.out).1).trans HK1.out
  clear hb HB1 HK1
  have c := blk_cell HK2.out 16 (.slice sae early.length sce) rfl
  go_wp2_with fail
  clear c
  refine (heldInts_any early.length (k + row.length + 2 * cells.length) _ w2 (rows_of_own intF_len (by rw [imarks_len]; exact own_kept HO.out.early HB2.out)) (by omega) (by omega)).mono ?_
  rintro e w3 ⟨rfl, hb⟩
  have HB3 : Hid (Below w.heap.size w w3) := bt HB2.out hb
  have HK3 : Hid (w3.heap[w.heap.size]? = some (.cells #[.int .i64 id, .int .i64 view, .int .i64 h0, .int .i64 h1, .int .i64 h2, .int .i64 h3, .int .i64 l0, .int .i64 l1, .int .i64 l2, .int .i64 l3, .int .i64 a0, .int .i64 a1, .int .i64 a2, .int .i64 a3, .slice sar row.length scr, .slice sac cells.length scc, .slice sae early.length sce, .slice sau undos.length scu, .slice sav votes.length scv, .slice san news.length scn, .int .i64 shown] 41 (0, 0))) := (hb.block _ (Array.getElem?_eq_some_iff.1 HK2.out).1).trans HK2.out
  clear hb HB2 HK2
  have c := blk_cell HK3.out 17 (.slice sau undos.length scu) rfl
  go_wp2_with fail
  clear c
  refine (heldUndos_any undos.length (k + row.length + 2 * cells.length + early.length) _ w3 (rows_of_own undoF_len (by rw [umarks_len]; exact own_kept HO.out.undos HB3.out)) (by omega) (by omega) (by omega)).mono ?_
  rintro e w4 ⟨rfl, hb⟩
  have HB4 : Hid (Below w.heap.size w w4) := bt HB3.out hb
  have HK4 : Hid (w4.heap[w.heap.size]? = some (.cells #[.int .i64 id, .int .i64 view, .int .i64 h0, .int .i64 h1, .int .i64 h2, .int .i64 h3, .int .i64 l0, .int .i64 l1, .int .i64 l2, .int .i64 l3, .int .i64 a0, .int .i64 a1, .int .i64 a2, .int .i64 a3, .slice sar row.length scr, .slice sac cells.length scc, .slice sae early.length sce, .slice sau undos.length scu, .slice sav votes.length scv, .slice san news.length scn, .int .i64 shown] 41 (0, 0))) := (hb.block _ (Array.getElem?_eq_some_iff.1 HK3.out).1).trans HK3.out
  clear hb HB3 HK3
  have c := blk_cell HK4.out 18 (.slice sav votes.length scv) rfl
  go_wp2_with fail
  clear c
  refine (heldVotes_own votes.length (k + row.length + 2 * cells.length + early.length + 3 * undos.length) _ lo w4 (own_kept HO.out.votes HB4.out) (by omega) (by omega)).mono ?_
  rintro e w5 ⟨rfl, hw⟩
  have hb : Below w4.heap.size w4 w5 := by rw [hw]; exact Below.refl _ _
  clear hw
  have HB5 : Hid (Below w.heap.size w w5) := bt HB4.out hb
  have HK5 : Hid (w5.heap[w.heap.size]? = some (.cells #[.int .i64 id, .int .i64 view, .int .i64 h0, .int .i64 h1, .int .i64 h2, .int .i64 h3, .int .i64 l0, .int .i64 l1, .int .i64 l2, .int .i64 l3, .int .i64 a0, .int .i64 a1, .int .i64 a2, .int .i64 a3, .slice sar row.length scr, .slice sac cells.length scc, .slice sae early.length sce, .slice sau undos.length scu, .slice sav votes.length scv, .slice san news.length scn, .int .i64 shown] 41 (0, 0))) := (hb.block _ (Array.getElem?_eq_some_iff.1 HK4.out).1).trans HK4.out
  clear hb HB4 HK4
  have c := blk_cell HK5.out 19 (.slice san news.length scn) rfl
  go_wp2_with fail
  clear c
  refine (heldLetters_own news.length (k + row.length + 2 * cells.length + early.length + 3 * undos.length + 4 * votes.length) _ lo w5 (own_kept HO.out.news HB5.out) (by omega) (by omega)).mono ?_
  rintro e w6 ⟨rfl, hw⟩
  have hb : Below w5.heap.size w5 w6 := by rw [hw]; exact Below.refl _ _
  clear hw
  have HB6 : Hid (Below w.heap.size w w6) := bt HB5.out hb
  have HK6 : Hid (w6.heap[w.heap.size]? = some (.cells #[.int .i64 id, .int .i64 view, .int .i64 h0, .int .i64 h1, .int .i64 h2, .int .i64 h3, .int .i64 l0, .int .i64 l1, .int .i64 l2, .int .i64 l3, .int .i64 a0, .int .i64 a1, .int .i64 a2, .int .i64 a3, .slice sar row.length scr, .slice sac cells.length scc, .slice sae early.length sce, .slice sau undos.length scu, .slice sav votes.length scv, .slice san news.length scn, .int .i64 shown] 41 (0, 0))) := (hb.block _ (Array.getElem?_eq_some_iff.1 HK5.out).1).trans HK5.out
  clear hb HB5 HK5
  go_wp2
  go_ret
  exact ⟨rfl, HB6.out⟩

end Go.Proofs.Ytdopefimjabigat
