/-
  A replica: its plain value, its twenty-one cells, its lists in memory; one that came in.
-/
import Derived.Test.YtdopefimjabigatLetsL
import Derived.Test.YtdopefimjabigatVotesV
import Derived.Test.YtdopefimjabigatIntOpen
import Derived.Test.YtdopefimjabigatCellOpen
import Derived.Test.YtdopefimjabigatUndoOpen
namespace Go.Proofs.Ytdopefimjabigat
open Go.ChangeShapes Go.WideShapes Go.ChangeAt Go.RowKit Num

structure PE where
  id : Int
  view : Int
  high : QC
  lock : QC
  last : VT
  row : List Int
  cells : CL
  early : List Int
  undos : List UN
  votes : List VT
  news : List LT
  shown : Int
/-- the slices of its six lists -/
structure PV where
  row : Value
  cells : Value
  early : Value
  undos : Value
  votes : Value
  news : Value
def peerA (p : PE) (s : PV) : Array Value := #[.int .i64 p.id, .int .i64 p.view, .int .i64 p.high.1, .int .i64 p.high.2.1, .int .i64 p.high.2.2.1, .int .i64 p.high.2.2.2, .int .i64 p.lock.1, .int .i64 p.lock.2.1, .int .i64 p.lock.2.2.1, .int .i64 p.lock.2.2.2, .int .i64 p.last.1, .int .i64 p.last.2.1, .int .i64 p.last.2.2.1, .int .i64 p.last.2.2.2, s.row, s.cells, s.early, s.undos, s.votes, s.news, .int .i64 p.shown]
def peerL (p : PE) (s : PV) : List Value := [.int .i64 p.id, .int .i64 p.view, .int .i64 p.high.1, .int .i64 p.high.2.1, .int .i64 p.high.2.2.1, .int .i64 p.high.2.2.2, .int .i64 p.lock.1, .int .i64 p.lock.2.1, .int .i64 p.lock.2.2.1, .int .i64 p.lock.2.2.2, .int .i64 p.last.1, .int .i64 p.last.2.1, .int .i64 p.last.2.2.1, .int .i64 p.last.2.2.2, s.row, s.cells, s.early, s.undos, s.votes, s.news, .int .i64 p.shown]
abbrev peerV (p : PE) (s : PV) : Value := .agg (peerA p s)
/-- its lists can be read -/
structure PeerR (w : World) (p : PE) (s : PV) : Prop where
  row : RowsR w s.row 1 intF p.row
  cells : Cells w s.cells p.cells
  early : RowsR w s.early 1 intF p.early
  undos : RowsR w s.undos 3 undoF p.undos
  votes : RowsR w s.votes 4 voteF p.votes
  news : RowsR w s.news 13 letF p.news
theorem PeerR.below {w w' : World} {p : PE} {s : PV} (h : PeerR w p s) (hb : Below w.heap.size w w') : PeerR w' p s :=
  ⟨h.row.below hb, h.cells.below hb, h.early.below hb, h.undos.below hb, h.votes.below hb, h.news.below hb⟩
/-- its lists are no longer than they can be, and its numbers are numbers of this machine -/
structure goodPe (p : PE) : Prop where
  lrow : p.row.length ≤ maxLen
  lcells : p.cells.length ≤ maxLen
  learly : p.early.length ≤ maxLen
  lundos : p.undos.length ≤ maxLen
  lvotes : p.votes.length ≤ maxLen
  lnews : p.news.length ≤ maxLen
  kcells : ∀ c ∈ p.cells, c.1.size ≤ maxLen
  ncells : ∀ c ∈ p.cells, (Lit.int .i64 c.2).wf = true
  gundos : ∀ c ∈ p.undos, goodUndo c
  grow : ∀ x ∈ p.row, goodInt x
  gearly : ∀ x ∈ p.early, goodInt x
  gvotes : ∀ c ∈ p.votes, wfV c
  gnews : ∀ c ∈ p.news, wfL c
  gid : (Lit.int .i64 p.id).wf = true
  gview : (Lit.int .i64 p.view).wf = true
  gshown : (Lit.int .i64 p.shown).wf = true
  ghigh : wfQ p.high
  glock : wfQ p.lock
  glast : wfQ p.last
/-- its lists are short -/
structure smallPe (p : PE) : Prop where
  row : (p.row.length : Int) ≤ 1048576
  cells : (p.cells.length : Int) ≤ 1048576
  early : (p.early.length : Int) ≤ 1048576
  undos : (p.undos.length : Int) ≤ 1048576
  votes : (p.votes.length : Int) ≤ 1048576
  news : (p.news.length : Int) ≤ 1048576
  kcells : ∀ c ∈ p.cells, (c.1.size : Int) ≤ 1048576
  kundos : ∀ c ∈ p.undos, (c.1.size : Int) ≤ 1048576

theorem trod_struct12 {P : Program} {H : Type} {enc : TypeId × Value → H} {w : World} {base : Nat} {spare : Nat → Bool} {held : Bool} {t : TypeId} {f0 f1 f2 f3 f4 f5 f6 f7 f8 f9 f10 f11 : Field} {fuel : Nat} {cs : List Value} {x : DataW H × List MemPlace} (ht : P.underlying t = some (.struct #[f0, f1, f2, f3, f4, f5, f6, f7, f8, f9, f10, f11])) (h : DataW.trod enc P w base spare held fuel t cs = some x) :
    ∃ y0 y1 y2 y3 y4 y5 y6 y7 y8 y9 y10 y11 n, cs.length = P.cellsOf t ∧ DataW.trod enc P w base spare held n f0.type ((cs.drop f0.offset).take (P.cellsOf f0.type)) = some y0 ∧ DataW.trod enc P w base spare held n f1.type ((cs.drop f1.offset).take (P.cellsOf f1.type)) = some y1 ∧ DataW.trod enc P w base spare held n f2.type ((cs.drop f2.offset).take (P.cellsOf f2.type)) = some y2 ∧ DataW.trod enc P w base spare held n f3.type ((cs.drop f3.offset).take (P.cellsOf f3.type)) = some y3 ∧ DataW.trod enc P w base spare held n f4.type ((cs.drop f4.offset).take (P.cellsOf f4.type)) = some y4 ∧ DataW.trod enc P w base spare held n f5.type ((cs.drop f5.offset).take (P.cellsOf f5.type)) = some y5 ∧ DataW.trod enc P w base spare held n f6.type ((cs.drop f6.offset).take (P.cellsOf f6.type)) = some y6 ∧ DataW.trod enc P w base spare held n f7.type ((cs.drop f7.offset).take (P.cellsOf f7.type)) = some y7 ∧ DataW.trod enc P w base spare held n f8.type ((cs.drop f8.offset).take (P.cellsOf f8.type)) = some y8 ∧ DataW.trod enc P w base spare held n f9.type ((cs.drop f9.offset).take (P.cellsOf f9.type)) = some y9 ∧ DataW.trod enc P w base spare held n f10.type ((cs.drop f10.offset).take (P.cellsOf f10.type)) = some y10 ∧ DataW.trod enc P w base spare held n f11.type ((cs.drop f11.offset).take (P.cellsOf f11.type)) = some y11 := by
  obtain ⟨xs, n, _, rfl, hl, hlen, hf⟩ := DataW.trod_struct ht h
  match xs, hlen with
  | [y0, y1, y2, y3, y4, y5, y6, y7, y8, y9, y10, y11], _ => exact ⟨y0, y1, y2, y3, y4, y5, y6, y7, y8, y9, y10, y11, n, hl, by simpa using hf 0 f0 rfl, by simpa using hf 1 f1 rfl, by simpa using hf 2 f2 rfl, by simpa using hf 3 f3 rfl, by simpa using hf 4 f4 rfl, by simpa using hf 5 f5 rfl, by simpa using hf 6 f6 rfl, by simpa using hf 7 f7 rfl, by simpa using hf 8 f8 rfl, by simpa using hf 9 f9 rfl, by simpa using hf 10 f10 rfl, by simpa using hf 11 f11 rfl⟩

theorem slice_rd {H : Type} {enc : TypeId × Value → H} {W : World} {t e : TypeId} {n : Nat} {c : Value} {x : DataW H × List MemPlace} (ht : Try.prog.underlying t = some (.slice e)) (h : DataW.trod enc Try.prog W 0 (fun _ => true) true n t [c] = some x) : ∃ a len cap, c = .slice a len cap := by
  rcases Deep.open_slice ht h with ⟨hcs, _⟩ | ⟨x, l, cp, mm, n, D, Pl, hcs, _⟩
  · simp at hcs; exact ⟨_, _, _, hcs⟩
  · simp at hcs; exact ⟨_, _, _, hcs⟩

set_option maxRecDepth 100000 in
set_option maxHeartbeats 2000000 in
theorem peer_rd {H : Type} {enc : TypeId × Value → H} {W : World} : ∀ n cs x, DataW.trod enc Try.prog W 0 (fun _ => true) true n 32 cs = some x → ∃ (p : PE) (s : PV), cs = peerL p s ∧ PeerR W p s ∧ goodPe p := by
  intro n cs x h
  obtain ⟨y0, y1, y2, y3, y4, y5, y6, y7, y8, y9, y10, y11, k, hl, h0, h1, h2, h3, h4, h5, h6, h7, h8, h9, h10, h11⟩ := trod_struct12 Try.underlying32 h
  have hlc : cs.length = 21 := hl.trans (by kernel_rfl)
  obtain ⟨a0, a1, a2, a3, a4, a5, a6, a7, a8, a9, a10, a11, a12, a13, a14, a15, a16, a17, a18, a19, a20, rfl⟩ : ∃ a0 a1 a2 a3 a4 a5 a6 a7 a8 a9 a10 a11 a12 a13 a14 a15 a16 a17 a18 a19 a20, cs = [a0, a1, a2, a3, a4, a5, a6, a7, a8, a9, a10, a11, a12, a13, a14, a15, a16, a17, a18, a19, a20] := by
    match cs, hlc with
    | [a0, a1, a2, a3, a4, a5, a6, a7, a8, a9, a10, a11, a12, a13, a14, a15, a16, a17, a18, a19, a20], _ => exact ⟨a0, a1, a2, a3, a4, a5, a6, a7, a8, a9, a10, a11, a12, a13, a14, a15, a16, a17, a18, a19, a20, rfl⟩
  have c0 : Try.prog.cellsOf 3 = 1 := by kernel_rfl
  have c1 : Try.prog.cellsOf 23 = 4 := by kernel_rfl
  have c2 : Try.prog.cellsOf 25 = 4 := by kernel_rfl
  have c3 : Try.prog.cellsOf 26 = 1 := by kernel_rfl
  have c4 : Try.prog.cellsOf 27 = 1 := by kernel_rfl
  have c5 : Try.prog.cellsOf 28 = 1 := by kernel_rfl
  have c6 : Try.prog.cellsOf 29 = 1 := by kernel_rfl
  have c7 : Try.prog.cellsOf 30 = 1 := by kernel_rfl
  simp only [c0, c1, c2, c3, c4, c5, c6, c7] at h0 h1 h2 h3 h4 h5 h6 h7 h8 h9 h10 h11
  obtain ⟨z0, e0, _, w0⟩ := DataW.trod_int Try.underlying3 h0
  obtain ⟨z1, e1, _, w1⟩ := DataW.trod_int Try.underlying3 h1
  obtain ⟨q2, e2, w2⟩ := q4_rd _ _ _ h2
  obtain ⟨q3, e3, w3⟩ := q4_rd _ _ _ h3
  obtain ⟨q4, e4, w4⟩ := v4_rd _ _ _ h4
  obtain ⟨z11, e11, _, w11⟩ := DataW.trod_int Try.underlying3 h11
  obtain ⟨b5, l5, p5, e5⟩ := slice_rd Try.underlying26 h5
  obtain ⟨b6, l6, p6, e6⟩ := slice_rd Try.underlying27 h6
  obtain ⟨b7, l7, p7, e7⟩ := slice_rd Try.underlying26 h7
  obtain ⟨b8, l8, p8, e8⟩ := slice_rd Try.underlying28 h8
  obtain ⟨b9, l9, p9, e9⟩ := slice_rd Try.underlying29 h9
  obtain ⟨b10, l10, p10, e10⟩ := slice_rd Try.underlying30 h10
  simp at e0 e1 e2 e3 e4 e11
  obtain ⟨rfl, rfl, rfl, rfl⟩ := e2
  obtain ⟨rfl, rfl, rfl, rfl⟩ := e3
  obtain ⟨rfl, rfl, rfl, rfl⟩ := e4
  subst e0 e1 e11
  have e5' : a14 = .slice b5 l5 p5 := e5
  have e6' : a15 = .slice b6 l6 p6 := e6
  have e7' : a16 = .slice b7 l7 p7 := e7
  have e8' : a17 = .slice b8 l8 p8 := e8
  have e9' : a18 = .slice b9 l9 p9 := e9
  have e10' : a19 = .slice b10 l10 p10 := e10
  subst e5' e6' e7' e8' e9' e10'
  obtain ⟨x5, _, r5, m5, g5⟩ := ints_open (a := b5) (len := l5) (cap := p5) ⟨k, h5⟩
  obtain ⟨x6, _, r6, m6, g6, n6⟩ := cells_open (a := b6) (len := l6) (cap := p6) ⟨k, h6⟩
  obtain ⟨x7, _, r7, m7, g7⟩ := ints_open (a := b7) (len := l7) (cap := p7) ⟨k, h7⟩
  obtain ⟨x8, _, r8, m8, g8⟩ := undos_open (a := b8) (len := l8) (cap := p8) ⟨k, h8⟩
  obtain ⟨x9, _, r9, m9, g9⟩ := votes_open (a := b9) (len := l9) (cap := p9) ⟨k, h9⟩
  obtain ⟨x10, _, r10, m10, g10⟩ := letters_open (a := b10) (len := l10) (cap := p10) ⟨k, h10⟩
  exact ⟨⟨z0, z1, q2, q3, q4, x5, x6, x7, x8, x9, x10, z11⟩, ⟨.slice b5 l5 p5, .slice b6 l6 p6, .slice b7 l7 p7, .slice b8 l8 p8, .slice b9 l9 p9, .slice b10 l10 p10⟩, rfl, ⟨r5, r6, r7, r8, r9, r10⟩, ⟨m5, m6, m7, m8, m9, m10, g6, n6, g8, g5, g7, g9, g10, w0, w1, w11, w2, w3, w4⟩⟩
set_option maxRecDepth 100000 in
theorem peer_open {H : Type} {enc : TypeId × Value → H} {W : World} {base : Nat} {v : Value} {d : DataW H} {p : List MemPlace} (hv : Value.okWide Try.prog W .any base 32 v) (h : DataW.Trod enc Try.prog W 0 (fun _ => true) true 32 v d p) :
    ∃ (p : PE) (s : PV), v = peerV p s ∧ PeerR W p s ∧ goodPe p := by
  obtain ⟨cs, rfl, _⟩ := okWide_struct Try.underlying32 hv
  obtain ⟨n, hn⟩ := h
  obtain ⟨p, s, hy, hg⟩ := peer_rd _ _ _ hn
  refine ⟨p, s, ?_, hg⟩
  have : cs.toList = peerL p s := hy
  unfold peerV
  rw [← Array.toArray_toList (xs := cs), this]
  rfl

end Go.Proofs.Ytdopefimjabigat
