/-
  Blocks that came in, as the walks want them.
-/
import Derived.Test.YtcfgfhodbjakoavBlkL
import Derived.Test.YtcfgfhodbjakoavCmdOpen
import Derived.Test.YtcfgfhodbjakoavJ0
namespace Go.Proofs.Ytcfgfhodbjakoav
open Go.ChangeShapes Go.WideShapes Go.ChangeAt Go.RowKit

def wfB (b : BK) : Prop := (Lit.int .i64 b.1.1).wf = true ∧ (Lit.int .i64 b.1.2).wf = true ∧ wfQ b.2.2 ∧ ∀ c ∈ b.2.1, goodCmd c
/-- a block as it can be read -/
def goodBlk (W : World) (p : BK × Value) : Prop := RowsR W p.2 3 cmdF p.1.2.1 ∧ goodBk p.1 ∧ wfB p.1

set_option maxRecDepth 100000 in
theorem qc_rd {H : Type} {enc : TypeId × Value → H} {W : World} : ∀ n cs x, DataW.trod enc Try.prog W 0 (fun _ => true) true n 70 cs = some x → ∃ q : QC, cs = [.int .i64 q.1, .int .i64 q.2.1, .int .i64 q.2.2.1, .int .i64 q.2.2.2] ∧ wfQ q := by
  intro n cs x h
  obtain ⟨y0, y1, y2, y3, k, _, hl, h0, h1, h2, h3⟩ := Go.Joins.trod_struct4 Try.underlying70 h
  have hl4 : cs.length = 4 := hl.trans (by kernel_rfl)
  obtain ⟨a, b, c, d, rfl⟩ : ∃ a b c d, cs = [a, b, c, d] := by
    match cs, hl4 with
    | [a, b, c, d], _ => exact ⟨a, b, c, d, rfl⟩
  have c0 : Try.prog.cellsOf 3 = 1 := by kernel_rfl
  simp only [c0] at h0 h1 h2 h3
  obtain ⟨z0, e0, _, w0⟩ := DataW.trod_int Try.underlying3 h0
  obtain ⟨z1, e1, _, w1⟩ := DataW.trod_int Try.underlying3 h1
  obtain ⟨z2, e2, _, w2⟩ := DataW.trod_int Try.underlying3 h2
  obtain ⟨z3, e3, _, w3⟩ := DataW.trod_int Try.underlying3 h3
  simp at e0 e1 e2 e3
  exact ⟨(z0, z1, z2, z3), by rw [e0, e1, e2, e3], w0, w1, w2, w3⟩

set_option maxRecDepth 100000 in
theorem blk_rd {H : Type} {enc : TypeId × Value → H} {W : World} : ∀ n cs x, DataW.trod enc Try.prog W 0 (fun _ => true) true n 72 cs = some x → ∃ y : BK × Value, cs = blkF y ∧ goodBlk W y := by
  intro n cs x h
  obtain ⟨y0, y1, y2, y3, k, _, hl, h0, h1, h2, h3⟩ := Go.Joins.trod_struct4 Try.underlying72 h
  have hl7 : cs.length = 7 := hl.trans (by kernel_rfl)
  obtain ⟨a, b, c, d, e, f, g, rfl⟩ : ∃ a b c d e f g, cs = [a, b, c, d, e, f, g] := by
    match cs, hl7 with
    | [a, b, c, d, e, f, g], _ => exact ⟨a, b, c, d, e, f, g, rfl⟩
  have c0 : Try.prog.cellsOf 3 = 1 := by kernel_rfl
  have c1 : Try.prog.cellsOf 26 = 1 := by kernel_rfl
  have c2 : Try.prog.cellsOf 70 = 4 := by kernel_rfl
  simp only [c0, c1, c2] at h0 h1 h2 h3
  obtain ⟨z0, e0, _, w0⟩ := DataW.trod_int Try.underlying3 h0
  obtain ⟨z1, e1, _, w1⟩ := DataW.trod_int Try.underlying3 h1
  obtain ⟨q, e3, w3⟩ := qc_rd _ _ _ h3
  have hs : ∃ a' len cap, c = .slice a' len cap := by
    rcases Deep.open_slice Try.underlying26 h2 with ⟨hcs, _⟩ | ⟨x, l, cp, mm, n, D, Pl, hcs, _⟩
    · simp at hcs; exact ⟨_, _, _, hcs⟩
    · simp at hcs; exact ⟨_, _, _, hcs⟩
  obtain ⟨a', len, cap, rfl⟩ := hs
  obtain ⟨l, _, hrow, hlen, hgood⟩ := cmds_open (a := a') (len := len) (cap := cap) ⟨k, h2⟩
  simp at e0 e1 e3
  obtain ⟨rfl, rfl, rfl, rfl⟩ := e3
  subst e0 e1
  exact ⟨(((z0, z1), (l, q)), .slice a' len cap), rfl, hrow, ⟨hlen, fun c hc => (hgood c hc).2.1⟩, w0, w1, w3, hgood⟩

set_option maxRecDepth 100000 in
theorem block_open {H : Type} {enc : TypeId × Value → H} {W : World} {base : Nat} {v : Value} {d : DataW H} {p : List MemPlace} (hv : Value.okWide Try.prog W .any base 72 v) (h : DataW.Trod enc Try.prog W 0 (fun _ => true) true 72 v d p) :
    ∃ (b : BK) (cv : Value), v = blkV b cv ∧ goodBlk W (b, cv) := by
  obtain ⟨cs, rfl, _⟩ := okWide_struct Try.underlying72 hv
  obtain ⟨n, hn⟩ := h
  obtain ⟨y, hy, hg⟩ := blk_rd _ _ _ hn
  refine ⟨y.1, y.2, ?_, hg⟩
  have : cs.toList = blkF y := hy
  unfold blkV
  rw [← Array.toArray_toList (xs := cs), this]
  rfl

set_option maxRecDepth 100000 in
theorem blocks_open {H : Type} {enc : TypeId × Value → H} {W : World} {a : Option Addr} {len cap : Nat} {d : DataW H} {p : List MemPlace} (h : DataW.Trod enc Try.prog W 0 (fun _ => true) true 22 (.slice a len cap) d p) :
    ∃ ps : TL, ps.length = len ∧ TreeQ W (.slice a len cap) ps ∧ ps.length ≤ maxLen ∧ ∀ p ∈ ps, goodBk p.1 ∧ wfB p.1 := by
  obtain ⟨ps, h1, h2, h3, h4⟩ := rows_open (good := goodBlk W) (f := blkF) (m := 7) Try.underlying22 (by kernel_rfl) (by decide) blk_rd h
  exact ⟨ps, h1, ⟨h2, fun p hp => (h4 p hp).1⟩, h3, fun p hp => (h4 p hp).2⟩

end Go.Proofs.Ytcfgfhodbjakoav
