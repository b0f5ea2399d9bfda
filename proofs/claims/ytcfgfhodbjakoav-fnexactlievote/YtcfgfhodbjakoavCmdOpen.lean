/-
  Commands that came in, as the walks want them.
-/
import Derived.Test.YtcfgfhodbjakoavCmdF
import Derived.Test.YtcfgfhodbjakoavJ0
import Derived.Lib.SmallJoins
namespace Go.Proofs.Ytcfgfhodbjakoav
open Go.ChangeShapes Go.WideShapes Go.ChangeAt Go.RowKit

/-- a command as it can be read -/
def goodCmd (c : CM) : Prop := (Lit.int .i64 c.1).wf = true ∧ c.2.1.size ≤ maxLen ∧ (Lit.int .i64 c.2.2).wf = true

set_option maxRecDepth 100000 in
theorem cmd_rd {H : Type} {enc : TypeId × Value → H} {W : World} : ∀ n cs x, DataW.trod enc Try.prog W 0 (fun _ => true) true n 82 cs = some x → ∃ y, cs = cmdF y ∧ goodCmd y := by
  intro n cs x h
  obtain ⟨y0, y1, y2, k, _, hl, h0, h1, h2⟩ := Deep.trod_struct3 Try.underlying82 h
  have hl3 : cs.length = 3 := hl.trans (by kernel_rfl)
  obtain ⟨a, b, c, rfl⟩ : ∃ a b c, cs = [a, b, c] := by
    match cs, hl3 with
    | [a, b, c], _ => exact ⟨a, b, c, rfl⟩
  have c0 : Try.prog.cellsOf 3 = 1 := by kernel_rfl
  have c1 : Try.prog.cellsOf 9 = 1 := by kernel_rfl
  simp only [c0, c1] at h0 h1 h2
  obtain ⟨z0, e0, _, w0⟩ := DataW.trod_int Try.underlying3 h0
  obtain ⟨z1, e1, _, w1⟩ := DataW.trod_string Try.underlying9 h1
  obtain ⟨z2, e2, _, w2⟩ := DataW.trod_int Try.underlying3 h2
  simp at e0 e1 e2
  exact ⟨(z0, z1, z2), by rw [e0, e1, e2]; rfl, w0, w1, w2⟩

set_option maxRecDepth 100000 in
theorem cmd_open {H : Type} {enc : TypeId × Value → H} {W : World} {base : Nat} {v : Value} {d : DataW H} {p : List MemPlace} (hv : Value.okWide Try.prog W .any base 82 v) (h : DataW.Trod enc Try.prog W 0 (fun _ => true) true 82 v d p) :
    ∃ c : CM, v = cmdV c ∧ (Lit.int .i64 c.1).wf = true ∧ c.2.1.size ≤ maxLen ∧ (Lit.int .i64 c.2.2).wf = true := by
  obtain ⟨cs, rfl, _⟩ := okWide_struct Try.underlying82 hv
  obtain ⟨n, hn⟩ := h
  obtain ⟨y, hy, hg⟩ := cmd_rd _ _ _ hn
  refine ⟨y, ?_, hg⟩
  have : cs.toList = cmdF y := hy
  unfold cmdV
  rw [← Array.toArray_toList (xs := cs), this]
  rfl

set_option maxRecDepth 100000 in
theorem cmds_open {H : Type} {enc : TypeId × Value → H} {W : World} {a : Option Addr} {len cap : Nat} {d : DataW H} {p : List MemPlace} (h : DataW.Trod enc Try.prog W 0 (fun _ => true) true 26 (.slice a len cap) d p) :
    ∃ cs : List CM, cs.length = len ∧ RowsR W (.slice a len cap) 3 cmdF cs ∧ cs.length ≤ maxLen ∧ ∀ c ∈ cs, goodCmd c :=
  rows_open Try.underlying26 (by kernel_rfl) (by decide) cmd_rd h

end Go.Proofs.Ytcfgfhodbjakoav
