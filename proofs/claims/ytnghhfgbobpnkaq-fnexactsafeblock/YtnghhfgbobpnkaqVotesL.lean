/-
  What enough signed, as it came in; a tree that is short.
-/
import Derived.Test.YtnghhfgbobpnkaqVotesV
import Derived.Test.YtnghhfgbobpnkaqBlkOpen
namespace Go.Proofs.Ytnghhfgbobpnkaq
open Go.ChangeShapes Go.WideShapes Go.ChangeAt Go.RowKit Num

theorem bks_fit {q ps : TL} (h : bks q = bks ps) (hl : (ps.length : Int) ≤ 1048576) : (q.length : Int) ≤ 1048576 := by
  have h1 := congrArg List.length h
  rw [bks_len, bks_len] at h1
  omega

set_option maxRecDepth 100000 in
theorem qc_open {H : Type} {enc : TypeId × Value → H} {W : World} {base : Nat} {v : Value} {d : DataW H} {p : List MemPlace} (hv : Value.okWide Try.prog W .any base 45 v) (h : DataW.Trod enc Try.prog W 0 (fun _ => true) true 45 v d p) :
    ∃ q : QC, v = .agg #[.int .i64 q.1, .int .i64 q.2.1, .int .i64 q.2.2.1, .int .i64 q.2.2.2] ∧ wfQ q := by
  obtain ⟨cs, rfl, _⟩ := okWide_struct Try.underlying45 hv
  obtain ⟨n, hn⟩ := h
  obtain ⟨y, hy, hg⟩ := qc_rd _ _ _ hn
  refine ⟨y, ?_, hg⟩
  have : cs.toList = [.int .i64 y.1, .int .i64 y.2.1, .int .i64 y.2.2.1, .int .i64 y.2.2.2] := hy
  rw [← Array.toArray_toList (xs := cs), this]

end Go.Proofs.Ytnghhfgbobpnkaq
