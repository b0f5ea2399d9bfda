/-
  The contracts of the specification's BlockOk and BlockAt.
-/
import Derived.Test.YtcfgfhodbjakoavBlockS
import Derived.Test.YtcfgfhodbjakoavCmdI
import Derived.Laws.Cover1
namespace Go.Proofs.Ytcfgfhodbjakoav
open Go.RowKit Num

/-- a tree of a size that is met -/
def okT (t : List BK) : Prop := (t.length : Int) ≤ 1048576 ∧ ∀ b ∈ t, (b.2.1.length : Int) ≤ 1048576 ∧ ∀ c ∈ b.2.1, (c.2.1.size : Int) ≤ 1048576
/-- .. a block -/
def okB (b : BK) : Prop := (b.2.1.length : Int) ≤ 1048576 ∧ ∀ c ∈ b.2.1, (c.2.1.size : Int) ≤ 1048576
theorem okT_at {ps : TL} (h : okT (bks ps)) {i : Nat} (hi : i < ps.length) : okB ps[i].1 := h.2 _ (List.mem_map.2 ⟨ps[i], List.getElem_mem hi, rfl⟩)
theorem inB_eq {x lo hi : Int} (h : inB x lo hi = true) : lo ≤ x ∧ x ≤ hi := by unfold inB at h; simpa using h
theorem inB_not {x lo hi : Int} (h : inB x lo hi = false) : ¬ (lo ≤ x ∧ x ≤ hi) := fun e => by rw [inB_yes e] at h; cases h



end Go.Proofs.Ytcfgfhodbjakoav
