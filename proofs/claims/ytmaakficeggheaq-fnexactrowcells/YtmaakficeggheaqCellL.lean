/-
  The contracts of the laws' own helpers over rows of accounts.
-/
import Derived.Test.YtmaakficeggheaqJ0
import Derived.BigQuiet
import Derived.Laws.OwnMore
namespace Go.Proofs.Ytmaakficeggheaq
open Go.RowKit Num

theorem szc_drop (cs : CL) (k : Nat) (h : k < cs.length) (left : Int) : szc (cs.drop k) left = if left - (cs[k].1.size : Int) < 0 then -1 else szc (cs.drop (k + 1)) (left - cs[k].1.size) := by
  rw [List.drop_eq_getElem_cons h]; rfl

theorem infoCell : (Try.prog.info? 61).map (fun i => (i.zero, i.size, i.bytes)) = some (some (.agg #[.string ByteArray.empty, .int .i64 0]), 2, 24) := by kernel_rfl

/-- as far as place k the row xs is the accounts cs -/
def upTo (cs : CL) (xs : List Value) (k : Nat) : Prop := xs.length = cs.length * 2 ∧ ∀ j, j < k * 2 → xs[j]? = (flat cs)[j]?
theorem upTo_all {cs : CL} {xs : List Value} (h : upTo cs xs cs.length) : xs = flat cs := by
  apply List.ext_getElem?
  intro j
  by_cases hj : j < cs.length * 2
  · exact h.2 j hj
  · rw [List.getElem?_eq_none (by rw [h.1]; omega), List.getElem?_eq_none (by rw [flat_len]; omega)]
theorem upTo_step {cs : CL} {xs : List Value} {k : Nat} (h : upTo cs xs k) (hk : k < cs.length) : upTo cs ((xs.set (k * 2) (.string cs[k].1)).set (k * 2 + 1) (.int .i64 cs[k].2)) (k + 1) := by
  refine ⟨by simpa using h.1, fun j hj => ?_⟩
  have hf := flat_at cs k hk
  have hl := h.1
  by_cases h1 : j = k * 2 + 1
  · subst h1
    rw [List.getElem?_set_self (by simp; omega), hf.2]
  · rw [List.getElem?_set_ne (by omega)]
    by_cases h0 : j = k * 2
    · subst h0
      rw [List.getElem?_set_self (by omega), hf.1]
    · rw [List.getElem?_set_ne (by omega)]
      exact h.2 j (by omega)

end Go.Proofs.Ytmaakficeggheaq
