/-
  The contracts of the program's functions on keys, numbers and commands.
-/
import Derived.Test.YtfnneillakdopabDoneN
import Derived.Laws.Cover1
import Derived.BigQuiet
namespace Go.Proofs.Ytfnneillakdopab
open Go.RowKit Num


theorem keyB_len {k : ByteArray} (h : ¬ (1 ≤ (k.size : Int) ∧ (k.size : Int) ≤ 3)) : keyB k = false := by
  unfold keyB; rw [inB_no h, Bool.and_false]
theorem keyB_yes {k : ByteArray} (h : keyTo k k.size) (h2 : 1 ≤ (k.size : Int) ∧ (k.size : Int) ≤ 3) : keyB k = true := by
  rw [keyB_all h, inB_yes h2]

theorem ba_none {k : ByteArray} (h : k.size = 0) : k = ByteArray.empty := by
  apply ByteArray.ext
  have : k.data.size = 0 := h
  exact Array.eq_empty_of_size_eq_zero this


end Go.Proofs.Ytfnneillakdopab
