/-
  What an account had, in memory: three cells.
-/
import Derived.Test.YtdopefimjabigatUndoN
import Derived.Test.YtdopefimjabigatJ0
namespace Go.Proofs.Ytdopefimjabigat
open Go.RowKit Num

/-- .. as a value -/
def undoV (u : UN) : Value := .agg #[.string u.1, .bool u.2.1, .int .i64 u.2.2]
/-- .. as three cells -/
def undoF (u : UN) : List Value := [.string u.1, .bool u.2.1, .int .i64 u.2.2]
theorem undoF_len (u : UN) : (undoF u).length = 3 := rfl

theorem infoUndo : (Try.prog.info? 87).map (fun i => (i.zero, i.size, i.bytes)) = some (some (.agg #[.string ByteArray.empty, .bool false, .int .i64 0]), 3, 32) := by kernel_rfl

theorem upTo_threeU {l : List UN} {ys : List Value} {k : Nat} (h : upToR undoF 3 l ys k) (hk : k < l.length) : upToR undoF 3 l (((ys.set (k * 3) (.string l[k].1)).set (k * 3 + 1) (.bool l[k].2.1)).set (k * 3 + 2) (.int .i64 l[k].2.2)) (k + 1) := by
  have hl := h.1
  refine upToR_step undoF_len h hk (by simp) (fun j hj => ?_) (fun j hj => ?_)
  · rw [List.getElem?_set_ne (by omega), List.getElem?_set_ne (by omega), List.getElem?_set_ne (by omega)]
  · have : j = 0 ∨ j = 1 ∨ j = 2 := by omega
    rcases this with rfl | rfl | rfl
    · rw [List.getElem?_set_ne (by omega), List.getElem?_set_ne (by omega), Nat.add_zero, List.getElem?_set_self (by omega)]; rfl
    · rw [List.getElem?_set_ne (by omega), List.getElem?_set_self (by simp; omega)]; rfl
    · rw [List.getElem?_set_self (by simp; omega)]; rfl

end Go.Proofs.Ytdopefimjabigat
