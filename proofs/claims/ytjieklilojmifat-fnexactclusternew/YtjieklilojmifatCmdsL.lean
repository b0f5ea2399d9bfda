/-
  The contracts of the laws' own helpers over rows of commands.
-/
import Derived.Test.YtjieklilojmifatCmdL
import Derived.Test.YtjieklilojmifatJ2
import Derived.Test.YtjieklilojmifatJ1
import Derived.BigQuiet
namespace Go.Proofs.Ytjieklilojmifat
open Go.RowKit Num

/-- what is left when the commands' sizes are taken off -/
def szq : List CM → Int → Int
  | [], left => left
  | c :: l, left => if left - c.2.1.size < 0 then -1 else szq l (left - c.2.1.size)
def szCmdsC (l : List CM) (left : Int) : Int := if left - l.length < 0 then -1 else szq l (left - l.length)
theorem szq_bd (l : List CM) : ∀ left : Int, left ≤ 1048576 → 0 ≤ szq l left → ∀ c ∈ l, (c.2.1.size : Int) ≤ 1048576 := by
  induction l with
  | nil => intro left _ _ c h; cases h
  | cons c l ih =>
    intro left hl h x hx
    unfold szq at h
    split at h
    · omega
    · rcases List.mem_cons.1 hx with rfl | hx
      · omega
      · exact ih _ (by omega) h x hx
theorem szCmds_bd {l : List CM} {left : Int} (hl : left ≤ 1048576) (h : 0 ≤ szCmdsC l left) : (l.length : Int) ≤ 1048576 ∧ ∀ c ∈ l, (c.2.1.size : Int) ≤ 1048576 := by
  unfold szCmdsC at h
  split at h
  · omega
  · exact ⟨by omega, szq_bd l _ (by omega) h⟩
theorem szq_drop (l : List CM) (k : Nat) (h : k < l.length) (left : Int) : szq (l.drop k) left = if left - (l[k].2.1.size : Int) < 0 then -1 else szq (l.drop (k + 1)) (left - l[k].2.1.size) := by
  rw [List.drop_eq_getElem_cons h]; rfl


theorem infoCmd : (Try.prog.info? 134).map (fun i => (i.zero, i.size, i.bytes)) = some (some (.agg #[.int .i64 0, .string ByteArray.empty, .int .i64 0]), 3, 32) := by kernel_rfl

theorem upTo_three {l : List CM} {ys : List Value} {k : Nat} (h : upToR cmdF 3 l ys k) (hk : k < l.length) : upToR cmdF 3 l (((ys.set (k * 3) (.int .i64 l[k].1)).set (k * 3 + 1) (.string l[k].2.1)).set (k * 3 + 2) (.int .i64 l[k].2.2)) (k + 1) := by
  have hl := h.1
  refine upToR_step cmdF_len h hk (by simp) (fun j hj => ?_) (fun j hj => ?_)
  · rw [List.getElem?_set_ne (by omega), List.getElem?_set_ne (by omega), List.getElem?_set_ne (by omega)]
  · have : j = 0 ∨ j = 1 ∨ j = 2 := by omega
    rcases this with rfl | rfl | rfl
    · rw [List.getElem?_set_ne (by omega), List.getElem?_set_ne (by omega), Nat.add_zero, List.getElem?_set_self (by omega)]; rfl
    · rw [List.getElem?_set_ne (by omega), List.getElem?_set_self (by simp; omega)]; rfl
    · rw [List.getElem?_set_self (by simp; omega)]; rfl


end Go.Proofs.Ytjieklilojmifat
