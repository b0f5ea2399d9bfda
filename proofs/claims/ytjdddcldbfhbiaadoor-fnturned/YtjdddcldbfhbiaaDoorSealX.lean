/-
  The four bytes of a text's sum as a text, and whether a text ends with the seal of its beginning.
-/
import Derived.Test.YtjdddcldbfhbiaaDoorSumX
import Derived.Test.YtjdddcldbfhbiaaDoorOwn
import Derived.BigQuiet
namespace Go.Proofs.YtjdddcldbfhbiaaDoor
open Go.RowKit Num

/-- four bytes in new memory, as a text -/
theorem four_str (W : World) (a b c d : Int) (t : TypeId) : (convert 22 9 (.slice (some ⟨W.heap.size, 0, none⟩) 4 4)).run Tryd.prog (W.alloc (.cells #[.int .u8 a, .int .u8 b, .int .u8 c, .int .u8 d] t)) = .ok (.string (strOfNums [a, b, c, d])) (W.alloc (.cells #[.int .u8 a, .int .u8 b, .int .u8 c, .int .u8 d] t)) := by
  refine run_convert_bytes_arg _ 22 5 Tryd.underlying22 Tryd.underlying5 W.heap.size 0 4 4 [a, b, c, d] rfl ?_ 9 Tryd.underlying9
  intro i hi
  rw [cell_of_row _ W.heap.size _ _ _ (0, 0) (heap_alloc_new W _)]
  match i, hi with
  | 0, _ => rfl
  | 1, _ => rfl
  | 2, _ => rfl
  | 3, _ => rfl

theorem four_str_drew (W : World) (a b c d : Int) (t : TypeId) (m : Nat) : (convert 22 9 (.slice (some ⟨W.heap.size, 0, none⟩) 4 4)).run Tryd.prog ((W.alloc (.cells #[.int .u8 a, .int .u8 b, .int .u8 c, .int .u8 d] t)).drewN m) = .ok (.string (strOfNums [a, b, c, d])) ((W.alloc (.cells #[.int .u8 a, .int .u8 b, .int .u8 c, .int .u8 d] t)).drewN m) := by
  refine run_convert_bytes_arg _ 22 5 Tryd.underlying22 Tryd.underlying5 W.heap.size 0 4 4 [a, b, c, d] rfl ?_ 9 Tryd.underlying9
  intro i hi
  show (W.alloc (.cells #[.int .u8 a, .int .u8 b, .int .u8 c, .int .u8 d] t)).cell? _ = _
  rw [cell_of_row _ W.heap.size _ _ _ (0, 0) (heap_alloc_new W _)]
  match i, hi with
  | 0, _ => rfl
  | 1, _ => rfl
  | 2, _ => rfl
  | 3, _ => rfl

/-- a text's sum -/
def sumT (s : ByteArray) : Nat := sums 4294967295 (bs s)
theorem sumT_lt (s : ByteArray) : sumT s < 4294967296 := sums_lt _ _ (by decide) (bs_ok s)

theorem below_tr {a b c : World} (h1 : Below a.heap.size a b) (h2 : Below b.heap.size b c) : Below a.heap.size a c := h1.trans (h2.mono h1.size)

/-- whether a text ends with the seal of its beginning -/
def sealRight (s : ByteArray) (n : Nat) : Prop := s.extract n s.size = strOfNums (seal4 (sumT (s.extract 0 n)))
theorem seal_eq {s : ByteArray} {n : Nat} (h : sealRight s n) : ((s.extract n s.size).toList == (strOfNums (seal4 (sumT (s.extract 0 n)))).toList) = true := by
  rw [h]; simp
theorem seal_ne {s : ByteArray} {n : Nat} (h : ¬ sealRight s n) : ((s.extract n s.size).toList == (strOfNums (seal4 (sumT (s.extract 0 n)))).toList) = false := by
  rw [beq_eq_false_iff_ne]
  intro e
  apply h
  apply ByteArray.ext; apply Array.ext'
  rw [← ByteArray.toList_eq, ← ByteArray.toList_eq]; exact e

end Go.Proofs.YtjdddcldbfhbiaaDoor
