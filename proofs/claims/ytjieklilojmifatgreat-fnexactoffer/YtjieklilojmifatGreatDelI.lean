/-
  One letter deleted from a row of the call's own, in place: the contract of slices.Delete over letters.
-/
import Derived.Test.YtjieklilojmifatGreatClusC
import Derived.Test.YtjieklilojmifatGreatRegH
import Derived.Test.YtjieklilojmifatGreatAnsS
namespace Go.Proofs.YtjieklilojmifatGreat
open Go.RowKit Num

/-- what is behind one of them moves to its place; the last place is cleared -/
theorem del_rows {A X B R Z : List Value} (hZ : Z.length = X.length) :
    (((A ++ X ++ B ++ R).take A.length ++ B ++ (A ++ X ++ B ++ R).drop (A.length + B.length)).take (A.length + B.length) ++ Z ++ ((A ++ X ++ B ++ R).take A.length ++ B ++ (A ++ X ++ B ++ R).drop (A.length + B.length)).drop (A.length + B.length + Z.length)).take (A.length + B.length) = A ++ B ∧
    (((A ++ X ++ B ++ R).take A.length ++ B ++ (A ++ X ++ B ++ R).drop (A.length + B.length)).take (A.length + B.length) ++ Z ++ ((A ++ X ++ B ++ R).take A.length ++ B ++ (A ++ X ++ B ++ R).drop (A.length + B.length)).drop (A.length + B.length + Z.length)).length = (A ++ X ++ B ++ R).length ∧
    ((A ++ X ++ B ++ R).take A.length ++ B ++ (A ++ X ++ B ++ R).drop (A.length + B.length)).length = (A ++ X ++ B ++ R).length := by
  have e1 : (A ++ X ++ B ++ R).take A.length = A := by simp
  rw [e1]
  have e2 : (A ++ B ++ (A ++ X ++ B ++ R).drop (A.length + B.length)).take (A.length + B.length) = A ++ B := by rw [← List.length_append, List.take_left]
  rw [e2]
  refine ⟨by rw [List.append_assoc, ← List.length_append, List.take_left], ?_, ?_⟩
  · simp only [List.length_append, List.length_drop]; omega
  · simp only [List.length_append, List.length_drop]; omega

theorem zero_one (A : Array Value) : (Builtin.zeroCells A 1).toList = A.toList := by
  simp only [Builtin.zeroCells]
  apply List.ext_getElem
  · simp
  · intro i h1 h2
    have h3 : i < A.size := by simpa using h2
    simp [Nat.mod_eq_of_lt h3, h3]

end Go.Proofs.YtjieklilojmifatGreat
