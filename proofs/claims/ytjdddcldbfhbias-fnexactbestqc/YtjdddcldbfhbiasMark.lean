/-
  Contracts of laws.markText, laws.markStringS, laws.heldStringS and laws.eqStringS: rows of texts that are marked, looked at, and held against each other.
-/
import Derived.Test.YtjdddcldbfhbiasJ0
import Derived.Laws.OwnMore
namespace Go.Proofs.Ytjdddcldbfhbias
open Go.RowKit Num

/-- a mark -/
def mk (k : Nat) : ByteArray := strOfNums (109 :: dd k k)

theorem m_app (ys : List Int) : (⟨#[109]⟩ : ByteArray) ++ strOfNums ys = strOfNums (109 :: ys) := by
  apply ByteArray.ext; simp [strOfNums, ByteArray.data_append]
theorem ret_ba {a b : ByteArray} (h : a = b) : Ending.returned (.string a) = .returned (.string b) := by rw [h]

end Go.Proofs.Ytjdddcldbfhbias
