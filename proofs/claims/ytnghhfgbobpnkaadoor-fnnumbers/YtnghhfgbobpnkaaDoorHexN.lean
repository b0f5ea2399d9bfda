/-
  The figures of a row of bytes.
-/
import Derived.Test.YtnghhfgbobpnkaaDoorCanon
import Derived.Test.YtnghhfgbobpnkaaDoorFigN
namespace Go.Proofs.YtnghhfgbobpnkaaDoor.Num

/-- the figures of a row of bytes -/
def figs : List Int → List Int
  | [] => []
  | b :: l => fig (b / 16) :: fig (b % 16) :: figs l

theorem figs_snoc (l : List Int) (b : Int) : figs (l ++ [b]) = figs l ++ [fig (b / 16), fig (b % 16)] := by
  induction l with
  | nil => rfl
  | cons x l ih => simp [figs, ih]

theorem figs_len (l : List Int) : (figs l).length = 2 * l.length := by
  induction l with
  | nil => rfl
  | cons x l ih => simp [figs, ih]; omega

end Go.Proofs.YtnghhfgbobpnkaaDoor.Num
