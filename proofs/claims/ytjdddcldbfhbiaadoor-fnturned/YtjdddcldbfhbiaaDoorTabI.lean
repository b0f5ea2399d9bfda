/-
  The program's own table of sums: out of the row's condition its sixteen cells.
-/
import Derived.Test.YtjdddcldbfhbiaaDoorSumI
import Derived.Lib.LaidTab
import Derived.ChangeBears2
namespace Go.Proofs.YtjdddcldbfhbiaaDoor
open Go.RowKit Num

def tabZ : List Int := [0, 1166650509, 2333301018, 3466261911, 3189058079, 4221339282, 889615109, 1888477064, 3558460437, 2442158232, 1594529039, 444807554, 1779230218, 797264519, 3776954128, 2761298845]
theorem tabZ_at : ∀ r : Nat, r < 16 → tabZ[r]? = some (tabAt r : Int) := by decide

theorem gTab : Tryd.prog.globalNamed "loop.example/g00330/impl.halfByteSums" = some 0 := by kernel_rfl
theorem gTabType : (Tryd.prog.globals[0]?).map (·.type) = some 60 := by kernel_rfl
theorem cellsTab : Tryd.prog.cellsOf 60 = 16 := by kernel_rfl
theorem cellsU32 : Tryd.prog.cellsOf 38 = 1 := by kernel_rfl

theorem tabs_of {W : World} (h : Lib.TabIs Tryd.prog W "loop.example/g00330/impl.halfByteSums" .u32 tabZ) : Tabs W := by
  have hc : ∀ r : Nat, r < 16 → W.cell? ⟨0, r, none⟩ = some (.int .u32 (tabAt r : Int)) := fun r hr => by
    rw [World.var?_cell gTab h r]
    simp [tabZ_at r hr]
  exact ⟨World.block_lt_of_cell? W _ (hc 0 (by decide)), hc⟩

end Go.Proofs.YtjdddcldbfhbiaaDoor
