/-
  The contract of the program's PutBlock.
-/
import Derived.Test.YtjieklilojmifauGreatRPutBI
import Derived.Test.YtjieklilojmifauGreatRPutBS
namespace Go.Proofs.YtjieklilojmifauGreatR
open Go.RowKit Num

theorem newsX (W : World) (x : Value) (t : TypeId) : ∀ j u, ([x] : List Value)[j]? = some u → (W.alloc (.cells #[x] t)).cell? ((⟨W.heap.size, 0, none⟩ : Addr).add j) = some u := news1 W x t
theorem sks_snoc (L : SL) (x : (Nat × Nat) × (BK × Value)) : sks (L ++ [x]) = sks L ++ [x.2.1] := by simp [sks]
theorem blockAt_neg {t : List BK} {b : BK} (h : ¬ 0 ≤ blockAt t b) : blockAt t b = -1 := by
  rcases blockAt_cases t b with ⟨h1, _⟩ | ⟨j, _, h1, _⟩
  · exact h1
  · rw [h1] at h; omega


end Go.Proofs.YtjieklilojmifauGreatR
