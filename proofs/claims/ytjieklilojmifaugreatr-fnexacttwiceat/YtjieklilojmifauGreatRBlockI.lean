/-
  The contracts of the program's FirstBlock, SameBlock, BlockAt, BlockOk, TreeOk.
-/
import Derived.Test.YtjieklilojmifauGreatRCarryI
import Derived.Test.YtjieklilojmifauGreatRTreeS
namespace Go.Proofs.YtjieklilojmifauGreatR
open Go.RowKit Num

theorem sks_bks {L : SL} {ps : TL} (h : L.map (fun x => x.2) = ps) : sks L = bks ps := by subst h; simp [sks, bks]
theorem sl_len {L : SL} {ps : TL} (h : L.map (fun x => x.2) = ps) : L.length = ps.length := by subst h; simp
theorem sl_at {L : SL} {ps : TL} (h : L.map (fun x => x.2) = ps) {k : Nat} (hk : k < ps.length) : (L[k]'(by rw [sl_len h]; exact hk)).2 = ps[k] := by subst h; simp
theorem sl_ok {L : SL} {ps : TL} (h : L.map (fun x => x.2) = ps) (hk : okT (bks ps)) : ∀ x ∈ L, okB x.2.1 := fun x hx => by
  subst h
  exact hk.2 _ (List.mem_map.2 ⟨x.2, List.mem_map.2 ⟨x, hx, rfl⟩, rfl⟩)







end Go.Proofs.YtjieklilojmifauGreatR
