/-
  A row of bytes that came in, as the drawing functions want it.
-/
import Derived.Test.YtfnneillakdopabDraw
import Derived.ProofKit
import Derived.OpenShut
import Derived.ChangeOld
namespace Go.Proofs.Ytfnneillakdopab
open Go.ChangeShapes Go.WideShapes Go.ChangeAt Go.RowKit

/-- a row of bytes that came in, as the drawing functions want it -/
theorem code_of {W : World} {a : Option Addr} {len cap : Nat} {zs : List Int} (hle : len ≤ 1048576) (hz : len ≤ zs.length) (ha : a = none → len = 0) (hcell : ∀ x, a = some x → ∀ i, i < zs.length → W.cell? (x.add i) = some (.int .u8 (zs.getD i 0))) (hwz : ∀ n ∈ zs, (Lit.int .u8 n).wf = true) (_hc : len ≤ cap) :
    ∃ b off, Code W a len b off := by
  by_cases h0 : len = 0
  · subst h0
    exact ⟨0, 0, ⟨by omega, fun h => absurd h (by omega), fun k hk => absurd hk (by omega), fun h => absurd h (by omega)⟩⟩
  · cases a with
    | none => exact absurd (ha rfl) h0
    | some x =>
      obtain ⟨b, off, spot⟩ := x
      have h1 := hcell _ rfl
      have hspot : spot = none := by simpa [Addr.add] using World.cell?_spot (h1 0 (by omega))
      subst hspot
      have h2 : ∀ k, k < len → W.cell? ⟨b, off + k, none⟩ = some (.int .u8 (zs.getD k 0)) := fun k hk => by
        have hp : (⟨b, off, none⟩ : Addr).add k = ⟨b, off + k, none⟩ := by unfold Addr.add; split <;> simp_all
        rw [← hp]; exact h1 k (by omega)
      refine ⟨b, off, ⟨hle, fun _ => rfl, fun k hk => ⟨zs.getD k 0, ?_, ?_, h2 k hk⟩, fun _ => World.block_lt_of_cell? W _ (h2 0 (by omega))⟩⟩
      all_goals
        have hk' : k < zs.length := by omega
        have hm : zs.getD k 0 ∈ zs := by
          have e : zs.getD k 0 = zs[k] := by simp [List.getD, List.getElem?_eq_getElem hk']
          rw [e]; exact List.getElem_mem hk'
        have := bounds_u8 (hwz _ hm)
        omega

/-- the same, out of what the row says of its argument -/
theorem code_open {H : Type} {enc : TypeId × Value → H} {W : World} {a : Option Addr} {len cap : Nat} {d : DataW H} {p : List MemPlace} (hlen : ¬ (1048576 : Int) < len) (h : DataW.Trod enc Try.prog W 0 (fun _ => true) true 22 (.slice a len cap) d p) : ∃ b off, Code W a len b off := by
  obtain ⟨fuel, hf⟩ := h
  rcases open_ints Try.underlying22 Try.underlying5 (by kernel_rfl) hf with ⟨hcs, _⟩ | ⟨x, l, c, zs, hcs, _, hl, hm, hz, _, hcell, hwz⟩
  · simp [Value.cells] at hcs
    obtain ⟨rfl, rfl, rfl⟩ := hcs
    exact code_of (zs := []) (cap := 0) (by omega) (Nat.zero_le _) (fun _ => rfl) (fun x h => by cases h) (fun n h => by cases h) (Nat.le_refl _)
  · simp [Value.cells] at hcs
    obtain ⟨rfl, rfl, rfl⟩ := hcs
    exact code_of (zs := zs) (by omega) (by have : zs.length = cap := (by simpa using hz); omega) (fun h => by cases h) (fun y h i hi => by cases h; exact hcell i hi) hwz hl
end Go.Proofs.Ytfnneillakdopab
