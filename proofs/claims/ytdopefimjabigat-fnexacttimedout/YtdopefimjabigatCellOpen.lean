/-
  A row of accounts that came in, as the walks want it.
-/
import Derived.Test.YtdopefimjabigatJ0
import Derived.ProofKit
import Derived.OpenShut
import Derived.ChangeOld
import Derived.Deep.SlicePairs
namespace Go.Proofs.Ytdopefimjabigat
open Go.ChangeShapes Go.WideShapes Go.ChangeAt Go.RowKit

theorem choose_pair {n : Nat} {V0 V1 : Nat → Value} (h : ∀ i, i < n → ∃ s : ByteArray, ∃ z : Int, V0 i = .string s ∧ V1 i = .int .i64 z ∧ s.size ≤ maxLen ∧ (Lit.int .i64 z).wf = true) :
    ∃ cs : CL, cs.length = n ∧ (∀ i (hi : i < cs.length), V0 i = .string cs[i].1 ∧ V1 i = .int .i64 cs[i].2) ∧ (∀ c ∈ cs, c.1.size ≤ maxLen) ∧ ∀ c ∈ cs, (Lit.int .i64 c.2).wf = true := by
  induction n with
  | zero => exact ⟨[], rfl, fun i hi => (by simp at hi), fun c hc => (by cases hc), fun c hc => (by cases hc)⟩
  | succ n ih =>
    obtain ⟨cs, hl, hv, hs, hw⟩ := ih fun i hi => h i (by omega)
    obtain ⟨s, z, e0, e1, hs1, hw1⟩ := h n (by omega)
    refine ⟨cs ++ [(s, z)], by simp [hl], fun i hi => ?_, fun c hc => ?_, fun c hc => ?_⟩
    · by_cases hin : i < cs.length
      · rw [List.getElem_append_left hin]; exact hv i hin
      · have hi' : i = cs.length := by simp at hi; omega
        subst hi'
        rw [List.getElem_append_right (Nat.le_refl _)]
        simp only [Nat.sub_self, List.getElem_cons_zero]
        rw [hl]
        exact ⟨e0, e1⟩
    · rcases List.mem_append.1 hc with h1 | h1
      · exact hs c h1
      · simp at h1; subst h1; exact hs1
    · rcases List.mem_append.1 hc with h1 | h1
      · exact hw c h1
      · simp at h1; subst h1; exact hw1

theorem cells_open {H : Type} {enc : TypeId × Value → H} {W : World} {a : Option Addr} {len cap : Nat} {d : DataW H} {p : List MemPlace} (h : DataW.Trod enc Try.prog W 0 (fun _ => true) true 27 (.slice a len cap) d p) :
    ∃ cs : CL, cs.length = len ∧ Cells W (.slice a len cap) cs ∧ cs.length ≤ maxLen ∧ (∀ c ∈ cs, c.1.size ≤ maxLen) ∧ ∀ c ∈ cs, (Lit.int .i64 c.2).wf = true := by
  obtain ⟨fuel, hf⟩ := h
  rcases Deep.open_slice_pairs Try.underlying27 Try.underlying81 (by kernel_rfl) rfl rfl (by kernel_rfl) (by kernel_rfl) hf with ⟨hcs, _⟩ | ⟨x, l, c, m, n, V0, V1, D0, D1, P0, P1, hcs, _, hl, hm, hmm, _, hcell⟩
  · simp [Value.cells] at hcs
    obtain ⟨rfl, rfl, rfl⟩ := hcs
    exact ⟨[], rfl, ⟨none, 0, rfl, fun h => (by simp at h)⟩, Nat.zero_le _, fun c hc => (by cases hc), fun c hc => (by cases hc)⟩
  · simp [Value.cells] at hcs
    obtain ⟨rfl, rfl, rfl⟩ := hcs
    have hlm : len ≤ m := by rw [hmm]; simp; omega
    obtain ⟨cs, hcl, hv, hs, hw⟩ := choose_pair (n := len) (V0 := V0) (V1 := V1) fun i hi => by
      obtain ⟨_, _, h0, h1⟩ := hcell i (by omega)
      obtain ⟨s, e0, _, hs⟩ := DataW.trod_string Try.underlying9 h0
      obtain ⟨z, e1, _, hz⟩ := DataW.trod_int Try.underlying3 h1
      exact ⟨s, z, by simpa using e0, by simpa using e1, hs, hz⟩
    refine ⟨cs, hcl, ⟨some x, cap, by rw [hcl], fun h0 => ?_⟩, by omega, hs, hw⟩
    obtain ⟨b, off, spot⟩ := x
    have c0 := (hcell 0 (by omega)).1
    have hspot : spot = none := by simpa [Addr.add] using World.cell?_spot c0
    subst hspot
    have hp : ∀ k, (⟨b, off, none⟩ : Addr).add k = ⟨b, off + k, none⟩ := fun k => by unfold Addr.add; split <;> simp_all
    have hlt : b < W.heap.size := by have := World.block_lt_of_cell? W _ c0; rw [hp] at this; exact this
    refine ⟨b, off, rfl, hlt, fun i hi => ?_⟩
    obtain ⟨h0, h1, _, _⟩ := hcell i (by omega)
    obtain ⟨e0, e1⟩ := hv i hi
    rw [hp, e0] at h0
    rw [hp, e1] at h1
    exact ⟨h0, h1⟩

end Go.Proofs.Ytdopefimjabigat
