/-
  The contracts of the program's FirstBlock, SameBlock, BlockAt, BlockOk, TreeOk.
-/
import Derived.Test.YtjieklilojmifatCarryI
import Derived.Test.YtjieklilojmifatTreeS
namespace Go.Proofs.Ytjieklilojmifat
open Go.RowKit Num

theorem sks_bks {L : SL} {ps : TL} (h : L.map (fun x => x.2) = ps) : sks L = bks ps := by subst h; simp [sks, bks]
theorem sl_len {L : SL} {ps : TL} (h : L.map (fun x => x.2) = ps) : L.length = ps.length := by subst h; simp
theorem sl_at {L : SL} {ps : TL} (h : L.map (fun x => x.2) = ps) {k : Nat} (hk : k < ps.length) : (L[k]'(by rw [sl_len h]; exact hk)).2 = ps[k] := by subst h; simp
theorem sl_ok {L : SL} {ps : TL} (h : L.map (fun x => x.2) = ps) (hk : okT (bks ps)) : ∀ x ∈ L, okB x.2.1 := fun x hx => by
  subst h
  exact hk.2 _ (List.mem_map.2 ⟨x.2, List.mem_map.2 ⟨x, hx, rfl⟩, rfl⟩)

set_option maxRecDepth 100000 in
theorem first_i (w : World) : Calls Try.prog 91 #[] w fun e w' => e = .returned (blkV firstB (.slice none 0 0)) ∧ Below w.heap.size w w' := by
  go_enter Try.func91, Try.ntmps91
  go_wp2
  refine bodyPost_ret (v := blkV firstB (.slice none 0 0)) (by simp [results, Try.results91, go_sem, blkV, firstB]) rfl ⟨rfl, ?_⟩
  exact ba (Below.refl _ _) _
theorem firstBlock_i (w : World) : Calls Try.prog 91 #[] w fun e w' => ∃ cv', e = .returned (blkV firstB cv') ∧ w'.ownsRow w.heap.size 134 3 cv' firstB.2.1.length (flatR cmdF firstB.2.1) ∧ Below w.heap.size w w' :=
  (first_i w).mono fun _ _ ⟨he, hb⟩ => ⟨_, he, World.ownsRow_nil _ _ _ _, hb⟩

set_option maxRecDepth 100000 in
set_option maxHeartbeats 1000000 in
theorem treeNew_i (w : World) : Calls Try.prog 63 #[] w fun e w' => ∃ v' qs, e = .returned v' ∧ bks qs = [firstB] ∧ OwnT w' w.heap.size v' qs ∧ Below w.heap.size w w' := by
  go_enter Try.func63, Try.ntmps63
  go_wp2_with fail
  refine (first_i w).mono ?_
  rintro e w1 ⟨rfl, hb⟩
  have HB : Hid (Below w.heap.size w w1) := hb
  clear hb
  unfold blkV
  go_wp2
  go_ret
  exact ⟨_, [(firstB, .slice none 0 0)], rfl, rfl, ownT_one HB.out.size (World.ownsRow_nil _ _ _ _), ba HB.out _⟩





end Go.Proofs.Ytjieklilojmifat
