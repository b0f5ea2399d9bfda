/-
  A struct stored into a part of a block, in a region that draws.
-/
import Derived.Test.YtcfgfhodbjakoavGreatDoorRegH
import Derived.Test.YtcfgfhodbjakoavGreatDoorJ0
namespace Go.Proofs.YtcfgfhodbjakoavGreatDoor
open Go.RowKit Num
section
variable {P : Program} {ops : Array Oper} {Q : Exit → Act → World → Prop} {md : Region.Mode} {C : World → Prop} {pend : Nat → Bool}
theorem p_part {s : Nat} {os : Oper} {f : Nat} {L : Array Bool} {a : Act} {w : World} {ty t : TypeId} {x y : Operand} {N o : Nat} {cells old new : Array Value} (ho : ops[s]? = some os) (hgd : os.guard = none) (hop : os.op = .store ty x y) (hd : os.dst = none) (hr : Region.ready md ops L = [s])
    (hx : a.eval x = .pointer (some ⟨N, o, none⟩)) (hy : a.eval y = .agg cells) (hg : w.heap[N]? = some (.cells old t (0, 0))) (hi : (P.info? ty).map (·.size) = some cells.size) (hold : o + cells.size ≤ old.size) (h1 : cells.all (·.oneCell') = true) (hn : partA old o cells = new)
    (h : ∀ w', w.grownBy w' (some N) → w'.heap[N]? = some (.cells new t (0, 0)) → (pend s = true → C w') ∧ wpAnyP P md ops Q C pend f (L.setIfInBounds s true) a w') : wpAnyP P md ops Q C pend (f + 1) L a w := by
  subst hn
  obtain ⟨g1, g2, _⟩ := setRow_grown (cells := partA old o cells) hg
  refine ⟨fun h0 => (by rw [hr] at h0; cases h0), fun j hj => ?_⟩
  rw [hr] at hj
  obtain rfl : j = s := by simpa using hj
  unfold wpOp
  simp only [ho]
  rw [if_pos (by simp [Region.wanted, hgd])]
  refine Or.inl ?_
  unfold Oper.wp execOp
  simp only [hop, hx, hy, Instr.storeAt, Instr.sureAddr, Sem.run_bind, Sem.run_pure, Result.andThen_ok, run_storeVar_part w N o t ty old cells hg hi hold h1]
  unfold Oper.upon
  simp only [hd]
  exact h _ g1 g2
end
end Go.Proofs.YtcfgfhodbjakoavGreatDoor
