/-
  Regions that draw, an operation at a time, where several may come next: three of them, a call among them; a struct loaded out of a row's middle.
-/
import Derived.Test.YtcfgfhodbjakoavGreatDoorAppTwo
import Derived.Deep.MidRow
namespace Go.Proofs.YtcfgfhodbjakoavGreatDoor
open Go.RowKit Num
section
variable {P : Program} {ops : Array Oper} {Q : Exit → Act → World → Prop} {md : Region.Mode} {C : World → Prop} {pend : Nat → Bool}

theorem p_three {i j k f : Nat} {L : Array Bool} {a : Act} {w : World} (hr : Region.ready md ops L = [i, j, k]) (h1 : StepP P md ops Q C pend f L a w i) (h2 : StepP P md ops Q C pend f L a w j) (h3 : StepP P md ops Q C pend f L a w k) : wpAnyP P md ops Q C pend (f + 1) L a w := by
  refine ⟨fun h0 => (by rw [hr] at h0; cases h0), fun m hm => ?_⟩
  rw [hr] at hm
  rcases List.mem_cons.1 hm with rfl | hm
  · exact h1
  · rcases List.mem_cons.1 hm with rfl | hm
    · exact h2
    · obtain rfl : m = k := by simpa using hm
      exact h3
theorem s_call {s : Nat} {e' : Option Tmp} {oc : Oper} {f : Nat} {L : Array Bool} {a : Act} {w : World} {fn : FuncId} {args : Array Value} (hc : ops[s]? = some oc) (hce : oc.dst = e')
    (hw : Region.wanted oc (yielded ops a.tmps) = true) (hrun : (execOp a.eval oc).run P w = .ok (.enter fn args) w)
    (h : Calls P fn args w fun e w' => ∃ v, e = .returned v ∧ (pend s = true → C w') ∧ wpAnyP P md ops Q C pend f (L.setIfInBounds s true) (a.put e' v) w') : StepP P md ops Q C pend f L a w s := by
  subst hce
  exact wpOp_call hc hw hrun h
theorem exec_load_mid {op : Oper} {a : Act} {w : World} (ty : TypeId) (x : Operand) (ho : op.op = .load ty x) (b o : Nat) (hx : a.eval x = .pointer (some ⟨b, o, none⟩)) (cs : List Value) (d : TypeDesc) (hS : w.rangeAt b o cs)
    (hu : P.underlying ty = some d) (hd : d.isRow = true) (hi : (P.info? ty).map (·.size) = some cs.length) : (execOp a.eval op).run P w = .ok (.value (.agg cs.toArray)) w := by
  unfold execOp
  simp only [ho, hx, Instr.loadAt, Instr.sureAddr, Sem.run_bind, Sem.run_pure, Result.andThen_ok, run_loadVar_mid w b o ty cs d hS hu hd hi]
end

end Go.Proofs.YtcfgfhodbjakoavGreatDoor
