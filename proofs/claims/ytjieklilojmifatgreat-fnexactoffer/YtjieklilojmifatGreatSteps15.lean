/-
  Letters posted, one lost, one doubled: the contracts of the program's steps, and of its Post, LoseAt, TwiceAt. (Made by gst15.py.)
-/
import Derived.Test.YtjieklilojmifatGreatPutII
import Derived.Test.YtjieklilojmifatGreatVotedS
import Derived.Test.YtjieklilojmifatGreatFloatP
namespace Go.Proofs.YtjieklilojmifatGreat
open Go.RowKit Num

section
variable {P : Program} {ops : Array Oper} {Q : Exit → Act → World → Prop} {md : Region.Mode} {C : World → Prop} {pend : Nat → Bool}
/-- an operation that makes memory, guarded and wanted -/
theorem p_runW {s : Nat} {os : Oper} {e' : Option Tmp} {f : Nat} {L : Array Bool} {a : Act} {w : World} (ho : ops[s]? = some os) (he : os.dst = e') (hw : Region.wanted os (yielded ops a.tmps) = true) (hr : Region.ready md ops L = [s])
    (v : Value) (w' : World) (hrun : (execOp a.eval os).run P w = .ok (.value v) w') (h : (pend s = true → C w') ∧ wpAnyP P md ops Q C pend f (L.setIfInBounds s true) (a.put e' v) w') : wpAnyP P md ops Q C pend (f + 1) L a w := by
  subst he
  refine ⟨fun h0 => (by rw [hr] at h0; cases h0), fun j hj => ?_⟩
  rw [hr] at hj
  obtain rfl : j = s := by simpa using hj
  unfold wpOp
  simp only [ho]
  rw [if_pos hw]
  refine Or.inl ?_
  unfold Oper.wp
  rw [hrun]
  exact h
end


end Go.Proofs.YtjieklilojmifatGreat
