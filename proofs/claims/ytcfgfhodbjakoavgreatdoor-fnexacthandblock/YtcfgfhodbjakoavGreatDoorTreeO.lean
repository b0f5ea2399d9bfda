/-
  A tree of the call's own whose blocks lie between two places; a row of commands likewise.
-/
import Derived.Test.YtcfgfhodbjakoavGreatDoorLetsO
import Derived.Test.YtcfgfhodbjakoavGreatDoorJ2
import Derived.Test.YtcfgfhodbjakoavGreatDoorJ1
namespace Go.Proofs.YtcfgfhodbjakoavGreatDoor
open Go.RowKit Num

structure TreeO (w : World) (lo hi : Nat) (v : Value) (qs : TL) : Prop where
  own : OwnT w lo v qs
  lim : LimT hi v qs
theorem TreeO.below {w w' : World} {lo hi : Nat} {v : Value} {qs : TL} (h : TreeO w lo hi v qs) (hb : Below w.heap.size w w') : TreeO w' lo hi v qs := ⟨h.own.below hb, h.lim⟩
theorem TreeO.fr {w w' : World} {lo hi a b : Nat} {v : Value} {qs : TL} (h : TreeO w lo hi v qs) (hf : Fr a b w w') (hN : hi ≤ a ∨ b ≤ lo) : TreeO w' lo hi v qs :=
  ⟨⟨hf.own h.own.row (fun g hg => by have := (h.own.row.lt g hg).1; have := h.lim.1 g hg; omega), fun p hp => hf.own (h.own.cmds p hp) (fun g hg => by have := ((h.own.cmds p hp).lt g hg).1; have := h.lim.2 p hp g hg; omega), h.own.apart⟩, h.lim⟩
theorem tree_o {w : World} {lo : Nat} {v : Value} {qs : TL} (h : OwnT w lo v qs) : TreeO w lo w.heap.size v qs := ⟨h, h.lim⟩
theorem TreeO.wide {w : World} {lo hi hi' : Nat} {v : Value} {qs : TL} (h : TreeO w lo hi v qs) (hh : hi ≤ hi') : TreeO w lo hi' v qs := ⟨h.own, h.lim.le hh⟩
theorem TreeO.low {w : World} {lo lo' hi : Nat} {v : Value} {qs : TL} (h : TreeO w lo hi v qs) (hh : lo' ≤ lo) : TreeO w lo' hi v qs := ⟨h.own.base hh, h.lim⟩
theorem tree_boxed {w w' : World} {base N : Nat} {v : Value} {ps : TL} {A : Array Value} (h : OwnT w base v ps) (hN : w.heap[N]? = some (.cells A 124 (0, 0))) (hg : w.grownBy w' (some N)) : OwnT w' base v ps :=
  ⟨World.ownsRow.kept h.row hg (row_not_box h.row hN (by decide)), fun p hp => World.ownsRow.kept (h.cmds p hp) hg (row_not_box (h.cmds p hp) hN (by decide)), h.apart⟩
theorem lim_marks {hi : Nat} {v : Value} : ∀ (qs : TL) (k : Nat), LimT hi v qs → LimT hi v (tmarks k qs) := by
  intro qs
  induction qs with
  | nil => intro k h; exact h
  | cons p qs ih =>
    intro k h
    have h2 := ih (k + 6 + 3 * p.1.2.1.length) ⟨h.1, fun x hx => h.2 x (List.mem_cons_of_mem _ hx)⟩
    refine ⟨h.1, fun x hx => ?_⟩
    unfold tmarks at hx
    rcases List.mem_cons.1 hx with rfl | hx
    · exact h.2 p (List.mem_cons_self ..)
    · exact h2.2 x hx
/-- a row of commands of the call's own -/
structure CmdsO (w : World) (lo hi : Nat) (v : Value) (n : Nat) (xs : List Value) : Prop where
  own : w.ownsRow lo 126 3 v n xs
  lim : ∀ g, v.ownBlock = some g → lo ≤ g ∧ g < hi
theorem CmdsO.below {w w' : World} {lo hi n : Nat} {v : Value} {xs : List Value} (h : CmdsO w lo hi v n xs) (hb : Below w.heap.size w w') : CmdsO w' lo hi v n xs := ⟨own_kept h.own hb, h.lim⟩
theorem CmdsO.fr {w w' : World} {lo hi n a b : Nat} {v : Value} {xs : List Value} (h : CmdsO w lo hi v n xs) (hf : Fr a b w w') (hN : hi ≤ a ∨ b ≤ lo) : CmdsO w' lo hi v n xs :=
  ⟨hf.own h.own (fun g hg => by have := h.lim g hg; omega), h.lim⟩
theorem CmdsO.reads {w : World} {lo hi : Nat} {v : Value} {l : List CM} (h : CmdsO w lo hi v l.length (flatR cmdF l)) : RowsR w v 3 cmdF l := rows_of_own cmdF_len h.own
theorem cmds_o {w : World} {lo : Nat} {v : Value} {n : Nat} {xs : List Value} (h : w.ownsRow lo 126 3 v n xs) : CmdsO w lo w.heap.size v n xs := ⟨h, fun g e => ⟨(h.lt g e).1, (h.lt g e).2⟩⟩

end Go.Proofs.YtcfgfhodbjakoavGreatDoor
