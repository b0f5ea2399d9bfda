/-
  A tree marked, told by the set of its blocks. (Made by gtm15.py.)
-/
import Derived.Test.YtcfgfhodbjakoavBlkM
import Derived.Test.YtcfgfhodbjakoavCmdsB
import Derived.Test.YtcfgfhodbjakoavFrS
namespace Go.Proofs.Ytcfgfhodbjakoav
open Go.RowKit Num

/-- a set of blocks that holds all of a tree's -/
def LimS (B : Nat → Prop) (v : Value) (ps : TL) : Prop := (∀ g, v.ownBlock = some g → B g) ∧ ∀ p ∈ ps, ∀ g, p.2.ownBlock = some g → B g
/-- the blocks of a tree -/
def inTree (v : Value) (ps : TL) (g : Nat) : Prop := v.ownBlock = some g ∨ ∃ p ∈ ps, p.2.ownBlock = some g
theorem limS_in (v : Value) (ps : TL) : LimS (inTree v ps) v ps := ⟨fun _ h => Or.inl h, fun p hp _ h => Or.inr ⟨p, hp, h⟩⟩
theorem OwnT.frs {B : Nat → Prop} {w w' : World} {base : Nat} {v : Value} {ps : TL} (h : OwnT w base v ps) (hf : FrS B w w') (hB : ∀ g, inTree v ps g → ¬ B g) : OwnT w' base v ps :=
  ⟨hf.own h.row (fun g hg => hB g (Or.inl hg)), fun p hp => hf.own (h.cmds p hp) (fun g hg => hB g (Or.inr ⟨p, hp, hg⟩)), h.apart⟩


end Go.Proofs.Ytcfgfhodbjakoav
