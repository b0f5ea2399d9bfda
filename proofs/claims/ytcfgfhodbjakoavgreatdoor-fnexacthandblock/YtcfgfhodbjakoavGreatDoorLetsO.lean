/-
  A row of letters of the call's own.
-/
import Derived.Test.YtcfgfhodbjakoavGreatDoorJ1
import Derived.Test.YtcfgfhodbjakoavGreatDoorJ3
namespace Go.Proofs.YtcfgfhodbjakoavGreatDoor
open Go.RowKit Num

/-- .. that tells these cells, its block between lo and hi -/
structure LetsO (w : World) (lo hi : Nat) (v : Value) (n : Nat) (xs : List Value) : Prop where
  own : w.ownsRow lo 48 13 v n xs
  lim : ∀ g, v.ownBlock = some g → lo ≤ g ∧ g < hi
theorem LetsO.below {w w' : World} {lo hi n : Nat} {v : Value} {xs : List Value} (h : LetsO w lo hi v n xs) (hb : Below w.heap.size w w') : LetsO w' lo hi v n xs := ⟨own_kept h.own hb, h.lim⟩
theorem LetsO.fr {w w' : World} {lo hi n a b : Nat} {v : Value} {xs : List Value} (h : LetsO w lo hi v n xs) (hf : Fr a b w w') (hN : hi ≤ a ∨ b ≤ lo) : LetsO w' lo hi v n xs :=
  ⟨hf.own h.own (fun g hg => by have := h.lim g hg; omega), h.lim⟩
theorem LetsO.reads {w : World} {lo hi : Nat} {v : Value} {l : List LT} (h : LetsO w lo hi v l.length (flatR letF l)) : RowsR w v 13 letF l := rows_of_own letF_len h.own
theorem lets_of {w : World} {lo : Nat} {v : Value} {n : Nat} {xs : List Value} (h : w.ownsRow lo 48 13 v n xs) : LetsO w lo w.heap.size v n xs := ⟨h, fun g e => ⟨(h.lt g e).1, (h.lt g e).2⟩⟩
theorem lets_at {w : World} {lo : Nat} {v : Value} {l : List LT} (h : w.ownsRow lo 48 13 v l.length (flatR letF l)) : LetsO w lo w.heap.size v l.length (flatR letF l) := lets_of h
theorem fr_grown {w w' : World} {lo hi : Nat} {r : Option Nat} (hg : w.grownBy w' r) (h : ∀ g, r = some g → lo ≤ g ∧ g < hi) : Fr lo hi w w' :=
  ⟨hg.os, hg.tape, hg.output, hg.size, fun k hk hn => hg.block k hk (fun e => by have := h k e.symm; omega)⟩
theorem lets_mark {w w' : World} {lo hi n : Nat} {v : Value} {xs ys : List Value} (h : LetsO w lo hi v n xs) (ho : w'.ownsRow lo 48 13 v n ys) : LetsO w' lo hi v n ys := ⟨ho, h.lim⟩

end Go.Proofs.YtcfgfhodbjakoavGreatDoor
