/-
  A region that draws its order, whose operations only read and whose callees at most make new memory: one walk in the order of the text serves every order. The class of worlds is 'the world as it was, and more memory'.
-/
import Derived.WalkKit
import Derived.BigQuiet
import Derived.WalkSmall
namespace Go.Proofs.Ytfnneillakdopab
open Go.RowKit

/-- a world that has at most more memory than w -/
structure Bw (w : World) where
  to : World
  below : Below w.heap.size w to

theorem bw_some (w : World) : Nonempty (Bw w) := ⟨⟨w, Below.refl _ _⟩⟩

theorem wp_region_bw {P : Program} {id : Nat} {Q : Exit → Act → World → Prop} {a : Act} {w : World} {l : List Oper} (hm : P.follows .mixedOrders = true) (hB : Region.lexB .any l.toArray = true)
    (h : wpQuiet P l.toArray (fun w' => ∃ x : Bw w, w' = x.to) (fun a' => ∀ w', (∃ x : Bw w, w' = x.to) → Q .normal a' w') l a) : (Code.region id l.toArray true).wp P Q a w :=
  wp_region_quiet (C := fun w' => ∃ x : Bw w, w' = x.to) hm hB ⟨⟨w.drew, (Below.refl _ _).drew⟩, rfl⟩ (by simpa using h)

theorem calls_bw {P : Program} {f : FuncId} {args : Array Value} {w : World} {x : Bw w} {v : Value}
    (h : Calls P f args x.to fun e w' => e = .returned v ∧ Below x.to.heap.size x.to w') : Calls P f args x.to fun e w'' => e = .returned v ∧ ∃ y : Bw w, w'' = y.to :=
  h.mono fun _ w' ⟨he, hb⟩ => ⟨he, ⟨w', x.below.trans (hb.mono x.below.size)⟩, rfl⟩
theorem calls_bw_same {P : Program} {f : FuncId} {args : Array Value} {w : World} {x : Bw w} {v : Value}
    (h : Calls P f args x.to fun e w' => e = .returned v ∧ w' = x.to) : Calls P f args x.to fun e w'' => e = .returned v ∧ ∃ y : Bw w, w'' = y.to :=
  h.mono fun _ _ ⟨he, hb⟩ => ⟨he, x, hb⟩
end Go.Proofs.Ytfnneillakdopab
