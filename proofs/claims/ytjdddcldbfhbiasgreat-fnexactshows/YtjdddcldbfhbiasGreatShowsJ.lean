/-
  The contract of the program's Shows, as the law FnExactShows asks it.
-/
import Derived.Test.YtjdddcldbfhbiasGreatShowsI
import Derived.Test.YtjdddcldbfhbiasGreatWFnExactShows
namespace Go.Proofs.YtjdddcldbfhbiasGreat
open Go.RowKit Num

theorem shows_i : WFnExactShows.Prg := fun ps v _ p s _ _ cmds cv _ w hT hk hD hs _ hC hcb _ =>
  (showsR_i ps v p s cmds cv w hT.read hk hD.reads hs (rows_of_own cmdF_len hC) hcb).mono fun _ w' ⟨v', s', h1, ⟨qs, mid, h2, h3, h4, h5, h6, h7⟩, h8⟩ =>
    ⟨v', s', h1, ⟨qs, w.heap.size, mid, mid, w'.heap.size, h2, h3, h4, h5, Nat.le_refl _, h6, h7, Or.inl (Nat.le_refl _)⟩, h8⟩

end Go.Proofs.YtjdddcldbfhbiasGreat
