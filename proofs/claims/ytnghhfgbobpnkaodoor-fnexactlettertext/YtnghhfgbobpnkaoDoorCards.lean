/-
  DERIVED. GIVEN WITH THE SEED: THE CARDS: each row of YtnghhfgbobpnkaoDoorRows.lean that lists a variable, with what it lists TIED to the program's text (the seventh form; the later family's looks); each row that meets fmt, with fmt's text TOLD by the authors' own Lean function (tested against real Go, not proved from fmt's source: count such statements apart). THE CARD IS WHAT COUNTS. Prove the row's statement (the work); the ties are given (YtnghhfgbobpnkaoDoorTie.lean); close each card by the builder's one call (the guide's Derived/Test/ToyasCard.lean, 'card_holds'). Laid BY PROGRAM, IN A SANDBOX (cutbox-door.mjs). By AI agents, Wed Nov 11 2026. No macro, syntax, notation, axiom, sorry.
-/
import Derived.Test.YtnghhfgbobpnkaoDoorRows
import GoSem.ClaimSeven
namespace Go.Proofs.YtnghhfgbobpnkaoDoor
namespace Rows

/-- THE TIED CARD OF 'laws.FnExactLetterText'. -/
def fnExactLetterTextCard : Claim7 := { stood := { row := fnExactLetterTextRow, standIns := [], harness := (true, "96f18010772a9b63447f4d80acd95ec250fab2cd3ff8f04c5f52d6682d19f1ae"), looks := false }, kinds := [], alts := [], laidByText := true, laidKinds := [.data], laidTests := true, laidLooks := .later }
def FnExactLetterTextCardSaid : Prop := Claim7.holds Tryd.pinned (.plain (OpenSpec.ofChange fnExactLetterTextSpec)) fnExactLetterTextCard

/-- THE SECOND FORM's CARD OF 'laws.FnExactLetterText'. -/
def fnExactLetterTextUptoCard : Claim7 := { stood := { row := fnExactLetterTextUptoRow, standIns := [], harness := (true, "96f18010772a9b63447f4d80acd95ec250fab2cd3ff8f04c5f52d6682d19f1ae"), looks := false }, kinds := [], alts := [], laidByText := true, laidKinds := [.data], laidTests := true, laidLooks := .later }
def FnExactLetterTextUptoCardSaid : Prop := Claim7.holds Tryd.pinned (.plain (OpenSpec.upto fnExactLetterTextSpec)) fnExactLetterTextUptoCard
end Rows
end Go.Proofs.YtnghhfgbobpnkaoDoor
