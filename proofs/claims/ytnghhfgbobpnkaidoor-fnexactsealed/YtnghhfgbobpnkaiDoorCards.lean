/-
  DERIVED. GIVEN WITH THE SEED: THE CARDS: each row of YtnghhfgbobpnkaiDoorRows.lean that lists a variable, with what it lists TIED to the program's text (the seventh form; the later family's looks); each row that meets fmt, with fmt's text TOLD by the authors' own Lean function (tested against real Go, not proved from fmt's source: count such statements apart). THE CARD IS WHAT COUNTS. Prove the row's statement (the work); the ties are given (YtnghhfgbobpnkaiDoorTie.lean); close each card by the builder's one call (the guide's Derived/Test/ToyasCard.lean, 'card_holds'). Laid BY PROGRAM, IN A SANDBOX (cutbox-door.mjs). By AI agents, Wed Nov 11 2026. No macro, syntax, notation, axiom, sorry.
-/
import Derived.Test.YtnghhfgbobpnkaiDoorRows
import GoSem.ClaimSeven
namespace Go.Proofs.YtnghhfgbobpnkaiDoor
namespace Rows

/-- THE TIED CARD OF 'laws.FnExactSealed'. -/
def fnExactSealedCard : Claim7 := { stood := { row := fnExactSealedRow, standIns := [], harness := (true, "86d3c3b1b5d0ffaee60c5c579a53f10dd5abf5ea56992809e4286b1d0010c56d"), looks := false }, kinds := [], alts := [], laidByText := true, laidKinds := [.data], laidTests := true, laidLooks := .later }
def FnExactSealedCardSaid : Prop := Claim7.holds Tryd.pinned (.plain (OpenSpec.ofChange fnExactSealedSpec)) fnExactSealedCard

/-- THE TIED CARD OF 'laws.FnExactUnsealed'. -/
def fnExactUnsealedCard : Claim7 := { stood := { row := fnExactUnsealedRow, standIns := [], harness := (true, "86d3c3b1b5d0ffaee60c5c579a53f10dd5abf5ea56992809e4286b1d0010c56d"), looks := false }, kinds := [], alts := [], laidByText := true, laidKinds := [.data], laidTests := true, laidLooks := .later }
def FnExactUnsealedCardSaid : Prop := Claim7.holds Tryd.pinned (.plain (OpenSpec.ofChange fnExactUnsealedSpec)) fnExactUnsealedCard

/-- THE SECOND FORM's CARD OF 'laws.FnExactSealed'. -/
def fnExactSealedUptoCard : Claim7 := { stood := { row := fnExactSealedUptoRow, standIns := [], harness := (true, "86d3c3b1b5d0ffaee60c5c579a53f10dd5abf5ea56992809e4286b1d0010c56d"), looks := false }, kinds := [], alts := [], laidByText := true, laidKinds := [.data], laidTests := true, laidLooks := .later }
def FnExactSealedUptoCardSaid : Prop := Claim7.holds Tryd.pinned (.plain (OpenSpec.upto fnExactSealedSpec)) fnExactSealedUptoCard

/-- THE SECOND FORM's CARD OF 'laws.FnExactUnsealed'. -/
def fnExactUnsealedUptoCard : Claim7 := { stood := { row := fnExactUnsealedUptoRow, standIns := [], harness := (true, "86d3c3b1b5d0ffaee60c5c579a53f10dd5abf5ea56992809e4286b1d0010c56d"), looks := false }, kinds := [], alts := [], laidByText := true, laidKinds := [.data], laidTests := true, laidLooks := .later }
def FnExactUnsealedUptoCardSaid : Prop := Claim7.holds Tryd.pinned (.plain (OpenSpec.upto fnExactUnsealedSpec)) fnExactUnsealedUptoCard
end Rows
end Go.Proofs.YtnghhfgbobpnkaiDoor
