/-
  DERIVED. GIVEN WITH THE SEED: THE CARDS: each row of YtcfgfhodbjakoavGreatDoorRows.lean that lists a variable, with what it lists TIED to the program's text (the seventh form; the later family's looks); each row that meets fmt, with fmt's text TOLD by the authors' own Lean function (tested against real Go, not proved from fmt's source: count such statements apart). THE CARD IS WHAT COUNTS. Prove the row's statement (the work); the ties are given (YtcfgfhodbjakoavGreatDoorTie.lean); close each card by the builder's one call (the guide's Derived/Test/ToyasCard.lean, 'card_holds'). Laid BY PROGRAM, IN A SANDBOX (cutbox-door.mjs). By AI agents, Wed Nov 11 2026. No macro, syntax, notation, axiom, sorry.
-/
import Derived.Test.YtcfgfhodbjakoavGreatDoorRows
import GoSem.ClaimSeven
namespace Go.Proofs.YtcfgfhodbjakoavGreatDoor
namespace Rows

/-- THE TIED CARD OF 'laws.FnExactMayHand'. -/
def fnExactMayHandCard : Claim7 := { stood := { row := fnExactMayHandRow, standIns := [], harness := (true, "69def346b56303fb2bc7f1ccc4c965c35321cdcd8c7fec91a9bd716a309f39c0"), looks := true }, kinds := [], alts := [], laidByText := true, laidKinds := [.handle], laidTests := true, laidLooks := .later }
def FnExactMayHandCardSaid : Prop := Claim7.holds Tryz.pinned (.plain (OpenSpec.ofChange fnExactMayHandSpec)) fnExactMayHandCard

/-- THE TIED CARD OF 'laws.FnExactHandLetter'. -/
def fnExactHandLetterCard : Claim7 := { stood := { row := fnExactHandLetterRow, standIns := [], harness := (true, "69def346b56303fb2bc7f1ccc4c965c35321cdcd8c7fec91a9bd716a309f39c0"), looks := true }, kinds := [], alts := [], laidByText := true, laidKinds := [.handle], laidTests := true, laidLooks := .later }
def FnExactHandLetterCardSaid : Prop := Claim7.holds Tryz.pinned (.plain (OpenSpec.ofChange fnExactHandLetterSpec)) fnExactHandLetterCard

/-- THE TIED CARD OF 'laws.FnExactHandBlock'. -/
def fnExactHandBlockCard : Claim7 := { stood := { row := fnExactHandBlockRow, standIns := [], harness := (true, "69def346b56303fb2bc7f1ccc4c965c35321cdcd8c7fec91a9bd716a309f39c0"), looks := true }, kinds := [], alts := [], laidByText := true, laidKinds := [.handle], laidTests := true, laidLooks := .later }
def FnExactHandBlockCardSaid : Prop := Claim7.holds Tryz.pinned (.plain (OpenSpec.ofChange fnExactHandBlockSpec)) fnExactHandBlockCard

/-- THE SECOND FORM's CARD OF 'laws.FnExactMayHand'. -/
def fnExactMayHandUptoCard : Claim7 := { stood := { row := fnExactMayHandUptoRow, standIns := [], harness := (true, "69def346b56303fb2bc7f1ccc4c965c35321cdcd8c7fec91a9bd716a309f39c0"), looks := true }, kinds := [], alts := [], laidByText := true, laidKinds := [.handle], laidTests := true, laidLooks := .later }
def FnExactMayHandUptoCardSaid : Prop := Claim7.holds Tryz.pinned (.plain (OpenSpec.upto fnExactMayHandSpec)) fnExactMayHandUptoCard

/-- THE SECOND FORM's CARD OF 'laws.FnExactHandLetter'. -/
def fnExactHandLetterUptoCard : Claim7 := { stood := { row := fnExactHandLetterUptoRow, standIns := [], harness := (true, "69def346b56303fb2bc7f1ccc4c965c35321cdcd8c7fec91a9bd716a309f39c0"), looks := true }, kinds := [], alts := [], laidByText := true, laidKinds := [.handle], laidTests := true, laidLooks := .later }
def FnExactHandLetterUptoCardSaid : Prop := Claim7.holds Tryz.pinned (.plain (OpenSpec.upto fnExactHandLetterSpec)) fnExactHandLetterUptoCard

/-- THE SECOND FORM's CARD OF 'laws.FnExactHandBlock'. -/
def fnExactHandBlockUptoCard : Claim7 := { stood := { row := fnExactHandBlockUptoRow, standIns := [], harness := (true, "69def346b56303fb2bc7f1ccc4c965c35321cdcd8c7fec91a9bd716a309f39c0"), looks := true }, kinds := [], alts := [], laidByText := true, laidKinds := [.handle], laidTests := true, laidLooks := .later }
def FnExactHandBlockUptoCardSaid : Prop := Claim7.holds Tryz.pinned (.plain (OpenSpec.upto fnExactHandBlockSpec)) fnExactHandBlockUptoCard
end Rows
end Go.Proofs.YtcfgfhodbjakoavGreatDoor
