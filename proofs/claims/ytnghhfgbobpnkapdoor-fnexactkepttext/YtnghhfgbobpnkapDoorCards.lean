/-
  DERIVED. GIVEN WITH THE SEED: THE CARDS: each row of YtnghhfgbobpnkapDoorRows.lean that lists a variable, with what it lists TIED to the program's text (the seventh form; the later family's looks); each row that meets fmt, with fmt's text TOLD by the authors' own Lean function (tested against real Go, not proved from fmt's source: count such statements apart). THE CARD IS WHAT COUNTS. Prove the row's statement (the work); the ties are given (YtnghhfgbobpnkapDoorTie.lean); close each card by the builder's one call (the guide's Derived/Test/ToyasCard.lean, 'card_holds'). Laid BY PROGRAM, IN A SANDBOX (cutbox-door.mjs). By AI agents, Wed Nov 11 2026. No macro, syntax, notation, axiom, sorry.
-/
import Derived.Test.YtnghhfgbobpnkapDoorRows
import GoSem.ClaimSeven
namespace Go.Proofs.YtnghhfgbobpnkapDoor
namespace Rows

/-- THE TIED CARD OF 'laws.FnExactReadLetter'. -/
def fnExactReadLetterCard : Claim7 := { stood := { row := fnExactReadLetterRow, standIns := [], harness := (true, "7c96eeea98eec0309e8bae1aa5de7815346864c74fdc1a91789b59d6a963ecef"), looks := true }, kinds := [], alts := [], laidByText := true, laidKinds := [.data], laidTests := true, laidLooks := .later }
def FnExactReadLetterCardSaid : Prop := Claim7.holds Tryd.pinned (.plain (OpenSpec.ofChange fnExactReadLetterSpec)) fnExactReadLetterCard

/-- THE TIED CARD OF 'laws.FnExactKeptText'. -/
def fnExactKeptTextCard : Claim7 := { stood := { row := fnExactKeptTextRow, standIns := [], harness := (true, "7c96eeea98eec0309e8bae1aa5de7815346864c74fdc1a91789b59d6a963ecef"), looks := true }, kinds := [], alts := [], laidByText := true, laidKinds := [.data], laidTests := true, laidLooks := .later }
def FnExactKeptTextCardSaid : Prop := Claim7.holds Tryd.pinned (.plain (OpenSpec.ofChange fnExactKeptTextSpec)) fnExactKeptTextCard

/-- THE TIED CARD OF 'laws.FnExactReadKept'. -/
def fnExactReadKeptCard : Claim7 := { stood := { row := fnExactReadKeptRow, standIns := [], harness := (true, "7c96eeea98eec0309e8bae1aa5de7815346864c74fdc1a91789b59d6a963ecef"), looks := true }, kinds := [], alts := [], laidByText := true, laidKinds := [.data], laidTests := true, laidLooks := .later }
def FnExactReadKeptCardSaid : Prop := Claim7.holds Tryd.pinned (.plain (OpenSpec.ofChange fnExactReadKeptSpec)) fnExactReadKeptCard

/-- THE SECOND FORM's CARD OF 'laws.FnExactReadLetter'. -/
def fnExactReadLetterUptoCard : Claim7 := { stood := { row := fnExactReadLetterUptoRow, standIns := [], harness := (true, "7c96eeea98eec0309e8bae1aa5de7815346864c74fdc1a91789b59d6a963ecef"), looks := true }, kinds := [], alts := [], laidByText := true, laidKinds := [.data], laidTests := true, laidLooks := .later }
def FnExactReadLetterUptoCardSaid : Prop := Claim7.holds Tryd.pinned (.plain (OpenSpec.upto fnExactReadLetterSpec)) fnExactReadLetterUptoCard

/-- THE SECOND FORM's CARD OF 'laws.FnExactKeptText'. -/
def fnExactKeptTextUptoCard : Claim7 := { stood := { row := fnExactKeptTextUptoRow, standIns := [], harness := (true, "7c96eeea98eec0309e8bae1aa5de7815346864c74fdc1a91789b59d6a963ecef"), looks := true }, kinds := [], alts := [], laidByText := true, laidKinds := [.data], laidTests := true, laidLooks := .later }
def FnExactKeptTextUptoCardSaid : Prop := Claim7.holds Tryd.pinned (.plain (OpenSpec.upto fnExactKeptTextSpec)) fnExactKeptTextUptoCard

/-- THE SECOND FORM's CARD OF 'laws.FnExactReadKept'. -/
def fnExactReadKeptUptoCard : Claim7 := { stood := { row := fnExactReadKeptUptoRow, standIns := [], harness := (true, "7c96eeea98eec0309e8bae1aa5de7815346864c74fdc1a91789b59d6a963ecef"), looks := true }, kinds := [], alts := [], laidByText := true, laidKinds := [.data], laidTests := true, laidLooks := .later }
def FnExactReadKeptUptoCardSaid : Prop := Claim7.holds Tryd.pinned (.plain (OpenSpec.upto fnExactReadKeptSpec)) fnExactReadKeptUptoCard
end Rows
end Go.Proofs.YtnghhfgbobpnkapDoor
