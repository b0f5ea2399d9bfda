/-
  No cell of these rows narrows 'for every input' (looked for: loops, veiled, ifaces, maps, wideKeys, modest, calm, conditions, laid).
  DERIVED. THE GIVEN ROWS OF THIS SEAT. 6 by the template 'for every input the law returns true; each argument reads behind the call as it read before'; 0 by the template 'total and deterministic' (their statements: YtnghhfgbobpnkajTotals.lean).
  GIVEN WITH THE SEED: the statements are not yours to turn. If you find one false, say at which input.
  Laid BY PROGRAM, IN A SANDBOX (cutbox-rows.mjs): the forced cells as the released guide's own fill.sh prints them over the translation 2e9202a53c012574… (all of the seat's roots in one cut). By AI agents, Wed Nov 11 2026. No macro, syntax, notation, axiom, sorry.
-/
import Derived.Test.YtnghhfgbobpnkajChecked
import GoSem.Claim
import GoSem.ClaimJoined
import GoSem.ClaimMapViews
import Derived.JoinedTies
import Derived.KernelRfl
namespace Go.Proofs.Ytnghhfgbobpnkaj
/- THE CELL 'sum', in the pinned program and in every row, IS THE sha256 OF THE DUMP (.gsa) THAT YtnghhfgbobpnkajProg.lean LOADS. Nothing in Lean hashes anything: it is a label: what it is worth is what the hold of that sum in a sandbox is worth. -/
noncomputable def Try.pinned : Pinned := { name := "ytnghhfgbobpnkaj", sum := "2e9202a53c012574c73b990864907afd0d2608b18c45892268eb8e4403161390", checked := Try.checked }
namespace Rows
def none {H : Type} : Left H := { results := [], args := [] }

/-- 'laws.FnExactDone': WHATEVER THE INPUT: true; the input reads as it did. -/
def fnExactDoneSpec : ChangeSpec := { name := "fnExactDone", fn := fun _ => fun
  | [d1, d2] => { results := [.lit (.bool true)], args := [d1, d2] }
  | _ => none }
def fnExactDoneRow : OpenClaim := { program := "ytnghhfgbobpnkaj", sum := "2e9202a53c012574c73b990864907afd0d2608b18c45892268eb8e4403161390", func := "loop.example/g00330/laws.FnExactDone", spec := "fnExactDone", unfollowed := true, recurses := true, apart := false }
def FnExactDoneSaid : Prop := fnExactDoneRow.holds Try.pinned (OpenSpec.ofChange fnExactDoneSpec)

/-- ITS FALSE NEIGHBOUR: 'it returns false'. Refute it at one input. -/
def fnExactDoneWrong : ChangeSpec := { name := "fnExactDone", fn := fun _ => fun
  | [d1, d2] => { results := [.lit (.bool false)], args := [d1, d2] }
  | _ => none }
def FnExactDoneWrongFalsely : Prop := fnExactDoneRow.holds Try.pinned (OpenSpec.ofChange fnExactDoneWrong)

/-- 'laws.FnExactDoneAll': WHATEVER THE INPUT: true; the input reads as it did. -/
def fnExactDoneAllSpec : ChangeSpec := { name := "fnExactDoneAll", fn := fun _ => fun
  | [d1, d2] => { results := [.lit (.bool true)], args := [d1, d2] }
  | _ => none }
def fnExactDoneAllRow : OpenClaim := { program := "ytnghhfgbobpnkaj", sum := "2e9202a53c012574c73b990864907afd0d2608b18c45892268eb8e4403161390", func := "loop.example/g00330/laws.FnExactDoneAll", spec := "fnExactDoneAll", unfollowed := true, recurses := true, apart := false }
def FnExactDoneAllSaid : Prop := fnExactDoneAllRow.holds Try.pinned (OpenSpec.ofChange fnExactDoneAllSpec)

/-- ITS FALSE NEIGHBOUR: 'it returns false'. Refute it at one input. -/
def fnExactDoneAllWrong : ChangeSpec := { name := "fnExactDoneAll", fn := fun _ => fun
  | [d1, d2] => { results := [.lit (.bool false)], args := [d1, d2] }
  | _ => none }
def FnExactDoneAllWrongFalsely : Prop := fnExactDoneAllRow.holds Try.pinned (OpenSpec.ofChange fnExactDoneAllWrong)

/-- 'laws.FnExactCellsText': WHATEVER THE INPUT: true; the input reads as it did. -/
def fnExactCellsTextSpec : ChangeSpec := { name := "fnExactCellsText", fn := fun _ => fun
  | [d] => { results := [.lit (.bool true)], args := [d] }
  | _ => none }
def fnExactCellsTextRow : OpenClaim := { program := "ytnghhfgbobpnkaj", sum := "2e9202a53c012574c73b990864907afd0d2608b18c45892268eb8e4403161390", func := "loop.example/g00330/laws.FnExactCellsText", spec := "fnExactCellsText", inPlace := ["internal/abi.NoEscape"], apart := false }
def FnExactCellsTextSaid : Prop := fnExactCellsTextRow.holds Try.pinned (OpenSpec.ofChange fnExactCellsTextSpec)

/-- ITS FALSE NEIGHBOUR: 'it returns false'. Refute it at one input. -/
def fnExactCellsTextWrong : ChangeSpec := { name := "fnExactCellsText", fn := fun _ => fun
  | [d] => { results := [.lit (.bool false)], args := [d] }
  | _ => none }
def FnExactCellsTextWrongFalsely : Prop := fnExactCellsTextRow.holds Try.pinned (OpenSpec.ofChange fnExactCellsTextWrong)

/-- 'laws.FnExactUndoOf': WHATEVER THE INPUT: true; the input reads as it did. -/
def fnExactUndoOfSpec : ChangeSpec := { name := "fnExactUndoOf", fn := fun _ => fun
  | [d1, d2] => { results := [.lit (.bool true)], args := [d1, d2] }
  | _ => none }
def fnExactUndoOfRow : OpenClaim := { program := "ytnghhfgbobpnkaj", sum := "2e9202a53c012574c73b990864907afd0d2608b18c45892268eb8e4403161390", func := "loop.example/g00330/laws.FnExactUndoOf", spec := "fnExactUndoOf", apart := false }
def FnExactUndoOfSaid : Prop := fnExactUndoOfRow.holds Try.pinned (OpenSpec.ofChange fnExactUndoOfSpec)

/-- ITS FALSE NEIGHBOUR: 'it returns false'. Refute it at one input. -/
def fnExactUndoOfWrong : ChangeSpec := { name := "fnExactUndoOf", fn := fun _ => fun
  | [d1, d2] => { results := [.lit (.bool false)], args := [d1, d2] }
  | _ => none }
def FnExactUndoOfWrongFalsely : Prop := fnExactUndoOfRow.holds Try.pinned (OpenSpec.ofChange fnExactUndoOfWrong)

/-- 'laws.FnExactUndone': WHATEVER THE INPUT: true; the input reads as it did. -/
def fnExactUndoneSpec : ChangeSpec := { name := "fnExactUndone", fn := fun _ => fun
  | [d1, d2] => { results := [.lit (.bool true)], args := [d1, d2] }
  | _ => none }
def fnExactUndoneRow : OpenClaim := { program := "ytnghhfgbobpnkaj", sum := "2e9202a53c012574c73b990864907afd0d2608b18c45892268eb8e4403161390", func := "loop.example/g00330/laws.FnExactUndone", spec := "fnExactUndone", unfollowed := true, recurses := true, apart := false }
def FnExactUndoneSaid : Prop := fnExactUndoneRow.holds Try.pinned (OpenSpec.ofChange fnExactUndoneSpec)

/-- ITS FALSE NEIGHBOUR: 'it returns false'. Refute it at one input. -/
def fnExactUndoneWrong : ChangeSpec := { name := "fnExactUndone", fn := fun _ => fun
  | [d1, d2] => { results := [.lit (.bool false)], args := [d1, d2] }
  | _ => none }
def FnExactUndoneWrongFalsely : Prop := fnExactUndoneRow.holds Try.pinned (OpenSpec.ofChange fnExactUndoneWrong)

/-- 'laws.FnExactDoneBack': WHATEVER THE INPUT: true; the input reads as it did. -/
def fnExactDoneBackSpec : ChangeSpec := { name := "fnExactDoneBack", fn := fun _ => fun
  | [d1, d2] => { results := [.lit (.bool true)], args := [d1, d2] }
  | _ => none }
def fnExactDoneBackRow : OpenClaim := { program := "ytnghhfgbobpnkaj", sum := "2e9202a53c012574c73b990864907afd0d2608b18c45892268eb8e4403161390", func := "loop.example/g00330/laws.FnExactDoneBack", spec := "fnExactDoneBack", unfollowed := true, recurses := true, apart := false }
def FnExactDoneBackSaid : Prop := fnExactDoneBackRow.holds Try.pinned (OpenSpec.ofChange fnExactDoneBackSpec)

/-- ITS FALSE NEIGHBOUR: 'it returns false'. Refute it at one input. -/
def fnExactDoneBackWrong : ChangeSpec := { name := "fnExactDoneBack", fn := fun _ => fun
  | [d1, d2] => { results := [.lit (.bool false)], args := [d1, d2] }
  | _ => none }
def FnExactDoneBackWrongFalsely : Prop := fnExactDoneBackRow.holds Try.pinned (OpenSpec.ofChange fnExactDoneBackWrong)

/- THE SECOND FORM. 'bulk': how many values and letters a reading holds, each counted each time it is reached (what is shared counts as often as it is met; a slice's spare places count too). A statement '..UptoSaid' is the law's where the arguments, and the package variables that the reading takes, are together of bulk at most 1048576: NARROWER than '..Said'. Prove '..Said' where nothing that the law and all that it calls make is longer than what came in: it says more and counts as full. Else prove '..UptoSaid'. A law counts once. -/
mutual
def uptoBulk {H : Type} : DataW H → Nat
  | .lit (.string bytes) => bytes.length + 1
  | .lit _ => 1
  | .nil => 1
  | .ptr d => uptoBulk d + 1
  | .slice elems spare => uptoBulkAll elems + uptoBulkAll spare + 1
  | .agg parts => uptoBulkAll parts + 1
  | .iface _ d => uptoBulk d + 1
  | .map entries => uptoBulkEntries entries + 1
  | .held _ => 1
def uptoBulkAll {H : Type} : List (DataW H) → Nat
  | [] => 0
  | d :: r => uptoBulk d + uptoBulkAll r
def uptoBulkEntries {H : Type} : List (Lit × DataW H) → Nat
  | [] => 0
  | x :: r => uptoBulkEntry x + uptoBulkEntries r
def uptoBulkEntry {H : Type} : Lit × DataW H → Nat
  | (.string bytes, d) => bytes.length + uptoBulk d + 1
  | (_, d) => uptoBulk d + 1
 end
def uptoSmall : (H : Type) → List (DataW H) → Bool := fun _ ds => decide (uptoBulkAll ds ≤ 1048576)
def OpenSpec.upto (s : _root_.Go.ChangeSpec) : _root_.Go.OpenSpec := { _root_.Go.OpenSpec.ofChange s with cond := some uptoSmall }

/-- 'laws.FnExactDone', WHERE WHAT IT READS IS OF BULK AT MOST 1048576: true; the input reads as it did. -/
def fnExactDoneUptoRow : OpenClaim := { program := "ytnghhfgbobpnkaj", sum := "2e9202a53c012574c73b990864907afd0d2608b18c45892268eb8e4403161390", func := "loop.example/g00330/laws.FnExactDone", spec := "fnExactDone", unfollowed := true, recurses := true, apart := false, narrowed := true }
def FnExactDoneUptoSaid : Prop := fnExactDoneUptoRow.holds Try.pinned (OpenSpec.upto fnExactDoneSpec)

/-- 'laws.FnExactDoneAll', WHERE WHAT IT READS IS OF BULK AT MOST 1048576: true; the input reads as it did. -/
def fnExactDoneAllUptoRow : OpenClaim := { program := "ytnghhfgbobpnkaj", sum := "2e9202a53c012574c73b990864907afd0d2608b18c45892268eb8e4403161390", func := "loop.example/g00330/laws.FnExactDoneAll", spec := "fnExactDoneAll", unfollowed := true, recurses := true, apart := false, narrowed := true }
def FnExactDoneAllUptoSaid : Prop := fnExactDoneAllUptoRow.holds Try.pinned (OpenSpec.upto fnExactDoneAllSpec)

/-- 'laws.FnExactCellsText', WHERE WHAT IT READS IS OF BULK AT MOST 1048576: true; the input reads as it did. -/
def fnExactCellsTextUptoRow : OpenClaim := { program := "ytnghhfgbobpnkaj", sum := "2e9202a53c012574c73b990864907afd0d2608b18c45892268eb8e4403161390", func := "loop.example/g00330/laws.FnExactCellsText", spec := "fnExactCellsText", inPlace := ["internal/abi.NoEscape"], apart := false, narrowed := true }
def FnExactCellsTextUptoSaid : Prop := fnExactCellsTextUptoRow.holds Try.pinned (OpenSpec.upto fnExactCellsTextSpec)

/-- 'laws.FnExactUndoOf', WHERE WHAT IT READS IS OF BULK AT MOST 1048576: true; the input reads as it did. -/
def fnExactUndoOfUptoRow : OpenClaim := { program := "ytnghhfgbobpnkaj", sum := "2e9202a53c012574c73b990864907afd0d2608b18c45892268eb8e4403161390", func := "loop.example/g00330/laws.FnExactUndoOf", spec := "fnExactUndoOf", apart := false, narrowed := true }
def FnExactUndoOfUptoSaid : Prop := fnExactUndoOfUptoRow.holds Try.pinned (OpenSpec.upto fnExactUndoOfSpec)

/-- 'laws.FnExactUndone', WHERE WHAT IT READS IS OF BULK AT MOST 1048576: true; the input reads as it did. -/
def fnExactUndoneUptoRow : OpenClaim := { program := "ytnghhfgbobpnkaj", sum := "2e9202a53c012574c73b990864907afd0d2608b18c45892268eb8e4403161390", func := "loop.example/g00330/laws.FnExactUndone", spec := "fnExactUndone", unfollowed := true, recurses := true, apart := false, narrowed := true }
def FnExactUndoneUptoSaid : Prop := fnExactUndoneUptoRow.holds Try.pinned (OpenSpec.upto fnExactUndoneSpec)

/-- 'laws.FnExactDoneBack', WHERE WHAT IT READS IS OF BULK AT MOST 1048576: true; the input reads as it did. -/
def fnExactDoneBackUptoRow : OpenClaim := { program := "ytnghhfgbobpnkaj", sum := "2e9202a53c012574c73b990864907afd0d2608b18c45892268eb8e4403161390", func := "loop.example/g00330/laws.FnExactDoneBack", spec := "fnExactDoneBack", unfollowed := true, recurses := true, apart := false, narrowed := true }
def FnExactDoneBackUptoSaid : Prop := fnExactDoneBackUptoRow.holds Try.pinned (OpenSpec.upto fnExactDoneBackSpec)

end Rows
end Go.Proofs.Ytnghhfgbobpnkaj
