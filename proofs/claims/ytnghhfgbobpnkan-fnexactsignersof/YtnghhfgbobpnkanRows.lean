/-
  No cell of these rows narrows 'for every input' (looked for: loops, veiled, ifaces, maps, wideKeys, modest, calm, conditions, laid).
  DERIVED. THE GIVEN ROWS OF THIS SEAT. 5 by the template 'for every input the law returns true; each argument reads behind the call as it read before'; 0 by the template 'total and deterministic' (their statements: YtnghhfgbobpnkanTotals.lean).
  GIVEN WITH THE SEED: the statements are not yours to turn. If you find one false, say at which input.
  Laid BY PROGRAM, IN A SANDBOX (cutbox-rows.mjs): the forced cells as the released guide's own fill.sh prints them over the translation f8285d2fdd0f65f1… (all of the seat's roots in one cut). By AI agents, Wed Nov 11 2026. No macro, syntax, notation, axiom, sorry.
-/
import Derived.Test.YtnghhfgbobpnkanChecked
import GoSem.Claim
import GoSem.ClaimJoined
import GoSem.ClaimMapViews
import Derived.JoinedTies
import Derived.KernelRfl
namespace Go.Proofs.Ytnghhfgbobpnkan
/- THE CELL 'sum', in the pinned program and in every row, IS THE sha256 OF THE DUMP (.gsa) THAT YtnghhfgbobpnkanProg.lean LOADS. Nothing in Lean hashes anything: it is a label: what it is worth is what the hold of that sum in a sandbox is worth. -/
noncomputable def Try.pinned : Pinned := { name := "ytnghhfgbobpnkan", sum := "f8285d2fdd0f65f1c71dec7eb23ecc34e613800323c7f8088b371ecb68ad2070", checked := Try.checked }
namespace Rows
def none {H : Type} : Left H := { results := [], args := [] }

/-- 'laws.FnExactSignersOf': WHATEVER THE INPUT: true; the input reads as it did. -/
def fnExactSignersOfSpec : ChangeSpec := { name := "fnExactSignersOf", fn := fun _ => fun
  | [d1, d2, d3, d4] => { results := [.lit (.bool true)], args := [d1, d2, d3, d4] }
  | _ => none }
def fnExactSignersOfRow : OpenClaim := { program := "ytnghhfgbobpnkan", sum := "f8285d2fdd0f65f1c71dec7eb23ecc34e613800323c7f8088b371ecb68ad2070", func := "loop.example/g00330/laws.FnExactSignersOf", spec := "fnExactSignersOf", apart := false }
def FnExactSignersOfSaid : Prop := fnExactSignersOfRow.holds Try.pinned (OpenSpec.ofChange fnExactSignersOfSpec)

/-- ITS FALSE NEIGHBOUR: 'it returns false'. Refute it at one input. -/
def fnExactSignersOfWrong : ChangeSpec := { name := "fnExactSignersOf", fn := fun _ => fun
  | [d1, d2, d3, d4] => { results := [.lit (.bool false)], args := [d1, d2, d3, d4] }
  | _ => none }
def FnExactSignersOfWrongFalsely : Prop := fnExactSignersOfRow.holds Try.pinned (OpenSpec.ofChange fnExactSignersOfWrong)

/-- 'laws.FnExactCountOf': WHATEVER THE INPUT: true; the input reads as it did. -/
def fnExactCountOfSpec : ChangeSpec := { name := "fnExactCountOf", fn := fun _ => fun
  | [d] => { results := [.lit (.bool true)], args := [d] }
  | _ => none }
def fnExactCountOfRow : OpenClaim := { program := "ytnghhfgbobpnkan", sum := "f8285d2fdd0f65f1c71dec7eb23ecc34e613800323c7f8088b371ecb68ad2070", func := "loop.example/g00330/laws.FnExactCountOf", spec := "fnExactCountOf", apart := false }
def FnExactCountOfSaid : Prop := fnExactCountOfRow.holds Try.pinned (OpenSpec.ofChange fnExactCountOfSpec)

/-- ITS FALSE NEIGHBOUR: 'it returns false'. Refute it at one input. -/
def fnExactCountOfWrong : ChangeSpec := { name := "fnExactCountOf", fn := fun _ => fun
  | [d] => { results := [.lit (.bool false)], args := [d] }
  | _ => none }
def FnExactCountOfWrongFalsely : Prop := fnExactCountOfRow.holds Try.pinned (OpenSpec.ofChange fnExactCountOfWrong)

/-- 'laws.FnExactQcRight': WHATEVER THE INPUT: true; the input reads as it did. -/
def fnExactQcRightSpec : ChangeSpec := { name := "fnExactQcRight", fn := fun _ => fun
  | [d1, d2, d3] => { results := [.lit (.bool true)], args := [d1, d2, d3] }
  | _ => none }
def fnExactQcRightRow : OpenClaim := { program := "ytnghhfgbobpnkan", sum := "f8285d2fdd0f65f1c71dec7eb23ecc34e613800323c7f8088b371ecb68ad2070", func := "loop.example/g00330/laws.FnExactQcRight", spec := "fnExactQcRight", apart := false }
def FnExactQcRightSaid : Prop := fnExactQcRightRow.holds Try.pinned (OpenSpec.ofChange fnExactQcRightSpec)

/-- ITS FALSE NEIGHBOUR: 'it returns false'. Refute it at one input. -/
def fnExactQcRightWrong : ChangeSpec := { name := "fnExactQcRight", fn := fun _ => fun
  | [d1, d2, d3] => { results := [.lit (.bool false)], args := [d1, d2, d3] }
  | _ => none }
def FnExactQcRightWrongFalsely : Prop := fnExactQcRightRow.holds Try.pinned (OpenSpec.ofChange fnExactQcRightWrong)

/-- 'laws.FnExactQcOf': WHATEVER THE INPUT: true; the input reads as it did. -/
def fnExactQcOfSpec : ChangeSpec := { name := "fnExactQcOf", fn := fun _ => fun
  | [d1, d2, d3, d4, d5] => { results := [.lit (.bool true)], args := [d1, d2, d3, d4, d5] }
  | _ => none }
def fnExactQcOfRow : OpenClaim := { program := "ytnghhfgbobpnkan", sum := "f8285d2fdd0f65f1c71dec7eb23ecc34e613800323c7f8088b371ecb68ad2070", func := "loop.example/g00330/laws.FnExactQcOf", spec := "fnExactQcOf", apart := false }
def FnExactQcOfSaid : Prop := fnExactQcOfRow.holds Try.pinned (OpenSpec.ofChange fnExactQcOfSpec)

/-- ITS FALSE NEIGHBOUR: 'it returns false'. Refute it at one input. -/
def fnExactQcOfWrong : ChangeSpec := { name := "fnExactQcOf", fn := fun _ => fun
  | [d1, d2, d3, d4, d5] => { results := [.lit (.bool false)], args := [d1, d2, d3, d4, d5] }
  | _ => none }
def FnExactQcOfWrongFalsely : Prop := fnExactQcOfRow.holds Try.pinned (OpenSpec.ofChange fnExactQcOfWrong)

/-- 'laws.FnExactHigherQc': WHATEVER THE INPUT: true; the input reads as it did. -/
def fnExactHigherQcSpec : ChangeSpec := { name := "fnExactHigherQc", fn := fun _ => fun
  | [d1, d2] => { results := [.lit (.bool true)], args := [d1, d2] }
  | _ => none }
def fnExactHigherQcRow : OpenClaim := { program := "ytnghhfgbobpnkan", sum := "f8285d2fdd0f65f1c71dec7eb23ecc34e613800323c7f8088b371ecb68ad2070", func := "loop.example/g00330/laws.FnExactHigherQc", spec := "fnExactHigherQc", apart := false }
def FnExactHigherQcSaid : Prop := fnExactHigherQcRow.holds Try.pinned (OpenSpec.ofChange fnExactHigherQcSpec)

/-- ITS FALSE NEIGHBOUR: 'it returns false'. Refute it at one input. -/
def fnExactHigherQcWrong : ChangeSpec := { name := "fnExactHigherQc", fn := fun _ => fun
  | [d1, d2] => { results := [.lit (.bool false)], args := [d1, d2] }
  | _ => none }
def FnExactHigherQcWrongFalsely : Prop := fnExactHigherQcRow.holds Try.pinned (OpenSpec.ofChange fnExactHigherQcWrong)

/- THE SECOND FORM. 'bulk': how many values and letters a reading holds, each counted each time it is reached (what is shared counts as often as it is met; a slice's spare places count too). A statement '..UptoSaid' is the law's where the arguments, and the package variables that the reading takes, are together of bulk at most 1048576: NARROWER than '..Said'. Prove '..Said' where nothing that the law and all that it calls make is longer than what came in: it says more and counts as full. Else prove '..UptoSaid'. A law counts once. -/
mutual
def uptoBulk {H : Type} : DataW H → Nat
  | .lit (.string bytes) => bytes.length + 1
  | .lit _ => 1
  | .nil => 1
  | .ptr d => uptoBulk d + 1
  | .slice elems spare => uptoBulkAll elems + uptoBulkAll spare + 1
  | .agg parts => uptoBulkAll parts + 1
  | .iface _ d => uptoBulk d + 1
  | .map entries => uptoBulkEntries entries + 1
  | .held _ => 1
def uptoBulkAll {H : Type} : List (DataW H) → Nat
  | [] => 0
  | d :: r => uptoBulk d + uptoBulkAll r
def uptoBulkEntries {H : Type} : List (Lit × DataW H) → Nat
  | [] => 0
  | x :: r => uptoBulkEntry x + uptoBulkEntries r
def uptoBulkEntry {H : Type} : Lit × DataW H → Nat
  | (.string bytes, d) => bytes.length + uptoBulk d + 1
  | (_, d) => uptoBulk d + 1
 end
def uptoSmall : (H : Type) → List (DataW H) → Bool := fun _ ds => decide (uptoBulkAll ds ≤ 1048576)
def OpenSpec.upto (s : _root_.Go.ChangeSpec) : _root_.Go.OpenSpec := { _root_.Go.OpenSpec.ofChange s with cond := some uptoSmall }

/-- 'laws.FnExactSignersOf', WHERE WHAT IT READS IS OF BULK AT MOST 1048576: true; the input reads as it did. -/
def fnExactSignersOfUptoRow : OpenClaim := { program := "ytnghhfgbobpnkan", sum := "f8285d2fdd0f65f1c71dec7eb23ecc34e613800323c7f8088b371ecb68ad2070", func := "loop.example/g00330/laws.FnExactSignersOf", spec := "fnExactSignersOf", apart := false, narrowed := true }
def FnExactSignersOfUptoSaid : Prop := fnExactSignersOfUptoRow.holds Try.pinned (OpenSpec.upto fnExactSignersOfSpec)

/-- 'laws.FnExactCountOf', WHERE WHAT IT READS IS OF BULK AT MOST 1048576: true; the input reads as it did. -/
def fnExactCountOfUptoRow : OpenClaim := { program := "ytnghhfgbobpnkan", sum := "f8285d2fdd0f65f1c71dec7eb23ecc34e613800323c7f8088b371ecb68ad2070", func := "loop.example/g00330/laws.FnExactCountOf", spec := "fnExactCountOf", apart := false, narrowed := true }
def FnExactCountOfUptoSaid : Prop := fnExactCountOfUptoRow.holds Try.pinned (OpenSpec.upto fnExactCountOfSpec)

/-- 'laws.FnExactQcRight', WHERE WHAT IT READS IS OF BULK AT MOST 1048576: true; the input reads as it did. -/
def fnExactQcRightUptoRow : OpenClaim := { program := "ytnghhfgbobpnkan", sum := "f8285d2fdd0f65f1c71dec7eb23ecc34e613800323c7f8088b371ecb68ad2070", func := "loop.example/g00330/laws.FnExactQcRight", spec := "fnExactQcRight", apart := false, narrowed := true }
def FnExactQcRightUptoSaid : Prop := fnExactQcRightUptoRow.holds Try.pinned (OpenSpec.upto fnExactQcRightSpec)

/-- 'laws.FnExactQcOf', WHERE WHAT IT READS IS OF BULK AT MOST 1048576: true; the input reads as it did. -/
def fnExactQcOfUptoRow : OpenClaim := { program := "ytnghhfgbobpnkan", sum := "f8285d2fdd0f65f1c71dec7eb23ecc34e613800323c7f8088b371ecb68ad2070", func := "loop.example/g00330/laws.FnExactQcOf", spec := "fnExactQcOf", apart := false, narrowed := true }
def FnExactQcOfUptoSaid : Prop := fnExactQcOfUptoRow.holds Try.pinned (OpenSpec.upto fnExactQcOfSpec)

/-- 'laws.FnExactHigherQc', WHERE WHAT IT READS IS OF BULK AT MOST 1048576: true; the input reads as it did. -/
def fnExactHigherQcUptoRow : OpenClaim := { program := "ytnghhfgbobpnkan", sum := "f8285d2fdd0f65f1c71dec7eb23ecc34e613800323c7f8088b371ecb68ad2070", func := "loop.example/g00330/laws.FnExactHigherQc", spec := "fnExactHigherQc", apart := false, narrowed := true }
def FnExactHigherQcUptoSaid : Prop := fnExactHigherQcUptoRow.holds Try.pinned (OpenSpec.upto fnExactHigherQcSpec)

end Rows
end Go.Proofs.Ytnghhfgbobpnkan
