/-
  No cell of these rows narrows 'for every input' (looked for: loops, veiled, ifaces, maps, wideKeys, modest, calm, conditions, laid).
  DERIVED. THE GIVEN ROWS OF THIS SEAT. 6 by the template 'for every input the law returns true; each argument reads behind the call as it read before'; 0 by the template 'total and deterministic' (their statements: YtnghhfgbobpnkamTotals.lean).
  GIVEN WITH THE SEED: the statements are not yours to turn. If you find one false, say at which input.
  Laid BY PROGRAM, IN A SANDBOX (cutbox-rows.mjs): the forced cells as the released guide's own fill.sh prints them over the translation 4dc0553cbf04fd90… (all of the seat's roots in one cut). By AI agents, Wed Nov 11 2026. No macro, syntax, notation, axiom, sorry.
-/
import Derived.Test.YtnghhfgbobpnkamChecked
import GoSem.Claim
import GoSem.ClaimJoined
import GoSem.ClaimMapViews
import Derived.JoinedTies
import Derived.KernelRfl
namespace Go.Proofs.Ytnghhfgbobpnkam
/- THE CELL 'sum', in the pinned program and in every row, IS THE sha256 OF THE DUMP (.gsa) THAT YtnghhfgbobpnkamProg.lean LOADS. Nothing in Lean hashes anything: it is a label: what it is worth is what the hold of that sum in a sandbox is worth. -/
noncomputable def Try.pinned : Pinned := { name := "ytnghhfgbobpnkam", sum := "4dc0553cbf04fd904ee3afb717e5fe97f4ce12c987af3074eebb64cb34ee946c", checked := Try.checked }
namespace Rows
def none {H : Type} : Left H := { results := [], args := [] }

/-- 'laws.FnExactRowAfter': WHATEVER THE INPUT: true; the input reads as it did. -/
def fnExactRowAfterSpec : ChangeSpec := { name := "fnExactRowAfter", fn := fun _ => fun
  | [d1, d2, d3] => { results := [.lit (.bool true)], args := [d1, d2, d3] }
  | _ => none }
def fnExactRowAfterRow : OpenClaim := { program := "ytnghhfgbobpnkam", sum := "4dc0553cbf04fd904ee3afb717e5fe97f4ce12c987af3074eebb64cb34ee946c", func := "loop.example/g00330/laws.FnExactRowAfter", spec := "fnExactRowAfter", unfollowed := true, recurses := true, apart := false }
def FnExactRowAfterSaid : Prop := fnExactRowAfterRow.holds Try.pinned (OpenSpec.ofChange fnExactRowAfterSpec)

/-- ITS FALSE NEIGHBOUR: 'it returns false'. Refute it at one input. -/
def fnExactRowAfterWrong : ChangeSpec := { name := "fnExactRowAfter", fn := fun _ => fun
  | [d1, d2, d3] => { results := [.lit (.bool false)], args := [d1, d2, d3] }
  | _ => none }
def FnExactRowAfterWrongFalsely : Prop := fnExactRowAfterRow.holds Try.pinned (OpenSpec.ofChange fnExactRowAfterWrong)

/-- 'laws.FnExactBeginning': WHATEVER THE INPUT: true; the input reads as it did. -/
def fnExactBeginningSpec : ChangeSpec := { name := "fnExactBeginning", fn := fun _ => fun
  | [d1, d2] => { results := [.lit (.bool true)], args := [d1, d2] }
  | _ => none }
def fnExactBeginningRow : OpenClaim := { program := "ytnghhfgbobpnkam", sum := "4dc0553cbf04fd904ee3afb717e5fe97f4ce12c987af3074eebb64cb34ee946c", func := "loop.example/g00330/laws.FnExactBeginning", spec := "fnExactBeginning", apart := false }
def FnExactBeginningSaid : Prop := fnExactBeginningRow.holds Try.pinned (OpenSpec.ofChange fnExactBeginningSpec)

/-- ITS FALSE NEIGHBOUR: 'it returns false'. Refute it at one input. -/
def fnExactBeginningWrong : ChangeSpec := { name := "fnExactBeginning", fn := fun _ => fun
  | [d1, d2] => { results := [.lit (.bool false)], args := [d1, d2] }
  | _ => none }
def FnExactBeginningWrongFalsely : Prop := fnExactBeginningRow.holds Try.pinned (OpenSpec.ofChange fnExactBeginningWrong)

/-- 'laws.FnExactFaults': WHATEVER THE INPUT: true; the input reads as it did. -/
def fnExactFaultsSpec : ChangeSpec := { name := "fnExactFaults", fn := fun _ => fun
  | [d] => { results := [.lit (.bool true)], args := [d] }
  | _ => none }
def fnExactFaultsRow : OpenClaim := { program := "ytnghhfgbobpnkam", sum := "4dc0553cbf04fd904ee3afb717e5fe97f4ce12c987af3074eebb64cb34ee946c", func := "loop.example/g00330/laws.FnExactFaults", spec := "fnExactFaults", apart := false }
def FnExactFaultsSaid : Prop := fnExactFaultsRow.holds Try.pinned (OpenSpec.ofChange fnExactFaultsSpec)

/-- ITS FALSE NEIGHBOUR: 'it returns false'. Refute it at one input. -/
def fnExactFaultsWrong : ChangeSpec := { name := "fnExactFaults", fn := fun _ => fun
  | [d] => { results := [.lit (.bool false)], args := [d] }
  | _ => none }
def FnExactFaultsWrongFalsely : Prop := fnExactFaultsRow.holds Try.pinned (OpenSpec.ofChange fnExactFaultsWrong)

/-- 'laws.FnExactQuorum': WHATEVER THE INPUT: true; the input reads as it did. -/
def fnExactQuorumSpec : ChangeSpec := { name := "fnExactQuorum", fn := fun _ => fun
  | [d] => { results := [.lit (.bool true)], args := [d] }
  | _ => none }
def fnExactQuorumRow : OpenClaim := { program := "ytnghhfgbobpnkam", sum := "4dc0553cbf04fd904ee3afb717e5fe97f4ce12c987af3074eebb64cb34ee946c", func := "loop.example/g00330/laws.FnExactQuorum", spec := "fnExactQuorum", apart := false }
def FnExactQuorumSaid : Prop := fnExactQuorumRow.holds Try.pinned (OpenSpec.ofChange fnExactQuorumSpec)

/-- ITS FALSE NEIGHBOUR: 'it returns false'. Refute it at one input. -/
def fnExactQuorumWrong : ChangeSpec := { name := "fnExactQuorum", fn := fun _ => fun
  | [d] => { results := [.lit (.bool false)], args := [d] }
  | _ => none }
def FnExactQuorumWrongFalsely : Prop := fnExactQuorumRow.holds Try.pinned (OpenSpec.ofChange fnExactQuorumWrong)

/-- 'laws.FnExactLeaderOf': WHATEVER THE INPUT: true; the input reads as it did. -/
def fnExactLeaderOfSpec : ChangeSpec := { name := "fnExactLeaderOf", fn := fun _ => fun
  | [d1, d2] => { results := [.lit (.bool true)], args := [d1, d2] }
  | _ => none }
def fnExactLeaderOfRow : OpenClaim := { program := "ytnghhfgbobpnkam", sum := "4dc0553cbf04fd904ee3afb717e5fe97f4ce12c987af3074eebb64cb34ee946c", func := "loop.example/g00330/laws.FnExactLeaderOf", spec := "fnExactLeaderOf", apart := false }
def FnExactLeaderOfSaid : Prop := fnExactLeaderOfRow.holds Try.pinned (OpenSpec.ofChange fnExactLeaderOfSpec)

/-- ITS FALSE NEIGHBOUR: 'it returns false'. Refute it at one input. -/
def fnExactLeaderOfWrong : ChangeSpec := { name := "fnExactLeaderOf", fn := fun _ => fun
  | [d1, d2] => { results := [.lit (.bool false)], args := [d1, d2] }
  | _ => none }
def FnExactLeaderOfWrongFalsely : Prop := fnExactLeaderOfRow.holds Try.pinned (OpenSpec.ofChange fnExactLeaderOfWrong)

/-- 'laws.FnExactVoteOk': WHATEVER THE INPUT: true; the input reads as it did. -/
def fnExactVoteOkSpec : ChangeSpec := { name := "fnExactVoteOk", fn := fun _ => fun
  | [d1, d2, d3] => { results := [.lit (.bool true)], args := [d1, d2, d3] }
  | _ => none }
def fnExactVoteOkRow : OpenClaim := { program := "ytnghhfgbobpnkam", sum := "4dc0553cbf04fd904ee3afb717e5fe97f4ce12c987af3074eebb64cb34ee946c", func := "loop.example/g00330/laws.FnExactVoteOk", spec := "fnExactVoteOk", apart := false }
def FnExactVoteOkSaid : Prop := fnExactVoteOkRow.holds Try.pinned (OpenSpec.ofChange fnExactVoteOkSpec)

/-- ITS FALSE NEIGHBOUR: 'it returns false'. Refute it at one input. -/
def fnExactVoteOkWrong : ChangeSpec := { name := "fnExactVoteOk", fn := fun _ => fun
  | [d1, d2, d3] => { results := [.lit (.bool false)], args := [d1, d2, d3] }
  | _ => none }
def FnExactVoteOkWrongFalsely : Prop := fnExactVoteOkRow.holds Try.pinned (OpenSpec.ofChange fnExactVoteOkWrong)

/- THE SECOND FORM. 'bulk': how many values and letters a reading holds, each counted each time it is reached (what is shared counts as often as it is met; a slice's spare places count too). A statement '..UptoSaid' is the law's where the arguments, and the package variables that the reading takes, are together of bulk at most 1048576: NARROWER than '..Said'. Prove '..Said' where nothing that the law and all that it calls make is longer than what came in: it says more and counts as full. Else prove '..UptoSaid'. A law counts once. -/
mutual
def uptoBulk {H : Type} : DataW H → Nat
  | .lit (.string bytes) => bytes.length + 1
  | .lit _ => 1
  | .nil => 1
  | .ptr d => uptoBulk d + 1
  | .slice elems spare => uptoBulkAll elems + uptoBulkAll spare + 1
  | .agg parts => uptoBulkAll parts + 1
  | .iface _ d => uptoBulk d + 1
  | .map entries => uptoBulkEntries entries + 1
  | .held _ => 1
def uptoBulkAll {H : Type} : List (DataW H) → Nat
  | [] => 0
  | d :: r => uptoBulk d + uptoBulkAll r
def uptoBulkEntries {H : Type} : List (Lit × DataW H) → Nat
  | [] => 0
  | x :: r => uptoBulkEntry x + uptoBulkEntries r
def uptoBulkEntry {H : Type} : Lit × DataW H → Nat
  | (.string bytes, d) => bytes.length + uptoBulk d + 1
  | (_, d) => uptoBulk d + 1
 end
def uptoSmall : (H : Type) → List (DataW H) → Bool := fun _ ds => decide (uptoBulkAll ds ≤ 1048576)
def OpenSpec.upto (s : _root_.Go.ChangeSpec) : _root_.Go.OpenSpec := { _root_.Go.OpenSpec.ofChange s with cond := some uptoSmall }

/-- 'laws.FnExactRowAfter', WHERE WHAT IT READS IS OF BULK AT MOST 1048576: true; the input reads as it did. -/
def fnExactRowAfterUptoRow : OpenClaim := { program := "ytnghhfgbobpnkam", sum := "4dc0553cbf04fd904ee3afb717e5fe97f4ce12c987af3074eebb64cb34ee946c", func := "loop.example/g00330/laws.FnExactRowAfter", spec := "fnExactRowAfter", unfollowed := true, recurses := true, apart := false, narrowed := true }
def FnExactRowAfterUptoSaid : Prop := fnExactRowAfterUptoRow.holds Try.pinned (OpenSpec.upto fnExactRowAfterSpec)

/-- 'laws.FnExactBeginning', WHERE WHAT IT READS IS OF BULK AT MOST 1048576: true; the input reads as it did. -/
def fnExactBeginningUptoRow : OpenClaim := { program := "ytnghhfgbobpnkam", sum := "4dc0553cbf04fd904ee3afb717e5fe97f4ce12c987af3074eebb64cb34ee946c", func := "loop.example/g00330/laws.FnExactBeginning", spec := "fnExactBeginning", apart := false, narrowed := true }
def FnExactBeginningUptoSaid : Prop := fnExactBeginningUptoRow.holds Try.pinned (OpenSpec.upto fnExactBeginningSpec)

/-- 'laws.FnExactFaults', WHERE WHAT IT READS IS OF BULK AT MOST 1048576: true; the input reads as it did. -/
def fnExactFaultsUptoRow : OpenClaim := { program := "ytnghhfgbobpnkam", sum := "4dc0553cbf04fd904ee3afb717e5fe97f4ce12c987af3074eebb64cb34ee946c", func := "loop.example/g00330/laws.FnExactFaults", spec := "fnExactFaults", apart := false, narrowed := true }
def FnExactFaultsUptoSaid : Prop := fnExactFaultsUptoRow.holds Try.pinned (OpenSpec.upto fnExactFaultsSpec)

/-- 'laws.FnExactQuorum', WHERE WHAT IT READS IS OF BULK AT MOST 1048576: true; the input reads as it did. -/
def fnExactQuorumUptoRow : OpenClaim := { program := "ytnghhfgbobpnkam", sum := "4dc0553cbf04fd904ee3afb717e5fe97f4ce12c987af3074eebb64cb34ee946c", func := "loop.example/g00330/laws.FnExactQuorum", spec := "fnExactQuorum", apart := false, narrowed := true }
def FnExactQuorumUptoSaid : Prop := fnExactQuorumUptoRow.holds Try.pinned (OpenSpec.upto fnExactQuorumSpec)

/-- 'laws.FnExactLeaderOf', WHERE WHAT IT READS IS OF BULK AT MOST 1048576: true; the input reads as it did. -/
def fnExactLeaderOfUptoRow : OpenClaim := { program := "ytnghhfgbobpnkam", sum := "4dc0553cbf04fd904ee3afb717e5fe97f4ce12c987af3074eebb64cb34ee946c", func := "loop.example/g00330/laws.FnExactLeaderOf", spec := "fnExactLeaderOf", apart := false, narrowed := true }
def FnExactLeaderOfUptoSaid : Prop := fnExactLeaderOfUptoRow.holds Try.pinned (OpenSpec.upto fnExactLeaderOfSpec)

/-- 'laws.FnExactVoteOk', WHERE WHAT IT READS IS OF BULK AT MOST 1048576: true; the input reads as it did. -/
def fnExactVoteOkUptoRow : OpenClaim := { program := "ytnghhfgbobpnkam", sum := "4dc0553cbf04fd904ee3afb717e5fe97f4ce12c987af3074eebb64cb34ee946c", func := "loop.example/g00330/laws.FnExactVoteOk", spec := "fnExactVoteOk", apart := false, narrowed := true }
def FnExactVoteOkUptoSaid : Prop := fnExactVoteOkUptoRow.holds Try.pinned (OpenSpec.upto fnExactVoteOkSpec)

end Rows
end Go.Proofs.Ytnghhfgbobpnkam
