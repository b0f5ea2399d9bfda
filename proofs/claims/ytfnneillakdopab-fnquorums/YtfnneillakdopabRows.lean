/-
  No cell of these rows narrows 'for every input' (looked for: loops, veiled, ifaces, maps, wideKeys, modest, calm, conditions, laid).
  DERIVED. THE GIVEN ROWS OF THIS SEAT. 5 by the template 'for every input the law returns true; each argument reads behind the call as it read before'; 0 by the template 'total and deterministic' (their statements: YtfnneillakdopabTotals.lean).
  GIVEN WITH THE SEED: the statements are not yours to turn. If you find one false, say at which input.
  Laid BY PROGRAM, IN A SANDBOX (cutbox-rows.mjs): the forced cells as the released guide's own fill.sh prints them over the translation ddc5632e9f660718… (all of the seat's roots in one cut). By AI agents, Wed Nov 11 2026. No macro, syntax, notation, axiom, sorry.
-/
import Derived.Test.YtfnneillakdopabChecked
import GoSem.Claim
import GoSem.ClaimJoined
import GoSem.ClaimMapViews
import Derived.JoinedTies
import Derived.KernelRfl
namespace Go.Proofs.Ytfnneillakdopab
/- THE CELL 'sum', in the pinned program and in every row, IS THE sha256 OF THE DUMP (.gsa) THAT YtfnneillakdopabProg.lean LOADS. Nothing in Lean hashes anything: it is a label: what it is worth is what the hold of that sum in a sandbox is worth. -/
noncomputable def Try.pinned : Pinned := { name := "ytfnneillakdopab", sum := "ddc5632e9f660718bc1dd1fbcd73783fa295681203239bd94e746c8d4248577c", checked := Try.checked }
namespace Rows
def none {H : Type} : Left H := { results := [], args := [] }

/-- 'laws.FnStands': WHATEVER THE INPUT: true; the input reads as it did. -/
def fnStandsSpec : ChangeSpec := { name := "fnStands", fn := fun _ => fun
  | [d] => { results := [.lit (.bool true)], args := [d] }
  | _ => none }
def fnStandsRow : OpenClaim := { program := "ytfnneillakdopab", sum := "ddc5632e9f660718bc1dd1fbcd73783fa295681203239bd94e746c8d4248577c", func := "loop.example/g00330/laws.FnStands", spec := "fnStands", unfollowed := true, recurses := true, apart := false }
def FnStandsSaid : Prop := fnStandsRow.holds Try.pinned (OpenSpec.ofChange fnStandsSpec)

/-- ITS FALSE NEIGHBOUR: 'it returns false'. Refute it at one input. -/
def fnStandsWrong : ChangeSpec := { name := "fnStands", fn := fun _ => fun
  | [d] => { results := [.lit (.bool false)], args := [d] }
  | _ => none }
def FnStandsWrongFalsely : Prop := fnStandsRow.holds Try.pinned (OpenSpec.ofChange fnStandsWrong)

/-- 'laws.FnStandsTold': WHATEVER THE INPUT: true; the input reads as it did. -/
def fnStandsToldSpec : ChangeSpec := { name := "fnStandsTold", fn := fun _ => fun
  | [d] => { results := [.lit (.bool true)], args := [d] }
  | _ => none }
def fnStandsToldRow : OpenClaim := { program := "ytfnneillakdopab", sum := "ddc5632e9f660718bc1dd1fbcd73783fa295681203239bd94e746c8d4248577c", func := "loop.example/g00330/laws.FnStandsTold", spec := "fnStandsTold", unfollowed := true, recurses := true, apart := false }
def FnStandsToldSaid : Prop := fnStandsToldRow.holds Try.pinned (OpenSpec.ofChange fnStandsToldSpec)

/-- ITS FALSE NEIGHBOUR: 'it returns false'. Refute it at one input. -/
def fnStandsToldWrong : ChangeSpec := { name := "fnStandsTold", fn := fun _ => fun
  | [d] => { results := [.lit (.bool false)], args := [d] }
  | _ => none }
def FnStandsToldWrongFalsely : Prop := fnStandsToldRow.holds Try.pinned (OpenSpec.ofChange fnStandsToldWrong)

/-- 'laws.FnQuorums': WHATEVER THE INPUT: true; the input reads as it did. -/
def fnQuorumsSpec : ChangeSpec := { name := "fnQuorums", fn := fun _ => fun
  | [d] => { results := [.lit (.bool true)], args := [d] }
  | _ => none }
def fnQuorumsRow : OpenClaim := { program := "ytfnneillakdopab", sum := "ddc5632e9f660718bc1dd1fbcd73783fa295681203239bd94e746c8d4248577c", func := "loop.example/g00330/laws.FnQuorums", spec := "fnQuorums", apart := false }
def FnQuorumsSaid : Prop := fnQuorumsRow.holds Try.pinned (OpenSpec.ofChange fnQuorumsSpec)

/-- ITS FALSE NEIGHBOUR: 'it returns false'. Refute it at one input. -/
def fnQuorumsWrong : ChangeSpec := { name := "fnQuorums", fn := fun _ => fun
  | [d] => { results := [.lit (.bool false)], args := [d] }
  | _ => none }
def FnQuorumsWrongFalsely : Prop := fnQuorumsRow.holds Try.pinned (OpenSpec.ofChange fnQuorumsWrong)

/-- 'laws.FnCerts': WHATEVER THE INPUT: true; the input reads as it did. -/
def fnCertsSpec : ChangeSpec := { name := "fnCerts", fn := fun _ => fun
  | [d] => { results := [.lit (.bool true)], args := [d] }
  | _ => none }
def fnCertsRow : OpenClaim := { program := "ytfnneillakdopab", sum := "ddc5632e9f660718bc1dd1fbcd73783fa295681203239bd94e746c8d4248577c", func := "loop.example/g00330/laws.FnCerts", spec := "fnCerts", apart := false }
def FnCertsSaid : Prop := fnCertsRow.holds Try.pinned (OpenSpec.ofChange fnCertsSpec)

/-- ITS FALSE NEIGHBOUR: 'it returns false'. Refute it at one input. -/
def fnCertsWrong : ChangeSpec := { name := "fnCerts", fn := fun _ => fun
  | [d] => { results := [.lit (.bool false)], args := [d] }
  | _ => none }
def FnCertsWrongFalsely : Prop := fnCertsRow.holds Try.pinned (OpenSpec.ofChange fnCertsWrong)

/-- 'laws.FnCertsTold': WHATEVER THE INPUT: true; the input reads as it did. -/
def fnCertsToldSpec : ChangeSpec := { name := "fnCertsTold", fn := fun _ => fun
  | [d] => { results := [.lit (.bool true)], args := [d] }
  | _ => none }
def fnCertsToldRow : OpenClaim := { program := "ytfnneillakdopab", sum := "ddc5632e9f660718bc1dd1fbcd73783fa295681203239bd94e746c8d4248577c", func := "loop.example/g00330/laws.FnCertsTold", spec := "fnCertsTold", apart := false }
def FnCertsToldSaid : Prop := fnCertsToldRow.holds Try.pinned (OpenSpec.ofChange fnCertsToldSpec)

/-- ITS FALSE NEIGHBOUR: 'it returns false'. Refute it at one input. -/
def fnCertsToldWrong : ChangeSpec := { name := "fnCertsTold", fn := fun _ => fun
  | [d] => { results := [.lit (.bool false)], args := [d] }
  | _ => none }
def FnCertsToldWrongFalsely : Prop := fnCertsToldRow.holds Try.pinned (OpenSpec.ofChange fnCertsToldWrong)

/- THE SECOND FORM. 'bulk': how many values and letters a reading holds, each counted each time it is reached (what is shared counts as often as it is met; a slice's spare places count too). A statement '..UptoSaid' is the law's where the arguments, and the package variables that the reading takes, are together of bulk at most 1048576: NARROWER than '..Said'. Prove '..Said' where nothing that the law and all that it calls make is longer than what came in: it says more and counts as full. Else prove '..UptoSaid'. A law counts once. -/
mutual
def uptoBulk {H : Type} : DataW H → Nat
  | .lit (.string bytes) => bytes.length + 1
  | .lit _ => 1
  | .nil => 1
  | .ptr d => uptoBulk d + 1
  | .slice elems spare => uptoBulkAll elems + uptoBulkAll spare + 1
  | .agg parts => uptoBulkAll parts + 1
  | .iface _ d => uptoBulk d + 1
  | .map entries => uptoBulkEntries entries + 1
  | .held _ => 1
def uptoBulkAll {H : Type} : List (DataW H) → Nat
  | [] => 0
  | d :: r => uptoBulk d + uptoBulkAll r
def uptoBulkEntries {H : Type} : List (Lit × DataW H) → Nat
  | [] => 0
  | x :: r => uptoBulkEntry x + uptoBulkEntries r
def uptoBulkEntry {H : Type} : Lit × DataW H → Nat
  | (.string bytes, d) => bytes.length + uptoBulk d + 1
  | (_, d) => uptoBulk d + 1
 end
def uptoSmall : (H : Type) → List (DataW H) → Bool := fun _ ds => decide (uptoBulkAll ds ≤ 1048576)
def OpenSpec.upto (s : _root_.Go.ChangeSpec) : _root_.Go.OpenSpec := { _root_.Go.OpenSpec.ofChange s with cond := some uptoSmall }

/-- 'laws.FnStands', WHERE WHAT IT READS IS OF BULK AT MOST 1048576: true; the input reads as it did. -/
def fnStandsUptoRow : OpenClaim := { program := "ytfnneillakdopab", sum := "ddc5632e9f660718bc1dd1fbcd73783fa295681203239bd94e746c8d4248577c", func := "loop.example/g00330/laws.FnStands", spec := "fnStands", unfollowed := true, recurses := true, apart := false, narrowed := true }
def FnStandsUptoSaid : Prop := fnStandsUptoRow.holds Try.pinned (OpenSpec.upto fnStandsSpec)

/-- 'laws.FnStandsTold', WHERE WHAT IT READS IS OF BULK AT MOST 1048576: true; the input reads as it did. -/
def fnStandsToldUptoRow : OpenClaim := { program := "ytfnneillakdopab", sum := "ddc5632e9f660718bc1dd1fbcd73783fa295681203239bd94e746c8d4248577c", func := "loop.example/g00330/laws.FnStandsTold", spec := "fnStandsTold", unfollowed := true, recurses := true, apart := false, narrowed := true }
def FnStandsToldUptoSaid : Prop := fnStandsToldUptoRow.holds Try.pinned (OpenSpec.upto fnStandsToldSpec)

/-- 'laws.FnQuorums', WHERE WHAT IT READS IS OF BULK AT MOST 1048576: true; the input reads as it did. -/
def fnQuorumsUptoRow : OpenClaim := { program := "ytfnneillakdopab", sum := "ddc5632e9f660718bc1dd1fbcd73783fa295681203239bd94e746c8d4248577c", func := "loop.example/g00330/laws.FnQuorums", spec := "fnQuorums", apart := false, narrowed := true }
def FnQuorumsUptoSaid : Prop := fnQuorumsUptoRow.holds Try.pinned (OpenSpec.upto fnQuorumsSpec)

/-- 'laws.FnCerts', WHERE WHAT IT READS IS OF BULK AT MOST 1048576: true; the input reads as it did. -/
def fnCertsUptoRow : OpenClaim := { program := "ytfnneillakdopab", sum := "ddc5632e9f660718bc1dd1fbcd73783fa295681203239bd94e746c8d4248577c", func := "loop.example/g00330/laws.FnCerts", spec := "fnCerts", apart := false, narrowed := true }
def FnCertsUptoSaid : Prop := fnCertsUptoRow.holds Try.pinned (OpenSpec.upto fnCertsSpec)

/-- 'laws.FnCertsTold', WHERE WHAT IT READS IS OF BULK AT MOST 1048576: true; the input reads as it did. -/
def fnCertsToldUptoRow : OpenClaim := { program := "ytfnneillakdopab", sum := "ddc5632e9f660718bc1dd1fbcd73783fa295681203239bd94e746c8d4248577c", func := "loop.example/g00330/laws.FnCertsTold", spec := "fnCertsTold", apart := false, narrowed := true }
def FnCertsToldUptoSaid : Prop := fnCertsToldUptoRow.holds Try.pinned (OpenSpec.upto fnCertsToldSpec)

end Rows
end Go.Proofs.Ytfnneillakdopab
