/-
  No cell of these rows narrows 'for every input' (looked for: loops, veiled, ifaces, maps, wideKeys, modest, calm, conditions, laid).
  DERIVED. THE GIVEN ROWS OF THIS SEAT. 6 by the template 'for every input the law returns true; each argument reads behind the call as it read before'; 0 by the template 'total and deterministic' (their statements: YtnghhfgbobpnkaqTotals.lean).
  GIVEN WITH THE SEED: the statements are not yours to turn. If you find one false, say at which input.
  Laid BY PROGRAM, IN A SANDBOX (cutbox-rows.mjs): the forced cells as the released guide's own fill.sh prints them over the translation 7bbcc6732ddd41e4… (all of the seat's roots in one cut). By AI agents, Wed Nov 11 2026. No macro, syntax, notation, axiom, sorry.
-/
import Derived.Test.YtnghhfgbobpnkaqChecked
import GoSem.Claim
import GoSem.ClaimJoined
import GoSem.ClaimMapViews
import Derived.JoinedTies
import Derived.KernelRfl
namespace Go.Proofs.Ytnghhfgbobpnkaq
/- THE CELL 'sum', in the pinned program and in every row, IS THE sha256 OF THE DUMP (.gsa) THAT YtnghhfgbobpnkaqProg.lean LOADS. Nothing in Lean hashes anything: it is a label: what it is worth is what the hold of that sum in a sandbox is worth. -/
noncomputable def Try.pinned : Pinned := { name := "ytnghhfgbobpnkaq", sum := "7bbcc6732ddd41e4ee396bfc1dff4802c8ff7219f6c3d46511db2603b20abe86", checked := Try.checked }
namespace Rows
def none {H : Type} : Left H := { results := [], args := [] }

/-- 'laws.FnExactRowCells': WHATEVER THE INPUT: true; the input reads as it did. -/
def fnExactRowCellsSpec : ChangeSpec := { name := "fnExactRowCells", fn := fun _ => fun
  | [d1, d2] => { results := [.lit (.bool true)], args := [d1, d2] }
  | _ => none }
def fnExactRowCellsRow : OpenClaim := { program := "ytnghhfgbobpnkaq", sum := "7bbcc6732ddd41e4ee396bfc1dff4802c8ff7219f6c3d46511db2603b20abe86", func := "loop.example/g00330/laws.FnExactRowCells", spec := "fnExactRowCells", unfollowed := true, recurses := true, plainKeys := false, apart := false }
def FnExactRowCellsSaid : Prop := fnExactRowCellsRow.holds Try.pinned (OpenSpec.ofChange fnExactRowCellsSpec)

/-- ITS FALSE NEIGHBOUR: 'it returns false'. Refute it at one input. -/
def fnExactRowCellsWrong : ChangeSpec := { name := "fnExactRowCells", fn := fun _ => fun
  | [d1, d2] => { results := [.lit (.bool false)], args := [d1, d2] }
  | _ => none }
def FnExactRowCellsWrongFalsely : Prop := fnExactRowCellsRow.holds Try.pinned (OpenSpec.ofChange fnExactRowCellsWrong)

/-- 'laws.FnExactSaidTwice': WHATEVER THE INPUT: true; the input reads as it did. -/
def fnExactSaidTwiceSpec : ChangeSpec := { name := "fnExactSaidTwice", fn := fun _ => fun
  | [d] => { results := [.lit (.bool true)], args := [d] }
  | _ => none }
def fnExactSaidTwiceRow : OpenClaim := { program := "ytnghhfgbobpnkaq", sum := "7bbcc6732ddd41e4ee396bfc1dff4802c8ff7219f6c3d46511db2603b20abe86", func := "loop.example/g00330/laws.FnExactSaidTwice", spec := "fnExactSaidTwice", plainKeys := false, apart := false }
def FnExactSaidTwiceSaid : Prop := fnExactSaidTwiceRow.holds Try.pinned (OpenSpec.ofChange fnExactSaidTwiceSpec)

/-- ITS FALSE NEIGHBOUR: 'it returns false'. Refute it at one input. -/
def fnExactSaidTwiceWrong : ChangeSpec := { name := "fnExactSaidTwice", fn := fun _ => fun
  | [d] => { results := [.lit (.bool false)], args := [d] }
  | _ => none }
def FnExactSaidTwiceWrongFalsely : Prop := fnExactSaidTwiceRow.holds Try.pinned (OpenSpec.ofChange fnExactSaidTwiceWrong)

/-- 'laws.FnExactSafeBlock': WHATEVER THE INPUT: true; the input reads as it did. -/
def fnExactSafeBlockSpec : ChangeSpec := { name := "fnExactSafeBlock", fn := fun _ => fun
  | [d1, d2, d3] => { results := [.lit (.bool true)], args := [d1, d2, d3] }
  | _ => none }
def fnExactSafeBlockRow : OpenClaim := { program := "ytnghhfgbobpnkaq", sum := "7bbcc6732ddd41e4ee396bfc1dff4802c8ff7219f6c3d46511db2603b20abe86", func := "loop.example/g00330/laws.FnExactSafeBlock", spec := "fnExactSafeBlock", unfollowed := true, recurses := true, plainKeys := false, apart := false }
def FnExactSafeBlockSaid : Prop := fnExactSafeBlockRow.holds Try.pinned (OpenSpec.ofChange fnExactSafeBlockSpec)

/-- ITS FALSE NEIGHBOUR: 'it returns false'. Refute it at one input. -/
def fnExactSafeBlockWrong : ChangeSpec := { name := "fnExactSafeBlock", fn := fun _ => fun
  | [d1, d2, d3] => { results := [.lit (.bool false)], args := [d1, d2, d3] }
  | _ => none }
def FnExactSafeBlockWrongFalsely : Prop := fnExactSafeBlockRow.holds Try.pinned (OpenSpec.ofChange fnExactSafeBlockWrong)

/-- 'laws.FnExactMayVote': WHATEVER THE INPUT: true; the input reads as it did. -/
def fnExactMayVoteSpec : ChangeSpec := { name := "fnExactMayVote", fn := fun _ => fun
  | [d1, d2, d3] => { results := [.lit (.bool true)], args := [d1, d2, d3] }
  | _ => none }
def fnExactMayVoteRow : OpenClaim := { program := "ytnghhfgbobpnkaq", sum := "7bbcc6732ddd41e4ee396bfc1dff4802c8ff7219f6c3d46511db2603b20abe86", func := "loop.example/g00330/laws.FnExactMayVote", spec := "fnExactMayVote", unfollowed := true, recurses := true, plainKeys := false, apart := false }
def FnExactMayVoteSaid : Prop := fnExactMayVoteRow.holds Try.pinned (OpenSpec.ofChange fnExactMayVoteSpec)

/-- ITS FALSE NEIGHBOUR: 'it returns false'. Refute it at one input. -/
def fnExactMayVoteWrong : ChangeSpec := { name := "fnExactMayVote", fn := fun _ => fun
  | [d1, d2, d3] => { results := [.lit (.bool false)], args := [d1, d2, d3] }
  | _ => none }
def FnExactMayVoteWrongFalsely : Prop := fnExactMayVoteRow.holds Try.pinned (OpenSpec.ofChange fnExactMayVoteWrong)

/-- 'laws.FnExactVoted': WHATEVER THE INPUT: true; the input reads as it did. -/
def fnExactVotedSpec : ChangeSpec := { name := "fnExactVoted", fn := fun _ => fun
  | [d1, d2, d3, d4] => { results := [.lit (.bool true)], args := [d1, d2, d3, d4] }
  | _ => none }
def fnExactVotedRow : OpenClaim := { program := "ytnghhfgbobpnkaq", sum := "7bbcc6732ddd41e4ee396bfc1dff4802c8ff7219f6c3d46511db2603b20abe86", func := "loop.example/g00330/laws.FnExactVoted", spec := "fnExactVoted", plainKeys := false, apart := false }
def FnExactVotedSaid : Prop := fnExactVotedRow.holds Try.pinned (OpenSpec.ofChange fnExactVotedSpec)

/-- ITS FALSE NEIGHBOUR: 'it returns false'. Refute it at one input. -/
def fnExactVotedWrong : ChangeSpec := { name := "fnExactVoted", fn := fun _ => fun
  | [d1, d2, d3, d4] => { results := [.lit (.bool false)], args := [d1, d2, d3, d4] }
  | _ => none }
def FnExactVotedWrongFalsely : Prop := fnExactVotedRow.holds Try.pinned (OpenSpec.ofChange fnExactVotedWrong)

/-- 'laws.FnExactEntered': WHATEVER THE INPUT: true; the input reads as it did. -/
def fnExactEnteredSpec : ChangeSpec := { name := "fnExactEntered", fn := fun _ => fun
  | [d1, d2] => { results := [.lit (.bool true)], args := [d1, d2] }
  | _ => none }
def fnExactEnteredRow : OpenClaim := { program := "ytnghhfgbobpnkaq", sum := "7bbcc6732ddd41e4ee396bfc1dff4802c8ff7219f6c3d46511db2603b20abe86", func := "loop.example/g00330/laws.FnExactEntered", spec := "fnExactEntered", plainKeys := false, apart := false }
def FnExactEnteredSaid : Prop := fnExactEnteredRow.holds Try.pinned (OpenSpec.ofChange fnExactEnteredSpec)

/-- ITS FALSE NEIGHBOUR: 'it returns false'. Refute it at one input. -/
def fnExactEnteredWrong : ChangeSpec := { name := "fnExactEntered", fn := fun _ => fun
  | [d1, d2] => { results := [.lit (.bool false)], args := [d1, d2] }
  | _ => none }
def FnExactEnteredWrongFalsely : Prop := fnExactEnteredRow.holds Try.pinned (OpenSpec.ofChange fnExactEnteredWrong)

/- THE SECOND FORM. 'bulk': how many values and letters a reading holds, each counted each time it is reached (what is shared counts as often as it is met; a slice's spare places count too). A statement '..UptoSaid' is the law's where the arguments, and the package variables that the reading takes, are together of bulk at most 1048576: NARROWER than '..Said'. Prove '..Said' where nothing that the law and all that it calls make is longer than what came in: it says more and counts as full. Else prove '..UptoSaid'. A law counts once. -/
mutual
def uptoBulk {H : Type} : DataW H → Nat
  | .lit (.string bytes) => bytes.length + 1
  | .lit _ => 1
  | .nil => 1
  | .ptr d => uptoBulk d + 1
  | .slice elems spare => uptoBulkAll elems + uptoBulkAll spare + 1
  | .agg parts => uptoBulkAll parts + 1
  | .iface _ d => uptoBulk d + 1
  | .map entries => uptoBulkEntries entries + 1
  | .held _ => 1
def uptoBulkAll {H : Type} : List (DataW H) → Nat
  | [] => 0
  | d :: r => uptoBulk d + uptoBulkAll r
def uptoBulkEntries {H : Type} : List (Lit × DataW H) → Nat
  | [] => 0
  | x :: r => uptoBulkEntry x + uptoBulkEntries r
def uptoBulkEntry {H : Type} : Lit × DataW H → Nat
  | (.string bytes, d) => bytes.length + uptoBulk d + 1
  | (_, d) => uptoBulk d + 1
 end
def uptoSmall : (H : Type) → List (DataW H) → Bool := fun _ ds => decide (uptoBulkAll ds ≤ 1048576)
def OpenSpec.upto (s : _root_.Go.ChangeSpec) : _root_.Go.OpenSpec := { _root_.Go.OpenSpec.ofChange s with cond := some uptoSmall }

/-- 'laws.FnExactRowCells', WHERE WHAT IT READS IS OF BULK AT MOST 1048576: true; the input reads as it did. -/
def fnExactRowCellsUptoRow : OpenClaim := { program := "ytnghhfgbobpnkaq", sum := "7bbcc6732ddd41e4ee396bfc1dff4802c8ff7219f6c3d46511db2603b20abe86", func := "loop.example/g00330/laws.FnExactRowCells", spec := "fnExactRowCells", unfollowed := true, recurses := true, plainKeys := false, apart := false, narrowed := true }
def FnExactRowCellsUptoSaid : Prop := fnExactRowCellsUptoRow.holds Try.pinned (OpenSpec.upto fnExactRowCellsSpec)

/-- 'laws.FnExactSaidTwice', WHERE WHAT IT READS IS OF BULK AT MOST 1048576: true; the input reads as it did. -/
def fnExactSaidTwiceUptoRow : OpenClaim := { program := "ytnghhfgbobpnkaq", sum := "7bbcc6732ddd41e4ee396bfc1dff4802c8ff7219f6c3d46511db2603b20abe86", func := "loop.example/g00330/laws.FnExactSaidTwice", spec := "fnExactSaidTwice", plainKeys := false, apart := false, narrowed := true }
def FnExactSaidTwiceUptoSaid : Prop := fnExactSaidTwiceUptoRow.holds Try.pinned (OpenSpec.upto fnExactSaidTwiceSpec)

/-- 'laws.FnExactSafeBlock', WHERE WHAT IT READS IS OF BULK AT MOST 1048576: true; the input reads as it did. -/
def fnExactSafeBlockUptoRow : OpenClaim := { program := "ytnghhfgbobpnkaq", sum := "7bbcc6732ddd41e4ee396bfc1dff4802c8ff7219f6c3d46511db2603b20abe86", func := "loop.example/g00330/laws.FnExactSafeBlock", spec := "fnExactSafeBlock", unfollowed := true, recurses := true, plainKeys := false, apart := false, narrowed := true }
def FnExactSafeBlockUptoSaid : Prop := fnExactSafeBlockUptoRow.holds Try.pinned (OpenSpec.upto fnExactSafeBlockSpec)

/-- 'laws.FnExactMayVote', WHERE WHAT IT READS IS OF BULK AT MOST 1048576: true; the input reads as it did. -/
def fnExactMayVoteUptoRow : OpenClaim := { program := "ytnghhfgbobpnkaq", sum := "7bbcc6732ddd41e4ee396bfc1dff4802c8ff7219f6c3d46511db2603b20abe86", func := "loop.example/g00330/laws.FnExactMayVote", spec := "fnExactMayVote", unfollowed := true, recurses := true, plainKeys := false, apart := false, narrowed := true }
def FnExactMayVoteUptoSaid : Prop := fnExactMayVoteUptoRow.holds Try.pinned (OpenSpec.upto fnExactMayVoteSpec)

/-- 'laws.FnExactVoted', WHERE WHAT IT READS IS OF BULK AT MOST 1048576: true; the input reads as it did. -/
def fnExactVotedUptoRow : OpenClaim := { program := "ytnghhfgbobpnkaq", sum := "7bbcc6732ddd41e4ee396bfc1dff4802c8ff7219f6c3d46511db2603b20abe86", func := "loop.example/g00330/laws.FnExactVoted", spec := "fnExactVoted", plainKeys := false, apart := false, narrowed := true }
def FnExactVotedUptoSaid : Prop := fnExactVotedUptoRow.holds Try.pinned (OpenSpec.upto fnExactVotedSpec)

/-- 'laws.FnExactEntered', WHERE WHAT IT READS IS OF BULK AT MOST 1048576: true; the input reads as it did. -/
def fnExactEnteredUptoRow : OpenClaim := { program := "ytnghhfgbobpnkaq", sum := "7bbcc6732ddd41e4ee396bfc1dff4802c8ff7219f6c3d46511db2603b20abe86", func := "loop.example/g00330/laws.FnExactEntered", spec := "fnExactEntered", plainKeys := false, apart := false, narrowed := true }
def FnExactEnteredUptoSaid : Prop := fnExactEnteredUptoRow.holds Try.pinned (OpenSpec.upto fnExactEnteredSpec)

end Rows
end Go.Proofs.Ytnghhfgbobpnkaq
