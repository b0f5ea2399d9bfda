/-
  Plain mathematics of votes: how many may lie, how many are enough, who leads; signers as bits.
-/
import Derived.Test.YtfnneillakdopabBlockN
namespace Go.Proofs.Ytfnneillakdopab
open Go.RowKit Num

def faultsT (n : Int) : Int := if n < 1 then 0 else (n - 1) / 3
def quorumT (n : Int) : Int := n - faultsT n
def leaderT (view n : Int) : Int := if n < 1 ∨ view < 0 then 0 else view / 4 % n

/-- a vote: Phase, View, Block, By -/
abbrev VT := Int × Int × Int × Int
def voteB (t : List BK) (n : Int) (v : VT) : Bool :=
  inB n 1 7 && (inB v.1 1 4 && (inB v.2.1 1 900 && (inB v.2.2.1 1 ((t.length : Int) - 1) && (decide (viewAt t v.2.2.1 = v.2.1) && inB v.2.2.2 0 (n - 1)))))

/-- whether there is such a vote of this one -/
def saidV (l : List VT) (p v b by' : Int) : Bool := l.any fun x => decide (x.2.2.2 = by') && (decide (x.1 = p) && (decide (x.2.1 = v) && decide (x.2.2.1 = b)))
/-- the signers below k -/
def sigTo (l : List VT) (p v b : Int) : Nat → Int
  | 0 => 0
  | k + 1 => sigTo l p v b k + (if saidV l p v b (k : Int) = true then (2 : Int) ^ k else 0)
def signersT (l : List VT) (p v b : Int) : Int := sigTo l p v b 7
/-- a bit -/
def bitT (x : Int) (i : Nat) : Int := x / (2 : Int) ^ i % 2
def cntTo (s : Int) : Nat → Int
  | 0 => 0
  | k + 1 => cntTo s k + bitT s k
def countT (s : Int) : Int := if s < 0 then 0 else cntTo s 7
def qcRightB (t : List BK) (n : Int) (q : QC) : Bool :=
  if q = (0, 0, 0, 0) then true else voteB t n (q.1, q.2.1, q.2.2.1, 0) && (inB q.2.2.2 0 ((2 : Int) ^ n.toNat - 1) && decide (quorumT n ≤ countT q.2.2.2))
def qcOfT (l : List VT) (p v b n : Int) : QC × Bool := if countT (signersT l p v b) < quorumT n then ((0, 0, 0, 0), false) else ((p, v, b, signersT l p v b), true)
def higherT (a b : QC) : QC := if a.2.1 < b.2.1 then b else a
/-- each signer below k is a liar, or said so -/
def provTo (said signers liars : Int) (k : Nat) : Prop := ∀ i, i < k → ¬ (bitT signers i ≠ 0 ∧ bitT liars i = 0 ∧ bitT said i = 0)
def provenB (l : List VT) (q : QC) (liars : Int) : Bool :=
  if q.2.1 = 0 then true else ((List.range 7).all fun i => !(decide (bitT q.2.2.2 i ≠ 0) && (decide (bitT liars i = 0) && decide (bitT (signersT l q.1 q.2.1 q.2.2.1) i = 0)))) && (decide (0 ≤ q.2.2.2) && decide (q.2.2.2 < 128))

theorem bitT_cases (x : Int) (i : Nat) : bitT x i = 0 ∨ bitT x i = 1 := by unfold bitT; omega
theorem sigTo_bounds (l : List VT) (p v b : Int) : ∀ k, 0 ≤ sigTo l p v b k ∧ sigTo l p v b k < (2 : Int) ^ k
  | 0 => by simp [sigTo]
  | k + 1 => by
    obtain ⟨h0, h1⟩ := sigTo_bounds l p v b k
    have hp : (0 : Int) < (2 : Int) ^ k := Int.pow_pos (by omega)
    have h2 : (2 : Int) ^ (k + 1) = 2 * (2 : Int) ^ k := by rw [Int.pow_succ]; omega
    unfold sigTo
    split <;> omega
theorem signersT_bounds (l : List VT) (p v b : Int) : 0 ≤ signersT l p v b ∧ signersT l p v b < 128 := sigTo_bounds l p v b 7
theorem cntTo_bounds (s : Int) : ∀ k, 0 ≤ cntTo s k ∧ cntTo s k ≤ (k : Int)
  | 0 => by simp [cntTo]
  | k + 1 => by
    obtain ⟨h0, h1⟩ := cntTo_bounds s k
    have := bitT_cases s k
    unfold cntTo
    omega
theorem countT_bounds (s : Int) : 0 ≤ countT s ∧ countT s ≤ 7 := by
  unfold countT
  split
  · omega
  · exact cntTo_bounds s 7
theorem faults_three (n : Int) (h : 1 ≤ n) : 0 ≤ faultsT n ∧ 3 * faultsT n < n := by unfold faultsT; rw [if_neg (by omega)]; omega

end Go.Proofs.Ytfnneillakdopab
