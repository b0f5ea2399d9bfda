/-
  Plain mathematics of the words: the bytes of a number in VarText's form, and what a row of such bytes says. No Go text is met here.
-/
import Derived.WalkKit
namespace Go.Proofs.Ytcpfgflnfofghag.Num

/-- the bytes of a number, the lowest seven bits first; the first argument bounds the number of rounds -/
def vb : Nat → Int → List Int
  | 0, n => [n]
  | f + 1, n => if 127 < n then (n % 128 + 128) :: vb f (n / 128) else [n]

def vbs (n : Int) : List Int := vb n.toNat n

theorem vb_small (f : Nat) (n : Int) (h : n ≤ 127) : vb f n = [n] := by
  cases f with
  | zero => rfl
  | succ f => unfold vb; rw [if_neg (by omega)]

theorem vb_big (f : Nat) (n : Int) (h : 127 < n) (hf : n.toNat ≤ f) : ∃ g, vb f n = (n % 128 + 128) :: vb g (n / 128) ∧ (n / 128).toNat ≤ g := by
  cases f with
  | zero => omega
  | succ f =>
    refine ⟨f, ?_, by omega⟩
    show (if 127 < n then (n % 128 + 128) :: vb f (n / 128) else [n]) = _
    rw [if_pos h]

theorem vb_len : ∀ (f : Nat) (n : Int), (vb f n).length ≤ f + 1
  | 0, n => by simp [vb]
  | f + 1, n => by
    unfold vb
    split
    · have := vb_len f (n / 128); simp; omega
    · simp

end Go.Proofs.Ytcpfgflnfofghag.Num
