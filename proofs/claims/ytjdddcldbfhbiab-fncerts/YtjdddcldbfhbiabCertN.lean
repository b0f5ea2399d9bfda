/-
  Plain mathematics of what enough signed: who said so, bit by bit; one signer more.
-/
import Derived.Test.YtjdddcldbfhbiabBitN
import Derived.Test.YtjdddcldbfhbiabQcS
namespace Go.Proofs.Ytjdddcldbfhbiab
open Go.RowKit Num

theorem bit_b2 : ∀ (i : Fin 7) (f0 f1 f2 f3 f4 f5 f6 : Bool), bitT (b2 f0 0 + b2 f1 1 + b2 f2 2 + b2 f3 3 + b2 f4 4 + b2 f5 5 + b2 f6 6) i.val = if ([f0, f1, f2, f3, f4, f5, f6][i.val]?.getD false) = true then 1 else 0 := by decide +kernel
theorem sig_bit (l : List VT) (p v b : Int) {k : Nat} (h : k < 7) : bitT (signersT l p v b) k = if saidV l p v b (k : Int) = true then 1 else 0 := by
  unfold signersT
  rw [sig_sum, bit_b2 ⟨k, h⟩]
  rcases (by omega : k = 0 ∨ k = 1 ∨ k = 2 ∨ k = 3 ∨ k = 4 ∨ k = 5 ∨ k = 6) with rfl | rfl | rfl | rfl | rfl | rfl | rfl <;> rfl
theorem said_bit (l : List VT) (p v b : Int) {k : Nat} (h : k < 7) : ((signersT l p v b / 2 ^ k).tmod 2 == 1) = saidV l p v b (k : Int) := by
  rw [shr_bit (signersT_bounds l p v b).1, sig_bit l p v b h]
  cases saidV l p v b (k : Int) <;> rfl

/-- all signers are proven, bit by bit -/
def allB (s said liars : Int) : Bool := (List.range 7).all fun i => !(decide (bitT s i ≠ 0) && (decide (bitT liars i = 0) && decide (bitT said i = 0)))
theorem cert_one : ∀ s : Fin 128, allB (s.val : Int) (s.val : Int) 0 = true := by decide +kernel
theorem cert_more : ∀ s : Fin 128, allB ((s.val ||| 64 : Nat) : Int) (s.val : Int) 64 = true ∧ s.val ||| 64 < 128 := by decide +kernel
theorem cert_bad : ∀ s : Fin 128, allB ((s.val ||| 64 : Nat) : Int) (s.val : Int) 0 = decide ((s.val : Int) / 64 = 1) := by decide +kernel
theorem or_i64 {s : Int} (h0 : 0 ≤ s) (h1 : s < 128) : bits .or .i64 s 64 = ((s.toNat ||| 64 : Nat) : Int) := by
  obtain ⟨a, rfl⟩ := Int.eq_ofNat_of_zero_le h0
  exact (bits_nat .i64 7 (by decide) (fun n k0 k1 => by rw [IntKind.wrap_i64]; omega) a 64 (by omega) (by omega)).2
theorem proven_all {l : List VT} {p v b s liars : Int} (hv : ¬ v = 0) (hs0 : 0 ≤ s) (hs1 : s < 128) : provenB l (p, v, b, s) liars = allB s (signersT l p v b) liars := by
  unfold provenB
  rw [if_neg (show ¬ (p, v, b, s).2.1 = 0 from hv)]
  simp only
  rw [decide_eq_true hs0, decide_eq_true hs1, Bool.and_true, Bool.and_true]
  rfl
theorem proven_self (l : List VT) (p v b : Int) : provenB l (p, v, b, signersT l p v b) 0 = true := by
  obtain ⟨s0, s1⟩ := signersT_bounds l p v b
  by_cases hv : v = 0
  · exact if_pos hv
  · rw [proven_all hv s0 s1]
    have := cert_one ⟨(signersT l p v b).toNat, by omega⟩
    simp only [Int.toNat_of_nonneg s0] at this
    exact this
theorem more_range (l : List VT) (p v b : Int) : 0 ≤ bits .or .i64 (signersT l p v b) 64 ∧ bits .or .i64 (signersT l p v b) 64 < 128 := by
  obtain ⟨s0, s1⟩ := signersT_bounds l p v b
  rw [or_i64 s0 s1]
  have := (cert_more ⟨(signersT l p v b).toNat, by omega⟩).2
  simp only at this
  omega
theorem proven_more {l : List VT} {p v b : Int} (hv : ¬ v = 0) : provenB l (p, v, b, bits .or .i64 (signersT l p v b) 64) 64 = true := by
  obtain ⟨s0, s1⟩ := signersT_bounds l p v b
  obtain ⟨m0, m1⟩ := more_range l p v b
  rw [proven_all hv m0 m1, or_i64 s0 s1]
  have := (cert_more ⟨(signersT l p v b).toNat, by omega⟩).1
  simp only [Int.toNat_of_nonneg s0] at this
  exact this
theorem proven_bad {l : List VT} {p v b : Int} (hv : ¬ v = 0) : provenB l (p, v, b, bits .or .i64 (signersT l p v b) 64) 0 = decide (signersT l p v b / 64 = 1) := by
  obtain ⟨s0, s1⟩ := signersT_bounds l p v b
  obtain ⟨m0, m1⟩ := more_range l p v b
  rw [proven_all hv m0 m1, or_i64 s0 s1]
  have := cert_bad ⟨(signersT l p v b).toNat, by omega⟩
  simp only [Int.toNat_of_nonneg s0] at this
  exact this
theorem qcOf_four (l : List VT) (p v b : Int) : qcOfT l p v b 4 = if 3 ≤ countT (signersT l p v b) then ((p, v, b, signersT l p v b), true) else ((0, 0, 0, 0), false) := by
  unfold qcOfT
  rw [show quorumT 4 = 3 from rfl]
  by_cases h : 3 ≤ countT (signersT l p v b)
  · rw [if_pos h, if_neg (by omega)]
  · rw [if_neg h, if_pos (by omega)]
theorem qcOf_none (p v b : Int) : qcOfT [] p v b 4 = ((0, 0, 0, 0), false) := by
  have h : signersT [] p v b = 0 := by simp [signersT, sigTo, saidV]
  have h2 : countT 0 = 0 := by simp [countT, cntTo, bitT]
  rw [qcOf_four, h, h2, if_neg (by omega)]

end Go.Proofs.Ytjdddcldbfhbiab
