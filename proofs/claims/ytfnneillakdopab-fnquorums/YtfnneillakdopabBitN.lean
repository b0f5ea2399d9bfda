/-
  Plain mathematics of signers as bits: one more signer, all of them among others, how many.
-/
import Derived.Test.YtfnneillakdopabVoteX
import Derived.Laws.Bits64b
namespace Go.Proofs.Ytfnneillakdopab
open Go.RowKit Num

def b2 (b : Bool) (k : Nat) : Int := if b = true then (2 : Int) ^ k else 0
theorem or_step : ∀ (k : Fin 7) (f0 f1 f2 f3 f4 f5 f6 : Bool),
    (((b2 f0 0 + b2 f1 1 + b2 f2 2 + b2 f3 3 + b2 f4 4 + b2 f5 5 + b2 f6 6).toNat ||| 2 ^ k.val : Nat) : Int) = b2 (f0 || decide (k.val = 0)) 0 + b2 (f1 || decide (k.val = 1)) 1 + b2 (f2 || decide (k.val = 2)) 2 + b2 (f3 || decide (k.val = 3)) 3 + b2 (f4 || decide (k.val = 4)) 4 + b2 (f5 || decide (k.val = 5)) 5 + b2 (f6 || decide (k.val = 6)) 6 := by decide +kernel
theorem sub_low : ∀ (s : Fin 128) (m : Fin 128), (s.val &&& (18446744073709551615 - m.val) = 0) ↔ (∀ i : Fin 7, ¬ (s.val / 2 ^ i.val % 2 = 1 ∧ m.val / 2 ^ i.val % 2 = 0)) := by decide +kernel
theorem sub_high (s m : Nat) (h : 128 ≤ s) (hs : s < 18446744073709551616) (hm : m < 128) : s &&& (18446744073709551615 - m) ≠ 0 := by
  intro e
  have h1 : (s &&& (18446744073709551615 - m)) / 128 = (s / 128) &&& ((18446744073709551615 - m) / 128) := by
    have := Nat.and_div_two_pow (a := s) (b := 18446744073709551615 - m) (n := 7)
    simpa using this
  rw [e] at h1
  have h2 : (18446744073709551615 - m) / 128 = 2 ^ 57 - 1 := by omega
  rw [h2, Nat.and_two_pow_sub_one_eq_mod, Nat.mod_eq_of_lt (by omega)] at h1
  omega
theorem or_low : ∀ (s : Fin 128) (m : Fin 128), s.val ||| m.val < 128 := fun s m => Nat.or_lt_two_pow (n := 7) s.2 m.2
theorem or_bit : ∀ (s : Fin 128) (m : Fin 128) (i : Fin 7), ((s.val ||| m.val) / 2 ^ i.val % 2 = 0) ↔ (s.val / 2 ^ i.val % 2 = 0 ∧ m.val / 2 ^ i.val % 2 = 0) := fun s m i => by
  have h1 := Nat.testBit_or s.val m.val i.val
  simp only [Nat.testBit_eq_decide_div_mod_eq] at h1
  by_cases h2 : s.val / 2 ^ i.val % 2 = 1 <;> by_cases h3 : m.val / 2 ^ i.val % 2 = 1 <;> simp [h2, h3] at h1 <;> omega

theorem sig_sum (l : List VT) (p v b : Int) : sigTo l p v b 7 = b2 (saidV l p v b 0) 0 + b2 (saidV l p v b 1) 1 + b2 (saidV l p v b 2) 2 + b2 (saidV l p v b 3) 3 + b2 (saidV l p v b 4) 4 + b2 (saidV l p v b 5) 5 + b2 (saidV l p v b 6) 6 := by
  simp only [sigTo, b2, Int.zero_add]
  rfl
theorem said_take {l : List VT} {m : Nat} (h : m < l.length) (p v b k : Int) : saidV (l.take (m + 1)) p v b k = (saidV (l.take m) p v b k || saidAt l[m] p v b k) := by
  unfold saidV saidAt
  rw [← List.take_append_getElem h, List.any_append]
  simp
theorem sig_same {l : List VT} {m : Nat} (h : m < l.length) {p v b : Int} (hs : ∀ k : Int, 0 ≤ k → k < 7 → saidAt l[m] p v b k = false) : sigTo (l.take (m + 1)) p v b 7 = sigTo (l.take m) p v b 7 := by
  rw [sig_sum, sig_sum]
  simp only [said_take h]
  rw [hs 0 (by omega) (by omega), hs 1 (by omega) (by omega), hs 2 (by omega) (by omega), hs 3 (by omega) (by omega), hs 4 (by omega) (by omega), hs 5 (by omega) (by omega), hs 6 (by omega) (by omega)]
  simp only [Bool.or_false]
theorem said_by {x : VT} {p v b : Int} (h0 : x.1 = p) (h1 : x.2.1 = v) (h2 : x.2.2.1 = b) (k : Int) : saidAt x p v b k = decide (x.2.2.2 = k) := by unfold saidAt; simp [h0, h1, h2]
theorem sig_or {l : List VT} {m : Nat} (h : m < l.length) {p v b : Int} {k : Nat} (hk : k < 7) (h0 : l[m].1 = p) (h1 : l[m].2.1 = v) (h2 : l[m].2.2.1 = b) (h3 : l[m].2.2.2 = (k : Int)) : (((sigTo (l.take m) p v b 7).toNat ||| 2 ^ k : Nat) : Int) = sigTo (l.take (m + 1)) p v b 7 := by
  rw [sig_sum, sig_sum, or_step ⟨k, hk⟩]
  simp only [said_take h, said_by h0 h1 h2, h3]
  rcases (by omega : k = 0 ∨ k = 1 ∨ k = 2 ∨ k = 3 ∨ k = 4 ∨ k = 5 ∨ k = 6) with rfl | rfl | rfl | rfl | rfl | rfl | rfl <;> rfl
theorem sig_out {l : List VT} {m : Nat} (h : m < l.length) {p v b : Int} (h3 : l[m].2.2.2 < 0 ∨ 7 ≤ l[m].2.2.2) : sigTo (l.take (m + 1)) p v b 7 = sigTo (l.take m) p v b 7 :=
  sig_same h fun k k0 k1 => by unfold saidAt; rw [decide_eq_false (by omega)]; rfl
theorem sig_other {l : List VT} {m : Nat} (h : m < l.length) {p v b : Int} (h3 : ¬ (l[m].1 = p ∧ l[m].2.1 = v ∧ l[m].2.2.1 = b)) : sigTo (l.take (m + 1)) p v b 7 = sigTo (l.take m) p v b 7 :=
  sig_same h fun k _ _ => by
    unfold saidAt
    by_cases h0 : l[m].1 = p
    · by_cases h1 : l[m].2.1 = v
      · rw [decide_eq_false (fun h2 => h3 ⟨h0, h1, h2⟩)]; simp
      · rw [decide_eq_false h1]; simp
    · rw [decide_eq_false h0]; simp

theorem mask_u64 {s : Int} (h0 : 0 ≤ s) (h1 : s < 18446744073709551616) : bits .and .u64 s 127 = s % 128 := by
  obtain ⟨a, rfl⟩ := Int.eq_ofNat_of_zero_le h0
  rw [show (127 : Int) = ((127 : Nat) : Int) from rfl, bits_and_u64_nat a 127 (by omega) (by omega), show (127 : Nat) = 2 ^ 7 - 1 from rfl, Nat.and_two_pow_sub_one_eq_mod]
  rfl
theorem cnt_low (s : Int) : cntTo (s % 128) 7 = cntTo s 7 := by
  simp only [cntTo, bitT]
  omega
theorem or_u64 {s t : Int} (h0 : 0 ≤ s) (h1 : s < 18446744073709551616) (k0 : 0 ≤ t) (k1 : t < 18446744073709551616) : bits .or .u64 s t = ((s.toNat ||| t.toNat : Nat) : Int) := by
  obtain ⟨a, rfl⟩ := Int.eq_ofNat_of_zero_le h0
  obtain ⟨b, rfl⟩ := Int.eq_ofNat_of_zero_le k0
  exact bits_or_u64_nat a b (by omega) (by omega)
theorem andNot_u64 {s t : Int} (h0 : 0 ≤ s) (h1 : s < 18446744073709551616) (k0 : 0 ≤ t) (k1 : t < 18446744073709551616) : bits .andNot .u64 s t = ((s.toNat &&& (18446744073709551615 - t.toNat) : Nat) : Int) := by
  obtain ⟨a, rfl⟩ := Int.eq_ofNat_of_zero_le h0
  obtain ⟨b, rfl⟩ := Int.eq_ofNat_of_zero_le k0
  have hx : a &&& (18446744073709551615 - b) < 2 ^ 64 := Nat.and_lt_two_pow _ (by omega)
  have e1 : (BitVec.ofInt 64 (a : Int)).toNat = a := by
    rw [BitVec.ofInt_natCast, BitVec.toNat_ofNat]; exact Nat.mod_eq_of_lt (by omega)
  have e2 : (BitVec.ofInt 64 (b : Int)).toNat = b := by
    rw [BitVec.ofInt_natCast, BitVec.toNat_ofNat]; exact Nat.mod_eq_of_lt (by omega)
  show IntKind.u64.wrap ((BitVec.ofInt 64 (a : Int) &&& ~~~BitVec.ofInt 64 (b : Int)).toNat : Int) = _
  rw [BitVec.toNat_and, BitVec.toNat_not, e1, e2, IntKind.wrap_u64]
  have e : 2 ^ 64 - 1 - b = 18446744073709551615 - b := by omega
  rw [e]
  simp only [Int.toNat_natCast]
  omega
theorem wrap_u64' (n : Int) : IntKind.u64.wrap n = n % 18446744073709551616 := IntKind.wrap_u64 n

/-- all signers among those who said so and the liars: what the program asks, and what is told bit by bit -/
theorem prov_is {s g L : Int} (hs0 : 0 ≤ s) (hs1 : s < 18446744073709551616) (hg0 : 0 ≤ g) (hg1 : g < 128) (hL0 : 0 ≤ L) (hL1 : L < 128) :
    (bits .andNot .u64 s (bits .or .u64 g L) == 0) = (((List.range 7).all fun i => !(decide (bitT s i ≠ 0) && (decide (bitT L i = 0) && decide (bitT g i = 0)))) && decide (s < 128)) := by
  rw [or_u64 hg0 (by omega) hL0 (by omega)]
  have ho := or_low ⟨g.toNat, by omega⟩ ⟨L.toNat, by omega⟩
  simp only at ho
  rw [andNot_u64 hs0 hs1 (by omega) (by omega)]
  simp only [Int.toNat_natCast]
  obtain ⟨S, rfl⟩ := Int.eq_ofNat_of_zero_le hs0
  obtain ⟨G, rfl⟩ := Int.eq_ofNat_of_zero_le hg0
  obtain ⟨M, rfl⟩ := Int.eq_ofNat_of_zero_le hL0
  simp only [Int.toNat_natCast] at ho ⊢
  by_cases h : S < 128
  · have hl := sub_low ⟨S, h⟩ ⟨G ||| M, ho⟩
    simp only at hl
    rw [decide_eq_true (show (S : Int) < 128 by omega), Bool.and_true, Bool.eq_iff_iff, beq_iff_eq, List.all_eq_true]
    have hz : ((S &&& (18446744073709551615 - (G ||| M)) : Nat) : Int) = 0 ↔ S &&& (18446744073709551615 - (G ||| M)) = 0 := by omega
    rw [hz, hl]
    have hb : ∀ (x : Nat) (i : Nat), bitT (x : Int) i = ((x / 2 ^ i % 2 : Nat) : Int) := fun x i => by unfold bitT; simp
    constructor
    · intro ha i hi
      have hi7 := List.mem_range.1 hi
      have h1 := ha ⟨i, hi7⟩
      have h2 := or_bit ⟨G, by omega⟩ ⟨M, by omega⟩ ⟨i, hi7⟩
      simp only at h1 h2
      simp only [Bool.not_eq_true', Bool.and_eq_false_iff, decide_eq_false_iff_not, hb]
      omega
    · intro ha i
      have h1 := ha i.val (List.mem_range.2 i.2)
      have h2 := or_bit ⟨G, by omega⟩ ⟨M, by omega⟩ i
      simp only at h2
      simp only [Bool.not_eq_true', Bool.and_eq_false_iff, decide_eq_false_iff_not, hb] at h1
      omega
  · have hh := sub_high S (G ||| M) (by omega) (by omega) ho
    rw [decide_eq_false (show ¬ (S : Int) < 128 by omega), Bool.and_false, beq_eq_false_iff_ne]
    omega

end Go.Proofs.Ytfnneillakdopab
