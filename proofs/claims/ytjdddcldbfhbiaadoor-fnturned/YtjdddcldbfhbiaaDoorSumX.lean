/-
  The exclusive or of two numbers of 32 bits, and the last four bits of one, as the model says them.
-/
import Derived.Test.YtjdddcldbfhbiaaDoorSumN
import Derived.Test.YtjdddcldbfhbiaaDoorCanon
import Derived.Laws.BitsLemmas
namespace Go.Proofs.YtjdddcldbfhbiaaDoor
open Go.RowKit Num

theorem wrap32_lt (n : Int) (h0 : 0 ≤ n) (h1 : n < 4294967296) : IntKind.u32.wrap n = n := by
  have : IntKind.u32.wrap n = n % 4294967296 := by simp [IntKind.wrap, IntKind.bits, IntKind.signed]
  rw [this]; omega

theorem xor32 (a b : Nat) (ha : a < 4294967296) (hb : b < 4294967296) : bits .xor .u32 (a : Int) (b : Int) = ((a ^^^ b : Nat) : Int) := by
  have hx : a ^^^ b < 4294967296 := xor_lt32 ha hb
  have h1 : (BitVec.ofInt 32 (a : Int)).toNat = a := by
    rw [BitVec.ofInt_natCast, BitVec.toNat_ofNat]; exact Nat.mod_eq_of_lt (by omega)
  have h2 : (BitVec.ofInt 32 (b : Int)).toNat = b := by
    rw [BitVec.ofInt_natCast, BitVec.toNat_ofNat]; exact Nat.mod_eq_of_lt (by omega)
  show IntKind.u32.wrap ((BitVec.ofInt 32 (a : Int) ^^^ BitVec.ofInt 32 (b : Int)).toNat : Int) = _
  rw [BitVec.toNat_xor, h1, h2]
  exact wrap32_lt _ (by omega) (by omega)

theorem and15 (a : Nat) (ha : a < 4294967296) : bits .and .u32 (a : Int) 15 = ((a % 16 : Nat) : Int) := by
  have := bits_mask .u32 32 (by decide) (fun n h0 h1 => wrap32_lt n h0 (by simpa using h1)) 4 (by decide) (a : Int) (by omega) (by simpa using (by omega : (a : Int) < 4294967296))
  simpa using this

theorem ret_nat {k : IntKind} {a b : Nat} (h : a = b) : Ending.returned (.int k (a : Int)) = .returned (.int k (b : Int)) := by rw [h]

/-- a text's bytes are bytes -/
theorem bs_ok (s : ByteArray) : bytesOk (bs s) := by
  intro x hx
  simp only [bs, List.mem_map] at hx
  obtain ⟨c, _, rfl⟩ := hx
  exact byte_le c
theorem bs_take_ok (s : ByteArray) (k : Nat) : bytesOk ((bs s).take k) := fun x hx => bs_ok s x (List.mem_of_mem_take hx)
theorem sums_at (x : Nat) (s : ByteArray) (k : Nat) (h : k < s.size) : sums x ((bs s).take (k + 1)) = byteSum (sums x ((bs s).take k)) s[k].toNat := by
  rw [Num.take_snoc s k h, sums_snoc]; rfl

end Go.Proofs.YtjdddcldbfhbiaaDoor
