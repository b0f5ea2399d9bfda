/-
  Plain mathematics: a sealed text with one byte that is another does not end with the seal of its beginning.
-/
import Derived.Test.YtjdddcldbfhbiaaDoorSealX
namespace Go.Proofs.YtjdddcldbfhbiaaDoor
open Go.RowKit Num

theorem turned_list (l : List Int) (hl : bytesOk l) (i : Nat) (v b : Int) (hv : 0 ≤ v ∧ v ≤ 255) (hb : (l ++ seal4 (sums 4294967295 l))[i]? = some b) (hne : v ≠ b) :
    ((l ++ seal4 (sums 4294967295 l)).set i v).drop l.length ≠ seal4 (sums 4294967295 (((l ++ seal4 (sums 4294967295 l)).set i v).take l.length)) := by
  intro h
  have hok := seal4_ok (sums_lt l 4294967295 (by decide) hl)
  have hbb : 0 ≤ b ∧ b ≤ 255 := by
    have := List.mem_of_getElem? hb
    rcases List.mem_append.1 this with h1 | h1
    · exact hl b h1
    · exact hok b h1
  by_cases hi : i < l.length
  · have e1 : (l ++ seal4 (sums 4294967295 l)).set i v = l.set i v ++ seal4 (sums 4294967295 l) := List.set_append_left _ _ hi
    have e2 : (l.set i v ++ seal4 (sums 4294967295 l)).drop l.length = seal4 (sums 4294967295 l) := by
      rw [List.drop_left' (by simp)]
    have e3 : (l.set i v ++ seal4 (sums 4294967295 l)).take l.length = l.set i v := by
      rw [List.take_left' (by simp)]
    rw [e1, e2, e3] at h
    have h1 := seal4_inj h
    rw [List.getElem?_append_left hi] at hb
    have hbl : l[i] = b := by rw [List.getElem?_eq_getElem hi] at hb; exact Option.some.inj hb
    have e4 : l = l.take i ++ b :: l.drop (i + 1) := by
      rw [← hbl, ← List.drop_eq_getElem_cons hi, List.take_append_drop]
    have e5 : l.set i v = l.take i ++ v :: l.drop (i + 1) := List.set_eq_take_append_cons_drop.trans (by rw [if_pos hi])
    rw [e5] at h1
    conv at h1 => lhs; rw [e4]
    exact hne (sums_turned (l.take i) (l.drop (i + 1)) b v 4294967295 (by decide) (fun x hx => hl x (List.mem_of_mem_take hx)) (fun x hx => hl x (List.mem_of_mem_drop hx)) hbb hv h1).symm
  · have hi' : l.length ≤ i := by omega
    have e1 : (l ++ seal4 (sums 4294967295 l)).set i v = l ++ (seal4 (sums 4294967295 l)).set (i - l.length) v := List.set_append_right _ _ hi'
    rw [e1, List.drop_left' rfl, List.take_left' rfl] at h
    rw [List.getElem?_append_right hi'] at hb
    have h2 := congrArg (fun k => k[i - l.length]?) h
    simp only [hb] at h2
    rw [List.getElem?_set_self (by obtain ⟨h3, _⟩ := List.getElem?_eq_some_iff.1 hb; exact h3)] at h2
    exact hne (Option.some.inj h2)

theorem xor8 (a b : Nat) (ha : a < 256) (hb : b < 256) : bits .xor .u8 (a : Int) (b : Int) = ((a ^^^ b : Nat) : Int) := by
  have hx : a ^^^ b < 256 := Nat.xor_lt_two_pow (n := 8) ha hb
  have h1 : (BitVec.ofInt 8 (a : Int)).toNat = a := by
    rw [BitVec.ofInt_natCast, BitVec.toNat_ofNat]; exact Nat.mod_eq_of_lt (by omega)
  have h2 : (BitVec.ofInt 8 (b : Int)).toNat = b := by
    rw [BitVec.ofInt_natCast, BitVec.toNat_ofNat]; exact Nat.mod_eq_of_lt (by omega)
  show IntKind.u8.wrap ((BitVec.ofInt 8 (a : Int) ^^^ BitVec.ofInt 8 (b : Int)).toNat : Int) = _
  rw [BitVec.toNat_xor, h1, h2]
  have : ∀ n : Int, IntKind.u8.wrap n = n % 256 := fun n => by simp [IntKind.wrap, IntKind.bits, IntKind.signed]
  rw [this]; omega
/-- a byte turned by something is another byte -/
theorem xor8_other (a d : Int) (ha : 0 ≤ a ∧ a ≤ 255) (hd : 1 ≤ d ∧ d ≤ 255) : (0 ≤ bits .xor .u8 a d ∧ bits .xor .u8 a d ≤ 255) ∧ bits .xor .u8 a d ≠ a := by
  obtain ⟨x, rfl⟩ := Int.eq_ofNat_of_zero_le ha.1
  obtain ⟨y, rfl⟩ := Int.eq_ofNat_of_zero_le (show 0 ≤ d by omega)
  have hx : x ^^^ y < 256 := Nat.xor_lt_two_pow (n := 8) (by omega) (by omega)
  rw [xor8 x y (by omega) (by omega)]
  refine ⟨by omega, fun h => ?_⟩
  have h1 : x ^^^ y = x := by omega
  have h2 : x ^^^ (x ^^^ y) = x ^^^ x := by rw [h1]
  rw [← Nat.xor_assoc, Nat.xor_self, Nat.zero_xor] at h2
  omega

/-- the sealed text -/
def sealedT (s : ByteArray) : ByteArray := s ++ strOfNums (seal4 (sumT s))
theorem bs_append (a b : ByteArray) : bs (a ++ b) = bs a ++ bs b := by
  simp [bs, ByteArray.data_append]
theorem sealedT_size (s : ByteArray) : (sealedT s).size = s.size + 4 := by
  unfold sealedT; rw [ByteArray.size_append, strOfNums_size]; rfl
theorem sealedT_bs (s : ByteArray) : bs (sealedT s) = bs s ++ seal4 (sums 4294967295 (bs s)) := by
  unfold sealedT; rw [bs_append, bs_str _ (seal4_ok (sumT_lt s))]; rfl
theorem bs_inj {a b : ByteArray} (h : bs a = bs b) : a = b := by rw [← str_bs a, ← str_bs b, h]
theorem sealedT_back (s : ByteArray) : (sealedT s).extract 0 s.size = s := by
  apply bs_inj
  rw [bs_extract, sealedT_bs, List.drop_zero, List.take_left' (bs_len s)]
theorem sealedT_right (s : ByteArray) : sealRight (sealedT s) s.size := by
  unfold sealRight
  rw [sealedT_back]
  apply bs_inj
  rw [bs_extract, sealedT_bs, bs_str _ (seal4_ok (sumT_lt s)), List.take_of_length_le (by rw [List.length_append, bs_len, sealedT_size]; exact Nat.le_refl _), List.drop_left' (bs_len s)]
  rfl

/-- one byte that is another: not the seal any more -/
theorem turned_not (s : ByteArray) (i : Nat) (v b : Int) (hv : 0 ≤ v ∧ v ≤ 255) (hb : (bs (sealedT s))[i]? = some b) (hne : v ≠ b) :
    ¬ sealRight (strOfNums ((bs (sealedT s)).set i v)) s.size := by
  intro h
  unfold sealRight at h
  have hok : bytesOk ((bs (sealedT s)).set i v) := fun x hx => by
    rcases List.mem_or_eq_of_mem_set hx with h1 | h1
    · exact bs_ok _ x h1
    · subst h1; exact hv
  have h1 := congrArg bs h
  have hsz : (strOfNums ((bs (sealedT s)).set i v)).size = (bs s).length + 4 := by rw [strOfNums_size, List.length_set, bs_len, sealedT_size, bs_len]
  rw [bs_str _ (seal4_ok (sumT_lt _)), bs_extract, bs_str _ hok, List.take_of_length_le (by rw [List.length_set, bs_len, sealedT_size, hsz, bs_len]; exact Nat.le_refl _)] at h1
  unfold sumT at h1
  rw [bs_extract, bs_str _ hok, List.drop_zero] at h1
  rw [sealedT_bs] at h1 hb
  rw [← bs_len s] at h1
  exact turned_list (bs s) (bs_ok s) i v b hv hb hne h1

end Go.Proofs.YtjdddcldbfhbiaaDoor
