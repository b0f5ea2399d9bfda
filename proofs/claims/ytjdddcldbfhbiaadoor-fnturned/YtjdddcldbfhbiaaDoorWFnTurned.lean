/-
  The walk of the law FnTurned: a drawn text that is sealed is unsealed as it was; with one byte that is another it is not; SumMore goes on.
-/
import Derived.Test.YtjdddcldbfhbiaaDoorTurnN
import Derived.Test.YtjdddcldbfhbiaaDoorUnsealI
import Derived.Test.YtjdddcldbfhbiaaDoorBytesX
import Derived.Test.YtjdddcldbfhbiaaDoorDrawT
import Derived.RegionTactic
import Derived.BigRegion
namespace Go.Proofs.YtjdddcldbfhbiaaDoor.WFnTurned
open Go.RowKit Num

theorem walk_big (w : World) (ao : Option Addr) (len cap : Nat) (h : (1048576 : Int) < len) :
    Calls Tryd.prog 4 #[.slice ao len cap] w fun e w' => e = .returned (.bool true) ∧ Below w.heap.size w w' := by
  go_enter Tryd.func4, Tryd.ntmps4
  go_wp2
  go_ret
  exact ⟨rfl, Below.refl _ _⟩

theorem big_no (w : World) (ao : Option Addr) (len cap : Nat) (h : (len : Int) ≤ 1048576) :
    Calls Tryd.prog 5 #[.slice ao len cap] w fun e w' => e = .returned (.bool false) ∧ w' = w := by
  go_enter Tryd.func5, Tryd.ntmps5
  go_wp2
  go_ret
  exact ⟨by simp; omega, rfl⟩

/-- Sealed, and Unsealed of it -/
theorem seal_it (s : ByteArray) (w : World) (h : (s.size : Int) ≤ 20000) (ht : Hid (Tabs w)) :
    Calls Tryd.prog 18 #[.string s] w fun e w' => e = .returned (.tuple #[.string (sealedT s), .bool true]) ∧ Below w.heap.size w w' := sealed_yes_i s w h ht
theorem unseal_it (s : ByteArray) (w : World) (h : (s.size : Int) ≤ 20000) (ht : Hid (Tabs w)) :
    Calls Tryd.prog 19 #[.string (sealedT s)] w fun e w' => e = .returned (.tuple #[.string s, .bool true]) ∧ Below w.heap.size w w' := by
  have := unsealed_good_i (sealedT s) w s.size (by rw [sealedT_size]; omega) h (sealedT_right s) ht
  rw [sealedT_back] at this
  exact this
theorem unseal_not (s : ByteArray) (i : Nat) (v b : Int) (hv : 0 ≤ v ∧ v ≤ 255) (hb : (bs (sealedT s))[i]? = some b) (hne : v ≠ b) (w : World) (h : (s.size : Int) ≤ 20000) (ht : Hid (Tabs w)) :
    Calls Tryd.prog 19 #[.string (strOfNums ((bs (sealedT s)).set i v))] w fun e w' => e = .returned (.tuple #[.string ByteArray.empty, .bool false]) ∧ Below w.heap.size w w' :=
  unsealed_bad_i _ w s.size (by rw [strOfNums_size, List.length_set, bs_len, sealedT_size]; omega) h (turned_not s i v b hv hb hne) ht

theorem _root_.Go.Proofs.YtjdddcldbfhbiaaDoor.Ints.at {w : World} {L : Nat} {ps : List Int} (h : Ints w L ps) (hl : ps.length = 12) (hall : ∀ x ∈ ps, 0 ≤ x ∧ x < 10000) (k : Nat) (hk : k < 12) : ∃ p : Int, 0 ≤ p ∧ p < 10000 ∧ w.cell? ⟨L, k, none⟩ = some (.int .i64 p) := by
  have hk' : k < ps.length := by omega
  have e : ps.getD k 0 = ps[k] := by simp [List.getD, List.getElem?_eq_getElem hk']
  have := hall _ (List.getElem_mem hk')
  exact ⟨ps.getD k 0, by rw [e]; exact this.1, by rw [e]; exact this.2, h.cell k hk'⟩
theorem tmod_at (p n : Int) (hp : 0 ≤ p) (hn : 0 < n) : ∃ i : Nat, p.tmod n = (i : Int) ∧ (i : Int) < n := by
  have h0 := Int.emod_nonneg p (show n ≠ 0 by omega)
  have h1 := Int.emod_lt_of_pos p hn
  refine ⟨(p % n).toNat, ?_, ?_⟩
  · rw [Int.tmod_eq_emod_of_nonneg hp]; omega
  · omega
theorem bytes_at {w : World} {B i : Nat} {t : ByteArray} (h : Bytes w B (bs t)) (hi : i < (bs t).length) : ∃ x : Int, (bs t)[i]? = some x ∧ (0 ≤ x ∧ x ≤ 255) ∧ w.cell? ⟨B, i, none⟩ = some (.int .u8 x) ∧ w.frozen? ⟨B, i, none⟩ = false := by
  have e : (bs t).getD i 0 = (bs t)[i] := by simp [List.getD, List.getElem?_eq_getElem hi]
  refine ⟨(bs t)[i], List.getElem?_eq_getElem hi, bs_ok t _ (List.getElem_mem hi), ?_, h.frozen i hi⟩
  rw [← e]; exact h.cell i hi

theorem turned_str {w : World} {B : Nat} {t : ByteArray} (h : Bytes w B (bs t)) (i : Nat) (hi : i < (bs t).length) (v : Int) (cap : Nat) :
    (convert 22 9 (.slice (some ⟨B, 0, none⟩) t.size cap)).run Tryd.prog (w.setCell ⟨B, i, none⟩ (.int .u8 v)).drew = .ok (.string (strOfNums ((bs t).set i v))) (w.setCell ⟨B, i, none⟩ (.int .u8 v)).drew := by
  have h1 : Bytes (w.setCell ⟨B, i, none⟩ (.int .u8 v)).drew B ((bs t).set i v) := h.set i hi v
  have h2 := h1.str cap
  rw [List.length_set, bs_len] at h2
  exact h2

set_option maxRecDepth 100000 in
set_option maxHeartbeats 4000000 in
theorem walk (w : World) (ao : Option Addr) (len cap b off : Nat) (hc : Code w ao len b off) (ht : Tabs w) :
    Calls Tryd.prog 4 #[.slice ao len cap] w fun e w' => e = .returned (.bool true) ∧ Below w.heap.size w w' := by
  have HT : Hid (Tabs w) := ht
  have HC : Hid (Code w ao len b off) := hc
  have hle : (len : Int) ≤ 1048576 := by have := hc.le; omega
  clear ht hc
  go_enter Tryd.func4, Tryd.ntmps4
  go_wp2_with fail
  refine (big_no w ao len cap hle).mono ?_
  rintro e w1 ⟨rfl, hw⟩
  obtain rfl := hw.symm
  clear hw
  go_wp2_with fail
  refine (drawSum_any HC.out).mono ?_
  rintro e w1 ⟨s, rfl, hs, B1⟩
  go_wp2_with fail
  refine (places_any (HC.out.below B1)).mono ?_
  rintro e w2 ⟨L, c, ps, rfl, hps, hall, hI, b2⟩
  have B2 : Below w.heap.size w w2 := below_tr B1 b2
  have HP : Hid (ps.length = 12) := hps
  have HA : Hid (∀ x ∈ ps, 0 ≤ x ∧ x < 10000) := hall
  have HI : Hid (Ints w2 L ps) := hI
  clear hps hall hI b2 B1
  go_wp2_with fail
  refine (seal_it s w2 (by omega) (HT.out.below B2)).mono ?_
  rintro e w3 ⟨rfl, b3⟩
  have B3 : Below w.heap.size w w3 := below_tr B2 b3
  have HI3 : Hid (Ints w3 L ps) := HI.out.below b3
  clear b3
  go_wp2_with fail
  refine (unseal_it s w3 (by omega) (HT.out.below B3)).mono ?_
  rintro e w4 ⟨rfl, b4⟩
  have B4 : Below w.heap.size w w4 := below_tr B3 b4
  have HI4 : Hid (Ints w4 L ps) := HI3.out.below b4
  clear b4 HI3 HI
  have hsz1 : ((sealedT s).size : Int) ≤ (s.size : Int) + 4 := by rw [sealedT_size]; omega
  have hsz2 : (s.size : Int) + 4 ≤ ((sealedT s).size : Int) := by rw [sealedT_size]; omega
  have heq : (s.toList == s.toList) = true := by simp
  have hlen : (((sealedT s).size : Int) == (s.size : Int) + 4) = true := by rw [sealedT_size, beq_iff_eq]; omega
  obtain ⟨cb, wB, hcv, hB, b5⟩ := bytes_any (sealedT s) w4
  have HB : Hid (Bytes wB w4.heap.size (bs (sealedT s))) := hB
  have B5 : Below w.heap.size w wB := below_tr B4 b5
  have HI5 : Hid (Ints wB L ps) := HI4.out.below b5
  obtain ⟨p0, hp0, hp0', c0⟩ : ∃ p : Int, 0 ≤ p ∧ p < 10000 ∧ wB.cell? ⟨L, 0, none⟩ = some (.int .i64 p) := HI5.out.at HP.out HA.out 0 (by decide)
  obtain ⟨p1, hp1, hp1', c1⟩ : ∃ p : Int, 0 ≤ p ∧ p < 10000 ∧ wB.cell? ⟨L, 1, none⟩ = some (.int .i64 p) := HI5.out.at HP.out HA.out 1 (by decide)
  obtain ⟨i, hi, hil⟩ : ∃ i : Nat, p0.tmod ((sealedT s).size : Int) = (i : Int) ∧ (i : Int) < ((sealedT s).size : Int) := tmod_at p0 _ hp0 (by omega)
  obtain ⟨d, hd, hd0, hd1⟩ : ∃ d : Int, p1.tmod 255 = d - 1 ∧ 1 ≤ d ∧ d ≤ 255 := ⟨p1.tmod 255 + 1, by omega, by rw [Int.tmod_eq_emod_of_nonneg hp1]; omega, by rw [Int.tmod_eq_emod_of_nonneg hp1]; omega⟩
  obtain ⟨bi, hbi, hbr, cB, fB⟩ : ∃ x : Int, (bs (sealedT s))[i]? = some x ∧ (0 ≤ x ∧ x ≤ 255) ∧ wB.cell? ⟨w4.heap.size, i, none⟩ = some (.int .u8 x) ∧ wB.frozen? ⟨w4.heap.size, i, none⟩ = false := bytes_at HB.out (by rw [bs_len]; omega)
  obtain ⟨hv, hvne⟩ := xor8_other bi d hbr ⟨hd0, hd1⟩
  have HBI : Hid ((bs (sealedT s))[i]? = some bi) := hbi
  have q0 : (0 : Int) ≤ (i : Int) := by omega
  have hw1 : IntKind.i64.wrap (1 + (d - 1)) = d := by rw [IntKind.wrap_i64]; omega
  have hw2 : IntKind.u8.wrap d = d := by rw [IntKind.wrap_u8']; omega
  clear hB hbi
  go_wp2
  go_region
  generalize bits .xor .u8 bi d = v at hv hvne ⊢
  have hcv2 := turned_str HB.out i (by rw [bs_len]; omega) v cb
  have B6 : Below w.heap.size w (wB.setCell ⟨w4.heap.size, i, none⟩ (.int .u8 v)).drew := (B5.setCell (p := ⟨w4.heap.size, i, none⟩) B4.size _).drew
  generalize (wB.setCell ⟨w4.heap.size, i, none⟩ (.int .u8 v)).drew = w6 at hcv2 B6 ⊢
  clear cB fB c0 c1 hcv b5 B5 HI5 HB hi hd hw1 hw2 HI4 B3 B2 hlen heq hp0 hp1 hp0' hp1' hil hd0 hd1 hbr q0
  go_wp2_with fail
  refine (unseal_not s i v bi hv HBI.out hvne w6 (by omega) (HT.out.below B6)).mono ?_
  rintro e w7 ⟨rfl, b7⟩
  have B7 : Below w.heap.size w w7 := below_tr B6 b7
  have HT7 : Hid (Tabs w7) := HT.out.below B7
  clear b7 B6 B4 hcv2 hv hvne
  have hx : (⟨#[120]⟩ : ByteArray).size = 1 := rfl
  have hsx : s.size + (⟨#[120]⟩ : ByteArray).size ≤ 9223372036854775807 := by rw [hx]; omega
  have hsx2 : ((s ++ (⟨#[120]⟩ : ByteArray)).size : Int) ≤ 1048600 := by rw [ByteArray.size_append, hx]; omega
  go_wp2_with fail
  refine (sumOf_i s (by omega) w7 HT7).mono ?_
  rintro e w8 ⟨rfl, hw⟩
  obtain rfl := hw.symm
  clear hw
  go_wp2_with fail
  refine (sum_i (sums 4294967295 (bs s)) (sumT_lt s) (⟨#[120]⟩ : ByteArray) (by rw [hx]; decide) w7 HT7).mono ?_
  rintro e w8 ⟨rfl, hw⟩
  obtain rfl := hw.symm
  clear hw
  go_wp2_with fail
  refine (sumOf_i (s ++ (⟨#[120]⟩ : ByteArray)) hsx2 w7 HT7).mono ?_
  rintro e w8 ⟨rfl, hw⟩
  obtain rfl := hw.symm
  clear hw
  have hq : sums (sums 4294967295 (bs s)) (bs (⟨#[120]⟩ : ByteArray)) = sums 4294967295 (bs (s ++ (⟨#[120]⟩ : ByteArray))) := by rw [bs_append, sums_append]
  go_wp2
  go_ret
  exact ⟨rfl, B7⟩

end Go.Proofs.YtjdddcldbfhbiaaDoor.WFnTurned
