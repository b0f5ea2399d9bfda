/-
  The walk of the law FnNumbers: what VarText, ShortText, Hex and Decimal write is read back, at whatever is drawn.
-/
import Derived.Test.YtnghhfgbobpnkaaDoorRound
import Derived.Test.YtnghhfgbobpnkaaDoorDraw2
import Derived.Test.YtnghhfgbobpnkaaDoorShortI
import Derived.Test.YtnghhfgbobpnkaaDoorRShortI
import Derived.Test.YtnghhfgbobpnkaaDoorHexI
import Derived.Test.YtnghhfgbobpnkaaDoorUnhexI
import Derived.Test.YtnghhfgbobpnkaaDoorDecI
import Derived.Test.YtnghhfgbobpnkaaDoorReadDecI
namespace Go.Proofs.YtnghhfgbobpnkaaDoor
open Go.RowKit Num

theorem dec_read {s : ByteArray} {n : Int} {w : World} (h : rdOk s ∧ num10 (bs s) = n ∧ s.size ≤ 10) :
    Calls Tryd.prog 9 #[.string s] w fun e w' => e = .returned (.tuple #[.int .i64 n, .bool true]) ∧ w' = w := by
  obtain ⟨h1, rfl, h3⟩ := h
  exact (iread10 s w (by omega)).mono fun _ _ ⟨he, hw⟩ => ⟨he.elim (fun x => x.2) (fun x => absurd h1 x.1), hw⟩
theorem short_read (t : ByteArray) (ht : (t.size : Int) ≤ 300) {w : World} :
    Calls Tryd.prog 13 #[.string (strOfNums (vbs t.size) ++ t), .int .i64 0] w fun e w' => e = .returned (.tuple #[.string t, .int .i64 (((vbs t.size).length : Int) + (t.size : Int)), .bool true]) ∧ Below w.heap.size w w' := by
  have hl : (vbs t.size).length ≤ 5 := vb_len_le 4 _ _ (by omega) (by show (t.size : Int) < (34359738368 : Int); omega) (Nat.le_refl _)
  have hsz : (strOfNums (vbs t.size) ++ t).size = (vbs t.size).length + t.size := by rw [ByteArray.size_append, strOfNums_size]
  have hr := read_back ByteArray.empty t.size t (by omega) (by omega)
  rw [ByteArray.empty_append] at hr
  have h0 : (ByteArray.empty.size : Int) = 0 := rfl
  rw [h0, Int.zero_add] at hr
  have := ishort_good (strOfNums (vbs t.size) ++ t) 0 w (by rw [hsz]; omega) t.size (vbs t.size).length hr (by rw [hsz]; omega) (by omega) (by rw [hsz]; omega)
  rw [short_back] at this
  exact this
theorem hex_read (t : ByteArray) (ht : (t.size : Int) ≤ 300) {w : World} :
    Calls Tryd.prog 15 #[.string (strOfNums (figs (bs t)))] w fun e w' => e = .returned (.tuple #[.string t, .bool true]) ∧ Below w.heap.size w w' := by
  obtain ⟨h1, h2, h3⟩ := hex_back t
  refine (iunhex_in _ t.size w h1 (by omega)).mono fun e w' ⟨he, hb⟩ => ⟨?_, hb⟩
  rcases he with ⟨_, he⟩ | ⟨hx, _⟩
  · rw [h3] at he; exact he
  · exact absurd h2 hx
end Go.Proofs.YtnghhfgbobpnkaaDoor
namespace Go.Proofs.YtnghhfgbobpnkaaDoor.WFnNumbers
open Go.RowKit Num

theorem walk_big (w : World) (ao : Option Addr) (len cap : Nat) (h : (1048576 : Int) < len) :
    Calls Tryd.prog 3 #[.slice ao len cap] w fun e w' => e = .returned (.bool true) ∧ Below w.heap.size w w' := by
  go_enter Tryd.func3, Tryd.ntmps3
  go_wp2
  go_ret
  exact ⟨rfl, Below.refl _ _⟩

theorem big_no (w : World) (ao : Option Addr) (len cap : Nat) (h : (len : Int) ≤ 1048576) :
    Calls Tryd.prog 5 #[.slice ao len cap] w fun e w' => e = .returned (.bool false) ∧ w' = w := by
  go_enter Tryd.func5, Tryd.ntmps5
  go_wp2
  go_ret
  exact ⟨by simp; omega, rfl⟩

set_option maxRecDepth 100000 in
set_option maxHeartbeats 4000000 in
theorem walk (w : World) (ao : Option Addr) (len cap b off : Nat) (hc : Code w ao len b off) (htab : Lib.TabIs Tryd.prog w "internal/strconv.uint64pow10" .u64 Lib.pow10Tab) :
    Calls Tryd.prog 3 #[.slice ao len cap] w fun e w' => e = .returned (.bool true) ∧ Below w.heap.size w w' := by
  have HT : Hid (Lib.TabIs Tryd.prog w "internal/strconv.uint64pow10" .u64 Lib.pow10Tab) := htab
  have HC : Hid (Code w ao len b off) := hc
  have hle := hc.le
  clear htab hc
  go_enter Tryd.func3, Tryd.ntmps3
  go_wp2_with fail
  refine (big_no _ _ _ _ (by omega)).mono ?_
  rintro e w0 ⟨rfl, hw⟩
  obtain rfl := hw.symm
  clear hw
  go_wp2_with fail
  refine (drawVar_any HC.out).mono ?_
  rintro e w1 ⟨x, rfl, b1⟩
  by_cases hx0 : x < 0
  · go_wp2_with fail
    have nb0 : (0 : Int) ≤ (12345 : Int) := by omega
    have nb1 : (12345 : Int) ≤ (1000000000 : Int) := by omega
    have hvl : (vbs (12345 : Int)).length ≤ 5 := vb_len_le 4 _ _ nb0 (by show (12345 : Int) < (34359738368 : Int); omega) (Nat.le_refl _)
    refine (ivar_yes (12345 : Int) _ nb0 nb1).mono ?_
    rintro e w2 ⟨rfl, b2⟩
    have B2 : Below w.heap.size w w2 := b1.trans (b2.mono b1.size)
    clear b2
    have hs1 : (⟨#[120]⟩ : ByteArray).size + (strOfNums (vbs (12345 : Int))).size ≤ 9223372036854775807 := by rw [strOfNums_size]; show 1 + _ ≤ _; omega
    have hs2 : ((⟨#[120]⟩ : ByteArray) ++ strOfNums (vbs (12345 : Int))).size + (⟨#[121]⟩ : ByteArray).size ≤ 9223372036854775807 := by rw [ByteArray.size_append, strOfNums_size]; show 1 + _ + 1 ≤ _; omega
    have hs3 : (((⟨#[120]⟩ : ByteArray) ++ strOfNums (vbs (12345 : Int)) ++ (⟨#[121]⟩ : ByteArray)).size : Int) ≤ 1048576 := by rw [ByteArray.size_append, ByteArray.size_append, strOfNums_size]; show ((1 + _ + 1 : Nat) : Int) ≤ _; omega
    have HRB : Hid (rvOf ((⟨#[120]⟩ : ByteArray) ++ strOfNums (vbs (12345 : Int)) ++ (⟨#[121]⟩ : ByteArray)) 1 = ((12345 : Int), (1 : Int) + (vbs (12345 : Int)).length, true)) := read_back ⟨#[120]⟩ (12345 : Int) ⟨#[121]⟩ nb0 nb1
    have HDB : Hid (rdOk (strOfNums (dec (12345 : Int))) ∧ num10 (bs (strOfNums (dec (12345 : Int)))) = (12345 : Int) ∧ (strOfNums (dec (12345 : Int))).size ≤ 10) := dec_back (12345 : Int) nb0 nb1
    go_wp2_with fail
    refine (iread_eq _ _ _ hs3 (12345 : Int) ((1 : Int) + (vbs (12345 : Int)).length) true HRB.out).mono ?_
    rintro e w3 ⟨rfl, hw⟩
    obtain rfl := hw.symm
    clear hw
    go_wp2_with fail
    refine (idec (12345 : Int) _ (by omega) (by omega) (Joins.tab_stays gPow HT.out B2 (Nat.le_refl _))).mono ?_
    rintro e w4 ⟨rfl, b4⟩
    have B4 : Below w.heap.size w w4 := B2.trans (b4.mono B2.size)
    clear b4
    go_wp2_with fail
    refine (dec_read HDB.out).mono ?_
    rintro e w5 ⟨rfl, hw⟩
    obtain rfl := hw.symm
    clear hw
    go_wp2_with fail
    refine (drawHex_any (HC.out.below B4)).mono ?_
    rintro e w6 ⟨t0, rfl, ht0, b6⟩
    have B6 : Below w.heap.size w w6 := B4.trans (b6.mono B4.size)
    clear b6
    have HV : Hid ((vbs (12345 : Int)).length ≤ 5) := hvl
    clear hs1 hs2 hs3 HRB HDB hvl nb0 nb1
    by_cases ht : (300 : Int) < t0.size
    · go_wp2_with fail
      have tb : ((⟨#[97, 98, 99]⟩ : ByteArray).size : Int) ≤ 300 := by show ((3 : Nat) : Int) ≤ 300; omega
      refine (short_yes_i (⟨#[97, 98, 99]⟩ : ByteArray) _ (by omega)).mono ?_
      rintro e w7 ⟨rfl, b7⟩
      have B7 : Below w.heap.size w w7 := B6.trans (b7.mono B6.size)
      clear b7
      go_wp2_with fail
      refine (short_read (⟨#[97, 98, 99]⟩ : ByteArray) tb).mono ?_
      rintro e w8 ⟨rfl, b8⟩
      have B8 : Below w.heap.size w w8 := B7.trans (b8.mono B7.size)
      clear b8
      go_wp2_with fail
      refine (ihex_yes (⟨#[97, 98, 99]⟩ : ByteArray) _ (by omega)).mono ?_
      rintro e w9 ⟨rfl, b9⟩
      have B9 : Below w.heap.size w w9 := B8.trans (b9.mono B8.size)
      clear b9
      go_wp2_with fail
      refine (hex_read (⟨#[97, 98, 99]⟩ : ByteArray) tb).mono ?_
      rintro e wa ⟨rfl, ba⟩
      have Ba : Below w.heap.size w wa := B9.trans (ba.mono B9.size)
      clear ba B2 B4 B6 B7 B8 B9 b1
      have hvl := HV.out
      have hz1 : (strOfNums (vbs (12345 : Int))).size ≤ (vbs (12345 : Int)).length := by rw [strOfNums_size]; exact Nat.le_refl _
      have hz2 : (vbs (12345 : Int)).length ≤ (strOfNums (vbs (12345 : Int))).size := by rw [strOfNums_size]; exact Nat.le_refl _
      have hq1 : ((1 : Int) + ((vbs (12345 : Int)).length : Int) == ((strOfNums (vbs (12345 : Int))).size : Int) + 1) = true := by rw [strOfNums_size, beq_iff_eq]; omega
      have hx1 : ((⟨#[97, 98, 99]⟩ : ByteArray).toList == (⟨#[97, 98, 99]⟩ : ByteArray).toList) = true := by simp
      have hu1 : (strOfNums (vbs (⟨#[97, 98, 99]⟩ : ByteArray).size)).size ≤ (vbs (⟨#[97, 98, 99]⟩ : ByteArray).size).length := by rw [strOfNums_size]; exact Nat.le_refl _
      have hu2 : (vbs (⟨#[97, 98, 99]⟩ : ByteArray).size).length ≤ (strOfNums (vbs (⟨#[97, 98, 99]⟩ : ByteArray).size)).size := by rw [strOfNums_size]; exact Nat.le_refl _
      have hy1 : (strOfNums (vbs (⟨#[97, 98, 99]⟩ : ByteArray).size) ++ (⟨#[97, 98, 99]⟩ : ByteArray)).size ≤ (vbs (⟨#[97, 98, 99]⟩ : ByteArray).size).length + (⟨#[97, 98, 99]⟩ : ByteArray).size := by rw [ByteArray.size_append, strOfNums_size]; exact Nat.le_refl _
      have hy2 : (vbs (⟨#[97, 98, 99]⟩ : ByteArray).size).length + (⟨#[97, 98, 99]⟩ : ByteArray).size ≤ (strOfNums (vbs (⟨#[97, 98, 99]⟩ : ByteArray).size) ++ (⟨#[97, 98, 99]⟩ : ByteArray)).size := by rw [ByteArray.size_append, strOfNums_size]; exact Nat.le_refl _
      have hsz : (((vbs (⟨#[97, 98, 99]⟩ : ByteArray).size).length : Int) + ((⟨#[97, 98, 99]⟩ : ByteArray).size : Int) == (((strOfNums (vbs (⟨#[97, 98, 99]⟩ : ByteArray).size)) ++ (⟨#[97, 98, 99]⟩ : ByteArray)).size : Int)) = true := by rw [ByteArray.size_append, strOfNums_size, beq_iff_eq]; omega
      go_wp2
      go_ret
      exact ⟨rfl, Ba⟩
    · go_wp2_with fail
      have tb : (t0.size : Int) ≤ 300 := by omega
      refine (short_yes_i t0 _ (by omega)).mono ?_
      rintro e w7 ⟨rfl, b7⟩
      have B7 : Below w.heap.size w w7 := B6.trans (b7.mono B6.size)
      clear b7
      go_wp2_with fail
      refine (short_read t0 tb).mono ?_
      rintro e w8 ⟨rfl, b8⟩
      have B8 : Below w.heap.size w w8 := B7.trans (b8.mono B7.size)
      clear b8
      go_wp2_with fail
      refine (ihex_yes t0 _ (by omega)).mono ?_
      rintro e w9 ⟨rfl, b9⟩
      have B9 : Below w.heap.size w w9 := B8.trans (b9.mono B8.size)
      clear b9
      go_wp2_with fail
      refine (hex_read t0 tb).mono ?_
      rintro e wa ⟨rfl, ba⟩
      have Ba : Below w.heap.size w wa := B9.trans (ba.mono B9.size)
      clear ba B2 B4 B6 B7 B8 B9 b1
      have hvl := HV.out
      have hz1 : (strOfNums (vbs (12345 : Int))).size ≤ (vbs (12345 : Int)).length := by rw [strOfNums_size]; exact Nat.le_refl _
      have hz2 : (vbs (12345 : Int)).length ≤ (strOfNums (vbs (12345 : Int))).size := by rw [strOfNums_size]; exact Nat.le_refl _
      have hq1 : ((1 : Int) + ((vbs (12345 : Int)).length : Int) == ((strOfNums (vbs (12345 : Int))).size : Int) + 1) = true := by rw [strOfNums_size, beq_iff_eq]; omega
      have hx1 : (t0.toList == t0.toList) = true := by simp
      have hu1 : (strOfNums (vbs t0.size)).size ≤ (vbs t0.size).length := by rw [strOfNums_size]; exact Nat.le_refl _
      have hu2 : (vbs t0.size).length ≤ (strOfNums (vbs t0.size)).size := by rw [strOfNums_size]; exact Nat.le_refl _
      have hy1 : (strOfNums (vbs t0.size) ++ t0).size ≤ (vbs t0.size).length + t0.size := by rw [ByteArray.size_append, strOfNums_size]; exact Nat.le_refl _
      have hy2 : (vbs t0.size).length + t0.size ≤ (strOfNums (vbs t0.size) ++ t0).size := by rw [ByteArray.size_append, strOfNums_size]; exact Nat.le_refl _
      have hsz : (((vbs t0.size).length : Int) + (t0.size : Int) == (((strOfNums (vbs t0.size)) ++ t0).size : Int)) = true := by rw [ByteArray.size_append, strOfNums_size, beq_iff_eq]; omega
      go_wp2
      go_ret
      exact ⟨rfl, Ba⟩
  · by_cases hx1 : 1000000000 < x
    · go_wp2_with fail
      have nb0 : (0 : Int) ≤ (12345 : Int) := by omega
      have nb1 : (12345 : Int) ≤ (1000000000 : Int) := by omega
      have hvl : (vbs (12345 : Int)).length ≤ 5 := vb_len_le 4 _ _ nb0 (by show (12345 : Int) < (34359738368 : Int); omega) (Nat.le_refl _)
      refine (ivar_yes (12345 : Int) _ nb0 nb1).mono ?_
      rintro e w2 ⟨rfl, b2⟩
      have B2 : Below w.heap.size w w2 := b1.trans (b2.mono b1.size)
      clear b2
      have hs1 : (⟨#[120]⟩ : ByteArray).size + (strOfNums (vbs (12345 : Int))).size ≤ 9223372036854775807 := by rw [strOfNums_size]; show 1 + _ ≤ _; omega
      have hs2 : ((⟨#[120]⟩ : ByteArray) ++ strOfNums (vbs (12345 : Int))).size + (⟨#[121]⟩ : ByteArray).size ≤ 9223372036854775807 := by rw [ByteArray.size_append, strOfNums_size]; show 1 + _ + 1 ≤ _; omega
      have hs3 : (((⟨#[120]⟩ : ByteArray) ++ strOfNums (vbs (12345 : Int)) ++ (⟨#[121]⟩ : ByteArray)).size : Int) ≤ 1048576 := by rw [ByteArray.size_append, ByteArray.size_append, strOfNums_size]; show ((1 + _ + 1 : Nat) : Int) ≤ _; omega
      have HRB : Hid (rvOf ((⟨#[120]⟩ : ByteArray) ++ strOfNums (vbs (12345 : Int)) ++ (⟨#[121]⟩ : ByteArray)) 1 = ((12345 : Int), (1 : Int) + (vbs (12345 : Int)).length, true)) := read_back ⟨#[120]⟩ (12345 : Int) ⟨#[121]⟩ nb0 nb1
      have HDB : Hid (rdOk (strOfNums (dec (12345 : Int))) ∧ num10 (bs (strOfNums (dec (12345 : Int)))) = (12345 : Int) ∧ (strOfNums (dec (12345 : Int))).size ≤ 10) := dec_back (12345 : Int) nb0 nb1
      go_wp2_with fail
      refine (iread_eq _ _ _ hs3 (12345 : Int) ((1 : Int) + (vbs (12345 : Int)).length) true HRB.out).mono ?_
      rintro e w3 ⟨rfl, hw⟩
      obtain rfl := hw.symm
      clear hw
      go_wp2_with fail
      refine (idec (12345 : Int) _ (by omega) (by omega) (Joins.tab_stays gPow HT.out B2 (Nat.le_refl _))).mono ?_
      rintro e w4 ⟨rfl, b4⟩
      have B4 : Below w.heap.size w w4 := B2.trans (b4.mono B2.size)
      clear b4
      go_wp2_with fail
      refine (dec_read HDB.out).mono ?_
      rintro e w5 ⟨rfl, hw⟩
      obtain rfl := hw.symm
      clear hw
      go_wp2_with fail
      refine (drawHex_any (HC.out.below B4)).mono ?_
      rintro e w6 ⟨t0, rfl, ht0, b6⟩
      have B6 : Below w.heap.size w w6 := B4.trans (b6.mono B4.size)
      clear b6
      have HV : Hid ((vbs (12345 : Int)).length ≤ 5) := hvl
      clear hs1 hs2 hs3 HRB HDB hvl nb0 nb1
      by_cases ht : (300 : Int) < t0.size
      · go_wp2_with fail
        have tb : ((⟨#[97, 98, 99]⟩ : ByteArray).size : Int) ≤ 300 := by show ((3 : Nat) : Int) ≤ 300; omega
        refine (short_yes_i (⟨#[97, 98, 99]⟩ : ByteArray) _ (by omega)).mono ?_
        rintro e w7 ⟨rfl, b7⟩
        have B7 : Below w.heap.size w w7 := B6.trans (b7.mono B6.size)
        clear b7
        go_wp2_with fail
        refine (short_read (⟨#[97, 98, 99]⟩ : ByteArray) tb).mono ?_
        rintro e w8 ⟨rfl, b8⟩
        have B8 : Below w.heap.size w w8 := B7.trans (b8.mono B7.size)
        clear b8
        go_wp2_with fail
        refine (ihex_yes (⟨#[97, 98, 99]⟩ : ByteArray) _ (by omega)).mono ?_
        rintro e w9 ⟨rfl, b9⟩
        have B9 : Below w.heap.size w w9 := B8.trans (b9.mono B8.size)
        clear b9
        go_wp2_with fail
        refine (hex_read (⟨#[97, 98, 99]⟩ : ByteArray) tb).mono ?_
        rintro e wa ⟨rfl, ba⟩
        have Ba : Below w.heap.size w wa := B9.trans (ba.mono B9.size)
        clear ba B2 B4 B6 B7 B8 B9 b1
        have hvl := HV.out
        have hz1 : (strOfNums (vbs (12345 : Int))).size ≤ (vbs (12345 : Int)).length := by rw [strOfNums_size]; exact Nat.le_refl _
        have hz2 : (vbs (12345 : Int)).length ≤ (strOfNums (vbs (12345 : Int))).size := by rw [strOfNums_size]; exact Nat.le_refl _
        have hq1 : ((1 : Int) + ((vbs (12345 : Int)).length : Int) == ((strOfNums (vbs (12345 : Int))).size : Int) + 1) = true := by rw [strOfNums_size, beq_iff_eq]; omega
        have hx1 : ((⟨#[97, 98, 99]⟩ : ByteArray).toList == (⟨#[97, 98, 99]⟩ : ByteArray).toList) = true := by simp
        have hu1 : (strOfNums (vbs (⟨#[97, 98, 99]⟩ : ByteArray).size)).size ≤ (vbs (⟨#[97, 98, 99]⟩ : ByteArray).size).length := by rw [strOfNums_size]; exact Nat.le_refl _
        have hu2 : (vbs (⟨#[97, 98, 99]⟩ : ByteArray).size).length ≤ (strOfNums (vbs (⟨#[97, 98, 99]⟩ : ByteArray).size)).size := by rw [strOfNums_size]; exact Nat.le_refl _
        have hy1 : (strOfNums (vbs (⟨#[97, 98, 99]⟩ : ByteArray).size) ++ (⟨#[97, 98, 99]⟩ : ByteArray)).size ≤ (vbs (⟨#[97, 98, 99]⟩ : ByteArray).size).length + (⟨#[97, 98, 99]⟩ : ByteArray).size := by rw [ByteArray.size_append, strOfNums_size]; exact Nat.le_refl _
        have hy2 : (vbs (⟨#[97, 98, 99]⟩ : ByteArray).size).length + (⟨#[97, 98, 99]⟩ : ByteArray).size ≤ (strOfNums (vbs (⟨#[97, 98, 99]⟩ : ByteArray).size) ++ (⟨#[97, 98, 99]⟩ : ByteArray)).size := by rw [ByteArray.size_append, strOfNums_size]; exact Nat.le_refl _
        have hsz : (((vbs (⟨#[97, 98, 99]⟩ : ByteArray).size).length : Int) + ((⟨#[97, 98, 99]⟩ : ByteArray).size : Int) == (((strOfNums (vbs (⟨#[97, 98, 99]⟩ : ByteArray).size)) ++ (⟨#[97, 98, 99]⟩ : ByteArray)).size : Int)) = true := by rw [ByteArray.size_append, strOfNums_size, beq_iff_eq]; omega
        go_wp2
        go_ret
        exact ⟨rfl, Ba⟩
      · go_wp2_with fail
        have tb : (t0.size : Int) ≤ 300 := by omega
        refine (short_yes_i t0 _ (by omega)).mono ?_
        rintro e w7 ⟨rfl, b7⟩
        have B7 : Below w.heap.size w w7 := B6.trans (b7.mono B6.size)
        clear b7
        go_wp2_with fail
        refine (short_read t0 tb).mono ?_
        rintro e w8 ⟨rfl, b8⟩
        have B8 : Below w.heap.size w w8 := B7.trans (b8.mono B7.size)
        clear b8
        go_wp2_with fail
        refine (ihex_yes t0 _ (by omega)).mono ?_
        rintro e w9 ⟨rfl, b9⟩
        have B9 : Below w.heap.size w w9 := B8.trans (b9.mono B8.size)
        clear b9
        go_wp2_with fail
        refine (hex_read t0 tb).mono ?_
        rintro e wa ⟨rfl, ba⟩
        have Ba : Below w.heap.size w wa := B9.trans (ba.mono B9.size)
        clear ba B2 B4 B6 B7 B8 B9 b1
        have hvl := HV.out
        have hz1 : (strOfNums (vbs (12345 : Int))).size ≤ (vbs (12345 : Int)).length := by rw [strOfNums_size]; exact Nat.le_refl _
        have hz2 : (vbs (12345 : Int)).length ≤ (strOfNums (vbs (12345 : Int))).size := by rw [strOfNums_size]; exact Nat.le_refl _
        have hq1 : ((1 : Int) + ((vbs (12345 : Int)).length : Int) == ((strOfNums (vbs (12345 : Int))).size : Int) + 1) = true := by rw [strOfNums_size, beq_iff_eq]; omega
        have hx1 : (t0.toList == t0.toList) = true := by simp
        have hu1 : (strOfNums (vbs t0.size)).size ≤ (vbs t0.size).length := by rw [strOfNums_size]; exact Nat.le_refl _
        have hu2 : (vbs t0.size).length ≤ (strOfNums (vbs t0.size)).size := by rw [strOfNums_size]; exact Nat.le_refl _
        have hy1 : (strOfNums (vbs t0.size) ++ t0).size ≤ (vbs t0.size).length + t0.size := by rw [ByteArray.size_append, strOfNums_size]; exact Nat.le_refl _
        have hy2 : (vbs t0.size).length + t0.size ≤ (strOfNums (vbs t0.size) ++ t0).size := by rw [ByteArray.size_append, strOfNums_size]; exact Nat.le_refl _
        have hsz : (((vbs t0.size).length : Int) + (t0.size : Int) == (((strOfNums (vbs t0.size)) ++ t0).size : Int)) = true := by rw [ByteArray.size_append, strOfNums_size, beq_iff_eq]; omega
        go_wp2
        go_ret
        exact ⟨rfl, Ba⟩
    · go_wp2_with fail
      have nb0 : (0 : Int) ≤ x := by omega
      have nb1 : x ≤ (1000000000 : Int) := by omega
      have hvl : (vbs x).length ≤ 5 := vb_len_le 4 _ _ nb0 (by show x < (34359738368 : Int); omega) (Nat.le_refl _)
      refine (ivar_yes x _ nb0 nb1).mono ?_
      rintro e w2 ⟨rfl, b2⟩
      have B2 : Below w.heap.size w w2 := b1.trans (b2.mono b1.size)
      clear b2
      have hs1 : (⟨#[120]⟩ : ByteArray).size + (strOfNums (vbs x)).size ≤ 9223372036854775807 := by rw [strOfNums_size]; show 1 + _ ≤ _; omega
      have hs2 : ((⟨#[120]⟩ : ByteArray) ++ strOfNums (vbs x)).size + (⟨#[121]⟩ : ByteArray).size ≤ 9223372036854775807 := by rw [ByteArray.size_append, strOfNums_size]; show 1 + _ + 1 ≤ _; omega
      have hs3 : (((⟨#[120]⟩ : ByteArray) ++ strOfNums (vbs x) ++ (⟨#[121]⟩ : ByteArray)).size : Int) ≤ 1048576 := by rw [ByteArray.size_append, ByteArray.size_append, strOfNums_size]; show ((1 + _ + 1 : Nat) : Int) ≤ _; omega
      have HRB : Hid (rvOf ((⟨#[120]⟩ : ByteArray) ++ strOfNums (vbs x) ++ (⟨#[121]⟩ : ByteArray)) 1 = (x, (1 : Int) + (vbs x).length, true)) := read_back ⟨#[120]⟩ x ⟨#[121]⟩ nb0 nb1
      have HDB : Hid (rdOk (strOfNums (dec x)) ∧ num10 (bs (strOfNums (dec x))) = x ∧ (strOfNums (dec x)).size ≤ 10) := dec_back x nb0 nb1
      go_wp2_with fail
      refine (iread_eq _ _ _ hs3 x ((1 : Int) + (vbs x).length) true HRB.out).mono ?_
      rintro e w3 ⟨rfl, hw⟩
      obtain rfl := hw.symm
      clear hw
      go_wp2_with fail
      refine (idec x _ (by omega) (by omega) (Joins.tab_stays gPow HT.out B2 (Nat.le_refl _))).mono ?_
      rintro e w4 ⟨rfl, b4⟩
      have B4 : Below w.heap.size w w4 := B2.trans (b4.mono B2.size)
      clear b4
      go_wp2_with fail
      refine (dec_read HDB.out).mono ?_
      rintro e w5 ⟨rfl, hw⟩
      obtain rfl := hw.symm
      clear hw
      go_wp2_with fail
      refine (drawHex_any (HC.out.below B4)).mono ?_
      rintro e w6 ⟨t0, rfl, ht0, b6⟩
      have B6 : Below w.heap.size w w6 := B4.trans (b6.mono B4.size)
      clear b6
      have HV : Hid ((vbs x).length ≤ 5) := hvl
      clear hs1 hs2 hs3 HRB HDB hvl nb0 nb1 hx0 hx1
      by_cases ht : (300 : Int) < t0.size
      · go_wp2_with fail
        have tb : ((⟨#[97, 98, 99]⟩ : ByteArray).size : Int) ≤ 300 := by show ((3 : Nat) : Int) ≤ 300; omega
        refine (short_yes_i (⟨#[97, 98, 99]⟩ : ByteArray) _ (by omega)).mono ?_
        rintro e w7 ⟨rfl, b7⟩
        have B7 : Below w.heap.size w w7 := B6.trans (b7.mono B6.size)
        clear b7
        go_wp2_with fail
        refine (short_read (⟨#[97, 98, 99]⟩ : ByteArray) tb).mono ?_
        rintro e w8 ⟨rfl, b8⟩
        have B8 : Below w.heap.size w w8 := B7.trans (b8.mono B7.size)
        clear b8
        go_wp2_with fail
        refine (ihex_yes (⟨#[97, 98, 99]⟩ : ByteArray) _ (by omega)).mono ?_
        rintro e w9 ⟨rfl, b9⟩
        have B9 : Below w.heap.size w w9 := B8.trans (b9.mono B8.size)
        clear b9
        go_wp2_with fail
        refine (hex_read (⟨#[97, 98, 99]⟩ : ByteArray) tb).mono ?_
        rintro e wa ⟨rfl, ba⟩
        have Ba : Below w.heap.size w wa := B9.trans (ba.mono B9.size)
        clear ba B2 B4 B6 B7 B8 B9 b1
        have hvl := HV.out
        have hz1 : (strOfNums (vbs x)).size ≤ (vbs x).length := by rw [strOfNums_size]; exact Nat.le_refl _
        have hz2 : (vbs x).length ≤ (strOfNums (vbs x)).size := by rw [strOfNums_size]; exact Nat.le_refl _
        have hq1 : ((1 : Int) + ((vbs x).length : Int) == ((strOfNums (vbs x)).size : Int) + 1) = true := by rw [strOfNums_size, beq_iff_eq]; omega
        have hx1 : ((⟨#[97, 98, 99]⟩ : ByteArray).toList == (⟨#[97, 98, 99]⟩ : ByteArray).toList) = true := by simp
        have hu1 : (strOfNums (vbs (⟨#[97, 98, 99]⟩ : ByteArray).size)).size ≤ (vbs (⟨#[97, 98, 99]⟩ : ByteArray).size).length := by rw [strOfNums_size]; exact Nat.le_refl _
        have hu2 : (vbs (⟨#[97, 98, 99]⟩ : ByteArray).size).length ≤ (strOfNums (vbs (⟨#[97, 98, 99]⟩ : ByteArray).size)).size := by rw [strOfNums_size]; exact Nat.le_refl _
        have hy1 : (strOfNums (vbs (⟨#[97, 98, 99]⟩ : ByteArray).size) ++ (⟨#[97, 98, 99]⟩ : ByteArray)).size ≤ (vbs (⟨#[97, 98, 99]⟩ : ByteArray).size).length + (⟨#[97, 98, 99]⟩ : ByteArray).size := by rw [ByteArray.size_append, strOfNums_size]; exact Nat.le_refl _
        have hy2 : (vbs (⟨#[97, 98, 99]⟩ : ByteArray).size).length + (⟨#[97, 98, 99]⟩ : ByteArray).size ≤ (strOfNums (vbs (⟨#[97, 98, 99]⟩ : ByteArray).size) ++ (⟨#[97, 98, 99]⟩ : ByteArray)).size := by rw [ByteArray.size_append, strOfNums_size]; exact Nat.le_refl _
        have hsz : (((vbs (⟨#[97, 98, 99]⟩ : ByteArray).size).length : Int) + ((⟨#[97, 98, 99]⟩ : ByteArray).size : Int) == (((strOfNums (vbs (⟨#[97, 98, 99]⟩ : ByteArray).size)) ++ (⟨#[97, 98, 99]⟩ : ByteArray)).size : Int)) = true := by rw [ByteArray.size_append, strOfNums_size, beq_iff_eq]; omega
        go_wp2
        go_ret
        exact ⟨rfl, Ba⟩
      · go_wp2_with fail
        have tb : (t0.size : Int) ≤ 300 := by omega
        refine (short_yes_i t0 _ (by omega)).mono ?_
        rintro e w7 ⟨rfl, b7⟩
        have B7 : Below w.heap.size w w7 := B6.trans (b7.mono B6.size)
        clear b7
        go_wp2_with fail
        refine (short_read t0 tb).mono ?_
        rintro e w8 ⟨rfl, b8⟩
        have B8 : Below w.heap.size w w8 := B7.trans (b8.mono B7.size)
        clear b8
        go_wp2_with fail
        refine (ihex_yes t0 _ (by omega)).mono ?_
        rintro e w9 ⟨rfl, b9⟩
        have B9 : Below w.heap.size w w9 := B8.trans (b9.mono B8.size)
        clear b9
        go_wp2_with fail
        refine (hex_read t0 tb).mono ?_
        rintro e wa ⟨rfl, ba⟩
        have Ba : Below w.heap.size w wa := B9.trans (ba.mono B9.size)
        clear ba B2 B4 B6 B7 B8 B9 b1
        have hvl := HV.out
        have hz1 : (strOfNums (vbs x)).size ≤ (vbs x).length := by rw [strOfNums_size]; exact Nat.le_refl _
        have hz2 : (vbs x).length ≤ (strOfNums (vbs x)).size := by rw [strOfNums_size]; exact Nat.le_refl _
        have hq1 : ((1 : Int) + ((vbs x).length : Int) == ((strOfNums (vbs x)).size : Int) + 1) = true := by rw [strOfNums_size, beq_iff_eq]; omega
        have hx1 : (t0.toList == t0.toList) = true := by simp
        have hu1 : (strOfNums (vbs t0.size)).size ≤ (vbs t0.size).length := by rw [strOfNums_size]; exact Nat.le_refl _
        have hu2 : (vbs t0.size).length ≤ (strOfNums (vbs t0.size)).size := by rw [strOfNums_size]; exact Nat.le_refl _
        have hy1 : (strOfNums (vbs t0.size) ++ t0).size ≤ (vbs t0.size).length + t0.size := by rw [ByteArray.size_append, strOfNums_size]; exact Nat.le_refl _
        have hy2 : (vbs t0.size).length + t0.size ≤ (strOfNums (vbs t0.size) ++ t0).size := by rw [ByteArray.size_append, strOfNums_size]; exact Nat.le_refl _
        have hsz : (((vbs t0.size).length : Int) + (t0.size : Int) == (((strOfNums (vbs t0.size)) ++ t0).size : Int)) = true := by rw [ByteArray.size_append, strOfNums_size, beq_iff_eq]; omega
        go_wp2
        go_ret
        exact ⟨rfl, Ba⟩
end Go.Proofs.YtnghhfgbobpnkaaDoor.WFnNumbers
