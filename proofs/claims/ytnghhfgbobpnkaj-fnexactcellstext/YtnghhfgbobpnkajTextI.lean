/-
  The contract of the program's CellsText.
-/
import Derived.Test.YtnghhfgbobpnkajTextN
import Derived.Test.YtnghhfgbobpnkajCellsI
import Derived.Test.YtnghhfgbobpnkajShortI
import Derived.Test.YtnghhfgbobpnkajBuildI
import Derived.Test.YtnghhfgbobpnkajShelfBuild
namespace Go.Proofs.Ytnghhfgbobpnkaj
open Go.RowKit Num

theorem keyB_size {k : ByteArray} (h : keyB k = true) : (k.size : Int) ≤ 3 := by
  unfold keyB at h
  rw [Bool.and_eq_true] at h
  have := h.2
  unfold inB at this
  simp at this
  omega
theorem ba_assoc (s a k v : ByteArray) : s ++ a ++ k ++ v = s ++ (a ++ k) ++ v := by
  apply ByteArray.ext; simp [ByteArray.data_append]
theorem bld_string (B b : Nat) (s : ByteArray) (w : World) (h : Bld w B b s) (hBw : B ≤ w.heap.size) :
    Calls Try.prog 60 #[.pointer (some ⟨b, 0, none⟩)] w fun e w' => e = .returned (.string s) ∧ Below B w w' := by
  refine (Builder_String_any B b s.data.toList w h hBw).mono ?_
  rintro e w' ⟨rfl, hb⟩
  exact ⟨by simp, hb⟩

set_option maxRecDepth 100000 in
set_option maxHeartbeats 2000000 in
theorem text_i (cs : CL) (v : Value) (w : World) (hv : Cells w v cs) (hl : (cs.length : Int) ≤ 1048576) (hall : ∀ c ∈ cs, (c.1.size : Int) ≤ 1048576) :
    Calls Try.prog 28 #[v] w fun e w' => e = .returned (.string (cellsText cs)) ∧ Below w.heap.size w w' := by
  have HV : Hid (Cells w v cs) := hv
  have HA : Hid (∀ c ∈ cs, (c.1.size : Int) ≤ 1048576) := hall
  obtain ⟨a, cap, rfl, hr⟩ := hv
  have HR : Hid (0 < cs.length → _) := hr
  clear hr hall
  go_enter Try.func28, Try.ntmps28
  go_wp2_with fail
  refine (cellsOk_i cs _ w HV.out hl HA.out).mono ?_
  rintro e w1 ⟨rfl, hb1⟩
  have HB1 : Hid (Below w.heap.size w w1) := hb1
  cases hcb : cellsB cs with
  | false =>
    have HE : Hid (cellsText cs = ByteArray.empty) := (by unfold cellsText; rw [hcb]; rfl : cellsText cs = ByteArray.empty)
    go_wp2
    go_ret
    exact ⟨by rw [HE.out]; rfl, HB1.out⟩
  | true =>
    have HE : Hid (cellsText cs = txt cs) := (by unfold cellsText; rw [hcb]; rfl : cellsText cs = txt cs)
    obtain ⟨hok, _, hl12⟩ := cellsB_iff.1 hcb
    have HOK : Hid (∀ c ∈ cs, keyB c.1 = true ∧ numB c.2 = true) := hok
    have HF : Hid (Bld (w1.alloc (.cells #[.pointer none, .slice none 0 0] 87)) w1.heap.size w1.heap.size ByteArray.empty) := Lib.fresh_isBuilder _ _ _
    clear hok hcb hb1
    go_wp2
    go_loopw [15] (fun i wr => ∃ k : Nat, k ≤ cs.length ∧ i = .int .i64 (k : Int) ∧ Bld wr w1.heap.size w1.heap.size (txt (cs.take k)) ∧ w1.heap.size ≤ wr.heap.size ∧ Below w.heap.size w wr) (fun i _ => cs.length - (intOf i).toNat)
    case atStart => exact ⟨0, Nat.zero_le _, rfl, HF.out, by simp, ba HB1.out _⟩
    case round =>
      obtain ⟨k, hk, rfl, hbld, hws, hbel⟩ := hrel
      have HB : Hid (Below w.heap.size w wr) := hbel
      have HD : Hid (Bld wr w1.heap.size w1.heap.size (txt (cs.take k))) := hbld
      have hs1 := HB1.out.size
      clear hbel hbld
      by_cases hlt : (k : Int) < cs.length
      · have hkn : k < cs.length := by omega
        obtain ⟨g, off, rfl, hg, hc⟩ := HR.out (by omega)
        have q0 : (0 : Int) ≤ (k : Int) := by omega
        have c0 : wr.cell? ⟨g, off + k * 2, none⟩ = some (.string cs[k].1) := by rw [HB.out.cell (by exact hg)]; exact (hc k hkn).1
        have c1 : wr.cell? ⟨g, off + k * 2 + 1, none⟩ = some (.int .i64 cs[k].2) := by rw [HB.out.cell (by exact hg)]; exact (hc k hkn).2
        have hkb := (HOK.out cs[k] (List.getElem_mem hkn)).1
        have hsz : (cs[k].1.size : Int) ≤ 3 := keyB_size hkb
        have hnb := numB_bd (HOK.out cs[k] (List.getElem_mem hkn)).2
        have hts := txt_size (cs := cs.take k) fun c hc => ⟨HA.out c (List.mem_of_mem_take hc), (numB_bd (HOK.out c (List.mem_of_mem_take hc)).2).2⟩
        rw [List.length_take] at hts
        have HT : Hid (txt (cs.take (k + 1)) = _) := txt_step hkn
        have hAl : (strOfNums (vbs (cs[k].1.size : Int))).size ≤ 5 := by rw [strOfNums_size]; exact vbs_small _ (by omega)
        have hVl : (strOfNums (vbs cs[k].2)).size ≤ 5 := by rw [strOfNums_size]; exact vbs_small _ hnb.2
        clear hc hkb
        go_wp2_with fail
        refine (short_yes_i cs[k].1 _ (by omega)).mono ?_
        rintro e w2 ⟨rfl, hb2⟩
        have hbr2 : Below wr.heap.size wr w2 := bt (ba (Below.refl _ _) _) hb2
        have c2 : w2.cell? ⟨wr.heap.size, 1, none⟩ = some (.int .i64 cs[k].2) := by rw [hb2.cell (by simp)]; simp
        clear hb2 c0 c1
        go_wp2_with fail
        refine (ivar_yes cs[k].2 _ hnb.1 hnb.2).mono ?_
        rintro e w3 ⟨rfl, hb3⟩
        have hbr3 : Below wr.heap.size wr w3 := bt hbr2 hb3
        have hs3 := hbr3.size
        have HD3 : Hid (Bld w3 w1.heap.size w1.heap.size (txt (cs.take k))) := HD.out.below hbr3
        have HB3 : Hid (Below w.heap.size w w3) := bt HB.out hbr3
        clear hb3 c2 hbr2 hbr3
        go_wp2_with fail
        refine (write_i w1.heap.size w1.heap.size (txt (cs.take k)) (strOfNums (vbs (cs[k].1.size : Int)) ++ cs[k].1) w3 HD3.out (by rw [ByteArray.size_append]; omega) (by omega)).mono ?_
        rintro e w4 ⟨rfl, hd4, hb4⟩
        have HD4 : Hid (Bld w4 w1.heap.size w1.heap.size (txt (cs.take k) ++ (strOfNums (vbs (cs[k].1.size : Int)) ++ cs[k].1))) := hd4
        have HB4 : Hid (Below w.heap.size w w4) := HB3.out.trans (hb4.mono hs1)
        have hs4 := hb4.size
        clear hd4 hb4
        go_wp2_with fail
        refine (write_i w1.heap.size w1.heap.size _ (strOfNums (vbs cs[k].2)) w4 HD4.out (by rw [ByteArray.size_append, ByteArray.size_append]; omega) (by omega)).mono ?_
        rintro e w5 ⟨rfl, hd5, hb5⟩
        have HD5 : Hid (Bld w5 w1.heap.size w1.heap.size (txt (cs.take k) ++ (strOfNums (vbs (cs[k].1.size : Int)) ++ cs[k].1) ++ strOfNums (vbs cs[k].2))) := hd5
        have HB5 : Hid (Below w.heap.size w w5) := HB4.out.trans (hb5.mono hs1)
        have hs5 := hb5.size
        clear hd5 hb5
        go_wp2
        go_roundw
        case rel => exact ⟨k + 1, by omega, by go_num, by rw [HT.out, ba_assoc]; exact HD5.out, by omega, HB5.out⟩
        case measure => simp [intOf]; omega
      · have hkl : k = cs.length := by omega
        have HD' : Hid (Bld wr w1.heap.size w1.heap.size (txt cs)) := (by have := HD.out; rw [hkl, List.take_length] at this; exact this : Bld wr w1.heap.size w1.heap.size (txt cs))
        clear hkl HD
        go_wp2_with fail
        refine (bld_string w1.heap.size w1.heap.size (txt cs) wr HD'.out hws).mono ?_
        rintro e w2 ⟨rfl, hb2⟩
        go_wp2
        go_ret
        exact ⟨by rw [HE.out]; rfl, HB.out.trans (hb2.mono hs1)⟩

end Go.Proofs.Ytnghhfgbobpnkaj
