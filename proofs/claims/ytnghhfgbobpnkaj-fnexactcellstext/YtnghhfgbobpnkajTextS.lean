/-
  The contract of the specification's CellsText.
-/
import Derived.Test.YtnghhfgbobpnkajTextN
import Derived.Test.YtnghhfgbobpnkajCellS2
import Derived.Test.YtnghhfgbobpnkajVarS
namespace Go.Proofs.Ytnghhfgbobpnkaj
open Go.RowKit Num

/-- the text of a number -/
def vtx (n : Int) : ByteArray := strOfNums (vbs n)
theorem var_v (n : Int) (w : World) (h0 : 0 ≤ n) (h1 : n ≤ 1000000000) :
    Calls Try.prog 56 #[.int .i64 n] w fun e w' => e = .returned (.string (vtx n)) ∧ Below w.heap.size w w' := var_any n w h0 h1

set_option maxRecDepth 100000 in
set_option maxHeartbeats 2000000 in
theorem text_s (cs : CL) (v : Value) (w : World) (hv : Cells w v cs) (hl : (cs.length : Int) ≤ 1048576) (hall : ∀ c ∈ cs, (c.1.size : Int) ≤ 1048576) :
    Calls Try.prog 27 #[v] w fun e w' => e = .returned (.string (cellsText cs)) ∧ Below w.heap.size w w' := by
  have HV : Hid (Cells w v cs) := hv
  have HA : Hid (∀ c ∈ cs, (c.1.size : Int) ≤ 1048576) := hall
  obtain ⟨a, cap, rfl, hr⟩ := hv
  have HR : Hid (0 < cs.length → _) := hr
  clear hr hall
  go_enter Try.func27, Try.ntmps27
  go_wp2_with fail
  refine (cellsOk_s cs _ w HV.out hl HA.out).mono ?_
  rintro e w1 ⟨rfl, hb1⟩
  have HB1 : Hid (Below w.heap.size w w1) := hb1
  cases hcb : cellsB cs with
  | false =>
    have HE : Hid (cellsText cs = ByteArray.empty) := (by unfold cellsText; rw [hcb]; rfl : cellsText cs = ByteArray.empty)
    go_wp2
    go_ret
    exact ⟨by rw [HE.out]; rfl, HB1.out⟩
  | true =>
    have HE : Hid (cellsText cs = txt cs) := (by unfold cellsText; rw [hcb]; rfl : cellsText cs = txt cs)
    obtain ⟨hok, _, hl12⟩ := cellsB_iff.1 hcb
    have HOK : Hid (∀ c ∈ cs, keyB c.1 = true ∧ numB c.2 = true) := hok
    clear hok hcb hb1
    go_wp2
    go_loopw [3, 4] (fun o i wr => ∃ k : Nat, k ≤ cs.length ∧ i = .int .i64 (k : Int) ∧ o = .string (txt (cs.take k)) ∧ Below w.heap.size w wr) (fun _ i _ => cs.length - (intOf i).toNat)
    case atStart => exact ⟨0, Nat.zero_le _, rfl, rfl, HB1.out⟩
    case round =>
      obtain ⟨k, hk, rfl, rfl, hbel⟩ := hrel
      have HB : Hid (Below w.heap.size w wr) := hbel
      clear hbel
      by_cases hlt : (k : Int) < cs.length
      · have hkn : k < cs.length := by omega
        obtain ⟨g, off, rfl, hg, hc⟩ := HR.out (by omega)
        have q0 : (0 : Int) ≤ (k : Int) := by omega
        have hne := bw_some wr
        have c0 : ∀ x : Bw wr, x.to.cell? ⟨g, off + k * 2, none⟩ = some (.string cs[k].1) := fun x => by rw [(bt HB.out x.below).cell (by exact hg)]; exact (hc k hkn).1
        have c1 : ∀ x : Bw wr, x.to.cell? ⟨g, off + k * 2 + 1, none⟩ = some (.int .i64 cs[k].2) := fun x => by rw [(bt HB.out x.below).cell (by exact hg)]; exact (hc k hkn).2
        have hsz := HA.out cs[k] (List.getElem_mem hkn)
        have hnb := numB_bd (HOK.out cs[k] (List.getElem_mem hkn)).2
        have hts := txt_size (cs := cs.take k) fun c hc => ⟨HA.out c (List.mem_of_mem_take hc), (numB_bd (HOK.out c (List.mem_of_mem_take hc)).2).2⟩
        rw [List.length_take] at hts
        have HT : Hid (txt (cs.take (k + 1)) = _) := txt_step hkn
        obtain ⟨S, hS⟩ : ∃ S, S = txt (cs.take k) := ⟨_, rfl⟩
        rw [← hS] at hts HT ⊢
        have HSS : Hid (S = txt (cs.take k)) := hS
        obtain ⟨key, hkey⟩ : ∃ key, key = cs[k].1 := ⟨_, rfl⟩
        obtain ⟨num, hnum⟩ : ∃ num, num = cs[k].2 := ⟨_, rfl⟩
        rw [← hkey, ← hnum] at HT
        rw [← hkey] at hsz c0
        rw [← hnum] at hnb c1
        have hAl : (vtx (key.size : Int)).size ≤ 5 := by unfold vtx; rw [strOfNums_size]; exact vbs_small _ (by omega)
        have hVl : (vtx num).size ≤ 5 := by unfold vtx; rw [strOfNums_size]; exact vbs_small _ hnb.2
        have HT2 : Hid (txt (cs.take (k + 1)) = S ++ vtx (key.size : Int) ++ key ++ vtx num) := HT.out
        have n0 : (0 : Int) ≤ (key.size : Int) := by omega
        have n1 : (key.size : Int) ≤ 1000000000 := by omega
        obtain ⟨n2, n3⟩ := hnb
        have b1 : S.size + (vtx (key.size : Int)).size ≤ 9223372036854775807 := by omega
        have b2 : (S ++ vtx (key.size : Int)).size + key.size ≤ 9223372036854775807 := by rw [ByteArray.size_append]; omega
        have b3 : (S ++ vtx (key.size : Int) ++ key).size + (vtx num).size ≤ 9223372036854775807 := by rw [ByteArray.size_append, ByteArray.size_append]; omega
        clear hc hS hts HT hkey hnum
        go_wp2
        refine wp_region_bw (by kernel_rfl) (by kernel_rfl) ?_
        repeat (go_big_quiet_step (refine calls_bw (var_v _ _ (by assumption) (by assumption))))
        refine wpQuiet_nil ?_
        intro _ hw'
        obtain ⟨x, rfl⟩ := hw'
        go_wp2
        go_roundw
        case rel => exact ⟨k + 1, by omega, by go_num, by rw [HT2.out], bt HB.out x.below⟩
        case measure => simp [intOf]; omega
      · have hkl : k = cs.length := by omega
        have HK : Hid (k = cs.length) := hkl
        clear hkl
        go_wp2
        go_ret
        exact ⟨by rw [HE.out, HK.out, List.take_length]; rfl, HB.out⟩

end Go.Proofs.Ytnghhfgbobpnkaj
