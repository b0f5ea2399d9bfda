/-
  The contracts of the program's functions on a map of accounts: how it is made, how an account is put into it.
-/
import Derived.Test.YtnghhfgbobpnkakMapN
import Derived.Test.YtnghhfgbobpnkakCmdI
namespace Go.Proofs.Ytnghhfgbobpnkak
open Go.RowKit Num Go.Maps

theorem zeroI (w : World) : (zeroValue 3).run Try.prog w = .ok (.int .i64 0) w := by kernel_rfl
theorem mapT : Try.prog.underlying 77 = some (.map 9 3) := Try.underlying77
theorem makeM (t : TypeId) (n : Int) (w : World) (ht : Try.prog.underlying t = some (.map 9 3)) : (Instr.makeMap t (some (.int .i64 n))).run Try.prog w = .ok (.map (some w.heap.size)) (w.alloc (.map #[] 0)) := by
  simp [Instr.makeMap, run_underlying ht, asInt, Result.andThen]
  rfl

theorem keyS {k : ByteArray} (h : (k.size : Int) ≤ 1048576) : keyOf Try.prog 9 (.string k) = some (lk k) := WideMaps.keyOf_string_mk Try.underlying9 (by unfold maxLen; omega)
theorem elemI {n : Int} (h : 0 ≤ n ∧ n ≤ 1000000000) : plainElem (H := Unit) Try.prog 3 (.int .i64 n) = some (i64D n, []) := plainElem_int Try.underlying3 (WalkArith.wf_i64 ⟨by omega, by omega⟩)

set_option maxRecDepth 100000 in
set_option maxHeartbeats 2000000 in
theorem accounts_i (cs : CL) (v : Value) (w : World) (hv : Cells w v cs) (hcb : cellsB cs = true) (hall : ∀ c ∈ cs, (c.1.size : Int) ≤ 1048576) :
    Calls Try.prog 47 #[v] w fun e w' => e = .returned (.map (some w.heap.size)) ∧ MapIs w' w.heap.size cs ∧ Below w.heap.size w w' := by
  obtain ⟨hok, hA, hl⟩ := cellsB_iff.1 hcb
  have HOK : Hid (∀ c ∈ cs, keyB c.1 = true ∧ numB c.2 = true) := hok
  have HA : Hid (Asc cs) := hA
  have HZ : Hid (∀ c ∈ cs, (c.1.size : Int) ≤ 1048576) := hall
  obtain ⟨a, cap, rfl, hr⟩ := hv
  have HR : Hid (0 < cs.length → _) := hr
  have hmm := makeM 77 (cs.length : Int)
  clear hr hok hA hall hcb
  go_enter Try.func47, Try.ntmps47
  go_wp2
  go_loopw [11] (fun i wr => ∃ k : Nat, k ≤ cs.length ∧ i = .int .i64 (k : Int) ∧ MapIs wr w.heap.size (cs.take k) ∧ Below w.heap.size w wr) (fun i _ => cs.length - (intOf i).toNat)
  case atStart => exact ⟨0, Nat.zero_le _, rfl, map_made w, ba (Below.refl _ _) _⟩
  case round =>
    obtain ⟨k, hk, rfl, hmap, hbel⟩ := hrel
    by_cases hlt : (k : Int) < cs.length
    · have hkn : k < cs.length := by omega
      obtain ⟨g, off, rfl, hg, hc⟩ := HR.out (by omega)
      have q0 : (0 : Int) ≤ (k : Int) := by omega
      have c0 : wr.cell? ⟨g, off + k * 2, none⟩ = some (.string cs[k].1) := by rw [hbel.cell (by exact hg)]; exact (hc k hkn).1
      have c1 : wr.cell? ⟨g, off + k * 2 + 1, none⟩ = some (.int .i64 cs[k].2) := by rw [hbel.cell (by exact hg)]; exact (hc k hkn).2
      have hsz := HZ.out cs[k] (List.getElem_mem hkn)
      have hnb := numB_bd (HOK.out cs[k] (List.getElem_mem hkn)).2
      have hkey : keyOf Try.prog 9 (.string cs[k].1) = some (lk cs[k].1) := keyS hsz
      have hwf : plainElem (H := Unit) Try.prog 3 (.int .i64 cs[k].2) = some (i64D cs[k].2, []) := elemI hnb
      have hbs := hbel.size
      have hlt2 := hmap.lt
      obtain ⟨D, hD, hrep⟩ := hmap
      have hlen : (cs.take k).length < maxLen := by rw [List.length_take]; unfold maxLen; omega
      have HD : Hid (wr.ownsMap Try.prog 9 (plainElem Try.prog 3) w.heap.size (cs.take k).length D) := hD
      have HP : Hid (Rep (D.put (lk cs[k].1) (i64D cs[k].2)) (cs.take (k + 1))) := (by have := rep_put (hD.tidy keyedS) hrep (asc_take HA.out k) cs[k]; rw [putC_take HA.out hkn] at this; exact this : Rep (D.put (lk cs[k].1) (i64D cs[k].2)) (cs.take (k + 1)))
      have HK : Hid (keyOf Try.prog 9 (.string cs[k].1) = some (lk cs[k].1)) := hkey
      have HW : Hid (plainElem (H := Unit) Try.prog 3 (.int .i64 cs[k].2) = some (i64D cs[k].2, [])) := hwf
      clear hc hD hrep hkey hwf
      go_wp2_with (at_mapUpdate; refine wpList_mapUpdate_own _ rfl _ _ _ 77 rfl 9 3 keyedS mapT _ w.heap.size (cs.take k).length D rfl (HD.out.alloc _) hlen _ _ _ rfl rfl HK.out _ [] HW.out ?_; intro w1 hown1 hgrow1)
      go_roundw
      case rel => exact ⟨k + 1, by omega, by go_num, tight hown1 HP.out, (ba hbel _).grown hgrow1 (by simp; omega) fun b hb => by cases hb; exact Nat.le_refl _⟩
      case measure => simp [intOf]; omega
    · have hkl : k = cs.length := by omega
      have HK : Hid (k = cs.length) := hkl
      have HM : Hid (MapIs wr w.heap.size (cs.take k)) := hmap
      clear hkl hmap
      go_wp2
      go_ret
      have := HM.out
      rw [HK.out, List.take_length] at this
      exact ⟨rfl, this, hbel⟩

/-- what putting an account into a map tells -/
def putCode (cs : CL) (key : ByteArray) (num : Int) : Int := if numB num = false ∨ (hasK cs key = false ∧ 12 ≤ cs.length) then 2 else 0
/-- .. and leaves -/
def putRest (cs : CL) (key : ByteArray) (num : Int) : CL := if putCode cs key num = 0 then putC cs (key, num) else cs


end Go.Proofs.Ytnghhfgbobpnkak
