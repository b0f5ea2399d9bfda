/-
  The contract of the specification's DoneAll.
-/
import Derived.Test.YtjdddcldbfhbiaaDoneS
import Derived.Test.YtjdddcldbfhbiaaCmdF
namespace Go.Proofs.Ytjdddcldbfhbiaa
open Go.RowKit Num

theorem infoInt : (Try.prog.info? 3).map (fun i => (i.zero, i.size, i.bytes)) = some (some (.int .i64 0), 1, 8) := by kernel_rfl

set_option maxRecDepth 100000 in
set_option maxHeartbeats 2000000 in
theorem doneAll_s (cs : CL) (l : List CM) (v u : Value) (w : World) (hv : Cells w v cs) (hu : RowsR w u 3 cmdF l) (hok : okL cs) (hl : (l.length : Int) ≤ 1048576) (hall : ∀ c ∈ l, (c.2.1.size : Int) ≤ 1048576) :
    Calls Try.prog 21 #[v, u] w fun e w' => ∃ v1 v2, e = .returned (.tuple #[v1, v2]) ∧ w'.ownsRow w.heap.size 35 2 v1 (doneAllC cs l).length (flat (doneAllC cs l)) ∧ w'.ownsRow w.heap.size 3 1 v2 (codesC cs l).length ((codesC cs l).map (Value.int .i64)) ∧ Below w.heap.size w w' := by
  have HV : Hid (Cells w v cs) := hv
  have HL : Hid (okL cs) := hok
  have HA : Hid (∀ c ∈ l, (c.2.1.size : Int) ≤ 1048576) := hall
  have h1 := hok.1
  have HV0 : Hid (Cells (w.alloc (.cells #[] 35)) v cs) := hv.below (ba (Below.refl _ _) _)
  have HO0 : Hid ((w.alloc (.cells #[] 35)).ownsRow w.heap.size 35 2 (.slice (some ⟨w.heap.size, 0, none⟩) 0 0) ([] : CL).length (flat [])) := own_new w 35 2
  obtain ⟨a, cap, rfl, _⟩ := hv
  obtain ⟨b, bcap, rfl, hr⟩ := hu
  have HR : Hid (0 < l.length → _) := hr
  clear hall hr hok
  go_enter Try.func21, Try.ntmps21
  go_wp2_with (at_builtin; refine wpList_append_cells _ rfl _ _ rfl w.heap.size _ [] rfl HO0.out _ cs rfl HV0.out (by simp; omega) (by simp) ?_; intro v0 w0 hown0 hgrow0)
  have B0 : Below w.heap.size w w0 := (ba (Below.refl _ _) _).grown hgrow0 (by simp) fun b hb => (HO0.out.lt b hb).1
  have hs0 := B0.size
  have HO1 : Hid (w0.ownsRow w.heap.size 35 2 v0 cs.length (flat cs)) := (by simpa using hown0 : w0.ownsRow w.heap.size 35 2 v0 cs.length (flat cs))
  have HB0 : Hid (Below w.heap.size w w0) := B0
  clear hown0 hgrow0 HO0 HV0 B0
  obtain ⟨i0, hi, hz0, hz1, hz2⟩ := info_parts infoInt
  go_loopw [6, 7, 8] (fun o q i wr => ∃ k : Nat, k ≤ l.length ∧ i = .int .i64 (k : Int) ∧ wr.ownsRow w.heap.size 35 2 o (doneAllC cs (l.take k)).length (flat (doneAllC cs (l.take k))) ∧ wr.ownsRow w.heap.size 3 1 q k ((codesC cs (l.take k)).map (Value.int .i64)) ∧ Below w.heap.size w wr) (fun _ _ i _ => l.length - (intOf i).toNat)
  case atStart =>
    exact ⟨0, Nat.zero_le _, rfl, own_kept HO1.out (ba (Below.refl _ _) _), own_base (own_new w0 3 1) hs0, ba HB0.out _⟩
  case round =>
    obtain ⟨k, hk, rfl, hown, hcod, hbel⟩ := hrel
    have HO : Hid (wr.ownsRow w.heap.size 35 2 u6 (doneAllC cs (l.take k)).length (flat (doneAllC cs (l.take k)))) := hown
    have HQ : Hid (wr.ownsRow w.heap.size 3 1 u7 k ((codesC cs (l.take k)).map (Value.int .i64))) := hcod
    have HB : Hid (Below w.heap.size w wr) := hbel
    have hbs := hbel.size
    clear hown hcod hbel
    by_cases hlt : (k : Int) < l.length
    · have hkn : k < l.length := by omega
      obtain ⟨g, off, rfl, hg, hc⟩ := HR.out (by omega)
      have q0 : (0 : Int) ≤ (k : Int) := by omega
      have c0 : wr.cell? ⟨g, off + k * 3, none⟩ = some (.int .i64 l[k].1) := by rw [HB.out.cell (by exact hg)]; exact hc k hkn 0 (by omega)
      have c1 : wr.cell? ⟨g, off + k * 3 + 1, none⟩ = some (.string l[k].2.1) := by rw [HB.out.cell (by exact hg)]; exact hc k hkn 1 (by omega)
      have c2 : wr.cell? ⟨g, off + k * 3 + 2, none⟩ = some (.int .i64 l[k].2.2) := by rw [HB.out.cell (by exact hg)]; exact hc k hkn 2 (by omega)
      have hok2 : okL (doneAllC cs (l.take k)) := okL_all _ HL.out fun c hc => HA.out c (List.mem_of_mem_take hc)
      have HK2 : Hid (okL (doneAllC cs (l.take k))) := hok2
      have HS : Hid (l.take (k + 1) = l.take k ++ [l[k]]) := take_snoc hkn
      clear hc hok2
      go_wp2_with fail
      refine (done_s (doneAllC cs (l.take k)) _ l[k] wr (cells_of_own HO.out) HK2.out.1 HK2.out.2 (HA.out _ (List.getElem_mem hkn))).mono ?_
      rintro e w2 ⟨v2, rfl, hown2, hb2⟩
      have HO2 : Hid (w2.ownsRow wr.heap.size 35 2 v2 _ _) := hown2
      have HQ2 : Hid (w2.ownsRow w.heap.size 3 1 u7 k ((codesC cs (l.take k)).map (Value.int .i64))) := own_kept HQ.out hb2
      have HB2 : Hid (Below w.heap.size w w2) := bt HB.out hb2
      have hbs2 := hb2.size
      clear hown2 hb2 c0 c1 c2
      go_wp2_with (at_builtin; refine wpList_append_own _ rfl _ _ 36 rfl w.heap.size 3 i0 (.int .i64 0) 1 8 Try.underlying36 hi hz0 hz1 hz2 rfl (by decide) _ _ _ rfl (World.ownsRow.alloc HQ2.out _) ⟨World.heap _ |>.size, 0, none⟩ 1 1 [.int .i64 (codeC (doneAllC cs (l.take k)) l[k])] rfl rfl (news1 _ _ _) (one_int _) (by unfold maxLen; omega) (by omega) (by simp; omega) ?_; intro v3 w3 hown3 hgrow3 _)
      have HO3 : Hid (w3.ownsRow w.heap.size 35 2 v2 _ _) := own_base (World.ownsRow.kept (World.ownsRow.alloc HO2.out _) hgrow3 (own_ne HQ.out HO2.out (Nat.le_refl _))) hbs
      have HQ3 : Hid (w3.ownsRow w.heap.size 3 1 v3 (k + 1) _) := hown3
      have HB3 : Hid (Below w.heap.size w w3) := (ba HB2.out _).grown hgrow3 (by simp; omega) fun b hb => (HQ2.out.lt b hb).1
      clear hown3 hgrow3
      go_roundw
      case rel => exact ⟨k + 1, by omega, by go_num, by rw [HS.out, doneAll_snoc]; exact HO3.out, by rw [HS.out, codes_snoc, List.map_append]; exact HQ3.out, HB3.out⟩
      case measure => simp [intOf]; omega
    · have hkl : k = l.length := by omega
      have HK : Hid (k = l.length) := hkl
      clear hkl
      go_wp2
      go_ret2
      have e1 := HO.out
      have e2 := HQ.out
      rw [HK.out, List.take_length] at e1 e2
      exact ⟨u6, u7, rfl, e1, by rw [codesC_len]; exact e2, HB.out⟩

end Go.Proofs.Ytjdddcldbfhbiaa
