/-
  The contract of the specification's UndoneAll.
-/
import Derived.Test.YtjdddcldbfhbiaaUndoS
namespace Go.Proofs.Ytjdddcldbfhbiaa
open Go.RowKit Num

set_option maxRecDepth 100000 in
set_option maxHeartbeats 2000000 in
theorem undoneAll_s (cs : CL) (us : List UN) (v u : Value) (w : World) (hv : Cells w v cs) (hu : RowsR w u 3 undoF us) (hok : okL cs) (hl : (us.length : Int) ≤ 1048576) (hall : ∀ x ∈ us, (x.1.size : Int) ≤ 1048576) :
    Calls Try.prog 30 #[v, u] w fun e w' => ∃ v', e = .returned v' ∧ w'.ownsRow w.heap.size 35 2 v' (undoneAllC cs us).length (flat (undoneAllC cs us)) ∧ Below w.heap.size w w' := by
  have HV : Hid (Cells w v cs) := hv
  have HL : Hid (okL cs) := hok
  have HA : Hid (∀ x ∈ us, (x.1.size : Int) ≤ 1048576) := hall
  have h1 := hok.1
  have HV0 : Hid (Cells (w.alloc (.cells #[] 35)) v cs) := hv.below (ba (Below.refl _ _) _)
  have HO0 : Hid ((w.alloc (.cells #[] 35)).ownsRow w.heap.size 35 2 (.slice (some ⟨w.heap.size, 0, none⟩) 0 0) ([] : CL).length (flat [])) := own_new w 35 2
  obtain ⟨a, cap, rfl, _⟩ := hv
  obtain ⟨b, bcap, rfl, hr⟩ := hu
  have HR : Hid (0 < us.length → _) := hr
  clear hall hr hok
  go_enter Try.func30, Try.ntmps30
  go_wp2_with (at_builtin; refine wpList_append_cells _ rfl _ _ rfl w.heap.size _ [] rfl HO0.out _ cs rfl HV0.out (by simp; omega) (by simp) ?_; intro v0 w0 hown0 hgrow0)
  have B0 : Below w.heap.size w w0 := (ba (Below.refl _ _) _).grown hgrow0 (by simp) fun b hb => (HO0.out.lt b hb).1
  have hs0 := B0.size
  have HO1 : Hid (w0.ownsRow w.heap.size 35 2 v0 cs.length (flat cs)) := (by simpa using hown0 : w0.ownsRow w.heap.size 35 2 v0 cs.length (flat cs))
  have HB0 : Hid (Below w.heap.size w w0) := B0
  clear hown0 hgrow0 HO0 HV0 B0
  go_loopw [5, 6] (fun o i wr => ∃ k : Nat, k ≤ us.length ∧ i = .int .i64 ((k : Int) - 1) ∧ wr.ownsRow w.heap.size 35 2 o (undoneAllC cs (us.drop k)).length (flat (undoneAllC cs (us.drop k))) ∧ Below w.heap.size w wr) (fun _ i _ => (intOf i + 1).toNat)
  case atStart => exact ⟨us.length, Nat.le_refl _, rfl, by rw [List.drop_length]; exact HO1.out, HB0.out⟩
  case round =>
    obtain ⟨k, hk, rfl, hown, hbel⟩ := hrel
    have HO : Hid (wr.ownsRow w.heap.size 35 2 u5 (undoneAllC cs (us.drop k)).length (flat (undoneAllC cs (us.drop k)))) := hown
    have HB : Hid (Below w.heap.size w wr) := hbel
    have hbs := hbel.size
    clear hown hbel
    cases k with
    | zero =>
      rw [show (((0 : Nat) : Int) - 1) = -1 from rfl]
      go_wp2
      go_ret
      exact ⟨_, rfl, HO.out, HB.out⟩
    | succ j =>
      rw [show (((j + 1 : Nat) : Int) - 1) = (j : Int) by omega]
      have hjn : j < us.length := by omega
      have q0 : (0 : Int) ≤ (j : Int) := by omega
      have q1 : (j : Int) < us.length := by omega
      obtain ⟨g, off, rfl, hg, hc⟩ := HR.out (by omega)
      have c0 : wr.cell? ⟨g, off + j * 3, none⟩ = some (.string us[j].1) := by rw [HB.out.cell (by exact hg)]; exact hc j hjn 0 (by omega)
      have c1 : wr.cell? ⟨g, off + j * 3 + 1, none⟩ = some (.bool us[j].2.1) := by rw [HB.out.cell (by exact hg)]; exact hc j hjn 1 (by omega)
      have c2 : wr.cell? ⟨g, off + j * 3 + 2, none⟩ = some (.int .i64 us[j].2.2) := by rw [HB.out.cell (by exact hg)]; exact hc j hjn 2 (by omega)
      have HK2 : Hid (okL (undoneAllC cs (us.drop (j + 1)))) := okL_undoneAll HL.out _ fun c hc => HA.out c (List.mem_of_mem_drop hc)
      have HS : Hid (undoneAllC cs (us.drop j) = undoneC (undoneAllC cs (us.drop (j + 1))) us[j]) := undoneAll_step hjn
      clear hc
      go_wp2_with fail
      refine (undone_s (undoneAllC cs (us.drop (j + 1))) _ us[j] wr (cells_of_own HO.out) HK2.out (HA.out _ (List.getElem_mem hjn))).mono ?_
      rintro e w2 ⟨v2, rfl, hown2, hb2⟩
      have HO2 : Hid (w2.ownsRow wr.heap.size 35 2 v2 _ _) := hown2
      have HB2 : Hid (Below w.heap.size w w2) := bt HB.out hb2
      clear hown2 hb2 c0 c1 c2
      go_wp2
      go_roundw
      case rel => exact ⟨j, by omega, rfl, by rw [HS.out]; exact own_base HO2.out hbs, HB2.out⟩
      case measure => simp [intOf]

end Go.Proofs.Ytjdddcldbfhbiaa
