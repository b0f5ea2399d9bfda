/-
  The contract of the program's copy of a list of accounts.
-/
import Derived.Test.YtcfgfhodbjakoavGreatDoorAppC
import Derived.Test.YtcfgfhodbjakoavGreatDoorClone
import Derived.Test.YtcfgfhodbjakoavGreatDoorJ0
import Derived.Deep.RegionHeld3
import Derived.Deep.AppendLies
namespace Go.Proofs.YtcfgfhodbjakoavGreatDoor
open Go.RowKit Num

theorem newsC (W : World) (k : ByteArray) (n : Int) (t : TypeId) : ∀ j u, ([.string k, .int .i64 n] : List Value)[j]? = some u → (W.alloc (.cells #[.string k, .int .i64 n] t)).cell? ((⟨W.heap.size, 0, none⟩ : Addr).add j) = some u := by
  intro j u hj
  match j, hj with
  | 0, hj => simp at hj; subst hj; simp [Addr.add]
  | 1, hj => simp at hj; subst hj; simp [Addr.add]
theorem onesC (k : ByteArray) (n : Int) : ∀ u ∈ ([.string k, .int .i64 n] : List Value), u.oneCell' = true := by
  intro u hu; simp at hu; rcases hu with h | h <;> subst h <;> rfl
theorem take_snoc' {cs : CL} {k : Nat} (h : k < cs.length) : cs.take (k + 1) = cs.take k ++ [cs[k]] := by
  rw [List.take_add_one, List.getElem?_eq_getElem h]; rfl

set_option maxRecDepth 100000 in
set_option maxHeartbeats 2000000 in
theorem copy_i (cs : CL) (v : Value) (w : World) (hv : Cells w v cs) (hl : (cs.length : Int) ≤ 1048576) (hall : ∀ c ∈ cs, (c.1.size : Int) ≤ 1048576) :
    Calls Tryz.prog 158 #[v] w fun e w' => ∃ v', e = .returned v' ∧ w'.ownsRow w.heap.size 195 2 v' cs.length (flat cs) ∧ Below w.heap.size w w' := by
  have HZ : Hid (∀ c ∈ cs, (c.1.size : Int) ≤ 1048576) := hall
  obtain ⟨a, cap, rfl, hr⟩ := hv
  have HR : Hid (0 < cs.length → _) := hr
  obtain ⟨i0, hi, hz0, hz1, hz2⟩ := info_parts infoC
  clear hall hr
  go_enter Tryz.func158, Tryz.ntmps158
  go_wp2_with (at_make; refine wpList_make_own _ rfl _ _ 121 rfl w.heap.size 195 i0 _ 2 Tryz.underlying121 hi hz0 hz1 _ _ _ cs.length rfl rfl rfl (by rw [hz2]; omega) (by unfold maxLen; omega) (Nat.le_refl _) ?_; intro w0 hown0 hgrow0)
  have B0 : Below w.heap.size w w0 := (Below.refl _ _).grown hgrow0 (Nat.le_refl _) (fun k h => by cases h)
  have HO0 : Hid (w0.ownsRow w.heap.size 195 2 (.slice (some ⟨w.heap.size, 0, none⟩) 0 cs.length) 0 []) := hown0
  have HB0 : Hid (Below w.heap.size w w0) := B0
  clear hown0 hgrow0 B0
  go_loopw [3, 11] (fun o i wr => ∃ k : Nat, k ≤ cs.length ∧ i = .int .i64 (k : Int) ∧ wr.ownsRow w.heap.size 195 2 o k (flat (cs.take k)) ∧ Below w.heap.size w wr) (fun _ i _ => cs.length - (intOf i).toNat)
  case atStart => exact ⟨0, Nat.zero_le _, rfl, HO0.out, HB0.out⟩
  case round =>
    obtain ⟨k, hk, rfl, hown, hbel⟩ := hrel
    have HO : Hid (wr.ownsRow w.heap.size 195 2 u3 k (flat (cs.take k))) := hown
    have HB : Hid (Below w.heap.size w wr) := hbel
    have hbs := hbel.size
    clear hown hbel
    by_cases hlt : (k : Int) < cs.length
    · have hkn : k < cs.length := by omega
      obtain ⟨g, off, rfl, hg, hc⟩ := HR.out (by omega)
      have q0 : (0 : Int) ≤ (k : Int) := by omega
      have c0 : wr.cell? ⟨g, off + k * 2, none⟩ = some (.string cs[k].1) := by rw [HB.out.cell (by exact hg)]; exact (hc k hkn).1
      have c1 : wr.cell? ⟨g, off + k * 2 + 1, none⟩ = some (.int .i64 cs[k].2) := by rw [HB.out.cell (by exact hg)]; exact (hc k hkn).2
      have hlim : cs[k].1.size ≤ 281474976710656 := by have := HZ.out cs[k] (List.getElem_mem hkn); omega
      obtain ⟨ws, hws⟩ : ∃ ws, ws = wr.alloc (Obj.cells #[Value.string cs[k].1, Value.int IntKind.i64 cs[k].2] 195) := ⟨_, rfl⟩
      have hwss : ws.heap.size = wr.heap.size + 1 := by rw [hws]; simp
      have HS : Hid (∀ w', Below ws.heap.size ws w' → w'.cell? ⟨wr.heap.size, 0, none⟩ = some (.string cs[k].1) ∧ w'.cell? ⟨wr.heap.size, 1, none⟩ = some (.int .i64 cs[k].2)) := fun w' hb => by
        constructor <;> rw [hb.cell (by simp [hwss]), hws] <;> simp
      have HWS : Hid (ws = wr.alloc (Obj.cells #[Value.string cs[k].1, Value.int IntKind.i64 cs[k].2] 195)) := hws
      have BS : Hid (Below wr.heap.size wr ws) := by rw [hws]; exact ba (Below.refl _ _) _
      have HOS : Hid (ws.ownsRow w.heap.size 195 2 u3 k (flat (cs.take k))) := own_kept HO.out BS.out
      clear hc
      go_wp2
      rw [← hws]
      clear hws
      go_region_held3 (fun w' => w'.cell? ⟨wr.heap.size, 0, none⟩ = some (.string cs[k].1) ∧ w'.cell? ⟨wr.heap.size, 1, none⟩ = some (.int .i64 cs[k].2)) (first | exact HS.out _ (Below.refl _ _).drew | exact HS.out _ hbc | exact HS.out _ (ba hbc _) | exact hs3) (first | (refine step_append_lies _ (by rfl) (.tmp 15) (.tmp 22) 121 (by rfl) w.heap.size 195 i0 _ 2 24 Tryz.underlying121 hi hz0 hz1 hz2 rfl (by decide) _ _ _ (by rfl) (World.ownsRow.alloc HO2.out _) ⟨World.heap _ |>.size, 0, none⟩ 1 1 [.string cs[k].1, .int .i64 cs[k].2] (by rfl) rfl (newsC _ _ _ _) (onesC _ _) (by decide) (by unfold maxLen; omega) (by omega) (by simp; omega) _ rfl ?_; intro g2 cap2 w3 hown3 hgrow3 hx1 hx2; clear hx1 hx2; have hb3 : Below w.heap.size w w3 := (ba (bt (bt HB.out BS.out) hbc) _).grown hgrow3 (by simp; omega) (fun x hx => (HO2.out.lt x hx).1); have hs3 : w3.cell? ⟨wr.heap.size, 0, none⟩ = some (.string cs[k].1) ∧ w3.cell? ⟨wr.heap.size, 1, none⟩ = some (.int .i64 cs[k].2) := (by have h2 := HS.out _ (ba hbc (Obj.cells #[Value.string cs[k].1, Value.int IntKind.i64 cs[k].2] 195)); rw [← h2.1, ← h2.2]; exact ⟨grown_cell hgrow3 (by simp; omega) (fun e => by have := (HO.out.lt _ e).2; omega), grown_cell hgrow3 (by simp; omega) (fun e => by have := (HO.out.lt _ e).2; omega)⟩)) | (go_at_call 160; refine (clone _ _ hlim).mono ?_; rintro e w2 ⟨rfl, hb2⟩; have hbc : Below ws.heap.size ws w2 := (Below.refl _ _).drew.trans hb2; have HO2 : Hid (w2.ownsRow w.heap.size 195 2 u3 k (flat (cs.take k))) := own_kept HOS.out hbc; have hbs2 := hbc.size))
      all_goals
        have HO3 : Hid (w3.ownsRow w.heap.size 195 2 (.slice (some ⟨g2, 0, none⟩) (k + 1) cap2) (k + 1) (flat (cs.take k) ++ [.string cs[k].1, .int .i64 cs[k].2])) := hown3
        clear hown3 hgrow3 hs3
        go_wp2
        go_roundw
        case rel => exact ⟨k + 1, by omega, by go_num, by rw [take_snoc' hkn, flat_append]; exact HO3.out, hb3⟩
        case measure => simp [intOf]; omega
    · have hkl : k = cs.length := by omega
      have HK : Hid (k = cs.length) := hkl
      clear hkl
      go_wp2
      go_ret
      have := HO.out
      rw [HK.out, List.take_length] at this
      exact ⟨_, rfl, this, HB.out⟩

end Go.Proofs.YtcfgfhodbjakoavGreatDoor
