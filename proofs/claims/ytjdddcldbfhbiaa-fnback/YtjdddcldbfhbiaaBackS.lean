/-
  The contract of the specification's DoneBack.
-/
import Derived.Test.YtjdddcldbfhbiaaUndoS
import Derived.Test.YtjdddcldbfhbiaaDoneS
import Derived.Test.YtjdddcldbfhbiaaCmdF
namespace Go.Proofs.Ytjdddcldbfhbiaa
open Go.RowKit Num

theorem newsU (W : World) (u : UN) (t : TypeId) : ∀ j x, (undoF u)[j]? = some x → (W.alloc (.cells #[.string u.1, .bool u.2.1, .int .i64 u.2.2] t)).cell? ((⟨W.heap.size, 0, none⟩ : Addr).add j) = some x := by
  intro j x hj
  unfold undoF at hj
  match j, hj with
  | 0, hj => simp at hj; subst hj; simp [Addr.add]
  | 1, hj => simp at hj; subst hj; simp [Addr.add]
  | 2, hj => simp at hj; subst hj; simp [Addr.add]
theorem onesU (u : UN) : ∀ x ∈ undoF u, x.oneCell' = true := by
  intro x hx; unfold undoF at hx; simp at hx; rcases hx with h | h | h <;> subst h <;> rfl
theorem flatU_one (u : UN) : flatR undoF [u] = undoF u := by simp [flatR]

set_option maxRecDepth 100000 in
set_option maxHeartbeats 2000000 in
theorem doneBack_s (cs : CL) (l : List CM) (v u : Value) (w : World) (hv : Cells w v cs) (hu : RowsR w u 3 cmdF l) (hok : okL cs) (hl : (l.length : Int) ≤ 1048576) (hall : ∀ c ∈ l, (c.2.1.size : Int) ≤ 1048576) :
    Calls Try.prog 73 #[v, u] w fun e w' => ∃ v1 v2, e = .returned (.tuple #[v1, v2]) ∧ w'.ownsRow w.heap.size 35 2 v1 (doneAllC cs l).length (flat (doneAllC cs l)) ∧ w'.ownsRow w.heap.size 48 3 v2 (undosC cs l).length (flatR undoF (undosC cs l)) ∧ (v1.ownBlock = none ∨ v1.ownBlock ≠ v2.ownBlock) ∧ Below w.heap.size w w' := by
  have HV : Hid (Cells w v cs) := hv
  have HL : Hid (okL cs) := hok
  have HA : Hid (∀ c ∈ l, (c.2.1.size : Int) ≤ 1048576) := hall
  have h1 := hok.1
  have HV0 : Hid (Cells (w.alloc (.cells #[] 35)) v cs) := hv.below (ba (Below.refl _ _) _)
  have HO0 : Hid ((w.alloc (.cells #[] 35)).ownsRow w.heap.size 35 2 (.slice (some ⟨w.heap.size, 0, none⟩) 0 0) ([] : CL).length (flat [])) := own_new w 35 2
  obtain ⟨a, cap, rfl, _⟩ := hv
  obtain ⟨b, bcap, rfl, hr⟩ := hu
  have HR : Hid (0 < l.length → _) := hr
  clear hall hr hok
  go_enter Try.func73, Try.ntmps73
  go_wp2_with (at_builtin; refine wpList_append_cells _ rfl _ _ rfl w.heap.size _ [] rfl HO0.out _ cs rfl HV0.out (by simp; omega) (by simp) ?_; intro v0 w0 hown0 hgrow0)
  have B0 : Below w.heap.size w w0 := (ba (Below.refl _ _) _).grown hgrow0 (by simp) fun b hb => (HO0.out.lt b hb).1
  have hs0 := B0.size
  have HO1 : Hid (w0.ownsRow w.heap.size 35 2 v0 cs.length (flat cs)) := (by simpa using hown0 : w0.ownsRow w.heap.size 35 2 v0 cs.length (flat cs))
  have HB0 : Hid (Below w.heap.size w w0) := B0
  clear hown0 hgrow0 HO0 HV0 B0
  obtain ⟨i0, hi, hz0, hz1, hz2⟩ := info_parts infoUndo
  go_loopw [6, 7, 8] (fun o q i wr => ∃ k : Nat, k ≤ l.length ∧ i = .int .i64 (k : Int) ∧ wr.ownsRow w.heap.size 35 2 o (doneAllC cs (l.take k)).length (flat (doneAllC cs (l.take k))) ∧ wr.ownsRow w.heap.size 48 3 q k (flatR undoF (undosC cs (l.take k))) ∧ (o.ownBlock = none ∨ o.ownBlock ≠ q.ownBlock) ∧ Below w.heap.size w wr) (fun _ _ i _ => l.length - (intOf i).toNat)
  case atStart =>
    exact ⟨0, Nat.zero_le _, rfl, own_kept HO1.out (ba (Below.refl _ _) _), own_base (own_new w0 48 3) hs0, own_ne' HO1.out (own_new w0 48 3) (Nat.le_refl _), ba HB0.out _⟩
  case round =>
    obtain ⟨k, hk, rfl, hown, hcod, hne, hbel⟩ := hrel
    have HO : Hid (wr.ownsRow w.heap.size 35 2 u6 (doneAllC cs (l.take k)).length (flat (doneAllC cs (l.take k)))) := hown
    have HQ : Hid (wr.ownsRow w.heap.size 48 3 u7 k (flatR undoF (undosC cs (l.take k)))) := hcod
    have HN : Hid (u6.ownBlock = none ∨ u6.ownBlock ≠ u7.ownBlock) := hne
    have HB : Hid (Below w.heap.size w wr) := hbel
    have hbs := hbel.size
    clear hown hcod hbel hne
    by_cases hlt : (k : Int) < l.length
    · have hkn : k < l.length := by omega
      obtain ⟨g, off, rfl, hg, hc⟩ := HR.out (by omega)
      have q0 : (0 : Int) ≤ (k : Int) := by omega
      have c1 : wr.cell? ⟨g, off + k * 3 + 1, none⟩ = some (.string l[k].2.1) := by rw [HB.out.cell (by exact hg)]; exact hc k hkn 1 (by omega)
      have HC : Hid (∀ w', Below w.heap.size w w' → w'.cell? ⟨g, off + k * 3, none⟩ = some (.int .i64 l[k].1) ∧ w'.cell? ⟨g, off + k * 3 + 1, none⟩ = some (.string l[k].2.1) ∧ w'.cell? ⟨g, off + k * 3 + 2, none⟩ = some (.int .i64 l[k].2.2)) := fun w' hb => by
        refine ⟨?_, ?_, ?_⟩
        · rw [hb.cell (by exact hg)]; exact hc k hkn 0 (by omega)
        · rw [hb.cell (by exact hg)]; exact hc k hkn 1 (by omega)
        · rw [hb.cell (by exact hg)]; exact hc k hkn 2 (by omega)
      have hok2 : okL (doneAllC cs (l.take k)) := okL_all _ HL.out fun c hc => HA.out c (List.mem_of_mem_take hc)
      have HK2 : Hid (okL (doneAllC cs (l.take k))) := hok2
      have HS : Hid (l.take (k + 1) = l.take k ++ [l[k]]) := take_snoc hkn
      clear hc hok2
      go_wp2_with fail
      refine (undoOf_s (doneAllC cs (l.take k)) _ l[k].2.1 wr (cells_of_own HO.out) HK2.out.1).mono ?_
      rintro e w2 ⟨rfl, hb2⟩
      unfold undoV
      have HQ2 : Hid (w2.ownsRow w.heap.size 48 3 u7 k (flatR undoF (undosC cs (l.take k)))) := own_kept HQ.out hb2
      have HO2 : Hid (w2.ownsRow w.heap.size 35 2 u6 (doneAllC cs (l.take k)).length (flat (doneAllC cs (l.take k)))) := own_kept HO.out hb2
      have HB2 : Hid (Below w.heap.size w w2) := bt HB.out hb2
      have hbs2 := hb2.size
      clear hb2 c1 HO HQ
      obtain ⟨uu, huu⟩ : ∃ uu, uu = undoC (doneAllC cs (l.take k)) l[k].2.1 := ⟨_, rfl⟩
      rw [← huu]
      have HUU : Hid (uu = undoC (doneAllC cs (l.take k)) l[k].2.1) := huu
      clear huu
      go_wp2_with (first
        | (at_builtin; refine wpList_append_own _ rfl _ _ 44 rfl w.heap.size 48 i0 _ 3 32 Try.underlying44 hi hz0 hz1 hz2 rfl (by decide) _ _ _ rfl (World.ownsRow.alloc HQ2.out _) ⟨World.heap _ |>.size, 0, none⟩ 1 1 (undoF uu) rfl rfl (newsU _ uu _) (onesU uu) (by unfold maxLen; omega) (by omega) (by simp; omega) ?_; intro v3 w3 hown3 hgrow3 _; have HO3 : Hid (w3.ownsRow w.heap.size 35 2 u6 (doneAllC cs (l.take k)).length (flat (doneAllC cs (l.take k)))) := World.ownsRow.kept (World.ownsRow.alloc HO2.out _) hgrow3 HN.out; have HQ3 : Hid (w3.ownsRow w.heap.size 48 3 v3 (k + 1) _) := hown3; have HB3 : Hid (Below w.heap.size w w3) := (ba HB2.out _).grown hgrow3 (by simp; omega) (fun b hb => (HQ2.out.lt b hb).1); obtain ⟨c0, c1, c2⟩ := HC.out w3 HB3.out; clear hown3 hgrow3))
      refine (done_s (doneAllC cs (l.take k)) _ l[k] w3 (cells_of_own HO3.out) HK2.out.1 HK2.out.2 (HA.out _ (List.getElem_mem hkn))).mono ?_
      rintro e w4 ⟨v4, rfl, hown4, hb4⟩
      have hbs3 := HB3.out.size
      have HO4 : Hid (w4.ownsRow w3.heap.size 35 2 v4 _ _) := hown4
      have HQ4 : Hid (w4.ownsRow w.heap.size 48 3 v3 (k + 1) _) := own_kept HQ3.out hb4
      have HN4 : Hid (v4.ownBlock = none ∨ v4.ownBlock ≠ v3.ownBlock) := own_ne HQ3.out hown4 (Nat.le_refl _)
      have HB4 : Hid (Below w.heap.size w w4) := bt HB3.out hb4
      clear hown4 hb4 c0 c1 c2
      go_wp2
      go_roundw
      case rel => exact ⟨k + 1, by omega, by go_num, by rw [HS.out, doneAll_snoc]; exact own_base HO4.out hbs3, by rw [HS.out, undos_snoc, flatR_append, flatU_one, ← HUU.out]; exact HQ4.out, HN4.out, HB4.out⟩
      case measure => simp [intOf]; omega
    · have hkl : k = l.length := by omega
      have HK : Hid (k = l.length) := hkl
      clear hkl
      go_wp2
      go_ret2
      have e1 := HO.out
      have e2 := HQ.out
      rw [HK.out, List.take_length] at e1 e2
      exact ⟨u6, u7, rfl, e1, by rw [undosC_len]; exact e2, HN.out, HB.out⟩

end Go.Proofs.Ytjdddcldbfhbiaa
