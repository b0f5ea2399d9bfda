/-
  The contracts of the program's methods on blocks behind pointers, and of standingOf.
-/
import Derived.Test.YtjieklilojmifauGreatRStandI
import Derived.Test.YtjieklilojmifauGreatRJ2
namespace Go.Proofs.YtjieklilojmifauGreatR
open Go.RowKit Num




theorem infoPtr : (Tryz.prog.info? 167).map (fun i => (i.zero, i.size, i.bytes)) = some (some (.pointer none), 1, 8) := by kernel_rfl

/-- where the blocks of a tree lie -/
def ptrs (g off : Nat) : TL → Nat → SL
  | [], _ => []
  | p :: ps, i => ((g, off + i * 7), p) :: ptrs g off ps (i + 1)
theorem ptrs_len (g off : Nat) : ∀ (ps : TL) (i : Nat), (ptrs g off ps i).length = ps.length
  | [], _ => rfl
  | p :: ps, i => by simp [ptrs, ptrs_len g off ps (i + 1)]
theorem ptrs_at (g off : Nat) : ∀ (ps : TL) (i k : Nat) (h : k < ps.length), (ptrs g off ps i)[k]'(by rw [ptrs_len]; exact h) = ((g, off + (i + k) * 7), ps[k])
  | [], _, _, h => by simp at h
  | p :: ps, i, 0, _ => rfl
  | p :: ps, i, k + 1, h => by
    have := ptrs_at g off ps (i + 1) k (by simpa using h)
    simp only [ptrs, List.getElem_cons_succ, this]
    rw [show i + 1 + k = i + (k + 1) by omega]
theorem ptrs_snd (g off : Nat) : ∀ (ps : TL) (i : Nat), (ptrs g off ps i).map (fun x => x.2) = ps
  | [], _ => rfl
  | p :: ps, i => by simp [ptrs, ptrs_snd g off ps (i + 1)]

set_option maxRecDepth 100000 in
set_option maxHeartbeats 2000000 in
theorem standing_i (ps : TL) (v : Value) (w : World) (hT : TreeR w v ps) (hl : (ps.length : Int) ≤ 1048576) :
    Calls Tryz.prog 91 #[v] w fun e w' => ∃ v' L, e = .returned v' ∧ L.map (fun x => x.2) = ps ∧ w'.ownsRow w.heap.size 167 1 v' L.length (flatR ptrF L) ∧ AtAll w L ∧ Below w.heap.size w w' := by
  have HT : Hid (TreeR w v ps) := hT
  obtain ⟨a, cap, rfl, _, hr⟩ := tree_cells hT
  obtain ⟨g, off, HG⟩ : ∃ g off, Hid (0 < ps.length → a = some ⟨g, off, none⟩) := by
    by_cases h0 : 0 < ps.length
    · obtain ⟨g, off, e, _⟩ := hr h0
      exact ⟨g, off, fun _ => e⟩
    · exact ⟨0, 0, fun h => absurd h h0⟩
  have HL : Hid (∀ w', Below w.heap.size w w' → AtAll w' (ptrs g off ps 0)) := fun w' hb x hx => by
    obtain ⟨k, hk, rfl⟩ := List.mem_iff_getElem.1 hx
    rw [ptrs_len] at hk
    rw [ptrs_at g off ps 0 k hk]
    have e := HG.out (by omega)
    subst e
    have := (atB_tree HT.out hk).below hb
    rw [Nat.zero_add]
    exact this
  obtain ⟨i0, hi, hz0, hz1, hz2⟩ := info_parts infoPtr
  have hpl := ptrs_len g off ps 0
  clear hr hT
  go_enter Tryz.func91, Tryz.ntmps91
  go_wp2_with (at_make; refine wpList_make_full _ rfl _ _ 143 rfl w.heap.size 167 i0 _ 1 Tryz.underlying143 hi hz0 hz1 _ _ _ _ ps.length rfl rfl rfl rfl (by rw [hz2]; omega) (by unfold maxLen; omega) (Nat.le_refl _) ?_; intro w0 hown0 hgrow0)
  have B0 : Below w.heap.size w w0 := (Below.refl _ _).grown hgrow0 (Nat.le_refl _) (fun k h => by cases h)
  have HO0 : Hid (w0.ownsRow w.heap.size 167 1 (.slice (some ⟨w.heap.size, 0, none⟩) ps.length ps.length) ps.length _) := hown0
  have HB0 : Hid (Below w.heap.size w w0) := B0
  clear hown0 hgrow0 B0
  go_loopw [10] (fun i wr => ∃ (k : Nat) (ys : List Value), k ≤ ps.length ∧ i = .int .i64 (k : Int) ∧ Hid (upToR ptrF 1 (ptrs g off ps 0) ys k) ∧ wr.ownsRow w.heap.size 167 1 (.slice (some ⟨w.heap.size, 0, none⟩) ps.length ps.length) ps.length ys ∧ Below w.heap.size w wr) (fun i _ => ps.length - (intOf i).toNat)
  case atStart => exact ⟨0, _, Nat.zero_le _, rfl, upToR_zero (by rw [HO0.out.1, hpl]), HO0.out, HB0.out⟩
  case round =>
    obtain ⟨k, ys, hk, rfl, HY, hown, hbel⟩ := hrel
    have HO : Hid (wr.ownsRow w.heap.size 167 1 (.slice (some ⟨w.heap.size, 0, none⟩) ps.length ps.length) ps.length ys) := hown
    have HB : Hid (Below w.heap.size w wr) := hbel
    clear hown hbel
    by_cases hlt : (k : Int) < ps.length
    · have hkn : k < ps.length := by omega
      have q0 : (0 : Int) ≤ (k : Int) := by omega
      have hyl := HO.out.1
      obtain ⟨x0, f0⟩ := own_cell HO.out k (by omega)
      rw [List.getElem?_eq_getElem (by omega)] at x0
      obtain ⟨u0, hu0⟩ : ∃ u0, u0 = ys[k]'(by omega) := ⟨_, rfl⟩
      rw [← hu0] at x0
      clear hu0
      have e := HG.out (by omega)
      subst e
      have st := HO.out.stored k (.pointer (some ⟨g, off + k * 7, none⟩))
      have HS1 : Hid ((wr.setCell ⟨w.heap.size, k, none⟩ (.pointer (some ⟨g, off + k * 7, none⟩))).ownsRow w.heap.size 167 1 (.slice (some ⟨w.heap.size, 0, none⟩) ps.length ps.length) ps.length (ys.set k (.pointer (some ⟨g, off + k * 7, none⟩)))) := st.1
      have HS2 : Hid (Below w.heap.size w (wr.setCell ⟨w.heap.size, k, none⟩ (.pointer (some ⟨g, off + k * 7, none⟩)))) := HB.out.grown st.2 HB.out.size (fun x hx => by simp at hx; omega)
      have HS3 : Hid (upToR ptrF 1 (ptrs g off ps 0) (ys.set k (.pointer (some ⟨g, off + k * 7, none⟩))) (k + 1)) := upToR_step ptrF_len HY.out (by omega) (by simp) (fun j hj => by rw [List.getElem?_set_ne (by omega)]) (fun j hj => by
        have : j = 0 := by omega
        subst this
        rw [Nat.mul_one, Nat.add_zero, List.getElem?_set_self (by omega), ptrs_at g off ps 0 k hkn]
        simp [ptrF])
      clear st hyl
      go_wp2
      go_roundw
      case rel => exact ⟨k + 1, _, by omega, by go_num, HS3, HS1.out, HS2.out⟩
      case measure => simp [intOf]; omega
    · have hkl : k = ps.length := by omega
      have HK : Hid (k = ps.length) := hkl
      clear hkl
      go_wp2
      go_ret
      have hy := HY.out
      rw [HK.out, ← hpl] at hy
      have ho := HO.out
      rw [upToR_all ptrF_len hy] at ho
      exact ⟨_, rfl, ptrs g off ps 0, ptrs_snd g off ps 0, by rw [hpl]; exact ho, HL.out _ (Below.refl _ _), HB.out⟩

end Go.Proofs.YtjieklilojmifauGreatR
