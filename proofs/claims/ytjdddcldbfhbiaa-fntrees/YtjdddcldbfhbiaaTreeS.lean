/-
  The contract of the specification's TreeOk.
-/
import Derived.Test.YtjdddcldbfhbiaaBlockS2
namespace Go.Proofs.Ytjdddcldbfhbiaa
open Go.RowKit Num

theorem okT_take {ps : TL} (h : okT (bks ps)) (k : Nat) : okT (bks (ps.take k)) := by
  rw [bks_take]
  refine ⟨?_, fun b hb => h.2 b (List.mem_of_mem_take hb)⟩
  have := h.1
  rw [List.length_take]; omega
theorem rows_none (w : World) : RowsR w (.slice none 0 0) 3 cmdF (firstB.2.1) := ⟨none, 0, rfl, fun h => by simp [firstB] at h⟩

set_option maxRecDepth 100000 in
set_option maxHeartbeats 4000000 in
theorem treeOk_s (ps : TL) (v : Value) (w : World) (hT : TreeR w v ps) (hk : okT (bks ps)) :
    Calls Try.prog 41 #[v] w fun e w' => e = .returned (.bool (treeB (bks ps))) ∧ Below w.heap.size w w' := by
  have HT : Hid (TreeR w v ps) := hT
  have HK : Hid (okT (bks ps)) := hk
  obtain ⟨a, cap, rfl, hcap, hr⟩ := tree_cells hT
  have HR : Hid (0 < ps.length → _) := hr
  have hbl := bks_len ps
  have hl : (ps.length : Int) ≤ 1048576 := by have := hk.1; rw [hbl] at this; exact this
  have hne := bw_some w
  clear hr hT hk
  cases hp : inB (ps.length : Int) 1 60 with
  | false =>
    have HE : Hid (treeB (bks ps) = false) := treeB_len (by rw [hbl]; exact hp)
    go_enter Try.func41, Try.ntmps41
    go_wp2
    refine wp_region_bw (by kernel_rfl) (by kernel_rfl) ?_
    repeat (go_big_quiet_step (refine calls_bw_same (in_any _ _ _ _)))
    refine wpQuiet_nil ?_
    intro _ hw'
    obtain ⟨x, rfl⟩ := hw'
    go_wp2
    go_ret
    exact ⟨ret_bool HE.out.symm, x.below⟩
  | true =>
    obtain ⟨p0, p1⟩ := inB_eq hp
    have h0 : 0 < ps.length := by omega
    obtain ⟨g, off, rfl, hg, hc⟩ := HR.out h0
    have c0 : ∀ x : Bw w, x.to.cell? ⟨g, off, none⟩ = some (.int .i64 ps[0].1.1.1) := fun x => by rw [x.below.cell (by exact hg)]; simpa using (hc 0 h0).1
    have c1 : ∀ x : Bw w, x.to.cell? ⟨g, off + 1, none⟩ = some (.int .i64 ps[0].1.1.2) := fun x => by rw [x.below.cell (by exact hg)]; simpa using (hc 0 h0).2.1
    have c2 : ∀ x : Bw w, x.to.cell? ⟨g, off + 2, none⟩ = some ps[0].2 := fun x => by rw [x.below.cell (by exact hg)]; simpa using (hc 0 h0).2.2.1
    have c3 : ∀ x : Bw w, x.to.cell? ⟨g, off + 3, none⟩ = some (.int .i64 ps[0].1.2.2.1) := fun x => by rw [x.below.cell (by exact hg)]; simpa using (hc 0 h0).2.2.2.1
    have c4 : ∀ x : Bw w, x.to.cell? ⟨g, off + 4, none⟩ = some (.int .i64 ps[0].1.2.2.2.1) := fun x => by rw [x.below.cell (by exact hg)]; simpa using (hc 0 h0).2.2.2.2.1
    have c5 : ∀ x : Bw w, x.to.cell? ⟨g, off + 5, none⟩ = some (.int .i64 ps[0].1.2.2.2.2.1) := fun x => by rw [x.below.cell (by exact hg)]; simpa using (hc 0 h0).2.2.2.2.2.1
    have c6 : ∀ x : Bw w, x.to.cell? ⟨g, off + 6, none⟩ = some (.int .i64 ps[0].1.2.2.2.2.2) := fun x => by rw [x.below.cell (by exact hg)]; simpa using (hc 0 h0).2.2.2.2.2.2
    have HC : Hid (∀ i (hi : i < ps.length), _) := hc
    have HQ1 : Hid (∀ x : Bw w, Calls Try.prog 90 #[] x.to fun e w' => e = .returned (.agg (blkA firstB (.slice none 0 0))) ∧ Below x.to.heap.size x.to w') := fun x => first_s x.to
    have HQ2 : Hid (∀ x : Bw w, Calls Try.prog 43 #[.agg (blkA ps[0].1 ps[0].2), .agg (blkA firstB (.slice none 0 0))] x.to fun e w' => e = .returned (.bool (decide (ps[0].1 = firstB))) ∧ Below x.to.heap.size x.to w') := fun x => same_s ps[0].1 firstB ps[0].2 _ x.to ((HT.out.cmds _ (List.getElem_mem h0)).below x.below) (rows_none _) (okT_at HK.out h0).1 (by simp [firstB])
    have HH : Hid (headB (bks ps) = ps[0].1) := (by rw [headB_at (by rw [hbl]; exact h0), bks_at h0] : headB (bks ps) = ps[0].1)
    clear hc
    by_cases he : ps[0].1 = firstB
    · rw [decide_eq_true he] at HQ2
      have HTA : Hid (treeTo (bks ps) (bks ps).length → treeB (bks ps) = true) := treeB_all (by rw [hbl]; exact hp) (by rw [HH.out]; exact he)
      clear he
      go_enter Try.func41, Try.ntmps41
      go_wp2
      refine wp_region_bw (by kernel_rfl) (by kernel_rfl) ?_
      repeat (go_big_quiet_step (first | refine calls_bw_same (in_any _ _ _ _) | (go_at_call 90; refine calls_bw (HQ1.out _)) | (go_at_call 43; refine calls_bw (HQ2.out _))))
      refine wpQuiet_nil ?_
      intro _ hw'
      obtain ⟨x, rfl⟩ := hw'
      have HXB : Hid (Below w.heap.size w x.to) := x.below
      go_wp2
      clear hp c0 c1 c2 c3 c4 c5 c6
      go_loopw [3] (fun i wr => ∃ k : Nat, 1 ≤ k ∧ k ≤ ps.length ∧ i = .int .i64 (k : Int) ∧ Hid (treeTo (bks ps) k) ∧ Below w.heap.size w wr) (fun i _ => ps.length - (intOf i).toNat)
      case atStart => exact ⟨1, Nat.le_refl _, h0, rfl, fun i hi h => by omega, HXB.out⟩
      case round =>
        obtain ⟨k, hk1, hk, rfl, HS, hbel⟩ := hrel
        by_cases hlt : (k : Int) < ps.length
        · have hkn : k < ps.length := by omega
          have q0 : (0 : Int) ≤ (k : Int) := by omega
          have q1 : k ≤ cap := by omega
          have q2 : (k : Int) ≤ (cap : Int) := by omega
          have hne2 := bw_some wr
          have hc := HC.out k hkn
          have BB : ∀ x : Bw wr, Below w.heap.size w x.to := fun x => bt hbel x.below
          have c0 : ∀ x : Bw wr, x.to.cell? ⟨g, off + k * 7, none⟩ = some (.int .i64 ps[k].1.1.1) := fun x => by rw [(BB x).cell (by exact hg)]; exact hc.1
          have c1 : ∀ x : Bw wr, x.to.cell? ⟨g, off + k * 7 + 1, none⟩ = some (.int .i64 ps[k].1.1.2) := fun x => by rw [(BB x).cell (by exact hg)]; exact hc.2.1
          have c2 : ∀ x : Bw wr, x.to.cell? ⟨g, off + k * 7 + 2, none⟩ = some ps[k].2 := fun x => by rw [(BB x).cell (by exact hg)]; exact hc.2.2.1
          have c3 : ∀ x : Bw wr, x.to.cell? ⟨g, off + k * 7 + 3, none⟩ = some (.int .i64 ps[k].1.2.2.1) := fun x => by rw [(BB x).cell (by exact hg)]; exact hc.2.2.2.1
          have c4 : ∀ x : Bw wr, x.to.cell? ⟨g, off + k * 7 + 4, none⟩ = some (.int .i64 ps[k].1.2.2.2.1) := fun x => by rw [(BB x).cell (by exact hg)]; exact hc.2.2.2.2.1
          have c5 : ∀ x : Bw wr, x.to.cell? ⟨g, off + k * 7 + 5, none⟩ = some (.int .i64 ps[k].1.2.2.2.2.1) := fun x => by rw [(BB x).cell (by exact hg)]; exact hc.2.2.2.2.2.1
          have c6 : ∀ x : Bw wr, x.to.cell? ⟨g, off + k * 7 + 6, none⟩ = some (.int .i64 ps[k].1.2.2.2.2.2) := fun x => by rw [(BB x).cell (by exact hg)]; exact hc.2.2.2.2.2.2
          have HQ3 : Hid (∀ x : Bw wr, Calls Try.prog 45 #[.slice (some ⟨g, off, none⟩) k cap, .agg (blkA ps[k].1 ps[k].2)] x.to fun e w' => e = .returned (.bool (blockB ((bks ps).take k) ps[k].1)) ∧ Below x.to.heap.size x.to w') := fun x => by
            have := blockOk_s (ps.take k) _ ps[k].1 ps[k].2 x.to ((HT.out.below (BB x)).take k hk cap q1) ((HT.out.cmds _ (List.getElem_mem hkn)).below (BB x)) (by rw [List.length_take]; omega) (okT_at HK.out hkn)
            rw [bks_take] at this; exact this
          have HQ4 : Hid (∀ x : Bw wr, Calls Try.prog 87 #[.slice (some ⟨g, off, none⟩) ps.length cap, .agg (blkA ps[k].1 ps[k].2)] x.to fun e w' => e = .returned (.int .i64 (blockAt (bks ps) ps[k].1)) ∧ Below x.to.heap.size x.to w') := fun x => blockAt_s ps _ ps[k].1 ps[k].2 x.to (HT.out.below (BB x)) ((HT.out.cmds _ (List.getElem_mem hkn)).below (BB x)) HK.out (okT_at HK.out hkn)
          have HTK : Hid (treeAt (bks ps) k = (blockB ((bks ps).take k) ps[k].1 && decide (blockAt (bks ps) ps[k].1 = (k : Int)))) := (by unfold treeAt; rw [List.getElem?_eq_getElem (by rw [hbl]; exact hkn), bks_at hkn] : treeAt (bks ps) k = (blockB ((bks ps).take k) ps[k].1 && decide (blockAt (bks ps) ps[k].1 = (k : Int))))
          clear hc BB
          cases hb : blockB ((bks ps).take k) ps[k].1 with
          | false =>
            rw [hb] at HQ3
            have HF : Hid (treeB (bks ps) = false) := treeB_no (i := k) (by rw [hbl]; exact hkn) (by omega) (by rw [HTK.out, hb]; rfl)
            clear hb HTK
            go_wp2
            refine wp_region_bw (by kernel_rfl) (by kernel_rfl) ?_
            repeat (go_big_quiet_step (first | (go_at_call 45; refine calls_bw (HQ3.out _)) | (go_at_call 87; refine calls_bw (HQ4.out _))))
            refine wpQuiet_nil ?_
            intro _ hw'
            obtain ⟨y, rfl⟩ := hw'
            go_wp2
            go_ret
            exact ⟨ret_bool HF.out.symm, bt hbel y.below⟩
          | true =>
            rw [hb] at HQ3
            by_cases hat : blockAt (bks ps) ps[k].1 = (k : Int)
            · rw [hat] at HQ4
              have HF : Hid (treeTo (bks ps) (k + 1)) := treeTo_next HS.out (Or.inr (by rw [HTK.out, hb, decide_eq_true hat]; rfl))
              clear hb HTK hat
              go_wp2
              refine wp_region_bw (by kernel_rfl) (by kernel_rfl) ?_
              repeat (go_big_quiet_step (first | (go_at_call 45; refine calls_bw (HQ3.out _)) | (go_at_call 87; refine calls_bw (HQ4.out _))))
              refine wpQuiet_nil ?_
              intro _ hw'
              obtain ⟨y, rfl⟩ := hw'
              go_wp2
              go_roundw
              case rel => exact ⟨k + 1, by omega, by omega, by go_num, HF, bt hbel y.below⟩
              case measure => simp [intOf]; omega
            · have HF : Hid (treeB (bks ps) = false) := treeB_no (i := k) (by rw [hbl]; exact hkn) (by omega) (by rw [HTK.out, hb, decide_eq_false hat]; rfl)
              have hat' : (blockAt (bks ps) ps[k].1 != (k : Int)) = true := by simpa using hat
              clear hb HTK hat
              go_wp2
              refine wp_region_bw (by kernel_rfl) (by kernel_rfl) ?_
              repeat (go_big_quiet_step (first | (go_at_call 45; refine calls_bw (HQ3.out _)) | (go_at_call 87; refine calls_bw (HQ4.out _))))
              refine wpQuiet_nil ?_
              intro _ hw'
              obtain ⟨y, rfl⟩ := hw'
              go_wp2
              go_ret
              exact ⟨ret_bool HF.out.symm, bt hbel y.below⟩
        · have hkl : k = ps.length := by omega
          have HF : Hid (treeB (bks ps) = true) := HTA.out (by have := HS.out; rw [hkl, ← hbl] at this; exact this)
          clear hkl
          go_wp2
          go_ret
          exact ⟨ret_bool HF.out.symm, hbel⟩
    · rw [decide_eq_false he] at HQ2
      have HE : Hid (treeB (bks ps) = false) := treeB_first (by rw [HH.out]; exact he)
      clear he
      go_enter Try.func41, Try.ntmps41
      go_wp2
      refine wp_region_bw (by kernel_rfl) (by kernel_rfl) ?_
      repeat (go_big_quiet_step (first | refine calls_bw_same (in_any _ _ _ _) | (go_at_call 90; refine calls_bw (HQ1.out _)) | (go_at_call 43; refine calls_bw (HQ2.out _))))
      refine wpQuiet_nil ?_
      intro _ hw'
      obtain ⟨x, rfl⟩ := hw'
      go_wp2
      go_ret
      exact ⟨ret_bool HE.out.symm, x.below⟩

end Go.Proofs.Ytjdddcldbfhbiaa
