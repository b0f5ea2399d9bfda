/-
  The contracts of the program's FirstBlock, SameBlock, BlockAt, BlockOk, TreeOk.
-/
import Derived.Test.YtjdddcldbfhbiaaCarryI
import Derived.Test.YtjdddcldbfhbiaaTreeS
namespace Go.Proofs.Ytjdddcldbfhbiaa
open Go.RowKit Num

theorem sks_bks {L : SL} {ps : TL} (h : L.map (fun x => x.2) = ps) : sks L = bks ps := by subst h; simp [sks, bks]
theorem sl_len {L : SL} {ps : TL} (h : L.map (fun x => x.2) = ps) : L.length = ps.length := by subst h; simp
theorem sl_at {L : SL} {ps : TL} (h : L.map (fun x => x.2) = ps) {k : Nat} (hk : k < ps.length) : (L[k]'(by rw [sl_len h]; exact hk)).2 = ps[k] := by subst h; simp
theorem sl_ok {L : SL} {ps : TL} (h : L.map (fun x => x.2) = ps) (hk : okT (bks ps)) : ∀ x ∈ L, okB x.2.1 := fun x hx => by
  subst h
  exact hk.2 _ (List.mem_map.2 ⟨x.2, List.mem_map.2 ⟨x, hx, rfl⟩, rfl⟩)

set_option maxRecDepth 100000 in
theorem first_i (w : World) : Calls Try.prog 47 #[] w fun e w' => e = .returned (blkV firstB (.slice none 0 0)) ∧ Below w.heap.size w w' := by
  go_enter Try.func47, Try.ntmps47
  go_wp2
  refine bodyPost_ret (v := blkV firstB (.slice none 0 0)) (by simp [results, Try.results47, go_sem, blkV, firstB]) rfl ⟨rfl, ?_⟩
  exact ba (Below.refl _ _) _
theorem firstBlock_i (w : World) : Calls Try.prog 47 #[] w fun e w' => ∃ cv', e = .returned (blkV firstB cv') ∧ w'.ownsRow w.heap.size 29 3 cv' firstB.2.1.length (flatR cmdF firstB.2.1) ∧ Below w.heap.size w w' :=
  (first_i w).mono fun _ _ ⟨he, hb⟩ => ⟨_, he, World.ownsRow_nil _ _ _ _, hb⟩

set_option maxRecDepth 100000 in
set_option maxHeartbeats 1000000 in
theorem treeNew_i (w : World) : Calls Try.prog 46 #[] w fun e w' => ∃ v' qs, e = .returned v' ∧ bks qs = [firstB] ∧ OwnT w' w.heap.size v' qs ∧ Below w.heap.size w w' := by
  go_enter Try.func46, Try.ntmps46
  go_wp2_with fail
  refine (first_i w).mono ?_
  rintro e w1 ⟨rfl, hb⟩
  have HB : Hid (Below w.heap.size w w1) := hb
  clear hb
  unfold blkV
  go_wp2
  go_ret
  exact ⟨_, [(firstB, .slice none 0 0)], rfl, rfl, ownT_one HB.out.size (World.ownsRow_nil _ _ _ _), ba HB.out _⟩

set_option maxRecDepth 100000 in
set_option maxHeartbeats 2000000 in
theorem same_i (b d : BK) (cb cd : Value) (w : World) (hb : RowsR w cb 3 cmdF b.2.1) (hd : RowsR w cd 3 cmdF d.2.1) (hkb : okB b) (hkd : okB d) :
    Calls Try.prog 42 #[blkV b cb, blkV d cd] w fun e w' => e = .returned (.bool (decide (b = d))) ∧ Below w.heap.size w w' := by
  unfold blkV
  obtain ⟨W1, hW1⟩ : ∃ W1, W1 = w.alloc (.cells (blkA b cb) 63) := ⟨_, rfl⟩
  obtain ⟨W2, hW2⟩ : ∃ W2, W2 = W1.alloc (.cells (blkA d cd) 63) := ⟨_, rfl⟩
  have hs1 : W1.heap.size = w.heap.size + 1 := by rw [hW1]; simp
  have B1 : Below w.heap.size w W1 := by rw [hW1]; exact ba (Below.refl _ _) _
  have B12 : Below W1.heap.size W1 W2 := by rw [hW2]; exact ba (Below.refl _ _) _
  have HA : Hid (AtB W2 w.heap.size 0 (b, cb)) := atB_box (t := 63) (by rw [← hW1]; exact B12) hb
  have HA2 : Hid (AtB W2 (w.heap.size + 1) 0 (d, cd)) := (by rw [← hs1]; exact atB_box (t := 63) (by rw [← hW2]; exact Below.refl _ _) (hd.below B1) : AtB W2 (w.heap.size + 1) 0 (d, cd))
  have HB2 : Hid (Below w.heap.size w W2) := bt B1 B12
  have HC : Hid (Calls Try.prog 91 #[.pointer (some ⟨w.heap.size, 0, none⟩), .pointer (some ⟨w.heap.size + 1, 0, none⟩)] W2 fun e w' => e = .returned (.bool (decide (b = d))) ∧ Below W2.heap.size W2 w') := alike_i b d cb cd _ _ _ _ W2 HA.out HA2.out hkb.1 hkd.1
  rw [hW1] at hW2
  clear hs1 B1 B12 hb hd hkb hkd hW1
  go_enter Try.func42, Try.ntmps42
  go_wp2_with fail
  rw [← hW2]
  clear hW2
  refine HC.out.mono ?_
  rintro e w3 ⟨rfl, hb3⟩
  go_wp2
  go_ret
  exact ⟨rfl, bt HB2.out hb3⟩

set_option maxRecDepth 100000 in
set_option maxHeartbeats 2000000 in
theorem blockAt_i (ps : TL) (v : Value) (b : BK) (cb : Value) (w : World) (hT : TreeR w v ps) (hB : RowsR w cb 3 cmdF b.2.1) (hk : okT (bks ps)) (hkb : okB b) :
    Calls Try.prog 40 #[v, blkV b cb] w fun e w' => e = .returned (.int .i64 (blockAt (bks ps) b)) ∧ Below w.heap.size w w' := by
  have hbl := bks_len ps
  have hl : (ps.length : Int) ≤ 1048576 := by have := hk.1; rw [hbl] at this; exact this
  have HK : Hid (okT (bks ps)) := hk
  have HKB : Hid (okB b) := hkb
  unfold blkV
  obtain ⟨W1, hW1⟩ : ∃ W1, W1 = w.alloc (.cells (blkA b cb) 63) := ⟨_, rfl⟩
  have HB1 : Hid (Below w.heap.size w W1) := (by rw [hW1]; exact ba (Below.refl _ _) _ : Below w.heap.size w W1)
  have HA : Hid (AtB W1 w.heap.size 0 (b, cb)) := atB_box (t := 63) (by rw [← hW1]; exact Below.refl _ _) hB
  have HT1 : Hid (TreeR W1 v ps) := hT.below HB1.out
  clear hT hB hk hkb
  go_enter Try.func40, Try.ntmps40
  go_wp2_with fail
  rw [← hW1]
  clear hW1
  refine (standing_i ps v W1 HT1.out hl).mono ?_
  rintro e w2 ⟨v2, L, rfl, hL, hown, hat, hb2⟩
  have hll := sl_len hL
  have HC : Hid (Calls Try.prog 81 #[v2, .pointer (some ⟨w.heap.size, 0, none⟩)] w2 fun e w' => e = .returned (.int .i64 (blockAt (bks ps) b)) ∧ Below w2.heap.size w2 w') := (by
    rw [← sks_bks hL]
    exact place_i L v2 b cb _ _ w2 ⟨rows_of_own ptrF_len hown, hat.below hb2, capOk_own hown⟩ (HA.out.below hb2) (by rw [hll]; exact hl) (sl_ok hL HK.out) HKB.out)
  have HB2 : Hid (Below w.heap.size w w2) := bt HB1.out hb2
  clear hown hat hb2 hL hll
  go_wp2_with fail
  refine HC.out.mono ?_
  rintro e w3 ⟨rfl, hb3⟩
  go_wp2
  go_ret
  exact ⟨rfl, bt HB2.out hb3⟩

set_option maxRecDepth 100000 in
set_option maxHeartbeats 2000000 in
theorem blockOk_i (ps : TL) (v : Value) (b : BK) (cb : Value) (w : World) (hT : TreeR w v ps) (hB : RowsR w cb 3 cmdF b.2.1) (hk : okT (bks ps)) (hkb : okB b) :
    Calls Try.prog 44 #[v, blkV b cb] w fun e w' => e = .returned (.bool (blockB (bks ps) b)) ∧ Below w.heap.size w w' := by
  have hbl := bks_len ps
  have hl : (ps.length : Int) ≤ 1048576 := by have := hk.1; rw [hbl] at this; exact this
  have HKB : Hid (okB b) := hkb
  unfold blkV
  obtain ⟨W1, hW1⟩ : ∃ W1, W1 = w.alloc (.cells (blkA b cb) 63) := ⟨_, rfl⟩
  have HB1 : Hid (Below w.heap.size w W1) := (by rw [hW1]; exact ba (Below.refl _ _) _ : Below w.heap.size w W1)
  have HA : Hid (AtB W1 w.heap.size 0 (b, cb)) := atB_box (t := 63) (by rw [← hW1]; exact Below.refl _ _) hB
  have HT1 : Hid (TreeR W1 v ps) := hT.below HB1.out
  clear hT hB hk hkb
  go_enter Try.func44, Try.ntmps44
  go_wp2_with fail
  rw [← hW1]
  clear hW1
  refine (standing_i ps v W1 HT1.out hl).mono ?_
  rintro e w2 ⟨v2, L, rfl, hL, hown, hat, hb2⟩
  have hll := sl_len hL
  have HC : Hid (Calls Try.prog 82 #[v2, .pointer (some ⟨w.heap.size, 0, none⟩)] w2 fun e w' => e = .returned (.bool (blockB (bks ps) b)) ∧ Below w2.heap.size w2 w') := (by
    rw [← sks_bks hL]
    exact carry_i L v2 b cb _ _ w2 ⟨rows_of_own ptrF_len hown, hat.below hb2, capOk_own hown⟩ (HA.out.below hb2) (by rw [hll]; exact hl) HKB.out)
  have HB2 : Hid (Below w.heap.size w w2) := bt HB1.out hb2
  clear hown hat hb2 hL hll
  go_wp2_with fail
  refine HC.out.mono ?_
  rintro e w3 ⟨rfl, hb3⟩
  go_wp2
  go_ret
  exact ⟨rfl, bt HB2.out hb3⟩

set_option maxRecDepth 100000 in
set_option maxHeartbeats 8000000 in
theorem treeOk_i (ps : TL) (v : Value) (w : World) (hT : TreeR w v ps) (hk : okT (bks ps)) :
    Calls Try.prog 38 #[v] w fun e w' => e = .returned (.bool (treeB (bks ps))) ∧ Below w.heap.size w w' := by
  have HT : Hid (TreeR w v ps) := hT
  have HK : Hid (okT (bks ps)) := hk
  obtain ⟨a, cap, rfl, hcap, hr⟩ := tree_cells hT
  have HR : Hid (0 < ps.length → _) := hr
  have hbl := bks_len ps
  have hl : (ps.length : Int) ≤ 1048576 := by have := hk.1; rw [hbl] at this; exact this
  have hne := bw_some w
  clear hr hT hk
  by_cases p0 : (ps.length : Int) < 1
  · have HE : Hid (treeB (bks ps) = false) := treeB_len (inB_no (by rw [hbl]; omega))
    have d0 : decide ((ps.length : Int) < 1) = true := decide_eq_true p0
    go_enter Try.func38, Try.ntmps38
    go_wp2
    refine wp_region_bw (by kernel_rfl) (by kernel_rfl) ?_
    repeat (go_big_quiet_step (fail))
    refine wpQuiet_nil ?_
    intro _ hw'
    obtain ⟨x, rfl⟩ := hw'
    go_wp2
    go_ret
    exact ⟨ret_bool HE.out.symm, x.below⟩
  have d0 : decide ((ps.length : Int) < 1) = false := decide_eq_false p0
  by_cases p1 : (60 : Int) < (ps.length : Int)
  · have HE : Hid (treeB (bks ps) = false) := treeB_len (inB_no (by rw [hbl]; omega))
    have d1 : decide ((60 : Int) < (ps.length : Int)) = true := decide_eq_true p1
    go_enter Try.func38, Try.ntmps38
    go_wp2
    refine wp_region_bw (by kernel_rfl) (by kernel_rfl) ?_
    repeat (go_big_quiet_step (fail))
    refine wpQuiet_nil ?_
    intro _ hw'
    obtain ⟨x, rfl⟩ := hw'
    go_wp2
    go_ret
    exact ⟨ret_bool HE.out.symm, x.below⟩
  have d1 : decide ((60 : Int) < (ps.length : Int)) = false := decide_eq_false p1
  have h0 : 0 < ps.length := by omega
  obtain ⟨g, off, rfl, hg, hc⟩ := HR.out h0
  have c0 : ∀ x : Bw w, x.to.cell? ⟨g, off, none⟩ = some (.int .i64 ps[0].1.1.1) := fun x => by rw [x.below.cell (by exact hg)]; simpa using (hc 0 h0).1
  have c1 : ∀ x : Bw w, x.to.cell? ⟨g, off + 1, none⟩ = some (.int .i64 ps[0].1.1.2) := fun x => by rw [x.below.cell (by exact hg)]; simpa using (hc 0 h0).2.1
  have c2 : ∀ x : Bw w, x.to.cell? ⟨g, off + 2, none⟩ = some ps[0].2 := fun x => by rw [x.below.cell (by exact hg)]; simpa using (hc 0 h0).2.2.1
  have c3 : ∀ x : Bw w, x.to.cell? ⟨g, off + 3, none⟩ = some (.int .i64 ps[0].1.2.2.1) := fun x => by rw [x.below.cell (by exact hg)]; simpa using (hc 0 h0).2.2.2.1
  have c4 : ∀ x : Bw w, x.to.cell? ⟨g, off + 4, none⟩ = some (.int .i64 ps[0].1.2.2.2.1) := fun x => by rw [x.below.cell (by exact hg)]; simpa using (hc 0 h0).2.2.2.2.1
  have c5 : ∀ x : Bw w, x.to.cell? ⟨g, off + 5, none⟩ = some (.int .i64 ps[0].1.2.2.2.2.1) := fun x => by rw [x.below.cell (by exact hg)]; simpa using (hc 0 h0).2.2.2.2.2.1
  have c6 : ∀ x : Bw w, x.to.cell? ⟨g, off + 6, none⟩ = some (.int .i64 ps[0].1.2.2.2.2.2) := fun x => by rw [x.below.cell (by exact hg)]; simpa using (hc 0 h0).2.2.2.2.2.2
  have HQ1 : Hid (∀ x : Bw w, Calls Try.prog 47 #[] x.to fun e w' => e = .returned (.agg (blkA firstB (.slice none 0 0))) ∧ Below x.to.heap.size x.to w') := fun x => first_i x.to
  have HQ2 : Hid (∀ x : Bw w, Calls Try.prog 42 #[.agg (blkA ps[0].1 ps[0].2), .agg (blkA firstB (.slice none 0 0))] x.to fun e w' => e = .returned (.bool (decide (ps[0].1 = firstB))) ∧ Below x.to.heap.size x.to w') := fun x => same_i ps[0].1 firstB ps[0].2 _ x.to ((HT.out.cmds _ (List.getElem_mem h0)).below x.below) (rows_none _) (okT_at HK.out h0) ⟨by simp [firstB], by simp [firstB]⟩
  have HH : Hid (headB (bks ps) = ps[0].1) := (by rw [headB_at (by rw [hbl]; exact h0), bks_at h0] : headB (bks ps) = ps[0].1)
  clear hc
  by_cases he : ps[0].1 = firstB
  · rw [decide_eq_true he] at HQ2
    have HTA : Hid (treeTo (bks ps) (bks ps).length → treeB (bks ps) = true) := treeB_all (inB_yes (by rw [hbl]; omega)) (by rw [HH.out]; exact he)
    clear he
    go_enter Try.func38, Try.ntmps38
    go_wp2
    refine wp_region_bw (by kernel_rfl) (by kernel_rfl) ?_
    repeat (go_big_quiet_step (first | (go_at_call 47; (with_reducible refine calls_bw (HQ1.out _))) | (go_at_call 42; (with_reducible refine calls_bw (HQ2.out _)))))
    refine wpQuiet_nil ?_
    intro _ hw'
    obtain ⟨x, rfl⟩ := hw'
    have HXB : Hid (Below w.heap.size w x.to) := x.below
    obtain ⟨wx, hwx⟩ : ∃ wx, wx = x.to := ⟨_, rfl⟩
    clear d0 d1 c0 c1 c2 c3 c4 c5 c6
    go_wp2_with fail
    rw [← hwx] at HXB ⊢
    clear hwx
    refine (standing_i ps _ wx (HT.out.below HXB.out) hl).mono ?_
    rintro e w2 ⟨v2, L, rfl, hL, hown, hat, hb2⟩
    have hll := sl_len hL
    have HSK : Hid (sks L = bks ps) := sks_bks hL
    have HSt : Hid (Stand w2 v2 L) := ⟨rows_of_own ptrF_len hown, hat.below hb2, capOk_own hown⟩
    have HOK : Hid (∀ x ∈ L, okB x.2.1) := sl_ok hL HK.out
    have HB2 : Hid (Below w.heap.size w w2) := bt HXB.out hb2
    obtain ⟨a2, cap2, rfl, hcap2, hr2⟩ := stand_cells HSt.out
    obtain ⟨g2, off2, rfl, hg2, hc2⟩ := hr2 (by omega)
    have HC2 : Hid (∀ i (hi : i < L.length), _) := hc2
    clear hL hown hat hb2 hr2 hc2
    go_wp2
    go_loopw [4] (fun i wr => ∃ k : Nat, 1 ≤ k ∧ k ≤ L.length ∧ i = .int .i64 (k : Int) ∧ Hid (treeTo (bks ps) k) ∧ Below w2.heap.size w2 wr) (fun i _ => L.length - (intOf i).toNat)
    case atStart => exact ⟨1, Nat.le_refl _, by omega, rfl, fun i hi h => by omega, Below.refl _ _⟩
    case round =>
      obtain ⟨k, hk1, hk, rfl, HS, hbel⟩ := hrel
      by_cases hlt : (k : Int) < L.length
      · have hkn : k < L.length := by omega
        have q0 : (0 : Int) ≤ (k : Int) := by omega
        have q1 : k ≤ cap2 := by omega
        have q2 : (k : Int) ≤ (cap2 : Int) := by omega
        have c0 : wr.cell? ⟨g2, off2 + k, none⟩ = some (.pointer (some ⟨L[k].1.1, L[k].1.2, none⟩)) := by rw [hbel.cell (by exact hg2)]; exact (HC2.out k hkn).1
        have HQ3 : Hid (∀ w', Below wr.heap.size wr w' → Calls Try.prog 82 #[.slice (some ⟨g2, off2, none⟩) k cap2, .pointer (some ⟨L[k].1.1, L[k].1.2, none⟩)] w' fun e w'' => e = .returned (.bool (blockB ((bks ps).take k) L[k].2.1)) ∧ Below w'.heap.size w' w'') := fun w' hb' => by
          have := carry_i (L.take k) _ L[k].2.1 L[k].2.2 _ _ w' (((HSt.out.below hbel).below hb').take k hk cap2 q1) (((HC2.out k hkn).2.below hbel).below hb') (by rw [List.length_take]; omega) (HOK.out _ (List.getElem_mem hkn))
          rw [sks_take, HSK.out] at this; exact this
        have HQ4 : Hid (∀ w', Below wr.heap.size wr w' → Calls Try.prog 81 #[.slice (some ⟨g2, off2, none⟩) k cap2, .pointer (some ⟨L[k].1.1, L[k].1.2, none⟩)] w' fun e w'' => e = .returned (.int .i64 (blockAt ((bks ps).take k) L[k].2.1)) ∧ Below w'.heap.size w' w'') := fun w' hb' => by
          have := place_i (L.take k) _ L[k].2.1 L[k].2.2 _ _ w' (((HSt.out.below hbel).below hb').take k hk cap2 q1) (((HC2.out k hkn).2.below hbel).below hb') (by rw [List.length_take]; omega) (fun x hx => HOK.out x (List.mem_of_mem_take hx)) (HOK.out _ (List.getElem_mem hkn))
          rw [sks_take, HSK.out] at this; exact this
        have HTK : Hid (treeAt (bks ps) k = (blockB ((bks ps).take k) L[k].2.1 && decide (blockAt ((bks ps).take k) L[k].2.1 = -1))) := (by
          have hkb : k < (bks ps).length := by rw [← HSK.out, sks_len]; exact hkn
          have e : (bks ps)[k] = L[k].2.1 := by simp only [← HSK.out]; exact sks_at hkn
          rw [treeAt_of hkb, e] : treeAt (bks ps) k = (blockB ((bks ps).take k) L[k].2.1 && decide (blockAt ((bks ps).take k) L[k].2.1 = -1)))
        cases hb : blockB ((bks ps).take k) L[k].2.1 with
        | false =>
          rw [hb] at HQ3
          have HF : Hid (treeB (bks ps) = false) := treeB_no (i := k) (by rw [hbl]; omega) (by omega) (by rw [HTK.out, hb]; rfl)
          clear hb HTK
          go_wp2_with fail
          refine (HQ3.out _ (Below.refl _ _)).mono ?_
          rintro e w3 ⟨rfl, hb3⟩
          go_wp2
          go_ret
          exact ⟨ret_bool HF.out.symm, bt HB2.out (bt hbel hb3)⟩
        | true =>
          rw [hb] at HQ3
          by_cases hat : blockAt ((bks ps).take k) L[k].2.1 = -1
          · rw [hat] at HQ4
            have HF : Hid (treeTo (bks ps) (k + 1)) := treeTo_next HS.out (Or.inr (by rw [HTK.out, hb, decide_eq_true hat]; rfl))
            clear hb HTK hat
            go_wp2_with fail
            refine (HQ3.out _ (Below.refl _ _)).mono ?_
            rintro e w3 ⟨rfl, hb3⟩
            have c3 : w3.cell? ⟨g2, off2 + k, none⟩ = some (.pointer (some ⟨L[k].1.1, L[k].1.2, none⟩)) := by rw [(bt hbel hb3).cell (by exact hg2)]; exact (HC2.out k hkn).1
            go_wp2_with fail
            refine (HQ4.out _ hb3).mono ?_
            rintro e w4 ⟨rfl, hb4⟩
            go_wp2
            go_roundw
            case rel => exact ⟨k + 1, by omega, by omega, by go_num, HF, bt hbel (bt hb3 hb4)⟩
            case measure => simp [intOf]; omega
          · have HF : Hid (treeB (bks ps) = false) := treeB_no (i := k) (by rw [hbl]; omega) (by omega) (by rw [HTK.out, hb, decide_eq_false hat]; rfl)
            have hat' : (blockAt ((bks ps).take k) L[k].2.1 != -1) = true := by simpa using hat
            clear hb HTK hat
            go_wp2_with fail
            refine (HQ3.out _ (Below.refl _ _)).mono ?_
            rintro e w3 ⟨rfl, hb3⟩
            have c3 : w3.cell? ⟨g2, off2 + k, none⟩ = some (.pointer (some ⟨L[k].1.1, L[k].1.2, none⟩)) := by rw [(bt hbel hb3).cell (by exact hg2)]; exact (HC2.out k hkn).1
            go_wp2_with fail
            refine (HQ4.out _ hb3).mono ?_
            rintro e w4 ⟨rfl, hb4⟩
            go_wp2
            go_ret
            exact ⟨ret_bool HF.out.symm, bt HB2.out (bt hbel (bt hb3 hb4))⟩
      · have hkl : k = L.length := by omega
        have HF : Hid (treeB (bks ps) = true) := HTA.out (by have := HS.out; rw [hkl, hll, ← hbl] at this; exact this)
        clear hkl
        go_wp2
        go_ret
        exact ⟨ret_bool HF.out.symm, bt HB2.out hbel⟩
  · rw [decide_eq_false he] at HQ2
    have HE : Hid (treeB (bks ps) = false) := treeB_first (by rw [HH.out]; exact he)
    clear he
    go_enter Try.func38, Try.ntmps38
    go_wp2
    refine wp_region_bw (by kernel_rfl) (by kernel_rfl) ?_
    repeat (go_big_quiet_step (first | (go_at_call 47; (with_reducible refine calls_bw (HQ1.out _))) | (go_at_call 42; (with_reducible refine calls_bw (HQ2.out _)))))
    refine wpQuiet_nil ?_
    intro _ hw'
    obtain ⟨x, rfl⟩ := hw'
    go_wp2
    go_ret
    exact ⟨ret_bool HE.out.symm, x.below⟩

end Go.Proofs.Ytjdddcldbfhbiaa
