/-
  The contracts of the specification's BlockOk and BlockAt.
-/
import Derived.Test.YtfnneillakdopabBlockS
import Derived.Test.YtfnneillakdopabCmdI
import Derived.Laws.Cover1
namespace Go.Proofs.Ytfnneillakdopab
open Go.RowKit Num

/-- a tree of a size that is met -/
def okT (t : List BK) : Prop := (t.length : Int) ≤ 1048576 ∧ ∀ b ∈ t, (b.2.1.length : Int) ≤ 1048576 ∧ ∀ c ∈ b.2.1, (c.2.1.size : Int) ≤ 1048576
/-- .. a block -/
def okB (b : BK) : Prop := (b.2.1.length : Int) ≤ 1048576 ∧ ∀ c ∈ b.2.1, (c.2.1.size : Int) ≤ 1048576
theorem okT_at {ps : TL} (h : okT (bks ps)) {i : Nat} (hi : i < ps.length) : okB ps[i].1 := h.2 _ (List.mem_map.2 ⟨ps[i], List.getElem_mem hi, rfl⟩)
theorem inB_eq {x lo hi : Int} (h : inB x lo hi = true) : lo ≤ x ∧ x ≤ hi := by unfold inB at h; simpa using h
theorem inB_not {x lo hi : Int} (h : inB x lo hi = false) : ¬ (lo ≤ x ∧ x ≤ hi) := fun e => by rw [inB_yes e] at h; cases h

set_option maxRecDepth 100000 in
set_option maxHeartbeats 4000000 in
theorem blockOk_s (ps : TL) (v : Value) (b : BK) (cv : Value) (w : World) (hT : TreeR w v ps) (hB : RowsR w cv 3 cmdF b.2.1) (hl : (ps.length : Int) ≤ 1048576) (hk : okB b) :
    Calls Try.prog 89 #[v, blkV b cv] w fun e w' => e = .returned (.bool (blockB (bks ps) b)) ∧ Below w.heap.size w w' := by
  obtain ⟨a, cap, rfl, _, hr⟩ := tree_cells hT
  obtain ⟨ac, cc, rfl, hrc⟩ := hB
  have HR : Hid (0 < ps.length → _) := hr
  have HC : Hid (0 < b.2.1.length → _) := hrc
  have hbl := bks_len ps
  obtain ⟨⟨par, vw⟩, ⟨cmds, ph, jv, jb, sg⟩⟩ := b
  simp only at HC hk
  have hk1 := hk.1
  have HK : Hid (∀ c ∈ cmds, (c.2.1.size : Int) ≤ 1048576) := hk.2
  simp only at hk1
  unfold blkV
  simp only
  obtain ⟨W1, hW1⟩ : ∃ W1, W1 = w.alloc (.cells #[.int .i64 par, .int .i64 vw, .slice ac cmds.length cc, .int .i64 ph, .int .i64 jv, .int .i64 jb, .int .i64 sg] 33) := ⟨_, rfl⟩
  have HW : Hid (W1.heap[w.heap.size]? = some (.cells (blkA ((par, vw), (cmds, ph, jv, jb, sg)) (.slice ac cmds.length cc)) 33 (0, 0)) ∧ Below w.heap.size w W1) := by
    rw [hW1]; exact ⟨heap_alloc_new w _, ba (Below.refl _ _) _⟩
  have l0 : w.heap.size < W1.heap.size := (Array.getElem?_eq_some_iff.1 HW.out.1).1
  have HX : Hid (∀ w', Below W1.heap.size W1 w' → w'.heap[w.heap.size]? = some (.cells (blkA ((par, vw), (cmds, ph, jv, jb, sg)) (.slice ac cmds.length cc)) 33 (0, 0))) := fun w' h' => (h'.block _ l0).trans HW.out.1
  have hne := bw_some W1
  have y0 : ∀ x : Bw W1, x.to.cell? ⟨w.heap.size, 0, none⟩ = some (.int .i64 par) := fun x => (blk_cells (HX.out _ x.below)).1
  have y1 : ∀ x : Bw W1, x.to.cell? ⟨w.heap.size, 1, none⟩ = some (.int .i64 vw) := fun x => (blk_cells (HX.out _ x.below)).2.1
  have y2 : ∀ x : Bw W1, x.to.cell? ⟨w.heap.size, 2, none⟩ = some (.slice ac cmds.length cc) := fun x => (blk_cells (HX.out _ x.below)).2.2.1
  clear hr hrc hT hk
  cases hp : inB par 0 ((ps.length : Int) - 1) with
  | false =>
    have HE : Hid (blockB (bks ps) ((par, vw), (cmds, ph, jv, jb, sg)) = false) := blockB_par (by simp only; rw [hbl]; exact hp)
    go_enter Try.func89, Try.ntmps89
    go_wp2
    rw [← hW1]
    clear hW1
    refine wp_region_bw (by kernel_rfl) (by kernel_rfl) ?_
    repeat (go_big_quiet_step (refine calls_bw_same (in_any _ _ _ _)))
    refine wpQuiet_nil ?_
    intro _ hw'
    obtain ⟨x, rfl⟩ := hw'
    go_wp2
    go_ret
    exact ⟨ret_bool HE.out.symm, bt HW.out.2 x.below⟩
  | true =>
    obtain ⟨p0, p1⟩ := inB_eq hp
    obtain ⟨j, rfl⟩ := Int.eq_ofNat_of_zero_le p0
    have hj : j < ps.length := by omega
    have q1 : (j : Int) < ps.length := by omega
    obtain ⟨g, off, rfl, hg, hc⟩ := HR.out (by omega)
    have HV : Hid (viewAt (bks ps) (j : Int) = ps[j].1.1.2) := (by rw [viewAt_at (by rw [hbl]; exact hj), bks_at hj] : viewAt (bks ps) (j : Int) = ps[j].1.1.2)
    have z1 : ∀ x : Bw W1, x.to.cell? ⟨g, off + j * 7 + 1, none⟩ = some (.int .i64 ps[j].1.1.2) := fun x => by rw [(bt HW.out.2 x.below).cell (by exact hg)]; exact (hc j hj).2.1
    clear hc
    by_cases hlow : ps[j].1.1.2 < vw
    · have d1 : decide (vw ≤ ps[j].1.1.2) = false := decide_eq_false (by omega)
      by_cases hhigh : vw ≤ 900
      · have d2 : decide (900 < vw) = false := decide_eq_false (by omega)
        by_cases hmany : (cmds.length : Int) ≤ 4
        · have d3 : decide (4 < (cmds.length : Int)) = false := decide_eq_false (by omega)
          have HB : Hid (∀ (_ : cmdsTo cmds cmds.length), blockB (bks ps) (((j : Int), vw), (cmds, ph, jv, jb, sg)) = (decide (jb = (j : Int)) && decide (jv = ps[j].1.1.2))) := fun h4 => by
            have := blockB_all (t := bks ps) (b := (((j : Int), vw), (cmds, ph, jv, jb, sg))) (by simp only; rw [hbl]; exact hp) (by simp only; rw [HV.out]; exact hlow) hhigh (by simp only; omega) h4
            rw [this]; simp only; rw [HV.out]
          have HN : Hid (∀ i (hi : i < cmds.length), cmdB cmds[i] = false → blockB (bks ps) (((j : Int), vw), (cmds, ph, jv, jb, sg)) = false) := fun i hi hc => blockB_cmd (b := (((j : Int), vw), (cmds, ph, jv, jb, sg))) hi hc
          go_enter Try.func89, Try.ntmps89
          go_wp2
          rw [← hW1]
          clear hW1
          refine wp_region_bw (by kernel_rfl) (by kernel_rfl) ?_
          repeat (go_big_quiet_step (refine calls_bw_same (in_any _ _ _ _)))
          refine wpQuiet_nil ?_
          intro _ hw'
          obtain ⟨x, rfl⟩ := hw'
          have HXB : Hid (Below W1.heap.size W1 x.to) := x.below
          go_wp2
          clear d1 d2 d3 hlow hhigh hmany hp
          go_loopw [5] (fun i wr => ∃ k : Nat, k ≤ cmds.length ∧ i = .int .i64 (k : Int) ∧ Hid (cmdsTo cmds k) ∧ Below W1.heap.size W1 wr) (fun i _ => cmds.length - (intOf i).toNat)
          case atStart => exact ⟨0, Nat.zero_le _, rfl, fun i _ h => by omega, HXB.out⟩
          case round =>
            obtain ⟨k, hk, rfl, HS, hbel⟩ := hrel
            have u2 : wr.cell? ⟨w.heap.size, 2, none⟩ = some (.slice ac cmds.length cc) := (blk_cells (HX.out _ hbel)).2.2.1
            by_cases hlt : (k : Int) < cmds.length
            · have hkn : k < cmds.length := by omega
              have q0 : (0 : Int) ≤ (k : Int) := by omega
              obtain ⟨gc, oc, rfl, hgc, hcc⟩ := HC.out (by omega)
              have c0 : wr.cell? ⟨gc, oc + k * 3, none⟩ = some (.int .i64 cmds[k].1) := by rw [(bt HW.out.2 hbel).cell (by exact hgc)]; exact hcc k hkn 0 (by omega)
              have c1 : wr.cell? ⟨gc, oc + k * 3 + 1, none⟩ = some (.string cmds[k].2.1) := by rw [(bt HW.out.2 hbel).cell (by exact hgc)]; exact hcc k hkn 1 (by omega)
              have c2 : wr.cell? ⟨gc, oc + k * 3 + 2, none⟩ = some (.int .i64 cmds[k].2.2) := by rw [(bt HW.out.2 hbel).cell (by exact hgc)]; exact hcc k hkn 2 (by omega)
              clear hcc
              go_wp2_with fail
              refine (cmd_s cmds[k] wr (HK.out _ (List.getElem_mem hkn))).mono ?_
              rintro e w2 ⟨rfl, hb2⟩
              cases hcb : cmdB cmds[k] with
              | false =>
                have HF := HN.out k hkn hcb
                have HFF : Hid (blockB (bks ps) (((j : Int), vw), (cmds, ph, jv, jb, sg)) = false) := HF
                clear HF
                go_wp2
                go_ret
                exact ⟨ret_bool HFF.out.symm, bt HW.out.2 (bt hbel hb2)⟩
              | true =>
                have HT : Hid (cmdsTo cmds (k + 1)) := cmdsTo_next HS.out hkn hcb
                go_wp2
                go_roundw
                case rel => exact ⟨k + 1, by omega, by go_num, HT, bt hbel hb2⟩
                case measure => simp [intOf]; omega
            · have hkl : k = cmds.length := by omega
              have HF : Hid (blockB (bks ps) (((j : Int), vw), (cmds, ph, jv, jb, sg)) = (decide (jb = (j : Int)) && decide (jv = ps[j].1.1.2))) := HB.out (by have := HS.out; rw [hkl] at this; exact this)
              have hne2 := bw_some wr
              have t0 : ∀ x : Bw wr, x.to.cell? ⟨w.heap.size, 0, none⟩ = some (.int .i64 (j : Int)) := fun x => (blk_cells (HX.out _ (bt hbel x.below))).1
              have t4 : ∀ x : Bw wr, x.to.cell? ⟨w.heap.size, 4, none⟩ = some (.int .i64 jv) := fun x => (blk_cells (HX.out _ (bt hbel x.below))).2.2.2.2.1
              have t5 : ∀ x : Bw wr, x.to.cell? ⟨w.heap.size, 5, none⟩ = some (.int .i64 jb) := fun x => (blk_cells (HX.out _ (bt hbel x.below))).2.2.2.2.2.1
              have tz : ∀ x : Bw wr, x.to.cell? ⟨g, off + j * 7 + 1, none⟩ = some (.int .i64 ps[j].1.1.2) := fun x => z1 ⟨x.to, bt hbel x.below⟩
              clear hkl
              by_cases e1 : jb = (j : Int)
              · have e1' : (jb == (j : Int)) = true := by simpa using e1
                have HF2 : Hid (blockB (bks ps) (((j : Int), vw), (cmds, ph, jv, jb, sg)) = (jv == ps[j].1.1.2)) := (by rw [HF.out, decide_eq_true e1, Bool.true_and]; rfl : blockB (bks ps) (((j : Int), vw), (cmds, ph, jv, jb, sg)) = (jv == ps[j].1.1.2))
                clear e1
                go_wp2
                refine wp_region_bw (by kernel_rfl) (by kernel_rfl) ?_
                repeat (go_big_quiet_step (fail))
                refine wpQuiet_nil ?_
                intro _ hw'
                obtain ⟨y, rfl⟩ := hw'
                go_wp2
                go_ret
                exact ⟨ret_bool HF2.out.symm, bt HW.out.2 (bt hbel y.below)⟩
              · have e1' : (jb == (j : Int)) = false := by simpa using e1
                have HF2 : Hid (blockB (bks ps) (((j : Int), vw), (cmds, ph, jv, jb, sg)) = false) := (by rw [HF.out, decide_eq_false e1, Bool.false_and] : blockB (bks ps) (((j : Int), vw), (cmds, ph, jv, jb, sg)) = false)
                clear e1
                go_wp2
                refine wp_region_bw (by kernel_rfl) (by kernel_rfl) ?_
                repeat (go_big_quiet_step (fail))
                refine wpQuiet_nil ?_
                intro _ hw'
                obtain ⟨y, rfl⟩ := hw'
                go_wp2
                go_ret
                exact ⟨ret_bool HF2.out.symm, bt HW.out.2 (bt hbel y.below)⟩
        · have HE : Hid (blockB (bks ps) (((j : Int), vw), (cmds, ph, jv, jb, sg)) = false) := blockB_many (by simp only; omega)
          go_enter Try.func89, Try.ntmps89
          go_wp2
          rw [← hW1]
          clear hW1
          refine wp_region_bw (by kernel_rfl) (by kernel_rfl) ?_
          repeat (go_big_quiet_step (refine calls_bw_same (in_any _ _ _ _)))
          refine wpQuiet_nil ?_
          intro _ hw'
          obtain ⟨x, rfl⟩ := hw'
          go_wp2
          go_ret
          exact ⟨ret_bool HE.out.symm, bt HW.out.2 x.below⟩
      · have HE : Hid (blockB (bks ps) (((j : Int), vw), (cmds, ph, jv, jb, sg)) = false) := blockB_high (by simp only; omega)
        go_enter Try.func89, Try.ntmps89
        go_wp2
        rw [← hW1]
        clear hW1
        refine wp_region_bw (by kernel_rfl) (by kernel_rfl) ?_
        repeat (go_big_quiet_step (refine calls_bw_same (in_any _ _ _ _)))
        refine wpQuiet_nil ?_
        intro _ hw'
        obtain ⟨x, rfl⟩ := hw'
        go_wp2
        go_ret
        exact ⟨ret_bool HE.out.symm, bt HW.out.2 x.below⟩
    · have HE : Hid (blockB (bks ps) (((j : Int), vw), (cmds, ph, jv, jb, sg)) = false) := blockB_low (by simp only; rw [HV.out]; exact hlow)
      have hlow' : vw ≤ ps[j].1.1.2 := Int.not_lt.1 hlow
      go_enter Try.func89, Try.ntmps89
      go_wp2
      rw [← hW1]
      clear hW1
      refine wp_region_bw (by kernel_rfl) (by kernel_rfl) ?_
      repeat (go_big_quiet_step (refine calls_bw_same (in_any _ _ _ _)))
      refine wpQuiet_nil ?_
      intro _ hw'
      obtain ⟨x, rfl⟩ := hw'
      go_wp2
      go_ret
      exact ⟨ret_bool HE.out.symm, bt HW.out.2 x.below⟩

set_option maxRecDepth 100000 in
set_option maxHeartbeats 4000000 in
theorem blockAt_s (ps : TL) (v : Value) (b : BK) (cv : Value) (w : World) (hT : TreeR w v ps) (hB : RowsR w cv 3 cmdF b.2.1) (hk : okT (bks ps)) (hkb : okB b) :
    Calls Try.prog 88 #[v, blkV b cv] w fun e w' => e = .returned (.int .i64 (blockAt (bks ps) b)) ∧ Below w.heap.size w w' := by
  have HT : Hid (TreeR w v ps) := hT
  have HB : Hid (RowsR w cv 3 cmdF b.2.1) := hB
  have HK : Hid (okT (bks ps)) := hk
  have HKB : Hid (okB b) := hkb
  obtain ⟨a, cap, rfl, _, hr⟩ := tree_cells hT
  have HR : Hid (0 < ps.length → _) := hr
  have hbl := bks_len ps
  have hl : (ps.length : Int) ≤ 1048576 := by have := hk.1; rw [hbl] at this; exact this
  unfold blkV
  obtain ⟨W1, hW1⟩ : ∃ W1, W1 = w.alloc (.cells (blkA b cv) 33) := ⟨_, rfl⟩
  have HW : Hid (W1.heap[w.heap.size]? = some (.cells (blkA b cv) 33 (0, 0)) ∧ Below w.heap.size w W1) := by
    rw [hW1]; exact ⟨heap_alloc_new w _, ba (Below.refl _ _) _⟩
  have l0 : w.heap.size < W1.heap.size := (Array.getElem?_eq_some_iff.1 HW.out.1).1
  have HX : Hid (∀ w', Below W1.heap.size W1 w' → w'.heap[w.heap.size]? = some (.cells (blkA b cv) 33 (0, 0))) := fun w' h' => (h'.block _ l0).trans HW.out.1
  clear hr hT hB hk hkb
  go_enter Try.func88, Try.ntmps88
  go_wp2
  rw [← hW1]
  clear hW1
  go_loopw [5] (fun i wr => ∃ k : Nat, k ≤ ps.length ∧ i = .int .i64 (k : Int) ∧ Hid (blockAt (bks ps) b = blockAtFrom b ((bks ps).drop k) k) ∧ Below W1.heap.size W1 wr) (fun i _ => ps.length - (intOf i).toNat)
  case atStart => exact ⟨0, Nat.zero_le _, rfl, rfl, Below.refl _ _⟩
  case round =>
    obtain ⟨k, hk, rfl, HS, hbel⟩ := hrel
    by_cases hlt : (k : Int) < ps.length
    · have hkn : k < ps.length := by omega
      have q0 : (0 : Int) ≤ (k : Int) := by omega
      obtain ⟨g, off, rfl, hg, hc⟩ := HR.out (by omega)
      have hne := bw_some wr
      have BB : ∀ x : Bw wr, Below w.heap.size w x.to := fun x => bt HW.out.2 (bt hbel x.below)
      have c0 : ∀ x : Bw wr, x.to.cell? ⟨g, off + k * 7, none⟩ = some (.int .i64 ps[k].1.1.1) := fun x => by rw [(BB x).cell (by exact hg)]; exact (hc k hkn).1
      have c1 : ∀ x : Bw wr, x.to.cell? ⟨g, off + k * 7 + 1, none⟩ = some (.int .i64 ps[k].1.1.2) := fun x => by rw [(BB x).cell (by exact hg)]; exact (hc k hkn).2.1
      have c2 : ∀ x : Bw wr, x.to.cell? ⟨g, off + k * 7 + 2, none⟩ = some ps[k].2 := fun x => by rw [(BB x).cell (by exact hg)]; exact (hc k hkn).2.2.1
      have c3 : ∀ x : Bw wr, x.to.cell? ⟨g, off + k * 7 + 3, none⟩ = some (.int .i64 ps[k].1.2.2.1) := fun x => by rw [(BB x).cell (by exact hg)]; exact (hc k hkn).2.2.2.1
      have c4 : ∀ x : Bw wr, x.to.cell? ⟨g, off + k * 7 + 4, none⟩ = some (.int .i64 ps[k].1.2.2.2.1) := fun x => by rw [(BB x).cell (by exact hg)]; exact (hc k hkn).2.2.2.2.1
      have c5 : ∀ x : Bw wr, x.to.cell? ⟨g, off + k * 7 + 5, none⟩ = some (.int .i64 ps[k].1.2.2.2.2.1) := fun x => by rw [(BB x).cell (by exact hg)]; exact (hc k hkn).2.2.2.2.2.1
      have c6 : ∀ x : Bw wr, x.to.cell? ⟨g, off + k * 7 + 6, none⟩ = some (.int .i64 ps[k].1.2.2.2.2.2) := fun x => by rw [(BB x).cell (by exact hg)]; exact (hc k hkn).2.2.2.2.2.2
      have y0 : ∀ x : Bw wr, x.to.cell? ⟨w.heap.size, 0, none⟩ = some (.int .i64 b.1.1) := fun x => (blk_cells (HX.out _ (bt hbel x.below))).1
      have y1 : ∀ x : Bw wr, x.to.cell? ⟨w.heap.size, 1, none⟩ = some (.int .i64 b.1.2) := fun x => (blk_cells (HX.out _ (bt hbel x.below))).2.1
      have y2 : ∀ x : Bw wr, x.to.cell? ⟨w.heap.size, 2, none⟩ = some cv := fun x => (blk_cells (HX.out _ (bt hbel x.below))).2.2.1
      have y3 : ∀ x : Bw wr, x.to.cell? ⟨w.heap.size, 3, none⟩ = some (.int .i64 b.2.2.1) := fun x => (blk_cells (HX.out _ (bt hbel x.below))).2.2.2.1
      have y4 : ∀ x : Bw wr, x.to.cell? ⟨w.heap.size, 4, none⟩ = some (.int .i64 b.2.2.2.1) := fun x => (blk_cells (HX.out _ (bt hbel x.below))).2.2.2.2.1
      have y5 : ∀ x : Bw wr, x.to.cell? ⟨w.heap.size, 5, none⟩ = some (.int .i64 b.2.2.2.2.1) := fun x => (blk_cells (HX.out _ (bt hbel x.below))).2.2.2.2.2.1
      have y6 : ∀ x : Bw wr, x.to.cell? ⟨w.heap.size, 6, none⟩ = some (.int .i64 b.2.2.2.2.2) := fun x => (blk_cells (HX.out _ (bt hbel x.below))).2.2.2.2.2.2
      have HQ : Hid (∀ x : Bw wr, Calls Try.prog 92 #[.agg (blkA ps[k].1 ps[k].2), .agg (blkA b cv)] x.to fun e w' => e = .returned (.bool (decide (ps[k].1 = b))) ∧ Below x.to.heap.size x.to w') := fun x => same_s ps[k].1 b ps[k].2 cv x.to ((HT.out.cmds _ (List.getElem_mem hkn)).below (BB x)) (HB.out.below (BB x)) (okT_at HK.out hkn).1 HKB.out.1
      have HD : Hid (blockAtFrom b ((bks ps).drop k) k = if ps[k].1 = b then (k : Int) else blockAtFrom b ((bks ps).drop (k + 1)) (k + 1)) := (by rw [blockAt_drop (bks ps) b k (by rw [hbl]; exact hkn), bks_at hkn] : blockAtFrom b ((bks ps).drop k) k = if ps[k].1 = b then (k : Int) else blockAtFrom b ((bks ps).drop (k + 1)) (k + 1))
      clear hc BB
      by_cases he : ps[k].1 = b
      · have he' : decide (ps[k].1 = b) = true := decide_eq_true he
        rw [he'] at HQ
        have HF : Hid (blockAt (bks ps) b = (k : Int)) := (by rw [HS.out, HD.out, if_pos he] : blockAt (bks ps) b = (k : Int))
        clear he he' HD
        go_wp2
        refine wp_region_bw (by kernel_rfl) (by kernel_rfl) ?_
        repeat (go_big_quiet_step (refine calls_bw (HQ.out _)))
        refine wpQuiet_nil ?_
        intro _ hw'
        obtain ⟨x, rfl⟩ := hw'
        go_wp2
        go_ret
        exact ⟨ret_int HF.out.symm, bt HW.out.2 (bt hbel x.below)⟩
      · have he' : decide (ps[k].1 = b) = false := decide_eq_false he
        rw [he'] at HQ
        have HF : Hid (blockAt (bks ps) b = blockAtFrom b ((bks ps).drop (k + 1)) (k + 1)) := (by rw [HS.out, HD.out, if_neg he] : blockAt (bks ps) b = blockAtFrom b ((bks ps).drop (k + 1)) (k + 1))
        clear he he' HD
        go_wp2
        refine wp_region_bw (by kernel_rfl) (by kernel_rfl) ?_
        repeat (go_big_quiet_step (refine calls_bw (HQ.out _)))
        refine wpQuiet_nil ?_
        intro _ hw'
        obtain ⟨x, rfl⟩ := hw'
        go_wp2
        go_roundw
        case rel => exact ⟨k + 1, by omega, by go_num, HF, bt hbel x.below⟩
        case measure => simp [intOf]; omega
    · have hkl : k = ps.length := by omega
      have HF : Hid (blockAt (bks ps) b = -1) := (by rw [HS.out, hkl, List.drop_eq_nil_of_le (by rw [hbl]; exact Nat.le_refl _)]; rfl : blockAt (bks ps) b = -1)
      clear hkl
      go_wp2
      go_ret
      exact ⟨ret_int HF.out.symm, bt HW.out.2 hbel⟩

end Go.Proofs.Ytfnneillakdopab
