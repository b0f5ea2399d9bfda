/-
  The contracts of the laws' own helpers over blocks: marked, and looked at again.
-/
import Derived.Test.YtjieklilojmifatBlkMk
namespace Go.Proofs.Ytjieklilojmifat
open Go.RowKit Num



set_option maxRecDepth 100000 in
set_option maxHeartbeats 4000000 in
theorem markBlocks_own (ps : TL) (k base hi : Nat) (v : Value) (w : World) (h : OwnT w base v ps) (hlim : LimT hi v ps) (hk : 0 < k) (hk2 : tnum k ps ≤ 10000000) (hl : (ps.length : Int) ≤ 10000000) (hn : ∀ p ∈ ps, p.1.2.1.length ≤ 1048576) :
    Calls Try.prog 70 #[v, .int .i64 k] w fun e w' => e = .returned (.int .i64 ((tnum k ps : Nat) : Int)) ∧ OwnT w' base v (tmarks k ps) ∧ Wn base hi w w' := by
  have HO : Hid (OwnT w base v ps) := h
  have HL : Hid (LimT hi v ps) := hlim
  have HN : Hid (∀ p ∈ ps, p.1.2.1.length ≤ 1048576) := hn
  obtain ⟨a, cap, rfl, hg⟩ := own_form h.row
  have HG : Hid (0 < ps.length → ∃ g, a = some ⟨g, 0, none⟩) := hg
  clear hg h hlim hn
  go_enter Try.func70, Try.ntmps70
  go_wp2
  go_loopw [1, 5] (fun q i wr => ∃ (m s : Nat), m ≤ ps.length ∧ q = .int .i64 (s : Int) ∧ 0 < s ∧ s ≤ 10000000 ∧ i = .int .i64 m ∧ Hid (s = tnum k (ps.take m)) ∧ Hid (OwnT wr base (.slice a ps.length cap) (mix k ps m)) ∧ Hid (LimT hi (.slice a ps.length cap) (mix k ps m)) ∧ Hid (Wn base hi w wr)) (fun _ i _ => ps.length - (intOf i).toNat)
  case atStart => exact ⟨0, k, Nat.zero_le _, rfl, hk, by have := tnum_le ps k; omega, rfl, rfl, (by rw [mix_zero]; exact HO.out : OwnT w base (.slice a ps.length cap) (mix k ps 0)), (by rw [mix_zero]; exact HL.out : LimT hi (.slice a ps.length cap) (mix k ps 0)), Wn.of_below (Below.refl _ _)⟩
  case round =>
    obtain ⟨m, s, hm, rfl, hs0, hs1, rfl, HS, HOW, HLW, HW⟩ := hrel
    by_cases hlt : (m : Int) < ps.length
    · have q0 : (0 : Int) ≤ (m : Int) := by omega
      have hmn : m < ps.length := by omega
      have hml := mix_len k ps hm
      have hmm : m < (mix k ps m).length := by omega
      have hat := mix_at k ps hmn
      have hn := HN.out _ (List.getElem_mem hmn)
      have hnx : s + 6 + 3 * ps[m].1.2.1.length ≤ 10000000 := by
        have h1 := tnum_take hmn k
        have h2 := tnum_take_le ps (m + 1) k
        have h3 := HS.out
        omega
      obtain ⟨g, rfl⟩ := HG.out (by omega)
      have hrow := HOW.out.row
      rw [hml] at hrow
      have hcm := HOW.out.cmds _ (List.getElem_mem hmm)
      obtain ⟨ac, cc, hcv, _⟩ := own_form hcm
      rw [hat] at hcv hcm
      have x2 : wr.cell? ⟨g, m * 7 + 2, none⟩ = some (.slice ac ps[m].1.2.1.length cc) := by
        rw [(own_cell hrow (m * 7 + 2) (by omega)).1, flatR_at blkF_len _ m hmm 2 (by omega), hat, ← hcv]; rfl
      obtain ⟨u0, u1, ⟨x0, f0⟩, ⟨x1, f1⟩, RA, GA⟩ := own_front hrow m hmn (.int .i64 (s : Int)) (.int .i64 ((s : Int) + 1))
      have y2 : ((wr.setCell ⟨g, m * 7, none⟩ (.int .i64 (s : Int))).setCell ⟨g, m * 7 + 1, none⟩ (.int .i64 ((s : Int) + 1))).cell? ⟨g, m * 7 + 2, none⟩ = some (.slice ac ps[m].1.2.1.length cc) := by
        rw [(own_cell RA (m * 7 + 2) (by omega)).1, List.getElem?_set_ne (by omega), List.getElem?_set_ne (by omega), ← (own_cell hrow (m * 7 + 2) (by omega)).1]; exact x2
      have HCA : Hid (World.ownsRow _ base 134 3 (.slice ac ps[m].1.2.1.length cc) ps[m].1.2.1.length (flatR cmdF ps[m].1.2.1)) := (by rw [← hcv]; exact World.ownsRow.kept hcm GA (own_kind hcm hrow ne_ids) : World.ownsRow _ base 134 3 (.slice ac ps[m].1.2.1.length cc) ps[m].1.2.1.length (flatR cmdF ps[m].1.2.1))
      have HRA : Hid (World.ownsRow _ base 128 7 (.slice (some ⟨g, 0, none⟩) ps.length cap) ps.length _) := RA
      have HGA : Hid (wr.grownBy _ (some g)) := GA
      have HCV : Hid (ps[m].2 = .slice ac ps[m].1.2.1.length cc) := hcv
      have HAT : Hid ((mix k ps m)[m] = ps[m]) := hat
      clear hcm hrow hat RA GA x2 hcv
      go_wp2_with fail
      have hmt := markCmds_own ps[m].1.2.1.length (s + 2) _ base _ _ HCA.out (by omega) (by omega) hn
      rw [show ((s + 2 : Nat) : Int) = (s : Int) + 1 + 1 by omega] at hmt
      obtain ⟨t, ht⟩ : ∃ t, t = s + 2 + 3 * ps[m].1.2.1.length := ⟨_, rfl⟩
      rw [← ht] at hmt
      refine hmt.mono ?_
      rintro e w1 ⟨rfl, hown1, hg1⟩
      have R1 := World.ownsRow.kept HRA.out hg1 (own_kind HRA.out HCA.out ne_ids.symm)
      have HR1 : Hid (World.ownsRow _ base 128 7 (.slice (some ⟨g, 0, none⟩) ps.length cap) ps.length _) := R1
      have HC1 : Hid (w1.ownsRow base 134 3 (.slice ac ps[m].1.2.1.length cc) ps[m].1.2.1.length (flatR cmdF (qmarks (s + 2) ps[m].1.2.1.length))) := hown1
      have HG1 : Hid (World.grownBy _ w1 (Value.slice ac ps[m].1.2.1.length cc).ownBlock) := hg1
      obtain ⟨u3, u4, u5, u6, ⟨x3, f3⟩, ⟨x4, f4⟩, ⟨x5, f5⟩, ⟨x6, f6⟩, RE, GE⟩ := own_back R1 m hmn (.int .i64 (t : Int)) (.int .i64 ((t : Int) + 1)) (.int .i64 ((t : Int) + 1 + 1)) (.int .i64 ((t : Int) + 1 + 1 + 1))
      have HRE : Hid (World.ownsRow _ base 128 7 (.slice (some ⟨g, 0, none⟩) ps.length cap) ps.length _) := RE
      have HGE : Hid (w1.grownBy _ (some g)) := GE
      have HT : Hid (t = s + 2 + 3 * ps[m].1.2.1.length) := ht
      have ht1 : t ≤ 10000000 := by omega
      clear hown1 hg1 R1 RE GE hmt ht x0 f0 x1 f1 y2
      go_wp2
      go_roundw
      case rel =>
        have h1 := HAT.out
        have hbm : bm (tnum k (ps.take m)) ps[m].1.2.1.length = (((s : Int), (s : Int) + 1), (qmarks (s + 2) ps[m].1.2.1.length, ((t : Int), (t : Int) + 1, (t : Int) + 1 + 1, (t : Int) + 1 + 1 + 1))) := by
          rw [← HS.out, show (t : Int) + 1 + 1 = (t : Int) + 2 by omega, show (t : Int) + 2 + 1 = (t : Int) + 3 by omega, HT.out]; rfl
        have hst := mix_step k ps hmn
        have hfl := flat_set hmm (bm (tnum k (ps.take m)) ps[m].1.2.1.length, ps[m].2) (by rw [h1])
        rw [hst] at hfl
        rw [hbm] at hfl hst
        have rowE := HRE.out
        simp only at hfl
        rw [hfl] at rowE
        have hE := OwnT.mark (b' := (((s : Int), (s : Int) + 1), (qmarks (s + 2) ps[m].1.2.1.length, ((t : Int), (t : Int) + 1, (t : Int) + 1 + 1, (t : Int) + 1 + 1 + 1)))) HOW.out hmm HGA.out (by rw [h1, HCV.out]; exact HG1.out) (by simp only [qmarks_len]; rw [h1, HCV.out]; exact HC1.out) HGE.out (by rw [h1, hst, hml]; exact rowE) HR1.out
        rw [h1, hst] at hE
        have hlim : LimT hi (.slice (some ⟨g, 0, none⟩) ps.length cap) (mix k ps (m + 1)) := by
          rw [← hst]
          refine ⟨HLW.out.1, fun p hp => ?_⟩
          rcases List.mem_or_eq_of_mem_set hp with hp | rfl
          · exact HLW.out.2 p hp
          · have := HLW.out.2 _ (List.getElem_mem hmm)
            rw [h1] at this
            exact this
        exact ⟨m + 1, t + 4, by omega, by go_num, by omega, by have := HT.out; omega, by go_num, (by rw [tnum_take hmn, ← HS.out, HT.out]; omega : t + 4 = tnum k (ps.take (m + 1))), hE, hlim, HW.out.trans (wn_mark HOW.out HLW.out hmm HGA.out (by rw [h1, HCV.out]; exact HG1.out) HGE.out)⟩
      case measure => simp [intOf]; omega
    · have hmn : m = ps.length := by omega
      have HM : Hid (m = ps.length) := hmn
      clear hmn
      go_wp2
      go_ret
      have h1 := HOW.out
      rw [HM.out, mix_all] at h1
      exact ⟨ret_int (by rw [HS.out, HM.out, List.take_length]), h1, HW.out⟩

set_option maxRecDepth 100000 in
set_option maxHeartbeats 4000000 in
theorem heldBlocks_any (ps : TL) (k : Nat) (v : Value) (w : World) (h : TreeQ w v (tmarks k ps)) (hk : 0 < k) (hk2 : tnum k ps ≤ 10000000) (hl : (ps.length : Int) ≤ 10000000) (hn : ∀ p ∈ ps, p.1.2.1.length ≤ 1048576) :
    Calls Try.prog 73 #[v, .int .i64 k] w fun e w' => e = .returned (.int .i64 ((tnum k ps : Nat) : Int)) ∧ Below w.heap.size w w' := by
  have HQ : Hid (TreeQ w v (tmarks k ps)) := h
  have HN : Hid (∀ p ∈ ps, p.1.2.1.length ≤ 1048576) := hn
  have htl := tmarks_len ps k
  obtain ⟨a, cap, rfl, hr⟩ := treeq_cells h
  have HR : Hid (0 < (tmarks k ps).length → _) := hr
  rw [htl]
  clear hr h hn
  go_enter Try.func73, Try.ntmps73
  go_wp2
  go_loopw [1, 5] (fun q i wr => ∃ (m s : Nat), m ≤ ps.length ∧ q = .int .i64 (s : Int) ∧ 0 < s ∧ s ≤ 10000000 ∧ i = .int .i64 m ∧ Hid (s = tnum k (ps.take m)) ∧ Below w.heap.size w wr) (fun _ i _ => ps.length - (intOf i).toNat)
  case atStart => exact ⟨0, k, Nat.zero_le _, rfl, hk, by have := tnum_le ps k; omega, rfl, rfl, Below.refl _ _⟩
  case round =>
    obtain ⟨m, s, hm, rfl, hs0, hs1, rfl, HS, hbel⟩ := hrel
    by_cases hlt : (m : Int) < ps.length
    · have q0 : (0 : Int) ≤ (m : Int) := by omega
      have hmn : m < ps.length := by omega
      have hmt : m < (tmarks k ps).length := by omega
      have hn := HN.out _ (List.getElem_mem hmn)
      have hnx : s + 6 + 3 * ps[m].1.2.1.length ≤ 10000000 := by
        have h1 := tnum_take hmn k
        have h2 := tnum_take_le ps (m + 1) k
        have h3 := HS.out
        omega
      obtain ⟨g, off, rfl, hg, hc⟩ := HR.out (by omega)
      have HC : Hid (∀ i (hi : i < (tmarks k ps).length), _) := hc
      obtain ⟨t, ht⟩ : ∃ t, t = s + 2 + 3 * ps[m].1.2.1.length := ⟨_, rfl⟩
      have HT : Hid (t = s + 2 + 3 * ps[m].1.2.1.length) := ht
      have ht1 : t ≤ 10000000 := by omega
      have HB : Hid ((tmarks k ps)[m] = ((((s : Int), (s : Int) + 1), (qmarks (s + 2) ps[m].1.2.1.length, ((t : Int), (t : Int) + 1, (t : Int) + 2, (t : Int) + 3))), ps[m].2)) := (by rw [tmarks_at hmn, ← HS.out, HT.out]; rfl : (tmarks k ps)[m] = ((((s : Int), (s : Int) + 1), (qmarks (s + 2) ps[m].1.2.1.length, ((t : Int), (t : Int) + 1, (t : Int) + 2, (t : Int) + 3))), ps[m].2))
      have c0 : wr.cell? ⟨g, off + m * 7, none⟩ = some (.int .i64 (s : Int)) := by rw [hbel.cell (by exact hg)]; have := (hc m (by omega)).1; rw [HB.out] at this; exact this
      have c1 : wr.cell? ⟨g, off + m * 7 + 1, none⟩ = some (.int .i64 ((s : Int) + 1)) := by rw [hbel.cell (by exact hg)]; have := (hc m (by omega)).2.1; rw [HB.out] at this; exact this
      have c2 : wr.cell? ⟨g, off + m * 7 + 2, none⟩ = some ps[m].2 := by rw [hbel.cell (by exact hg)]; have := (hc m (by omega)).2.2.1; rw [HB.out] at this; exact this
      have hrow := HQ.out.2 _ (List.getElem_mem hmt)
      rw [HB.out] at hrow
      simp only at hrow
      have hcall := heldCmds_any ps[m].1.2.1.length (s + 2) ps[m].2 wr (hrow.below hbel) (by omega) (by omega) hn
      rw [show ((s + 2 : Nat) : Int) = (s : Int) + 1 + 1 by omega, ← ht] at hcall
      have HCL : Hid (Calls Try.prog 75 #[ps[m].2, .int .i64 ((s : Int) + 1 + 1)] wr fun e w' => e = .returned (.int .i64 (t : Int)) ∧ Below wr.heap.size wr w') := hcall
      clear hc ht hrow hcall
      go_wp2_with fail
      refine HCL.out.mono ?_
      rintro e w1 ⟨rfl, hb1⟩
      have B1 : Below w.heap.size w w1 := bt hbel hb1
      have c3 : w1.cell? ⟨g, off + m * 7 + 3, none⟩ = some (.int .i64 (t : Int)) := by rw [B1.cell (by exact hg)]; have := (HC.out m (by omega)).2.2.2.1; rw [HB.out] at this; exact this
      have c4 : w1.cell? ⟨g, off + m * 7 + 4, none⟩ = some (.int .i64 ((t : Int) + 1)) := by rw [B1.cell (by exact hg)]; have := (HC.out m (by omega)).2.2.2.2.1; rw [HB.out] at this; exact this
      have c5 : w1.cell? ⟨g, off + m * 7 + 5, none⟩ = some (.int .i64 ((t : Int) + 2)) := by rw [B1.cell (by exact hg)]; have := (HC.out m (by omega)).2.2.2.2.2.1; rw [HB.out] at this; exact this
      have c6 : w1.cell? ⟨g, off + m * 7 + 6, none⟩ = some (.int .i64 ((t : Int) + 3)) := by rw [B1.cell (by exact hg)]; have := (HC.out m (by omega)).2.2.2.2.2.2; rw [HB.out] at this; exact this
      clear hb1 c0 c1 c2
      go_wp2
      go_roundw
      case rel => exact ⟨m + 1, t + 4, by omega, by go_num, by omega, by have := HT.out; omega, by go_num, (by rw [tnum_take hmn, ← HS.out, HT.out]; omega : t + 4 = tnum k (ps.take (m + 1))), B1⟩
      case measure => simp [intOf]; omega
    · have hmn : m = ps.length := by omega
      have HM : Hid (m = ps.length) := hmn
      clear hmn
      go_wp2
      go_ret
      exact ⟨ret_int (by rw [HS.out, HM.out, List.take_length]), hbel⟩

end Go.Proofs.Ytjieklilojmifat
