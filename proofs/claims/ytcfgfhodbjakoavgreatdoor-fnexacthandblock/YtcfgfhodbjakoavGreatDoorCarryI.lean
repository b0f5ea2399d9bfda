/-
  The contracts of the program's methods on blocks behind pointers, and of standingOf.
-/
import Derived.Test.YtcfgfhodbjakoavGreatDoorStandI
import Derived.Test.YtcfgfhodbjakoavGreatDoorJ2
namespace Go.Proofs.YtcfgfhodbjakoavGreatDoor
open Go.RowKit Num

set_option maxRecDepth 100000 in
set_option maxHeartbeats 2000000 in
theorem parentNo_i (L : SL) (v : Value) (b : BK) (cv : Value) (g off : Nat) (w : World) (hS : Stand w v L) (hB : AtB w g off (b, cv)) (hp : inB b.1.1 0 ((L.length : Int) - 1) = false) :
    Calls Tryz.prog 150 #[v, .pointer (some ⟨g, off, none⟩)] w fun e w' => e = .returned (.pointer none) ∧ w' = w := by
  obtain ⟨a, cap, rfl, _, hr⟩ := stand_cells hS
  have c0 := hB.seven.1
  simp only at c0
  have hn := inB_not hp
  clear hr hS hB hp
  by_cases h0 : b.1.1 < 0
  · clear hn
    go_enter Tryz.func150, Tryz.ntmps150
    go_wp2
    go_ret
    exact ⟨rfl, rfl⟩
  · have h1 : (L.length : Int) ≤ b.1.1 := by omega
    clear hn
    go_enter Tryz.func150, Tryz.ntmps150
    go_wp2
    go_ret
    exact ⟨rfl, rfl⟩

set_option maxRecDepth 100000 in
set_option maxHeartbeats 2000000 in
theorem parent_i (L : SL) (v : Value) (b : BK) (cv : Value) (g off j : Nat) (w : World) (hS : Stand w v L) (hB : AtB w g off (b, cv)) (hl : (L.length : Int) ≤ 1048576) (hp : b.1.1 = (j : Int)) (hj : j < L.length) :
    Calls Tryz.prog 150 #[v, .pointer (some ⟨g, off, none⟩)] w fun e w' => e = .returned (.pointer (some ⟨L[j].1.1, L[j].1.2, none⟩)) ∧ w' = w := by
  obtain ⟨a, cap, rfl, _, hr⟩ := stand_cells hS
  have c0 := hB.seven.1
  simp only at c0
  rw [hp] at c0
  obtain ⟨gs, os, rfl, hgs, hc⟩ := hr (by omega)
  have c1 := (hc j hj).1
  have q0 : (0 : Int) ≤ (j : Int) := by omega
  have q1 : (j : Int) < (L.length : Int) := by omega
  clear hr hS hB hp hc
  go_enter Tryz.func150, Tryz.ntmps150
  go_wp2
  go_ret
  exact ⟨rfl, rfl⟩

set_option maxRecDepth 100000 in
set_option maxHeartbeats 8000000 in
theorem carry_i (L : SL) (v : Value) (b : BK) (cv : Value) (g off : Nat) (w : World) (hS : Stand w v L) (hB : AtB w g off (b, cv)) (hl : (L.length : Int) ≤ 1048576) (hk : okB b) :
    Calls Tryz.prog 124 #[v, .pointer (some ⟨g, off, none⟩)] w fun e w' => e = .returned (.bool (blockB (sks L) b)) ∧ Below w.heap.size w w' := by
  have hne := bw_some w
  cases hp : inB b.1.1 0 ((L.length : Int) - 1) with
  | false =>
    have HE : Hid (blockB (sks L) b = false) := blockB_par (by rw [sks_len]; exact hp)
    have HP : Hid (Calls Tryz.prog 150 #[v, .pointer (some ⟨g, off, none⟩)] w fun e w' => e = .returned (.pointer none) ∧ w' = w) := parentNo_i L v b cv g off w hS hB hp
    clear hp hS hB
    go_enter Tryz.func124, Tryz.ntmps124
    go_wp2_with fail
    refine HP.out.mono ?_
    rintro e w1 ⟨rfl, rfl⟩
    go_wp2
    refine wp_region_bw (by kernel_rfl) (by kernel_rfl) ?_
    repeat (go_big_quiet_step (fail))
    refine wpQuiet_nil ?_
    intro _ hw'
    obtain ⟨x, rfl⟩ := hw'
    go_wp2
    go_ret
    exact ⟨ret_bool HE.out.symm, x.below⟩
  | true =>
    obtain ⟨p0, p1⟩ := inB_eq hp
    obtain ⟨j, hj0⟩ := Int.eq_ofNat_of_zero_le p0
    have hj : j < L.length := by omega
    have HE : Hid (blockB (sks L) b = (decide (L[j].2.1.1.2 < b.1.2) && (decide (b.1.2 ≤ 900) && (cmdsB b.2.1 && (decide (b.2.2.2.2.1 = b.1.1) && decide (b.2.2.2.1 = L[j].2.1.1.2)))))) := (by
      rw [blockB_par' hj0 (by rw [sks_len]; exact hj), sks_at hj] : blockB (sks L) b = (decide (L[j].2.1.1.2 < b.1.2) && (decide (b.1.2 ≤ 900) && (cmdsB b.2.1 && (decide (b.2.2.2.2.1 = b.1.1) && decide (b.2.2.2.1 = L[j].2.1.1.2))))))
    have HP : Hid (Calls Tryz.prog 150 #[v, .pointer (some ⟨g, off, none⟩)] w fun e w' => e = .returned (.pointer (some ⟨L[j].1.1, L[j].1.2, none⟩)) ∧ w' = w) := parent_i L v b cv g off j w hS hB hl hj0 hj
    have hP := hS.blk _ (List.getElem_mem hj)
    have c0 : ∀ x : Bw w, x.to.cell? ⟨g, off, none⟩ = some (.int .i64 b.1.1) := fun x => (hB.below x.below).seven.1
    have c1 : ∀ x : Bw w, x.to.cell? ⟨g, off + 1, none⟩ = some (.int .i64 b.1.2) := fun x => (hB.below x.below).seven.2.1
    have c2 : ∀ x : Bw w, x.to.cell? ⟨g, off + 2, none⟩ = some cv := fun x => (hB.below x.below).seven.2.2.1
    have c4 : ∀ x : Bw w, x.to.cell? ⟨g, off + 4, none⟩ = some (.int .i64 b.2.2.2.1) := fun x => (hB.below x.below).seven.2.2.2.2.1
    have c5 : ∀ x : Bw w, x.to.cell? ⟨g, off + 5, none⟩ = some (.int .i64 b.2.2.2.2.1) := fun x => (hB.below x.below).seven.2.2.2.2.2.1
    have d1 : ∀ x : Bw w, x.to.cell? ⟨L[j].1.1, L[j].1.2 + 1, none⟩ = some (.int .i64 L[j].2.1.1.2) := fun x => (hP.below x.below).seven.2.1
    have HQ : Hid (∀ x : Bw w, Calls Tryz.prog 151 #[cv] x.to fun e w' => e = .returned (.bool (cmdsB b.2.1)) ∧ Below x.to.heap.size x.to w') := fun x => cmdsOk_i b.2.1 cv x.to (hB.below x.below).cmds hk.1 hk.2
    obtain ⟨xb, nb, eb⟩ := rows_form hB.cmds
    simp only at eb
    subst eb
    clear hp hS hB hP p0 p1 hj0 hk
    by_cases h1 : L[j].2.1.1.2 < b.1.2
    · rw [decide_eq_true h1, Bool.true_and] at HE
      by_cases h2 : b.1.2 ≤ 900
      · rw [decide_eq_true h2, Bool.true_and] at HE
        cases h3 : cmdsB b.2.1 with
        | true =>
          rw [h3] at HQ
          rw [h3, Bool.true_and] at HE
          by_cases h4 : b.2.2.2.2.1 = b.1.1
          · have h4' : (b.2.2.2.2.1 == b.1.1) = true := by simp [h4]
            rw [decide_eq_true h4, Bool.true_and] at HE
            clear h3 h4
            go_enter Tryz.func124, Tryz.ntmps124
            go_wp2_with fail
            refine HP.out.mono ?_
            rintro e w1 ⟨rfl, rfl⟩
            go_wp2
            refine wp_region_bw (by kernel_rfl) (by kernel_rfl) ?_
            repeat (go_big_quiet_step (refine calls_bw (HQ.out _)))
            refine wpQuiet_nil ?_
            intro _ hw'
            obtain ⟨x, rfl⟩ := hw'
            go_wp2
            go_ret
            exact ⟨ret_bool (by rw [HE.out]; rfl), x.below⟩
          · have h4' : (b.2.2.2.2.1 == b.1.1) = false := by simpa using h4
            rw [decide_eq_false h4, Bool.false_and] at HE
            clear h3 h4
            go_enter Tryz.func124, Tryz.ntmps124
            go_wp2_with fail
            refine HP.out.mono ?_
            rintro e w1 ⟨rfl, rfl⟩
            go_wp2
            refine wp_region_bw (by kernel_rfl) (by kernel_rfl) ?_
            repeat (go_big_quiet_step (refine calls_bw (HQ.out _)))
            refine wpQuiet_nil ?_
            intro _ hw'
            obtain ⟨x, rfl⟩ := hw'
            go_wp2
            go_ret
            exact ⟨ret_bool HE.out.symm, x.below⟩
        | false =>
          rw [h3] at HQ
          rw [h3, Bool.false_and] at HE
          clear h3
          go_enter Tryz.func124, Tryz.ntmps124
          go_wp2_with fail
          refine HP.out.mono ?_
          rintro e w1 ⟨rfl, rfl⟩
          go_wp2
          refine wp_region_bw (by kernel_rfl) (by kernel_rfl) ?_
          repeat (go_big_quiet_step (refine calls_bw (HQ.out _)))
          refine wpQuiet_nil ?_
          intro _ hw'
          obtain ⟨x, rfl⟩ := hw'
          go_wp2
          go_ret
          exact ⟨ret_bool HE.out.symm, x.below⟩
      · rw [decide_eq_false h2, Bool.false_and] at HE
        have d2 : decide (b.1.2 ≤ 900) = false := decide_eq_false h2
        clear h2
        go_enter Tryz.func124, Tryz.ntmps124
        go_wp2_with fail
        refine HP.out.mono ?_
        rintro e w1 ⟨rfl, rfl⟩
        go_wp2
        refine wp_region_bw (by kernel_rfl) (by kernel_rfl) ?_
        repeat (go_big_quiet_step (fail))
        refine wpQuiet_nil ?_
        intro _ hw'
        obtain ⟨x, rfl⟩ := hw'
        go_wp2
        go_ret
        exact ⟨ret_bool HE.out.symm, x.below⟩
    · rw [decide_eq_false h1, Bool.false_and] at HE
      have d2 : decide (L[j].2.1.1.2 < b.1.2) = false := decide_eq_false h1
      clear h1
      go_enter Tryz.func124, Tryz.ntmps124
      go_wp2_with fail
      refine HP.out.mono ?_
      rintro e w1 ⟨rfl, rfl⟩
      go_wp2
      refine wp_region_bw (by kernel_rfl) (by kernel_rfl) ?_
      repeat (go_big_quiet_step (fail))
      refine wpQuiet_nil ?_
      intro _ hw'
      obtain ⟨x, rfl⟩ := hw'
      go_wp2
      go_ret
      exact ⟨ret_bool HE.out.symm, x.below⟩

set_option maxRecDepth 100000 in
set_option maxHeartbeats 2000000 in
theorem place_i (L : SL) (v : Value) (b : BK) (cv : Value) (g off : Nat) (w : World) (hS : Stand w v L) (hB : AtB w g off (b, cv)) (hl : (L.length : Int) ≤ 1048576) (hk : ∀ x ∈ L, okB x.2.1) (hkb : okB b) :
    Calls Tryz.prog 100 #[v, .pointer (some ⟨g, off, none⟩)] w fun e w' => e = .returned (.int .i64 (blockAt (sks L) b)) ∧ Below w.heap.size w w' := by
  obtain ⟨a, cap, rfl, _, hr⟩ := stand_cells hS
  have HR : Hid (0 < L.length → _) := hr
  have HB : Hid (AtB w g off (b, cv)) := hB
  have HK : Hid (∀ x ∈ L, okB x.2.1) := hk
  have HKB : Hid (okB b) := hkb
  have hsl := sks_len L
  clear hr hS hB hk hkb
  go_enter Tryz.func100, Tryz.ntmps100
  go_wp2
  go_loopw [9] (fun i wr => ∃ k : Nat, k ≤ L.length ∧ i = .int .i64 (k : Int) ∧ Hid (blockAt (sks L) b = blockAtFrom b ((sks L).drop k) k) ∧ Below w.heap.size w wr) (fun i _ => L.length - (intOf i).toNat)
  case atStart => exact ⟨0, Nat.zero_le _, rfl, rfl, Below.refl _ _⟩
  case round =>
    obtain ⟨k, hk, rfl, HS, hbel⟩ := hrel
    by_cases hlt : (k : Int) < L.length
    · have hkn : k < L.length := by omega
      have q0 : (0 : Int) ≤ (k : Int) := by omega
      obtain ⟨gs, os, rfl, hgs, hc⟩ := HR.out (by omega)
      have c0 : wr.cell? ⟨gs, os + k, none⟩ = some (.pointer (some ⟨L[k].1.1, L[k].1.2, none⟩)) := by rw [hbel.cell (by exact hgs)]; exact (hc k hkn).1
      have HQ : Hid (Calls Tryz.prog 126 #[.pointer (some ⟨L[k].1.1, L[k].1.2, none⟩), .pointer (some ⟨g, off, none⟩)] wr fun e w' => e = .returned (.bool (decide (L[k].2.1 = b))) ∧ Below wr.heap.size wr w') := alike_i L[k].2.1 b L[k].2.2 cv _ _ _ _ wr ((hc k hkn).2.below hbel) (HB.out.below hbel) (HK.out _ (List.getElem_mem hkn)).1 HKB.out.1
      have HD : Hid (blockAtFrom b ((sks L).drop k) k = if L[k].2.1 = b then (k : Int) else blockAtFrom b ((sks L).drop (k + 1)) (k + 1)) := (by rw [blockAt_drop (sks L) b k (by rw [hsl]; exact hkn), sks_at hkn] : blockAtFrom b ((sks L).drop k) k = if L[k].2.1 = b then (k : Int) else blockAtFrom b ((sks L).drop (k + 1)) (k + 1))
      clear hc
      by_cases he : L[k].2.1 = b
      · have HF : Hid (blockAt (sks L) b = (k : Int)) := (by rw [HS.out, HD.out, if_pos he] : blockAt (sks L) b = (k : Int))
        rw [decide_eq_true he] at HQ
        clear he HD
        go_wp2_with fail
        refine HQ.out.mono ?_
        rintro e w' ⟨rfl, hb'⟩
        go_wp2
        go_ret
        exact ⟨ret_int HF.out.symm, bt hbel hb'⟩
      · have HF : Hid (blockAt (sks L) b = blockAtFrom b ((sks L).drop (k + 1)) (k + 1)) := (by rw [HS.out, HD.out, if_neg he] : blockAt (sks L) b = blockAtFrom b ((sks L).drop (k + 1)) (k + 1))
        rw [decide_eq_false he] at HQ
        clear he HD
        go_wp2_with fail
        refine HQ.out.mono ?_
        rintro e w' ⟨rfl, hb'⟩
        go_wp2
        go_roundw
        case rel => exact ⟨k + 1, by omega, by go_num, HF, bt hbel hb'⟩
        case measure => simp [intOf]; omega
    · have hkl : k = L.length := by omega
      have HF : Hid (blockAt (sks L) b = -1) := (by rw [HS.out, hkl, List.drop_eq_nil_of_le (by rw [hsl]; exact Nat.le_refl _)]; rfl : blockAt (sks L) b = -1)
      clear hkl
      go_wp2
      go_ret
      exact ⟨ret_int HF.out.symm, hbel⟩

theorem infoPtr : (Tryz.prog.info? 153).map (fun i => (i.zero, i.size, i.bytes)) = some (some (.pointer none), 1, 8) := by kernel_rfl

/-- where the blocks of a tree lie -/
def ptrs (g off : Nat) : TL → Nat → SL
  | [], _ => []
  | p :: ps, i => ((g, off + i * 7), p) :: ptrs g off ps (i + 1)
theorem ptrs_len (g off : Nat) : ∀ (ps : TL) (i : Nat), (ptrs g off ps i).length = ps.length
  | [], _ => rfl
  | p :: ps, i => by simp [ptrs, ptrs_len g off ps (i + 1)]
theorem ptrs_at (g off : Nat) : ∀ (ps : TL) (i k : Nat) (h : k < ps.length), (ptrs g off ps i)[k]'(by rw [ptrs_len]; exact h) = ((g, off + (i + k) * 7), ps[k])
  | [], _, _, h => by simp at h
  | p :: ps, i, 0, _ => rfl
  | p :: ps, i, k + 1, h => by
    have := ptrs_at g off ps (i + 1) k (by simpa using h)
    simp only [ptrs, List.getElem_cons_succ, this]
    rw [show i + 1 + k = i + (k + 1) by omega]
theorem ptrs_snd (g off : Nat) : ∀ (ps : TL) (i : Nat), (ptrs g off ps i).map (fun x => x.2) = ps
  | [], _ => rfl
  | p :: ps, i => by simp [ptrs, ptrs_snd g off ps (i + 1)]

set_option maxRecDepth 100000 in
set_option maxHeartbeats 2000000 in
theorem standing_i (ps : TL) (v : Value) (w : World) (hT : TreeR w v ps) (hl : (ps.length : Int) ≤ 1048576) :
    Calls Tryz.prog 99 #[v] w fun e w' => ∃ v' L, e = .returned v' ∧ L.map (fun x => x.2) = ps ∧ w'.ownsRow w.heap.size 153 1 v' L.length (flatR ptrF L) ∧ AtAll w L ∧ Below w.heap.size w w' := by
  have HT : Hid (TreeR w v ps) := hT
  obtain ⟨a, cap, rfl, _, hr⟩ := tree_cells hT
  obtain ⟨g, off, HG⟩ : ∃ g off, Hid (0 < ps.length → a = some ⟨g, off, none⟩) := by
    by_cases h0 : 0 < ps.length
    · obtain ⟨g, off, e, _⟩ := hr h0
      exact ⟨g, off, fun _ => e⟩
    · exact ⟨0, 0, fun h => absurd h h0⟩
  have HL : Hid (∀ w', Below w.heap.size w w' → AtAll w' (ptrs g off ps 0)) := fun w' hb x hx => by
    obtain ⟨k, hk, rfl⟩ := List.mem_iff_getElem.1 hx
    rw [ptrs_len] at hk
    rw [ptrs_at g off ps 0 k hk]
    have e := HG.out (by omega)
    subst e
    have := (atB_tree HT.out hk).below hb
    rw [Nat.zero_add]
    exact this
  obtain ⟨i0, hi, hz0, hz1, hz2⟩ := info_parts infoPtr
  have hpl := ptrs_len g off ps 0
  clear hr hT
  go_enter Tryz.func99, Tryz.ntmps99
  go_wp2_with (at_make; refine wpList_make_full _ rfl _ _ 150 rfl w.heap.size 153 i0 _ 1 Tryz.underlying150 hi hz0 hz1 _ _ _ _ ps.length rfl rfl rfl rfl (by rw [hz2]; omega) (by unfold maxLen; omega) (Nat.le_refl _) ?_; intro w0 hown0 hgrow0)
  have B0 : Below w.heap.size w w0 := (Below.refl _ _).grown hgrow0 (Nat.le_refl _) (fun k h => by cases h)
  have HO0 : Hid (w0.ownsRow w.heap.size 153 1 (.slice (some ⟨w.heap.size, 0, none⟩) ps.length ps.length) ps.length _) := hown0
  have HB0 : Hid (Below w.heap.size w w0) := B0
  clear hown0 hgrow0 B0
  go_loopw [10] (fun i wr => ∃ (k : Nat) (ys : List Value), k ≤ ps.length ∧ i = .int .i64 (k : Int) ∧ Hid (upToR ptrF 1 (ptrs g off ps 0) ys k) ∧ wr.ownsRow w.heap.size 153 1 (.slice (some ⟨w.heap.size, 0, none⟩) ps.length ps.length) ps.length ys ∧ Below w.heap.size w wr) (fun i _ => ps.length - (intOf i).toNat)
  case atStart => exact ⟨0, _, Nat.zero_le _, rfl, upToR_zero (by rw [HO0.out.1, hpl]), HO0.out, HB0.out⟩
  case round =>
    obtain ⟨k, ys, hk, rfl, HY, hown, hbel⟩ := hrel
    have HO : Hid (wr.ownsRow w.heap.size 153 1 (.slice (some ⟨w.heap.size, 0, none⟩) ps.length ps.length) ps.length ys) := hown
    have HB : Hid (Below w.heap.size w wr) := hbel
    clear hown hbel
    by_cases hlt : (k : Int) < ps.length
    · have hkn : k < ps.length := by omega
      have q0 : (0 : Int) ≤ (k : Int) := by omega
      have hyl := HO.out.1
      obtain ⟨x0, f0⟩ := own_cell HO.out k (by omega)
      rw [List.getElem?_eq_getElem (by omega)] at x0
      obtain ⟨u0, hu0⟩ : ∃ u0, u0 = ys[k]'(by omega) := ⟨_, rfl⟩
      rw [← hu0] at x0
      clear hu0
      have e := HG.out (by omega)
      subst e
      have st := HO.out.stored k (.pointer (some ⟨g, off + k * 7, none⟩))
      have HS1 : Hid ((wr.setCell ⟨w.heap.size, k, none⟩ (.pointer (some ⟨g, off + k * 7, none⟩))).ownsRow w.heap.size 153 1 (.slice (some ⟨w.heap.size, 0, none⟩) ps.length ps.length) ps.length (ys.set k (.pointer (some ⟨g, off + k * 7, none⟩)))) := st.1
      have HS2 : Hid (Below w.heap.size w (wr.setCell ⟨w.heap.size, k, none⟩ (.pointer (some ⟨g, off + k * 7, none⟩)))) := HB.out.grown st.2 HB.out.size (fun x hx => by simp at hx; omega)
      have HS3 : Hid (upToR ptrF 1 (ptrs g off ps 0) (ys.set k (.pointer (some ⟨g, off + k * 7, none⟩))) (k + 1)) := upToR_step ptrF_len HY.out (by omega) (by simp) (fun j hj => by rw [List.getElem?_set_ne (by omega)]) (fun j hj => by
        have : j = 0 := by omega
        subst this
        rw [Nat.mul_one, Nat.add_zero, List.getElem?_set_self (by omega), ptrs_at g off ps 0 k hkn]
        simp [ptrF])
      clear st hyl
      go_wp2
      go_roundw
      case rel => exact ⟨k + 1, _, by omega, by go_num, HS3, HS1.out, HS2.out⟩
      case measure => simp [intOf]; omega
    · have hkl : k = ps.length := by omega
      have HK : Hid (k = ps.length) := hkl
      clear hkl
      go_wp2
      go_ret
      have hy := HY.out
      rw [HK.out, ← hpl] at hy
      have ho := HO.out
      rw [upToR_all ptrF_len hy] at ho
      exact ⟨_, rfl, ptrs g off ps 0, ptrs_snd g off ps 0, by rw [hpl]; exact ho, HL.out _ (Below.refl _ _), HB.out⟩

end Go.Proofs.YtcfgfhodbjakoavGreatDoor
