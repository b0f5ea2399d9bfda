/-
  The contracts of the program's helpers on blocks behind pointers.
-/
import Derived.Test.YtcfgfhodbjakoavGreatDoorPtrX
import Derived.BigQuiet
namespace Go.Proofs.YtcfgfhodbjakoavGreatDoor
open Go.RowKit Num

set_option maxRecDepth 100000 in
set_option maxHeartbeats 4000000 in
theorem equal_i (l l' : List CM) (ca cb : Value) (w : World) (ha : RowsR w ca 3 cmdF l) (hb : RowsR w cb 3 cmdF l') (hla : (l.length : Int) ≤ 1048576) (hlb : (l'.length : Int) ≤ 1048576) :
    Calls Tryz.prog 153 #[ca, cb] w fun e w' => e = .returned (.bool (decide (l = l'))) ∧ Below w.heap.size w w' := by
  obtain ⟨aa, na, rfl, hra⟩ := ha
  obtain ⟨ab, nb, rfl, hrb⟩ := hb
  have HA : Hid (0 < l.length → _) := hra
  have HB : Hid (0 < l'.length → _) := hrb
  clear hra hrb
  by_cases h4 : l.length = l'.length
  · have h4' : ((l.length : Int) != (l'.length : Int)) = false := by simp [h4]
    have HE : Hid (l.length = l'.length) := h4
    clear h4
    go_enter Tryz.func153, Tryz.ntmps153
    go_wp2
    clear h4'
    go_loopw [13] (fun i wr => ∃ k : Nat, k ≤ l.length ∧ i = .int .i64 (k : Int) ∧ Hid (sameTo l l' k) ∧ Below w.heap.size w wr) (fun i _ => l.length - (intOf i).toNat)
    case atStart => exact ⟨0, Nat.zero_le _, rfl, fun j _ _ h => by omega, Below.refl _ _⟩
    case round =>
      obtain ⟨k, hk, rfl, HS, hbel⟩ := hrel
      by_cases hlt : (k : Int) < l.length
      · have hkn : k < l.length := by omega
        have hkb : k < l'.length := by rw [← HE.out]; exact hkn
        have q0 : (0 : Int) ≤ (k : Int) := by omega
        have q1 : (k : Int) < l'.length := by omega
        obtain ⟨ga, oa, rfl, hga, hca⟩ := HA.out (by omega)
        obtain ⟨gb, ob, rfl, hgb, hcb⟩ := HB.out (by omega)
        have hne := bw_some wr
        have BB : ∀ x : Bw wr, Below w.heap.size w x.to := fun x => bt hbel x.below
        have c0 : ∀ x : Bw wr, x.to.cell? ⟨ga, oa + k * 3, none⟩ = some (.int .i64 l[k].1) := fun x => by rw [(BB x).cell (by exact hga)]; exact hca k hkn 0 (by omega)
        have c1 : ∀ x : Bw wr, x.to.cell? ⟨ga, oa + k * 3 + 1, none⟩ = some (.string l[k].2.1) := fun x => by rw [(BB x).cell (by exact hga)]; exact hca k hkn 1 (by omega)
        have c2 : ∀ x : Bw wr, x.to.cell? ⟨ga, oa + k * 3 + 2, none⟩ = some (.int .i64 l[k].2.2) := fun x => by rw [(BB x).cell (by exact hga)]; exact hca k hkn 2 (by omega)
        have d0 : ∀ x : Bw wr, x.to.cell? ⟨gb, ob + k * 3, none⟩ = some (.int .i64 l'[k].1) := fun x => by rw [(BB x).cell (by exact hgb)]; exact hcb k hkb 0 (by omega)
        have d1 : ∀ x : Bw wr, x.to.cell? ⟨gb, ob + k * 3 + 1, none⟩ = some (.string l'[k].2.1) := fun x => by rw [(BB x).cell (by exact hgb)]; exact hcb k hkb 1 (by omega)
        have d2 : ∀ x : Bw wr, x.to.cell? ⟨gb, ob + k * 3 + 2, none⟩ = some (.int .i64 l'[k].2.2) := fun x => by rw [(BB x).cell (by exact hgb)]; exact hcb k hkb 2 (by omega)
        have E3 := eqM l[k] l'[k]
        have E4 := guardM
        clear hca hcb BB
        by_cases he : l[k] = l'[k]
        · rw [decide_eq_true he] at E3
          have HT : Hid (sameTo l l' (k + 1)) := sameTo_next HS.out hkn hkb he
          clear he
          go_wp2
          refine wp_region_bw (by kernel_rfl) (by kernel_rfl) ?_
          repeat (go_big_quiet_step (fail))
          refine wpQuiet_nil ?_
          intro _ hw'
          obtain ⟨x, rfl⟩ := hw'
          go_wp2
          go_roundw
          case rel => exact ⟨k + 1, by omega, by go_num, HT, bt hbel x.below⟩
          case measure => simp [intOf]; omega
        · rw [decide_eq_false he] at E3
          have HT : Hid (decide (l = l') = false) := (decide_eq_false fun e => he (by simp only [e]) : decide (l = l') = false)
          clear he
          go_wp2
          refine wp_region_bw (by kernel_rfl) (by kernel_rfl) ?_
          repeat (go_big_quiet_step (fail))
          refine wpQuiet_nil ?_
          intro _ hw'
          obtain ⟨x, rfl⟩ := hw'
          go_wp2
          go_ret
          exact ⟨ret_bool HT.out.symm, bt hbel x.below⟩
      · have hkl : k = l.length := by omega
        have HT : Hid (decide (l = l') = true) := (decide_eq_true (sameTo_all HE.out (by have := HS.out; rw [hkl] at this; exact this)) : decide (l = l') = true)
        clear hkl
        go_wp2
        go_ret
        exact ⟨ret_bool HT.out.symm, hbel⟩
  · have h4' : ((l.length : Int) != (l'.length : Int)) = true := by simpa using fun e : (l.length : Int) = l'.length => h4 (by omega)
    have HT : Hid (decide (l = l') = false) := (decide_eq_false fun e => h4 (by rw [e]) : decide (l = l') = false)
    clear h4
    go_enter Tryz.func153, Tryz.ntmps153
    go_wp2
    go_ret
    exact ⟨ret_bool HT.out.symm, Below.refl _ _⟩

set_option maxRecDepth 100000 in
set_option maxHeartbeats 4000000 in
theorem alike_i (a b : BK) (ca cb : Value) (ga oa gb ob : Nat) (w : World) (ha : AtB w ga oa (a, ca)) (hb : AtB w gb ob (b, cb)) (hla : (a.2.1.length : Int) ≤ 1048576) (hlb : (b.2.1.length : Int) ≤ 1048576) :
    Calls Tryz.prog 126 #[.pointer (some ⟨ga, oa, none⟩), .pointer (some ⟨gb, ob, none⟩)] w fun e w' => e = .returned (.bool (decide (a = b))) ∧ Below w.heap.size w w' := by
  have hne := bw_some w
  have c0 : ∀ x : Bw w, x.to.cell? ⟨ga, oa, none⟩ = some (.int .i64 a.1.1) := fun x => (ha.below x.below).seven.1
  have c1 : ∀ x : Bw w, x.to.cell? ⟨ga, oa + 1, none⟩ = some (.int .i64 a.1.2) := fun x => (ha.below x.below).seven.2.1
  have c2 : ∀ x : Bw w, x.to.cell? ⟨ga, oa + 2, none⟩ = some ca := fun x => (ha.below x.below).seven.2.2.1
  have c3 : ∀ x : Bw w, x.to.cell? ⟨ga, oa + 3, none⟩ = some (.int .i64 a.2.2.1) := fun x => (ha.below x.below).seven.2.2.2.1
  have c4 : ∀ x : Bw w, x.to.cell? ⟨ga, oa + 4, none⟩ = some (.int .i64 a.2.2.2.1) := fun x => (ha.below x.below).seven.2.2.2.2.1
  have c5 : ∀ x : Bw w, x.to.cell? ⟨ga, oa + 5, none⟩ = some (.int .i64 a.2.2.2.2.1) := fun x => (ha.below x.below).seven.2.2.2.2.2.1
  have c6 : ∀ x : Bw w, x.to.cell? ⟨ga, oa + 6, none⟩ = some (.int .i64 a.2.2.2.2.2) := fun x => (ha.below x.below).seven.2.2.2.2.2.2
  have d0 : ∀ x : Bw w, x.to.cell? ⟨gb, ob, none⟩ = some (.int .i64 b.1.1) := fun x => (hb.below x.below).seven.1
  have d1 : ∀ x : Bw w, x.to.cell? ⟨gb, ob + 1, none⟩ = some (.int .i64 b.1.2) := fun x => (hb.below x.below).seven.2.1
  have d2 : ∀ x : Bw w, x.to.cell? ⟨gb, ob + 2, none⟩ = some cb := fun x => (hb.below x.below).seven.2.2.1
  have d3 : ∀ x : Bw w, x.to.cell? ⟨gb, ob + 3, none⟩ = some (.int .i64 b.2.2.1) := fun x => (hb.below x.below).seven.2.2.2.1
  have d4 : ∀ x : Bw w, x.to.cell? ⟨gb, ob + 4, none⟩ = some (.int .i64 b.2.2.2.1) := fun x => (hb.below x.below).seven.2.2.2.2.1
  have d5 : ∀ x : Bw w, x.to.cell? ⟨gb, ob + 5, none⟩ = some (.int .i64 b.2.2.2.2.1) := fun x => (hb.below x.below).seven.2.2.2.2.2.1
  have d6 : ∀ x : Bw w, x.to.cell? ⟨gb, ob + 6, none⟩ = some (.int .i64 b.2.2.2.2.2) := fun x => (hb.below x.below).seven.2.2.2.2.2.2
  have HQ : Hid (∀ x : Bw w, Calls Tryz.prog 153 #[ca, cb] x.to fun e w' => e = .returned (.bool (decide (a.2.1 = b.2.1))) ∧ Below x.to.heap.size x.to w') := fun x => equal_i a.2.1 b.2.1 ca cb x.to (ha.below x.below).cmds (hb.below x.below).cmds hla hlb
  obtain ⟨xa, na, ea⟩ := rows_form ha.cmds
  obtain ⟨xb, nb, eb⟩ := rows_form hb.cmds
  simp only at ea eb
  subst ea eb
  have E1 := eqQ a.2.2 b.2.2
  have E2 := guardQ
  clear ha hb
  by_cases h1 : a.1.1 = b.1.1
  · have h1' : (a.1.1 == b.1.1) = true := by simp [h1]
    by_cases h2 : a.1.2 = b.1.2
    · have h2' : (a.1.2 == b.1.2) = true := by simp [h2]
      by_cases h3 : a.2.2 = b.2.2
      · have h3' : decide (a.2.2 = b.2.2) = true := decide_eq_true h3
        rw [h3'] at E1
        have HT : Hid (decide (a.2.1 = b.2.1) = decide (a = b)) := (by
          by_cases h4 : a.2.1 = b.2.1
          · rw [decide_eq_true h4, bk_eq h1 h2 h3 h4]
          · rw [decide_eq_false h4, decide_eq_false fun e => h4 (by rw [e])] : decide (a.2.1 = b.2.1) = decide (a = b))
        clear h1 h2 h3 h3'
        go_enter Tryz.func126, Tryz.ntmps126
        go_wp2
        refine wp_region_bw (by kernel_rfl) (by kernel_rfl) ?_
        repeat (go_big_quiet_step (refine calls_bw (HQ.out _)))
        refine wpQuiet_nil ?_
        intro _ hw'
        obtain ⟨x, rfl⟩ := hw'
        go_wp2
        go_ret
        exact ⟨ret_bool HT.out, x.below⟩
      · rw [decide_eq_false h3] at E1
        have HT : Hid (decide (a = b) = false) := bk_ne3 h3
        clear h1 h2 h3
        go_enter Tryz.func126, Tryz.ntmps126
        go_wp2
        refine wp_region_bw (by kernel_rfl) (by kernel_rfl) ?_
        repeat (go_big_quiet_step (refine calls_bw (HQ.out _)))
        refine wpQuiet_nil ?_
        intro _ hw'
        obtain ⟨x, rfl⟩ := hw'
        go_wp2
        go_ret
        exact ⟨ret_bool HT.out.symm, x.below⟩
    · have h2' : (a.1.2 == b.1.2) = false := by simpa using h2
      have HT : Hid (decide (a = b) = false) := bk_ne2 h2
      clear h1 h2
      go_enter Tryz.func126, Tryz.ntmps126
      go_wp2
      refine wp_region_bw (by kernel_rfl) (by kernel_rfl) ?_
      repeat (go_big_quiet_step (refine calls_bw (HQ.out _)))
      refine wpQuiet_nil ?_
      intro _ hw'
      obtain ⟨x, rfl⟩ := hw'
      go_wp2
      go_ret
      exact ⟨ret_bool HT.out.symm, x.below⟩
  · have h1' : (a.1.1 == b.1.1) = false := by simpa using h1
    have HT : Hid (decide (a = b) = false) := bk_ne1 h1
    clear h1
    go_enter Tryz.func126, Tryz.ntmps126
    go_wp2
    refine wp_region_bw (by kernel_rfl) (by kernel_rfl) ?_
    repeat (go_big_quiet_step (refine calls_bw (HQ.out _)))
    refine wpQuiet_nil ?_
    intro _ hw'
    obtain ⟨x, rfl⟩ := hw'
    go_wp2
    go_ret
    exact ⟨ret_bool HT.out.symm, x.below⟩

set_option maxRecDepth 100000 in
set_option maxHeartbeats 2000000 in
theorem cmdsOk_i (l : List CM) (cv : Value) (w : World) (h : RowsR w cv 3 cmdF l) (hl : (l.length : Int) ≤ 1048576) (hs : ∀ c ∈ l, (c.2.1.size : Int) ≤ 1048576) :
    Calls Tryz.prog 151 #[cv] w fun e w' => e = .returned (.bool (cmdsB l)) ∧ Below w.heap.size w w' := by
  obtain ⟨a, cap, rfl, hr⟩ := h
  have HR : Hid (0 < l.length → _) := hr
  have HK : Hid (∀ c ∈ l, (c.2.1.size : Int) ≤ 1048576) := hs
  clear hr hs
  by_cases h4 : 4 < (l.length : Int)
  · have HT : Hid (cmdsB l = false) := cmdsB_many (by omega)
    go_enter Tryz.func151, Tryz.ntmps151
    go_wp2
    go_ret
    exact ⟨ret_bool HT.out.symm, Below.refl _ _⟩
  · go_enter Tryz.func151, Tryz.ntmps151
    go_wp2
    go_loopw [10] (fun i wr => ∃ k : Nat, k ≤ l.length ∧ i = .int .i64 (k : Int) ∧ Hid (cmdsTo l k) ∧ Below w.heap.size w wr) (fun i _ => l.length - (intOf i).toNat)
    case atStart => exact ⟨0, Nat.zero_le _, rfl, fun j _ h => by omega, Below.refl _ _⟩
    case round =>
      obtain ⟨k, hk, rfl, HS, hbel⟩ := hrel
      by_cases hlt : (k : Int) < l.length
      · have hkn : k < l.length := by omega
        have q0 : (0 : Int) ≤ (k : Int) := by omega
        obtain ⟨g, off, rfl, hg, hc⟩ := HR.out (by omega)
        have c0 : wr.cell? ⟨g, off + k * 3, none⟩ = some (.int .i64 l[k].1) := by rw [hbel.cell (by exact hg)]; exact hc k hkn 0 (by omega)
        have c1 : wr.cell? ⟨g, off + k * 3 + 1, none⟩ = some (.string l[k].2.1) := by rw [hbel.cell (by exact hg)]; exact hc k hkn 1 (by omega)
        have c2 : wr.cell? ⟨g, off + k * 3 + 2, none⟩ = some (.int .i64 l[k].2.2) := by rw [hbel.cell (by exact hg)]; exact hc k hkn 2 (by omega)
        have hsz := HK.out l[k] (List.getElem_mem hkn)
        clear hc
        cases hcb : cmdB l[k] with
        | false =>
          have HT : Hid (cmdsB l = false) := cmdsB_no hkn hcb
          go_wp2_with fail
          refine (cmd_i l[k] _ hsz).mono ?_
          rintro e w' ⟨rfl, hb'⟩
          rw [hcb]
          clear hcb
          go_wp2
          go_ret
          exact ⟨ret_bool HT.out.symm, bt (ba hbel _) hb'⟩
        | true =>
          have HT : Hid (cmdsTo l (k + 1)) := cmdsTo_next HS.out hkn hcb
          go_wp2_with fail
          refine (cmd_i l[k] _ hsz).mono ?_
          rintro e w' ⟨rfl, hb'⟩
          rw [hcb]
          clear hcb
          go_wp2
          go_roundw
          case rel => exact ⟨k + 1, by omega, by go_num, HT, bt (ba hbel _) hb'⟩
          case measure => simp [intOf]; omega
      · have hkl : k = l.length := by omega
        have HT : Hid (cmdsB l = true) := cmdsB_yes (by omega) (by have := HS.out; rw [hkl] at this; exact this)
        clear hkl
        go_wp2
        go_ret
        exact ⟨ret_bool HT.out.symm, hbel⟩

end Go.Proofs.YtcfgfhodbjakoavGreatDoor
