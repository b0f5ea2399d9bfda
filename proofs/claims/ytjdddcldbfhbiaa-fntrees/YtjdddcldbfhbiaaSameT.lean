/-
  The contract of the laws' sameTree.
-/
import Derived.Test.YtjdddcldbfhbiaaBlkX
import Derived.Test.YtjdddcldbfhbiaaBlockS2
import Derived.BigQuiet
namespace Go.Proofs.Ytjdddcldbfhbiaa
open Go.RowKit Num

set_option maxRecDepth 100000 in
set_option maxHeartbeats 4000000 in
theorem sameTree_yes (ps qs : TL) (a b : Value) (w : World) (ha : TreeQ w a ps) (hb : TreeQ w b qs) (he : bks ps = bks qs) (hk : okT (bks ps)) :
    Calls Try.prog 39 #[a, b] w fun e w' => e = .returned (.bool true) ∧ Below w.heap.size w w' := by
  have HA : Hid (TreeQ w a ps) := ha
  have HB : Hid (TreeQ w b qs) := hb
  have HE : Hid (bks ps = bks qs) := he
  have HK : Hid (okT (bks ps)) := hk
  have hbl := bks_len ps
  have hl : (ps.length : Int) ≤ 1048576 := by have := hk.1; rw [hbl] at this; exact this
  have hql : qs.length = ps.length := by rw [← bks_len, ← bks_len, he]
  obtain ⟨a, ca, rfl, hra⟩ := treeq_cells ha
  obtain ⟨b, cb, rfl, hrb⟩ := treeq_cells hb
  rw [hql]
  have HRA : Hid (0 < ps.length → _) := hra
  have HRB : Hid (0 < qs.length → _) := hrb
  clear hra hrb ha hb he hk
  go_enter Try.func39, Try.ntmps39
  go_wp2
  go_loopw [5] (fun i wr => ∃ m : Nat, m ≤ ps.length ∧ i = .int .i64 m ∧ Below w.heap.size w wr) (fun i _ => ps.length - (intOf i).toNat)
  case atStart => exact ⟨0, Nat.zero_le _, rfl, Below.refl _ _⟩
  case round =>
    obtain ⟨m, hm, rfl, hbel⟩ := hrel
    by_cases hlt : (m : Int) < ps.length
    · have q0 : (0 : Int) ≤ (m : Int) := by omega
      have hmn : m < ps.length := by omega
      have hmq : m < qs.length := by omega
      obtain ⟨ga, oa, rfl, hga, hca⟩ := HRA.out (by omega)
      obtain ⟨gb, ob, rfl, hgb, hcb⟩ := HRB.out (by omega)
      have HM : Hid (qs[m].1 = ps[m].1) := (by rw [← bks_at hmq, ← bks_at hmn]; simp only [HE.out] : qs[m].1 = ps[m].1)
      have hne := bw_some wr
      have c0 : ∀ x : Bw wr, x.to.cell? ⟨ga, oa + m * 7, none⟩ = some (.int .i64 ps[m].1.1.1) := fun x => by rw [(bt hbel x.below).cell (by exact hga)]; exact (hca m hmn).1
      have c1 : ∀ x : Bw wr, x.to.cell? ⟨ga, oa + m * 7 + 1, none⟩ = some (.int .i64 ps[m].1.1.2) := fun x => by rw [(bt hbel x.below).cell (by exact hga)]; exact (hca m hmn).2.1
      have c2 : ∀ x : Bw wr, x.to.cell? ⟨ga, oa + m * 7 + 2, none⟩ = some ps[m].2 := fun x => by rw [(bt hbel x.below).cell (by exact hga)]; exact (hca m hmn).2.2.1
      have c3 : ∀ x : Bw wr, x.to.cell? ⟨ga, oa + m * 7 + 3, none⟩ = some (.int .i64 ps[m].1.2.2.1) := fun x => by rw [(bt hbel x.below).cell (by exact hga)]; exact (hca m hmn).2.2.2.1
      have c4 : ∀ x : Bw wr, x.to.cell? ⟨ga, oa + m * 7 + 4, none⟩ = some (.int .i64 ps[m].1.2.2.2.1) := fun x => by rw [(bt hbel x.below).cell (by exact hga)]; exact (hca m hmn).2.2.2.2.1
      have c5 : ∀ x : Bw wr, x.to.cell? ⟨ga, oa + m * 7 + 5, none⟩ = some (.int .i64 ps[m].1.2.2.2.2.1) := fun x => by rw [(bt hbel x.below).cell (by exact hga)]; exact (hca m hmn).2.2.2.2.2.1
      have c6 : ∀ x : Bw wr, x.to.cell? ⟨ga, oa + m * 7 + 6, none⟩ = some (.int .i64 ps[m].1.2.2.2.2.2) := fun x => by rw [(bt hbel x.below).cell (by exact hga)]; exact (hca m hmn).2.2.2.2.2.2
      have d0 : ∀ x : Bw wr, x.to.cell? ⟨gb, ob + m * 7, none⟩ = some (.int .i64 ps[m].1.1.1) := fun x => by rw [(bt hbel x.below).cell (by exact hgb)]; have := (hcb m hmq).1; rw [HM.out] at this; exact this
      have d1 : ∀ x : Bw wr, x.to.cell? ⟨gb, ob + m * 7 + 1, none⟩ = some (.int .i64 ps[m].1.1.2) := fun x => by rw [(bt hbel x.below).cell (by exact hgb)]; have := (hcb m hmq).2.1; rw [HM.out] at this; exact this
      have d2 : ∀ x : Bw wr, x.to.cell? ⟨gb, ob + m * 7 + 2, none⟩ = some qs[m].2 := fun x => by rw [(bt hbel x.below).cell (by exact hgb)]; have := (hcb m hmq).2.2.1; exact this
      have d3 : ∀ x : Bw wr, x.to.cell? ⟨gb, ob + m * 7 + 3, none⟩ = some (.int .i64 ps[m].1.2.2.1) := fun x => by rw [(bt hbel x.below).cell (by exact hgb)]; have := (hcb m hmq).2.2.2.1; rw [HM.out] at this; exact this
      have d4 : ∀ x : Bw wr, x.to.cell? ⟨gb, ob + m * 7 + 4, none⟩ = some (.int .i64 ps[m].1.2.2.2.1) := fun x => by rw [(bt hbel x.below).cell (by exact hgb)]; have := (hcb m hmq).2.2.2.2.1; rw [HM.out] at this; exact this
      have d5 : ∀ x : Bw wr, x.to.cell? ⟨gb, ob + m * 7 + 5, none⟩ = some (.int .i64 ps[m].1.2.2.2.2.1) := fun x => by rw [(bt hbel x.below).cell (by exact hgb)]; have := (hcb m hmq).2.2.2.2.2.1; rw [HM.out] at this; exact this
      have d6 : ∀ x : Bw wr, x.to.cell? ⟨gb, ob + m * 7 + 6, none⟩ = some (.int .i64 ps[m].1.2.2.2.2.2) := fun x => by rw [(bt hbel x.below).cell (by exact hgb)]; have := (hcb m hmq).2.2.2.2.2.2; rw [HM.out] at this; exact this
      have HQ : Hid (∀ x : Bw wr, Calls Try.prog 43 #[blkV ps[m].1 ps[m].2, blkV ps[m].1 qs[m].2] x.to fun e w' => e = .returned (.bool true) ∧ Below x.to.heap.size x.to w') := fun x => (same_s ps[m].1 ps[m].1 _ _ x.to ((HA.out.2 _ (List.getElem_mem hmn)).below (bt hbel x.below)) (by have := (HB.out.2 _ (List.getElem_mem hmq)).below (bt hbel x.below); rw [HM.out] at this; exact this) (okT_at HK.out hmn).1 (okT_at HK.out hmn).1).mono fun e w' h => ⟨by rw [h.1]; simp, h.2⟩
      unfold blkV at HQ
      clear hca hcb
      go_wp2
      refine wp_region_bw (by kernel_rfl) (by kernel_rfl) ?_
      repeat (go_big_quiet_step (first | (go_at_call 43; with_reducible refine calls_bw (HQ.out _))))
      refine wpQuiet_nil ?_
      intro _ hw'
      obtain ⟨x, rfl⟩ := hw'
      go_wp2
      go_roundw
      case rel => exact ⟨m + 1, by omega, by go_num, bt hbel x.below⟩
      case measure => simp [intOf]; omega
    · go_wp2
      go_ret
      exact ⟨rfl, hbel⟩

end Go.Proofs.Ytjdddcldbfhbiaa
