/-
  Trees that are drawn and bent: the walk.
-/
import Derived.Test.YtjdddcldbfhbiaaDrawB4
import Derived.Test.YtjdddcldbfhbiaaRegP
namespace Go.Proofs.Ytjdddcldbfhbiaa
open Go.RowKit Num

set_option maxRecDepth 100000 in
set_option maxHeartbeats 4000000 in
theorem any5_st {w : World} {B : Nat} {ao : Option Addr} {len cap b off : Nat} (h : St w B ao len cap b off) :
    Calls Try.prog 89 #[.pointer (Option.some ⟨B, 0, none⟩)] w fun e w' => ∃ (v : Value) (qs : TL), e = .returned v ∧ BT (bks qs) 10 ∧ OwnU w' w.heap.size v qs ∧ St w' B ao len cap b off ∧ w.grownBy w' (Option.some B) := by
  have H : Hid (St w B ao len cap b off) := h
  have hBw := h.cur.lt
  clear h
  go_enter Try.func89, Try.ntmps89
  go_wp2_with fail
  refine (below_st 12 (by omega) (by omega) H.out).mono ?_
  rintro e w1 ⟨kc, rfl, hk0, hk1, hS, hg⟩
  have HS1 : Hid (St w1 B ao len cap b off) := hS
  have HG1 : Hid (w.grownBy w1 (Option.some B)) := hg
  clear hS hg
  go_wp2_with fail
  refine (below_st 60 (by omega) (by omega) HS1.out).mono ?_
  rintro e w2 ⟨x, rfl, hx0, hx1, hS, hg⟩
  have HS2 : Hid (St w2 B ao len cap b off) := hS
  have HG2 : Hid (w.grownBy w2 (Option.some B)) := grown_tr HG1.out hg
  clear hS hg
  go_wp2_with fail
  refine (drawn_st HS2.out).mono ?_
  rintro e w3 ⟨v3, q3, rfl, hd, hown, hS, hg⟩
  have HD : Hid (Drw (bks q3) 9) := hd
  have HO3 : Hid (OwnT w3 w2.heap.size v3 q3) := hown
  have HS3 : Hid (St w3 B ao len cap b off) := hS
  have HG3 : Hid (w.grownBy w3 (Option.some B)) := grown_tr HG2.out hg
  clear hS hg hown hd
  go_wp2_with fail
  refine (l05Tree_s q3 v3 w3 HO3.out.read (drw_ok HD.out (by omega))).mono ?_
  rintro e w4 ⟨v4, q4, rfl, hq, hown, hb⟩
  have HQ4 : Hid (bks q4 = bks q3) := hq
  have hql : q4.length = q3.length := by rw [← bks_len, hq, bks_len]
  have hq9 := HD.out.len
  have hqp := HD.out.pos
  rw [bks_len, ← hql] at hq9 hqp
  have HO4 : Hid (OwnT w4 w3.heap.size v4 q4) := hown
  have HS4 : Hid (St w4 B ao len cap b off) := HS3.out.below hb
  have HG4 : Hid (w.grownBy w4 (Option.some B)) := grown_tr HG3.out (grown_none hb)
  have hs3 := HG3.out.size
  have hs4 := hb.size
  obtain ⟨a4, c4, h4, hz⟩ := own_form hown.row
  subst h4
  obtain ⟨g, rfl⟩ := hz hqp
  have hgb : w3.heap.size ≤ g := (HO4.out.row.lt g rfl).1
  have hn0 : (q4.length : Int) ≠ 0 := by omega
  have hn1 : (0 : Int) < (q4.length : Int) := by omega
  clear hq hown hb hql
  have hkk : (x % (q4.length : Int)).toNat < q4.length := by have h1 := Int.emod_nonneg x hn0; have h2 := Int.emod_lt_of_pos x hn1; omega
  have HBT : Hid (BT (bks q4) 9) := (by rw [HQ4.out]; exact HD.out.bt : BT (bks q4) 9)
  have HBA : Hid (q4[(x % (q4.length : Int)).toNat].1.2.1.length ≤ 5 ∧ (∀ c ∈ q4[(x % (q4.length : Int)).toNat].1.2.1, c.2.1.size ≤ 4) ∧ 0 ≤ q4[(x % (q4.length : Int)).toNat].1.1.2 ∧ q4[(x % (q4.length : Int)).toNat].1.1.2 ≤ 1000) := HBT.out.at hkk
  have ha0 : 0 ≤ x % (q4.length : Int) := Int.emod_nonneg _ (by omega)
  have ha1 : x % (q4.length : Int) < (q4.length : Int) := Int.emod_lt_of_pos _ hn1
  by_cases hc0 : kc = 0
  · subst hc0
    have hset := HO4.out.u.set1 (k := (x % (q4.length : Int)).toNat) (j := 0) hkk (by omega) (.int .i64 (x % 5 - 1)) ((x % 5 - 1, q4[(x % (q4.length : Int)).toNat].1.1.2), q4[(x % (q4.length : Int)).toNat].1.2) rfl rfl rfl
    simp only [Nat.add_zero] at hset
    obtain ⟨hU, hg5, ⟨y0, x0⟩, f0⟩ := hset
    have HU : Hid (OwnU _ w3.heap.size (.slice (some ⟨g, 0, none⟩) q4.length c4) _) := hU
    have HG5 : Hid (w4.grownBy _ (some g)) := hg5
    clear hU hg5 hk0 hk1
    go_wp2
    go_ret
    exact ⟨_, q4.set ((x % (q4.length : Int)).toNat) (((x % 5 - 1, q4[(x % (q4.length : Int)).toNat].1.1.2), q4[(x % (q4.length : Int)).toNat].1.2), q4[(x % (q4.length : Int)).toNat].2), rfl, BT.le (n := 9) (BT.set (p := (((x % 5 - 1, q4[(x % (q4.length : Int)).toNat].1.1.2), q4[(x % (q4.length : Int)).toNat].1.2), q4[(x % (q4.length : Int)).toNat].2)) HBT.out HBA.out) (by omega), HU.out.base hs3, HS4.out.other HG5.out (by omega) (fun hl => by have := H.out.code.lt hl; omega), grown_two HG4.out (by omega) HG5.out⟩
  by_cases hc1 : kc = 1
  · subst hc1
    have hset := HO4.out.u.set1 (k := (x % (q4.length : Int)).toNat) (j := 1) hkk (by omega) (.int .i64 x) ((q4[(x % (q4.length : Int)).toNat].1.1.1, x), q4[(x % (q4.length : Int)).toNat].1.2) rfl rfl rfl
    obtain ⟨hU, hg5, ⟨y0, x0⟩, f0⟩ := hset
    have HU : Hid (OwnU _ w3.heap.size (.slice (some ⟨g, 0, none⟩) q4.length c4) _) := hU
    have HG5 : Hid (w4.grownBy _ (some g)) := hg5
    clear hU hg5 hk0 hk1
    go_wp2
    go_ret
    exact ⟨_, q4.set ((x % (q4.length : Int)).toNat) (((q4[(x % (q4.length : Int)).toNat].1.1.1, x), q4[(x % (q4.length : Int)).toNat].1.2), q4[(x % (q4.length : Int)).toNat].2), rfl, BT.le (n := 9) (BT.set (p := (((q4[(x % (q4.length : Int)).toNat].1.1.1, x), q4[(x % (q4.length : Int)).toNat].1.2), q4[(x % (q4.length : Int)).toNat].2)) HBT.out ⟨HBA.out.1, HBA.out.2.1, by show (0 : Int) ≤ x; omega, by show x ≤ 1000; omega⟩) (by omega), HU.out.base hs3, HS4.out.other HG5.out (by omega) (fun hl => by have := H.out.code.lt hl; omega), grown_two HG4.out (by omega) HG5.out⟩
  by_cases hc2 : kc = 2
  · subst hc2
    have hset := HO4.out.u.set1 (k := (x % (q4.length : Int)).toNat) (j := 5) hkk (by omega) (.int .i64 (x % 4)) (q4[(x % (q4.length : Int)).toNat].1.1, (q4[(x % (q4.length : Int)).toNat].1.2.1, (q4[(x % (q4.length : Int)).toNat].1.2.2.1, q4[(x % (q4.length : Int)).toNat].1.2.2.2.1, x % 4, q4[(x % (q4.length : Int)).toNat].1.2.2.2.2.2))) rfl rfl rfl
    obtain ⟨hU, hg5, ⟨y0, x0⟩, f0⟩ := hset
    have HU : Hid (OwnU _ w3.heap.size (.slice (some ⟨g, 0, none⟩) q4.length c4) _) := hU
    have HG5 : Hid (w4.grownBy _ (some g)) := hg5
    clear hU hg5 hk0 hk1
    go_wp2
    go_ret
    exact ⟨_, q4.set ((x % (q4.length : Int)).toNat) ((q4[(x % (q4.length : Int)).toNat].1.1, (q4[(x % (q4.length : Int)).toNat].1.2.1, (q4[(x % (q4.length : Int)).toNat].1.2.2.1, q4[(x % (q4.length : Int)).toNat].1.2.2.2.1, x % 4, q4[(x % (q4.length : Int)).toNat].1.2.2.2.2.2))), q4[(x % (q4.length : Int)).toNat].2), rfl, BT.le (n := 9) (BT.set (p := ((q4[(x % (q4.length : Int)).toNat].1.1, (q4[(x % (q4.length : Int)).toNat].1.2.1, (q4[(x % (q4.length : Int)).toNat].1.2.2.1, q4[(x % (q4.length : Int)).toNat].1.2.2.2.1, x % 4, q4[(x % (q4.length : Int)).toNat].1.2.2.2.2.2))), q4[(x % (q4.length : Int)).toNat].2)) HBT.out HBA.out) (by omega), HU.out.base hs3, HS4.out.other HG5.out (by omega) (fun hl => by have := H.out.code.lt hl; omega), grown_two HG4.out (by omega) HG5.out⟩
  by_cases hc3 : kc = 3
  · subst hc3
    obtain ⟨i0, hi, hz0, hz1, hz2⟩ := info_parts infoCm3
    have hcm := HO4.out.cmds _ (List.getElem_mem hkk)
    obtain ⟨ac, pc, hcv, _⟩ := own_form hcm
    have HCV : Hid (q4[(x % (q4.length : Int)).toNat].2 = .slice ac q4[(x % (q4.length : Int)).toNat].1.2.1.length pc) := hcv
    have HSM : Hid (q4[(x % (q4.length : Int)).toNat].1.2.1.length ≤ 4) := (by have h1 := (HD.out.small (q4[(x % (q4.length : Int)).toNat].1) (by rw [← HQ4.out]; exact List.mem_map.2 ⟨_, List.getElem_mem hkk, rfl⟩)).1; exact h1 : q4[(x % (q4.length : Int)).toNat].1.2.1.length ≤ 4)
    have hsm := HSM.out
    have c2 : w4.drew.cell? ⟨g, (x % (q4.length : Int)).toNat * 7 + 2, none⟩ = some (.slice ac q4[(x % (q4.length : Int)).toNat].1.2.1.length pc) := (by rw [← hcv]; exact (own_blk HO4.out.row rfl hkk).2.2.1)
    clear hk0 hk1 hcv hcm
    have HCW : Hid (w4.drew.ownsRow w3.heap.size 63 7 (.slice (some ⟨g, 0, none⟩) q4.length c4) q4.length (flatR blkF q4)) := HO4.out.row
    go_wp2
    refine wp_region_P (fun j => j != 13) (fun w' => w'.cell? ⟨g, (x % (q4.length : Int)).toNat * 7 + 2, none⟩ = some (.slice ac q4[(x % (q4.length : Int)).toNat].1.2.1.length pc)) (by kernel_rfl) ?_
    show wpAnyP Try.prog _ _ _ _ _ 14 (Array.replicate 14 false) _ _
    refine wpAnyP_take (i := 0) (v := ?_) rfl (by kernel_rfl) (by kernel_rfl) (by kernel_rfl) (by kernel_rfl) (by kernel_rfl) (fun _ _ _ h => h) (Or.inl ⟨by rfl, ?_⟩) c2 ?_
    rotate_left
    · intro w' hC'
      go_simp
      try with_reducible rfl
    simp only [Act.put]
    refine wpAnyP_take (i := 1) (v := ?_) rfl (by kernel_rfl) (by kernel_rfl) (by kernel_rfl) (by kernel_rfl) (by kernel_rfl) (fun _ _ _ h => h) (Or.inl ⟨by rfl, ?_⟩) c2 ?_
    rotate_left
    · intro w' hC'
      go_simp
      try with_reducible rfl
    simp only [Act.put]
    refine wpAnyP_take (i := 2) (v := ?_) rfl (by kernel_rfl) (by kernel_rfl) (by kernel_rfl) (by kernel_rfl) (by kernel_rfl) (fun _ _ _ h => h) (Or.inl ⟨by rfl, ?_⟩) c2 ?_
    rotate_left
    · intro w' hC'
      go_simp
      try with_reducible rfl
    simp only [Act.put]
    refine wpAnyP_take (i := 3) (v := ?_) rfl (by kernel_rfl) (by kernel_rfl) (by kernel_rfl) (by kernel_rfl) (by kernel_rfl) (fun _ _ _ h => h) (Or.inl ⟨by rfl, ?_⟩) c2 ?_
    rotate_left
    · intro w' hC'
      go_simp
      try with_reducible rfl
    simp only [Act.put]
    refine wpAnyP_take (i := 4) (v := ?_) rfl (by kernel_rfl) (by kernel_rfl) (by kernel_rfl) (by kernel_rfl) (by kernel_rfl) (fun _ _ _ h => h) (Or.inl ⟨by rfl, ?_⟩) c2 ?_
    rotate_left
    · intro w' hC'
      go_simp
      try with_reducible rfl
    simp only [Act.put]
    refine wpAnyP_take (i := 5) (v := ?_) rfl (by kernel_rfl) (by kernel_rfl) (by kernel_rfl) (by kernel_rfl) (by kernel_rfl) (fun _ _ _ h => h) (Or.inl ⟨by rfl, ?_⟩) c2 ?_
    rotate_left
    · intro w' hC'
      go_simp
      try with_reducible rfl
    simp only [Act.put]
    refine wpAnyP_take (i := 6) (v := ?_) rfl (by kernel_rfl) (by kernel_rfl) (by kernel_rfl) (by kernel_rfl) (by kernel_rfl) (fun _ _ _ h => h) (Or.inl ⟨by rfl, ?_⟩) c2 ?_
    rotate_left
    · intro w' hC'
      go_simp
      try with_reducible rfl
    simp only [Act.put]
    refine wpAnyP_take (i := 7) (v := ?_) rfl (by kernel_rfl) (by kernel_rfl) (by kernel_rfl) (by kernel_rfl) (by kernel_rfl) (fun _ _ _ h => h) (Or.inl ⟨by rfl, ?_⟩) c2 ?_
    rotate_left
    · intro w' hC'
      go_simp
      try with_reducible rfl
    simp only [Act.put]
    refine wpAnyP_one (i := 8) (by kernel_rfl) rfl ?_
    intro K hK
    go_simp
    refine (any_st (w := w4.drew) ⟨⟨HS4.out.code.le, HS4.out.code.some, HS4.out.code.cell, HS4.out.code.lt⟩, HS4.out.cur, HS4.out.ne⟩).mono ?_
    rintro e w5 ⟨c, rfl, hcs, hS5, hg5⟩
    have HS5 : Hid (St w5 B ao len cap b off) := hS5
    have HO5 : Hid (OwnT w5 w3.heap.size (.slice (some ⟨g, 0, none⟩) q4.length c4) q4) := (HO4.out.below (Below.refl _ w4).drew).st hg5 (by omega)
    have HG5 : Hid (w.grownBy w5 (Option.some B)) := grown_tr HG4.out (grown_tr (grown_none (Below.refl _ w4).drew) hg5)
    have HC5 : Hid (w5.ownsRow w3.heap.size 29 3 (.slice ac q4[(x % (q4.length : Int)).toNat].1.2.1.length pc) q4[(x % (q4.length : Int)).toNat].1.2.1.length (flatR cmdF q4[(x % (q4.length : Int)).toNat].1.2.1)) := (by rw [← HCV.out]; exact HO5.out.cmds _ (List.getElem_mem hkk))
    have c2' : w5.cell? ⟨g, (x % (q4.length : Int)).toNat * 7 + 2, none⟩ = some (.slice ac q4[(x % (q4.length : Int)).toNat].1.2.1.length pc) := (by rw [← HCV.out]; exact (own_blk HO5.out.row rfl hkk).2.2.1)
    have c2a : ∀ o, (w5.alloc o).cell? ⟨g, (x % (q4.length : Int)).toNat * 7 + 2, none⟩ = some (.slice ac q4[(x % (q4.length : Int)).toNat].1.2.1.length pc) := (fun o => by rw [(ba (Below.refl _ w5) o : Below w5.heap.size w5 (w5.alloc o)).cell (by exact (HO5.out.row.lt g rfl).2)]; exact c2')
    have hs5 := HG5.out.size
    have hs5' : w3.heap.size ≤ w5.heap.size := Nat.le_trans hs4 hg5.size
    have HCS : Hid (c.2.1.size ≤ 4) := hcs
    clear hS5 hg5 hcs
    unfold cmdV
    dsimp only
    refine hK.out _ _ (fun _ => c2') ?_
    clear hK K
    refine wpAnyP_one (i := 9) (by kernel_rfl) rfl ?_
    intro K hK
    go_simp
    refine hK.out _ _ (fun _ => c2a _) ?_
    clear hK K
    refine wpAnyP_one (i := 10) (by kernel_rfl) rfl ?_
    intro K hK
    refine step_append_lies _ (by rfl) (.tmp 52) (.tmp 55) 26 (by rfl) w3.heap.size 29 i0 _ 3 32 Try.underlying26 hi hz0 hz1 hz2 rfl (by decide) _ _ _ (by rfl) (World.ownsRow.alloc HC5.out _) ⟨World.heap _ |>.size, 0, none⟩ 1 1 (cmdF c) (by rfl) rfl (news3 _ c _) (ones3 c) (by decide) (by unfold maxLen; omega) (by omega) (by simp; omega) _ rfl ?_
    intro g6 cap6 w6 hown6 hgrow6 hx1 hx2
    clear hx1 hx2
    have hown6' : w6.ownsRow w3.heap.size 29 3 (.slice (some ⟨g6, 0, none⟩) (q4[(x % (q4.length : Int)).toNat].1.2.1.length + 1) cap6) (q4[(x % (q4.length : Int)).toNat].1.2.1 ++ [c]).length (flatR cmdF (q4[(x % (q4.length : Int)).toNat].1.2.1 ++ [c])) := (by rw [flatR_append, List.length_append]; exact hown6)
    obtain ⟨hU7, hg7, x7, f7⟩ := HO5.out.cmds3 rfl hkk (by rw [HCV.out]; exact hgrow6) hown6'
    rw [HCV.out] at x7
    have HU7 : Hid (OwnU _ w3.heap.size (.slice (some ⟨g, 0, none⟩) q4.length c4) _) := hU7
    have HG7 : Hid (w6.grownBy _ (some g)) := hg7
    have HS6 : Hid (St w6 B ao len cap b off) := ((HS5.out.below ((Below.refl _ _).alloc (Nat.le_refl _) _)).row hgrow6 (fun g' hg' => by have := (HC5.out.lt g' hg').1; omega) (fun hl => by have := H.out.code.lt hl; intro g' hg'; have := (HC5.out.lt g' hg').1; omega))
    have HG6 : Hid (w.grownBy w6 (Option.some B)) := grown_row HG5.out ((Below.refl _ _).alloc (Nat.le_refl _) _) hgrow6 (fun g' hg' => by have := (HC5.out.lt g' hg').1; omega)
    clear hown6 hown6' hgrow6 hU7 hg7 c2 c2' c2a
    refine hK.out _ _ (fun _ => x7) ?_
    clear hK K
    simp only [Act.put]
    refine wpAnyP_take (i := 11) (v := ?_) rfl (by kernel_rfl) (by kernel_rfl) (by kernel_rfl) (by kernel_rfl) (by kernel_rfl) (fun _ _ _ h => h) (Or.inl ⟨by rfl, ?_⟩) x7 ?_
    rotate_left
    · intro w' hC'
      go_simp
      try with_reducible rfl
    simp only [Act.put]
    refine wpAnyP_take (i := 12) (v := ?_) rfl (by kernel_rfl) (by kernel_rfl) (by kernel_rfl) (by kernel_rfl) (by kernel_rfl) (fun _ _ _ h => h) (Or.inl ⟨by rfl, ?_⟩) x7 ?_
    rotate_left
    · intro w' hC'
      go_simp
      try with_reducible rfl
    simp only [Act.put]
    refine wpAnyP_one (i := 13) (by kernel_rfl) rfl ?_
    intro K hK
    go_simp
    refine hK.out _ _ (fun h => by cases h) ?_
    clear hK K
    refine wpAnyP_done (by kernel_rfl) ?_ _
    go_wp2
    go_ret
    have hba : (q4[(x % (q4.length : Int)).toNat].1.2.1 ++ [c]).length ≤ 5 ∧ (∀ d ∈ q4[(x % (q4.length : Int)).toNat].1.2.1 ++ [c], d.2.1.size ≤ 4) ∧ 0 ≤ q4[(x % (q4.length : Int)).toNat].1.1.2 ∧ q4[(x % (q4.length : Int)).toNat].1.1.2 ≤ 1000 := ⟨by rw [List.length_append]; have := HSM.out; simp; omega, fun d hd => by
      rcases List.mem_append.1 hd with h | h
      · exact HBA.out.2.1 d h
      · rw [List.mem_singleton] at h; subst h; exact HCS.out, HBA.out.2.2⟩
    exact ⟨_, _, rfl, BT.le (n := 9) (BT.set (p := ((q4[(x % (q4.length : Int)).toNat].1.1, q4[(x % (q4.length : Int)).toNat].1.2.1 ++ [c], q4[(x % (q4.length : Int)).toNat].1.2.2), Value.slice (some ⟨g6, 0, none⟩) (q4[(x % (q4.length : Int)).toNat].1.2.1.length + 1) cap6)) HBT.out hba) (by omega), HU7.out.base hs3, HS6.out.other HG7.out (by omega) (fun hl => by have := H.out.code.lt hl; omega), grown_two HG6.out (by omega) HG7.out⟩
  by_cases hc4 : kc = 4
  · subst hc4
    obtain ⟨i0, hi, hz0, hz1, hz2⟩ := info_parts infoBlk
    obtain ⟨y0, y1, y2, y3, y4, y5, y6⟩ := own_blk (k := (x % (q4.length : Int)).toNat) HO4.out.row rfl hkk
    clear hk0 hk1
    go_wp2_with fail
    refine (l05Block_s q4[(x % (q4.length : Int)).toNat].1 q4[(x % (q4.length : Int)).toNat].2 w4 (rows_of_own cmdF_len (HO4.out.cmds _ (List.getElem_mem hkk))) (by have := HBA.out.1; omega)).mono ?_
    rintro e w5 ⟨cv5, rfl, hown5, hb5⟩
    obtain ⟨a5, p5, rfl, _⟩ := own_form hown5
    have HC5 : Hid (w5.ownsRow w4.heap.size 29 3 (.slice a5 q4[(x % (q4.length : Int)).toNat].1.2.1.length p5) q4[(x % (q4.length : Int)).toNat].1.2.1.length (flatR cmdF q4[(x % (q4.length : Int)).toNat].1.2.1)) := hown5
    have HR5 : Hid (w5.ownsRow w3.heap.size 63 7 (.slice (some ⟨g, 0, none⟩) q4.length c4) q4.length (flatR blkF q4)) := own_kept HO4.out.row hb5
    have HB5 : Hid (Below w4.heap.size w4 w5) := hb5
    have hs5 := hb5.size
    unfold blkV
    clear hown5 hb5 y0 y1 y2 y3 y4 y5 y6
    go_wp2_with (at_builtin; refine wpList_append_own _ rfl _ _ 57 rfl w3.heap.size 63 i0 _ 7 72 Try.underlying57 hi hz0 hz1 hz2 rfl (by decide) _ _ _ rfl (World.ownsRow.alloc HR5.out _) ⟨World.heap _ |>.size, 0, none⟩ 1 1 (blkF (q4[(x % (q4.length : Int)).toNat].1, .slice a5 q4[(x % (q4.length : Int)).toNat].1.2.1.length p5)) rfl rfl (newsB _ q4[(x % (q4.length : Int)).toNat].1 _ _) (onesB _ _ _ _) (by unfold maxLen; omega) (by omega) (by simp; omega) ?_; intro v6 w6 hown6 hgrow6 _)
    have HU : Hid (OwnT w6 w3.heap.size v6 (q4 ++ [(q4[(x % (q4.length : Int)).toNat].1, .slice a5 q4[(x % (q4.length : Int)).toNat].1.2.1.length p5)])) := HO4.out.push HB5.out HC5.out hown6 hgrow6 (by omega)
    have HS6 : Hid (St w6 B ao len cap b off) := (((HS4.out.below HB5.out).below ((Below.refl _ _).alloc (Nat.le_refl _) _)).row hgrow6 (fun g' hg' => by have := (HR5.out.lt g' hg').1; omega) (fun hl => by have := H.out.code.lt hl; intro g' hg'; have := (HR5.out.lt g' hg').1; omega))
    have HG6 : Hid (w.grownBy w6 (Option.some B)) := grown_row (grown_tr HG4.out (grown_none HB5.out)) ((Below.refl _ _).alloc (Nat.le_refl _) _) hgrow6 (fun g' hg' => by have := (HR5.out.lt g' hg').1; omega)
    clear hown6 hgrow6
    go_ret
    exact ⟨v6, q4 ++ [(q4[(x % (q4.length : Int)).toNat].1, Value.slice a5 q4[(x % (q4.length : Int)).toNat].1.2.1.length p5)], rfl, BT.snoc (p := (q4[(x % (q4.length : Int)).toNat].1, Value.slice a5 q4[(x % (q4.length : Int)).toNat].1.2.1.length p5)) HBT.out HBA.out, HU.out.u.base hs3, HS6.out, HG6.out⟩
  · clear hk0 hk1
    go_wp2
    go_ret
    exact ⟨_, q4, rfl, HBT.out.le (by omega), HO4.out.u.base hs3, HS4.out, HG4.out⟩

end Go.Proofs.Ytjdddcldbfhbiaa
