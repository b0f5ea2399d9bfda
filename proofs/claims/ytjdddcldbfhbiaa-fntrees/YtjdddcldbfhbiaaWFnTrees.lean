/-
  The walk of the law FnTrees: a block that is put in a drawn tree is there, behind all, once; it stands on what was there; the specification's answers and the program's are the same.
-/
import Derived.Test.YtjdddcldbfhbiaaDrawB7
import Derived.Test.YtjdddcldbfhbiaaDrawB8
import Derived.Test.YtjdddcldbfhbiaaPutBI2
import Derived.Test.YtjdddcldbfhbiaaSameT
import Derived.Deep.RegionHeld3
import Derived.Deep.CutRange
namespace Go.Proofs.Ytjdddcldbfhbiaa.WFnTrees
open Go.RowKit Num

set_option maxRecDepth 100000 in
theorem walk_big (w : World) (ao : Option Addr) (len cap : Nat) (h : (1048576 : Int) < len) :
    Calls Try.prog 5 #[.slice ao len cap] w fun e w' => e = .returned (.bool true) ∧ Below w.heap.size w w' := by
  go_enter Try.func5, Try.ntmps5
  go_wp2
  go_ret
  exact ⟨rfl, Below.refl _ _⟩

theorem big_no (w : World) (ao : Option Addr) (len cap : Nat) (h : (len : Int) ≤ 1048576) :
    Calls Try.prog 6 #[.slice ao len cap] w fun e w' => e = .returned (.bool false) ∧ w' = w := by
  go_enter Try.func6, Try.ntmps6
  go_wp2
  go_ret
  exact ⟨by simp; omega, rfl⟩

theorem okT_put {t : List BK} {b : BK} (h : okT t) (hb : okB b) : okT (putT t b) := by
  unfold putT
  split
  · exact h
  · split
    · exact h
    · rename_i h2
      have hl : t.length < 60 := by
        rcases Nat.lt_or_ge t.length 60 with h3 | h3
        · exact h3
        · exact absurd (Or.inr h3) h2
      refine ⟨by rw [List.length_append]; simp; omega, fun x hx => ?_⟩
      rcases List.mem_append.1 hx with h4 | h4
      · exact h.2 x h4
      · rw [List.mem_singleton] at h4; subst h4; exact hb
/-- the block that the law puts -/
def nb (t : List BK) (k : Nat) (l : List CM) : BK := (((k : Int), viewAt t k + 3), (l, (1, viewAt t k, (k : Int), 0)))
theorem nb_ok {t : List BK} {k : Nat} {l : List CM} (hk : k < t.length) (hv : viewAt t k + 3 ≤ 900) (hl : smallC l) : blockB t (nb t k l) = true := by
  have h0 : inB (nb t k l).1.1 0 ((t.length : Int) - 1) = true := inB_yes ⟨by show (0 : Int) ≤ (k : Int); omega, by show (k : Int) ≤ (t.length : Int) - 1; omega⟩
  rw [blockB_all h0 (by show viewAt t (k : Int) < viewAt t (k : Int) + 3; omega) hv hl.1 (fun j hj _ => (hl.2 _ (List.getElem_mem hj)).1)]
  show (decide ((k : Int) = (k : Int)) && decide (viewAt t (k : Int) = viewAt t (k : Int))) = true
  simp

/-- where the block is made: what holds behind it -/
def CutR (q : TL) (k : Nat) (w2 wx : World) (N5 : Nat) (l : List CM) (a3 : Option Addr) (c3 : Nat) : Prop := smallC l ∧ w2.heap.size ≤ N5 ∧ wx.heap[N5]? = some (.cells (blkA (nb (bks q) k l) (.slice a3 l.length c3)) 63 (0, 0)) ∧ wx.ownsRow w2.heap.size 29 3 (.slice a3 l.length c3) l.length (flatR cmdF l) ∧ Below w2.heap.size w2 wx

set_option maxRecDepth 100000 in
set_option maxHeartbeats 40000000 in
theorem walk (w : World) (ao : Option Addr) (len cap b off : Nat) (hc : Code w ao len b off) :
    Calls Try.prog 5 #[.slice ao len cap] w fun e w' => e = .returned (.bool true) ∧ Below w.heap.size w w' := by
  have HC : Hid (Code w ao len b off) := hc
  have hle : (len : Int) ≤ 1048576 := by have := hc.le; omega
  clear hc
  go_enter Try.func5, Try.ntmps5
  go_wp2_with fail
  refine (big_no w ao len cap hle).mono ?_
  rintro e w0 ⟨rfl, hw⟩
  obtain rfl := hw.symm
  clear hw
  go_wp2_with fail
  refine (drawTree_any HC.out).mono ?_
  rintro e w1 ⟨v1, q, rfl, hd, hown1, hb1⟩
  have HD : Hid (Drw (bks q) 9) := hd
  have HO1 : Hid (OwnT w1 w.heap.size v1 q) := hown1
  have HB1 : Hid (Below w.heap.size w w1) := hb1
  have hqp : 0 < q.length := by have := hd.pos; rw [bks_len] at this; exact this
  have hq9 : q.length ≤ 9 := by have := hd.len; rw [bks_len] at this; exact this
  obtain ⟨a1, c1, h4, hz⟩ := own_form hown1.row
  subst h4
  obtain ⟨g, rfl⟩ := hz hqp
  clear hd hown1 hb1 hz
  go_wp2_with fail
  refine (drawPlaces_any (HC.out.below HB1.out)).mono ?_
  rintro e w2 ⟨v2, xs, rfl, hxl, hxs, hown2, hb2⟩
  obtain ⟨a2, c2, h4, hz⟩ := own_form hown2
  subst h4
  obtain ⟨g2, rfl⟩ := hz (by omega)
  obtain ⟨p, hp⟩ : ∃ p, p = xs[0]'(by omega) := ⟨_, rfl⟩
  have hp01 : 0 ≤ p ∧ p < 10000 := by rw [hp]; exact hxs _ (List.getElem_mem _)
  have x0 : w2.cell? ⟨g2, 0, none⟩ = some (.int .i64 p) := by
    rw [(own_cell hown2 0 (by omega)).1, hp]
    have := flatR_at intF_len xs 0 (by omega) 0 (by omega)
    simpa [intF] using this
  have HXL : Hid (xs.length = 12) := hxl
  have hx12 : (0 : Int) < (xs.length : Int) := by omega
  have hp0 := hp01.1
  have hp1 := hp01.2
  have HO2 : Hid (OwnT w2 w.heap.size (.slice (some ⟨g, 0, none⟩) q.length c1) q) := HO1.out.below hb2
  have HB2 : Hid (Below w.heap.size w w2) := bt HB1.out hb2
  have hn0 : (q.length : Int) ≠ 0 := by omega
  have hn1 : (0 : Int) < (q.length : Int) := by omega
  obtain ⟨k, hk0⟩ := Int.eq_ofNat_of_zero_le (Int.emod_nonneg p hn0)
  have hkq : k < q.length := by have := Int.emod_lt_of_pos p hn1; omega
  have HKK : Hid (p % (q.length : Int) = (k : Int)) := hk0
  clear hp hp01 hown2 hxs hxl hz hb2 hk0 HO1 HB1
  go_wp2_with fail
  clear x0 hx12
  rw [HKK.out]
  clear hp0 hp1
  have qk0 : (0 : Int) ≤ (k : Int) := by omega
  have qk1 : (k : Int) < (q.length : Int) := by omega
  have HVW : Hid (viewAt (bks q) (k : Int) = q[k].1.1.2) := (by rw [viewAt_at (by rw [bks_len]; exact hkq), bks_at hkq] : viewAt (bks q) (k : Int) = q[k].1.1.2)
  have hvb : 0 ≤ q[k].1.1.2 ∧ q[k].1.1.2 ≤ 2 * (k : Int) := by have := HD.out.views k (by rw [bks_len]; exact hkq); rw [bks_at hkq] at this; exact this
  have hv0 := hvb.1
  have hv1 := hvb.2
  have hwrap : IntKind.i64.wrap (q[k].1.1.2 + 3) = q[k].1.1.2 + 3 := by rw [IntKind.wrap_i64]; omega
  have HS : Hid (∀ w', Below w2.heap.size w2 w' → w'.cell? ⟨g, k * 7 + 1, none⟩ = some (.int .i64 q[k].1.1.2)) := fun w' h' => (own_blk (own_kept HO2.out.row h') rfl hkq).2.1
  have HBD : Hid (Below w2.heap.size w2 w2.drew) := (Below.refl _ _).drew
  clear hvb
  have hgw : g < w2.heap.size := (HO2.out.row.lt g rfl).2
  have HBA : Hid (Below w2.heap.size w2 (w2.alloc (.cells #[.int .i64 0, .int .i64 0, .slice none 0 0, .int .i64 0, .int .i64 0, .int .i64 0, .int .i64 0] 63)).drew) := (ba (Below.refl _ _) _).drew
  go_cut [5] from 30 to 46 (fun s wx => ∃ (N5 : Nat) (l : List CM) (a3 : Option Addr) (c3 : Nat), s = .pointer (some ⟨N5, 0, none⟩) ∧ CutR q k w2 wx N5 l a3 c3)
  case first =>
    go_region_held3 (fun w' => w'.cell? ⟨g, k * 7 + 1, none⟩ = some (.int .i64 q[k].1.1.2)) (first | (with_reducible exact HS.out _ HBD.out) | (with_reducible exact HS.out _ HBA.out) | (with_reducible exact HS.out _ HB3.out) | (with_reducible exact HS.out _ (ba HB3.out _)) | (with_reducible exact HS7.out)) (first | (go_at_call 8; (with_reducible show Calls Try.prog _ _ (World.drew w2) _); refine (drawCmds4_any (w := w2.drew) (HC.out.below (HB2.out.drew))).mono ?_; rintro e w3 ⟨v3, l, rfl, hl, hown3, hb3⟩; obtain ⟨a3, c3, h4, _⟩ := own_form hown3; subst h4; have HL : Hid (smallC l) := hl; have HC3 : Hid (w3.ownsRow w2.heap.size 29 3 (.slice a3 l.length c3) l.length (flatR cmdF l)) := hown3; have HB3 : Hid (Below w2.heap.size w2 w3) := (Below.refl _ _).drew.trans hb3; have hs3 := HB3.out.size; clear hl hown3 hb3) | (go_at_call 8; (with_reducible show Calls Try.prog _ _ (World.drew (World.alloc w2 _)) _); refine (drawCmds4_any (w := (w2.alloc (.cells #[.int .i64 0, .int .i64 0, .slice none 0 0, .int .i64 0, .int .i64 0, .int .i64 0, .int .i64 0] 63)).drew) (HC.out.below (ba HB2.out _).drew)).mono ?_; rintro e w3 ⟨v3, l, rfl, hl, hown3, hb3⟩; obtain ⟨a3, c3, h4, _⟩ := own_form hown3; subst h4; have HL : Hid (smallC l) := hl; have hlt : w2.heap.size < (w2.alloc (.cells #[.int .i64 0, .int .i64 0, .slice none 0 0, .int .i64 0, .int .i64 0, .int .i64 0, .int .i64 0] 63)).drew.heap.size := (by show _ < (w2.alloc (.cells #[.int .i64 0, .int .i64 0, .slice none 0 0, .int .i64 0, .int .i64 0, .int .i64 0, .int .i64 0] 63)).heap.size; simp); have HC3 : Hid (w3.ownsRow (w2.heap.size + 1) 29 3 (.slice a3 l.length c3) l.length (flatR cmdF l)) := own_base hown3 (Nat.succ_le_of_lt hlt); have HB3 : Hid (Below w2.heap.size w2 w3) := bt (ba (Below.refl _ _) _).drew hb3; have k3 : w3.heap[w2.heap.size]? = some (.cells #[.int .i64 0, .int .i64 0, .slice none 0 0, .int .i64 0, .int .i64 0, .int .i64 0, .int .i64 0] 63 (0, 0)) := (hb3.block _ hlt).trans (heap_alloc_new w2 _); obtain ⟨⟨u0, u1, u2, u3, u4, u5, u6⟩, ⟨f0, f1, f2, f3, f4, f5, f6⟩⟩ := blk_free k3; obtain ⟨-, -, -, -, -, -, -, k7, g7⟩ := blk_seven k3 (.int .i64 (k : Int)) (.int .i64 (q[k].1.1.2 + 3)) (.slice a3 l.length c3) (.int .i64 1) (.int .i64 q[k].1.1.2) (.int .i64 (k : Int)) (.int .i64 0); have HK7 : Hid (_ = some (Obj.cells #[.int .i64 (k : Int), .int .i64 (q[k].1.1.2 + 3), .slice a3 l.length c3, .int .i64 1, .int .i64 q[k].1.1.2, .int .i64 (k : Int), .int .i64 0] 63 (0, 0))) := k7; have HG7 : Hid (w3.grownBy _ (some w2.heap.size)) := g7; have HB7 : Hid (Below w2.heap.size w2 _) := HB3.out.grown g7 HB3.out.size (fun k' hk' => by cases hk'; exact Nat.le_refl _); have HS7 : Hid (_ = some (Value.int .i64 q[k].1.1.2)) := (grown_cell g7 (Nat.lt_of_lt_of_le hgw HB3.out.size) (fun e => by have := Option.some.inj e; omega)).trans (HS.out _ HB3.out); clear hl hown3 hb3 k3 k7 g7 hlt))
    · obtain ⟨V, hV⟩ : ∃ V, V = w3.alloc (.cells #[.int .i64 (k : Int), .int .i64 (q[k].1.1.2 + 3), .slice a3 l.length c3, .int .i64 1, .int .i64 q[k].1.1.2, .int .i64 (k : Int), .int .i64 0] 63) := ⟨_, rfl⟩
      have hbV : Below w3.heap.size w3 V := by rw [hV]; exact ba (Below.refl _ _) _
      have hXV : V.heap[w3.heap.size]? = some (.cells (blkA (nb (bks q) k l) (.slice a3 l.length c3)) 63 (0, 0)) := by rw [hV, heap_alloc_new w3 _]; simp only [nb, HVW.out]
      rw [← hV]
      clear hV
      have HBV : Hid (Below w2.heap.size w2 V) := bt HB3.out hbV
      have HCV : Hid (V.ownsRow w2.heap.size 29 3 (.slice a3 l.length c3) l.length (flatR cmdF l)) := own_kept HC3.out hbV
      obtain ⟨N5, hN5⟩ : ∃ N5, N5 = w3.heap.size := ⟨_, rfl⟩
      rw [← hN5] at hXV ⊢
      have hN2 : w2.heap.size ≤ N5 := by omega
      clear hN5 hbV
      go_wp2_with fail
      go_meet
      case rel => exact ⟨N5, l, a3, c3, rfl, HL.out, hN2, hXV, HCV.out, HBV.out⟩
    · obtain ⟨V, hV⟩ : ∃ V, V = (((((((w3.setCell ⟨w2.heap.size, 0, none⟩ (.int .i64 (k : Int))).setCell ⟨w2.heap.size, 1, none⟩ (.int .i64 (q[k].1.1.2 + 3))).setCell ⟨w2.heap.size, 2, none⟩ (.slice a3 l.length c3)).setCell ⟨w2.heap.size, 3, none⟩ (.int .i64 1)).setCell ⟨w2.heap.size, 4, none⟩ (.int .i64 q[k].1.1.2)).setCell ⟨w2.heap.size, 5, none⟩ (.int .i64 (k : Int))).setCell ⟨w2.heap.size, 6, none⟩ (.int .i64 0)) := ⟨_, rfl⟩
      rw [← hV] at HK7 HG7 HB7 ⊢
      have hXV : V.heap[w2.heap.size]? = some (.cells (blkA (nb (bks q) k l) (.slice a3 l.length c3)) 63 (0, 0)) := by rw [HK7.out]; simp only [nb, HVW.out]
      have HBV : Hid (Below w2.heap.size w2 V) := HB7.out
      have HCV : Hid (V.ownsRow w2.heap.size 29 3 (.slice a3 l.length c3) l.length (flatR cmdF l)) := own_base (World.ownsRow.kept HC3.out HG7.out (own_far HC3.out (Nat.lt_succ_self _))) (Nat.le_succ _)
      obtain ⟨N5, hN5⟩ : ∃ N5, N5 = w2.heap.size := ⟨_, rfl⟩
      rw [← hN5] at hXV ⊢
      have hN2 : w2.heap.size ≤ N5 := by omega
      clear hN5 hV u0 u1 u2 u3 u4 u5 u6 f0 f1 f2 f3 f4 f5 f6 HS7 HK7 HG7 HB7
      go_wp2_with fail
      go_meet
      case rel => exact ⟨N5, l, a3, c3, rfl, HL.out, hN2, hXV, HCV.out, HBV.out⟩
  case rest =>
    obtain ⟨N5, l, a3, c3, rfl, hl, hN2, hXV, hcv, hbv⟩ := hcut
    obtain ⟨V, hV⟩ : ∃ V, V = wc := ⟨_, rfl⟩
    rw [← hV] at hXV hcv hbv ⊢
    clear hV
    have HL : Hid (smallC l) := hl
    have HCV : Hid (V.ownsRow w2.heap.size 29 3 (.slice a3 l.length c3) l.length (flatR cmdF l)) := hcv
    have HBV : Hid (Below w2.heap.size w2 V) := hbv
    clear hl hcv hbv
    obtain ⟨d, hd⟩ : ∃ d, d = nb (bks q) k l := ⟨_, rfl⟩
    rw [← hd] at hXV
    have HDB : Hid (blockB (bks q) d = true) := (by rw [hd]; exact nb_ok (by rw [bks_len]; exact hkq) (by rw [HVW.out]; omega) HL.out : blockB (bks q) d = true)
    have HDN : Hid (d ∉ bks q) := (by rw [hd]; exact HD.out.far (k := k) rfl rfl : d ∉ bks q)
    have HDL : Hid (d.2.1 = l) := (by rw [hd]; rfl : d.2.1 = l)
    have HDO : Hid (okB d) := small_ok (by rw [HDL.out]; exact HL.out)
    have HOKQ : Hid (okT (bks q)) := drw_ok HD.out (by omega)
    have HP1 : Hid (putAt (bks q) d = (q.length : Int) ∧ putT (bks q) d = bks q ++ [d]) := (by have := put_new_of HDB.out HDN.out (by rw [bks_len]; omega); rw [bks_len] at this; exact this : putAt (bks q) d = (q.length : Int) ∧ putT (bks q) d = bks q ++ [d])
    have HP2 : Hid (putAt (bks q ++ [d]) d = (q.length : Int) ∧ putT (bks q ++ [d]) d = bks q ++ [d]) := (by have := put_again HDN.out; rw [bks_len] at this; exact this : putAt (bks q ++ [d]) d = (q.length : Int) ∧ putT (bks q ++ [d]) d = bks q ++ [d])
    have HT3 : Hid (treeB (bks q ++ [d]) = true) := treeB_push HD.out.tree HDB.out HDN.out (by rw [bks_len]; omega)
    have HBA3 : Hid (blockAt (bks q ++ [d]) d = (q.length : Int)) := (by have := blockAt_new HDN.out; rw [bks_len] at this; exact this : blockAt (bks q ++ [d]) d = (q.length : Int))
    have HOKN : Hid (okT (bks q ++ [d])) := ⟨by rw [List.length_append, bks_len]; simp; omega, fun x hx => by
      rcases List.mem_append.1 hx with h | h
      · exact HOKQ.out.2 x h
      · rw [List.mem_singleton] at h; subst h; exact HDO.out⟩
    have HXV : Hid (V.heap[N5]? = some (.cells (blkA d (.slice a3 l.length c3)) 63 (0, 0))) := hXV
    have hNV : N5 < V.heap.size := (Array.getElem?_eq_some_iff.1 hXV).1
    have HRV : Hid (TreeR V (.slice (some ⟨g, 0, none⟩) q.length c1) q) := (HO2.out.below HBV.out).read
    have HCR : Hid (RowsR V (.slice a3 l.length c3) 3 cmdF d.2.1) := (by rw [HDL.out]; exact rows_of_own cmdF_len HCV.out : RowsR V (.slice a3 l.length c3) 3 cmdF d.2.1)
    have HBw : Hid (Below w.heap.size w V) := bt HB2.out HBV.out
    clear hd hXV HKK hn0 hn1 hwrap HS HBD HVW HBA hgw hv0 hv1 qk0 qk1 HO2 HB2 HL HDL HCV HBV HXL
    obtain ⟨y0, y1, y2, y3, y4, y5, y6⟩ := blk_cells (b := d) HXV.out
    go_wp2_with fail
    refine (putBlock_i q _ d (.slice a3 l.length c3) V HRV.out HCR.out HOKQ.out HDO.out).mono ?_
    rintro e w4 ⟨v4, q4, rfl, hq4, hown4, hb4⟩
    rw [HP1.out.1]
    rw [HP1.out.2] at hq4
    have HQ4 : Hid (bks q4 = bks q ++ [d]) := hq4
    have HL4 : Hid (q4.length = q.length + 1) := (by have := congrArg List.length hq4; rw [bks_len, List.length_append, bks_len] at this; exact this : q4.length = q.length + 1)
    obtain ⟨a4, c4, h4, hz4⟩ := own_form hown4.row
    rw [HL4.out] at h4 hz4
    subst h4
    obtain ⟨g4, rfl⟩ := hz4 (by omega)
    clear hz4
    have HR4 : Hid (TreeR w4 (.slice (some ⟨g4, 0, none⟩) (q.length + 1) c4) q4) := hown4.read
    have HB4 : Hid (Below V.heap.size V w4) := hb4
    have hs4 := hb4.size
    clear hq4 hown4 hb4 y0 y1 y2 y3 y4 y5 y6
    obtain ⟨y0, y1, y2, y3, y4, y5, y6⟩ := blk_cells (b := d) ((HB4.out.block _ hNV).trans HXV.out)
    go_wp2_with fail
    have hp4 := putBlock_i q4 (.slice (some ⟨g4, 0, none⟩) (q.length + 1) c4) d (.slice a3 l.length c3) w4 HR4.out (HCR.out.below HB4.out) (by rw [HQ4.out]; exact HOKN.out) HDO.out
    rw [HQ4.out, HP2.out.1, HP2.out.2] at hp4
    refine hp4.mono ?_
    rintro e w5 ⟨v5, q5, rfl, hq5, hown5, hb5⟩
    have HQ5 : Hid (bks q5 = bks q ++ [d]) := hq5
    have HR5 : Hid (TreeR w5 v5 q5) := hown5.read
    have HB5 : Hid (Below w4.heap.size w4 w5) := hb5
    have HBV5 : Hid (Below V.heap.size V w5) := bt HB4.out hb5
    have hs5 := hb5.size
    clear hp4 hq5 hown5 hb5 y0 y1 y2 y3 y4 y5 y6
    go_wp2_with fail
    refine (drawPut_any (HC.out.below (bt HBw.out HBV5.out))).mono ?_
    rintro e w6 ⟨v6, q6, d6, cd6, rfl, hok6, hokd6, hT6, hR6, hb6⟩
    have HOK6 : Hid (okT (bks q6)) := hok6
    have HOD6 : Hid (okB d6) := hokd6
    obtain ⟨ad6, pd6, h4⟩ := rows_form hR6
    subst h4
    obtain ⟨W6, hW6⟩ : ∃ W6, W6 = w6.alloc (.cells (blkA d6 (.slice ad6 d6.2.1.length pd6)) 63) := ⟨_, rfl⟩
    have hbW6 : Below w6.heap.size w6 W6 := by rw [hW6]; exact ba (Below.refl _ _) _
    have HX6 : Hid (W6.heap[w6.heap.size]? = some (.cells (blkA d6 (.slice ad6 d6.2.1.length pd6)) 63 (0, 0))) := (by rw [hW6]; exact heap_alloc_new w6 _ : W6.heap[w6.heap.size]? = some (.cells (blkA d6 (.slice ad6 d6.2.1.length pd6)) 63 (0, 0)))
    have h6W : w6.heap.size < W6.heap.size := (Array.getElem?_eq_some_iff.1 HX6.out).1
    have HT6 : Hid (TreeR W6 v6 q6) := hT6.below hbW6
    have HR6 : Hid (RowsR W6 (.slice ad6 d6.2.1.length pd6) 3 cmdF d6.2.1) := hR6.below hbW6
    have HB6 : Hid (Below w5.heap.size w5 W6) := bt hb6 hbW6
    have hs6 := hb6.size
    clear hok6 hokd6 hT6 hR6 hb6 hbW6
    unfold blkV
    go_wp2_with fail
    rw [← hW6]
    clear hW6
    refine (putBlock_i q6 v6 d6 _ W6 HT6.out HR6.out HOK6.out HOD6.out).mono ?_
    rintro e w7 ⟨v7, q7, rfl, hq7, hown7, hb7⟩
    have HQ7 : Hid (bks q7 = putT (bks q6) d6) := hq7
    have HR7 : Hid (TreeR w7 v7 q7) := hown7.read
    have HB7 : Hid (Below W6.heap.size W6 w7) := hb7
    have hs7 := hb7.size
    clear hq7 hown7 hb7
    obtain ⟨y0, y1, y2, y3, y4, y5, y6⟩ := blk_cells (b := d6) ((HB7.out.block _ h6W).trans HX6.out)
    go_wp2_with fail
    refine (putBlock_s q6 v6 d6 _ w7 (HT6.out.below HB7.out) (HR6.out.below HB7.out) HOK6.out HOD6.out).mono ?_
    rintro e w8 ⟨v8, q8, rfl, hq8, hown8, hb8⟩
    have HQ8 : Hid (bks q8 = putT (bks q6) d6) := hq8
    have HR8 : Hid (TreeR w8 v8 q8) := hown8.read
    have HB8 : Hid (Below W6.heap.size W6 w8) := bt HB7.out hb8
    have HB78 : Hid (Below w7.heap.size w7 w8) := hb8
    have hs8 := hb8.size
    clear hq8 hown8 hb8 y0 y1 y2 y3 y4 y5 y6
    go_wp2_with fail
    refine (drawTreeOk_any (HC.out.below (bt (bt (bt HBw.out HBV5.out) HB6.out) HB8.out))).mono ?_
    rintro e w9 ⟨v9, q9, rfl, hbt9, hown9, hb9⟩
    have HOK9 : Hid (okT (bks q9)) := hbt9.ok (by omega)
    have HR9 : Hid (TreeR w9 v9 q9) := hown9.read
    have HB89 : Hid (Below w8.heap.size w8 w9) := hb9
    have hs9 := hb9.size
    clear hbt9 hown9 hb9
    go_wp2_with fail
    refine (drawSame_any (HC.out.below (bt (bt (bt (bt HBw.out HBV5.out) HB6.out) HB8.out) HB89.out))).mono ?_
    rintro e w10 ⟨e1, ce1, e2, ce2, rfl, hbe1, hbe2, hre1, hre2, hb10⟩
    obtain ⟨a11, p11, h4⟩ := rows_form hre1
    subst h4
    obtain ⟨a12, p12, h4⟩ := rows_form hre2
    subst h4
    have HOE1 : Hid (okB e1) := hbe1.ok
    have HOE2 : Hid (okB e2) := hbe2.ok
    have HRE1 : Hid (RowsR w10 (.slice a11 e1.2.1.length p11) 3 cmdF e1.2.1) := hre1
    have HRE2 : Hid (RowsR w10 (.slice a12 e2.2.1.length p12) 3 cmdF e2.2.1) := hre2
    have HB9A : Hid (Below w9.heap.size w9 w10) := hb10
    have hs10 := hb10.size
    clear hbe1 hbe2 hre1 hre2 hb10
    unfold blkV
    obtain ⟨W10, hW10⟩ : ∃ W10, W10 = (w10.alloc (.cells (blkA e1 (.slice a11 e1.2.1.length p11)) 63)).alloc (.cells (blkA e2 (.slice a12 e2.2.1.length p12)) 63) := ⟨_, rfl⟩
    have HBX : Hid (Below w10.heap.size w10 W10) := (by rw [hW10]; exact ba (ba (Below.refl _ _) _) _ : Below w10.heap.size w10 W10)
    have HXE1 : Hid (W10.heap[w10.heap.size]? = some (.cells (blkA e1 (.slice a11 e1.2.1.length p11)) 63 (0, 0))) := (by rw [hW10]; exact box_cells (ba (Below.refl _ _) _) : W10.heap[w10.heap.size]? = some (.cells (blkA e1 (.slice a11 e1.2.1.length p11)) 63 (0, 0)))
    have HXE2 : Hid (W10.heap[w10.heap.size + 1]? = some (.cells (blkA e2 (.slice a12 e2.2.1.length p12)) 63 (0, 0))) := (by
      have := heap_alloc_new (w10.alloc (.cells (blkA e1 (.slice a11 e1.2.1.length p11)) 63)) (.cells (blkA e2 (.slice a12 e2.2.1.length p12)) 63)
      rw [show (w10.alloc (.cells (blkA e1 (.slice a11 e1.2.1.length p11)) 63)).heap.size = w10.heap.size + 1 by simp] at this
      rw [hW10]; exact this : W10.heap[w10.heap.size + 1]? = some (.cells (blkA e2 (.slice a12 e2.2.1.length p12)) 63 (0, 0)))
    go_wp2
    rw [← hW10]
    clear hW10
    obtain ⟨Z, hZ⟩ : ∃ Z, Z = W10.drew := ⟨_, rfl⟩
    have HZ10 : Hid (Below w10.heap.size w10 Z) := (by rw [hZ]; exact HBX.out.drew : Below w10.heap.size w10 Z)
    have HZ9 : Hid (Below w9.heap.size w9 Z) := bt HB9A.out HZ10.out
    have HZ8 : Hid (Below w8.heap.size w8 Z) := bt HB89.out HZ9.out
    have HZ7 : Hid (Below w7.heap.size w7 Z) := bt HB78.out HZ8.out
    have HZ6 : Hid (Below W6.heap.size W6 Z) := bt HB8.out HZ8.out
    have HZ5 : Hid (Below w5.heap.size w5 Z) := bt HB6.out HZ6.out
    have HZ4 : Hid (Below w4.heap.size w4 Z) := bt HB5.out HZ5.out
    have HZV : Hid (Below V.heap.size V Z) := bt HB4.out HZ4.out
    have HZw : Hid (Below w.heap.size w Z) := bt HBw.out HZV.out
    have kZ1 : Z.heap[N5]? = some (.cells (blkA d (.slice a3 l.length c3)) 63 (0, 0)) := (HZV.out.block _ hNV).trans HXV.out
    have kZ2 : Z.heap[w6.heap.size]? = some (.cells (blkA d6 (.slice ad6 d6.2.1.length pd6)) 63 (0, 0)) := (HZ6.out.block _ h6W).trans HX6.out
    have kZ3 : Z.heap[w10.heap.size]? = some (.cells (blkA e1 (.slice a11 e1.2.1.length p11)) 63 (0, 0)) := by rw [hZ]; exact HXE1.out
    have kZ4 : Z.heap[w10.heap.size + 1]? = some (.cells (blkA e2 (.slice a12 e2.2.1.length p12)) 63 (0, 0)) := by rw [hZ]; exact HXE2.out
    have HSZ : Hid (∀ z, Below Z.heap.size Z z → (z.cell? ⟨N5, 0, none⟩ = some (.int .i64 d.1.1) ∧ z.cell? ⟨N5, 1, none⟩ = some (.int .i64 d.1.2) ∧ z.cell? ⟨N5, 2, none⟩ = some (.slice a3 l.length c3) ∧ z.cell? ⟨N5, 3, none⟩ = some (.int .i64 d.2.2.1) ∧ z.cell? ⟨N5, 4, none⟩ = some (.int .i64 d.2.2.2.1) ∧ z.cell? ⟨N5, 5, none⟩ = some (.int .i64 d.2.2.2.2.1) ∧ z.cell? ⟨N5, 6, none⟩ = some (.int .i64 d.2.2.2.2.2)) ∧ (z.cell? ⟨w6.heap.size, 0, none⟩ = some (.int .i64 d6.1.1) ∧ z.cell? ⟨w6.heap.size, 1, none⟩ = some (.int .i64 d6.1.2) ∧ z.cell? ⟨w6.heap.size, 2, none⟩ = some (.slice ad6 d6.2.1.length pd6) ∧ z.cell? ⟨w6.heap.size, 3, none⟩ = some (.int .i64 d6.2.2.1) ∧ z.cell? ⟨w6.heap.size, 4, none⟩ = some (.int .i64 d6.2.2.2.1) ∧ z.cell? ⟨w6.heap.size, 5, none⟩ = some (.int .i64 d6.2.2.2.2.1) ∧ z.cell? ⟨w6.heap.size, 6, none⟩ = some (.int .i64 d6.2.2.2.2.2)) ∧ (z.cell? ⟨w10.heap.size, 0, none⟩ = some (.int .i64 e1.1.1) ∧ z.cell? ⟨w10.heap.size, 1, none⟩ = some (.int .i64 e1.1.2) ∧ z.cell? ⟨w10.heap.size, 2, none⟩ = some (.slice a11 e1.2.1.length p11) ∧ z.cell? ⟨w10.heap.size, 3, none⟩ = some (.int .i64 e1.2.2.1) ∧ z.cell? ⟨w10.heap.size, 4, none⟩ = some (.int .i64 e1.2.2.2.1) ∧ z.cell? ⟨w10.heap.size, 5, none⟩ = some (.int .i64 e1.2.2.2.2.1) ∧ z.cell? ⟨w10.heap.size, 6, none⟩ = some (.int .i64 e1.2.2.2.2.2)) ∧ z.cell? ⟨(w10.heap.size + 1), 0, none⟩ = some (.int .i64 e2.1.1) ∧ z.cell? ⟨(w10.heap.size + 1), 1, none⟩ = some (.int .i64 e2.1.2) ∧ z.cell? ⟨(w10.heap.size + 1), 2, none⟩ = some (.slice a12 e2.2.1.length p12) ∧ z.cell? ⟨(w10.heap.size + 1), 3, none⟩ = some (.int .i64 e2.2.2.1) ∧ z.cell? ⟨(w10.heap.size + 1), 4, none⟩ = some (.int .i64 e2.2.2.2.1) ∧ z.cell? ⟨(w10.heap.size + 1), 5, none⟩ = some (.int .i64 e2.2.2.2.2.1) ∧ z.cell? ⟨(w10.heap.size + 1), 6, none⟩ = some (.int .i64 e2.2.2.2.2.2)) := fun z hz => ⟨blk_cells (b := d) ((hz.block _ (Array.getElem?_eq_some_iff.1 kZ1).1).trans kZ1), blk_cells (b := d6) ((hz.block _ (Array.getElem?_eq_some_iff.1 kZ2).1).trans kZ2), blk_cells (b := e1) ((hz.block _ (Array.getElem?_eq_some_iff.1 kZ3).1).trans kZ3), blk_cells (b := e2) ((hz.block _ (Array.getElem?_eq_some_iff.1 kZ4).1).trans kZ4)⟩
    have HCAP : Hid (q.length + 1 ≤ c4) := HR4.out.cap _ _ _ rfl
    have hcap := HCAP.out
    have m1 : (0 : Int) ≤ (q.length : Int) := by omega
    have m2 : (q.length : Int) ≤ (c4 : Int) := by omega
    have Q1 : Hid (∀ z, Below Z.heap.size Z z → Calls Try.prog 38 #[.slice (some ⟨g, 0, none⟩) q.length c1] z fun e z' => e = .returned (.bool true) ∧ Below z.heap.size z z') := fun z hz => by
      have := treeOk_i q _ z (HRV.out.below (bt HZV.out hz)) HOKQ.out
      rw [HD.out.tree] at this; exact this
    have Q2 : Hid (∀ z, Below Z.heap.size Z z → Calls Try.prog 38 #[.slice (some ⟨g4, 0, none⟩) (q.length + 1) c4] z fun e z' => e = .returned (.bool true) ∧ Below z.heap.size z z') := fun z hz => by
      have := treeOk_i q4 _ z (HR4.out.below (bt HZ4.out hz)) (by rw [HQ4.out]; exact HOKN.out)
      rw [HQ4.out, HT3.out] at this; exact this
    have Q3 : Hid (∀ z, Below Z.heap.size Z z → Calls Try.prog 39 #[v5, .slice (some ⟨g4, 0, none⟩) (q.length + 1) c4] z fun e z' => e = .returned (.bool true) ∧ Below z.heap.size z z') := fun z hz => sameTree_yes q5 q4 _ _ z (HR5.out.below (bt HZ5.out hz)).q (HR4.out.below (bt HZ4.out hz)).q (by rw [HQ5.out, HQ4.out]) (by rw [HQ5.out]; exact HOKN.out)
    have HTK : Hid (bks (q4.take q.length) = bks q) := (by rw [bks_take, HQ4.out, List.take_left' (bks_len q)] : bks (q4.take q.length) = bks q)
    have Q4 : Hid (∀ z, Below Z.heap.size Z z → Calls Try.prog 39 #[.slice (some ⟨g4, 0, none⟩) q.length c4, .slice (some ⟨g, 0, none⟩) q.length c1] z fun e z' => e = .returned (.bool true) ∧ Below z.heap.size z z') := fun z hz => sameTree_yes (q4.take q.length) q _ _ z ((HR4.out.below (bt HZ4.out hz)).take q.length (by rw [HL4.out]; omega) c4 (by omega)).q (HRV.out.below (bt HZV.out hz)).q HTK.out (by rw [HTK.out]; exact HOKQ.out)
    have Q5 : Hid (∀ z, Below Z.heap.size Z z → Calls Try.prog 40 #[.slice (some ⟨g4, 0, none⟩) (q.length + 1) c4, .agg (blkA d (.slice a3 l.length c3))] z fun e z' => e = .returned (.int .i64 (q.length : Int)) ∧ Below z.heap.size z z') := fun z hz => by
      have := blockAt_i q4 (.slice (some ⟨g4, 0, none⟩) (q.length + 1) c4) d (.slice a3 l.length c3) z (HR4.out.below (bt HZ4.out hz)) (HCR.out.below (bt HZV.out hz)) (by rw [HQ4.out]; exact HOKN.out) HDO.out
      rw [HQ4.out, HBA3.out] at this; exact this
    have HOK7 : Hid (okT (bks q7)) := (by rw [HQ7.out]; exact okT_put HOK6.out HOD6.out : okT (bks q7))
    have Q6 : Hid (∀ z, Below Z.heap.size Z z → Calls Try.prog 39 #[v7, v8] z fun e z' => e = .returned (.bool true) ∧ Below z.heap.size z z') := fun z hz => sameTree_yes q7 q8 _ _ z (HR7.out.below (bt HZ7.out hz)).q (HR8.out.below (bt HZ8.out hz)).q (by rw [HQ7.out, HQ8.out]) HOK7.out
    have Q7 : Hid (∀ z, Below Z.heap.size Z z → Calls Try.prog 38 #[v9] z fun e z' => e = .returned (.bool (treeB (bks q9))) ∧ Below z.heap.size z z') := fun z hz => treeOk_i q9 _ z (HR9.out.below (bt HZ9.out hz)) HOK9.out
    have Q8 : Hid (∀ z, Below Z.heap.size Z z → Calls Try.prog 41 #[v9] z fun e z' => e = .returned (.bool (treeB (bks q9))) ∧ Below z.heap.size z z') := fun z hz => treeOk_s q9 _ z (HR9.out.below (bt HZ9.out hz)) HOK9.out
    have Q9 : Hid (∀ z, Below Z.heap.size Z z → Calls Try.prog 42 #[.agg (blkA e1 (.slice a11 e1.2.1.length p11)), .agg (blkA e2 (.slice a12 e2.2.1.length p12))] z fun e z' => e = .returned (.bool (decide (e1 = e2))) ∧ Below z.heap.size z z') := fun z hz => same_i e1 e2 _ _ z (HRE1.out.below (bt HZ10.out hz)) (HRE2.out.below (bt HZ10.out hz)) HOE1.out HOE2.out
    have Q10 : Hid (∀ z, Below Z.heap.size Z z → Calls Try.prog 43 #[.agg (blkA e1 (.slice a11 e1.2.1.length p11)), .agg (blkA e2 (.slice a12 e2.2.1.length p12))] z fun e z' => e = .returned (.bool (decide (e1 = e2))) ∧ Below z.heap.size z z') := fun z hz => same_s e1 e2 _ _ z (HRE1.out.below (bt HZ10.out hz)) (HRE2.out.below (bt HZ10.out hz)) HOE1.out.1 HOE2.out.1
    have Q11 : Hid (∀ z, Below Z.heap.size Z z → Calls Try.prog 44 #[v6, .agg (blkA d6 (.slice ad6 d6.2.1.length pd6))] z fun e z' => e = .returned (.bool (blockB (bks q6) d6)) ∧ Below z.heap.size z z') := fun z hz => blockOk_i q6 v6 d6 _ z (HT6.out.below (bt HZ6.out hz)) (HR6.out.below (bt HZ6.out hz)) HOK6.out HOD6.out
    have Q12 : Hid (∀ z, Below Z.heap.size Z z → Calls Try.prog 45 #[v6, .agg (blkA d6 (.slice ad6 d6.2.1.length pd6))] z fun e z' => e = .returned (.bool (blockB (bks q6) d6)) ∧ Below z.heap.size z z') := fun z hz => blockOk_s q6 v6 d6 _ z (HT6.out.below (bt HZ6.out hz)) (HR6.out.below (bt HZ6.out hz)) (by have := HOK6.out.1; rw [bks_len] at this; exact this) HOD6.out
    obtain ⟨r7, hr7⟩ : ∃ r7, r7 = treeB (bks q9) := ⟨_, rfl⟩
    obtain ⟨r9, hr9⟩ : ∃ r9, r9 = decide (e1 = e2) := ⟨_, rfl⟩
    obtain ⟨r11, hr11⟩ : ∃ r11, r11 = blockB (bks q6) d6 := ⟨_, rfl⟩
    rw [← hr7] at Q7 Q8
    rw [← hr9] at Q9 Q10
    rw [← hr11] at Q11 Q12
    clear hr7 hr9 hr11 kZ1 kZ2 kZ3 kZ4
    refine wp_region_H (fun z => (z.cell? ⟨N5, 0, none⟩ = some (.int .i64 d.1.1) ∧ z.cell? ⟨N5, 1, none⟩ = some (.int .i64 d.1.2) ∧ z.cell? ⟨N5, 2, none⟩ = some (.slice a3 l.length c3) ∧ z.cell? ⟨N5, 3, none⟩ = some (.int .i64 d.2.2.1) ∧ z.cell? ⟨N5, 4, none⟩ = some (.int .i64 d.2.2.2.1) ∧ z.cell? ⟨N5, 5, none⟩ = some (.int .i64 d.2.2.2.2.1) ∧ z.cell? ⟨N5, 6, none⟩ = some (.int .i64 d.2.2.2.2.2)) ∧ (z.cell? ⟨w6.heap.size, 0, none⟩ = some (.int .i64 d6.1.1) ∧ z.cell? ⟨w6.heap.size, 1, none⟩ = some (.int .i64 d6.1.2) ∧ z.cell? ⟨w6.heap.size, 2, none⟩ = some (.slice ad6 d6.2.1.length pd6) ∧ z.cell? ⟨w6.heap.size, 3, none⟩ = some (.int .i64 d6.2.2.1) ∧ z.cell? ⟨w6.heap.size, 4, none⟩ = some (.int .i64 d6.2.2.2.1) ∧ z.cell? ⟨w6.heap.size, 5, none⟩ = some (.int .i64 d6.2.2.2.2.1) ∧ z.cell? ⟨w6.heap.size, 6, none⟩ = some (.int .i64 d6.2.2.2.2.2)) ∧ (z.cell? ⟨w10.heap.size, 0, none⟩ = some (.int .i64 e1.1.1) ∧ z.cell? ⟨w10.heap.size, 1, none⟩ = some (.int .i64 e1.1.2) ∧ z.cell? ⟨w10.heap.size, 2, none⟩ = some (.slice a11 e1.2.1.length p11) ∧ z.cell? ⟨w10.heap.size, 3, none⟩ = some (.int .i64 e1.2.2.1) ∧ z.cell? ⟨w10.heap.size, 4, none⟩ = some (.int .i64 e1.2.2.2.1) ∧ z.cell? ⟨w10.heap.size, 5, none⟩ = some (.int .i64 e1.2.2.2.2.1) ∧ z.cell? ⟨w10.heap.size, 6, none⟩ = some (.int .i64 e1.2.2.2.2.2)) ∧ z.cell? ⟨(w10.heap.size + 1), 0, none⟩ = some (.int .i64 e2.1.1) ∧ z.cell? ⟨(w10.heap.size + 1), 1, none⟩ = some (.int .i64 e2.1.2) ∧ z.cell? ⟨(w10.heap.size + 1), 2, none⟩ = some (.slice a12 e2.2.1.length p12) ∧ z.cell? ⟨(w10.heap.size + 1), 3, none⟩ = some (.int .i64 e2.2.2.1) ∧ z.cell? ⟨(w10.heap.size + 1), 4, none⟩ = some (.int .i64 e2.2.2.2.1) ∧ z.cell? ⟨(w10.heap.size + 1), 5, none⟩ = some (.int .i64 e2.2.2.2.2.1) ∧ z.cell? ⟨(w10.heap.size + 1), 6, none⟩ = some (.int .i64 e2.2.2.2.2.2)) (by kernel_rfl) ?_
    simp only [List.append]
    show wpAnyH Try.prog _ _ _ _ 79 (Array.replicate 79 false) _ _
    rw [← hZ]
    clear hZ
    have e0 : ((q.length : Int) == (q.length : Int)) = true := by simp
    have e1' : (putAt (bks q6) d6 == putAt (bks q6) d6) = true := by simp
    have e2' : (r7 == r7) = true := by simp
    have e3' : (r9 == r9) = true := by simp
    have e4' : (r11 == r11) = true := by simp
    have b0 : Hid (Below Z.heap.size Z Z) := Below.refl _ _
    have S0 : Hid ((Z.cell? ⟨N5, 0, none⟩ = some (.int .i64 d.1.1) ∧ Z.cell? ⟨N5, 1, none⟩ = some (.int .i64 d.1.2) ∧ Z.cell? ⟨N5, 2, none⟩ = some (.slice a3 l.length c3) ∧ Z.cell? ⟨N5, 3, none⟩ = some (.int .i64 d.2.2.1) ∧ Z.cell? ⟨N5, 4, none⟩ = some (.int .i64 d.2.2.2.1) ∧ Z.cell? ⟨N5, 5, none⟩ = some (.int .i64 d.2.2.2.2.1) ∧ Z.cell? ⟨N5, 6, none⟩ = some (.int .i64 d.2.2.2.2.2)) ∧ (Z.cell? ⟨w6.heap.size, 0, none⟩ = some (.int .i64 d6.1.1) ∧ Z.cell? ⟨w6.heap.size, 1, none⟩ = some (.int .i64 d6.1.2) ∧ Z.cell? ⟨w6.heap.size, 2, none⟩ = some (.slice ad6 d6.2.1.length pd6) ∧ Z.cell? ⟨w6.heap.size, 3, none⟩ = some (.int .i64 d6.2.2.1) ∧ Z.cell? ⟨w6.heap.size, 4, none⟩ = some (.int .i64 d6.2.2.2.1) ∧ Z.cell? ⟨w6.heap.size, 5, none⟩ = some (.int .i64 d6.2.2.2.2.1) ∧ Z.cell? ⟨w6.heap.size, 6, none⟩ = some (.int .i64 d6.2.2.2.2.2)) ∧ (Z.cell? ⟨w10.heap.size, 0, none⟩ = some (.int .i64 e1.1.1) ∧ Z.cell? ⟨w10.heap.size, 1, none⟩ = some (.int .i64 e1.1.2) ∧ Z.cell? ⟨w10.heap.size, 2, none⟩ = some (.slice a11 e1.2.1.length p11) ∧ Z.cell? ⟨w10.heap.size, 3, none⟩ = some (.int .i64 e1.2.2.1) ∧ Z.cell? ⟨w10.heap.size, 4, none⟩ = some (.int .i64 e1.2.2.2.1) ∧ Z.cell? ⟨w10.heap.size, 5, none⟩ = some (.int .i64 e1.2.2.2.2.1) ∧ Z.cell? ⟨w10.heap.size, 6, none⟩ = some (.int .i64 e1.2.2.2.2.2)) ∧ Z.cell? ⟨(w10.heap.size + 1), 0, none⟩ = some (.int .i64 e2.1.1) ∧ Z.cell? ⟨(w10.heap.size + 1), 1, none⟩ = some (.int .i64 e2.1.2) ∧ Z.cell? ⟨(w10.heap.size + 1), 2, none⟩ = some (.slice a12 e2.2.1.length p12) ∧ Z.cell? ⟨(w10.heap.size + 1), 3, none⟩ = some (.int .i64 e2.2.2.1) ∧ Z.cell? ⟨(w10.heap.size + 1), 4, none⟩ = some (.int .i64 e2.2.2.2.1) ∧ Z.cell? ⟨(w10.heap.size + 1), 5, none⟩ = some (.int .i64 e2.2.2.2.2.1) ∧ Z.cell? ⟨(w10.heap.size + 1), 6, none⟩ = some (.int .i64 e2.2.2.2.2.2)) := HSZ.out _ b0.out
    refine wpAnyH_take (i := 0) (v := ?_) rfl (by kernel_rfl) (by kernel_rfl) (by kernel_rfl) (fun _ _ _ h => h) (Or.inl ⟨by kernel_rfl, ?_⟩) S0.out ?_
    rotate_left
    · intro w' hC'
      clear hC'
      go_simp
      try with_reducible rfl
    simp only [Act.put]
    refine wpAnyH_one (i := 1) (by kernel_rfl) rfl ?_
    intro K hK
    go_simp
    refine (Q1.out _ b0.out).mono ?_
    rintro e z1 ⟨rfl, hz1⟩
    have b1 : Hid (Below Z.heap.size Z z1) := bt b0.out hz1
    clear hz1
    dsimp only
    refine hK.out _ _ (HSZ.out _ b1.out) ?_
    clear hK K
    try simp only [Act.put]
    refine wpAnyH_take (i := 2) (v := ?_) rfl (by kernel_rfl) (by kernel_rfl) (by kernel_rfl) (fun _ _ _ h => h) (Or.inl ⟨by kernel_rfl, ?_⟩) (HSZ.out _ b1.out) ?_
    rotate_left
    · intro w' hC'
      clear hC'
      go_simp
      try with_reducible rfl
    simp only [Act.put, List.getElem_toArray, List.getElem_cons_succ, List.getElem_cons_zero, List.setIfInBounds_toArray, List.set_cons_succ, List.set_cons_zero]
    refine wpAnyH_take (i := 3) (v := ?_) rfl (by kernel_rfl) (by kernel_rfl) (by kernel_rfl) (fun _ _ _ h => h) (Or.inl ⟨by kernel_rfl, ?_⟩) (HSZ.out _ b1.out) ?_
    rotate_left
    · intro w' hC'
      clear hC'
      go_simp
      try with_reducible rfl
    simp only [Act.put, List.getElem_toArray, List.getElem_cons_succ, List.getElem_cons_zero, List.setIfInBounds_toArray, List.set_cons_succ, List.set_cons_zero]
    refine wpAnyH_take (i := 4) (v := ?_) rfl (by kernel_rfl) (by kernel_rfl) (by kernel_rfl) (fun _ _ _ h => h) (Or.inl ⟨by kernel_rfl, ?_⟩) (HSZ.out _ b1.out) ?_
    rotate_left
    · intro w' hC'
      clear hC'
      go_simp
      try with_reducible rfl
    simp only [Act.put, List.getElem_toArray, List.getElem_cons_succ, List.getElem_cons_zero, List.setIfInBounds_toArray, List.set_cons_succ, List.set_cons_zero]
    refine wpAnyH_take (i := 5) (v := ?_) rfl (by kernel_rfl) (by kernel_rfl) (by kernel_rfl) (fun _ _ _ h => h) (Or.inl ⟨by kernel_rfl, ?_⟩) (HSZ.out _ b1.out) ?_
    rotate_left
    · intro w' hC'
      clear hC'
      go_simp
      try with_reducible rfl
    simp only [Act.put, List.getElem_toArray, List.getElem_cons_succ, List.getElem_cons_zero, List.setIfInBounds_toArray, List.set_cons_succ, List.set_cons_zero]
    refine wpAnyH_take (i := 6) (v := .bool true) rfl (by kernel_rfl) (by kernel_rfl) (by kernel_rfl) (fun _ _ _ h => h) (Or.inl ⟨by kernel_rfl, ?_⟩) (HSZ.out _ b1.out) ?_
    · intro w' hC'
      clear hC'
      go_simp
      try with_reducible rfl
    simp only [Act.put, List.getElem_toArray, List.getElem_cons_succ, List.getElem_cons_zero, List.setIfInBounds_toArray, List.set_cons_succ, List.set_cons_zero]
    refine wpAnyH_take (i := 7) (v := ?_) rfl (by kernel_rfl) (by kernel_rfl) (by kernel_rfl) (fun _ _ _ h => h) (Or.inl ⟨by kernel_rfl, ?_⟩) (HSZ.out _ b1.out) ?_
    rotate_left
    · intro w' hC'
      clear hC'
      go_simp
      try with_reducible rfl
    simp only [Act.put, List.getElem_toArray, List.getElem_cons_succ, List.getElem_cons_zero, List.setIfInBounds_toArray, List.set_cons_succ, List.set_cons_zero]
    refine wpAnyH_take (i := 8) (v := ?_) rfl (by kernel_rfl) (by kernel_rfl) (by kernel_rfl) (fun _ _ _ h => h) (Or.inl ⟨by kernel_rfl, ?_⟩) (HSZ.out _ b1.out) ?_
    rotate_left
    · intro w' hC'
      clear hC'
      go_simp
      try with_reducible rfl
    simp only [Act.put, List.getElem_toArray, List.getElem_cons_succ, List.getElem_cons_zero, List.setIfInBounds_toArray, List.set_cons_succ, List.set_cons_zero]
    refine wpAnyH_take (i := 9) (v := ?_) rfl (by kernel_rfl) (by kernel_rfl) (by kernel_rfl) (fun _ _ _ h => h) (Or.inl ⟨by kernel_rfl, ?_⟩) (HSZ.out _ b1.out) ?_
    rotate_left
    · intro w' hC'
      clear hC'
      go_simp
      try with_reducible rfl
    simp only [Act.put, List.getElem_toArray, List.getElem_cons_succ, List.getElem_cons_zero, List.setIfInBounds_toArray, List.set_cons_succ, List.set_cons_zero]
    refine wpAnyH_one (i := 10) (by kernel_rfl) rfl ?_
    intro K hK
    go_simp
    refine (Q2.out _ b1.out).mono ?_
    rintro e z2 ⟨rfl, hz2⟩
    have b2 : Hid (Below Z.heap.size Z z2) := bt b1.out hz2
    clear hz2
    dsimp only
    refine hK.out _ _ (HSZ.out _ b2.out) ?_
    clear hK K
    try simp only [Act.put]
    refine wpAnyH_take (i := 11) (v := ?_) rfl (by kernel_rfl) (by kernel_rfl) (by kernel_rfl) (fun _ _ _ h => h) (Or.inl ⟨by kernel_rfl, ?_⟩) (HSZ.out _ b2.out) ?_
    rotate_left
    · intro w' hC'
      clear hC'
      go_simp
      try with_reducible rfl
    simp only [Act.put, List.getElem_toArray, List.getElem_cons_succ, List.getElem_cons_zero, List.setIfInBounds_toArray, List.set_cons_succ, List.set_cons_zero]
    refine wpAnyH_take (i := 12) (v := ?_) rfl (by kernel_rfl) (by kernel_rfl) (by kernel_rfl) (fun _ _ _ h => h) (Or.inl ⟨by kernel_rfl, ?_⟩) (HSZ.out _ b2.out) ?_
    rotate_left
    · intro w' hC'
      clear hC'
      go_simp
      try with_reducible rfl
    simp only [Act.put, List.getElem_toArray, List.getElem_cons_succ, List.getElem_cons_zero, List.setIfInBounds_toArray, List.set_cons_succ, List.set_cons_zero]
    refine wpAnyH_take (i := 13) (v := ?_) rfl (by kernel_rfl) (by kernel_rfl) (by kernel_rfl) (fun _ _ _ h => h) (Or.inl ⟨by kernel_rfl, ?_⟩) (HSZ.out _ b2.out) ?_
    rotate_left
    · intro w' hC'
      clear hC'
      go_simp
      try with_reducible rfl
    simp only [Act.put, List.getElem_toArray, List.getElem_cons_succ, List.getElem_cons_zero, List.setIfInBounds_toArray, List.set_cons_succ, List.set_cons_zero]
    refine wpAnyH_take (i := 14) (v := ?_) rfl (by kernel_rfl) (by kernel_rfl) (by kernel_rfl) (fun _ _ _ h => h) (Or.inl ⟨by kernel_rfl, ?_⟩) (HSZ.out _ b2.out) ?_
    rotate_left
    · intro w' hC'
      clear hC'
      go_simp
      try with_reducible rfl
    simp only [Act.put, List.getElem_toArray, List.getElem_cons_succ, List.getElem_cons_zero, List.setIfInBounds_toArray, List.set_cons_succ, List.set_cons_zero]
    refine wpAnyH_take (i := 15) (v := .bool true) rfl (by kernel_rfl) (by kernel_rfl) (by kernel_rfl) (fun _ _ _ h => h) (Or.inl ⟨by kernel_rfl, ?_⟩) (HSZ.out _ b2.out) ?_
    · intro w' hC'
      clear hC'
      go_simp
      try with_reducible rfl
    simp only [Act.put, List.getElem_toArray, List.getElem_cons_succ, List.getElem_cons_zero, List.setIfInBounds_toArray, List.set_cons_succ, List.set_cons_zero]
    refine wpAnyH_take (i := 16) (v := ?_) rfl (by kernel_rfl) (by kernel_rfl) (by kernel_rfl) (fun _ _ _ h => h) (Or.inl ⟨by kernel_rfl, ?_⟩) (HSZ.out _ b2.out) ?_
    rotate_left
    · intro w' hC'
      clear hC'
      go_simp
      try with_reducible rfl
    simp only [Act.put, List.getElem_toArray, List.getElem_cons_succ, List.getElem_cons_zero, List.setIfInBounds_toArray, List.set_cons_succ, List.set_cons_zero]
    refine wpAnyH_take (i := 17) (v := ?_) rfl (by kernel_rfl) (by kernel_rfl) (by kernel_rfl) (fun _ _ _ h => h) (Or.inl ⟨by kernel_rfl, ?_⟩) (HSZ.out _ b2.out) ?_
    rotate_left
    · intro w' hC'
      clear hC'
      go_simp
      try with_reducible rfl
    simp only [Act.put, List.getElem_toArray, List.getElem_cons_succ, List.getElem_cons_zero, List.setIfInBounds_toArray, List.set_cons_succ, List.set_cons_zero]
    refine wpAnyH_take (i := 18) (v := ?_) rfl (by kernel_rfl) (by kernel_rfl) (by kernel_rfl) (fun _ _ _ h => h) (Or.inl ⟨by kernel_rfl, ?_⟩) (HSZ.out _ b2.out) ?_
    rotate_left
    · intro w' hC'
      clear hC'
      go_simp
      try with_reducible rfl
    simp only [Act.put, List.getElem_toArray, List.getElem_cons_succ, List.getElem_cons_zero, List.setIfInBounds_toArray, List.set_cons_succ, List.set_cons_zero]
    refine wpAnyH_take (i := 19) (v := ?_) rfl (by kernel_rfl) (by kernel_rfl) (by kernel_rfl) (fun _ _ _ h => h) (Or.inl ⟨by kernel_rfl, ?_⟩) (HSZ.out _ b2.out) ?_
    rotate_left
    · intro w' hC'
      clear hC'
      go_simp
      try with_reducible rfl
    simp only [Act.put, List.getElem_toArray, List.getElem_cons_succ, List.getElem_cons_zero, List.setIfInBounds_toArray, List.set_cons_succ, List.set_cons_zero]
    refine wpAnyH_one (i := 20) (by kernel_rfl) rfl ?_
    intro K hK
    go_simp
    refine (Q3.out _ b2.out).mono ?_
    rintro e z3 ⟨rfl, hz3⟩
    have b3 : Hid (Below Z.heap.size Z z3) := bt b2.out hz3
    clear hz3
    dsimp only
    refine hK.out _ _ (HSZ.out _ b3.out) ?_
    clear hK K
    try simp only [Act.put]
    refine wpAnyH_take (i := 21) (v := ?_) rfl (by kernel_rfl) (by kernel_rfl) (by kernel_rfl) (fun _ _ _ h => h) (Or.inl ⟨by kernel_rfl, ?_⟩) (HSZ.out _ b3.out) ?_
    rotate_left
    · intro w' hC'
      clear hC'
      go_simp
      try with_reducible rfl
    simp only [Act.put, List.getElem_toArray, List.getElem_cons_succ, List.getElem_cons_zero, List.setIfInBounds_toArray, List.set_cons_succ, List.set_cons_zero]
    refine wpAnyH_take (i := 22) (v := ?_) rfl (by kernel_rfl) (by kernel_rfl) (by kernel_rfl) (fun _ _ _ h => h) (Or.inl ⟨by kernel_rfl, ?_⟩) (HSZ.out _ b3.out) ?_
    rotate_left
    · intro w' hC'
      clear hC'
      go_simp
      try with_reducible rfl
    simp only [Act.put, List.getElem_toArray, List.getElem_cons_succ, List.getElem_cons_zero, List.setIfInBounds_toArray, List.set_cons_succ, List.set_cons_zero]
    refine wpAnyH_take (i := 23) (v := ?_) rfl (by kernel_rfl) (by kernel_rfl) (by kernel_rfl) (fun _ _ _ h => h) (Or.inl ⟨by kernel_rfl, ?_⟩) (HSZ.out _ b3.out) ?_
    rotate_left
    · intro w' hC'
      clear hC'
      go_simp
      try with_reducible rfl
    simp only [Act.put, List.getElem_toArray, List.getElem_cons_succ, List.getElem_cons_zero, List.setIfInBounds_toArray, List.set_cons_succ, List.set_cons_zero]
    refine wpAnyH_take (i := 24) (v := ?_) rfl (by kernel_rfl) (by kernel_rfl) (by kernel_rfl) (fun _ _ _ h => h) (Or.inl ⟨by kernel_rfl, ?_⟩) (HSZ.out _ b3.out) ?_
    rotate_left
    · intro w' hC'
      clear hC'
      go_simp
      try with_reducible rfl
    simp only [Act.put, List.getElem_toArray, List.getElem_cons_succ, List.getElem_cons_zero, List.setIfInBounds_toArray, List.set_cons_succ, List.set_cons_zero]
    refine wpAnyH_take (i := 25) (v := ?_) rfl (by kernel_rfl) (by kernel_rfl) (by kernel_rfl) (fun _ _ _ h => h) (Or.inl ⟨by kernel_rfl, ?_⟩) (HSZ.out _ b3.out) ?_
    rotate_left
    · intro w' hC'
      clear hC'
      go_simp
      try with_reducible rfl
    simp only [Act.put, List.getElem_toArray, List.getElem_cons_succ, List.getElem_cons_zero, List.setIfInBounds_toArray, List.set_cons_succ, List.set_cons_zero]
    refine wpAnyH_take (i := 26) (v := ?_) rfl (by kernel_rfl) (by kernel_rfl) (by kernel_rfl) (fun _ _ _ h => h) (Or.inl ⟨by kernel_rfl, ?_⟩) (HSZ.out _ b3.out) ?_
    rotate_left
    · intro w' hC'
      clear hC'
      go_simp
      try with_reducible rfl
    simp only [Act.put, List.getElem_toArray, List.getElem_cons_succ, List.getElem_cons_zero, List.setIfInBounds_toArray, List.set_cons_succ, List.set_cons_zero]
    refine wpAnyH_one (i := 27) (by kernel_rfl) rfl ?_
    intro K hK
    go_simp
    refine (Q4.out _ b3.out).mono ?_
    rintro e z4 ⟨rfl, hz4⟩
    have b4 : Hid (Below Z.heap.size Z z4) := bt b3.out hz4
    clear hz4
    dsimp only
    refine hK.out _ _ (HSZ.out _ b4.out) ?_
    clear hK K
    try simp only [Act.put]
    refine wpAnyH_take (i := 28) (v := ?_) rfl (by kernel_rfl) (by kernel_rfl) (by kernel_rfl) (fun _ _ _ h => h) (Or.inl ⟨by kernel_rfl, ?_⟩) (HSZ.out _ b4.out) ?_
    rotate_left
    · intro w' hC'
      clear hC'
      go_simp
      try with_reducible rfl
    simp only [Act.put, List.getElem_toArray, List.getElem_cons_succ, List.getElem_cons_zero, List.setIfInBounds_toArray, List.set_cons_succ, List.set_cons_zero]
    refine wpAnyH_take (i := 29) (v := ?_) rfl (by kernel_rfl) (by kernel_rfl) (by kernel_rfl) (fun _ _ _ h => h) (Or.inl ⟨by kernel_rfl, ?_⟩) (HSZ.out _ b4.out) ?_
    rotate_left
    · intro w' hC'
      clear hC'
      go_simp
      try with_reducible rfl
    simp only [Act.put, List.getElem_toArray, List.getElem_cons_succ, List.getElem_cons_zero, List.setIfInBounds_toArray, List.set_cons_succ, List.set_cons_zero]
    refine wpAnyH_take (i := 30) (v := ?_) rfl (by kernel_rfl) (by kernel_rfl) (by kernel_rfl) (fun _ _ _ h => h) (Or.inl ⟨by kernel_rfl, ?_⟩) (HSZ.out _ b4.out) ?_
    rotate_left
    · intro w' hC'
      clear hC'
      go_simp
      try with_reducible rfl
    simp only [Act.put, List.getElem_toArray, List.getElem_cons_succ, List.getElem_cons_zero, List.setIfInBounds_toArray, List.set_cons_succ, List.set_cons_zero]
    refine wpAnyH_take (i := 31) (v := ?_) rfl (by kernel_rfl) (by kernel_rfl) (by kernel_rfl) (fun _ _ _ h => h) (Or.inl ⟨by kernel_rfl, ?_⟩) (HSZ.out _ b4.out) ?_
    rotate_left
    · intro w' hC'
      go_simp
      try with_reducible rfl
    simp only [Act.put, List.getElem_toArray, List.getElem_cons_succ, List.getElem_cons_zero, List.setIfInBounds_toArray, List.set_cons_succ, List.set_cons_zero]
    refine wpAnyH_take (i := 33) (v := ?_) rfl (by kernel_rfl) (by kernel_rfl) (by kernel_rfl) (fun _ _ _ h => h) (Or.inl ⟨by kernel_rfl, ?_⟩) (HSZ.out _ b4.out) ?_
    rotate_left
    · intro w' hC'
      clear hC'
      go_simp
      try with_reducible rfl
    simp only [Act.put, List.getElem_toArray, List.getElem_cons_succ, List.getElem_cons_zero, List.setIfInBounds_toArray, List.set_cons_succ, List.set_cons_zero]
    refine wpAnyH_one (i := 32) (by kernel_rfl) rfl ?_
    intro K hK
    go_simp
    refine (Q5.out _ b4.out).mono ?_
    rintro e z5 ⟨rfl, hz5⟩
    have b5 : Hid (Below Z.heap.size Z z5) := bt b4.out hz5
    clear hz5
    dsimp only
    refine hK.out _ _ (HSZ.out _ b5.out) ?_
    clear hK K
    try simp only [Act.put]
    refine wpAnyH_take (i := 34) (v := .bool true) rfl (by kernel_rfl) (by kernel_rfl) (by kernel_rfl) (fun _ _ _ h => h) (Or.inl ⟨by kernel_rfl, ?_⟩) (HSZ.out _ b5.out) ?_
    · intro w' hC'
      clear hC'
      go_simp
      try with_reducible rfl
    simp only [Act.put, List.getElem_toArray, List.getElem_cons_succ, List.getElem_cons_zero, List.setIfInBounds_toArray, List.set_cons_succ, List.set_cons_zero]
    refine wpAnyH_take (i := 35) (v := ?_) rfl (by kernel_rfl) (by kernel_rfl) (by kernel_rfl) (fun _ _ _ h => h) (Or.inl ⟨by kernel_rfl, ?_⟩) (HSZ.out _ b5.out) ?_
    rotate_left
    · intro w' hC'
      clear hC'
      go_simp
      try with_reducible rfl
    simp only [Act.put, List.getElem_toArray, List.getElem_cons_succ, List.getElem_cons_zero, List.setIfInBounds_toArray, List.set_cons_succ, List.set_cons_zero]
    refine wpAnyH_take (i := 36) (v := ?_) rfl (by kernel_rfl) (by kernel_rfl) (by kernel_rfl) (fun _ _ _ h => h) (Or.inl ⟨by kernel_rfl, ?_⟩) (HSZ.out _ b5.out) ?_
    rotate_left
    · intro w' hC'
      clear hC'
      go_simp
      try with_reducible rfl
    simp only [Act.put, List.getElem_toArray, List.getElem_cons_succ, List.getElem_cons_zero, List.setIfInBounds_toArray, List.set_cons_succ, List.set_cons_zero]
    refine wpAnyH_take (i := 37) (v := ?_) rfl (by kernel_rfl) (by kernel_rfl) (by kernel_rfl) (fun _ _ _ h => h) (Or.inl ⟨by kernel_rfl, ?_⟩) (HSZ.out _ b5.out) ?_
    rotate_left
    · intro w' hC'
      clear hC'
      go_simp
      try with_reducible rfl
    simp only [Act.put, List.getElem_toArray, List.getElem_cons_succ, List.getElem_cons_zero, List.setIfInBounds_toArray, List.set_cons_succ, List.set_cons_zero]
    refine wpAnyH_take (i := 38) (v := ?_) rfl (by kernel_rfl) (by kernel_rfl) (by kernel_rfl) (fun _ _ _ h => h) (Or.inl ⟨by kernel_rfl, ?_⟩) (HSZ.out _ b5.out) ?_
    rotate_left
    · intro w' hC'
      clear hC'
      go_simp
      try with_reducible rfl
    simp only [Act.put, List.getElem_toArray, List.getElem_cons_succ, List.getElem_cons_zero, List.setIfInBounds_toArray, List.set_cons_succ, List.set_cons_zero]
    refine wpAnyH_take (i := 39) (v := .bool true) rfl (by kernel_rfl) (by kernel_rfl) (by kernel_rfl) (fun _ _ _ h => h) (Or.inl ⟨by kernel_rfl, ?_⟩) (HSZ.out _ b5.out) ?_
    · intro w' hC'
      clear hC'
      go_simp
      try with_reducible rfl
    simp only [Act.put, List.getElem_toArray, List.getElem_cons_succ, List.getElem_cons_zero, List.setIfInBounds_toArray, List.set_cons_succ, List.set_cons_zero]
    refine wpAnyH_take (i := 40) (v := ?_) rfl (by kernel_rfl) (by kernel_rfl) (by kernel_rfl) (fun _ _ _ h => h) (Or.inl ⟨by kernel_rfl, ?_⟩) (HSZ.out _ b5.out) ?_
    rotate_left
    · intro w' hC'
      clear hC'
      go_simp
      try with_reducible rfl
    simp only [Act.put, List.getElem_toArray, List.getElem_cons_succ, List.getElem_cons_zero, List.setIfInBounds_toArray, List.set_cons_succ, List.set_cons_zero]
    refine wpAnyH_take (i := 41) (v := ?_) rfl (by kernel_rfl) (by kernel_rfl) (by kernel_rfl) (fun _ _ _ h => h) (Or.inl ⟨by kernel_rfl, ?_⟩) (HSZ.out _ b5.out) ?_
    rotate_left
    · intro w' hC'
      clear hC'
      go_simp
      try with_reducible rfl
    simp only [Act.put, List.getElem_toArray, List.getElem_cons_succ, List.getElem_cons_zero, List.setIfInBounds_toArray, List.set_cons_succ, List.set_cons_zero]
    refine wpAnyH_take (i := 42) (v := ?_) rfl (by kernel_rfl) (by kernel_rfl) (by kernel_rfl) (fun _ _ _ h => h) (Or.inl ⟨by kernel_rfl, ?_⟩) (HSZ.out _ b5.out) ?_
    rotate_left
    · intro w' hC'
      clear hC'
      go_simp
      try with_reducible rfl
    simp only [Act.put, List.getElem_toArray, List.getElem_cons_succ, List.getElem_cons_zero, List.setIfInBounds_toArray, List.set_cons_succ, List.set_cons_zero]
    refine wpAnyH_take (i := 43) (v := ?_) rfl (by kernel_rfl) (by kernel_rfl) (by kernel_rfl) (fun _ _ _ h => h) (Or.inl ⟨by kernel_rfl, ?_⟩) (HSZ.out _ b5.out) ?_
    rotate_left
    · intro w' hC'
      clear hC'
      go_simp
      try with_reducible rfl
    simp only [Act.put, List.getElem_toArray, List.getElem_cons_succ, List.getElem_cons_zero, List.setIfInBounds_toArray, List.set_cons_succ, List.set_cons_zero]
    refine wpAnyH_one (i := 44) (by kernel_rfl) rfl ?_
    intro K hK
    go_simp
    refine (Q6.out _ b5.out).mono ?_
    rintro e z6 ⟨rfl, hz6⟩
    have b6 : Hid (Below Z.heap.size Z z6) := bt b5.out hz6
    clear hz6
    dsimp only
    refine hK.out _ _ (HSZ.out _ b6.out) ?_
    clear hK K
    try simp only [Act.put]
    refine wpAnyH_take (i := 45) (v := ?_) rfl (by kernel_rfl) (by kernel_rfl) (by kernel_rfl) (fun _ _ _ h => h) (Or.inl ⟨by kernel_rfl, ?_⟩) (HSZ.out _ b6.out) ?_
    rotate_left
    · intro w' hC'
      clear hC'
      go_simp
      try with_reducible rfl
    simp only [Act.put, List.getElem_toArray, List.getElem_cons_succ, List.getElem_cons_zero, List.setIfInBounds_toArray, List.set_cons_succ, List.set_cons_zero]
    refine wpAnyH_take (i := 46) (v := ?_) rfl (by kernel_rfl) (by kernel_rfl) (by kernel_rfl) (fun _ _ _ h => h) (Or.inl ⟨by kernel_rfl, ?_⟩) (HSZ.out _ b6.out) ?_
    rotate_left
    · intro w' hC'
      clear hC'
      go_simp
      try with_reducible rfl
    simp only [Act.put, List.getElem_toArray, List.getElem_cons_succ, List.getElem_cons_zero, List.setIfInBounds_toArray, List.set_cons_succ, List.set_cons_zero]
    refine wpAnyH_take (i := 47) (v := ?_) rfl (by kernel_rfl) (by kernel_rfl) (by kernel_rfl) (fun _ _ _ h => h) (Or.inl ⟨by kernel_rfl, ?_⟩) (HSZ.out _ b6.out) ?_
    rotate_left
    · intro w' hC'
      clear hC'
      go_simp
      try with_reducible rfl
    simp only [Act.put, List.getElem_toArray, List.getElem_cons_succ, List.getElem_cons_zero, List.setIfInBounds_toArray, List.set_cons_succ, List.set_cons_zero]
    refine wpAnyH_take (i := 49) (v := ?_) rfl (by kernel_rfl) (by kernel_rfl) (by kernel_rfl) (fun _ _ _ h => h) (Or.inl ⟨by kernel_rfl, ?_⟩) (HSZ.out _ b6.out) ?_
    rotate_left
    · intro w' hC'
      clear hC'
      go_simp
      try with_reducible rfl
    simp only [Act.put, List.getElem_toArray, List.getElem_cons_succ, List.getElem_cons_zero, List.setIfInBounds_toArray, List.set_cons_succ, List.set_cons_zero]
    refine wpAnyH_one (i := 48) (by kernel_rfl) rfl ?_
    intro K hK
    go_simp
    refine (Q7.out _ b6.out).mono ?_
    rintro e z7 ⟨rfl, hz7⟩
    have b7 : Hid (Below Z.heap.size Z z7) := bt b6.out hz7
    clear hz7
    dsimp only
    refine hK.out _ _ (HSZ.out _ b7.out) ?_
    clear hK K
    try simp only [Act.put]
    refine wpAnyH_one (i := 50) (by kernel_rfl) rfl ?_
    intro K hK
    go_simp
    refine (Q8.out _ b7.out).mono ?_
    rintro e z8 ⟨rfl, hz8⟩
    have b8 : Hid (Below Z.heap.size Z z8) := bt b7.out hz8
    clear hz8
    dsimp only
    refine hK.out _ _ (HSZ.out _ b8.out) ?_
    clear hK K
    try simp only [Act.put]
    refine wpAnyH_take (i := 51) (v := .bool true) rfl (by kernel_rfl) (by kernel_rfl) (by kernel_rfl) (fun _ _ _ h => h) (Or.inl ⟨by kernel_rfl, ?_⟩) (HSZ.out _ b8.out) ?_
    · intro w' hC'
      clear hC'
      go_simp
      try with_reducible rfl
    simp only [Act.put, List.getElem_toArray, List.getElem_cons_succ, List.getElem_cons_zero, List.setIfInBounds_toArray, List.set_cons_succ, List.set_cons_zero]
    refine wpAnyH_take (i := 52) (v := ?_) rfl (by kernel_rfl) (by kernel_rfl) (by kernel_rfl) (fun _ _ _ h => h) (Or.inl ⟨by kernel_rfl, ?_⟩) (HSZ.out _ b8.out) ?_
    rotate_left
    · intro w' hC'
      clear hC'
      go_simp
      try with_reducible rfl
    simp only [Act.put, List.getElem_toArray, List.getElem_cons_succ, List.getElem_cons_zero, List.setIfInBounds_toArray, List.set_cons_succ, List.set_cons_zero]
    refine wpAnyH_take (i := 53) (v := ?_) rfl (by kernel_rfl) (by kernel_rfl) (by kernel_rfl) (fun _ _ _ h => h) (Or.inl ⟨by kernel_rfl, ?_⟩) (HSZ.out _ b8.out) ?_
    rotate_left
    · intro w' hC'
      clear hC'
      go_simp
      try with_reducible rfl
    simp only [Act.put, List.getElem_toArray, List.getElem_cons_succ, List.getElem_cons_zero, List.setIfInBounds_toArray, List.set_cons_succ, List.set_cons_zero]
    refine wpAnyH_take (i := 54) (v := ?_) rfl (by kernel_rfl) (by kernel_rfl) (by kernel_rfl) (fun _ _ _ h => h) (Or.inl ⟨by kernel_rfl, ?_⟩) (HSZ.out _ b8.out) ?_
    rotate_left
    · intro w' hC'
      go_simp
      try with_reducible rfl
    simp only [Act.put, List.getElem_toArray, List.getElem_cons_succ, List.getElem_cons_zero, List.setIfInBounds_toArray, List.set_cons_succ, List.set_cons_zero]
    refine wpAnyH_take (i := 55) (v := ?_) rfl (by kernel_rfl) (by kernel_rfl) (by kernel_rfl) (fun _ _ _ h => h) (Or.inl ⟨by kernel_rfl, ?_⟩) (HSZ.out _ b8.out) ?_
    rotate_left
    · intro w' hC'
      go_simp
      try with_reducible rfl
    simp only [Act.put, List.getElem_toArray, List.getElem_cons_succ, List.getElem_cons_zero, List.setIfInBounds_toArray, List.set_cons_succ, List.set_cons_zero]
    refine wpAnyH_take (i := 57) (v := ?_) rfl (by kernel_rfl) (by kernel_rfl) (by kernel_rfl) (fun _ _ _ h => h) (Or.inl ⟨by kernel_rfl, ?_⟩) (HSZ.out _ b8.out) ?_
    rotate_left
    · intro w' hC'
      go_simp
      try with_reducible rfl
    simp only [Act.put, List.getElem_toArray, List.getElem_cons_succ, List.getElem_cons_zero, List.setIfInBounds_toArray, List.set_cons_succ, List.set_cons_zero]
    refine wpAnyH_take (i := 58) (v := ?_) rfl (by kernel_rfl) (by kernel_rfl) (by kernel_rfl) (fun _ _ _ h => h) (Or.inl ⟨by kernel_rfl, ?_⟩) (HSZ.out _ b8.out) ?_
    rotate_left
    · intro w' hC'
      go_simp
      try with_reducible rfl
    simp only [Act.put, List.getElem_toArray, List.getElem_cons_succ, List.getElem_cons_zero, List.setIfInBounds_toArray, List.set_cons_succ, List.set_cons_zero]
    refine wpAnyH_one (i := 56) (by kernel_rfl) rfl ?_
    intro K hK
    go_simp
    refine (Q9.out _ b8.out).mono ?_
    rintro e z9 ⟨rfl, hz9⟩
    have b9 : Hid (Below Z.heap.size Z z9) := bt b8.out hz9
    clear hz9
    dsimp only
    refine hK.out _ _ (HSZ.out _ b9.out) ?_
    clear hK K
    try simp only [Act.put]
    refine wpAnyH_one (i := 59) (by kernel_rfl) rfl ?_
    intro K hK
    go_simp
    refine (Q10.out _ b9.out).mono ?_
    rintro e z10 ⟨rfl, hz10⟩
    have b10 : Hid (Below Z.heap.size Z z10) := bt b9.out hz10
    clear hz10
    dsimp only
    refine hK.out _ _ (HSZ.out _ b10.out) ?_
    clear hK K
    try simp only [Act.put]
    refine wpAnyH_take (i := 60) (v := .bool true) rfl (by kernel_rfl) (by kernel_rfl) (by kernel_rfl) (fun _ _ _ h => h) (Or.inl ⟨by kernel_rfl, ?_⟩) (HSZ.out _ b10.out) ?_
    · intro w' hC'
      clear hC'
      go_simp
      try with_reducible rfl
    simp only [Act.put, List.getElem_toArray, List.getElem_cons_succ, List.getElem_cons_zero, List.setIfInBounds_toArray, List.set_cons_succ, List.set_cons_zero]
    refine wpAnyH_take (i := 61) (v := ?_) rfl (by kernel_rfl) (by kernel_rfl) (by kernel_rfl) (fun _ _ _ h => h) (Or.inl ⟨by kernel_rfl, ?_⟩) (HSZ.out _ b10.out) ?_
    rotate_left
    · intro w' hC'
      clear hC'
      go_simp
      try with_reducible rfl
    simp only [Act.put, List.getElem_toArray, List.getElem_cons_succ, List.getElem_cons_zero, List.setIfInBounds_toArray, List.set_cons_succ, List.set_cons_zero]
    refine wpAnyH_take (i := 62) (v := ?_) rfl (by kernel_rfl) (by kernel_rfl) (by kernel_rfl) (fun _ _ _ h => h) (Or.inl ⟨by kernel_rfl, ?_⟩) (HSZ.out _ b10.out) ?_
    rotate_left
    · intro w' hC'
      clear hC'
      go_simp
      try with_reducible rfl
    simp only [Act.put, List.getElem_toArray, List.getElem_cons_succ, List.getElem_cons_zero, List.setIfInBounds_toArray, List.set_cons_succ, List.set_cons_zero]
    refine wpAnyH_take (i := 63) (v := ?_) rfl (by kernel_rfl) (by kernel_rfl) (by kernel_rfl) (fun _ _ _ h => h) (Or.inl ⟨by kernel_rfl, ?_⟩) (HSZ.out _ b10.out) ?_
    rotate_left
    · intro w' hC'
      clear hC'
      go_simp
      try with_reducible rfl
    simp only [Act.put, List.getElem_toArray, List.getElem_cons_succ, List.getElem_cons_zero, List.setIfInBounds_toArray, List.set_cons_succ, List.set_cons_zero]
    refine wpAnyH_take (i := 64) (v := ?_) rfl (by kernel_rfl) (by kernel_rfl) (by kernel_rfl) (fun _ _ _ h => h) (Or.inl ⟨by kernel_rfl, ?_⟩) (HSZ.out _ b10.out) ?_
    rotate_left
    · intro w' hC'
      go_simp
      try with_reducible rfl
    simp only [Act.put, List.getElem_toArray, List.getElem_cons_succ, List.getElem_cons_zero, List.setIfInBounds_toArray, List.set_cons_succ, List.set_cons_zero]
    refine wpAnyH_take (i := 66) (v := ?_) rfl (by kernel_rfl) (by kernel_rfl) (by kernel_rfl) (fun _ _ _ h => h) (Or.inl ⟨by kernel_rfl, ?_⟩) (HSZ.out _ b10.out) ?_
    rotate_left
    · intro w' hC'
      clear hC'
      go_simp
      try with_reducible rfl
    simp only [Act.put, List.getElem_toArray, List.getElem_cons_succ, List.getElem_cons_zero, List.setIfInBounds_toArray, List.set_cons_succ, List.set_cons_zero]
    refine wpAnyH_take (i := 67) (v := ?_) rfl (by kernel_rfl) (by kernel_rfl) (by kernel_rfl) (fun _ _ _ h => h) (Or.inl ⟨by kernel_rfl, ?_⟩) (HSZ.out _ b10.out) ?_
    rotate_left
    · intro w' hC'
      go_simp
      try with_reducible rfl
    simp only [Act.put, List.getElem_toArray, List.getElem_cons_succ, List.getElem_cons_zero, List.setIfInBounds_toArray, List.set_cons_succ, List.set_cons_zero]
    refine wpAnyH_one (i := 65) (by kernel_rfl) rfl ?_
    intro K hK
    go_simp
    refine (Q11.out _ b10.out).mono ?_
    rintro e z11 ⟨rfl, hz11⟩
    have b11 : Hid (Below Z.heap.size Z z11) := bt b10.out hz11
    clear hz11
    dsimp only
    refine hK.out _ _ (HSZ.out _ b11.out) ?_
    clear hK K
    try simp only [Act.put]
    refine wpAnyH_one (i := 68) (by kernel_rfl) rfl ?_
    intro K hK
    go_simp
    refine (Q12.out _ b11.out).mono ?_
    rintro e z12 ⟨rfl, hz12⟩
    have b12 : Hid (Below Z.heap.size Z z12) := bt b11.out hz12
    clear hz12
    dsimp only
    refine hK.out _ _ (HSZ.out _ b12.out) ?_
    clear hK K
    try simp only [Act.put]
    refine wpAnyH_take (i := 69) (v := .bool true) rfl (by kernel_rfl) (by kernel_rfl) (by kernel_rfl) (fun _ _ _ h => h) (Or.inl ⟨by kernel_rfl, ?_⟩) (HSZ.out _ b12.out) ?_
    · intro w' hC'
      clear hC'
      go_simp
      try with_reducible rfl
    simp only [Act.put, List.getElem_toArray, List.getElem_cons_succ, List.getElem_cons_zero, List.setIfInBounds_toArray, List.set_cons_succ, List.set_cons_zero]
    refine wpAnyH_take (i := 70) (v := ?_) rfl (by kernel_rfl) (by kernel_rfl) (by kernel_rfl) (fun _ _ _ h => h) (Or.inl ⟨by kernel_rfl, ?_⟩) (HSZ.out _ b12.out) ?_
    rotate_left
    · intro w' hC'
      clear hC'
      go_simp
      try with_reducible rfl
    simp only [Act.put, List.getElem_toArray, List.getElem_cons_succ, List.getElem_cons_zero, List.setIfInBounds_toArray, List.set_cons_succ, List.set_cons_zero]
    refine wpAnyH_take (i := 71) (v := ?_) rfl (by kernel_rfl) (by kernel_rfl) (by kernel_rfl) (fun _ _ _ h => h) (Or.inl ⟨by kernel_rfl, ?_⟩) (HSZ.out _ b12.out) ?_
    rotate_left
    · intro w' hC'
      clear hC'
      go_simp
      try with_reducible rfl
    simp only [Act.put, List.getElem_toArray, List.getElem_cons_succ, List.getElem_cons_zero, List.setIfInBounds_toArray, List.set_cons_succ, List.set_cons_zero]
    refine wpAnyH_one (i := 72) (by kernel_rfl) rfl ?_
    intro K hK
    go_simp
    refine (treeNew_i _).mono ?_
    rintro e zt ⟨vt, qt, rfl, hqt, hownt, hzt⟩
    have bt1 : Hid (Below Z.heap.size Z zt) := bt b12.out hzt
    have hlt : qt.length = 1 := by have := congrArg List.length hqt; rw [bks_len] at this; exact this
    obtain ⟨pt, rfl⟩ : ∃ pt, qt = [pt] := List.length_eq_one_iff.1 hlt
    obtain ⟨at1, ct1, ht4, hzz⟩ := own_form hownt.row
    change vt = .slice at1 1 ct1 at ht4
    subst ht4
    obtain ⟨gt1, rfl⟩ := hzz (by simp)
    have HQT : Hid (pt.1 = firstB) := (by simpa [bks] using hqt : pt.1 = firstB)
    have HCT : Hid (zt.ownsRow _ 29 3 pt.2 pt.1.2.1.length (flatR cmdF pt.1.2.1)) := hownt.cmds pt (List.mem_singleton.2 rfl)
    have HST : Hid (∀ z, Below zt.heap.size zt z → ((z.cell? ⟨N5, 0, none⟩ = some (.int .i64 d.1.1) ∧ z.cell? ⟨N5, 1, none⟩ = some (.int .i64 d.1.2) ∧ z.cell? ⟨N5, 2, none⟩ = some (.slice a3 l.length c3) ∧ z.cell? ⟨N5, 3, none⟩ = some (.int .i64 d.2.2.1) ∧ z.cell? ⟨N5, 4, none⟩ = some (.int .i64 d.2.2.2.1) ∧ z.cell? ⟨N5, 5, none⟩ = some (.int .i64 d.2.2.2.2.1) ∧ z.cell? ⟨N5, 6, none⟩ = some (.int .i64 d.2.2.2.2.2)) ∧ (z.cell? ⟨w6.heap.size, 0, none⟩ = some (.int .i64 d6.1.1) ∧ z.cell? ⟨w6.heap.size, 1, none⟩ = some (.int .i64 d6.1.2) ∧ z.cell? ⟨w6.heap.size, 2, none⟩ = some (.slice ad6 d6.2.1.length pd6) ∧ z.cell? ⟨w6.heap.size, 3, none⟩ = some (.int .i64 d6.2.2.1) ∧ z.cell? ⟨w6.heap.size, 4, none⟩ = some (.int .i64 d6.2.2.2.1) ∧ z.cell? ⟨w6.heap.size, 5, none⟩ = some (.int .i64 d6.2.2.2.2.1) ∧ z.cell? ⟨w6.heap.size, 6, none⟩ = some (.int .i64 d6.2.2.2.2.2)) ∧ (z.cell? ⟨w10.heap.size, 0, none⟩ = some (.int .i64 e1.1.1) ∧ z.cell? ⟨w10.heap.size, 1, none⟩ = some (.int .i64 e1.1.2) ∧ z.cell? ⟨w10.heap.size, 2, none⟩ = some (.slice a11 e1.2.1.length p11) ∧ z.cell? ⟨w10.heap.size, 3, none⟩ = some (.int .i64 e1.2.2.1) ∧ z.cell? ⟨w10.heap.size, 4, none⟩ = some (.int .i64 e1.2.2.2.1) ∧ z.cell? ⟨w10.heap.size, 5, none⟩ = some (.int .i64 e1.2.2.2.2.1) ∧ z.cell? ⟨w10.heap.size, 6, none⟩ = some (.int .i64 e1.2.2.2.2.2)) ∧ z.cell? ⟨(w10.heap.size + 1), 0, none⟩ = some (.int .i64 e2.1.1) ∧ z.cell? ⟨(w10.heap.size + 1), 1, none⟩ = some (.int .i64 e2.1.2) ∧ z.cell? ⟨(w10.heap.size + 1), 2, none⟩ = some (.slice a12 e2.2.1.length p12) ∧ z.cell? ⟨(w10.heap.size + 1), 3, none⟩ = some (.int .i64 e2.2.2.1) ∧ z.cell? ⟨(w10.heap.size + 1), 4, none⟩ = some (.int .i64 e2.2.2.2.1) ∧ z.cell? ⟨(w10.heap.size + 1), 5, none⟩ = some (.int .i64 e2.2.2.2.2.1) ∧ z.cell? ⟨(w10.heap.size + 1), 6, none⟩ = some (.int .i64 e2.2.2.2.2.2)) ∧ z.cell? ⟨gt1, 0, none⟩ = some (.int .i64 pt.1.1.1) ∧ z.cell? ⟨gt1, 1, none⟩ = some (.int .i64 pt.1.1.2) ∧ z.cell? ⟨gt1, 2, none⟩ = some pt.2 ∧ z.cell? ⟨gt1, 3, none⟩ = some (.int .i64 pt.1.2.2.1) ∧ z.cell? ⟨gt1, 4, none⟩ = some (.int .i64 pt.1.2.2.2.1) ∧ z.cell? ⟨gt1, 5, none⟩ = some (.int .i64 pt.1.2.2.2.2.1) ∧ z.cell? ⟨gt1, 6, none⟩ = some (.int .i64 pt.1.2.2.2.2.2)) := fun z hz => ⟨HSZ.out z (bt bt1.out hz), own_blk (k := 0) (L := [pt]) (own_kept hownt.row hz) rfl (by simp)⟩
    clear hqt hownt hzt hlt hzz
    dsimp only
    refine hK.out _ _ (HSZ.out _ bt1.out) ?_
    clear hK K
    try simp only [Act.put]
    refine wpAnyH_mono (S' := fun z => ((z.cell? ⟨N5, 0, none⟩ = some (.int .i64 d.1.1) ∧ z.cell? ⟨N5, 1, none⟩ = some (.int .i64 d.1.2) ∧ z.cell? ⟨N5, 2, none⟩ = some (.slice a3 l.length c3) ∧ z.cell? ⟨N5, 3, none⟩ = some (.int .i64 d.2.2.1) ∧ z.cell? ⟨N5, 4, none⟩ = some (.int .i64 d.2.2.2.1) ∧ z.cell? ⟨N5, 5, none⟩ = some (.int .i64 d.2.2.2.2.1) ∧ z.cell? ⟨N5, 6, none⟩ = some (.int .i64 d.2.2.2.2.2)) ∧ (z.cell? ⟨w6.heap.size, 0, none⟩ = some (.int .i64 d6.1.1) ∧ z.cell? ⟨w6.heap.size, 1, none⟩ = some (.int .i64 d6.1.2) ∧ z.cell? ⟨w6.heap.size, 2, none⟩ = some (.slice ad6 d6.2.1.length pd6) ∧ z.cell? ⟨w6.heap.size, 3, none⟩ = some (.int .i64 d6.2.2.1) ∧ z.cell? ⟨w6.heap.size, 4, none⟩ = some (.int .i64 d6.2.2.2.1) ∧ z.cell? ⟨w6.heap.size, 5, none⟩ = some (.int .i64 d6.2.2.2.2.1) ∧ z.cell? ⟨w6.heap.size, 6, none⟩ = some (.int .i64 d6.2.2.2.2.2)) ∧ (z.cell? ⟨w10.heap.size, 0, none⟩ = some (.int .i64 e1.1.1) ∧ z.cell? ⟨w10.heap.size, 1, none⟩ = some (.int .i64 e1.1.2) ∧ z.cell? ⟨w10.heap.size, 2, none⟩ = some (.slice a11 e1.2.1.length p11) ∧ z.cell? ⟨w10.heap.size, 3, none⟩ = some (.int .i64 e1.2.2.1) ∧ z.cell? ⟨w10.heap.size, 4, none⟩ = some (.int .i64 e1.2.2.2.1) ∧ z.cell? ⟨w10.heap.size, 5, none⟩ = some (.int .i64 e1.2.2.2.2.1) ∧ z.cell? ⟨w10.heap.size, 6, none⟩ = some (.int .i64 e1.2.2.2.2.2)) ∧ z.cell? ⟨(w10.heap.size + 1), 0, none⟩ = some (.int .i64 e2.1.1) ∧ z.cell? ⟨(w10.heap.size + 1), 1, none⟩ = some (.int .i64 e2.1.2) ∧ z.cell? ⟨(w10.heap.size + 1), 2, none⟩ = some (.slice a12 e2.2.1.length p12) ∧ z.cell? ⟨(w10.heap.size + 1), 3, none⟩ = some (.int .i64 e2.2.2.1) ∧ z.cell? ⟨(w10.heap.size + 1), 4, none⟩ = some (.int .i64 e2.2.2.2.1) ∧ z.cell? ⟨(w10.heap.size + 1), 5, none⟩ = some (.int .i64 e2.2.2.2.2.1) ∧ z.cell? ⟨(w10.heap.size + 1), 6, none⟩ = some (.int .i64 e2.2.2.2.2.2)) ∧ z.cell? ⟨gt1, 0, none⟩ = some (.int .i64 pt.1.1.1) ∧ z.cell? ⟨gt1, 1, none⟩ = some (.int .i64 pt.1.1.2) ∧ z.cell? ⟨gt1, 2, none⟩ = some pt.2 ∧ z.cell? ⟨gt1, 3, none⟩ = some (.int .i64 pt.1.2.2.1) ∧ z.cell? ⟨gt1, 4, none⟩ = some (.int .i64 pt.1.2.2.2.1) ∧ z.cell? ⟨gt1, 5, none⟩ = some (.int .i64 pt.1.2.2.2.2.1) ∧ z.cell? ⟨gt1, 6, none⟩ = some (.int .i64 pt.1.2.2.2.2.2)) (fun z h => h.1) ?_
    refine wpAnyH_take (i := 73) (v := ?_) rfl (by kernel_rfl) (by kernel_rfl) (by kernel_rfl) (fun _ _ _ h => h) (Or.inl ⟨by kernel_rfl, ?_⟩) (HST.out _ (Below.refl _ _)) ?_
    rotate_left
    · intro w' hC'
      clear hC'
      go_simp
      try with_reducible rfl
    simp only [Act.put, List.getElem_toArray, List.getElem_cons_succ, List.getElem_cons_zero, List.setIfInBounds_toArray, List.set_cons_succ, List.set_cons_zero]
    refine wpAnyH_take (i := 74) (v := ?_) rfl (by kernel_rfl) (by kernel_rfl) (by kernel_rfl) (fun _ _ _ h => h) (Or.inl ⟨by kernel_rfl, ?_⟩) (HST.out _ (Below.refl _ _)) ?_
    rotate_left
    · intro w' hC'
      go_simp
      try with_reducible rfl
    simp only [Act.put, List.getElem_toArray, List.getElem_cons_succ, List.getElem_cons_zero, List.setIfInBounds_toArray, List.set_cons_succ, List.set_cons_zero]
    refine wpAnyH_one (i := 75) (by kernel_rfl) rfl ?_
    intro K hK
    go_simp
    refine (first_i _).mono ?_
    rintro e zf ⟨rfl, hzf⟩
    unfold blkV
    have bf1 : Hid (Below zt.heap.size zt zf) := hzf
    clear hzf
    dsimp only
    refine hK.out _ _ (HST.out _ bf1.out) ?_
    clear hK K
    try simp only [Act.put]
    have QL := same_i pt.1 firstB pt.2 (.slice none 0 0) zf (rows_of_own cmdF_len (own_kept HCT.out bf1.out)) (rows_none _) (by rw [HQT.out]; exact ⟨by simp [firstB], by simp [firstB]⟩) ⟨by simp [firstB], by simp [firstB]⟩
    rw [decide_eq_true HQT.out] at QL
    have HQL : Hid (Calls Try.prog 42 #[blkV pt.1 pt.2, blkV firstB (.slice none 0 0)] zf fun e z' => e = .returned (.bool true) ∧ Below zf.heap.size zf z') := QL
    clear QL
    refine wpAnyH_one (i := 76) (by kernel_rfl) rfl ?_
    intro K hK
    go_simp
    refine HQL.out.mono ?_
    rintro e ze ⟨rfl, hze⟩
    have be1 : Hid (Below zt.heap.size zt ze) := bt bf1.out hze
    clear hze HQL
    dsimp only
    refine hK.out _ _ (HST.out _ be1.out) ?_
    clear hK K
    try simp only [Act.put]
    refine wpAnyH_take (i := 77) (v := ?_) rfl (by kernel_rfl) (by kernel_rfl) (by kernel_rfl) (fun _ _ _ h => h) (Or.inl ⟨by kernel_rfl, ?_⟩) (HST.out _ be1.out) ?_
    rotate_left
    · intro w' hC'
      clear hC'
      go_simp
      try with_reducible rfl
    simp only [Act.put, List.getElem_toArray, List.getElem_cons_succ, List.getElem_cons_zero, List.setIfInBounds_toArray, List.set_cons_succ, List.set_cons_zero]
    refine wpAnyH_take (i := 78) (v := ?_) rfl (by kernel_rfl) (by kernel_rfl) (by kernel_rfl) (fun _ _ _ h => h) (Or.inl ⟨by kernel_rfl, ?_⟩) (HST.out _ be1.out) ?_
    rotate_left
    · intro w' hC'
      clear hC'
      go_simp
      try with_reducible rfl
    simp only [Act.put, List.getElem_toArray, List.getElem_cons_succ, List.getElem_cons_zero, List.setIfInBounds_toArray, List.set_cons_succ, List.set_cons_zero]
    refine wpAnyH_done (by kernel_rfl) ?_ _
    go_wp2
    go_ret
    exact ⟨rfl, bt HZw.out (bt bt1.out be1.out)⟩

end Go.Proofs.Ytjdddcldbfhbiaa.WFnTrees
