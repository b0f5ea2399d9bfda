/-
  A tree and a block that are drawn and bent.
-/
import Derived.Test.YtjdddcldbfhbiaaDrawB5
import Derived.Test.YtjdddcldbfhbiaaPutBI
namespace Go.Proofs.Ytjdddcldbfhbiaa
open Go.RowKit Num

/-- a block's bounds -/
def BB5 (b : BK) : Prop := b.2.1.length ≤ 5 ∧ ∀ c ∈ b.2.1, c.2.1.size ≤ 4
theorem BB5.ok {b : BK} (h : BB5 b) : okB b := ⟨by have := h.1; omega, fun c hc => by have := h.2 c hc; omega⟩
/-- a tree and a block, the call's own -/
def PairR (w : World) (e : Ending) (w' : World) : Prop := ∃ (v : Value) (qs : TL) (d : BK) (cd : Value), e = .returned (.tuple #[v, blkV d cd]) ∧ BT (bks qs) 10 ∧ BB5 d ∧ OwnU w' w.heap.size v qs ∧ w'.ownsRow w.heap.size 29 3 cd d.2.1.length (flatR cmdF d.2.1) ∧ Below w.heap.size w w'
theorem blk_eq {w : World} {N : Nat} {A : Array Value} {t : TypeId} {b : BK} {cv : Value} (h : w.heap[N]? = some (.cells A t (0, 0))) (e : A = blkA b cv) : w.heap[N]? = some (.cells (blkA b cv) t (0, 0)) := by rw [h, e]

set_option maxRecDepth 100000 in
set_option maxHeartbeats 8000000 in
theorem pair5_any {w : World} {ao : Option Addr} {len cap b off : Nat} (hc : Code w ao len b off) :
    Calls Try.prog 84 #[.slice ao len cap] w fun e w' => PairR w e w' := by
  obtain ⟨W0, hW0⟩ : ∃ W0, W0 = w.alloc (.cells #[.int .i64 0, .int .i64 0, .slice none 0 0, .int .i64 0, .int .i64 0, .int .i64 0, .int .i64 0] 63) := ⟨_, rfl⟩
  have hb0 : Below w.heap.size w W0 := by rw [hW0]; exact ba (Below.refl _ _) _
  have HR0 : Hid (W0.heap[w.heap.size]? = some (.cells #[.int .i64 0, .int .i64 0, .slice none 0 0, .int .i64 0, .int .i64 0, .int .i64 0, .int .i64 0] 63 (0, 0))) := (by rw [hW0]; exact heap_alloc_new w _ : W0.heap[w.heap.size]? = some (.cells #[.int .i64 0, .int .i64 0, .slice none 0 0, .int .i64 0, .int .i64 0, .int .i64 0, .int .i64 0] 63 (0, 0)))
  have hs0 : w.heap.size < W0.heap.size := (Array.getElem?_eq_some_iff.1 HR0.out).1
  have HC : Hid (Code W0 ao len b off) := hc.below hb0
  have HB0 : Hid (Below w.heap.size w W0) := hb0
  clear hc hb0
  go_enter Try.func84, Try.ntmps84
  go_wp2_with fail
  rw [← hW0]
  clear hW0
  refine (new_any HC.out).mono ?_
  rintro e w1 ⟨N, rfl, hN, hS, hb⟩
  have hN' : w.heap.size < N := by omega
  have HS1 : Hid (St w1 N ao len cap b off) := hS
  have HB1 : Hid (Below w.heap.size w w1) := bt HB0.out hb
  have HR1 : Hid (w1.heap[w.heap.size]? = some (.cells #[.int .i64 0, .int .i64 0, .slice none 0 0, .int .i64 0, .int .i64 0, .int .i64 0, .int .i64 0] 63 (0, 0))) := (hb.block _ hs0).trans HR0.out
  have hs1 : w.heap.size < w1.heap.size := (Array.getElem?_eq_some_iff.1 HR1.out).1
  clear hS hb HC HR0 HB0 hs0
  go_wp2_with fail
  refine (below_st 8 (by omega) (by omega) HS1.out).mono ?_
  rintro e w2 ⟨kc, rfl, hk0, hk1, hS2, hg2⟩
  have HS2 : Hid (St w2 N ao len cap b off) := hS2
  have HG2 : Hid (w1.grownBy w2 (Option.some N)) := hg2
  clear hS2 hg2
  go_wp2_with fail
  refine (below_st 60 (by omega) (by omega) HS2.out).mono ?_
  rintro e w3 ⟨x, rfl, hx0, hx1, hS3, hg3⟩
  have HS3 : Hid (St w3 N ao len cap b off) := hS3
  have HG3 : Hid (w1.grownBy w3 (Option.some N)) := grown_tr HG2.out hg3
  have hs3 : w.heap.size < w3.heap.size := Nat.lt_of_lt_of_le hs1 HG3.out.size
  have hN3 : N < w3.heap.size := hS3.cur.lt
  clear hS3 hg3
  go_wp2_with fail
  refine (any5_st HS3.out).mono ?_
  rintro e w4 ⟨v4, q, rfl, hbt, hown4, hS4, hg4⟩
  have HBT : Hid (BT (bks q) 10) := hbt
  have HO4 : Hid (OwnU w4 w3.heap.size v4 q) := hown4
  have HS4 : Hid (St w4 N ao len cap b off) := hS4
  have HG4 : Hid (w1.grownBy w4 (Option.some N)) := grown_tr HG3.out hg4
  have hs34 := hg4.size
  have hqp : 0 < q.length := by have := hbt.1; rw [bks_len] at this; exact this
  have hq9 : q.length ≤ 10 := by have := hbt.2.1; rw [bks_len] at this; exact this
  obtain ⟨a4, c4, h4, hz⟩ := own_form hown4.row
  subst h4
  obtain ⟨g, rfl⟩ := hz hqp
  have hgb : w3.heap.size ≤ g := (HO4.out.row.lt g rfl).1
  have hn0 : (q.length : Int) ≠ 0 := by omega
  have hn1 : (0 : Int) < (q.length : Int) := by omega
  obtain ⟨i, hi0⟩ := Int.eq_ofNat_of_zero_le (Int.emod_nonneg x hn0)
  have hiq : i < q.length := by have := Int.emod_lt_of_pos x hn1; omega
  have HI : Hid (x % (q.length : Int) = (i : Int)) := hi0
  clear hbt hown4 hS4 hg4 hz hi0
  go_wp2_with fail
  rw [HI.out]
  refine (cmds_st4 HS4.out).mono ?_
  rintro e w5 ⟨v5, l, rfl, hl, hall, hown5, hS5, hg5⟩
  obtain ⟨a5, c5, h5, _⟩ := own_form hown5
  subst h5
  have HL : Hid (smallC l) := ⟨hl, hall⟩
  have HO5 : Hid (OwnU w5 w3.heap.size (.slice (some ⟨g, 0, none⟩) q.length c4) q) := HO4.out.st hg5 (by omega)
  have HC5 : Hid (w5.ownsRow w4.heap.size 29 3 (.slice a5 l.length c5) l.length (flatR cmdF l)) := hown5
  have HG5 : Hid (w1.grownBy w5 (Option.some N)) := grown_tr HG4.out hg5
  have hs45 := hg5.size
  clear hl hall hown5 hS5 hg5
  have hview : 0 ≤ viewAt (bks q) i ∧ viewAt (bks q) i ≤ 1000 := by
    rw [viewAt_at (by rw [bks_len]; exact hiq), bks_at hiq]; exact (HBT.out.at hiq).2.2
  go_wp2_with fail
  refine (on_s q _ i (1 + x % 2) l a5 l.length c5 1 w5 HO5.out.read.q hiq (by omega) ⟨by omega, by omega⟩ ⟨by omega, by omega⟩).mono ?_
  rintro e w6 ⟨rfl, hb6⟩
  obtain ⟨d0, hd0⟩ : ∃ d0, d0 = onB (bks q) i (1 + x % 2) l 1 := ⟨_, rfl⟩
  rw [← hd0]
  have hdl : d0.2.1 = l := by rw [hd0]; rfl
  have HDL : Hid (d0.2.1 = l) := hdl
  clear hd0 hdl hview
  have HO6 : Hid (OwnU w6 w3.heap.size (.slice (some ⟨g, 0, none⟩) q.length c4) q) := HO5.out.below hb6
  have HC6 : Hid (w6.ownsRow w4.heap.size 29 3 (.slice a5 l.length c5) d0.2.1.length (flatR cmdF d0.2.1)) := (by rw [HDL.out]; exact own_kept HC5.out hb6 : w6.ownsRow w4.heap.size 29 3 (.slice a5 l.length c5) d0.2.1.length (flatR cmdF d0.2.1))
  have HB6 : Hid (Below w.heap.size w w6) := bt (drawn_below HB1.out (by omega) HG5.out) hb6
  have HR6 : Hid (w6.heap[w.heap.size]? = some (.cells #[.int .i64 0, .int .i64 0, .slice none 0 0, .int .i64 0, .int .i64 0, .int .i64 0, .int .i64 0] 63 (0, 0))) := (hb6.block _ (by omega)).trans ((HG5.out.block _ hs1 (fun e => by have := Option.some.inj e; omega)).trans HR1.out)
  have hs56 := hb6.size
  have HBD : Hid (BB5 d0) := ⟨by rw [HDL.out]; have := HL.out.1; omega, fun c hc => by rw [HDL.out] at hc; have := (HL.out.2 c hc).2; omega⟩
  clear hb6 HG5 HG4 HG3 HG2 HS1 HS2 HS3 HS4 HO4 HO5 HC5 HR1 HB1
  unfold blkV
  by_cases hc2 : kc = 2
  · subst hc2
    clear hk0 hk1
    go_wp2
    obtain ⟨V, hV⟩ : ∃ V, V = (w6.alloc (.cells (blkA (d0.1, (d0.2.1, (d0.2.2.1, x, d0.2.2.2.2))) (.slice a5 l.length c5)) 63)) := ⟨_, rfl⟩
    have HXV : Hid (V.heap[w6.heap.size]? = some (.cells (blkA (d0.1, (d0.2.1, (d0.2.2.1, x, d0.2.2.2.2))) (.slice a5 l.length c5)) 63 (0, 0))) := (by rw [hV]; exact heap_alloc_new w6 _ : V.heap[w6.heap.size]? = some (.cells (blkA (d0.1, (d0.2.1, (d0.2.2.1, x, d0.2.2.2.2))) (.slice a5 l.length c5)) 63 (0, 0)))
    have hbV : Below w6.heap.size w6 V := by rw [hV]; exact ba (Below.refl _ _) _
    rw [← hV]
    clear hV
    have HV6 : Hid (∀ k, k < w6.heap.size → V.heap[k]? = w6.heap[k]?) := fun k hk => hbV.block k hk
    have hVs : w6.heap.size < V.heap.size := (Array.getElem?_eq_some_iff.1 HXV.out).1
    have HBV : Hid (Below w.heap.size w V) := bt HB6.out hbV
    have HCV : Hid (V.ownsRow w4.heap.size 29 3 (.slice a5 l.length c5) (d0.1, (d0.2.1, (d0.2.2.1, x, d0.2.2.2.2))).2.1.length (flatR cmdF (d0.1, (d0.2.1, (d0.2.2.1, x, d0.2.2.2.2))).2.1)) := own_kept HC6.out hbV
    have HBDV : Hid (BB5 (d0.1, (d0.2.1, (d0.2.2.1, x, d0.2.2.2.2)))) := HBD.out
    clear hbV
    have HOV : Hid (OwnU V w3.heap.size (.slice (some ⟨g, 0, none⟩) q.length c4) q) := HO6.out.same fun k _ hk => HV6.out k hk
    obtain ⟨V1, hV1⟩ : ∃ V1, V1 = V.drew := ⟨_, rfl⟩
    have kV : V1.heap[w.heap.size]? = some (.cells #[.int .i64 0, .int .i64 0, .slice none 0 0, .int .i64 0, .int .i64 0, .int .i64 0, .int .i64 0] 63 (0, 0)) := by rw [hV1]; exact (HV6.out _ (by omega)).trans HR6.out
    have HSV : Hid (V1.cell? ⟨w6.heap.size, 0, none⟩ = some (.int .i64 (d0.1, (d0.2.1, (d0.2.2.1, x, d0.2.2.2.2))).1.1) ∧ V1.cell? ⟨w6.heap.size, 1, none⟩ = some (.int .i64 (d0.1, (d0.2.1, (d0.2.2.1, x, d0.2.2.2.2))).1.2) ∧ V1.cell? ⟨w6.heap.size, 2, none⟩ = some (.slice a5 l.length c5) ∧ V1.cell? ⟨w6.heap.size, 3, none⟩ = some (.int .i64 (d0.1, (d0.2.1, (d0.2.2.1, x, d0.2.2.2.2))).2.2.1) ∧ V1.cell? ⟨w6.heap.size, 4, none⟩ = some (.int .i64 (d0.1, (d0.2.1, (d0.2.2.1, x, d0.2.2.2.2))).2.2.2.1) ∧ V1.cell? ⟨w6.heap.size, 5, none⟩ = some (.int .i64 (d0.1, (d0.2.1, (d0.2.2.1, x, d0.2.2.2.2))).2.2.2.2.1) ∧ V1.cell? ⟨w6.heap.size, 6, none⟩ = some (.int .i64 (d0.1, (d0.2.1, (d0.2.2.1, x, d0.2.2.2.2))).2.2.2.2.2)) := blk_cells (w := V1) (b := (d0.1, (d0.2.1, (d0.2.2.1, x, d0.2.2.2.2)))) (by rw [hV1]; exact HXV.out)
    have HB1 : Hid (Below w.heap.size w V1) := (by rw [hV1]; exact HBV.out.drew : Below w.heap.size w V1)
    have HH1 : Hid (∀ k : Nat, V1.heap[k]? = V.heap[k]?) := fun k => by rw [hV1]; rfl
    obtain ⟨⟨u0, u1, u2, u3, u4, u5, u6⟩, ⟨f0, f1, f2, f3, f4, f5, f6⟩⟩ := blk_free kV
    obtain ⟨-, -, -, -, -, -, -, k7, g7⟩ := blk_seven kV (.int .i64 (d0.1, (d0.2.1, (d0.2.2.1, x, d0.2.2.2.2))).1.1) (.int .i64 (d0.1, (d0.2.1, (d0.2.2.1, x, d0.2.2.2.2))).1.2) (.slice a5 l.length c5) (.int .i64 (d0.1, (d0.2.1, (d0.2.2.1, x, d0.2.2.2.2))).2.2.1) (.int .i64 (d0.1, (d0.2.1, (d0.2.2.1, x, d0.2.2.2.2))).2.2.2.1) (.int .i64 (d0.1, (d0.2.1, (d0.2.2.1, x, d0.2.2.2.2))).2.2.2.2.1) (.int .i64 (d0.1, (d0.2.1, (d0.2.2.1, x, d0.2.2.2.2))).2.2.2.2.2)
    have HK7 : Hid (_ = some (Obj.cells (blkA (d0.1, (d0.2.1, (d0.2.2.1, x, d0.2.2.2.2))) (.slice a5 l.length c5)) 63 (0, 0))) := k7
    have HG7 : Hid (V1.grownBy _ (some w.heap.size)) := g7
    clear kV k7 g7
    refine wp_region_P (fun j => j != 3) (fun w' => w'.cell? ⟨w6.heap.size, 0, none⟩ = some (.int .i64 (d0.1, (d0.2.1, (d0.2.2.1, x, d0.2.2.2.2))).1.1) ∧ w'.cell? ⟨w6.heap.size, 1, none⟩ = some (.int .i64 (d0.1, (d0.2.1, (d0.2.2.1, x, d0.2.2.2.2))).1.2) ∧ w'.cell? ⟨w6.heap.size, 2, none⟩ = some (.slice a5 l.length c5) ∧ w'.cell? ⟨w6.heap.size, 3, none⟩ = some (.int .i64 (d0.1, (d0.2.1, (d0.2.2.1, x, d0.2.2.2.2))).2.2.1) ∧ w'.cell? ⟨w6.heap.size, 4, none⟩ = some (.int .i64 (d0.1, (d0.2.1, (d0.2.2.1, x, d0.2.2.2.2))).2.2.2.1) ∧ w'.cell? ⟨w6.heap.size, 5, none⟩ = some (.int .i64 (d0.1, (d0.2.1, (d0.2.2.1, x, d0.2.2.2.2))).2.2.2.2.1) ∧ w'.cell? ⟨w6.heap.size, 6, none⟩ = some (.int .i64 (d0.1, (d0.2.1, (d0.2.2.1, x, d0.2.2.2.2))).2.2.2.2.2)) (by kernel_rfl) ?_
    show wpAnyP Try.prog _ _ _ _ _ 4 (Array.replicate 4 false) _ _
    rw [← hV1]
    have hszV : V.heap.size = V1.heap.size := by rw [hV1]; rfl
    clear hV1
    refine wpAnyP_take (i := 0) (v := ?_) rfl (by kernel_rfl) (by kernel_rfl) (by kernel_rfl) (by kernel_rfl) (by kernel_rfl) (fun _ _ _ h => h) (Or.inl ⟨by rfl, ?_⟩) HSV.out ?_
    rotate_left
    · intro w' hC'
      go_simp
      try with_reducible rfl
    simp only [Act.put]
    refine wpAnyP_take (i := 1) (v := ?_) rfl (by kernel_rfl) (by kernel_rfl) (by kernel_rfl) (by kernel_rfl) (by kernel_rfl) (fun _ _ _ h => h) (Or.inl ⟨by rfl, ?_⟩) HSV.out ?_
    rotate_left
    · intro w' hC'
      go_simp
      try with_reducible rfl
    simp only [Act.put]
    refine wpAnyP_take (i := 2) (v := ?_) rfl (by kernel_rfl) (by kernel_rfl) (by kernel_rfl) (by kernel_rfl) (by kernel_rfl) (fun _ _ _ h => h) (Or.inl ⟨by rfl, ?_⟩) HSV.out ?_
    rotate_left
    · intro w' hC'
      go_simp
      try with_reducible rfl
    simp only [Act.put]
    refine wpAnyP_one (i := 3) (by kernel_rfl) rfl ?_
    intro K hK
    go_simp
    refine hK.out _ _ (fun h => by cases h) ?_
    clear hK K
    refine wpAnyP_done (by kernel_rfl) ?_ _
    obtain ⟨w7, hw7⟩ : ∃ w7, w7 = ((((((V1.setCell ⟨w.heap.size, 0, none⟩ (.int .i64 (d0.1, (d0.2.1, (d0.2.2.1, x, d0.2.2.2.2))).1.1)).setCell ⟨w.heap.size, 1, none⟩ (.int .i64 (d0.1, (d0.2.1, (d0.2.2.1, x, d0.2.2.2.2))).1.2)).setCell ⟨w.heap.size, 2, none⟩ (.slice a5 l.length c5)).setCell ⟨w.heap.size, 3, none⟩ (.int .i64 (d0.1, (d0.2.1, (d0.2.2.1, x, d0.2.2.2.2))).2.2.1)).setCell ⟨w.heap.size, 4, none⟩ (.int .i64 (d0.1, (d0.2.1, (d0.2.2.1, x, d0.2.2.2.2))).2.2.2.1)).setCell ⟨w.heap.size, 5, none⟩ (.int .i64 (d0.1, (d0.2.1, (d0.2.2.1, x, d0.2.2.2.2))).2.2.2.2.1)).setCell ⟨w.heap.size, 6, none⟩ (.int .i64 (d0.1, (d0.2.1, (d0.2.2.1, x, d0.2.2.2.2))).2.2.2.2.2) := ⟨_, rfl⟩
    rw [← hw7] at HK7 HG7 ⊢
    obtain ⟨r0, r1, r2, r3, r4, r5, r6⟩ := blk_cells (b := (d0.1, (d0.2.1, (d0.2.2.1, x, d0.2.2.2.2)))) HK7.out
    clear hw7 u0 u1 u2 u3 u4 u5 u6 f0 f1 f2 f3 f4 f5 f6
    go_wp2
    refine bodyPost_ret (v := .tuple #[.slice (some ⟨g, 0, none⟩) q.length c4, .agg (blkA (d0.1, (d0.2.1, (d0.2.2.1, x, d0.2.2.2.2))) (.slice a5 l.length c5))]) (by simp [results, Try.results84, go_sem, r0, r1, r2, r3, r4, r5, r6]) rfl ?_
    have hkb : ∀ k, w3.heap.size ≤ k → k < V.heap.size → w7.heap[k]? = V.heap[k]? := fun k hk hk' => (HG7.out.block k (by rw [← hszV]; exact hk') (fun e => by have := Option.some.inj e; omega)).trans (HH1.out k)
    unfold PairR
    exact ⟨_, q, (d0.1, (d0.2.1, (d0.2.2.1, x, d0.2.2.2.2))), (.slice a5 l.length c5), rfl, HBT.out, HBDV.out, (HOV.out.same hkb).base (by omega), own_base (own_same HCV.out fun k hk => hkb k (by have := (HCV.out.lt k hk).1; omega) (HCV.out.lt k hk).2) (by omega), HB1.out.grown HG7.out HB1.out.size fun k hk => by cases hk; exact Nat.le_refl _⟩
  by_cases hc3 : kc = 3
  · subst hc3
    clear hk0 hk1
    go_wp2
    obtain ⟨V, hV⟩ : ∃ V, V = (w6.alloc (.cells (blkA ((x % 70 - 2, d0.1.2), d0.2) (.slice a5 l.length c5)) 63)) := ⟨_, rfl⟩
    have HXV : Hid (V.heap[w6.heap.size]? = some (.cells (blkA ((x % 70 - 2, d0.1.2), d0.2) (.slice a5 l.length c5)) 63 (0, 0))) := (by rw [hV]; exact heap_alloc_new w6 _ : V.heap[w6.heap.size]? = some (.cells (blkA ((x % 70 - 2, d0.1.2), d0.2) (.slice a5 l.length c5)) 63 (0, 0)))
    have hbV : Below w6.heap.size w6 V := by rw [hV]; exact ba (Below.refl _ _) _
    rw [← hV]
    clear hV
    have HV6 : Hid (∀ k, k < w6.heap.size → V.heap[k]? = w6.heap[k]?) := fun k hk => hbV.block k hk
    have hVs : w6.heap.size < V.heap.size := (Array.getElem?_eq_some_iff.1 HXV.out).1
    have HBV : Hid (Below w.heap.size w V) := bt HB6.out hbV
    have HCV : Hid (V.ownsRow w4.heap.size 29 3 (.slice a5 l.length c5) ((x % 70 - 2, d0.1.2), d0.2).2.1.length (flatR cmdF ((x % 70 - 2, d0.1.2), d0.2).2.1)) := own_kept HC6.out hbV
    have HBDV : Hid (BB5 ((x % 70 - 2, d0.1.2), d0.2)) := HBD.out
    clear hbV
    have HOV : Hid (OwnU V w3.heap.size (.slice (some ⟨g, 0, none⟩) q.length c4) q) := HO6.out.same fun k _ hk => HV6.out k hk
    obtain ⟨V1, hV1⟩ : ∃ V1, V1 = V.drew := ⟨_, rfl⟩
    have kV : V1.heap[w.heap.size]? = some (.cells #[.int .i64 0, .int .i64 0, .slice none 0 0, .int .i64 0, .int .i64 0, .int .i64 0, .int .i64 0] 63 (0, 0)) := by rw [hV1]; exact (HV6.out _ (by omega)).trans HR6.out
    have HSV : Hid (V1.cell? ⟨w6.heap.size, 0, none⟩ = some (.int .i64 ((x % 70 - 2, d0.1.2), d0.2).1.1) ∧ V1.cell? ⟨w6.heap.size, 1, none⟩ = some (.int .i64 ((x % 70 - 2, d0.1.2), d0.2).1.2) ∧ V1.cell? ⟨w6.heap.size, 2, none⟩ = some (.slice a5 l.length c5) ∧ V1.cell? ⟨w6.heap.size, 3, none⟩ = some (.int .i64 ((x % 70 - 2, d0.1.2), d0.2).2.2.1) ∧ V1.cell? ⟨w6.heap.size, 4, none⟩ = some (.int .i64 ((x % 70 - 2, d0.1.2), d0.2).2.2.2.1) ∧ V1.cell? ⟨w6.heap.size, 5, none⟩ = some (.int .i64 ((x % 70 - 2, d0.1.2), d0.2).2.2.2.2.1) ∧ V1.cell? ⟨w6.heap.size, 6, none⟩ = some (.int .i64 ((x % 70 - 2, d0.1.2), d0.2).2.2.2.2.2)) := blk_cells (w := V1) (b := ((x % 70 - 2, d0.1.2), d0.2)) (by rw [hV1]; exact HXV.out)
    have HB1 : Hid (Below w.heap.size w V1) := (by rw [hV1]; exact HBV.out.drew : Below w.heap.size w V1)
    have HH1 : Hid (∀ k : Nat, V1.heap[k]? = V.heap[k]?) := fun k => by rw [hV1]; rfl
    obtain ⟨⟨u0, u1, u2, u3, u4, u5, u6⟩, ⟨f0, f1, f2, f3, f4, f5, f6⟩⟩ := blk_free kV
    obtain ⟨-, -, -, -, -, -, -, k7, g7⟩ := blk_seven kV (.int .i64 ((x % 70 - 2, d0.1.2), d0.2).1.1) (.int .i64 ((x % 70 - 2, d0.1.2), d0.2).1.2) (.slice a5 l.length c5) (.int .i64 ((x % 70 - 2, d0.1.2), d0.2).2.2.1) (.int .i64 ((x % 70 - 2, d0.1.2), d0.2).2.2.2.1) (.int .i64 ((x % 70 - 2, d0.1.2), d0.2).2.2.2.2.1) (.int .i64 ((x % 70 - 2, d0.1.2), d0.2).2.2.2.2.2)
    have HK7 : Hid (_ = some (Obj.cells (blkA ((x % 70 - 2, d0.1.2), d0.2) (.slice a5 l.length c5)) 63 (0, 0))) := k7
    have HG7 : Hid (V1.grownBy _ (some w.heap.size)) := g7
    clear kV k7 g7
    refine wp_region_P (fun j => j != 3) (fun w' => w'.cell? ⟨w6.heap.size, 0, none⟩ = some (.int .i64 ((x % 70 - 2, d0.1.2), d0.2).1.1) ∧ w'.cell? ⟨w6.heap.size, 1, none⟩ = some (.int .i64 ((x % 70 - 2, d0.1.2), d0.2).1.2) ∧ w'.cell? ⟨w6.heap.size, 2, none⟩ = some (.slice a5 l.length c5) ∧ w'.cell? ⟨w6.heap.size, 3, none⟩ = some (.int .i64 ((x % 70 - 2, d0.1.2), d0.2).2.2.1) ∧ w'.cell? ⟨w6.heap.size, 4, none⟩ = some (.int .i64 ((x % 70 - 2, d0.1.2), d0.2).2.2.2.1) ∧ w'.cell? ⟨w6.heap.size, 5, none⟩ = some (.int .i64 ((x % 70 - 2, d0.1.2), d0.2).2.2.2.2.1) ∧ w'.cell? ⟨w6.heap.size, 6, none⟩ = some (.int .i64 ((x % 70 - 2, d0.1.2), d0.2).2.2.2.2.2)) (by kernel_rfl) ?_
    show wpAnyP Try.prog _ _ _ _ _ 4 (Array.replicate 4 false) _ _
    rw [← hV1]
    have hszV : V.heap.size = V1.heap.size := by rw [hV1]; rfl
    clear hV1
    refine wpAnyP_take (i := 0) (v := ?_) rfl (by kernel_rfl) (by kernel_rfl) (by kernel_rfl) (by kernel_rfl) (by kernel_rfl) (fun _ _ _ h => h) (Or.inl ⟨by rfl, ?_⟩) HSV.out ?_
    rotate_left
    · intro w' hC'
      go_simp
      try with_reducible rfl
    simp only [Act.put]
    refine wpAnyP_take (i := 1) (v := ?_) rfl (by kernel_rfl) (by kernel_rfl) (by kernel_rfl) (by kernel_rfl) (by kernel_rfl) (fun _ _ _ h => h) (Or.inl ⟨by rfl, ?_⟩) HSV.out ?_
    rotate_left
    · intro w' hC'
      go_simp
      try with_reducible rfl
    simp only [Act.put]
    refine wpAnyP_take (i := 2) (v := ?_) rfl (by kernel_rfl) (by kernel_rfl) (by kernel_rfl) (by kernel_rfl) (by kernel_rfl) (fun _ _ _ h => h) (Or.inl ⟨by rfl, ?_⟩) HSV.out ?_
    rotate_left
    · intro w' hC'
      go_simp
      try with_reducible rfl
    simp only [Act.put]
    refine wpAnyP_one (i := 3) (by kernel_rfl) rfl ?_
    intro K hK
    go_simp
    refine hK.out _ _ (fun h => by cases h) ?_
    clear hK K
    refine wpAnyP_done (by kernel_rfl) ?_ _
    obtain ⟨w7, hw7⟩ : ∃ w7, w7 = ((((((V1.setCell ⟨w.heap.size, 0, none⟩ (.int .i64 ((x % 70 - 2, d0.1.2), d0.2).1.1)).setCell ⟨w.heap.size, 1, none⟩ (.int .i64 ((x % 70 - 2, d0.1.2), d0.2).1.2)).setCell ⟨w.heap.size, 2, none⟩ (.slice a5 l.length c5)).setCell ⟨w.heap.size, 3, none⟩ (.int .i64 ((x % 70 - 2, d0.1.2), d0.2).2.2.1)).setCell ⟨w.heap.size, 4, none⟩ (.int .i64 ((x % 70 - 2, d0.1.2), d0.2).2.2.2.1)).setCell ⟨w.heap.size, 5, none⟩ (.int .i64 ((x % 70 - 2, d0.1.2), d0.2).2.2.2.2.1)).setCell ⟨w.heap.size, 6, none⟩ (.int .i64 ((x % 70 - 2, d0.1.2), d0.2).2.2.2.2.2) := ⟨_, rfl⟩
    rw [← hw7] at HK7 HG7 ⊢
    obtain ⟨r0, r1, r2, r3, r4, r5, r6⟩ := blk_cells (b := ((x % 70 - 2, d0.1.2), d0.2)) HK7.out
    clear hw7 u0 u1 u2 u3 u4 u5 u6 f0 f1 f2 f3 f4 f5 f6
    go_wp2
    refine bodyPost_ret (v := .tuple #[.slice (some ⟨g, 0, none⟩) q.length c4, .agg (blkA ((x % 70 - 2, d0.1.2), d0.2) (.slice a5 l.length c5))]) (by simp [results, Try.results84, go_sem, r0, r1, r2, r3, r4, r5, r6]) rfl ?_
    have hkb : ∀ k, w3.heap.size ≤ k → k < V.heap.size → w7.heap[k]? = V.heap[k]? := fun k hk hk' => (HG7.out.block k (by rw [← hszV]; exact hk') (fun e => by have := Option.some.inj e; omega)).trans (HH1.out k)
    unfold PairR
    exact ⟨_, q, ((x % 70 - 2, d0.1.2), d0.2), (.slice a5 l.length c5), rfl, HBT.out, HBDV.out, (HOV.out.same hkb).base (by omega), own_base (own_same HCV.out fun k hk => hkb k (by have := (HCV.out.lt k hk).1; omega) (HCV.out.lt k hk).2) (by omega), HB1.out.grown HG7.out HB1.out.size fun k hk => by cases hk; exact Nat.le_refl _⟩
  by_cases hc0 : kc = 0
  · subst hc0
    clear hk0 hk1
    obtain ⟨y0, y1, y2, y3, y4, y5, y6⟩ := own_blk HO6.out.row rfl hiq
    have hg6 : g < w6.heap.size := (HO6.out.row.lt g rfl).2
    have z0 : ∀ o, (w6.alloc o).cell? ⟨g, i * 7, none⟩ = some (.int .i64 q[i].1.1.1) := fun o => by rw [(ba (Below.refl _ w6) o : Below w6.heap.size w6 (w6.alloc o)).cell (by exact hg6)]; exact y0
    have z1 : ∀ o, (w6.alloc o).cell? ⟨g, i * 7 + 1, none⟩ = some (.int .i64 q[i].1.1.2) := fun o => by rw [(ba (Below.refl _ w6) o : Below w6.heap.size w6 (w6.alloc o)).cell (by exact hg6)]; exact y1
    have z2 : ∀ o, (w6.alloc o).cell? ⟨g, i * 7 + 2, none⟩ = some q[i].2 := fun o => by rw [(ba (Below.refl _ w6) o : Below w6.heap.size w6 (w6.alloc o)).cell (by exact hg6)]; exact y2
    have z3 : ∀ o, (w6.alloc o).cell? ⟨g, i * 7 + 3, none⟩ = some (.int .i64 q[i].1.2.2.1) := fun o => by rw [(ba (Below.refl _ w6) o : Below w6.heap.size w6 (w6.alloc o)).cell (by exact hg6)]; exact y3
    have z4 : ∀ o, (w6.alloc o).cell? ⟨g, i * 7 + 4, none⟩ = some (.int .i64 q[i].1.2.2.2.1) := fun o => by rw [(ba (Below.refl _ w6) o : Below w6.heap.size w6 (w6.alloc o)).cell (by exact hg6)]; exact y4
    have z5 : ∀ o, (w6.alloc o).cell? ⟨g, i * 7 + 5, none⟩ = some (.int .i64 q[i].1.2.2.2.2.1) := fun o => by rw [(ba (Below.refl _ w6) o : Below w6.heap.size w6 (w6.alloc o)).cell (by exact hg6)]; exact y5
    have z6 : ∀ o, (w6.alloc o).cell? ⟨g, i * 7 + 6, none⟩ = some (.int .i64 q[i].1.2.2.2.2.2) := fun o => by rw [(ba (Below.refl _ w6) o : Below w6.heap.size w6 (w6.alloc o)).cell (by exact hg6)]; exact y6
    clear y0 y1 y2 y3 y4 y5 y6
    have qi0 : (0 : Int) ≤ (i : Int) := by omega
    have qi1 : (i : Int) < (q.length : Int) := by omega
    go_wp2_with fail
    obtain ⟨W, hW⟩ : ∃ W, W = w6.alloc (.cells (blkA d0 (.slice a5 l.length c5)) 63) := ⟨_, rfl⟩
    have HXW : Hid (W.heap[w6.heap.size]? = some (.cells (blkA d0 (.slice a5 l.length c5)) 63 (0, 0))) := (by rw [hW]; exact heap_alloc_new w6 _ : W.heap[w6.heap.size]? = some (.cells (blkA d0 (.slice a5 l.length c5)) 63 (0, 0)))
    have hbW : Below w6.heap.size w6 W := by rw [hW]; exact ba (Below.refl _ _) _
    rw [← hW]
    clear hW z0 z1 z2 z3 z4 z5 z6
    have hsW : w6.heap.size < W.heap.size := (Array.getElem?_eq_some_iff.1 HXW.out).1
    refine (l05Block_s q[i].1 q[i].2 W (rows_of_own cmdF_len (own_kept (HO6.out.cmds _ (List.getElem_mem hiq)) hbW)) (by have := (HBT.out.at hiq).1; omega)).mono ?_
    rintro e w8 ⟨v8, rfl, hown8, hb8⟩
    obtain ⟨a8, c8, h8, _⟩ := own_form hown8
    subst h8
    unfold blkV
    have k8 := (hb8.block _ hsW).trans HXW.out
    obtain ⟨⟨x0, x1, x2, x3, x4, x5, x6⟩, ⟨p0, p1, p2, p3, p4, p5, p6⟩⟩ := blk_free k8
    obtain ⟨-, -, -, -, -, -, -, k9, g9⟩ := blk_seven k8 (.int .i64 q[i].1.1.1) (.int .i64 q[i].1.1.2) (.slice a8 q[i].1.2.1.length c8) (.int .i64 q[i].1.2.2.1) (.int .i64 q[i].1.2.2.2.1) (.int .i64 q[i].1.2.2.2.2.1) (.int .i64 q[i].1.2.2.2.2.2)
    have HK9 : Hid (_ = some (Obj.cells (blkA q[i].1 (.slice a8 q[i].1.2.1.length c8)) 63 (0, 0))) := k9
    have HG9 : Hid (w8.grownBy _ (some w6.heap.size)) := g9
    have HB8 : Hid (Below W.heap.size W w8) := hb8
    have HC8 : Hid (w8.ownsRow W.heap.size 29 3 (.slice a8 q[i].1.2.1.length c8) q[i].1.2.1.length (flatR cmdF q[i].1.2.1)) := hown8
    have HBW : Hid (Below w6.heap.size w6 W) := hbW
    have hs8 := hb8.size
    clear k8 k9 g9 hown8 hb8 hbW
    go_wp2
    obtain ⟨V, hV⟩ : ∃ V, V = ((((((w8.setCell ⟨w6.heap.size, 0, none⟩ (.int .i64 q[i].1.1.1)).setCell ⟨w6.heap.size, 1, none⟩ (.int .i64 q[i].1.1.2)).setCell ⟨w6.heap.size, 2, none⟩ (.slice a8 q[i].1.2.1.length c8)).setCell ⟨w6.heap.size, 3, none⟩ (.int .i64 q[i].1.2.2.1)).setCell ⟨w6.heap.size, 4, none⟩ (.int .i64 q[i].1.2.2.2.1)).setCell ⟨w6.heap.size, 5, none⟩ (.int .i64 q[i].1.2.2.2.2.1)).setCell ⟨w6.heap.size, 6, none⟩ (.int .i64 q[i].1.2.2.2.2.2) := ⟨_, rfl⟩
    rw [← hV] at HK9 HG9 ⊢
    clear hV x0 x1 x2 x3 x4 x5 x6 p0 p1 p2 p3 p4 p5 p6
    have HXV : Hid (V.heap[w6.heap.size]? = some (.cells (blkA q[i].1 (.slice a8 q[i].1.2.1.length c8)) 63 (0, 0))) := HK9.out
    have HV6 : Hid (∀ k, k < w6.heap.size → V.heap[k]? = w6.heap[k]?) := fun k hk => ((HG9.out.block k (by omega) (fun e => by have := Option.some.inj e; omega)).trans (HB8.out.block k (by omega))).trans (HBW.out.block k hk)
    have hVs : w6.heap.size < V.heap.size := (Array.getElem?_eq_some_iff.1 HXV.out).1
    have HBV : Hid (Below w.heap.size w V) := (bt (bt HB6.out HBW.out) HB8.out).grown HG9.out (by omega) fun k hk => by cases hk; omega
    have HCV : Hid (V.ownsRow w4.heap.size 29 3 (.slice a8 q[i].1.2.1.length c8) q[i].1.2.1.length (flatR cmdF q[i].1.2.1)) := own_base (World.ownsRow.kept HC8.out HG9.out (own_far HC8.out hsW)) (by omega)
    have HBDV : Hid (BB5 q[i].1) := ⟨(HBT.out.at hiq).1, (HBT.out.at hiq).2.1⟩
    have HOV : Hid (OwnU V w3.heap.size (.slice (some ⟨g, 0, none⟩) q.length c4) q) := HO6.out.same fun k _ hk => HV6.out k hk
    obtain ⟨V1, hV1⟩ : ∃ V1, V1 = V.drew := ⟨_, rfl⟩
    have kV : V1.heap[w.heap.size]? = some (.cells #[.int .i64 0, .int .i64 0, .slice none 0 0, .int .i64 0, .int .i64 0, .int .i64 0, .int .i64 0] 63 (0, 0)) := by rw [hV1]; exact (HV6.out _ (by omega)).trans HR6.out
    have HSV : Hid (V1.cell? ⟨w6.heap.size, 0, none⟩ = some (.int .i64 q[i].1.1.1) ∧ V1.cell? ⟨w6.heap.size, 1, none⟩ = some (.int .i64 q[i].1.1.2) ∧ V1.cell? ⟨w6.heap.size, 2, none⟩ = some (.slice a8 q[i].1.2.1.length c8) ∧ V1.cell? ⟨w6.heap.size, 3, none⟩ = some (.int .i64 q[i].1.2.2.1) ∧ V1.cell? ⟨w6.heap.size, 4, none⟩ = some (.int .i64 q[i].1.2.2.2.1) ∧ V1.cell? ⟨w6.heap.size, 5, none⟩ = some (.int .i64 q[i].1.2.2.2.2.1) ∧ V1.cell? ⟨w6.heap.size, 6, none⟩ = some (.int .i64 q[i].1.2.2.2.2.2)) := blk_cells (w := V1) (b := q[i].1) (by rw [hV1]; exact HXV.out)
    have HB1 : Hid (Below w.heap.size w V1) := (by rw [hV1]; exact HBV.out.drew : Below w.heap.size w V1)
    have HH1 : Hid (∀ k : Nat, V1.heap[k]? = V.heap[k]?) := fun k => by rw [hV1]; rfl
    obtain ⟨⟨u0, u1, u2, u3, u4, u5, u6⟩, ⟨f0, f1, f2, f3, f4, f5, f6⟩⟩ := blk_free kV
    obtain ⟨-, -, -, -, -, -, -, k7, g7⟩ := blk_seven kV (.int .i64 q[i].1.1.1) (.int .i64 q[i].1.1.2) (.slice a8 q[i].1.2.1.length c8) (.int .i64 q[i].1.2.2.1) (.int .i64 q[i].1.2.2.2.1) (.int .i64 q[i].1.2.2.2.2.1) (.int .i64 q[i].1.2.2.2.2.2)
    have HK7 : Hid (_ = some (Obj.cells (blkA q[i].1 (.slice a8 q[i].1.2.1.length c8)) 63 (0, 0))) := k7
    have HG7 : Hid (V1.grownBy _ (some w.heap.size)) := g7
    clear kV k7 g7
    refine wp_region_P (fun j => j != 3) (fun w' => w'.cell? ⟨w6.heap.size, 0, none⟩ = some (.int .i64 q[i].1.1.1) ∧ w'.cell? ⟨w6.heap.size, 1, none⟩ = some (.int .i64 q[i].1.1.2) ∧ w'.cell? ⟨w6.heap.size, 2, none⟩ = some (.slice a8 q[i].1.2.1.length c8) ∧ w'.cell? ⟨w6.heap.size, 3, none⟩ = some (.int .i64 q[i].1.2.2.1) ∧ w'.cell? ⟨w6.heap.size, 4, none⟩ = some (.int .i64 q[i].1.2.2.2.1) ∧ w'.cell? ⟨w6.heap.size, 5, none⟩ = some (.int .i64 q[i].1.2.2.2.2.1) ∧ w'.cell? ⟨w6.heap.size, 6, none⟩ = some (.int .i64 q[i].1.2.2.2.2.2)) (by kernel_rfl) ?_
    show wpAnyP Try.prog _ _ _ _ _ 4 (Array.replicate 4 false) _ _
    rw [← hV1]
    have hszV : V.heap.size = V1.heap.size := by rw [hV1]; rfl
    clear hV1
    refine wpAnyP_take (i := 0) (v := ?_) rfl (by kernel_rfl) (by kernel_rfl) (by kernel_rfl) (by kernel_rfl) (by kernel_rfl) (fun _ _ _ h => h) (Or.inl ⟨by rfl, ?_⟩) HSV.out ?_
    rotate_left
    · intro w' hC'
      go_simp
      try with_reducible rfl
    simp only [Act.put]
    refine wpAnyP_take (i := 1) (v := ?_) rfl (by kernel_rfl) (by kernel_rfl) (by kernel_rfl) (by kernel_rfl) (by kernel_rfl) (fun _ _ _ h => h) (Or.inl ⟨by rfl, ?_⟩) HSV.out ?_
    rotate_left
    · intro w' hC'
      go_simp
      try with_reducible rfl
    simp only [Act.put]
    refine wpAnyP_take (i := 2) (v := ?_) rfl (by kernel_rfl) (by kernel_rfl) (by kernel_rfl) (by kernel_rfl) (by kernel_rfl) (fun _ _ _ h => h) (Or.inl ⟨by rfl, ?_⟩) HSV.out ?_
    rotate_left
    · intro w' hC'
      go_simp
      try with_reducible rfl
    simp only [Act.put]
    refine wpAnyP_one (i := 3) (by kernel_rfl) rfl ?_
    intro K hK
    go_simp
    refine hK.out _ _ (fun h => by cases h) ?_
    clear hK K
    refine wpAnyP_done (by kernel_rfl) ?_ _
    obtain ⟨w7, hw7⟩ : ∃ w7, w7 = ((((((V1.setCell ⟨w.heap.size, 0, none⟩ (.int .i64 q[i].1.1.1)).setCell ⟨w.heap.size, 1, none⟩ (.int .i64 q[i].1.1.2)).setCell ⟨w.heap.size, 2, none⟩ (.slice a8 q[i].1.2.1.length c8)).setCell ⟨w.heap.size, 3, none⟩ (.int .i64 q[i].1.2.2.1)).setCell ⟨w.heap.size, 4, none⟩ (.int .i64 q[i].1.2.2.2.1)).setCell ⟨w.heap.size, 5, none⟩ (.int .i64 q[i].1.2.2.2.2.1)).setCell ⟨w.heap.size, 6, none⟩ (.int .i64 q[i].1.2.2.2.2.2) := ⟨_, rfl⟩
    rw [← hw7] at HK7 HG7 ⊢
    obtain ⟨r0, r1, r2, r3, r4, r5, r6⟩ := blk_cells (b := q[i].1) HK7.out
    clear hw7 u0 u1 u2 u3 u4 u5 u6 f0 f1 f2 f3 f4 f5 f6
    go_wp2
    refine bodyPost_ret (v := .tuple #[.slice (some ⟨g, 0, none⟩) q.length c4, .agg (blkA q[i].1 (.slice a8 q[i].1.2.1.length c8))]) (by simp [results, Try.results84, go_sem, r0, r1, r2, r3, r4, r5, r6]) rfl ?_
    have hkb : ∀ k, w3.heap.size ≤ k → k < V.heap.size → w7.heap[k]? = V.heap[k]? := fun k hk hk' => (HG7.out.block k (by rw [← hszV]; exact hk') (fun e => by have := Option.some.inj e; omega)).trans (HH1.out k)
    unfold PairR
    exact ⟨_, q, q[i].1, (.slice a8 q[i].1.2.1.length c8), rfl, HBT.out, HBDV.out, (HOV.out.same hkb).base (by omega), own_base (own_same HCV.out fun k hk => hkb k (by have := (HCV.out.lt k hk).1; omega) (HCV.out.lt k hk).2) (by omega), HB1.out.grown HG7.out HB1.out.size fun k hk => by cases hk; exact Nat.le_refl _⟩
  by_cases hc1 : kc = 1
  · subst hc1
    clear hk0 hk1
    obtain ⟨y, hy⟩ : ∃ y : Int, ([.int .i64 0, .int .i64 900, .int .i64 901] : List Value)[(x % 3).toNat]? = some (.int .i64 y) := by
      rcases (show x % 3 = 0 ∨ x % 3 = 1 ∨ x % 3 = 2 by omega) with h | h | h <;> rw [h]
      · exact ⟨0, rfl⟩
      · exact ⟨900, rfl⟩
      · exact ⟨901, rfl⟩
    have cy : ((w6.alloc (.cells (blkA d0 (.slice a5 l.length c5)) 63)).alloc (.cells #[.int .i64 0, .int .i64 900, .int .i64 901] 3)).cell? ⟨w6.heap.size + 1, (x % 3).toNat, none⟩ = some (.int .i64 y) := by
      have := heap_alloc_new (w6.alloc (.cells (blkA d0 (.slice a5 l.length c5)) 63)) (.cells #[.int .i64 0, .int .i64 900, .int .i64 901] 3)
      rw [show (w6.alloc (.cells (blkA d0 (.slice a5 l.length c5)) 63)).heap.size = w6.heap.size + 1 by simp] at this
      rw [cell_of_row _ _ _ _ _ (0, 0) this]
      simpa using hy
    have m0 : 0 ≤ x % 3 := by omega
    have m1 : x % 3 < 3 := by omega
    clear hy
    go_wp2
    clear cy m0 m1
    obtain ⟨V, hV⟩ : ∃ V, V = (w6.alloc (.cells (blkA ((d0.1.1, y), d0.2) (.slice a5 l.length c5)) 63)).alloc (.cells #[.int .i64 0, .int .i64 900, .int .i64 901] 3) := ⟨_, rfl⟩
    have HXV : Hid (V.heap[w6.heap.size]? = some (.cells (blkA ((d0.1.1, y), d0.2) (.slice a5 l.length c5)) 63 (0, 0))) := (by rw [hV]; exact (box_cells (ba (Below.refl _ _) _)) : V.heap[w6.heap.size]? = some (.cells (blkA ((d0.1.1, y), d0.2) (.slice a5 l.length c5)) 63 (0, 0)))
    have hbV : Below w6.heap.size w6 V := by rw [hV]; exact ba (ba (Below.refl _ _) _) _
    rw [← hV]
    clear hV
    have HV6 : Hid (∀ k, k < w6.heap.size → V.heap[k]? = w6.heap[k]?) := fun k hk => hbV.block k hk
    have hVs : w6.heap.size < V.heap.size := (Array.getElem?_eq_some_iff.1 HXV.out).1
    have HBV : Hid (Below w.heap.size w V) := bt HB6.out hbV
    have HCV : Hid (V.ownsRow w4.heap.size 29 3 (.slice a5 l.length c5) ((d0.1.1, y), d0.2).2.1.length (flatR cmdF ((d0.1.1, y), d0.2).2.1)) := own_kept HC6.out hbV
    have HBDV : Hid (BB5 ((d0.1.1, y), d0.2)) := HBD.out
    clear hbV
    have HOV : Hid (OwnU V w3.heap.size (.slice (some ⟨g, 0, none⟩) q.length c4) q) := HO6.out.same fun k _ hk => HV6.out k hk
    obtain ⟨V1, hV1⟩ : ∃ V1, V1 = V.drew := ⟨_, rfl⟩
    have kV : V1.heap[w.heap.size]? = some (.cells #[.int .i64 0, .int .i64 0, .slice none 0 0, .int .i64 0, .int .i64 0, .int .i64 0, .int .i64 0] 63 (0, 0)) := by rw [hV1]; exact (HV6.out _ (by omega)).trans HR6.out
    have HSV : Hid (V1.cell? ⟨w6.heap.size, 0, none⟩ = some (.int .i64 ((d0.1.1, y), d0.2).1.1) ∧ V1.cell? ⟨w6.heap.size, 1, none⟩ = some (.int .i64 ((d0.1.1, y), d0.2).1.2) ∧ V1.cell? ⟨w6.heap.size, 2, none⟩ = some (.slice a5 l.length c5) ∧ V1.cell? ⟨w6.heap.size, 3, none⟩ = some (.int .i64 ((d0.1.1, y), d0.2).2.2.1) ∧ V1.cell? ⟨w6.heap.size, 4, none⟩ = some (.int .i64 ((d0.1.1, y), d0.2).2.2.2.1) ∧ V1.cell? ⟨w6.heap.size, 5, none⟩ = some (.int .i64 ((d0.1.1, y), d0.2).2.2.2.2.1) ∧ V1.cell? ⟨w6.heap.size, 6, none⟩ = some (.int .i64 ((d0.1.1, y), d0.2).2.2.2.2.2)) := blk_cells (w := V1) (b := ((d0.1.1, y), d0.2)) (by rw [hV1]; exact HXV.out)
    have HB1 : Hid (Below w.heap.size w V1) := (by rw [hV1]; exact HBV.out.drew : Below w.heap.size w V1)
    have HH1 : Hid (∀ k : Nat, V1.heap[k]? = V.heap[k]?) := fun k => by rw [hV1]; rfl
    obtain ⟨⟨u0, u1, u2, u3, u4, u5, u6⟩, ⟨f0, f1, f2, f3, f4, f5, f6⟩⟩ := blk_free kV
    obtain ⟨-, -, -, -, -, -, -, k7, g7⟩ := blk_seven kV (.int .i64 ((d0.1.1, y), d0.2).1.1) (.int .i64 ((d0.1.1, y), d0.2).1.2) (.slice a5 l.length c5) (.int .i64 ((d0.1.1, y), d0.2).2.2.1) (.int .i64 ((d0.1.1, y), d0.2).2.2.2.1) (.int .i64 ((d0.1.1, y), d0.2).2.2.2.2.1) (.int .i64 ((d0.1.1, y), d0.2).2.2.2.2.2)
    have HK7 : Hid (_ = some (Obj.cells (blkA ((d0.1.1, y), d0.2) (.slice a5 l.length c5)) 63 (0, 0))) := k7
    have HG7 : Hid (V1.grownBy _ (some w.heap.size)) := g7
    clear kV k7 g7
    refine wp_region_P (fun j => j != 3) (fun w' => w'.cell? ⟨w6.heap.size, 0, none⟩ = some (.int .i64 ((d0.1.1, y), d0.2).1.1) ∧ w'.cell? ⟨w6.heap.size, 1, none⟩ = some (.int .i64 ((d0.1.1, y), d0.2).1.2) ∧ w'.cell? ⟨w6.heap.size, 2, none⟩ = some (.slice a5 l.length c5) ∧ w'.cell? ⟨w6.heap.size, 3, none⟩ = some (.int .i64 ((d0.1.1, y), d0.2).2.2.1) ∧ w'.cell? ⟨w6.heap.size, 4, none⟩ = some (.int .i64 ((d0.1.1, y), d0.2).2.2.2.1) ∧ w'.cell? ⟨w6.heap.size, 5, none⟩ = some (.int .i64 ((d0.1.1, y), d0.2).2.2.2.2.1) ∧ w'.cell? ⟨w6.heap.size, 6, none⟩ = some (.int .i64 ((d0.1.1, y), d0.2).2.2.2.2.2)) (by kernel_rfl) ?_
    show wpAnyP Try.prog _ _ _ _ _ 4 (Array.replicate 4 false) _ _
    rw [← hV1]
    have hszV : V.heap.size = V1.heap.size := by rw [hV1]; rfl
    clear hV1
    refine wpAnyP_take (i := 0) (v := ?_) rfl (by kernel_rfl) (by kernel_rfl) (by kernel_rfl) (by kernel_rfl) (by kernel_rfl) (fun _ _ _ h => h) (Or.inl ⟨by rfl, ?_⟩) HSV.out ?_
    rotate_left
    · intro w' hC'
      go_simp
      try with_reducible rfl
    simp only [Act.put]
    refine wpAnyP_take (i := 1) (v := ?_) rfl (by kernel_rfl) (by kernel_rfl) (by kernel_rfl) (by kernel_rfl) (by kernel_rfl) (fun _ _ _ h => h) (Or.inl ⟨by rfl, ?_⟩) HSV.out ?_
    rotate_left
    · intro w' hC'
      go_simp
      try with_reducible rfl
    simp only [Act.put]
    refine wpAnyP_take (i := 2) (v := ?_) rfl (by kernel_rfl) (by kernel_rfl) (by kernel_rfl) (by kernel_rfl) (by kernel_rfl) (fun _ _ _ h => h) (Or.inl ⟨by rfl, ?_⟩) HSV.out ?_
    rotate_left
    · intro w' hC'
      go_simp
      try with_reducible rfl
    simp only [Act.put]
    refine wpAnyP_one (i := 3) (by kernel_rfl) rfl ?_
    intro K hK
    go_simp
    refine hK.out _ _ (fun h => by cases h) ?_
    clear hK K
    refine wpAnyP_done (by kernel_rfl) ?_ _
    obtain ⟨w7, hw7⟩ : ∃ w7, w7 = ((((((V1.setCell ⟨w.heap.size, 0, none⟩ (.int .i64 ((d0.1.1, y), d0.2).1.1)).setCell ⟨w.heap.size, 1, none⟩ (.int .i64 ((d0.1.1, y), d0.2).1.2)).setCell ⟨w.heap.size, 2, none⟩ (.slice a5 l.length c5)).setCell ⟨w.heap.size, 3, none⟩ (.int .i64 ((d0.1.1, y), d0.2).2.2.1)).setCell ⟨w.heap.size, 4, none⟩ (.int .i64 ((d0.1.1, y), d0.2).2.2.2.1)).setCell ⟨w.heap.size, 5, none⟩ (.int .i64 ((d0.1.1, y), d0.2).2.2.2.2.1)).setCell ⟨w.heap.size, 6, none⟩ (.int .i64 ((d0.1.1, y), d0.2).2.2.2.2.2) := ⟨_, rfl⟩
    rw [← hw7] at HK7 HG7 ⊢
    obtain ⟨r0, r1, r2, r3, r4, r5, r6⟩ := blk_cells (b := ((d0.1.1, y), d0.2)) HK7.out
    clear hw7 u0 u1 u2 u3 u4 u5 u6 f0 f1 f2 f3 f4 f5 f6
    go_wp2
    refine bodyPost_ret (v := .tuple #[.slice (some ⟨g, 0, none⟩) q.length c4, .agg (blkA ((d0.1.1, y), d0.2) (.slice a5 l.length c5))]) (by simp [results, Try.results84, go_sem, r0, r1, r2, r3, r4, r5, r6]) rfl ?_
    have hkb : ∀ k, w3.heap.size ≤ k → k < V.heap.size → w7.heap[k]? = V.heap[k]? := fun k hk hk' => (HG7.out.block k (by rw [← hszV]; exact hk') (fun e => by have := Option.some.inj e; omega)).trans (HH1.out k)
    unfold PairR
    exact ⟨_, q, ((d0.1.1, y), d0.2), (.slice a5 l.length c5), rfl, HBT.out, HBDV.out, (HOV.out.same hkb).base (by omega), own_base (own_same HCV.out fun k hk => hkb k (by have := (HCV.out.lt k hk).1; omega) (HCV.out.lt k hk).2) (by omega), HB1.out.grown HG7.out HB1.out.size fun k hk => by cases hk; exact Nat.le_refl _⟩
  · clear hk0 hk1
    go_wp2
    obtain ⟨V, hV⟩ : ∃ V, V = (w6.alloc (.cells (blkA d0 (.slice a5 l.length c5)) 63)) := ⟨_, rfl⟩
    have HXV : Hid (V.heap[w6.heap.size]? = some (.cells (blkA d0 (.slice a5 l.length c5)) 63 (0, 0))) := (by rw [hV]; exact heap_alloc_new w6 _ : V.heap[w6.heap.size]? = some (.cells (blkA d0 (.slice a5 l.length c5)) 63 (0, 0)))
    have hbV : Below w6.heap.size w6 V := by rw [hV]; exact ba (Below.refl _ _) _
    rw [← hV]
    clear hV
    have HV6 : Hid (∀ k, k < w6.heap.size → V.heap[k]? = w6.heap[k]?) := fun k hk => hbV.block k hk
    have hVs : w6.heap.size < V.heap.size := (Array.getElem?_eq_some_iff.1 HXV.out).1
    have HBV : Hid (Below w.heap.size w V) := bt HB6.out hbV
    have HCV : Hid (V.ownsRow w4.heap.size 29 3 (.slice a5 l.length c5) d0.2.1.length (flatR cmdF d0.2.1)) := own_kept HC6.out hbV
    have HBDV : Hid (BB5 d0) := HBD.out
    clear hbV
    have HOV : Hid (OwnU V w3.heap.size (.slice (some ⟨g, 0, none⟩) q.length c4) q) := HO6.out.same fun k _ hk => HV6.out k hk
    obtain ⟨V1, hV1⟩ : ∃ V1, V1 = V.drew := ⟨_, rfl⟩
    have kV : V1.heap[w.heap.size]? = some (.cells #[.int .i64 0, .int .i64 0, .slice none 0 0, .int .i64 0, .int .i64 0, .int .i64 0, .int .i64 0] 63 (0, 0)) := by rw [hV1]; exact (HV6.out _ (by omega)).trans HR6.out
    have HSV : Hid (V1.cell? ⟨w6.heap.size, 0, none⟩ = some (.int .i64 d0.1.1) ∧ V1.cell? ⟨w6.heap.size, 1, none⟩ = some (.int .i64 d0.1.2) ∧ V1.cell? ⟨w6.heap.size, 2, none⟩ = some (.slice a5 l.length c5) ∧ V1.cell? ⟨w6.heap.size, 3, none⟩ = some (.int .i64 d0.2.2.1) ∧ V1.cell? ⟨w6.heap.size, 4, none⟩ = some (.int .i64 d0.2.2.2.1) ∧ V1.cell? ⟨w6.heap.size, 5, none⟩ = some (.int .i64 d0.2.2.2.2.1) ∧ V1.cell? ⟨w6.heap.size, 6, none⟩ = some (.int .i64 d0.2.2.2.2.2)) := blk_cells (w := V1) (b := d0) (by rw [hV1]; exact HXV.out)
    have HB1 : Hid (Below w.heap.size w V1) := (by rw [hV1]; exact HBV.out.drew : Below w.heap.size w V1)
    have HH1 : Hid (∀ k : Nat, V1.heap[k]? = V.heap[k]?) := fun k => by rw [hV1]; rfl
    obtain ⟨⟨u0, u1, u2, u3, u4, u5, u6⟩, ⟨f0, f1, f2, f3, f4, f5, f6⟩⟩ := blk_free kV
    obtain ⟨-, -, -, -, -, -, -, k7, g7⟩ := blk_seven kV (.int .i64 d0.1.1) (.int .i64 d0.1.2) (.slice a5 l.length c5) (.int .i64 d0.2.2.1) (.int .i64 d0.2.2.2.1) (.int .i64 d0.2.2.2.2.1) (.int .i64 d0.2.2.2.2.2)
    have HK7 : Hid (_ = some (Obj.cells (blkA d0 (.slice a5 l.length c5)) 63 (0, 0))) := k7
    have HG7 : Hid (V1.grownBy _ (some w.heap.size)) := g7
    clear kV k7 g7
    refine wp_region_P (fun j => j != 3) (fun w' => w'.cell? ⟨w6.heap.size, 0, none⟩ = some (.int .i64 d0.1.1) ∧ w'.cell? ⟨w6.heap.size, 1, none⟩ = some (.int .i64 d0.1.2) ∧ w'.cell? ⟨w6.heap.size, 2, none⟩ = some (.slice a5 l.length c5) ∧ w'.cell? ⟨w6.heap.size, 3, none⟩ = some (.int .i64 d0.2.2.1) ∧ w'.cell? ⟨w6.heap.size, 4, none⟩ = some (.int .i64 d0.2.2.2.1) ∧ w'.cell? ⟨w6.heap.size, 5, none⟩ = some (.int .i64 d0.2.2.2.2.1) ∧ w'.cell? ⟨w6.heap.size, 6, none⟩ = some (.int .i64 d0.2.2.2.2.2)) (by kernel_rfl) ?_
    show wpAnyP Try.prog _ _ _ _ _ 4 (Array.replicate 4 false) _ _
    rw [← hV1]
    have hszV : V.heap.size = V1.heap.size := by rw [hV1]; rfl
    clear hV1
    refine wpAnyP_take (i := 0) (v := ?_) rfl (by kernel_rfl) (by kernel_rfl) (by kernel_rfl) (by kernel_rfl) (by kernel_rfl) (fun _ _ _ h => h) (Or.inl ⟨by rfl, ?_⟩) HSV.out ?_
    rotate_left
    · intro w' hC'
      go_simp
      try with_reducible rfl
    simp only [Act.put]
    refine wpAnyP_take (i := 1) (v := ?_) rfl (by kernel_rfl) (by kernel_rfl) (by kernel_rfl) (by kernel_rfl) (by kernel_rfl) (fun _ _ _ h => h) (Or.inl ⟨by rfl, ?_⟩) HSV.out ?_
    rotate_left
    · intro w' hC'
      go_simp
      try with_reducible rfl
    simp only [Act.put]
    refine wpAnyP_take (i := 2) (v := ?_) rfl (by kernel_rfl) (by kernel_rfl) (by kernel_rfl) (by kernel_rfl) (by kernel_rfl) (fun _ _ _ h => h) (Or.inl ⟨by rfl, ?_⟩) HSV.out ?_
    rotate_left
    · intro w' hC'
      go_simp
      try with_reducible rfl
    simp only [Act.put]
    refine wpAnyP_one (i := 3) (by kernel_rfl) rfl ?_
    intro K hK
    go_simp
    refine hK.out _ _ (fun h => by cases h) ?_
    clear hK K
    refine wpAnyP_done (by kernel_rfl) ?_ _
    obtain ⟨w7, hw7⟩ : ∃ w7, w7 = ((((((V1.setCell ⟨w.heap.size, 0, none⟩ (.int .i64 d0.1.1)).setCell ⟨w.heap.size, 1, none⟩ (.int .i64 d0.1.2)).setCell ⟨w.heap.size, 2, none⟩ (.slice a5 l.length c5)).setCell ⟨w.heap.size, 3, none⟩ (.int .i64 d0.2.2.1)).setCell ⟨w.heap.size, 4, none⟩ (.int .i64 d0.2.2.2.1)).setCell ⟨w.heap.size, 5, none⟩ (.int .i64 d0.2.2.2.2.1)).setCell ⟨w.heap.size, 6, none⟩ (.int .i64 d0.2.2.2.2.2) := ⟨_, rfl⟩
    rw [← hw7] at HK7 HG7 ⊢
    obtain ⟨r0, r1, r2, r3, r4, r5, r6⟩ := blk_cells (b := d0) HK7.out
    clear hw7 u0 u1 u2 u3 u4 u5 u6 f0 f1 f2 f3 f4 f5 f6
    go_wp2
    refine bodyPost_ret (v := .tuple #[.slice (some ⟨g, 0, none⟩) q.length c4, .agg (blkA d0 (.slice a5 l.length c5))]) (by simp [results, Try.results84, go_sem, r0, r1, r2, r3, r4, r5, r6]) rfl ?_
    have hkb : ∀ k, w3.heap.size ≤ k → k < V.heap.size → w7.heap[k]? = V.heap[k]? := fun k hk hk' => (HG7.out.block k (by rw [← hszV]; exact hk') (fun e => by have := Option.some.inj e; omega)).trans (HH1.out k)
    unfold PairR
    exact ⟨_, q, d0, (.slice a5 l.length c5), rfl, HBT.out, HBDV.out, (HOV.out.same hkb).base (by omega), own_base (own_same HCV.out fun k hk => hkb k (by have := (HCV.out.lt k hk).1; omega) (HCV.out.lt k hk).2) (by omega), HB1.out.grown HG7.out HB1.out.size fun k hk => by cases hk; exact Nat.le_refl _⟩

end Go.Proofs.Ytjdddcldbfhbiaa
