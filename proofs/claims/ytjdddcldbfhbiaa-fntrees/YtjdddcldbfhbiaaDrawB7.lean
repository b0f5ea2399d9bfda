/-
  What the law of trees draws besides: a tree and a block to be put, a tree right or not, two blocks.
-/
import Derived.Test.YtjdddcldbfhbiaaDrawB6
namespace Go.Proofs.Ytjdddcldbfhbiaa
open Go.RowKit Num

set_option maxRecDepth 100000 in
theorem drawTreeOk_any {w : World} {ao : Option Addr} {len cap b off : Nat} (hc : Code w ao len b off) :
    Calls Try.prog 36 #[.slice ao len cap] w fun e w' => ∃ (v : Value) (qs : TL), e = .returned v ∧ BT (bks qs) 10 ∧ OwnU w' w.heap.size v qs ∧ Below w.heap.size w w' := by
  have HC : Hid (Code w ao len b off) := hc
  clear hc
  go_enter Try.func36, Try.ntmps36
  go_wp2_with fail
  refine (new_any HC.out).mono ?_
  rintro e w1 ⟨N, rfl, hN, hS, hb⟩
  have HS : Hid (St w1 N ao len cap b off) := hS
  clear hS
  go_wp2_with fail
  refine (any5_st HS.out).mono ?_
  rintro e w2 ⟨v, qs, rfl, hd, hown, _, hg⟩
  have HO : Hid (OwnU w2 w1.heap.size v qs) := hown
  have HD : Hid (BT (bks qs) 10) := hd
  clear hown hd
  go_wp2
  go_ret
  exact ⟨v, qs, rfl, HD.out, HO.out.base hb.size, drawn_below hb hN hg⟩

/-- two blocks that can be read -/
def SameR (w : World) (e : Ending) (w' : World) : Prop := ∃ (d1 : BK) (c1 : Value) (d2 : BK) (c2 : Value), e = .returned (.tuple #[blkV d1 c1, blkV d2 c2]) ∧ BB5 d1 ∧ BB5 d2 ∧ RowsR w' c1 3 cmdF d1.2.1 ∧ RowsR w' c2 3 cmdF d2.2.1 ∧ Below w.heap.size w w'

set_option maxRecDepth 100000 in
set_option maxHeartbeats 2000000 in
theorem drawSame_any {w : World} {ao : Option Addr} {len cap b off : Nat} (hc : Code w ao len b off) :
    Calls Try.prog 37 #[.slice ao len cap] w fun e w' => SameR w e w' := by
  obtain ⟨W0, hW0⟩ : ∃ W0, W0 = (w.alloc (.cells #[.int .i64 0, .int .i64 0, .slice none 0 0, .int .i64 0, .int .i64 0, .int .i64 0, .int .i64 0] 63)).alloc (.cells #[.int .i64 0, .int .i64 0, .slice none 0 0, .int .i64 0, .int .i64 0, .int .i64 0, .int .i64 0] 63) := ⟨_, rfl⟩
  have hb0 : Below w.heap.size w W0 := by rw [hW0]; exact ba (ba (Below.refl _ _) _) _
  have HR0 : Hid (W0.heap[w.heap.size]? = some (.cells #[.int .i64 0, .int .i64 0, .slice none 0 0, .int .i64 0, .int .i64 0, .int .i64 0, .int .i64 0] 63 (0, 0))) := (by rw [hW0]; exact box_cells (ba (Below.refl _ _) _) : W0.heap[w.heap.size]? = some (.cells #[.int .i64 0, .int .i64 0, .slice none 0 0, .int .i64 0, .int .i64 0, .int .i64 0, .int .i64 0] 63 (0, 0)))
  have HR1 : Hid (W0.heap[w.heap.size + 1]? = some (.cells #[.int .i64 0, .int .i64 0, .slice none 0 0, .int .i64 0, .int .i64 0, .int .i64 0, .int .i64 0] 63 (0, 0))) := (by
    have := heap_alloc_new (w.alloc (.cells #[.int .i64 0, .int .i64 0, .slice none 0 0, .int .i64 0, .int .i64 0, .int .i64 0, .int .i64 0] 63)) (.cells #[.int .i64 0, .int .i64 0, .slice none 0 0, .int .i64 0, .int .i64 0, .int .i64 0, .int .i64 0] 63)
    rw [show (w.alloc (.cells #[.int .i64 0, .int .i64 0, .slice none 0 0, .int .i64 0, .int .i64 0, .int .i64 0, .int .i64 0] 63)).heap.size = w.heap.size + 1 by simp] at this
    rw [hW0]; exact this : W0.heap[w.heap.size + 1]? = some (.cells #[.int .i64 0, .int .i64 0, .slice none 0 0, .int .i64 0, .int .i64 0, .int .i64 0, .int .i64 0] 63 (0, 0)))
  have hs1 : w.heap.size + 1 < W0.heap.size := (Array.getElem?_eq_some_iff.1 HR1.out).1
  have HC : Hid (Code W0 ao len b off) := hc.below hb0
  have HB0 : Hid (Below w.heap.size w W0) := hb0
  clear hc hb0
  go_enter Try.func37, Try.ntmps37
  go_wp2_with fail
  rw [← hW0]
  clear hW0
  refine (pair5_any HC.out).mono ?_
  rintro e w1 ⟨v, q, d, cd, rfl, hbt, hbd, hown, hownd, hb1⟩
  have HBT : Hid (BT (bks q) 10) := hbt
  have HBD : Hid (BB5 d) := hbd
  have HO1 : Hid (OwnU w1 W0.heap.size v q) := hown
  have HC1 : Hid (w1.ownsRow W0.heap.size 29 3 cd d.2.1.length (flatR cmdF d.2.1)) := hownd
  have HB1 : Hid (Below W0.heap.size W0 w1) := hb1
  have hsz1 := hb1.size
  have hqp : 0 < q.length := by have := hbt.1; rw [bks_len] at this; exact this
  have hq9 : q.length ≤ 10 := by have := hbt.2.1; rw [bks_len] at this; exact this
  obtain ⟨a4, c4, h4, hz⟩ := own_form hown.row
  subst h4
  obtain ⟨g, rfl⟩ := hz hqp
  obtain ⟨ad, pd, hd4, _⟩ := own_form hownd
  subst hd4
  have hg1 : g < w1.heap.size := (HO1.out.row.lt g rfl).2
  have hg0 : W0.heap.size ≤ g := (HO1.out.row.lt g rfl).1
  clear hbt hbd hown hownd hb1 hz
  unfold blkV
  go_wp2
  obtain ⟨V, hV⟩ : ∃ V, V = w1.alloc (.cells (blkA d (.slice ad d.2.1.length pd)) 63) := ⟨_, rfl⟩
  have HXV : Hid (V.heap[w1.heap.size]? = some (.cells (blkA d (.slice ad d.2.1.length pd)) 63 (0, 0))) := (by rw [hV]; exact heap_alloc_new w1 _ : V.heap[w1.heap.size]? = some (.cells (blkA d (.slice ad d.2.1.length pd)) 63 (0, 0)))
  have hbV : Below w1.heap.size w1 V := by rw [hV]; exact ba (Below.refl _ _) _
  rw [← hV]
  clear hV
  obtain ⟨V1, hV1⟩ : ∃ V1, V1 = V.drew := ⟨_, rfl⟩
  have hb1V : Below w1.heap.size w1 V1 := by rw [hV1]; exact hbV.drew
  have HO2 : Hid (OwnU V1 W0.heap.size (.slice (some ⟨g, 0, none⟩) q.length c4) q) := HO1.out.below hb1V
  have HC2 : Hid (V1.ownsRow W0.heap.size 29 3 (.slice ad d.2.1.length pd) d.2.1.length (flatR cmdF d.2.1)) := own_kept HC1.out hb1V
  have HB2 : Hid (Below w.heap.size w V1) := bt (bt HB0.out HB1.out) hb1V
  have kA : V1.heap[w.heap.size]? = some (.cells #[.int .i64 0, .int .i64 0, .slice none 0 0, .int .i64 0, .int .i64 0, .int .i64 0, .int .i64 0] 63 (0, 0)) := (hb1V.block _ (by omega)).trans ((HB1.out.block _ (by omega)).trans HR0.out)
  have kB : V1.heap[w.heap.size + 1]? = some (.cells #[.int .i64 0, .int .i64 0, .slice none 0 0, .int .i64 0, .int .i64 0, .int .i64 0, .int .i64 0] 63 (0, 0)) := (hb1V.block _ (by omega)).trans ((HB1.out.block _ hs1).trans HR1.out)
  have HSV : Hid ((V1.cell? ⟨g, (q.length - 1) * 7, none⟩ = some (.int .i64 q[q.length - 1].1.1.1) ∧ V1.cell? ⟨g, (q.length - 1) * 7 + 1, none⟩ = some (.int .i64 q[q.length - 1].1.1.2) ∧ V1.cell? ⟨g, (q.length - 1) * 7 + 2, none⟩ = some q[q.length - 1].2 ∧ V1.cell? ⟨g, (q.length - 1) * 7 + 3, none⟩ = some (.int .i64 q[q.length - 1].1.2.2.1) ∧ V1.cell? ⟨g, (q.length - 1) * 7 + 4, none⟩ = some (.int .i64 q[q.length - 1].1.2.2.2.1) ∧ V1.cell? ⟨g, (q.length - 1) * 7 + 5, none⟩ = some (.int .i64 q[q.length - 1].1.2.2.2.2.1) ∧ V1.cell? ⟨g, (q.length - 1) * 7 + 6, none⟩ = some (.int .i64 q[q.length - 1].1.2.2.2.2.2)) ∧ V1.cell? ⟨w1.heap.size, 0, none⟩ = some (.int .i64 d.1.1) ∧ V1.cell? ⟨w1.heap.size, 1, none⟩ = some (.int .i64 d.1.2) ∧ V1.cell? ⟨w1.heap.size, 2, none⟩ = some (.slice ad d.2.1.length pd) ∧ V1.cell? ⟨w1.heap.size, 3, none⟩ = some (.int .i64 d.2.2.1) ∧ V1.cell? ⟨w1.heap.size, 4, none⟩ = some (.int .i64 d.2.2.2.1) ∧ V1.cell? ⟨w1.heap.size, 5, none⟩ = some (.int .i64 d.2.2.2.2.1) ∧ V1.cell? ⟨w1.heap.size, 6, none⟩ = some (.int .i64 d.2.2.2.2.2)) := ⟨own_blk (k := q.length - 1) HO2.out.row rfl (by omega), blk_cells (w := V1) (b := d) (by rw [hV1]; exact HXV.out)⟩
  have HCq : Hid (V1.ownsRow W0.heap.size 29 3 q[q.length - 1].2 q[q.length - 1].1.2.1.length (flatR cmdF q[q.length - 1].1.2.1)) := HO2.out.cmds _ (List.getElem_mem (by omega))
  have HBq : Hid (BB5 q[q.length - 1].1) := ⟨(HBT.out.at (k := q.length - 1) (by omega)).1, (HBT.out.at (k := q.length - 1) (by omega)).2.1⟩
  obtain ⟨aq, pq, hq4, _⟩ := own_form HCq.out
  rw [hq4] at HSV HCq
  clear hq4
  have qn1 : ((q.length : Int) - 1).toNat = q.length - 1 := by omega
  have qn0 : IntKind.i64.wrap ((q.length : Int) - 1) = (q.length : Int) - 1 := by rw [IntKind.wrap_i64]; omega
  have qn4 : (1 : Int) ≤ (q.length : Int) := by omega
  have qn2 : (0 : Int) ≤ (q.length : Int) - 1 := by omega
  have qn3 : (q.length : Int) - 1 < (q.length : Int) := by omega
  refine wp_region_P (fun _ => true) (fun w' => (w'.cell? ⟨g, (q.length - 1) * 7, none⟩ = some (.int .i64 q[q.length - 1].1.1.1) ∧ w'.cell? ⟨g, (q.length - 1) * 7 + 1, none⟩ = some (.int .i64 q[q.length - 1].1.1.2) ∧ w'.cell? ⟨g, (q.length - 1) * 7 + 2, none⟩ = some (.slice aq q[q.length - 1].1.2.1.length pq) ∧ w'.cell? ⟨g, (q.length - 1) * 7 + 3, none⟩ = some (.int .i64 q[q.length - 1].1.2.2.1) ∧ w'.cell? ⟨g, (q.length - 1) * 7 + 4, none⟩ = some (.int .i64 q[q.length - 1].1.2.2.2.1) ∧ w'.cell? ⟨g, (q.length - 1) * 7 + 5, none⟩ = some (.int .i64 q[q.length - 1].1.2.2.2.2.1) ∧ w'.cell? ⟨g, (q.length - 1) * 7 + 6, none⟩ = some (.int .i64 q[q.length - 1].1.2.2.2.2.2)) ∧ w'.cell? ⟨w1.heap.size, 0, none⟩ = some (.int .i64 d.1.1) ∧ w'.cell? ⟨w1.heap.size, 1, none⟩ = some (.int .i64 d.1.2) ∧ w'.cell? ⟨w1.heap.size, 2, none⟩ = some (.slice ad d.2.1.length pd) ∧ w'.cell? ⟨w1.heap.size, 3, none⟩ = some (.int .i64 d.2.2.1) ∧ w'.cell? ⟨w1.heap.size, 4, none⟩ = some (.int .i64 d.2.2.2.1) ∧ w'.cell? ⟨w1.heap.size, 5, none⟩ = some (.int .i64 d.2.2.2.2.1) ∧ w'.cell? ⟨w1.heap.size, 6, none⟩ = some (.int .i64 d.2.2.2.2.2)) (by kernel_rfl) ?_
  show wpAnyP Try.prog _ _ _ _ _ 9 (Array.replicate 9 false) _ _
  rw [← hV1]
  have hszV : V.heap.size = V1.heap.size := by rw [hV1]; rfl
  clear hV1 hbV hb1V
  have hgV : g < V1.heap.size := (HO2.out.row.lt g rfl).2
  have h1V : w1.heap.size < V1.heap.size := by rw [← hszV]; exact (Array.getElem?_eq_some_iff.1 HXV.out).1
  have HSC : Hid (∀ V' : World, (∀ k, W0.heap.size ≤ k → k < V1.heap.size → V'.heap[k]? = V1.heap[k]?) → (V'.cell? ⟨g, (q.length - 1) * 7, none⟩ = some (.int .i64 q[q.length - 1].1.1.1) ∧ V'.cell? ⟨g, (q.length - 1) * 7 + 1, none⟩ = some (.int .i64 q[q.length - 1].1.1.2) ∧ V'.cell? ⟨g, (q.length - 1) * 7 + 2, none⟩ = some (.slice aq q[q.length - 1].1.2.1.length pq) ∧ V'.cell? ⟨g, (q.length - 1) * 7 + 3, none⟩ = some (.int .i64 q[q.length - 1].1.2.2.1) ∧ V'.cell? ⟨g, (q.length - 1) * 7 + 4, none⟩ = some (.int .i64 q[q.length - 1].1.2.2.2.1) ∧ V'.cell? ⟨g, (q.length - 1) * 7 + 5, none⟩ = some (.int .i64 q[q.length - 1].1.2.2.2.2.1) ∧ V'.cell? ⟨g, (q.length - 1) * 7 + 6, none⟩ = some (.int .i64 q[q.length - 1].1.2.2.2.2.2)) ∧ V'.cell? ⟨w1.heap.size, 0, none⟩ = some (.int .i64 d.1.1) ∧ V'.cell? ⟨w1.heap.size, 1, none⟩ = some (.int .i64 d.1.2) ∧ V'.cell? ⟨w1.heap.size, 2, none⟩ = some (.slice ad d.2.1.length pd) ∧ V'.cell? ⟨w1.heap.size, 3, none⟩ = some (.int .i64 d.2.2.1) ∧ V'.cell? ⟨w1.heap.size, 4, none⟩ = some (.int .i64 d.2.2.2.1) ∧ V'.cell? ⟨w1.heap.size, 5, none⟩ = some (.int .i64 d.2.2.2.2.1) ∧ V'.cell? ⟨w1.heap.size, 6, none⟩ = some (.int .i64 d.2.2.2.2.2)) := fun V' hk => by
    have e1 : ∀ o, V'.cell? ⟨g, o, none⟩ = V1.cell? ⟨g, o, none⟩ := fun o => World.cell?_of_block (hk g hg0 hgV)
    have e2 : ∀ o, V'.cell? ⟨w1.heap.size, o, none⟩ = V1.cell? ⟨w1.heap.size, o, none⟩ := fun o => World.cell?_of_block (hk w1.heap.size hsz1 h1V)
    simp only [e1, e2]
    exact HSV.out
  refine wpAnyP_take (i := 0) (v := ?_) rfl (by kernel_rfl) (by kernel_rfl) (by kernel_rfl) (by kernel_rfl) (by kernel_rfl) (fun _ _ _ h => h) (Or.inl ⟨by rfl, ?_⟩) HSV.out ?_
  rotate_left
  · intro w' hC'
    go_simp
    try with_reducible rfl
  simp only [Act.put]
  refine wpAnyP_take (i := 1) (v := ?_) rfl (by kernel_rfl) (by kernel_rfl) (by kernel_rfl) (by kernel_rfl) (by kernel_rfl) (fun _ _ _ h => h) (Or.inl ⟨by rfl, ?_⟩) HSV.out ?_
  rotate_left
  · intro w' hC'
    go_simp
    try with_reducible rfl
  simp only [Act.put]
  refine wpAnyP_take (i := 2) (v := ?_) rfl (by kernel_rfl) (by kernel_rfl) (by kernel_rfl) (by kernel_rfl) (by kernel_rfl) (fun _ _ _ h => h) (Or.inl ⟨by rfl, ?_⟩) HSV.out ?_
  rotate_left
  · intro w' hC'
    go_simp
    try with_reducible rfl
  simp only [Act.put]
  refine wpAnyP_take (i := 3) (v := ?_) rfl (by kernel_rfl) (by kernel_rfl) (by kernel_rfl) (by kernel_rfl) (by kernel_rfl) (fun _ _ _ h => h) (Or.inl ⟨by rfl, ?_⟩) HSV.out ?_
  rotate_left
  · intro w' hC'
    go_simp
    try with_reducible rfl
  simp only [Act.put]
  refine wpAnyP_take (i := 4) (v := ?_) rfl (by kernel_rfl) (by kernel_rfl) (by kernel_rfl) (by kernel_rfl) (by kernel_rfl) (fun _ _ _ h => h) (Or.inl ⟨by rfl, ?_⟩) HSV.out ?_
  rotate_left
  · intro w' hC'
    go_simp
    try with_reducible rfl
  simp only [Act.put]
  refine wpAnyP_take (i := 5) (v := ?_) rfl (by kernel_rfl) (by kernel_rfl) (by kernel_rfl) (by kernel_rfl) (by kernel_rfl) (fun _ _ _ h => h) (Or.inl ⟨by rfl, ?_⟩) HSV.out ?_
  rotate_left
  · intro w' hC'
    go_simp
    try with_reducible rfl
  simp only [Act.put]
  refine wpAnyP_take (i := 6) (v := ?_) rfl (by kernel_rfl) (by kernel_rfl) (by kernel_rfl) (by kernel_rfl) (by kernel_rfl) (fun _ _ _ h => h) (Or.inl ⟨by rfl, ?_⟩) HSV.out ?_
  rotate_left
  · intro w' hC'
    go_simp
    try with_reducible rfl
  simp only [Act.put]
  obtain ⟨⟨u0, u1, u2, u3, u4, u5, u6⟩, ⟨f0, f1, f2, f3, f4, f5, f6⟩⟩ := blk_free kA
  obtain ⟨-, -, -, -, -, -, -, k7, g7⟩ := blk_seven kA (.int .i64 q[q.length - 1].1.1.1) (.int .i64 q[q.length - 1].1.1.2) (.slice aq q[q.length - 1].1.2.1.length pq) (.int .i64 q[q.length - 1].1.2.2.1) (.int .i64 q[q.length - 1].1.2.2.2.1) (.int .i64 q[q.length - 1].1.2.2.2.2.1) (.int .i64 q[q.length - 1].1.2.2.2.2.2)
  have kB7 := (g7.block (w.heap.size + 1) (Array.getElem?_eq_some_iff.1 kB).1 (fun e => by have := Option.some.inj e; omega)).trans kB
  have HK7 : Hid (_ = some (Obj.cells (blkA q[q.length - 1].1 (.slice aq q[q.length - 1].1.2.1.length pq)) 63 (0, 0))) := k7
  have HG7 : Hid (V1.grownBy _ (some w.heap.size)) := g7
  have HKB7 : Hid (_ = some (Obj.cells #[.int .i64 0, .int .i64 0, .slice none 0 0, .int .i64 0, .int .i64 0, .int .i64 0, .int .i64 0] 63 (0, 0))) := kB7
  clear k7 g7 kA kB kB7
  have HS7 : Hid (_ ∧ _) := HSC.out _ (fun k hk hk' => HG7.out.block k hk' (fun e => by have := Option.some.inj e; omega))
  refine wpAnyP_one (i := 7) (by kernel_rfl) rfl ?_
  intro K hK
  go_simp
  refine hK.out _ _ (fun _ => (by with_reducible exact HS7.out)) ?_
  clear hK K HS7
  obtain ⟨V2, hV2⟩ : ∃ V2, V2 = (((((((V1.setCell ⟨w.heap.size, 0, none⟩ (.int .i64 q[q.length - 1].1.1.1)).setCell ⟨w.heap.size, 1, none⟩ (.int .i64 q[q.length - 1].1.1.2)).setCell ⟨w.heap.size, 2, none⟩ (.slice aq q[q.length - 1].1.2.1.length pq)).setCell ⟨w.heap.size, 3, none⟩ (.int .i64 q[q.length - 1].1.2.2.1)).setCell ⟨w.heap.size, 4, none⟩ (.int .i64 q[q.length - 1].1.2.2.2.1)).setCell ⟨w.heap.size, 5, none⟩ (.int .i64 q[q.length - 1].1.2.2.2.2.1)).setCell ⟨w.heap.size, 6, none⟩ (.int .i64 q[q.length - 1].1.2.2.2.2.2)) := ⟨_, rfl⟩
  rw [← hV2] at HK7 HG7 HKB7 ⊢
  clear hV2 u0 u1 u2 u3 u4 u5 u6 f0 f1 f2 f3 f4 f5 f6
  obtain ⟨⟨u0, u1, u2, u3, u4, u5, u6⟩, ⟨f0, f1, f2, f3, f4, f5, f6⟩⟩ := blk_free HKB7.out
  obtain ⟨-, -, -, -, -, -, -, k8, g8⟩ := blk_seven HKB7.out (.int .i64 d.1.1) (.int .i64 d.1.2) (.slice ad d.2.1.length pd) (.int .i64 d.2.2.1) (.int .i64 d.2.2.2.1) (.int .i64 d.2.2.2.2.1) (.int .i64 d.2.2.2.2.2)
  have kA8 := (g8.block w.heap.size (Array.getElem?_eq_some_iff.1 HK7.out).1 (fun e => by have := Option.some.inj e; omega)).trans HK7.out
  have HK8 : Hid (_ = some (Obj.cells (blkA d (.slice ad d.2.1.length pd)) 63 (0, 0))) := k8
  have HG8 : Hid (V2.grownBy _ (some (w.heap.size + 1))) := g8
  have HKA8 : Hid (_ = some (Obj.cells (blkA q[q.length - 1].1 (.slice aq q[q.length - 1].1.2.1.length pq)) 63 (0, 0))) := kA8
  clear k8 g8 kA8
  have hs27 := HG7.out.size
  have HS8 : Hid (_ ∧ _) := HSC.out _ (fun k hk hk' => (HG8.out.block k (by omega) (fun e => by have := Option.some.inj e; omega)).trans (HG7.out.block k hk' (fun e => by have := Option.some.inj e; omega)))
  refine wpAnyP_one (i := 8) (by kernel_rfl) rfl ?_
  intro K hK
  go_simp
  refine hK.out _ _ (fun _ => (by with_reducible exact HS8.out)) ?_
  clear hK K HS8
  refine wpAnyP_done (by kernel_rfl) ?_ _
  obtain ⟨V3, hV3⟩ : ∃ V3, V3 = (((((((V2.setCell ⟨(w.heap.size + 1), 0, none⟩ (.int .i64 d.1.1)).setCell ⟨(w.heap.size + 1), 1, none⟩ (.int .i64 d.1.2)).setCell ⟨(w.heap.size + 1), 2, none⟩ (.slice ad d.2.1.length pd)).setCell ⟨(w.heap.size + 1), 3, none⟩ (.int .i64 d.2.2.1)).setCell ⟨(w.heap.size + 1), 4, none⟩ (.int .i64 d.2.2.2.1)).setCell ⟨(w.heap.size + 1), 5, none⟩ (.int .i64 d.2.2.2.2.1)).setCell ⟨(w.heap.size + 1), 6, none⟩ (.int .i64 d.2.2.2.2.2)) := ⟨_, rfl⟩
  rw [← hV3] at HK8 HG8 HKA8 ⊢
  clear hV3 u0 u1 u2 u3 u4 u5 u6 f0 f1 f2 f3 f4 f5 f6
  obtain ⟨r0, r1, r2, r3, r4, r5, r6⟩ := blk_cells (b := q[q.length - 1].1) HKA8.out
  obtain ⟨s0, s1, s2, s3, s4, s5, s6⟩ := blk_cells (b := d) HK8.out
  go_wp2
  refine bodyPost_ret (v := .tuple #[.agg (blkA q[q.length - 1].1 (.slice aq q[q.length - 1].1.2.1.length pq)), .agg (blkA d (.slice ad d.2.1.length pd))]) (by simp [results, Try.results37, go_sem, r0, r1, r2, r3, r4, r5, r6, s0, s1, s2, s3, s4, s5, s6]) rfl ?_
  have hs2 := HG7.out.size
  have hs3 := HG8.out.size
  have hkb : ∀ k, W0.heap.size ≤ k → k < V1.heap.size → V3.heap[k]? = V1.heap[k]? := fun k hk hk' => (HG8.out.block k (by omega) (fun e => by have := Option.some.inj e; omega)).trans (HG7.out.block k hk' (fun e => by have := Option.some.inj e; omega))
  have B7 := HB2.out.grown HG7.out HB2.out.size fun k hk => by cases hk; exact Nat.le_refl _
  have B8 := B7.grown HG8.out B7.size fun k hk => by cases hk; omega
  unfold SameR
  exact ⟨q[q.length - 1].1, (.slice aq q[q.length - 1].1.2.1.length pq), d, (.slice ad d.2.1.length pd), rfl, HBq.out, HBD.out, rows_of_own cmdF_len (own_same HCq.out fun k hk => hkb k (HCq.out.lt k hk).1 (HCq.out.lt k hk).2), rows_of_own cmdF_len (own_same HC2.out fun k hk => hkb k (HC2.out.lt k hk).1 (HC2.out.lt k hk).2), B8⟩

end Go.Proofs.Ytjdddcldbfhbiaa
