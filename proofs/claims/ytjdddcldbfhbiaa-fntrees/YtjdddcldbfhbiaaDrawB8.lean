/-
  A tree and a block to be put, drawn: sometimes the tree is full.
-/
import Derived.Test.YtjdddcldbfhbiaaDrawB6
namespace Go.Proofs.Ytjdddcldbfhbiaa
open Go.RowKit Num

/-- a tree that is made full: its bounds -/
def TrV (t : List BK) : Prop := 0 < t.length ∧ t.length ≤ 60 ∧ ∀ b ∈ t, BB5 b ∧ 0 ≤ b.1.2 ∧ b.1.2 ≤ 1000 + (t.length : Int)
theorem BT.vt {t : List BK} (h : BT t 10) : TrV t := ⟨h.1, by have := h.2.1; omega, fun b hb => ⟨⟨(h.2.2 b hb).1, (h.2.2 b hb).2.1⟩, (h.2.2 b hb).2.2.1, by have := (h.2.2 b hb).2.2.2; omega⟩⟩
theorem TrV.ok {t : List BK} (h : TrV t) : okT t := ⟨by have := h.2.1; omega, fun b hb => (h.2.2 b hb).1.ok⟩
theorem TrV.on {t : List BK} (h : TrV t) (hl : t.length < 60) (ph : Int) : TrV (t ++ [onB t (t.length - 1) 1 [] ph]) := by
  refine ⟨by simp, by simp; omega, fun b hb => ?_⟩
  rw [List.length_append]
  rcases List.mem_append.1 hb with h1 | h1
  · have := h.2.2 b h1
    exact ⟨this.1, this.2.1, by have := this.2.2; simp; omega⟩
  · rw [List.mem_singleton] at h1
    subst h1
    have h0 := h.1
    have hv : viewAt t ((t.length - 1 : Nat) : Int) = t[t.length - 1].1.2 := viewAt_at (by omega)
    have hm := (h.2.2 _ (List.getElem_mem (show t.length - 1 < t.length by omega))).2
    refine ⟨⟨by simp [onB], fun c hc => by simp [onB] at hc⟩, ?_, ?_⟩
    · show 0 ≤ viewAt t ((t.length - 1 : Nat) : Int) + 1
      rw [hv]; omega
    · show viewAt t ((t.length - 1 : Nat) : Int) + 1 ≤ _
      rw [hv]; simp; omega
theorem TrV.view {ps : TL} (h : TrV (bks ps)) : 0 ≤ viewAt (bks ps) ((ps.length - 1 : Nat) : Int) ∧ viewAt (bks ps) ((ps.length - 1 : Nat) : Int) ≤ 2000 := by
  have h1 := h.1
  have h2 := h.2.1
  rw [bks_len] at h1
  have hl : ps.length - 1 < (bks ps).length := by rw [bks_len]; omega
  rw [viewAt_at hl]
  have := (h.2.2 _ (List.getElem_mem hl)).2
  omega
theorem OwnU.push {wr w2 w3 : World} {base : Nat} {v v3 : Value} {qs : TL} {b : BK} {cv : Value} {o : Obj} (h : OwnU wr base v qs) (hb : Below wr.heap.size wr w2) (hc : w2.ownsRow base 29 3 cv b.2.1.length (flatR cmdF b.2.1))
    (row : w3.ownsRow base 63 7 v3 (qs.length + 1) (flatR blkF qs ++ blkF (b, cv))) (hg : (w2.alloc o).grownBy w3 v.ownBlock) : OwnU w3 base v3 (qs ++ [(b, cv)]) := by
  have hrow2 : (w2.alloc o).ownsRow base 63 7 v qs.length (flatR blkF qs) := World.ownsRow.alloc (own_kept h.row hb) o
  refine ⟨by rw [List.length_append, flatR_append, flatB_one]; exact row, fun p hp => ?_⟩
  rcases List.mem_append.1 hp with hp | hp
  · have h2 : (w2.alloc o).ownsRow base 29 3 p.2 p.1.2.1.length (flatR cmdF p.1.2.1) := World.ownsRow.alloc (own_kept (h.cmds p hp) hb) o
    exact World.ownsRow.kept h2 hg (own_kind h2 hrow2 ne_ids)
  · rw [List.mem_singleton] at hp
    subst hp
    have h2 : (w2.alloc o).ownsRow base 29 3 cv b.2.1.length (flatR cmdF b.2.1) := World.ownsRow.alloc hc o
    exact World.ownsRow.kept h2 hg (own_kind h2 hrow2 ne_ids)

def sliceLen : Value → Nat | .slice _ n _ => n | _ => 0
/-- a row of two blocks or more is not the box of one -/
theorem own_not_box {w : World} {base N n : Nat} {v : Value} {xs : List Value} {A : Array Value} {e t : TypeId} (h : w.ownsRow base e 7 v n xs) (hb : w.heap[N]? = some (.cells A t (0, 0))) (hA : A.size = 7) (hn : 2 ≤ n) : v.ownBlock ≠ some N := by
  obtain ⟨hl, ⟨rfl, h0⟩ | ⟨g, cap, cur, rfl, _, hh, hc1, _, hs, _⟩⟩ := h
  · omega
  · intro e0
    have e1 : g = N := Option.some.inj (show some g = some N from e0)
    subst e1
    rw [hh] at hb
    injection hb with hb
    injection hb with h1 _ _
    subst h1
    have := Nat.mul_le_mul_right 7 hc1
    omega

/-- a tree and a block that can be read -/
def PutR (w : World) (e : Ending) (w' : World) : Prop := ∃ (v : Value) (qs : TL) (d : BK) (cd : Value), e = .returned (.tuple #[v, blkV d cd]) ∧ okT (bks qs) ∧ okB d ∧ TreeR w' v qs ∧ RowsR w' cd 3 cmdF d.2.1 ∧ Below w.heap.size w w'

set_option maxRecDepth 100000 in
set_option maxHeartbeats 2000000 in
theorem drawPut_any {w : World} {ao : Option Addr} {len cap b off : Nat} (hc : Code w ao len b off) :
    Calls Try.prog 34 #[.slice ao len cap] w fun e w' => PutR w e w' := by
  obtain ⟨W0, hW0⟩ : ∃ W0, W0 = w.alloc (.cells #[.int .i64 0, .int .i64 0, .slice none 0 0, .int .i64 0, .int .i64 0, .int .i64 0, .int .i64 0] 63) := ⟨_, rfl⟩
  have hb0 : Below w.heap.size w W0 := by rw [hW0]; exact ba (Below.refl _ _) _
  have HR0 : Hid (W0.heap[w.heap.size]? = some (.cells #[.int .i64 0, .int .i64 0, .slice none 0 0, .int .i64 0, .int .i64 0, .int .i64 0, .int .i64 0] 63 (0, 0))) := (by rw [hW0]; exact heap_alloc_new w _ : W0.heap[w.heap.size]? = some (.cells #[.int .i64 0, .int .i64 0, .slice none 0 0, .int .i64 0, .int .i64 0, .int .i64 0, .int .i64 0] 63 (0, 0)))
  have hs0 : w.heap.size < W0.heap.size := (Array.getElem?_eq_some_iff.1 HR0.out).1
  have HC : Hid (Code W0 ao len b off) := hc.below hb0
  have HB0 : Hid (Below w.heap.size w W0) := hb0
  have hle := hc.le
  clear hc hb0
  go_enter Try.func34, Try.ntmps34
  go_wp2_with fail
  rw [← hW0]
  clear hW0
  refine (pair5_any HC.out).mono ?_
  rintro e w1 ⟨v, q, d, cd, rfl, hbt, hbd, hown, hownd, hb1⟩
  have HVT : Hid (TrV (bks q)) := hbt.vt
  have HBD : Hid (BB5 d) := hbd
  have HO1 : Hid (OwnU w1 W0.heap.size v q) := hown
  have HC1 : Hid (w1.ownsRow W0.heap.size 29 3 cd d.2.1.length (flatR cmdF d.2.1)) := hownd
  have HB1 : Hid (Below w.heap.size w w1) := bt HB0.out hb1
  have HZ1 : Hid (w1.heap[w.heap.size]? = some (.cells #[.int .i64 0, .int .i64 0, .slice none 0 0, .int .i64 0, .int .i64 0, .int .i64 0, .int .i64 0] 63 (0, 0))) := (hb1.block _ hs0).trans HR0.out
  have hsz1 := hb1.size
  obtain ⟨ad, pd, hd4, _⟩ := own_form hownd
  subst hd4
  obtain ⟨av, cv, hv4, _⟩ := own_form hown.row
  subst hv4
  obtain ⟨i0, hi, hz0, hz1, hz2⟩ := info_parts infoBlk
  have HB01 : Hid (Below W0.heap.size W0 w1) := hb1
  clear hbt hbd hown hownd hb1
  unfold blkV
  have HXW : Hid ((w1.alloc (.cells (blkA d (.slice ad d.2.1.length pd)) 63)).heap[w1.heap.size]? = some (.cells (blkA d (.slice ad d.2.1.length pd)) 63 (0, 0))) := heap_alloc_new w1 _
  have HBW : Hid (Below w1.heap.size w1 (w1.alloc (.cells (blkA d (.slice ad d.2.1.length pd)) 63))) := ba (Below.refl _ _) _
  obtain ⟨W, hW⟩ : ∃ W, W = w1.alloc (.cells (blkA d (.slice ad d.2.1.length pd)) 63) := ⟨_, rfl⟩
  rw [← hW] at HXW HBW
  have hsW : w1.heap.size < W.heap.size := (Array.getElem?_eq_some_iff.1 HXW.out).1
  have HOW : Hid (OwnU W W0.heap.size (.slice av q.length cv) q) := HO1.out.below HBW.out
  have hvg : (Value.slice av q.length cv).ownBlock ≠ some w1.heap.size := fun e => by have := (HO1.out.row.lt _ e).2; omega
  have HVG : Hid ((Value.slice av q.length cv).ownBlock ≠ some w1.heap.size) := hvg
  have HCW : Hid (W.ownsRow W0.heap.size 29 3 (.slice ad d.2.1.length pd) d.2.1.length (flatR cmdF d.2.1)) := own_kept HC1.out HBW.out
  have HB0W : Hid (Below W0.heap.size W0 W) := bt HB01.out HBW.out
  clear hvg HO1 HC1
  by_cases h13 : (len : Int) % 13 = 0
  · go_wp2
    rw [← hW]
    clear hW h13
    go_loopw [4] (fun t wr => ∃ (qs : TL), TrV (bks qs) ∧ OwnU wr W0.heap.size t qs ∧ t.ownBlock ≠ some w1.heap.size ∧ wr.heap[w1.heap.size]? = some (.cells (blkA d (.slice ad d.2.1.length pd)) 63 (0, 0)) ∧ wr.ownsRow W0.heap.size 29 3 (.slice ad d.2.1.length pd) d.2.1.length (flatR cmdF d.2.1) ∧ Below W0.heap.size W0 wr) (fun t _ => 60 - sliceLen t)
    case atStart => exact ⟨q, HVT.out, HOW.out, HVG.out, HXW.out, HCW.out, HB0W.out⟩
    case round =>
      obtain ⟨qs, hvt, hownr, hng, hbox, hcd, hbel⟩ := hrel
      have HV : Hid (TrV (bks qs)) := hvt
      have hq1 : 0 < qs.length := by have := hvt.1; rw [bks_len] at this; exact this
      have hq2 : qs.length ≤ 60 := by have := hvt.2.1; rw [bks_len] at this; exact this
      obtain ⟨at', ct, ht4, _⟩ := own_form hownr.row
      subst ht4
      have HOr : Hid (OwnU wr W0.heap.size (.slice at' qs.length ct) qs) := hownr
      have HNG : Hid ((Value.slice at' qs.length ct).ownBlock ≠ some w1.heap.size) := hng
      have HXr : Hid (wr.heap[w1.heap.size]? = some (.cells (blkA d (.slice ad d.2.1.length pd)) 63 (0, 0))) := hbox
      have HCr : Hid (wr.ownsRow W0.heap.size 29 3 (.slice ad d.2.1.length pd) d.2.1.length (flatR cmdF d.2.1)) := hcd
      have HBr : Hid (Below W0.heap.size W0 wr) := hbel
      have hsr := hbel.size
      have hsx : w1.heap.size < wr.heap.size := (Array.getElem?_eq_some_iff.1 hbox).1
      clear hvt hownr hbel hng hbox hcd
      by_cases hlt : (qs.length : Int) < 60
      · have HVW : Hid (0 ≤ viewAt (bks qs) ((qs.length - 1 : Nat) : Int) ∧ viewAt (bks qs) ((qs.length - 1 : Nat) : Int) ≤ 2000) := TrV.view HV.out
        have HN : Hid (TrV (bks qs ++ [onB (bks qs) (qs.length - 1) 1 [] 1])) := (by
          have := HV.out.on (by rw [bks_len]; omega) 1
          rw [bks_len] at this; exact this : TrV (bks qs ++ [onB (bks qs) (qs.length - 1) 1 [] 1]))
        have HKC : Hid ((qs.length : Int) - 1 = ((qs.length - 1 : Nat) : Int)) := (by omega : (qs.length : Int) - 1 = ((qs.length - 1 : Nat) : Int))
        go_wp2_with fail
        rw [HKC.out]
        have HBA : Hid (Below wr.heap.size wr (wr.alloc (.cells #[] 29))) := ba (Below.refl _ _) _
        refine (on_s qs _ (qs.length - 1) 1 [] (some ⟨wr.heap.size, 0, none⟩) 0 0 1 _ (HOr.out.below HBA.out).read.q (by omega) (by omega) ⟨by have := HVW.out; omega, by have := HVW.out; omega⟩ ⟨by omega, by omega⟩).mono ?_
        rintro e w5 ⟨rfl, hb5⟩
        obtain ⟨d5, hd5⟩ : ∃ d5, d5 = onB (bks qs) (qs.length - 1) 1 [] 1 := ⟨_, rfl⟩
        rw [← hd5] at HN ⊢
        have HD5 : Hid (d5.2.1 = []) := (by rw [hd5]; rfl : d5.2.1 = [])
        have hB5 : Below wr.heap.size wr w5 := bt HBA.out hb5
        have HC5 : Hid (w5.ownsRow W0.heap.size 29 3 (.slice (some ⟨wr.heap.size, 0, none⟩) 0 0) d5.2.1.length (flatR cmdF d5.2.1)) := (by
          rw [HD5.out]
          exact own_base (own_kept (own_new wr 29 3) hb5) (by omega) : w5.ownsRow W0.heap.size 29 3 (.slice (some ⟨wr.heap.size, 0, none⟩) 0 0) d5.2.1.length (flatR cmdF d5.2.1))
        have HR5 : Hid (w5.ownsRow W0.heap.size 63 7 (.slice at' qs.length ct) qs.length (flatR blkF qs)) := own_kept HOr.out.row hB5
        have HB5 : Hid (Below wr.heap.size wr w5) := hB5
        have hs5 := hB5.size
        clear hd5 hb5 hB5
        unfold blkV
        go_wp2_with (at_builtin; refine wpList_append_own _ rfl _ _ 57 rfl W0.heap.size 63 i0 _ 7 72 Try.underlying57 hi hz0 hz1 hz2 rfl (by decide) _ _ _ rfl (World.ownsRow.alloc HR5.out _) ⟨World.heap _ |>.size, 0, none⟩ 1 1 (blkF (d5, .slice (some ⟨wr.heap.size, 0, none⟩) 0 0)) rfl rfl (newsB _ d5 _ _) (onesB _ _ _ _) (by unfold maxLen; omega) (by omega) (by simp; omega) ?_; intro v6 w6 hown6 hgrow6 _)
        have HU : Hid (OwnU w6 W0.heap.size v6 (qs ++ [(d5, .slice (some ⟨wr.heap.size, 0, none⟩) 0 0)])) := HOr.out.push HB5.out HC5.out hown6 hgrow6
        have HX6 : Hid (w6.heap[w1.heap.size]? = some (.cells (blkA d (.slice ad d.2.1.length pd)) 63 (0, 0))) := (hgrow6.block w1.heap.size (by simp; omega) (fun e => HNG.out e.symm)).trans (((ba (Below.refl _ _) _ : Below w5.heap.size w5 _).block _ (by omega)).trans ((HB5.out.block _ hsx).trans HXr.out))
        have HC6 : Hid (w6.ownsRow W0.heap.size 29 3 (.slice ad d.2.1.length pd) d.2.1.length (flatR cmdF d.2.1)) := World.ownsRow.kept (World.ownsRow.alloc (own_kept HCr.out HB5.out) _) hgrow6 (own_kind (World.ownsRow.alloc (own_kept HCr.out HB5.out) (Obj.cells #[] 29)) (World.ownsRow.alloc HR5.out (Obj.cells #[] 29)) ne_ids)
        have HB6 : Hid (Below W0.heap.size W0 w6) := (ba (bt HBr.out HB5.out) _).grown hgrow6 (by simp; omega) (fun x hx => (HR5.out.lt x hx).1)
        clear hown6 hgrow6
        obtain ⟨a6, c6, h6, _⟩ := own_form HU.out.row
        subst h6
        have HN6 : Hid ((Value.slice a6 (qs ++ [(d5, Value.slice (some ⟨wr.heap.size, 0, none⟩) 0 0)]).length c6).ownBlock ≠ some w1.heap.size) := own_not_box HU.out.row HX6.out rfl (by rw [List.length_append]; simp; omega)
        go_wp2
        go_roundw
        case rel => exact ⟨_, by rw [bks_snoc]; exact HN.out, HU.out, HN6.out, HX6.out, HC6.out, HB6.out⟩
        case measure => simp [sliceLen]; omega
      · go_wp2
        obtain ⟨V, hV⟩ : ∃ V, V = wr := ⟨_, rfl⟩
        rw [← hV] at HXr HOr HCr HBr hsx ⊢
        clear hV
        have HXV : Hid (V.heap[w1.heap.size]? = some (.cells (blkA d (.slice ad d.2.1.length pd)) 63 (0, 0))) := HXr.out
        have HZV : Hid (V.heap[w.heap.size]? = some (.cells #[.int .i64 0, .int .i64 0, .slice none 0 0, .int .i64 0, .int .i64 0, .int .i64 0, .int .i64 0] 63 (0, 0))) := (HBr.out.block _ hs0).trans HR0.out
        have HBV : Hid (Below w.heap.size w V) := bt HB0.out HBr.out
        have HOV : Hid (OwnU V W0.heap.size (.slice at' qs.length ct) qs) := HOr.out
        have HCV : Hid (V.ownsRow W0.heap.size 29 3 (.slice ad d.2.1.length pd) d.2.1.length (flatR cmdF d.2.1)) := HCr.out
        obtain ⟨V1, hV1⟩ : ∃ V1, V1 = V.drew := ⟨_, rfl⟩
        have kV : V1.heap[w.heap.size]? = some (.cells #[.int .i64 0, .int .i64 0, .slice none 0 0, .int .i64 0, .int .i64 0, .int .i64 0, .int .i64 0] 63 (0, 0)) := by rw [hV1]; exact HZV.out
        have HSV : Hid (V1.cell? ⟨w1.heap.size, 0, none⟩ = some (.int .i64 d.1.1) ∧ V1.cell? ⟨w1.heap.size, 1, none⟩ = some (.int .i64 d.1.2) ∧ V1.cell? ⟨w1.heap.size, 2, none⟩ = some (.slice ad d.2.1.length pd) ∧ V1.cell? ⟨w1.heap.size, 3, none⟩ = some (.int .i64 d.2.2.1) ∧ V1.cell? ⟨w1.heap.size, 4, none⟩ = some (.int .i64 d.2.2.2.1) ∧ V1.cell? ⟨w1.heap.size, 5, none⟩ = some (.int .i64 d.2.2.2.2.1) ∧ V1.cell? ⟨w1.heap.size, 6, none⟩ = some (.int .i64 d.2.2.2.2.2)) := blk_cells (w := V1) (b := d) (by rw [hV1]; exact HXV.out)
        have HB1 : Hid (Below w.heap.size w V1) := (by rw [hV1]; exact HBV.out.drew : Below w.heap.size w V1)
        have HH1 : Hid (∀ k : Nat, V1.heap[k]? = V.heap[k]?) := fun k => by rw [hV1]; rfl
        obtain ⟨⟨u0, u1, u2, u3, u4, u5, u6⟩, ⟨f0, f1, f2, f3, f4, f5, f6⟩⟩ := blk_free kV
        obtain ⟨-, -, -, -, -, -, -, k7, g7⟩ := blk_seven kV (.int .i64 d.1.1) (.int .i64 d.1.2) (.slice ad d.2.1.length pd) (.int .i64 d.2.2.1) (.int .i64 d.2.2.2.1) (.int .i64 d.2.2.2.2.1) (.int .i64 d.2.2.2.2.2)
        have HK7 : Hid (_ = some (Obj.cells (blkA d (.slice ad d.2.1.length pd)) 63 (0, 0))) := k7
        have HG7 : Hid (V1.grownBy _ (some w.heap.size)) := g7
        clear kV k7 g7
        refine wp_region_P (fun j => j != 3) (fun w' => w'.cell? ⟨w1.heap.size, 0, none⟩ = some (.int .i64 d.1.1) ∧ w'.cell? ⟨w1.heap.size, 1, none⟩ = some (.int .i64 d.1.2) ∧ w'.cell? ⟨w1.heap.size, 2, none⟩ = some (.slice ad d.2.1.length pd) ∧ w'.cell? ⟨w1.heap.size, 3, none⟩ = some (.int .i64 d.2.2.1) ∧ w'.cell? ⟨w1.heap.size, 4, none⟩ = some (.int .i64 d.2.2.2.1) ∧ w'.cell? ⟨w1.heap.size, 5, none⟩ = some (.int .i64 d.2.2.2.2.1) ∧ w'.cell? ⟨w1.heap.size, 6, none⟩ = some (.int .i64 d.2.2.2.2.2)) (by kernel_rfl) ?_
        show wpAnyP Try.prog _ _ _ _ _ 4 (Array.replicate 4 false) _ _
        rw [← hV1]
        have hszV : V.heap.size = V1.heap.size := by rw [hV1]; rfl
        clear hV1
        refine wpAnyP_take (i := 0) (v := ?_) rfl (by kernel_rfl) (by kernel_rfl) (by kernel_rfl) (by kernel_rfl) (by kernel_rfl) (fun _ _ _ h => h) (Or.inl ⟨by rfl, ?_⟩) HSV.out ?_
        rotate_left
        · intro w' hC'
          go_simp
          try with_reducible rfl
        simp only [Act.put]
        refine wpAnyP_take (i := 1) (v := ?_) rfl (by kernel_rfl) (by kernel_rfl) (by kernel_rfl) (by kernel_rfl) (by kernel_rfl) (fun _ _ _ h => h) (Or.inl ⟨by rfl, ?_⟩) HSV.out ?_
        rotate_left
        · intro w' hC'
          go_simp
          try with_reducible rfl
        simp only [Act.put]
        refine wpAnyP_take (i := 2) (v := ?_) rfl (by kernel_rfl) (by kernel_rfl) (by kernel_rfl) (by kernel_rfl) (by kernel_rfl) (fun _ _ _ h => h) (Or.inl ⟨by rfl, ?_⟩) HSV.out ?_
        rotate_left
        · intro w' hC'
          go_simp
          try with_reducible rfl
        simp only [Act.put]
        refine wpAnyP_one (i := 3) (by kernel_rfl) rfl ?_
        intro K hK
        go_simp
        refine hK.out _ _ (fun h => by cases h) ?_
        clear hK K
        refine wpAnyP_done (by kernel_rfl) ?_ _
        obtain ⟨w7, hw7⟩ : ∃ w7, w7 = (((((((V1.setCell ⟨w.heap.size, 0, none⟩ (.int .i64 d.1.1)).setCell ⟨w.heap.size, 1, none⟩ (.int .i64 d.1.2)).setCell ⟨w.heap.size, 2, none⟩ (.slice ad d.2.1.length pd)).setCell ⟨w.heap.size, 3, none⟩ (.int .i64 d.2.2.1)).setCell ⟨w.heap.size, 4, none⟩ (.int .i64 d.2.2.2.1)).setCell ⟨w.heap.size, 5, none⟩ (.int .i64 d.2.2.2.2.1)).setCell ⟨w.heap.size, 6, none⟩ (.int .i64 d.2.2.2.2.2)) := ⟨_, rfl⟩
        rw [← hw7] at HK7 HG7 ⊢
        obtain ⟨r0, r1, r2, r3, r4, r5, r6⟩ := blk_cells (b := d) HK7.out
        clear hw7 u0 u1 u2 u3 u4 u5 u6 f0 f1 f2 f3 f4 f5 f6
        go_wp2
        refine bodyPost_ret (v := .tuple #[Value.slice at' qs.length ct, .agg (blkA d (.slice ad d.2.1.length pd))]) (by simp [results, Try.results34, go_sem, r0, r1, r2, r3, r4, r5, r6]) rfl ?_
        have hkb : ∀ k, W0.heap.size ≤ k → k < V.heap.size → w7.heap[k]? = V.heap[k]? := fun k hk hk' => (HG7.out.block k (by rw [← hszV]; exact hk') (fun e => by have := Option.some.inj e; omega)).trans (HH1.out k)
        have B7 := HB1.out.grown HG7.out HB1.out.size fun k hk => by cases hk; exact Nat.le_refl _
        unfold PutR
        exact ⟨_, qs, d, (.slice ad d.2.1.length pd), rfl, HV.out.ok, HBD.out.ok, ((HOV.out.same hkb).base (Nat.le_refl _)).read, rows_of_own cmdF_len (own_same HCV.out fun k hk => hkb k (HCV.out.lt k hk).1 (HCV.out.lt k hk).2), B7⟩
  · go_wp2
    rw [← hW]
    clear hW h13
    obtain ⟨V, hV⟩ : ∃ V, V = W := ⟨_, rfl⟩
    rw [← hV] at HXW HOW HCW HB0W ⊢
    clear hV
    have HXV : Hid (V.heap[w1.heap.size]? = some (.cells (blkA d (.slice ad d.2.1.length pd)) 63 (0, 0))) := HXW.out
    have HZV : Hid (V.heap[w.heap.size]? = some (.cells #[.int .i64 0, .int .i64 0, .slice none 0 0, .int .i64 0, .int .i64 0, .int .i64 0, .int .i64 0] 63 (0, 0))) := (HB0W.out.block _ hs0).trans HR0.out
    have HBV : Hid (Below w.heap.size w V) := bt HB0.out HB0W.out
    have HOV : Hid (OwnU V W0.heap.size (.slice av q.length cv) q) := HOW.out
    have HCV : Hid (V.ownsRow W0.heap.size 29 3 (.slice ad d.2.1.length pd) d.2.1.length (flatR cmdF d.2.1)) := HCW.out
    obtain ⟨V1, hV1⟩ : ∃ V1, V1 = V.drew := ⟨_, rfl⟩
    have kV : V1.heap[w.heap.size]? = some (.cells #[.int .i64 0, .int .i64 0, .slice none 0 0, .int .i64 0, .int .i64 0, .int .i64 0, .int .i64 0] 63 (0, 0)) := by rw [hV1]; exact HZV.out
    have HSV : Hid (V1.cell? ⟨w1.heap.size, 0, none⟩ = some (.int .i64 d.1.1) ∧ V1.cell? ⟨w1.heap.size, 1, none⟩ = some (.int .i64 d.1.2) ∧ V1.cell? ⟨w1.heap.size, 2, none⟩ = some (.slice ad d.2.1.length pd) ∧ V1.cell? ⟨w1.heap.size, 3, none⟩ = some (.int .i64 d.2.2.1) ∧ V1.cell? ⟨w1.heap.size, 4, none⟩ = some (.int .i64 d.2.2.2.1) ∧ V1.cell? ⟨w1.heap.size, 5, none⟩ = some (.int .i64 d.2.2.2.2.1) ∧ V1.cell? ⟨w1.heap.size, 6, none⟩ = some (.int .i64 d.2.2.2.2.2)) := blk_cells (w := V1) (b := d) (by rw [hV1]; exact HXV.out)
    have HB1 : Hid (Below w.heap.size w V1) := (by rw [hV1]; exact HBV.out.drew : Below w.heap.size w V1)
    have HH1 : Hid (∀ k : Nat, V1.heap[k]? = V.heap[k]?) := fun k => by rw [hV1]; rfl
    obtain ⟨⟨u0, u1, u2, u3, u4, u5, u6⟩, ⟨f0, f1, f2, f3, f4, f5, f6⟩⟩ := blk_free kV
    obtain ⟨-, -, -, -, -, -, -, k7, g7⟩ := blk_seven kV (.int .i64 d.1.1) (.int .i64 d.1.2) (.slice ad d.2.1.length pd) (.int .i64 d.2.2.1) (.int .i64 d.2.2.2.1) (.int .i64 d.2.2.2.2.1) (.int .i64 d.2.2.2.2.2)
    have HK7 : Hid (_ = some (Obj.cells (blkA d (.slice ad d.2.1.length pd)) 63 (0, 0))) := k7
    have HG7 : Hid (V1.grownBy _ (some w.heap.size)) := g7
    clear kV k7 g7
    refine wp_region_P (fun j => j != 3) (fun w' => w'.cell? ⟨w1.heap.size, 0, none⟩ = some (.int .i64 d.1.1) ∧ w'.cell? ⟨w1.heap.size, 1, none⟩ = some (.int .i64 d.1.2) ∧ w'.cell? ⟨w1.heap.size, 2, none⟩ = some (.slice ad d.2.1.length pd) ∧ w'.cell? ⟨w1.heap.size, 3, none⟩ = some (.int .i64 d.2.2.1) ∧ w'.cell? ⟨w1.heap.size, 4, none⟩ = some (.int .i64 d.2.2.2.1) ∧ w'.cell? ⟨w1.heap.size, 5, none⟩ = some (.int .i64 d.2.2.2.2.1) ∧ w'.cell? ⟨w1.heap.size, 6, none⟩ = some (.int .i64 d.2.2.2.2.2)) (by kernel_rfl) ?_
    show wpAnyP Try.prog _ _ _ _ _ 4 (Array.replicate 4 false) _ _
    rw [← hV1]
    have hszV : V.heap.size = V1.heap.size := by rw [hV1]; rfl
    clear hV1
    refine wpAnyP_take (i := 0) (v := ?_) rfl (by kernel_rfl) (by kernel_rfl) (by kernel_rfl) (by kernel_rfl) (by kernel_rfl) (fun _ _ _ h => h) (Or.inl ⟨by rfl, ?_⟩) HSV.out ?_
    rotate_left
    · intro w' hC'
      go_simp
      try with_reducible rfl
    simp only [Act.put]
    refine wpAnyP_take (i := 1) (v := ?_) rfl (by kernel_rfl) (by kernel_rfl) (by kernel_rfl) (by kernel_rfl) (by kernel_rfl) (fun _ _ _ h => h) (Or.inl ⟨by rfl, ?_⟩) HSV.out ?_
    rotate_left
    · intro w' hC'
      go_simp
      try with_reducible rfl
    simp only [Act.put]
    refine wpAnyP_take (i := 2) (v := ?_) rfl (by kernel_rfl) (by kernel_rfl) (by kernel_rfl) (by kernel_rfl) (by kernel_rfl) (fun _ _ _ h => h) (Or.inl ⟨by rfl, ?_⟩) HSV.out ?_
    rotate_left
    · intro w' hC'
      go_simp
      try with_reducible rfl
    simp only [Act.put]
    refine wpAnyP_one (i := 3) (by kernel_rfl) rfl ?_
    intro K hK
    go_simp
    refine hK.out _ _ (fun h => by cases h) ?_
    clear hK K
    refine wpAnyP_done (by kernel_rfl) ?_ _
    obtain ⟨w7, hw7⟩ : ∃ w7, w7 = (((((((V1.setCell ⟨w.heap.size, 0, none⟩ (.int .i64 d.1.1)).setCell ⟨w.heap.size, 1, none⟩ (.int .i64 d.1.2)).setCell ⟨w.heap.size, 2, none⟩ (.slice ad d.2.1.length pd)).setCell ⟨w.heap.size, 3, none⟩ (.int .i64 d.2.2.1)).setCell ⟨w.heap.size, 4, none⟩ (.int .i64 d.2.2.2.1)).setCell ⟨w.heap.size, 5, none⟩ (.int .i64 d.2.2.2.2.1)).setCell ⟨w.heap.size, 6, none⟩ (.int .i64 d.2.2.2.2.2)) := ⟨_, rfl⟩
    rw [← hw7] at HK7 HG7 ⊢
    obtain ⟨r0, r1, r2, r3, r4, r5, r6⟩ := blk_cells (b := d) HK7.out
    clear hw7 u0 u1 u2 u3 u4 u5 u6 f0 f1 f2 f3 f4 f5 f6
    go_wp2
    refine bodyPost_ret (v := .tuple #[Value.slice av q.length cv, .agg (blkA d (.slice ad d.2.1.length pd))]) (by simp [results, Try.results34, go_sem, r0, r1, r2, r3, r4, r5, r6]) rfl ?_
    have hkb : ∀ k, W0.heap.size ≤ k → k < V.heap.size → w7.heap[k]? = V.heap[k]? := fun k hk hk' => (HG7.out.block k (by rw [← hszV]; exact hk') (fun e => by have := Option.some.inj e; omega)).trans (HH1.out k)
    have B7 := HB1.out.grown HG7.out HB1.out.size fun k hk => by cases hk; exact Nat.le_refl _
    unfold PutR
    exact ⟨_, q, d, (.slice ad d.2.1.length pd), rfl, HVT.out.ok, HBD.out.ok, ((HOV.out.same hkb).base (Nat.le_refl _)).read, rows_of_own cmdF_len (own_same HCV.out fun k hk => hkb k (HCV.out.lt k hk).1 (HCV.out.lt k hk).2), B7⟩

end Go.Proofs.Ytjdddcldbfhbiaa
