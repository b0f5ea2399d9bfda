/-
  Votes that are drawn: l07Votes.
-/
import Derived.Test.YtjdddcldbfhbiabDraw7
import Derived.Test.YtjdddcldbfhbiabFloatX
import Derived.Test.YtjdddcldbfhbiabDrawB3
namespace Go.Proofs.Ytjdddcldbfhbiab
open Go.RowKit Num

/-- what holds while votes are drawn: the row so far, the first vote's box, the empty row that it began as, the source of draws -/
structure VI (w : World) (B : Nat) (ao : Option Addr) (len cap b off : Nat) (V : Nat) (xs : Array Value) (o : Value) (l : List VT) (wr : World) : Prop where
  st : St wr B ao len cap b off
  row : RowE wr ⟨w.heap.size, 0, none⟩ (V + 1) o l
  box : wr.heap[V]? = some (.cells xs 54 (0, 0))
  emp : wr.heap[w.heap.size]? = some (.cells #[] 54 (0, 0))
  grown : w.grownBy wr (some B)
  lt : B < w.heap.size
  lt2 : w.heap.size < V
  cl : 0 < len → b < w.heap.size
theorem VI.vlt {w : World} {B : Nat} {ao : Option Addr} {len cap b off : Nat} {V : Nat} {xs : Array Value} {o : Value} {l : List VT} {wr : World} (h : VI w B ao len cap b off V xs o l wr) : V < wr.heap.size := (Array.getElem?_eq_some_iff.1 h.box).1
theorem VI.step {w : World} {B : Nat} {ao : Option Addr} {len cap b off : Nat} {V : Nat} {xs : Array Value} {o : Value} {l : List VT} {wr w' : World} (h : VI w B ao len cap b off V xs o l wr) (hS : St w' B ao len cap b off) (hg : wr.grownBy w' (some B)) : VI w B ao len cap b off V xs o l w' :=
  ⟨hS, h.row.kept hg (fun g e => by cases e; have := h.lt; have := h.lt2; omega), (hg.block _ h.vlt (fun e => by have := Option.some.inj e; have := h.lt; have := h.lt2; omega)).trans h.box, (hg.block _ (by have := h.vlt; have := h.lt2; omega) (fun e => by have := Option.some.inj e; have := h.lt; omega)).trans h.emp, grown_tr h.grown hg, h.lt, h.lt2, h.cl⟩
theorem VI.below {w : World} {B : Nat} {ao : Option Addr} {len cap b off : Nat} {V : Nat} {xs : Array Value} {o : Value} {l : List VT} {wr w' : World} (h : VI w B ao len cap b off V xs o l wr) (hb : Below wr.heap.size wr w') : VI w B ao len cap b off V xs o l w' :=
  ⟨h.st.below hb, h.row.below hb, (hb.block _ h.vlt).trans h.box, (hb.block _ (by have := h.vlt; have := h.lt2; omega)).trans h.emp, grown_tr h.grown (grown_none hb), h.lt, h.lt2, h.cl⟩
theorem VI.other {w : World} {B : Nat} {ao : Option Addr} {len cap b off : Nat} {V : Nat} {xs : Array Value} {o : Value} {l : List VT} {wr w' : World} {N : Nat} (h : VI w B ao len cap b off V xs o l wr) (hg : wr.grownBy w' (some N)) (hN : V < N) (hr : ∀ g, o.ownBlock = some g → g ≠ N) : VI w B ao len cap b off V xs o l w' := by
  have h1 := h.lt
  have h2 := h.lt2
  have h3 := h.vlt
  exact ⟨h.st.other hg (by omega) (fun hl e => by have := h.cl hl; omega), h.row.far hg (Or.inr hr), (hg.block _ h3 (fun e => by have := Option.some.inj e; omega)).trans h.box, (hg.block _ (by omega) (fun e => by have := Option.some.inj e; omega)).trans h.emp, grown_two h.grown (by omega) hg, h1, h2, h.cl⟩
theorem VI.far {w : World} {B : Nat} {ao : Option Addr} {len cap b off : Nat} {V : Nat} {xs : Array Value} {o : Value} {l : List VT} {wr : World} (h : VI w B ao len cap b off V xs o l wr) : ∀ g, o.ownBlock = some g → g ≠ wr.heap.size := fun g hg => by
  have h2 := h.lt2
  have h3 := h.vlt
  rcases h.row with ⟨e, _⟩ | hr
  · rw [e] at hg; have := Option.some.inj (show some w.heap.size = some g from hg); omega
  · have := (hr.lt g hg).2; omega
theorem VI.push {w : World} {B : Nat} {ao : Option Addr} {len cap b off : Nat} {V : Nat} {xs : Array Value} {o o' : Value} {l : List VT} {wr w' : World} {r : Option Nat} {y : VT} (h : VI w B ao len cap b off V xs o l wr) (hown : w'.ownsRow (V + 1) 54 4 o' (l.length + 1) (flatR voteF l ++ voteF y)) (hg : wr.grownBy w' r) (hr : ∀ g, r = some g → V + 1 ≤ g) : VI w B ao len cap b off V xs o' (l ++ [y]) w' := by
  have h1 := h.lt
  have h2 := h.lt2
  have h3 := h.vlt
  refine ⟨h.st.row hg (fun g e => by have := hr g e; omega) (fun hl g e => by have := h.cl hl; have := hr g e; omega), Or.inr (by rw [flatR_append, List.length_append]; exact hown), (hg.block _ h3 (fun e => by have := hr _ e.symm; omega)).trans h.box, (hg.block _ (by omega) (fun e => by have := hr _ e.symm; omega)).trans h.emp, ?_, h1, h2, h.cl⟩
  exact grown_row h.grown (Below.refl _ _) hg (fun g e => by have := hr g e; omega)
theorem VI.own {w : World} {B : Nat} {ao : Option Addr} {len cap b off : Nat} {V : Nat} {xs : Array Value} {o : Value} {l : List VT} {wr : World} (h : VI w B ao len cap b off V xs o l wr) : wr.ownsRow w.heap.size 54 4 o l.length (flatR voteF l) := by
  rcases h.row with ⟨e, e2⟩ | hr
  · subst e2
    rw [e]
    exact own_same (own_new w 54 4) fun g hg => by
      have e3 := Option.some.inj (show some w.heap.size = some g from hg)
      subst e3
      rw [h.emp]
      exact (heap_alloc_new w _).symm
  · exact own_base hr (by have := h.lt2; omega)
theorem voteOne (a b c d : Int) : (#[Value.int .i64 a, .int .i64 b, .int .i64 c, .int .i64 d]).all (·.oneCell') = true := by simp [Value.oneCell']
theorem news_vote (w : World) (y : VT) (t : TypeId) : ∀ j u, (voteF y)[j]? = some u → (w.alloc (.cells #[.int .i64 y.1, .int .i64 y.2.1, .int .i64 y.2.2.1, .int .i64 y.2.2.2] t)).cell? ((⟨w.heap.size, 0, none⟩ : Addr).add j) = some u := by
  intro j u hj
  have hl : j < 4 := by
    have := (List.getElem?_eq_some_iff.1 hj).1
    rwa [voteF_len] at this
  obtain ⟨c0, c1, c2, c3⟩ := vote_cells (heap_alloc_new w (Obj.cells #[.int .i64 y.1, .int .i64 y.2.1, .int .i64 y.2.2.1, .int .i64 y.2.2.2] t))
  have ha : (⟨w.heap.size, 0, none⟩ : Addr).add j = ⟨w.heap.size, j, none⟩ := by unfold Addr.add; split <;> simp_all
  rw [ha]
  rcases (by omega : j = 0 ∨ j = 1 ∨ j = 2 ∨ j = 3) with rfl | rfl | rfl | rfl
  · rw [c0]; exact hj
  · rw [c1]; exact hj
  · rw [c2]; exact hj
  · rw [c3]; exact hj
theorem all_snoc' {P : VT → Prop} {l : List VT} {y : VT} (h : ∀ x ∈ l, P x) (hy : P y) : ∀ x ∈ l ++ [y], P x := fun x hx => by
  rcases List.mem_append.1 hx with h1 | h1
  · exact h x h1
  · rw [List.mem_singleton.1 h1]; exact hy

set_option maxRecDepth 100000 in
set_option maxHeartbeats 8000000 in
theorem votes7_st {w : World} {B base : Nat} {ao : Option Addr} {len cap b off : Nat} {v : Value} {qs : TL} {n : Nat} (h : St w B ao len cap b off) (ho : OwnU w base v qs) (hB : B < base) (hbt : BT (bks qs) n) (hn : n ≤ 1000) :
    Calls Try.prog 64 #[.pointer (Option.some ⟨B, 0, none⟩), v] w fun e w' => ∃ (v' : Value) (l : List VT), e = .returned v' ∧ l.length ≤ 8 ∧ (∀ x ∈ l, VD (bks qs) x) ∧ w'.ownsRow w.heap.size 54 4 v' l.length (flatR voteF l) ∧ St w' B ao len cap b off ∧ w.grownBy w' (Option.some B) := by
  obtain ⟨i0, hi, hz0, hz1, hz2⟩ := info_parts infoVote
  have H : Hid (St w B ao len cap b off) := h
  have hBw := h.cur.lt
  have hcl := h.code.lt
  have HCL : Hid (0 < len → b < w.heap.size) := hcl
  have HO : Hid (OwnU w base v qs) := ho
  have HBT : Hid (BT (bks qs) n) := hbt
  clear h ho hbt hcl
  obtain ⟨W0, hW0⟩ : ∃ W0, W0 = w.alloc (.cells #[] 54) := ⟨_, rfl⟩
  have HB0 : Hid (Below w.heap.size w W0) := (by rw [hW0]; exact (Below.refl _ _).alloc (Nat.le_refl _) _ : Below w.heap.size w W0)
  have HE0 : Hid (W0.heap[w.heap.size]? = some (.cells #[] 54 (0, 0))) := (by rw [hW0]; exact heap_alloc_new w _ : W0.heap[w.heap.size]? = _)
  have l0 : w.heap.size < W0.heap.size := (Array.getElem?_eq_some_iff.1 HE0.out).1
  go_enter Try.func64, Try.ntmps64
  go_wp2_with fail
  rw [← hW0]
  clear hW0
  refine (vote7_st (H.out.below HB0.out) (HO.out.st (grown_none HB0.out) hB) hB HBT.out hn).mono ?_
  rintro e w2 ⟨⟨x0, x1, x2, x3⟩, rfl, hvd, hS, hg⟩
  unfold voteV
  simp only
  have HVD : Hid (VD (bks qs) (x0, x1, x2, x3)) := hvd
  have hsz2 := hg.size
  obtain ⟨W3, hW3⟩ : ∃ W3, W3 = w2.alloc (.cells #[.int .i64 x0, .int .i64 x1, .int .i64 x2, .int .i64 x3] 54) := ⟨_, rfl⟩
  have HI : Hid (VI w B ao len cap b off w2.heap.size #[.int .i64 x0, .int .i64 x1, .int .i64 x2, .int .i64 x3] (.slice (some ⟨w.heap.size, 0, none⟩) 0 0) [] W3) := by
    have hb3 : Below w2.heap.size w2 W3 := by rw [hW3]; exact (Below.refl _ _).alloc (Nat.le_refl _) _
    exact ⟨hS.below hb3, Or.inl ⟨rfl, rfl⟩, by rw [hW3]; exact heap_alloc_new w2 _, (hb3.block _ (by omega)).trans ((hg.block _ l0 (fun e => by have := Option.some.inj e; omega)).trans HE0.out), grown_tr (grown_tr (grown_none HB0.out) hg) (grown_none hb3), hBw, by omega, HCL.out⟩
  clear hvd hS hg HE0 HB0 HCL
  obtain ⟨V, hV⟩ : ∃ V, V = w2.heap.size := ⟨_, rfl⟩
  rw [← hV] at HI
  go_wp2
  rw [← hW3, ← hV]
  clear hW3 hV hsz2
  go_loopw [5, 7] (fun o y wr => ∃ l : List VT, l.length ≤ 8 ∧ y = .int .i64 (l.length : Int) ∧ Hid (∀ x ∈ l, VD (bks qs) x) ∧ Hid (VI w B ao len cap b off V #[.int .i64 x0, .int .i64 x1, .int .i64 x2, .int .i64 x3] o l wr)) (fun _ y _ => 9 - (intOf y).toNat)
  case atStart => exact ⟨[], by simp, rfl, (fun x hx => absurd hx (by simp) : ∀ x ∈ ([] : List VT), VD (bks qs) x), HI.out⟩
  case round =>
    obtain ⟨l, hl, rfl, HL, HR⟩ := hrel
    clear HI
    go_wp2_with fail
    refine (below_st 8 (by omega) (by omega) HR.out.st).mono ?_
    rintro e wa ⟨z, rfl, hz0', hz1', hS, hg⟩
    have HA : Hid (VI w B ao len cap b off V #[.int .i64 x0, .int .i64 x1, .int .i64 x2, .int .i64 x3] u5 l wa) := HR.out.step hS hg
    clear hS hg
    by_cases hlt : (l.length : Int) < z
    · obtain ⟨v0, v1, v2, v3⟩ := vote_cells HA.out.box
      have hva := HA.out.vlt
      obtain ⟨wb, hwb⟩ : ∃ wb, wb = wa.alloc (.cells #[.int .i64 x0, .int .i64 x1, .int .i64 x2, .int .i64 x3] 54) := ⟨_, rfl⟩
      have HBb : Hid (Below wa.heap.size wa wb) := (by rw [hwb]; exact (Below.refl _ _).alloc (Nat.le_refl _) _ : Below wa.heap.size wa wb)
      have HNb : Hid (wb.heap[wa.heap.size]? = some (.cells #[.int .i64 x0, .int .i64 x1, .int .i64 x2, .int .i64 x3] 54 (0, 0))) := (by rw [hwb]; exact heap_alloc_new wa _ : wb.heap[wa.heap.size]? = _)
      have HLR : Hid (∀ g, u5.ownBlock = some g → g ≠ wa.heap.size) := HA.out.far
      have HBV : Hid (VI w B ao len cap b off V #[.int .i64 x0, .int .i64 x1, .int .i64 x2, .int .i64 x3] u5 l wb) := HA.out.below HBb.out
      obtain ⟨N, hN⟩ : ∃ N, N = wa.heap.size := ⟨_, rfl⟩
      rw [← hN] at HNb HLR hva
      go_wp2_with fail
      rw [← hwb, ← hN]
      clear hwb v0 v1 v2 v3 hN HBb HA
      refine (below_st 5 (by omega) (by omega) HBV.out.st).mono ?_
      rintro e wc ⟨y, rfl, hy0, hy1, hS, hg⟩
      have HC : Hid (VI w B ao len cap b off V #[.int .i64 x0, .int .i64 x1, .int .i64 x2, .int .i64 x3] u5 l wc) := HBV.out.step hS hg
      have hlb := HBV.out.lt
      have hlb2 := HBV.out.lt2
      have HNc : Hid (wc.heap[N]? = some (.cells #[.int .i64 x0, .int .i64 x1, .int .i64 x2, .int .i64 x3] 54 (0, 0))) := (hg.block _ (Array.getElem?_eq_some_iff.1 HNb.out).1 (fun e => by have := Option.some.inj e; omega)).trans HNb.out
      clear hS hg HBV HNb
      obtain ⟨_, _, _, k3⟩ := vote_cells HNc.out
      have f3 : wc.frozen? ⟨N, 3, none⟩ = false := frozen_of_row _ N 3 _ _ HNc.out
      obtain ⟨wd, hwd⟩ : ∃ wd, wd = wc.setCell ⟨N, 3, none⟩ (.int .i64 y) := ⟨_, rfl⟩
      have hgd : wc.grownBy wd (Option.some N) := by rw [hwd]; exact set_grown _ N 3 _
      have HNd : Hid (wd.heap[N]? = Option.some (.cells #[.int .i64 x0, .int .i64 x1, .int .i64 x2, .int .i64 y] 54 (0, 0))) := (by rw [hwd]; exact heap_setCell_same wc N 3 _ _ _ HNc.out : wd.heap[N]? = Option.some (.cells #[.int .i64 x0, .int .i64 x1, .int .i64 x2, .int .i64 y] 54 (0, 0)))
      have HD : Hid (VI w B ao len cap b off V #[.int .i64 x0, .int .i64 x1, .int .i64 x2, .int .i64 x3] u5 l wd) := HC.out.other hgd hva HLR.out
      clear hgd
      go_wp2_with fail
      rw [← hwd]
      clear hwd k3 f3 HC HNc
      refine (once_st 4 (by omega) (by omega) HD.out.st).mono ?_
      rintro e we ⟨t, rfl, hS, hg⟩
      have HE : Hid (VI w B ao len cap b off V #[.int .i64 x0, .int .i64 x1, .int .i64 x2, .int .i64 x3] u5 l we) := HD.out.step hS hg
      have HNe : Hid (we.heap[N]? = Option.some (.cells #[.int .i64 x0, .int .i64 x1, .int .i64 x2, .int .i64 y] 54 (0, 0))) := (hg.block _ (Array.getElem?_eq_some_iff.1 HNd.out).1 (fun e => by have := Option.some.inj e; omega)).trans HNd.out
      clear hS hg HD HNd
      cases t with
      | false =>
        obtain ⟨k0, k1, k2, k3⟩ := vote_cells HNe.out
        have HVD2 : Hid (VD (bks qs) (x0, x1, x2, y)) := ⟨HVD.out.1, HVD.out.2.1, HVD.out.2.2.1, ⟨hy0, by simp only; omega⟩⟩
        have hvl := HE.out.vlt
        go_wp2_with (at_builtin; refine wpList_append_voteE _ rfl _ _ 46 rfl ⟨w.heap.size, 0, none⟩ (V + 1) i0 _ Try.underlying46 hi hz0 hz1 hz2 rfl _ l rfl (HE.out.row.below ((Below.refl _ _).alloc (Nat.le_refl _) _)) ⟨we.heap.size, 0, none⟩ (x0, x1, x2, y) rfl (news_vote we (x0, x1, x2, y) _) (by unfold maxLen; omega) (by omega) (by simp; omega) ?_; intro v9 w9 r9 hown9 hgrow9 hr9)
        have H9 : Hid (VI w B ao len cap b off V #[.int .i64 x0, .int .i64 x1, .int .i64 x2, .int .i64 x3] v9 (l ++ [(x0, x1, x2, y)]) w9) := (HE.out.below ((Below.refl _ _).alloc (Nat.le_refl _) _)).push hown9 hgrow9 hr9
        clear hown9 hgrow9 hr9 k0 k1 k2 k3
        go_roundw
        case rel => exact ⟨l ++ [(x0, x1, x2, y)], by simp; omega, by simp, all_snoc' HL.out HVD2.out, H9.out⟩
        case measure => simp [intOf]; omega
      | true =>
        go_wp2_with fail
        refine (vote7_st HE.out.st (HO.out.st HE.out.grown hB) hB HBT.out hn).mono ?_
        rintro e wf ⟨⟨t0, t1, t2, t3⟩, rfl, hvd, hS, hg⟩
        unfold voteV
        simp only
        have HVD2 : Hid (VD (bks qs) (t0, t1, t2, t3)) := hvd
        have HF : Hid (VI w B ao len cap b off V #[.int .i64 x0, .int .i64 x1, .int .i64 x2, .int .i64 x3] u5 l wf) := HE.out.step hS hg
        have HNf : Hid (wf.heap[N]? = Option.some (.cells #[.int .i64 x0, .int .i64 x1, .int .i64 x2, .int .i64 y] 54 (0, 0))) := (hg.block _ (Array.getElem?_eq_some_iff.1 HNe.out).1 (fun e => by have := Option.some.inj e; omega)).trans HNe.out
        clear hvd hS hg HE HNe
        go_wp2_with (first
          | (refine wpList_store_blk rfl _ _ _ rfl N #[.int .i64 t0, .int .i64 t1, .int .i64 t2, .int .i64 t3] rfl rfl _ _ HNf.out (by kernel_rfl) rfl (voteOne _ _ _ _) ?_; intro wg hgg hkg hsg; clear hsg; have HGG : Hid (VI w B ao len cap b off V #[.int .i64 x0, .int .i64 x1, .int .i64 x2, .int .i64 x3] u5 l wg) := HF.out.other hgg hva HLR.out; obtain ⟨k0, k1, k2, k3⟩ := vote_cells hkg; have hvl := HGG.out.vlt; clear hgg hkg)
          | (at_builtin; refine wpList_append_voteE _ rfl _ _ 46 rfl ⟨w.heap.size, 0, none⟩ (V + 1) i0 _ Try.underlying46 hi hz0 hz1 hz2 rfl _ l rfl (HGG.out.row.below ((Below.refl _ _).alloc (Nat.le_refl _) _)) ⟨wg.heap.size, 0, none⟩ (t0, t1, t2, t3) rfl (news_vote wg (t0, t1, t2, t3) _) (by unfold maxLen; omega) (by omega) (by simp; omega) ?_; intro v9 w9 r9 hown9 hgrow9 hr9))
        have H9 : Hid (VI w B ao len cap b off V #[.int .i64 x0, .int .i64 x1, .int .i64 x2, .int .i64 x3] v9 (l ++ [(t0, t1, t2, t3)]) w9) := (HGG.out.below ((Below.refl _ _).alloc (Nat.le_refl _) _)).push hown9 hgrow9 hr9
        clear hown9 hgrow9 hr9 k0 k1 k2 k3
        go_roundw
        case rel => exact ⟨l ++ [(t0, t1, t2, t3)], by simp; omega, by simp, all_snoc' HL.out HVD2.out, H9.out⟩
        case measure => simp [intOf]; omega
    · go_wp2
      go_ret
      exact ⟨_, l, rfl, hl, HL.out, HA.out.own, HA.out.st, HA.out.grown⟩

/-- a tree and votes, drawn -/
def VotesR (w : World) (e : Ending) (w' : World) : Prop := ∃ (v : Value) (qs : TL) (v' : Value) (l : List VT), e = .returned (.tuple #[v, v']) ∧ BT (bks qs) 9 ∧ OwnU w' w.heap.size v qs ∧ l.length ≤ 8 ∧ (∀ x ∈ l, VD (bks qs) x) ∧ w'.ownsRow w.heap.size 54 4 v' l.length (flatR voteF l) ∧ Below w.heap.size w w'
set_option maxRecDepth 100000 in
theorem drawVotes_any {w : World} {ao : Option Addr} {len cap b off : Nat} (hc : Code w ao len b off) :
    Calls Try.prog 31 #[.slice ao len cap] w fun e w' => VotesR w e w' := by
  have HC : Hid (Code w ao len b off) := hc
  clear hc
  go_enter Try.func31, Try.ntmps31
  go_wp2_with fail
  refine (new_any HC.out).mono ?_
  rintro e w1 ⟨N, rfl, hN, hS, hb⟩
  have HB1 : Hid (Below w.heap.size w w1) := hb
  have hNl := hS.cur.lt
  have HS : Hid (St w1 N ao len cap b off) := hS
  clear hS hb
  go_wp2_with fail
  refine (drawn_st HS.out).mono ?_
  rintro e w2 ⟨v, qs, rfl, hd, hown, hS2, hg⟩
  have HO : Hid (OwnU w2 w1.heap.size v qs) := hown.u
  have HD : Hid (BT (bks qs) 9) := hd.bt
  have HS2 : Hid (St w2 N ao len cap b off) := hS2
  have HG2 : Hid (w1.grownBy w2 (Option.some N)) := hg
  clear hown hd hS2 hg
  go_wp2_with fail
  refine (votes7_st HS2.out HO.out hNl HD.out (by omega)).mono ?_
  rintro e w3 ⟨v', l, rfl, hl, hvd, hown, hS3, hg⟩
  have HOV : Hid (w3.ownsRow w2.heap.size 54 4 v' l.length (flatR voteF l)) := hown
  have HVD : Hid (∀ x ∈ l, VD (bks qs) x) := hvd
  have HG3 : Hid (w2.grownBy w3 (Option.some N)) := hg
  clear hown hS3 hg hvd
  go_wp2
  refine bodyPost_ret (v := .tuple #[v, v']) (by simp [results, Try.results31, go_sem]) rfl ?_
  unfold VotesR
  exact ⟨v, qs, v', l, rfl, HD.out, (HO.out.st HG3.out hNl).base HB1.out.size, hl, HVD.out, own_base HOV.out (Nat.le_trans HB1.out.size HG2.out.size), drawn_below HB1.out hN (grown_tr HG2.out HG3.out)⟩

end Go.Proofs.Ytjdddcldbfhbiab
