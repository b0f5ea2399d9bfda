/-
  What the law FnCertsTold draws. (Made by gt7.py.)
-/
import Derived.Test.YtjdddcldbfhbiabQcD
import Derived.OpenShut
namespace Go.Proofs.Ytjdddcldbfhbiab
open Go.RowKit Num

def fitI (x : Int) : Prop := -9223372036854775808 ≤ x ∧ x ≤ 9223372036854775807
/-- a tree, a number, a vote -/
def VoteOkR (w : World) (e : Ending) (w' : World) : Prop := ∃ (v : Value) (qs : TL) (n : Int) (x : VT), e = .returned (.tuple #[v, .int .i64 n, voteV x]) ∧ BT (bks qs) 10 ∧ OwnU w' w.heap.size v qs ∧ fitI n ∧ wfV x ∧ Below w.heap.size w w'
def QcRightR (w : World) (e : Ending) (w' : World) : Prop := ∃ (v : Value) (qs : TL) (n : Int) (x : QC), e = .returned (.tuple #[v, .int .i64 n, qcVal x]) ∧ BT (bks qs) 10 ∧ OwnU w' w.heap.size v qs ∧ fitI n ∧ wfQ x ∧ Below w.heap.size w w'
def SignersR (w : World) (e : Ending) (w' : World) : Prop := ∃ (v : Value) (l : List VT) (p vw bl : Int), e = .returned (.tuple #[v, .int .i64 p, .int .i64 vw, .int .i64 bl]) ∧ l.length ≤ 8 ∧ w'.ownsRow w.heap.size 54 4 v l.length (flatR voteF l) ∧ fitI p ∧ fitI vw ∧ fitI bl ∧ Below w.heap.size w w'
def QcOfR (w : World) (e : Ending) (w' : World) : Prop := ∃ (v : Value) (l : List VT) (p vw bl n : Int), e = .returned (.tuple #[v, .int .i64 p, .int .i64 vw, .int .i64 bl, .int .i64 n]) ∧ l.length ≤ 8 ∧ w'.ownsRow w.heap.size 54 4 v l.length (flatR voteF l) ∧ fitI p ∧ fitI vw ∧ fitI bl ∧ fitI n ∧ Below w.heap.size w w'
def HigherR (w : World) (e : Ending) (w' : World) : Prop := ∃ (x y : QC), e = .returned (.tuple #[qcVal x, qcVal y]) ∧ wfQ x ∧ wfQ y ∧ Below w.heap.size w w'
def ProvenR (w : World) (e : Ending) (w' : World) : Prop := ∃ (v : Value) (l : List VT) (x : QC) (n : Int), e = .returned (.tuple #[v, qcVal x, .int .i64 n]) ∧ l.length ≤ 8 ∧ w'.ownsRow w.heap.size 54 4 v l.length (flatR voteF l) ∧ wfQ x ∧ (0 ≤ n ∧ n < 128) ∧ Below w.heap.size w w'
theorem fit_wf {x : Int} (h : fitI x) : (Lit.int .i64 x).wf = true := wf_of h.1 h.2
theorem wf_fit {x : Int} (h : (Lit.int .i64 x).wf = true) : fitI x := ⟨(bounds_i64 h).1, (bounds_i64 h).2⟩

set_option maxRecDepth 100000 in
set_option maxHeartbeats 4000000 in
theorem dDrawVoteOk_any {w : World} {ao : Option Addr} {len cap b off : Nat} (hc : Code w ao len b off) :
    Calls Try.prog 36 #[.slice ao len cap] w fun e w' => VoteOkR w e w' := by
  have HC : Hid (Code w ao len b off) := hc
  clear hc
  obtain ⟨W0, hW0⟩ : ∃ W0, W0 = w.alloc (.cells #[.int .i64 0, .int .i64 0, .int .i64 0, .int .i64 0] 54) := ⟨_, rfl⟩
  have HB0 : Hid (Below w.heap.size w W0) := (by rw [hW0]; exact (Below.refl _ _).alloc (Nat.le_refl _) _ : Below w.heap.size w W0)
  have HE0 : Hid (W0.heap[w.heap.size]? = some (.cells #[.int .i64 0, .int .i64 0, .int .i64 0, .int .i64 0] 54 (0, 0))) := (by rw [hW0]; exact heap_alloc_new w _ : W0.heap[w.heap.size]? = _)
  have l0 : w.heap.size < W0.heap.size := (Array.getElem?_eq_some_iff.1 HE0.out).1
  go_enter Try.func36, Try.ntmps36
  go_wp2_with fail
  rw [← hW0]
  clear hW0
  refine (new_any (HC.out.below HB0.out)).mono ?_
  rintro e w1 ⟨B, rfl, hN, hS, hb⟩
  have HS1 : Hid (St w1 B ao len cap b off) := hS
  have hB1 := hS.cur.lt
  have HB1 : Hid (Below W0.heap.size W0 w1) := hb
  clear hS hb
  have HBp : Hid (Below w1.heap.size w1 (w1.alloc (.cells #[.int .i64 4, .int .i64 4, .int .i64 4, .int .i64 1, .int .i64 7, .int .i64 8, .int .i64 0] 3))) := (Below.refl _ _).alloc (Nat.le_refl _) _
  have HKp : Hid ((w1.alloc (.cells #[.int .i64 4, .int .i64 4, .int .i64 4, .int .i64 1, .int .i64 7, .int .i64 8, .int .i64 0] 3)).heap[w1.heap.size]? = some (.cells (intsA [4, 4, 4, 1, 7, 8, 0]) 3 (0, 0))) := heap_alloc_new w1 _
  go_wp2_with fail
  refine (pickL_st [4, 4, 4, 1, 7, 8, 0] (by simp) (by simp) (HS1.out.below HBp.out) (by omega) HKp.out).mono ?_
  rintro e w2 ⟨pn, hpn, rfl, hS, hg⟩
  have HS2 : Hid (St w2 B ao len cap b off) := hS
  have HG2 : Hid (w1.grownBy w2 (Option.some B)) := grown_tr (grown_none HBp.out) hg
  have HP : Hid (pn ∈ ([4, 4, 4, 1, 7, 8, 0] : List Int)) := hpn
  clear hS hg HBp HKp hpn
  go_wp2_with fail
  refine (any5_st HS2.out).mono ?_
  rintro e w3 ⟨vt, qs, rfl, hbt, hown, hS, hg⟩
  have HS3 : Hid (St w3 B ao len cap b off) := hS
  have HG3 : Hid (w1.grownBy w3 (Option.some B)) := grown_tr HG2.out hg
  have HBT : Hid (BT (bks qs) 10) := hbt
  have HO3 : Hid (OwnU w3 w2.heap.size vt qs) := hown
  have hs2 := HG2.out.size
  have hs1 := HB1.out.size
  clear hS hg hbt hown
  go_wp2_with fail
  refine (any7_st HS3.out HO3.out (by omega) HBT.out (by omega)).mono ?_
  rintro e w4 ⟨⟨x0, x1, x2, x3⟩, rfl, hwf, hS, hg⟩
  unfold voteV
  simp only
  have HWF : Hid (wfV (x0, x1, x2, x3)) := hwf
  have HB4 : Hid (Below W0.heap.size W0 w4) := drawn_below HB1.out hN (grown_tr HG3.out hg)
  have HE4 : Hid (w4.heap[w.heap.size]? = some (.cells #[.int .i64 0, .int .i64 0, .int .i64 0, .int .i64 0] 54 (0, 0))) := (HB4.out.block _ l0).trans HE0.out
  have HO4 : Hid (OwnU w4 w2.heap.size vt qs) := HO3.out.st hg (by omega)
  clear hS hg hwf
  go_wp2_with (refine wpList_store_blk rfl _ _ _ rfl w.heap.size #[.int .i64 x0, .int .i64 x1, .int .i64 x2, .int .i64 x3] rfl rfl 54 #[.int .i64 0, .int .i64 0, .int .i64 0, .int .i64 0] HE4.out (by kernel_rfl) rfl (voteOne _ _ _ _) ?_; intro wg hgg hkg hsg; clear hsg; have HGG : Hid (w4.grownBy wg (Option.some w.heap.size)) := hgg; obtain ⟨m0, m1, m2, m3⟩ := vote_cells hkg; clear hgg hkg)
  refine bodyPost_ret (v := .tuple #[vt, .int .i64 pn, .agg #[.int .i64 x0, .int .i64 x1, .int .i64 x2, .int .i64 x3]]) (by simp [results, Try.results36, go_sem, m0, m1, m2, m3]) rfl ?_
  unfold VoteOkR
  have hbe : Below w.heap.size w w4 := bt HB0.out HB4.out
  have hpn := HP.out
  exact ⟨vt, qs, pn, (x0, x1, x2, x3), rfl, HBT.out, (HO4.out.st HGG.out (by omega)).base (by omega), (by simp at hpn; unfold fitI; omega), HWF.out, hbe.grown HGG.out hbe.size (fun y hy => by cases hy; exact Nat.le_refl _)⟩

set_option maxRecDepth 100000 in
set_option maxHeartbeats 4000000 in
theorem dDrawQcRight_any {w : World} {ao : Option Addr} {len cap b off : Nat} (hc : Code w ao len b off) :
    Calls Try.prog 37 #[.slice ao len cap] w fun e w' => QcRightR w e w' := by
  have HC : Hid (Code w ao len b off) := hc
  clear hc
  obtain ⟨W0, hW0⟩ : ∃ W0, W0 = w.alloc (.cells #[.int .i64 0, .int .i64 0, .int .i64 0, .int .i64 0] 31) := ⟨_, rfl⟩
  have HB0 : Hid (Below w.heap.size w W0) := (by rw [hW0]; exact (Below.refl _ _).alloc (Nat.le_refl _) _ : Below w.heap.size w W0)
  have HE0 : Hid (W0.heap[w.heap.size]? = some (.cells #[.int .i64 0, .int .i64 0, .int .i64 0, .int .i64 0] 31 (0, 0))) := (by rw [hW0]; exact heap_alloc_new w _ : W0.heap[w.heap.size]? = _)
  have l0 : w.heap.size < W0.heap.size := (Array.getElem?_eq_some_iff.1 HE0.out).1
  go_enter Try.func37, Try.ntmps37
  go_wp2_with fail
  rw [← hW0]
  clear hW0
  refine (new_any (HC.out.below HB0.out)).mono ?_
  rintro e w1 ⟨B, rfl, hN, hS, hb⟩
  have HS1 : Hid (St w1 B ao len cap b off) := hS
  have hB1 := hS.cur.lt
  have HB1 : Hid (Below W0.heap.size W0 w1) := hb
  clear hS hb
  have HBp : Hid (Below w1.heap.size w1 (w1.alloc (.cells #[.int .i64 4, .int .i64 4, .int .i64 4, .int .i64 1, .int .i64 7, .int .i64 8, .int .i64 0] 3))) := (Below.refl _ _).alloc (Nat.le_refl _) _
  have HKp : Hid ((w1.alloc (.cells #[.int .i64 4, .int .i64 4, .int .i64 4, .int .i64 1, .int .i64 7, .int .i64 8, .int .i64 0] 3)).heap[w1.heap.size]? = some (.cells (intsA [4, 4, 4, 1, 7, 8, 0]) 3 (0, 0))) := heap_alloc_new w1 _
  go_wp2_with fail
  refine (pickL_st [4, 4, 4, 1, 7, 8, 0] (by simp) (by simp) (HS1.out.below HBp.out) (by omega) HKp.out).mono ?_
  rintro e w2 ⟨pn, hpn, rfl, hS, hg⟩
  have HS2 : Hid (St w2 B ao len cap b off) := hS
  have HG2 : Hid (w1.grownBy w2 (Option.some B)) := grown_tr (grown_none HBp.out) hg
  have HP : Hid (pn ∈ ([4, 4, 4, 1, 7, 8, 0] : List Int)) := hpn
  clear hS hg HBp HKp hpn
  go_wp2_with fail
  refine (any5_st HS2.out).mono ?_
  rintro e w3 ⟨vt, qs, rfl, hbt, hown, hS, hg⟩
  have HS3 : Hid (St w3 B ao len cap b off) := hS
  have HG3 : Hid (w1.grownBy w3 (Option.some B)) := grown_tr HG2.out hg
  have HBT : Hid (BT (bks qs) 10) := hbt
  have HO3 : Hid (OwnU w3 w2.heap.size vt qs) := hown
  have hs2 := HG2.out.size
  have hs1 := HB1.out.size
  clear hS hg hbt hown
  go_wp2_with fail
  refine (qc7_st HS3.out HO3.out (by omega) HBT.out (by omega)).mono ?_
  rintro e w4 ⟨⟨x0, x1, x2, x3⟩, rfl, hwf, hS, hg⟩
  unfold qcVal
  simp only
  have HWF : Hid (wfQ (x0, x1, x2, x3)) := hwf
  have HB4 : Hid (Below W0.heap.size W0 w4) := drawn_below HB1.out hN (grown_tr HG3.out hg)
  have HE4 : Hid (w4.heap[w.heap.size]? = some (.cells #[.int .i64 0, .int .i64 0, .int .i64 0, .int .i64 0] 31 (0, 0))) := (HB4.out.block _ l0).trans HE0.out
  have HO4 : Hid (OwnU w4 w2.heap.size vt qs) := HO3.out.st hg (by omega)
  clear hS hg hwf
  go_wp2_with (refine wpList_store_blk rfl _ _ _ rfl w.heap.size #[.int .i64 x0, .int .i64 x1, .int .i64 x2, .int .i64 x3] rfl rfl 31 #[.int .i64 0, .int .i64 0, .int .i64 0, .int .i64 0] HE4.out (by kernel_rfl) rfl (voteOne _ _ _ _) ?_; intro wg hgg hkg hsg; clear hsg; have HGG : Hid (w4.grownBy wg (Option.some w.heap.size)) := hgg; obtain ⟨m0, m1, m2, m3⟩ := vote_cells hkg; clear hgg hkg)
  refine bodyPost_ret (v := .tuple #[vt, .int .i64 pn, .agg #[.int .i64 x0, .int .i64 x1, .int .i64 x2, .int .i64 x3]]) (by simp [results, Try.results37, go_sem, m0, m1, m2, m3]) rfl ?_
  unfold QcRightR
  have hbe : Below w.heap.size w w4 := bt HB0.out HB4.out
  have hpn := HP.out
  exact ⟨vt, qs, pn, (x0, x1, x2, x3), rfl, HBT.out, (HO4.out.st HGG.out (by omega)).base (by omega), (by simp at hpn; unfold fitI; omega), HWF.out, hbe.grown HGG.out hbe.size (fun y hy => by cases hy; exact Nat.le_refl _)⟩

set_option maxRecDepth 100000 in
set_option maxHeartbeats 4000000 in
theorem dDrawSignersOf_any {w : World} {ao : Option Addr} {len cap b off : Nat} (hc : Code w ao len b off) :
    Calls Try.prog 72 #[.slice ao len cap] w fun e w' => SignersR w e w' := by
  have HC : Hid (Code w ao len b off) := hc
  clear hc
  go_enter Try.func72, Try.ntmps72
  go_wp2_with fail
  refine (new_any HC.out).mono ?_
  rintro e w1 ⟨B, rfl, hN, hS, hb⟩
  have HS1 : Hid (St w1 B ao len cap b off) := hS
  have hB1 := hS.cur.lt
  have HB1 : Hid (Below w.heap.size w w1) := hb
  have hs1 := hb.size
  clear hS hb
  go_wp2_with fail
  refine (drawn_st HS1.out).mono ?_
  rintro e w3 ⟨vt, qs, rfl, hd, hown, hS, hg⟩
  have HS3 : Hid (St w3 B ao len cap b off) := hS
  have HG3 : Hid (w1.grownBy w3 (Option.some B)) := hg
  have HBT : Hid (BT (bks qs) 9) := hd.bt
  have HO3 : Hid (OwnU w3 w1.heap.size vt qs) := hown.u
  clear hS hg hd hown
  go_wp2_with fail
  refine (votes7_st HS3.out HO3.out (by omega) HBT.out (by omega)).mono ?_
  rintro e w4 ⟨vl, l, rfl, hl8, hvd, hown, hS, hg⟩
  have HS4 : Hid (St w4 B ao len cap b off) := hS
  have HG4 : Hid (w1.grownBy w4 (Option.some B)) := grown_tr HG3.out hg
  have HOV : Hid (w4.ownsRow w3.heap.size 54 4 vl l.length (flatR voteF l)) := hown
  have HVD : Hid (∀ x ∈ l, VD (bks qs) x) := hvd
  have HO4 : Hid (OwnU w4 w1.heap.size vt qs) := HO3.out.st hg (by omega)
  have hs3 := HG3.out.size
  have hs4 := HG4.out.size
  have hq9 := HBT.out.2.1
  obtain ⟨al, cl, h4, hfz⟩ := own_form hown
  subst h4
  clear hS hg hvd hown
  by_cases hz : l.length = 0
  · have e0 : ((l.length : Int) == 0) = true := by simp [hz]
    clear hz
    go_wp2
    refine bodyPost_ret (v := .tuple #[.slice al l.length cl, .int .i64 1, .int .i64 1, .int .i64 1]) (by simp [results, Try.results72, go_sem]) rfl ?_
    unfold SignersR
    exact ⟨_, l, 1, 1, 1, rfl, hl8, own_base HOV.out (by omega), ⟨by omega, by omega⟩, ⟨by omega, by omega⟩, ⟨by omega, by omega⟩, drawn_below HB1.out hN HG4.out⟩
  have e0 : ((l.length : Int) == 0) = false := by simpa using hz
  have hlp : 0 < l.length := by omega
  clear hz
  go_wp2_with fail
  refine (below_st (l.length : Int) (by omega) (by omega) HS4.out).mono ?_
  rintro e w5 ⟨j, rfl, hj0, hj1, hS, hg⟩
  obtain ⟨k, rfl⟩ := Int.eq_ofNat_of_zero_le hj0
  have hkl : k < l.length := by omega
  have HG5 : Hid (w1.grownBy w5 (Option.some B)) := grown_tr HG4.out hg
  have HOV5 : Hid (w5.ownsRow w3.heap.size 54 4 (.slice al l.length cl) l.length (flatR voteF l)) := World.ownsRow.kept HOV.out hg (own_far HOV.out (by omega))
  clear hS hg
  obtain ⟨gl, rfl⟩ := hfz (by omega)
  obtain ⟨xx, hxx⟩ : ∃ xx, xx = l[k] := ⟨_, rfl⟩
  have hxd : VD (bks qs) xx := by rw [hxx]; exact HVD.out _ (List.getElem_mem _)
  obtain ⟨x0, x1, x2, x3⟩ := xx
  obtain ⟨d0, d1, d2, d3⟩ := hxd
  simp only at d0 d1 d2 d3
  have HR5 := rows_of_own voteF_len HOV5.out
  obtain ⟨ar, cr, er, hr⟩ := HR5
  cases er
  obtain ⟨g2, o2, e2, hgl, hcs⟩ := hr hlp
  cases e2
  have c0 : w5.cell? ⟨gl, k * 4, none⟩ = some (.int .i64 x0) := by have := hcs k hkl 0 (by omega); rw [← hxx] at this; simpa [voteF] using this
  have c1 : w5.cell? ⟨gl, k * 4 + 1, none⟩ = some (.int .i64 x1) := by have := hcs k hkl 1 (by omega); rw [← hxx] at this; simpa [voteF] using this
  have c2 : w5.cell? ⟨gl, k * 4 + 2, none⟩ = some (.int .i64 x2) := by have := hcs k hkl 2 (by omega); rw [← hxx] at this; simpa [voteF] using this
  have c3 : w5.cell? ⟨gl, k * 4 + 3, none⟩ = some (.int .i64 x3) := by have := hcs k hkl 3 (by omega); rw [← hxx] at this; simpa [voteF] using this
  obtain ⟨W6, hW6⟩ : ∃ W6, W6 = w5.alloc (.cells #[.int .i64 x0, .int .i64 x1, .int .i64 x2, .int .i64 x3] 54) := ⟨_, rfl⟩
  have HB6 : Hid (Below w5.heap.size w5 W6) := (by rw [hW6]; exact (Below.refl _ _).alloc (Nat.le_refl _) _ : Below w5.heap.size w5 W6)
  have HK6 : Hid (W6.heap[w5.heap.size]? = some (.cells #[.int .i64 x0, .int .i64 x1, .int .i64 x2, .int .i64 x3] 54 (0, 0))) := (by rw [hW6]; exact heap_alloc_new w5 _ : W6.heap[w5.heap.size]? = _)
  have l6 : w5.heap.size < W6.heap.size := (Array.getElem?_eq_some_iff.1 HK6.out).1
  have HD : Hid (fitI x0 ∧ fitI x1 ∧ fitI x2) := ⟨⟨by omega, by omega⟩, ⟨by omega, by omega⟩, ⟨by omega, by omega⟩⟩
  clear hcs hr hxx d0 d1 d2 d3 hlp
  go_wp2
  rw [← hW6]
  clear hW6 c0 c1 c2 c3
  have hne := bw_some W6
  have y0 : ∀ x : Bw W6, x.to.cell? ⟨w5.heap.size, 0, none⟩ = some (.int .i64 x0) := fun x => (vote_cells ((x.below.block _ l6).trans HK6.out)).1
  have y1 : ∀ x : Bw W6, x.to.cell? ⟨w5.heap.size, 1, none⟩ = some (.int .i64 x1) := fun x => (vote_cells ((x.below.block _ l6).trans HK6.out)).2.1
  have y2 : ∀ x : Bw W6, x.to.cell? ⟨w5.heap.size, 2, none⟩ = some (.int .i64 x2) := fun x => (vote_cells ((x.below.block _ l6).trans HK6.out)).2.2.1
  refine wp_region_bw (by kernel_rfl) (by kernel_rfl) ?_
  repeat (go_big_quiet_step (fail))
  refine wpQuiet_nil ?_
  intro _ hw'
  obtain ⟨x, rfl⟩ := hw'
  go_wp2
  refine bodyPost_ret (v := .tuple #[.slice (some ⟨gl, 0, none⟩) l.length cl, .int .i64 x0, .int .i64 x1, .int .i64 x2]) (by simp [results, Try.results72, go_sem]) rfl ?_
  unfold SignersR
  have hbx : Below w5.heap.size w5 x.to := bt HB6.out x.below
  exact ⟨_, l, x0, x1, x2, rfl, hl8, own_base (own_kept HOV5.out hbx) (by omega), HD.out.1, HD.out.2.1, HD.out.2.2, drawn_below HB1.out hN (grown_tr HG5.out (grown_none hbx))⟩

set_option maxRecDepth 100000 in
set_option maxHeartbeats 4000000 in
theorem dDrawQcOf_any {w : World} {ao : Option Addr} {len cap b off : Nat} (hc : Code w ao len b off) :
    Calls Try.prog 38 #[.slice ao len cap] w fun e w' => QcOfR w e w' := by
  have HC : Hid (Code w ao len b off) := hc
  clear hc
  go_enter Try.func38, Try.ntmps38
  go_wp2_with fail
  refine (new_any HC.out).mono ?_
  rintro e w1 ⟨B, rfl, hN, hS, hb⟩
  have HS1 : Hid (St w1 B ao len cap b off) := hS
  have hB1 := hS.cur.lt
  have HB1 : Hid (Below w.heap.size w w1) := hb
  have hs1 := hb.size
  clear hS hb
  have HBp : Hid (Below w1.heap.size w1 (w1.alloc (.cells #[.int .i64 4, .int .i64 4, .int .i64 1, .int .i64 7, .int .i64 3] 3))) := (Below.refl _ _).alloc (Nat.le_refl _) _
  have HKp : Hid ((w1.alloc (.cells #[.int .i64 4, .int .i64 4, .int .i64 1, .int .i64 7, .int .i64 3] 3)).heap[w1.heap.size]? = some (.cells (intsA [4, 4, 1, 7, 3]) 3 (0, 0))) := heap_alloc_new w1 _
  go_wp2_with fail
  refine (pickL_st [4, 4, 1, 7, 3] (by simp) (by simp) (HS1.out.below HBp.out) (by omega) HKp.out).mono ?_
  rintro e w2 ⟨pn, hpn, rfl, hS, hg⟩
  have HS2 : Hid (St w2 B ao len cap b off) := hS
  have HG2 : Hid (w1.grownBy w2 (Option.some B)) := grown_tr (grown_none HBp.out) hg
  have HP : Hid (pn ∈ ([4, 4, 1, 7, 3] : List Int)) := hpn
  clear hS hg HBp HKp hpn
  have HB2 : Hid (Below w.heap.size w w2) := drawn_below HB1.out hN HG2.out
  go_wp2_with fail
  refine (dDrawSignersOf_any (HC.out.below HB2.out)).mono ?_
  rintro e w3 ⟨v, l, p, vw, bl, rfl, hl8, hown, f1, f2, f3, hb3⟩
  have HOV : Hid (w3.ownsRow w2.heap.size 54 4 v l.length (flatR voteF l)) := hown
  have HF : Hid (fitI p ∧ fitI vw ∧ fitI bl) := ⟨f1, f2, f3⟩
  clear hown f1 f2 f3
  go_wp2
  refine bodyPost_ret (v := .tuple #[v, .int .i64 p, .int .i64 vw, .int .i64 bl, .int .i64 pn]) (by simp [results, Try.results38, go_sem]) rfl ?_
  unfold QcOfR
  have hpn := HP.out
  exact ⟨v, l, p, vw, bl, pn, rfl, hl8, own_base HOV.out HB2.out.size, HF.out.1, HF.out.2.1, HF.out.2.2, (by simp at hpn; unfold fitI; omega), bt HB2.out hb3⟩

set_option maxRecDepth 100000 in
theorem dDrawCountOf_any {w : World} {ao : Option Addr} {len cap b off : Nat} (hc : Code w ao len b off) :
    Calls Try.prog 42 #[.slice ao len cap] w fun e w' => ∃ x : Int, e = .returned (.int .i64 x) ∧ fitI x ∧ Below w.heap.size w w' := by
  have HC : Hid (Code w ao len b off) := hc
  clear hc
  go_enter Try.func42, Try.ntmps42
  go_wp2_with fail
  refine (new_any HC.out).mono ?_
  rintro e w1 ⟨B, rfl, hN, hS, hb⟩
  have HS1 : Hid (St w1 B ao len cap b off) := hS
  have hB1 := hS.cur.lt
  have HB1 : Hid (Below w.heap.size w w1) := hb
  clear hS hb
  have HBp : Hid (Below w1.heap.size w1 (w1.alloc (.cells #[.int .i64 0, .int .i64 1, .int .i64 7, .int .i64 127, .int .i64 128, .int .i64 255, .int .i64 (-1), .int .i64 9223372036854775807] 3))) := (Below.refl _ _).alloc (Nat.le_refl _) _
  have HKp : Hid ((w1.alloc (.cells #[.int .i64 0, .int .i64 1, .int .i64 7, .int .i64 127, .int .i64 128, .int .i64 255, .int .i64 (-1), .int .i64 9223372036854775807] 3)).heap[w1.heap.size]? = some (.cells (intsA [0, 1, 7, 127, 128, 255, -1, 9223372036854775807]) 3 (0, 0))) := heap_alloc_new w1 _
  go_wp2_with fail
  refine (pickL_st [0, 1, 7, 127, 128, 255, -1, 9223372036854775807] (by simp) (by simp) (HS1.out.below HBp.out) (by omega) HKp.out).mono ?_
  rintro e w2 ⟨pn, hpn, rfl, hS, hg⟩
  have HS2 : Hid (St w2 B ao len cap b off) := hS
  have HG2 : Hid (w1.grownBy w2 (Option.some B)) := grown_tr (grown_none HBp.out) hg
  have HP : Hid (pn ∈ ([0, 1, 7, 127, 128, 255, -1, 9223372036854775807] : List Int)) := hpn
  clear hS hg HBp HKp hpn
  go_wp2
  go_ret
  have hpn := HP.out
  exact ⟨pn, rfl, (by simp at hpn; unfold fitI; omega), drawn_below HB1.out hN HG2.out⟩

set_option maxRecDepth 100000 in
theorem dDrawFaults_any {w : World} {ao : Option Addr} {len cap b off : Nat} (hc : Code w ao len b off) :
    Calls Try.prog 43 #[.slice ao len cap] w fun e w' => ∃ x : Int, e = .returned (.int .i64 x) ∧ fitI x ∧ Below w.heap.size w w' := by
  have HC : Hid (Code w ao len b off) := hc
  clear hc
  go_enter Try.func43, Try.ntmps43
  go_wp2_with fail
  refine (new_any HC.out).mono ?_
  rintro e w1 ⟨B, rfl, hN, hS, hb⟩
  have HS1 : Hid (St w1 B ao len cap b off) := hS
  have hB1 := hS.cur.lt
  have HB1 : Hid (Below w.heap.size w w1) := hb
  clear hS hb
  go_wp2_with fail
  refine (placeB_st 8 (by omega) (by omega) HS1.out).mono ?_
  rintro e w2 ⟨x, rfl, hx, hS, hg⟩
  go_wp2
  go_ret
  exact ⟨x, rfl, hx, drawn_below HB1.out hN hg⟩

end Go.Proofs.Ytjdddcldbfhbiab
