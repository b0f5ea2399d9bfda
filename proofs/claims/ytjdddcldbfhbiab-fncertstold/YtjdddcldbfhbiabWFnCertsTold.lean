/-
  The walk of the law FnCertsTold: what the program tells of drawn votes, right or not, is what the specification tells. (Made by gu7.py.)
-/
import Derived.Test.YtjdddcldbfhbiabDraw7U
import Derived.Test.YtjdddcldbfhbiabQcI
import Derived.OpenShut
namespace Go.Proofs.Ytjdddcldbfhbiab.WFnCertsTold
open Go.RowKit Num

set_option maxRecDepth 100000 in
theorem walk_big (w : World) (ao : Option Addr) (len cap : Nat) (h : (1048576 : Int) < len) :
    Calls Try.prog 7 #[.slice ao len cap] w fun e w' => e = .returned (.bool true) ∧ Below w.heap.size w w' := by
  go_enter Try.func7, Try.ntmps7
  go_wp2
  go_ret
  exact ⟨rfl, Below.refl _ _⟩
theorem big_no (w : World) (ao : Option Addr) (len cap : Nat) (h : (len : Int) ≤ 1048576) :
    Calls Try.prog 8 #[.slice ao len cap] w fun e w' => e = .returned (.bool false) ∧ w' = w := by
  go_enter Try.func8, Try.ntmps8
  go_wp2
  go_ret
  exact ⟨by simp; omega, rfl⟩

set_option maxRecDepth 100000 in
set_option maxHeartbeats 16000000 in
theorem walk (w : World) (ao : Option Addr) (len cap b off : Nat) (hc : Code w ao len b off) :
    Calls Try.prog 7 #[.slice ao len cap] w fun e w' => e = .returned (.bool true) ∧ Below w.heap.size w w' := by
  have HC : Hid (Code w ao len b off) := hc
  have hle : (len : Int) ≤ 1048576 := by have := hc.le; omega
  have GQ := guardQ
  clear hc
  go_enter Try.func7, Try.ntmps7
  go_wp2_with fail
  refine (big_no w ao len cap hle).mono ?_
  rintro e w0 ⟨rfl, hw⟩
  obtain rfl := hw.symm
  clear hw hle
  go_wp2_with fail
  refine (dDrawVoteOk_any HC.out).mono ?_
  rintro e u1 ⟨vt, qs, n, ⟨x0, x1, x2, x3⟩, rfl, hbt, hown, hn, hwx, hb⟩
  unfold voteV
  simp only
  have Pu1 : Hid (Below w.heap.size w u1) := hb
  have HT1 : Hid (TreeR u1 vt qs) := hown.read
  have HK1 : Hid (okT (bks qs)) := hbt.ok (by omega)
  have HN1 : Hid ((Lit.int .i64 n).wf = true) := fit_wf hn
  have HX1 : Hid (wfV (x0, x1, x2, x3)) := hwx
  clear hbt hown hn hwx hb
  obtain ⟨u2, hu2⟩ : ∃ u2, u2 = u1.alloc (.cells #[.int .i64 x0, .int .i64 x1, .int .i64 x2, .int .i64 x3] 54) := ⟨_, rfl⟩
  have KA : Hid (u2.heap[u1.heap.size]? = some (.cells #[.int .i64 x0, .int .i64 x1, .int .i64 x2, .int .i64 x3] 54 (0, 0))) := (by rw [hu2]; exact heap_alloc_new u1 _ : u2.heap[u1.heap.size]? = _)
  have LA : u1.heap.size < u2.heap.size := (Array.getElem?_eq_some_iff.1 KA.out).1
  have Pu2 : Hid (Below u1.heap.size u1 u2) := (by rw [hu2]; exact ba (Below.refl _ _) _ : Below u1.heap.size u1 u2)
  go_wp2_with fail
  rw [← hu2]
  clear hu2
  refine (dDrawQcRight_any (HC.out.below (bt Pu1.out Pu2.out))).mono ?_
  rintro e u3 ⟨vs, ps, m, ⟨y0, y1, y2, y3⟩, rfl, hbt, hown, hn, hwx, hb⟩
  unfold qcVal
  simp only
  have Pu3 : Hid (Below u2.heap.size u2 u3) := hb
  have HT3 : Hid (TreeR u3 vs ps) := hown.read
  have HK3 : Hid (okT (bks ps)) := hbt.ok (by omega)
  have HN3 : Hid ((Lit.int .i64 m).wf = true) := fit_wf hn
  have HX3 : Hid (wfQ (y0, y1, y2, y3)) := hwx
  clear hbt hown hn hwx hb
  obtain ⟨u4, hu4⟩ : ∃ u4, u4 = u3.alloc (.cells #[.int .i64 y0, .int .i64 y1, .int .i64 y2, .int .i64 y3] 31) := ⟨_, rfl⟩
  have KB : Hid (u4.heap[u3.heap.size]? = some (.cells #[.int .i64 y0, .int .i64 y1, .int .i64 y2, .int .i64 y3] 31 (0, 0))) := (by rw [hu4]; exact heap_alloc_new u3 _ : u4.heap[u3.heap.size]? = _)
  have LB : u3.heap.size < u4.heap.size := (Array.getElem?_eq_some_iff.1 KB.out).1
  have Pu4 : Hid (Below u3.heap.size u3 u4) := (by rw [hu4]; exact ba (Below.refl _ _) _ : Below u3.heap.size u3 u4)
  go_wp2_with fail
  rw [← hu4]
  clear hu4
  refine (dDrawQcOf_any (HC.out.below (bt (bt (bt Pu1.out Pu2.out) Pu3.out) Pu4.out))).mono ?_
  rintro e u5 ⟨va, l, p, vw, bl, k, rfl, hl8, hown, f1, f2, f3, f4, hb⟩
  have Pu5 : Hid (Below u4.heap.size u4 u5) := hb
  have HR5 : Hid (RowsR u5 va 4 voteF l) := rows_of_own voteF_len hown
  have HC5 : Hid (capOk va) := capOk_own hown
  have HL5 : Hid ((l.length : Int) ≤ 1048576) := (by omega : (l.length : Int) ≤ 1048576)
  have HP5 : Hid ((Lit.int .i64 p).wf = true) := fit_wf f1
  have HV5 : Hid ((Lit.int .i64 vw).wf = true) := fit_wf f2
  have HB5 : Hid ((Lit.int .i64 bl).wf = true) := fit_wf f3
  have HN5 : Hid ((Lit.int .i64 k).wf = true) := fit_wf f4
  clear hl8 hown f1 f2 f3 f4 hb
  go_wp2_with fail
  refine (qcOf_i l va p HP5.out vw HV5.out bl HB5.out k HN5.out u5 HR5.out HC5.out HL5.out).mono ?_
  rintro e u6 ⟨rfl, hb⟩
  have Pu6 : Hid (Below u5.heap.size u5 u6) := hb
  obtain ⟨⟨⟨r0, r1, r2, r3⟩, ok⟩, hr⟩ : ∃ r, r = qcOfT l p vw bl k := ⟨_, rfl⟩
  have HRR : Hid (qcOfT l p vw bl k = ((r0, r1, r2, r3), ok)) := hr.symm
  rw [HRR.out]
  unfold qcVal
  simp only
  clear hr hb
  obtain ⟨u7, hu7⟩ : ∃ u7, u7 = u6.alloc (.cells #[.int .i64 r0, .int .i64 r1, .int .i64 r2, .int .i64 r3] 31) := ⟨_, rfl⟩
  have KC : Hid (u7.heap[u6.heap.size]? = some (.cells #[.int .i64 r0, .int .i64 r1, .int .i64 r2, .int .i64 r3] 31 (0, 0))) := (by rw [hu7]; exact heap_alloc_new u6 _ : u7.heap[u6.heap.size]? = _)
  have LC : u6.heap.size < u7.heap.size := (Array.getElem?_eq_some_iff.1 KC.out).1
  have Pu7 : Hid (Below u6.heap.size u6 u7) := (by rw [hu7]; exact ba (Below.refl _ _) _ : Below u6.heap.size u6 u7)
  go_wp2_with fail
  rw [← hu7]
  clear hu7
  refine (qcOf_s l va p vw bl k u7 (HR5.out.below (bt Pu6.out Pu7.out)) HL5.out (bounds_i64 HN5.out).1 (bounds_i64 HN5.out).2).mono ?_
  rintro e u8 ⟨rfl, hb⟩
  have Pu8 : Hid (Below u7.heap.size u7 u8) := hb
  rw [HRR.out]
  unfold qcVal
  simp only
  clear hb
  obtain ⟨u9, hu9⟩ : ∃ u9, u9 = u8.alloc (.cells #[.int .i64 r0, .int .i64 r1, .int .i64 r2, .int .i64 r3] 31) := ⟨_, rfl⟩
  have KD : Hid (u9.heap[u8.heap.size]? = some (.cells #[.int .i64 r0, .int .i64 r1, .int .i64 r2, .int .i64 r3] 31 (0, 0))) := (by rw [hu9]; exact heap_alloc_new u8 _ : u9.heap[u8.heap.size]? = _)
  have LD : u8.heap.size < u9.heap.size := (Array.getElem?_eq_some_iff.1 KD.out).1
  have Pu9 : Hid (Below u8.heap.size u8 u9) := (by rw [hu9]; exact ba (Below.refl _ _) _ : Below u8.heap.size u8 u9)
  go_wp2_with fail
  rw [← hu9]
  clear hu9
  refine (dDrawHigherQc_any (HC.out.below (bt (bt (bt (bt (bt (bt (bt (bt Pu1.out Pu2.out) Pu3.out) Pu4.out) Pu5.out) Pu6.out) Pu7.out) Pu8.out) Pu9.out))).mono ?_
  rintro e u10 ⟨⟨s0, s1, s2, s3⟩, ⟨t0, t1, t2, t3⟩, rfl, _, _, hb⟩
  unfold qcVal
  simp only
  have Pu10 : Hid (Below u9.heap.size u9 u10) := hb
  clear hb
  obtain ⟨u11, hu11⟩ : ∃ u11, u11 = u10.alloc (.cells #[.int .i64 s0, .int .i64 s1, .int .i64 s2, .int .i64 s3] 31) := ⟨_, rfl⟩
  have KE : Hid (u11.heap[u10.heap.size]? = some (.cells #[.int .i64 s0, .int .i64 s1, .int .i64 s2, .int .i64 s3] 31 (0, 0))) := (by rw [hu11]; exact heap_alloc_new u10 _ : u11.heap[u10.heap.size]? = _)
  have LE : u10.heap.size < u11.heap.size := (Array.getElem?_eq_some_iff.1 KE.out).1
  have Pu11 : Hid (Below u10.heap.size u10 u11) := (by rw [hu11]; exact ba (Below.refl _ _) _ : Below u10.heap.size u10 u11)
  obtain ⟨u12, hu12⟩ : ∃ u12, u12 = u11.alloc (.cells #[.int .i64 t0, .int .i64 t1, .int .i64 t2, .int .i64 t3] 31) := ⟨_, rfl⟩
  have KG : Hid (u12.heap[u11.heap.size]? = some (.cells #[.int .i64 t0, .int .i64 t1, .int .i64 t2, .int .i64 t3] 31 (0, 0))) := (by rw [hu12]; exact heap_alloc_new u11 _ : u12.heap[u11.heap.size]? = _)
  have LG : u11.heap.size < u12.heap.size := (Array.getElem?_eq_some_iff.1 KG.out).1
  have Pu12 : Hid (Below u11.heap.size u11 u12) := (by rw [hu12]; exact ba (Below.refl _ _) _ : Below u11.heap.size u11 u12)
  go_wp2_with fail
  rw [← hu11, ← hu12]
  have eu : u10.heap.size + 1 = u11.heap.size := by rw [hu11]; simp
  rw [eu]
  clear eu hu11 hu12
  refine (dDrawProven_any (HC.out.below (bt (bt (bt (bt (bt (bt (bt (bt (bt (bt (bt Pu1.out Pu2.out) Pu3.out) Pu4.out) Pu5.out) Pu6.out) Pu7.out) Pu8.out) Pu9.out) Pu10.out) Pu11.out) Pu12.out))).mono ?_
  rintro e u13 ⟨vb, lb, ⟨z0, z1, z2, z3⟩, liars, rfl, hl8, hown, hwz, hli, hb⟩
  unfold qcVal
  simp only
  have Pu13 : Hid (Below u12.heap.size u12 u13) := hb
  have HR13 : Hid (RowsR u13 vb 4 voteF lb) := rows_of_own voteF_len hown
  have HL13 : Hid ((lb.length : Int) ≤ 1048576) := (by omega : (lb.length : Int) ≤ 1048576)
  have HZ13 : Hid (fitQ (z0, z1, z2, z3)) := ⟨(bounds_i64 hwz.2.2.2).1, (bounds_i64 hwz.2.2.2).2⟩
  have HLI : Hid (0 ≤ liars ∧ liars < 128) := hli
  clear hl8 hown hwz hli hb
  obtain ⟨u14, hu14⟩ : ∃ u14, u14 = u13.alloc (.cells #[.int .i64 z0, .int .i64 z1, .int .i64 z2, .int .i64 z3] 31) := ⟨_, rfl⟩
  have KH : Hid (u14.heap[u13.heap.size]? = some (.cells #[.int .i64 z0, .int .i64 z1, .int .i64 z2, .int .i64 z3] 31 (0, 0))) := (by rw [hu14]; exact heap_alloc_new u13 _ : u14.heap[u13.heap.size]? = _)
  have LH : u13.heap.size < u14.heap.size := (Array.getElem?_eq_some_iff.1 KH.out).1
  have Pu14 : Hid (Below u13.heap.size u13 u14) := (by rw [hu14]; exact ba (Below.refl _ _) _ : Below u13.heap.size u13 u14)
  go_wp2_with fail
  rw [← hu14]
  clear hu14
  refine (dDrawCountOf_any (HC.out.below (bt (bt (bt (bt (bt (bt (bt (bt (bt (bt (bt (bt (bt Pu1.out Pu2.out) Pu3.out) Pu4.out) Pu5.out) Pu6.out) Pu7.out) Pu8.out) Pu9.out) Pu10.out) Pu11.out) Pu12.out) Pu13.out) Pu14.out))).mono ?_
  rintro e u15 ⟨ci, rfl, hci, hb⟩
  have Pu15 : Hid (Below u14.heap.size u14 u15) := hb
  have HCI : Hid ((Lit.int .i64 ci).wf = true) := fit_wf hci
  clear hci hb
  go_wp2_with fail
  refine (dDrawFaults_any (HC.out.below (bt (bt (bt (bt (bt (bt (bt (bt (bt (bt (bt (bt (bt (bt Pu1.out Pu2.out) Pu3.out) Pu4.out) Pu5.out) Pu6.out) Pu7.out) Pu8.out) Pu9.out) Pu10.out) Pu11.out) Pu12.out) Pu13.out) Pu14.out) Pu15.out))).mono ?_
  rintro e u16 ⟨fy, rfl, hfy, hb⟩
  have Pu16 : Hid (Below u15.heap.size u15 u16) := hb
  have HFY : Hid ((Lit.int .i64 fy).wf = true) := fit_wf hfy
  clear hfy hb
  have hne := bw_some u16
  have FA : Hid (∀ x : Bw u16, x.to.cell? ⟨u1.heap.size, 0, none⟩ = some (.int .i64 x0) ∧ x.to.cell? ⟨u1.heap.size, 1, none⟩ = some (.int .i64 x1) ∧ x.to.cell? ⟨u1.heap.size, 2, none⟩ = some (.int .i64 x2) ∧ x.to.cell? ⟨u1.heap.size, 3, none⟩ = some (.int .i64 x3)) := fun x => vote_cells (((bt (bt (bt (bt (bt (bt (bt (bt (bt (bt (bt (bt (bt (bt Pu3.out Pu4.out) Pu5.out) Pu6.out) Pu7.out) Pu8.out) Pu9.out) Pu10.out) Pu11.out) Pu12.out) Pu13.out) Pu14.out) Pu15.out) Pu16.out) x.below).block _ LA).trans KA.out)
  have fA0 := fun x => (FA.out x).1
  have fA1 := fun x => (FA.out x).2.1
  have fA2 := fun x => (FA.out x).2.2.1
  have fA3 := fun x => (FA.out x).2.2.2
  have FB : Hid (∀ x : Bw u16, x.to.cell? ⟨u3.heap.size, 0, none⟩ = some (.int .i64 y0) ∧ x.to.cell? ⟨u3.heap.size, 1, none⟩ = some (.int .i64 y1) ∧ x.to.cell? ⟨u3.heap.size, 2, none⟩ = some (.int .i64 y2) ∧ x.to.cell? ⟨u3.heap.size, 3, none⟩ = some (.int .i64 y3)) := fun x => vote_cells (((bt (bt (bt (bt (bt (bt (bt (bt (bt (bt (bt (bt Pu5.out Pu6.out) Pu7.out) Pu8.out) Pu9.out) Pu10.out) Pu11.out) Pu12.out) Pu13.out) Pu14.out) Pu15.out) Pu16.out) x.below).block _ LB).trans KB.out)
  have fB0 := fun x => (FB.out x).1
  have fB1 := fun x => (FB.out x).2.1
  have fB2 := fun x => (FB.out x).2.2.1
  have fB3 := fun x => (FB.out x).2.2.2
  have FC : Hid (∀ x : Bw u16, x.to.cell? ⟨u6.heap.size, 0, none⟩ = some (.int .i64 r0) ∧ x.to.cell? ⟨u6.heap.size, 1, none⟩ = some (.int .i64 r1) ∧ x.to.cell? ⟨u6.heap.size, 2, none⟩ = some (.int .i64 r2) ∧ x.to.cell? ⟨u6.heap.size, 3, none⟩ = some (.int .i64 r3)) := fun x => vote_cells (((bt (bt (bt (bt (bt (bt (bt (bt (bt Pu8.out Pu9.out) Pu10.out) Pu11.out) Pu12.out) Pu13.out) Pu14.out) Pu15.out) Pu16.out) x.below).block _ LC).trans KC.out)
  have fC0 := fun x => (FC.out x).1
  have fC1 := fun x => (FC.out x).2.1
  have fC2 := fun x => (FC.out x).2.2.1
  have fC3 := fun x => (FC.out x).2.2.2
  have FD : Hid (∀ x : Bw u16, x.to.cell? ⟨u8.heap.size, 0, none⟩ = some (.int .i64 r0) ∧ x.to.cell? ⟨u8.heap.size, 1, none⟩ = some (.int .i64 r1) ∧ x.to.cell? ⟨u8.heap.size, 2, none⟩ = some (.int .i64 r2) ∧ x.to.cell? ⟨u8.heap.size, 3, none⟩ = some (.int .i64 r3)) := fun x => vote_cells (((bt (bt (bt (bt (bt (bt (bt Pu10.out Pu11.out) Pu12.out) Pu13.out) Pu14.out) Pu15.out) Pu16.out) x.below).block _ LD).trans KD.out)
  have fD0 := fun x => (FD.out x).1
  have fD1 := fun x => (FD.out x).2.1
  have fD2 := fun x => (FD.out x).2.2.1
  have fD3 := fun x => (FD.out x).2.2.2
  have FE : Hid (∀ x : Bw u16, x.to.cell? ⟨u10.heap.size, 0, none⟩ = some (.int .i64 s0) ∧ x.to.cell? ⟨u10.heap.size, 1, none⟩ = some (.int .i64 s1) ∧ x.to.cell? ⟨u10.heap.size, 2, none⟩ = some (.int .i64 s2) ∧ x.to.cell? ⟨u10.heap.size, 3, none⟩ = some (.int .i64 s3)) := fun x => vote_cells (((bt (bt (bt (bt (bt Pu12.out Pu13.out) Pu14.out) Pu15.out) Pu16.out) x.below).block _ LE).trans KE.out)
  have fE0 := fun x => (FE.out x).1
  have fE1 := fun x => (FE.out x).2.1
  have fE2 := fun x => (FE.out x).2.2.1
  have fE3 := fun x => (FE.out x).2.2.2
  have FG : Hid (∀ x : Bw u16, x.to.cell? ⟨u11.heap.size, 0, none⟩ = some (.int .i64 t0) ∧ x.to.cell? ⟨u11.heap.size, 1, none⟩ = some (.int .i64 t1) ∧ x.to.cell? ⟨u11.heap.size, 2, none⟩ = some (.int .i64 t2) ∧ x.to.cell? ⟨u11.heap.size, 3, none⟩ = some (.int .i64 t3)) := fun x => vote_cells (((bt (bt (bt (bt Pu13.out Pu14.out) Pu15.out) Pu16.out) x.below).block _ LG).trans KG.out)
  have fG0 := fun x => (FG.out x).1
  have fG1 := fun x => (FG.out x).2.1
  have fG2 := fun x => (FG.out x).2.2.1
  have fG3 := fun x => (FG.out x).2.2.2
  have FH : Hid (∀ x : Bw u16, x.to.cell? ⟨u13.heap.size, 0, none⟩ = some (.int .i64 z0) ∧ x.to.cell? ⟨u13.heap.size, 1, none⟩ = some (.int .i64 z1) ∧ x.to.cell? ⟨u13.heap.size, 2, none⟩ = some (.int .i64 z2) ∧ x.to.cell? ⟨u13.heap.size, 3, none⟩ = some (.int .i64 z3)) := fun x => vote_cells (((bt (bt Pu15.out Pu16.out) x.below).block _ LH).trans KH.out)
  have fH0 := fun x => (FH.out x).1
  have fH1 := fun x => (FH.out x).2.1
  have fH2 := fun x => (FH.out x).2.2.1
  have fH3 := fun x => (FH.out x).2.2.2
  obtain ⟨ra, hra⟩ : ∃ ra, ra = voteB (bks qs) n (x0, x1, x2, x3) := ⟨_, rfl⟩
  have Q0 : Hid (∀ x : Bw u16, Calls Try.prog 44 #[vt, .int .i64 n, .agg #[.int .i64 x0, .int .i64 x1, .int .i64 x2, .int .i64 x3]] x.to fun e w' => e = .returned (.bool ra) ∧ Below x.to.heap.size x.to w') := fun x => by have h := voteOk_i qs vt n HN1.out (x0, x1, x2, x3) HX1.out x.to (HT1.out.below (bt (bt (bt (bt (bt (bt (bt (bt (bt (bt (bt (bt (bt (bt (bt Pu2.out Pu3.out) Pu4.out) Pu5.out) Pu6.out) Pu7.out) Pu8.out) Pu9.out) Pu10.out) Pu11.out) Pu12.out) Pu13.out) Pu14.out) Pu15.out) Pu16.out) x.below)) HK1.out; rw [← hra] at h; exact h
  have Q1 : Hid (∀ x : Bw u16, Calls Try.prog 45 #[vt, .int .i64 n, .agg #[.int .i64 x0, .int .i64 x1, .int .i64 x2, .int .i64 x3]] x.to fun e w' => e = .returned (.bool ra) ∧ Below x.to.heap.size x.to w') := fun x => by have h := voteOk_s qs vt n (x0, x1, x2, x3) x.to (HT1.out.below (bt (bt (bt (bt (bt (bt (bt (bt (bt (bt (bt (bt (bt (bt (bt Pu2.out Pu3.out) Pu4.out) Pu5.out) Pu6.out) Pu7.out) Pu8.out) Pu9.out) Pu10.out) Pu11.out) Pu12.out) Pu13.out) Pu14.out) Pu15.out) Pu16.out) x.below)).q (by have := HK1.out.1; rw [bks_len] at this; exact this); rw [← hra] at h; exact h
  clear hra
  obtain ⟨rb, hrb⟩ : ∃ rb, rb = qcRightB (bks ps) m (y0, y1, y2, y3) := ⟨_, rfl⟩
  have Q2 : Hid (∀ x : Bw u16, Calls Try.prog 33 #[vs, .int .i64 m, .agg #[.int .i64 y0, .int .i64 y1, .int .i64 y2, .int .i64 y3]] x.to fun e w' => e = .returned (.bool rb) ∧ Below x.to.heap.size x.to w') := fun x => by have h := qcRight_i ps vs m HN3.out (y0, y1, y2, y3) HX3.out x.to (HT3.out.below (bt (bt (bt (bt (bt (bt (bt (bt (bt (bt (bt (bt (bt Pu4.out Pu5.out) Pu6.out) Pu7.out) Pu8.out) Pu9.out) Pu10.out) Pu11.out) Pu12.out) Pu13.out) Pu14.out) Pu15.out) Pu16.out) x.below)) HK3.out; rw [← hrb] at h; exact h
  have Q3 : Hid (∀ x : Bw u16, Calls Try.prog 46 #[vs, .int .i64 m, .agg #[.int .i64 y0, .int .i64 y1, .int .i64 y2, .int .i64 y3]] x.to fun e w' => e = .returned (.bool rb) ∧ Below x.to.heap.size x.to w') := fun x => by have h := qcRight_s ps vs m (y0, y1, y2, y3) x.to (HT3.out.below (bt (bt (bt (bt (bt (bt (bt (bt (bt (bt (bt (bt (bt Pu4.out Pu5.out) Pu6.out) Pu7.out) Pu8.out) Pu9.out) Pu10.out) Pu11.out) Pu12.out) Pu13.out) Pu14.out) Pu15.out) Pu16.out) x.below)).q (by have := HK3.out.1; rw [bks_len] at this; exact this) (bounds_i64 HN3.out).1 (bounds_i64 HN3.out).2 ⟨(bounds_i64 HX3.out.2.2.2).1, (bounds_i64 HX3.out.2.2.2).2⟩; rw [← hrb] at h; exact h
  clear hrb
  obtain ⟨⟨h0, h1, h2, h3⟩, hrh⟩ : ∃ q, q = higherT (s0, s1, s2, s3) (t0, t1, t2, t3) := ⟨_, rfl⟩
  have Q4 : Hid (∀ x : Bw u16, Calls Try.prog 47 #[.agg #[.int .i64 s0, .int .i64 s1, .int .i64 s2, .int .i64 s3], .agg #[.int .i64 t0, .int .i64 t1, .int .i64 t2, .int .i64 t3]] x.to fun e w' => e = .returned (.agg #[.int .i64 h0, .int .i64 h1, .int .i64 h2, .int .i64 h3]) ∧ Below x.to.heap.size x.to w') := fun x => by have h := higher_i (s0, s1, s2, s3) (t0, t1, t2, t3) x.to; rw [← hrh] at h; exact h
  have Q5 : Hid (∀ x : Bw u16, Calls Try.prog 48 #[.agg #[.int .i64 s0, .int .i64 s1, .int .i64 s2, .int .i64 s3], .agg #[.int .i64 t0, .int .i64 t1, .int .i64 t2, .int .i64 t3]] x.to fun e w' => e = .returned (.agg #[.int .i64 h0, .int .i64 h1, .int .i64 h2, .int .i64 h3]) ∧ Below x.to.heap.size x.to w') := fun x => by have h := higher_s (s0, s1, s2, s3) (t0, t1, t2, t3) x.to; rw [← hrh] at h; exact h
  clear hrh
  obtain ⟨rd, hrd⟩ : ∃ rd, rd = provenB lb (z0, z1, z2, z3) liars := ⟨_, rfl⟩
  have Q6 : Hid (∀ x : Bw u16, Calls Try.prog 34 #[vb, .agg #[.int .i64 z0, .int .i64 z1, .int .i64 z2, .int .i64 z3], .int .i64 liars] x.to fun e w' => e = .returned (.bool rd) ∧ Below x.to.heap.size x.to w') := fun x => by have h := proven_i lb vb (z0, z1, z2, z3) liars x.to (HR13.out.below (bt (bt (bt Pu14.out Pu15.out) Pu16.out) x.below)) HL13.out HZ13.out HLI.out.1 HLI.out.2; rw [← hrd] at h; exact h
  have Q7 : Hid (∀ x : Bw u16, Calls Try.prog 49 #[vb, .agg #[.int .i64 z0, .int .i64 z1, .int .i64 z2, .int .i64 z3], .int .i64 liars] x.to fun e w' => e = .returned (.bool rd) ∧ Below x.to.heap.size x.to w') := fun x => by have h := proven_s lb vb (z0, z1, z2, z3) liars x.to (HR13.out.below (bt (bt (bt Pu14.out Pu15.out) Pu16.out) x.below)) HL13.out; rw [← hrd] at h; exact h
  clear hrd
  obtain ⟨re, hre⟩ : ∃ re, re = countT ci := ⟨_, rfl⟩
  have Q8 : Hid (∀ x : Bw u16, Calls Try.prog 27 #[.int .i64 ci] x.to fun e w' => e = .returned (.int .i64 re) ∧ Below x.to.heap.size x.to w') := fun x => by have h := count_i ci HCI.out x.to; rw [← hre] at h; exact h
  have Q9 : Hid (∀ x : Bw u16, Calls Try.prog 50 #[.int .i64 ci] x.to fun e w' => e = .returned (.int .i64 re) ∧ w' = x.to) := fun x => by have h := count_s ci x.to (bounds_i64 HCI.out).1 (bounds_i64 HCI.out).2; rw [← hre] at h; exact h
  clear hre
  obtain ⟨rf, hrf⟩ : ∃ rf, rf = faultsT fy := ⟨_, rfl⟩
  have Q10 : Hid (∀ x : Bw u16, Calls Try.prog 29 #[.int .i64 fy] x.to fun e w' => e = .returned (.int .i64 rf) ∧ Below x.to.heap.size x.to w') := fun x => by have h := faults_i fy HFY.out x.to; rw [← hrf] at h; exact h
  have Q11 : Hid (∀ x : Bw u16, Calls Try.prog 51 #[.int .i64 fy] x.to fun e w' => e = .returned (.int .i64 rf) ∧ w' = x.to) := fun x => by have h := faults_s fy x.to (bounds_i64 HFY.out).1 (bounds_i64 HFY.out).2; rw [← hrf] at h; exact h
  clear hrf
  obtain ⟨rg, hrg⟩ : ∃ rg, rg = signersT l p vw bl := ⟨_, rfl⟩
  have Q12 : Hid (∀ x : Bw u16, Calls Try.prog 35 #[va, .int .i64 p, .int .i64 vw, .int .i64 bl] x.to fun e w' => e = .returned (.int .i64 rg) ∧ Below x.to.heap.size x.to w') := fun x => by have h := signers_i l va p HP5.out vw HV5.out bl HB5.out x.to (HR5.out.below (bt (bt (bt (bt (bt (bt (bt (bt (bt (bt (bt Pu6.out Pu7.out) Pu8.out) Pu9.out) Pu10.out) Pu11.out) Pu12.out) Pu13.out) Pu14.out) Pu15.out) Pu16.out) x.below)) HC5.out HL5.out; rw [← hrg] at h; exact h
  have Q13 : Hid (∀ x : Bw u16, Calls Try.prog 52 #[va, .int .i64 p, .int .i64 vw, .int .i64 bl] x.to fun e w' => e = .returned (.int .i64 rg) ∧ Below x.to.heap.size x.to w') := fun x => by have h := signers_s l va p vw bl x.to (HR5.out.below (bt (bt (bt (bt (bt (bt (bt (bt (bt (bt (bt Pu6.out Pu7.out) Pu8.out) Pu9.out) Pu10.out) Pu11.out) Pu12.out) Pu13.out) Pu14.out) Pu15.out) Pu16.out) x.below)) HL5.out; rw [← hrg] at h; exact h
  clear hrg
  have EC := eqQ (r0, r1, r2, r3) (r0, r1, r2, r3)
  rw [decide_eq_true rfl] at EC
  simp only at EC
  have EH := eqQ (h0, h1, h2, h3) (h0, h1, h2, h3)
  rw [decide_eq_true rfl] at EH
  simp only at EH
  go_wp2
  simp only [List.append]
  refine wp_region_bw (by kernel_rfl) (by kernel_rfl) ?_
  repeat (go_big_quiet_step (first | (go_at_call 44; with_reducible refine calls_bw (Q0.out _)) | (go_at_call 45; with_reducible refine calls_bw (Q1.out _)) | (go_at_call 33; with_reducible refine calls_bw (Q2.out _)) | (go_at_call 46; with_reducible refine calls_bw (Q3.out _)) | (go_at_call 47; with_reducible refine calls_bw (Q4.out _)) | (go_at_call 48; with_reducible refine calls_bw (Q5.out _)) | (go_at_call 34; with_reducible refine calls_bw (Q6.out _)) | (go_at_call 49; with_reducible refine calls_bw (Q7.out _)) | (go_at_call 27; with_reducible refine calls_bw (Q8.out _)) | (go_at_call 50; with_reducible refine calls_bw_same (Q9.out _)) | (go_at_call 29; with_reducible refine calls_bw (Q10.out _)) | (go_at_call 51; with_reducible refine calls_bw_same (Q11.out _)) | (go_at_call 35; with_reducible refine calls_bw (Q12.out _)) | (go_at_call 52; with_reducible refine calls_bw (Q13.out _))))
  refine wpQuiet_nil ?_
  intro _ hw'
  obtain ⟨x, rfl⟩ := hw'
  go_wp2
  go_ret
  exact ⟨rfl, bt (bt (bt (bt (bt (bt (bt (bt (bt (bt (bt (bt (bt (bt (bt (bt Pu1.out Pu2.out) Pu3.out) Pu4.out) Pu5.out) Pu6.out) Pu7.out) Pu8.out) Pu9.out) Pu10.out) Pu11.out) Pu12.out) Pu13.out) Pu14.out) Pu15.out) Pu16.out) x.below⟩

end Go.Proofs.Ytjdddcldbfhbiab.WFnCertsTold
