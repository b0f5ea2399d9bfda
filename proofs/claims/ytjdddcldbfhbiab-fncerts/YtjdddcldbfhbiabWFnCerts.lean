/-
  The walk of the law FnCerts: what enough signed is told so, by whom; with one more signer it is so, too; a vote that nobody gave is not proven.
-/
import Derived.Test.YtjdddcldbfhbiabVotesD
import Derived.Test.YtjdddcldbfhbiabCertN
import Derived.Test.YtjdddcldbfhbiabQcI
import Derived.OpenShut
namespace Go.Proofs.Ytjdddcldbfhbiab.WFnCerts
open Go.RowKit Num

set_option maxRecDepth 100000 in
theorem walk_big (w : World) (ao : Option Addr) (len cap : Nat) (h : (1048576 : Int) < len) :
    Calls Try.prog 6 #[.slice ao len cap] w fun e w' => e = .returned (.bool true) ∧ Below w.heap.size w w' := by
  go_enter Try.func6, Try.ntmps6
  go_wp2
  go_ret
  exact ⟨rfl, Below.refl _ _⟩
theorem big_no (w : World) (ao : Option Addr) (len cap : Nat) (h : (len : Int) ≤ 1048576) :
    Calls Try.prog 8 #[.slice ao len cap] w fun e w' => e = .returned (.bool false) ∧ w' = w := by
  go_enter Try.func8, Try.ntmps8
  go_wp2
  go_ret
  exact ⟨by simp; omega, rfl⟩

theorem said_len {l : List VT} {p v b k : Int} : saidV (l.take l.length) p v b k = saidV l p v b k := by rw [List.take_length]

set_option maxRecDepth 100000 in
set_option maxHeartbeats 16000000 in
theorem walk (w : World) (ao : Option Addr) (len cap b off : Nat) (hc : Code w ao len b off) :
    Calls Try.prog 6 #[.slice ao len cap] w fun e w' => e = .returned (.bool true) ∧ Below w.heap.size w w' := by
  have HC : Hid (Code w ao len b off) := hc
  have hle : (len : Int) ≤ 1048576 := by have := hc.le; omega
  have W0 : Hid ((Lit.int .i64 0).wf = true) := wf_of (by omega) (by omega)
  have W1 : Hid ((Lit.int .i64 1).wf = true) := wf_of (by omega) (by omega)
  have W4 : Hid ((Lit.int .i64 4).wf = true) := wf_of (by omega) (by omega)
  have F0 : Hid (fitQ (0, 0, 0, 0)) := ⟨by simp only; omega, by simp only; omega⟩
  clear hc
  go_enter Try.func6, Try.ntmps6
  go_wp2_with fail
  refine (big_no w ao len cap hle).mono ?_
  rintro e w0 ⟨rfl, hw⟩
  obtain rfl := hw.symm
  clear hw
  go_wp2_with fail
  refine (drawVotes_any HC.out).mono ?_
  rintro e w1 ⟨vt, qs, vv, l, rfl, hbt, hown, hl8, hvd, hov, B1⟩
  have HT : Hid (TreeR w1 vt qs) := hown.read
  have HK : Hid (okT (bks qs)) := hbt.ok (by omega)
  have HBT : Hid (BT (bks qs) 9) := hbt
  have HVD : Hid (∀ x ∈ l, VD (bks qs) x) := hvd
  have HR : Hid (RowsR w1 vv 4 voteF l) := rows_of_own voteF_len hov
  have HCP : Hid (capOk vv) := capOk_own hov
  have HL : Hid ((l.length : Int) ≤ 1048576) := (by omega : (l.length : Int) ≤ 1048576)
  obtain ⟨a2, c2, h4, _⟩ := own_form hov
  subst h4
  clear hbt hown hvd hov HC
  by_cases hz : l.length = 0
  · have d0 : ((l.length : Int) == 0) = true := by simp [hz]
    have HNL : Hid (l = []) := List.eq_nil_of_length_eq_zero hz
    clear hz
    go_wp2_with fail
    refine (qcOf_i l _ 1 W1.out 1 W1.out 1 W1.out 4 W4.out w1 HR.out HCP.out HL.out).mono ?_
    rintro e w2 ⟨rfl, hb2⟩
    have HQ : Hid (qcOfT l 1 1 1 4 = ((0, 0, 0, 0), false)) := (by rw [HNL.out]; exact qcOf_none 1 1 1 : qcOfT l 1 1 1 4 = ((0, 0, 0, 0), false))
    rw [HQ.out]
    unfold qcVal
    simp only
    have B2 : Below w1.heap.size w1 (w2.alloc (.cells #[.int .i64 0, .int .i64 0, .int .i64 0, .int .i64 0] 31)) := ba hb2 _
    clear hb2
    go_wp2_with fail
    refine (qcRight_i qs vt 4 W4.out (0, 0, 0, 0) ⟨W0.out, W0.out, W0.out, W0.out⟩ _ (HT.out.below B2) HK.out).mono ?_
    rintro e w3 ⟨rfl, hb3⟩
    have B3 : Below w1.heap.size w1 w3 := bt B2 hb3
    have HQ1 : Hid (qcRightB (bks qs) 4 (0, 0, 0, 0) = true) := if_pos rfl
    rw [HQ1.out]
    clear hb3 B2
    go_wp2_with fail
    refine (proven_i l _ (0, 0, 0, 0) 0 w3 (HR.out.below B3) HL.out F0.out (by omega) (by omega)).mono ?_
    rintro e w4 ⟨rfl, hb4⟩
    have HQ2 : Hid (provenB l (0, 0, 0, 0) 0 = true) := if_pos rfl
    rw [HQ2.out]
    have B4 : Below w.heap.size w w4 := bt B1 (bt B3 hb4)
    go_wp2
    go_ret
    exact ⟨rfl, B4⟩
  · have d0 : ((l.length : Int) == 0) = false := by simpa using hz
    have hlp : 0 < l.length := by omega
    obtain ⟨g, og, hag, hg, hcs⟩ : ∃ g og, a2 = some ⟨g, og, none⟩ ∧ g < w1.heap.size ∧ ∀ i (h : i < l.length) j, j < 4 → w1.cell? ⟨g, og + i * 4 + j, none⟩ = (voteF l[i])[j]? := by
      obtain ⟨a, cp, e1, hr⟩ := HR.out
      cases e1
      exact hr hlp
    subst hag
    have HCS : Hid (∀ i (h : i < l.length) j, j < 4 → w1.cell? ⟨g, og + i * 4 + j, none⟩ = (voteF l[i])[j]?) := hcs
    clear hcs
    obtain ⟨x, hx⟩ : ∃ x, x = l[0] := ⟨_, rfl⟩
    have HX0 : Hid (VD (bks qs) x) := (by rw [hx]; exact HVD.out _ (List.getElem_mem hlp) : VD (bks qs) x)
    have HWF : Hid (wfV x) := HX0.out.wf (by have := HBT.out.2.1; omega)
    obtain ⟨p, vw, bl, by'⟩ := x
    have c0 : w1.cell? ⟨g, og, none⟩ = some (.int .i64 p) := by have := HCS.out 0 hlp 0 (by omega); rw [← hx] at this; simpa [voteF] using this
    have c1 : w1.cell? ⟨g, og + 1, none⟩ = some (.int .i64 vw) := by have := HCS.out 0 hlp 1 (by omega); rw [← hx] at this; simpa [voteF] using this
    have c2' : w1.cell? ⟨g, og + 2, none⟩ = some (.int .i64 bl) := by have := HCS.out 0 hlp 2 (by omega); rw [← hx] at this; simpa [voteF] using this
    have c3 : w1.cell? ⟨g, og + 3, none⟩ = some (.int .i64 by') := by have := HCS.out 0 hlp 3 (by omega); rw [← hx] at this; simpa [voteF] using this
    have q1 : (0 : Int) < (l.length : Int) := by omega
    obtain ⟨W7, hW7⟩ : ∃ W7, W7 = w1.alloc (.cells #[.int .i64 p, .int .i64 vw, .int .i64 bl, .int .i64 by'] 54) := ⟨_, rfl⟩
    have HB7 : Hid (Below w1.heap.size w1 W7) := (by rw [hW7]; exact ba (Below.refl _ _) _ : Below w1.heap.size w1 W7)
    have HK7 : Hid (W7.heap[w1.heap.size]? = some (.cells #[.int .i64 p, .int .i64 vw, .int .i64 bl, .int .i64 by'] 54 (0, 0))) := (by rw [hW7]; exact heap_alloc_new w1 _ : W7.heap[w1.heap.size]? = _)
    have l7 : w1.heap.size < W7.heap.size := (Array.getElem?_eq_some_iff.1 HK7.out).1
    clear hx
    go_wp2_with fail
    rw [← hW7]
    clear hW7 c0 c1 c2' c3
    refine (signers_i l _ p HWF.out.1 vw HWF.out.2.1 bl HWF.out.2.2.1 W7 (HR.out.below HB7.out) HCP.out HL.out).mono ?_
    rintro e w3 ⟨rfl, hb3⟩
    have HB3 : Hid (Below w1.heap.size w1 w3) := bt HB7.out hb3
    have HK3 : Hid (w3.heap[w1.heap.size]? = some (.cells #[.int .i64 p, .int .i64 vw, .int .i64 bl, .int .i64 by'] 54 (0, 0))) := (hb3.block _ l7).trans HK7.out
    have l3 : w1.heap.size < w3.heap.size := (Array.getElem?_eq_some_iff.1 HK3.out).1
    obtain ⟨y0, y1, y2, _⟩ := vote_cells HK3.out
    clear hb3 HB7 HK7 l7
    obtain ⟨s0, s1⟩ := signersT_bounds l p vw bl
    obtain ⟨s, hs⟩ : ∃ s, s = signersT l p vw bl := ⟨_, rfl⟩
    have HS : Hid (signersT l p vw bl = s) := hs.symm
    rw [← hs] at s0 s1 ⊢
    clear hs
    go_wp2_with fail
    clear y0 y1 y2
    refine (qcOf_i l _ p HWF.out.1 vw HWF.out.2.1 bl HWF.out.2.2.1 4 W4.out w3 (HR.out.below HB3.out) HCP.out HL.out).mono ?_
    rintro e w4 ⟨rfl, hb4⟩
    have HQ4 : Hid (qcOfT l p vw bl 4 = if 3 ≤ countT s then ((p, vw, bl, s), true) else ((0, 0, 0, 0), false)) := (by rw [qcOf_four, HS.out] : qcOfT l p vw bl 4 = _)
    obtain ⟨⟨⟨r0, r1, r2, r3⟩, ok⟩, hr⟩ : ∃ r, r = qcOfT l p vw bl 4 := ⟨_, rfl⟩
    have HRR : Hid (((r0, r1, r2, r3), ok) = if 3 ≤ countT s then ((p, vw, bl, s), true) else ((0, 0, 0, 0), false)) := (by rw [hr]; exact HQ4.out : ((r0, r1, r2, r3), ok) = _)
    rw [← hr]
    unfold qcVal
    simp only
    clear hr HQ4
    obtain ⟨W9, hW9⟩ : ∃ W9, W9 = w4.alloc (.cells #[.int .i64 r0, .int .i64 r1, .int .i64 r2, .int .i64 r3] 31) := ⟨_, rfl⟩
    have HB49 : Hid (Below w4.heap.size w4 W9) := (by rw [hW9]; exact ba (Below.refl _ _) _ : Below w4.heap.size w4 W9)
    have HB9 : Hid (Below w1.heap.size w1 W9) := bt (bt HB3.out hb4) HB49.out
    have HK9 : Hid (W9.heap[w1.heap.size]? = some (.cells #[.int .i64 p, .int .i64 vw, .int .i64 bl, .int .i64 by'] 54 (0, 0))) := ((bt hb4 HB49.out).block _ l3).trans HK3.out
    have HQ9 : Hid (W9.heap[w4.heap.size]? = some (.cells #[.int .i64 r0, .int .i64 r1, .int .i64 r2, .int .i64 r3] 31 (0, 0))) := (by rw [hW9]; exact heap_alloc_new w4 _ : W9.heap[w4.heap.size]? = _)
    have l9 : w1.heap.size < W9.heap.size := (Array.getElem?_eq_some_iff.1 HK9.out).1
    have lq9 : w4.heap.size < W9.heap.size := (Array.getElem?_eq_some_iff.1 HQ9.out).1
    obtain ⟨N, hN⟩ : ∃ N, N = w4.heap.size := ⟨_, rfl⟩
    obtain ⟨M, hM⟩ : ∃ M, M = w1.heap.size := ⟨_, rfl⟩
    have HV : Hid (∀ w', Below W9.heap.size W9 w' → w'.cell? ⟨M, 0, none⟩ = some (.int .i64 p) ∧ w'.cell? ⟨M, 1, none⟩ = some (.int .i64 vw) ∧ w'.cell? ⟨M, 2, none⟩ = some (.int .i64 bl) ∧ w'.cell? ⟨M, 3, none⟩ = some (.int .i64 by')) := fun w' h' => by rw [hM]; exact vote_cells ((h'.block _ l9).trans HK9.out)
    have HQV : Hid (∀ w', Below W9.heap.size W9 w' → w'.cell? ⟨N, 0, none⟩ = some (.int .i64 r0) ∧ w'.cell? ⟨N, 1, none⟩ = some (.int .i64 r1) ∧ w'.cell? ⟨N, 2, none⟩ = some (.int .i64 r2) ∧ w'.cell? ⟨N, 3, none⟩ = some (.int .i64 r3)) := fun w' h' => by rw [hN]; exact vote_cells ((h'.block _ lq9).trans HQ9.out)
    go_wp2
    rw [← hW9, ← hN, ← hM]
    clear hW9 hN hM hb4 HB3 HK3 l3 HB49 HK9 HQ9
    go_loopw [11] (fun i wr => ∃ k : Nat, k ≤ 7 ∧ i = .int .i64 (k : Int) ∧ Below W9.heap.size W9 wr) (fun i _ => 7 - (intOf i).toNat)
    case atStart => exact ⟨0, by omega, rfl, Below.refl _ _⟩
    case round =>
      obtain ⟨k, hk, rfl, hbel⟩ := hrel
      by_cases hlt : (k : Int) < 7
      · have HSB : Hid (((s / 2 ^ k).tmod 2 == 1) = saidV l p vw bl (k : Int)) := (by rw [← HS.out]; exact said_bit l p vw bl (by omega) : ((s / 2 ^ k).tmod 2 == 1) = saidV l p vw bl (k : Int))
        go_wp2
        go_loopw [12, 13] (fun t i wq => ∃ m : Nat, m ≤ l.length ∧ t = .bool (saidV (l.take m) p vw bl (k : Int)) ∧ i = .int .i64 (m : Int) ∧ Below W9.heap.size W9 wq) (fun _ i _ => l.length - (intOf i).toNat)
        case atStart => exact ⟨0, Nat.zero_le _, rfl, rfl, hbel⟩
        case round =>
          obtain ⟨m, hm, rfl, rfl, hbm⟩ := hrel
          clear hbel
          by_cases hml : (m : Int) < l.length
          · have hmn : m < l.length := by omega
            have q0 : (0 : Int) ≤ (m : Int) := by omega
            obtain ⟨x, hx⟩ : ∃ x, x = l[m] := ⟨_, rfl⟩
            have HTK : Hid (saidV (l.take (m + 1)) p vw bl (k : Int) = (saidV (l.take m) p vw bl (k : Int) || saidAt x p vw bl (k : Int))) := (by rw [said_take hmn, hx] : _ = _)
            obtain ⟨x0, x1, x2, x3⟩ := x
            have hbw : Below w1.heap.size w1 wr := bt HB9.out hbm
            have c0 : wr.cell? ⟨g, og + m * 4, none⟩ = some (.int .i64 x0) := by rw [hbw.cell (by exact hg)]; have := HCS.out m hmn 0 (by omega); rw [← hx] at this; exact this
            have c1 : wr.cell? ⟨g, og + m * 4 + 1, none⟩ = some (.int .i64 x1) := by rw [hbw.cell (by exact hg)]; have := HCS.out m hmn 1 (by omega); rw [← hx] at this; exact this
            have c2' : wr.cell? ⟨g, og + m * 4 + 2, none⟩ = some (.int .i64 x2) := by rw [hbw.cell (by exact hg)]; have := HCS.out m hmn 2 (by omega); rw [← hx] at this; exact this
            have c3 : wr.cell? ⟨g, og + m * 4 + 3, none⟩ = some (.int .i64 x3) := by rw [hbw.cell (by exact hg)]; have := HCS.out m hmn 3 (by omega); rw [← hx] at this; exact this
            have HBX : Hid (Below W9.heap.size W9 (wr.alloc (.cells #[.int .i64 x0, .int .i64 x1, .int .i64 x2, .int .i64 x3] 54))) := ba hbm _
            obtain ⟨z0, z1, z2, _⟩ := HV.out _ HBX.out
            clear hx hbw hbm
            cases ht : saidV (l.take m) p vw bl (k : Int) with
            | true =>
              have HE : Hid (saidV (l.take (m + 1)) p vw bl (k : Int) = true) := (by rw [HTK.out, ht]; rfl : _ = true)
              clear ht HTK
              go_wp2
              go_roundw
              case rel => exact ⟨m + 1, by omega, by rw [HE.out], by go_num, HBX.out⟩
              case measure => simp [intOf]; omega
            | false =>
              have HE : Hid (saidV (l.take (m + 1)) p vw bl (k : Int) = saidAt (x0, x1, x2, x3) p vw bl (k : Int)) := (by rw [HTK.out, ht]; rfl : _ = saidAt (x0, x1, x2, x3) p vw bl (k : Int))
              clear ht HTK
              by_cases h3 : x3 = (k : Int)
              · have d3 : (x3 == (k : Int)) = true := by simpa using h3
                by_cases h0 : x0 = p
                · have e0 : (x0 == p) = true := by simpa using h0
                  by_cases h1 : x1 = vw
                  · have e1 : (x1 == vw) = true := by simpa using h1
                    by_cases h2 : x2 = bl
                    · have e2 : (x2 == bl) = true := by simpa using h2
                      have HF : Hid (saidV (l.take (m + 1)) p vw bl (k : Int) = true) := (by rw [HE.out]; unfold saidAt; simp [h0, h1, h2, h3] : _ = true)
                      clear h0 h1 h2 h3
                      go_wp2
                      go_roundw
                      case rel => exact ⟨m + 1, by omega, by rw [HF.out], by go_num, HBX.out⟩
                      case measure => simp [intOf]; omega
                    · have e2 : (x2 == bl) = false := by simpa using h2
                      have HF : Hid (saidV (l.take (m + 1)) p vw bl (k : Int) = false) := (by rw [HE.out]; unfold saidAt; simp [h2] : _ = false)
                      clear h0 h1 h2 h3
                      go_wp2
                      go_roundw
                      case rel => exact ⟨m + 1, by omega, by rw [HF.out], by go_num, HBX.out⟩
                      case measure => simp [intOf]; omega
                  · have e1 : (x1 == vw) = false := by simpa using h1
                    have HF : Hid (saidV (l.take (m + 1)) p vw bl (k : Int) = false) := (by rw [HE.out]; unfold saidAt; simp [h1] : _ = false)
                    clear h0 h1 h3
                    go_wp2
                    go_roundw
                    case rel => exact ⟨m + 1, by omega, by rw [HF.out], by go_num, HBX.out⟩
                    case measure => simp [intOf]; omega
                · have e0 : (x0 == p) = false := by simpa using h0
                  have HF : Hid (saidV (l.take (m + 1)) p vw bl (k : Int) = false) := (by rw [HE.out]; unfold saidAt; simp [h0] : _ = false)
                  clear h0 h3
                  go_wp2
                  go_roundw
                  case rel => exact ⟨m + 1, by omega, by rw [HF.out], by go_num, HBX.out⟩
                  case measure => simp [intOf]; omega
              · have d3 : (x3 == (k : Int)) = false := by simpa using h3
                have HF : Hid (saidV (l.take (m + 1)) p vw bl (k : Int) = false) := (by rw [HE.out]; unfold saidAt; simp [h3] : _ = false)
                clear h3
                go_wp2
                go_roundw
                case rel => exact ⟨m + 1, by omega, by rw [HF.out], by go_num, HBX.out⟩
                case measure => simp [intOf]; omega
          · have hml2 : m = l.length := by omega
            subst hml2
            rw [said_len]
            cases ht : saidV l p vw bl (k : Int) with
            | true =>
              have e1 : ((s / 2 ^ k).tmod 2 == 1) = true := HSB.out.trans ht
              clear ht
              go_wp2
              go_roundw
              case rel => exact ⟨k + 1, by omega, by go_num, hbm⟩
              case measure => simp [intOf]; omega
            | false =>
              have e1 : ((s / 2 ^ k).tmod 2 == 1) = false := HSB.out.trans ht
              clear ht
              go_wp2
              go_roundw
              case rel => exact ⟨k + 1, by omega, by go_num, hbm⟩
              case measure => simp [intOf]; omega
      · clear HBT
        have WS : Hid ((Lit.int .i64 s).wf = true) := wf_of (by omega) (by omega)
        go_wp2_with fail
        refine (count_i s WS.out wr).mono ?_
        rintro e w5 ⟨rfl, hb5⟩
        have B5 : Below W9.heap.size W9 w5 := bt hbel hb5
        obtain ⟨c, hc⟩ : ∃ c, c = countT s := ⟨_, rfl⟩
        have HCC : Hid (countT s = c) := hc.symm
        rw [← hc]
        clear hc hb5 hbel
        by_cases h3 : 3 ≤ c
        · have he : ((p, vw, bl, s), true) = ((r0, r1, r2, r3), ok) := by rw [HRR.out, HCC.out, if_pos h3]
          simp only [Prod.mk.injEq] at he
          obtain ⟨⟨rfl, rfl, rfl, rfl⟩, rfl⟩ := he
          have dn : (s != s) = false := by simp
          have HPS : Hid (provenB l (p, vw, bl, s) 0 = true) := (by have := proven_self l p vw bl; rw [HS.out] at this; exact this : _ = true)
          have HFS : Hid (fitQ (p, vw, bl, s)) := ⟨by simp only; omega, by simp only; omega⟩
          obtain ⟨y0, y1, y2, y3⟩ := HQV.out w5 B5
          go_wp2_with fail
          clear y0 y1 y2 y3 dn h3
          refine (proven_i l _ (p, vw, bl, s) 0 w5 (HR.out.below (bt HB9.out B5)) HL.out HFS.out (by omega) (by omega)).mono ?_
          rintro e w6 ⟨rfl, hb6⟩
          rw [HPS.out]
          have BX : Below W9.heap.size W9 w6 := bt B5 hb6
          clear hb6 B5
          obtain ⟨z0, z1, z2, _⟩ := HV.out w6 BX
          obtain ⟨V, hV⟩ : ∃ V, V = w6.alloc (.cells #[.int .i64 p, .int .i64 vw, .int .i64 bl, .int .i64 (bits .or .i64 s 64)] 31) := ⟨_, rfl⟩
          have HBV : Hid (Below w6.heap.size w6 V) := (by rw [hV]; exact ba (Below.refl _ _) _ : Below w6.heap.size w6 V)
          have HKV : Hid (V.heap[w6.heap.size]? = some (.cells #[.int .i64 p, .int .i64 vw, .int .i64 bl, .int .i64 (bits .or .i64 s 64)] 31 (0, 0))) := (by rw [hV]; exact heap_alloc_new w6 _ : V.heap[w6.heap.size]? = _)
          have lV : w6.heap.size < V.heap.size := (Array.getElem?_eq_some_iff.1 HKV.out).1
          have HB1V : Hid (Below w1.heap.size w1 V) := bt (bt HB9.out BX) HBV.out
          have zV : V.cell? ⟨M, 1, none⟩ = some (.int .i64 vw) := (HV.out V (bt BX HBV.out)).2.1
          rw [hV] at zV
          by_cases hv0 : vw = 0
          · have ev : (vw == 0) = true := by simpa using hv0
            clear hv0
            go_wp2
            go_ret
            rw [← hV]
            exact ⟨rfl, bt B1 HB1V.out⟩
          · have ev : (vw == 0) = false := by simpa using hv0
            have HP1 : Hid (provenB l (p, vw, bl, bits .or .i64 s 64) 64 = true) := (by have := proven_more (l := l) (p := p) (b := bl) hv0; rw [HS.out] at this; exact this : _ = true)
            have HP2 : Hid (provenB l (p, vw, bl, bits .or .i64 s 64) 0 = decide (s / 64 = 1)) := (by have := proven_bad (l := l) (p := p) (b := bl) hv0; rw [HS.out] at this; exact this : _ = decide (s / 64 = 1))
            have HFQ : Hid (fitQ (p, vw, bl, bits .or .i64 s 64)) := (by have := more_range l p vw bl; rw [HS.out] at this; exact ⟨by simp only; omega, by simp only; omega⟩ : fitQ (p, vw, bl, bits .or .i64 s 64))
            clear hv0
            go_wp2_with fail
            rw [← hV]
            clear hV zV z0 z1 z2
            refine (proven_i l _ (p, vw, bl, bits .or .i64 s 64) 64 V (HR.out.below HB1V.out) HL.out HFQ.out (by omega) (by omega)).mono ?_
            rintro e w11 ⟨rfl, hb11⟩
            have HB11 : Hid (Below w1.heap.size w1 w11) := bt HB1V.out hb11
            obtain ⟨k0, k1, k2, k3⟩ := vote_cells ((hb11.block _ lV).trans HKV.out)
            clear hb11
            rw [HP1.out]
            go_wp2_with fail
            clear k0 k1 k2 k3
            refine (proven_i l _ (p, vw, bl, bits .or .i64 s 64) 0 w11 (HR.out.below HB11.out) HL.out HFQ.out (by omega) (by omega)).mono ?_
            rintro e w12 ⟨rfl, hb12⟩
            have B12 : Below w.heap.size w w12 := bt B1 (bt HB11.out hb12)
            clear hb12
            rw [HP2.out]
            by_cases h6 : s / 64 = 1
            · have e6 : (s / 64 == 1) = true := by simpa using h6
              have e7 : decide (s / 64 = 1) = true := decide_eq_true h6
              rw [e7]
              go_wp2
              go_ret
              exact ⟨rfl, B12⟩
            · have e6 : (s / 64 == 1) = false := by simpa using h6
              have e7 : decide (s / 64 = 1) = false := decide_eq_false h6
              rw [e7]
              clear h6
              go_wp2
              go_ret
              exact ⟨rfl, B12⟩
        · have he : ((0, 0, 0, 0), false) = (((r0, r1, r2, r3), ok) : QC × Bool) := by rw [HRR.out, HCC.out, if_neg h3]
          simp only [Prod.mk.injEq] at he
          obtain ⟨⟨rfl, rfl, rfl, rfl⟩, rfl⟩ := he
          have d3 : decide (3 ≤ c) = false := decide_eq_false h3
          have BX : Below W9.heap.size W9 w5 := B5
          clear B5 h3
          obtain ⟨z0, z1, z2, _⟩ := HV.out w5 BX
          obtain ⟨V, hV⟩ : ∃ V, V = w5.alloc (.cells #[.int .i64 p, .int .i64 vw, .int .i64 bl, .int .i64 (bits .or .i64 s 64)] 31) := ⟨_, rfl⟩
          have HBV : Hid (Below w5.heap.size w5 V) := (by rw [hV]; exact ba (Below.refl _ _) _ : Below w5.heap.size w5 V)
          have HKV : Hid (V.heap[w5.heap.size]? = some (.cells #[.int .i64 p, .int .i64 vw, .int .i64 bl, .int .i64 (bits .or .i64 s 64)] 31 (0, 0))) := (by rw [hV]; exact heap_alloc_new w5 _ : V.heap[w5.heap.size]? = _)
          have lV : w5.heap.size < V.heap.size := (Array.getElem?_eq_some_iff.1 HKV.out).1
          have HB1V : Hid (Below w1.heap.size w1 V) := bt (bt HB9.out BX) HBV.out
          have zV : V.cell? ⟨M, 1, none⟩ = some (.int .i64 vw) := (HV.out V (bt BX HBV.out)).2.1
          rw [hV] at zV
          by_cases hv0 : vw = 0
          · have ev : (vw == 0) = true := by simpa using hv0
            clear hv0
            go_wp2
            go_ret
            rw [← hV]
            exact ⟨rfl, bt B1 HB1V.out⟩
          · have ev : (vw == 0) = false := by simpa using hv0
            have HP1 : Hid (provenB l (p, vw, bl, bits .or .i64 s 64) 64 = true) := (by have := proven_more (l := l) (p := p) (b := bl) hv0; rw [HS.out] at this; exact this : _ = true)
            have HP2 : Hid (provenB l (p, vw, bl, bits .or .i64 s 64) 0 = decide (s / 64 = 1)) := (by have := proven_bad (l := l) (p := p) (b := bl) hv0; rw [HS.out] at this; exact this : _ = decide (s / 64 = 1))
            have HFQ : Hid (fitQ (p, vw, bl, bits .or .i64 s 64)) := (by have := more_range l p vw bl; rw [HS.out] at this; exact ⟨by simp only; omega, by simp only; omega⟩ : fitQ (p, vw, bl, bits .or .i64 s 64))
            clear hv0
            go_wp2_with fail
            rw [← hV]
            clear hV zV z0 z1 z2
            refine (proven_i l _ (p, vw, bl, bits .or .i64 s 64) 64 V (HR.out.below HB1V.out) HL.out HFQ.out (by omega) (by omega)).mono ?_
            rintro e w11 ⟨rfl, hb11⟩
            have HB11 : Hid (Below w1.heap.size w1 w11) := bt HB1V.out hb11
            obtain ⟨k0, k1, k2, k3⟩ := vote_cells ((hb11.block _ lV).trans HKV.out)
            clear hb11
            rw [HP1.out]
            go_wp2_with fail
            clear k0 k1 k2 k3
            refine (proven_i l _ (p, vw, bl, bits .or .i64 s 64) 0 w11 (HR.out.below HB11.out) HL.out HFQ.out (by omega) (by omega)).mono ?_
            rintro e w12 ⟨rfl, hb12⟩
            have B12 : Below w.heap.size w w12 := bt B1 (bt HB11.out hb12)
            clear hb12
            rw [HP2.out]
            by_cases h6 : s / 64 = 1
            · have e6 : (s / 64 == 1) = true := by simpa using h6
              have e7 : decide (s / 64 = 1) = true := decide_eq_true h6
              rw [e7]
              go_wp2
              go_ret
              exact ⟨rfl, B12⟩
            · have e6 : (s / 64 == 1) = false := by simpa using h6
              have e7 : decide (s / 64 = 1) = false := decide_eq_false h6
              rw [e7]
              clear h6
              go_wp2
              go_ret
              exact ⟨rfl, B12⟩

end Go.Proofs.Ytjdddcldbfhbiab.WFnCerts
