/-
  The walk of the law FnQuorums: any two sets that are enough have more in common than may lie; all but those who may lie are enough; who leads.
-/
import Derived.Test.YtfnneillakdopabQuorN
import Derived.Test.YtfnneillakdopabQcS
import Derived.Test.YtfnneillakdopabDrawB3
import Derived.OpenShut
namespace Go.Proofs.Ytfnneillakdopab.WFnQuorums
open Go.RowKit Num

set_option maxRecDepth 100000 in
theorem walk_big (w : World) (ao : Option Addr) (len cap : Nat) (h : (1048576 : Int) < len) :
    Calls Try.prog 5 #[.slice ao len cap] w fun e w' => e = .returned (.bool true) ∧ Below w.heap.size w w' := by
  go_enter Try.func5, Try.ntmps5
  go_wp2
  go_ret
  exact ⟨rfl, Below.refl _ _⟩
theorem big_no (w : World) (ao : Option Addr) (len cap : Nat) (h : (len : Int) ≤ 1048576) :
    Calls Try.prog 8 #[.slice ao len cap] w fun e w' => e = .returned (.bool false) ∧ w' = w := by
  go_enter Try.func8, Try.ntmps8
  go_wp2
  go_ret
  exact ⟨by simp; omega, rfl⟩

theorem fits {x : Int} (h0 : -9223372036854775808 ≤ x) (h1 : x ≤ 9223372036854775807) : (Lit.int .i64 x).wf = true := by
  have := wrap64_wf x
  rw [wrap64_fit h0 h1] at this
  exact this

set_option maxRecDepth 100000 in
set_option maxHeartbeats 16000000 in
theorem walk_of (HC : ∀ (s : Int) (_ : (Lit.int .i64 s).wf = true) (w : World), Calls Try.prog 27 #[.int .i64 s] w fun e w' => e = .returned (.int .i64 (countT s)) ∧ Below w.heap.size w w')
    (HQ : ∀ (n : Int) (_ : (Lit.int .i64 n).wf = true) (w : World), Calls Try.prog 28 #[.int .i64 n] w fun e w' => e = .returned (.int .i64 (quorumT n)) ∧ Below w.heap.size w w')
    (HF : ∀ (n : Int) (_ : (Lit.int .i64 n).wf = true) (w : World), Calls Try.prog 29 #[.int .i64 n] w fun e w' => e = .returned (.int .i64 (faultsT n)) ∧ Below w.heap.size w w')
    (HL : ∀ (v : Int) (_ : (Lit.int .i64 v).wf = true) (n : Int) (_ : (Lit.int .i64 n).wf = true) (w : World), Calls Try.prog 30 #[.int .i64 v, .int .i64 n] w fun e w' => e = .returned (.int .i64 (leaderT v n)) ∧ Below w.heap.size w w')
    (w : World) (ao : Option Addr) (len cap b off : Nat) (hc : Code w ao len b off) :
    Calls Try.prog 5 #[.slice ao len cap] w fun e w' => e = .returned (.bool true) ∧ Below w.heap.size w w' := by
  have HC0 : Hid (Code w ao len b off) := hc
  have hle : (len : Int) ≤ 1048576 := by have := hc.le; omega
  clear hc
  go_enter Try.func5, Try.ntmps5
  go_wp2_with fail
  refine (big_no w ao len cap hle).mono ?_
  rintro e w0 ⟨rfl, hw⟩
  obtain rfl := hw.symm
  clear hw
  go_wp2_with fail
  refine (drawPlaces_any HC0.out).mono ?_
  rintro e w2 ⟨v2, xs, rfl, hxl, hxs, hown2, B2⟩
  obtain ⟨a2, c2, h4, hz⟩ := own_form hown2
  subst h4
  obtain ⟨g2, rfl⟩ := hz (by omega)
  have HX : Hid (∀ w', Below w2.heap.size w2 w' → ∀ j (h : j < 12), w'.cell? ⟨g2, j, none⟩ = some (.int .i64 (xs[j]'(by omega)))) := fun w' h' j hj => by
    rw [(own_cell (own_kept hown2 h') j (by omega)).1]
    have := flatR_at intF_len xs j (by omega) 0 (by omega)
    simpa [intF] using this
  have HR : Hid (∀ j (h : j < 12), (0 : Int) ≤ xs[j]'(by omega) ∧ xs[j]'(by omega) < (10000 : Int)) := fun j hj => hxs _ (List.getElem_mem _)
  have hx12 : (xs.length : Int) = 12 := by omega
  obtain ⟨p0, hp0⟩ : ∃ p, p = xs[0]'(by omega) := ⟨_, rfl⟩
  obtain ⟨p1, hp1⟩ : ∃ p, p = xs[1]'(by omega) := ⟨_, rfl⟩
  obtain ⟨p2, hp2⟩ : ∃ p, p = xs[2]'(by omega) := ⟨_, rfl⟩
  obtain ⟨p3, hp3⟩ : ∃ p, p = xs[3]'(by omega) := ⟨_, rfl⟩
  have x0 : w2.cell? ⟨g2, 0, none⟩ = some (.int .i64 p0) := by rw [hp0]; exact HX.out w2 (Below.refl _ _) 0 (by omega)
  have x1 : w2.cell? ⟨g2, 1, none⟩ = some (.int .i64 p1) := by rw [hp1]; exact HX.out w2 (Below.refl _ _) 1 (by omega)
  have x2 : w2.cell? ⟨g2, 2, none⟩ = some (.int .i64 p2) := by rw [hp2]; exact HX.out w2 (Below.refl _ _) 2 (by omega)
  have HX3 : Hid (∀ w', Below w2.heap.size w2 w' → w'.cell? ⟨g2, 3, none⟩ = some (.int .i64 p3)) := fun w' h' => by rw [hp3]; exact HX.out w' h' 3 (by omega)
  have r0 : 0 ≤ p0 ∧ p0 < 10000 := by rw [hp0]; exact HR.out 0 (by omega)
  have r1 : 0 ≤ p1 ∧ p1 < 10000 := by rw [hp1]; exact HR.out 1 (by omega)
  have r2 : 0 ≤ p2 ∧ p2 < 10000 := by rw [hp2]; exact HR.out 2 (by omega)
  have r3 : 0 ≤ p3 ∧ p3 < 10000 := by rw [hp3]; exact HR.out 3 (by omega)
  obtain ⟨r00, r01⟩ := r0
  obtain ⟨r10, r11⟩ := r1
  obtain ⟨r20, r21⟩ := r2
  clear hp0 hp1 hp2 hp3 HX HR hown2 hxs hxl hz
  obtain ⟨m, hm⟩ := Int.eq_ofNat_of_zero_le (show 0 ≤ 1 + p0 % 7 by omega)
  have hm1 : 1 ≤ m := by omega
  have hm7 : m ≤ 7 := by omega
  obtain ⟨w0, w1⟩ := pow_peers (n := m) hm7
  have hne : (2 : Int) ^ m ≠ 0 := by omega
  obtain ⟨a, ha⟩ : ∃ a, p1 % (2 : Int) ^ m = a := ⟨_, rfl⟩
  obtain ⟨b, hb⟩ : ∃ b, p2 % (2 : Int) ^ m = b := ⟨_, rfl⟩
  have a0 : 0 ≤ a := by rw [← ha]; exact Int.emod_nonneg _ hne
  have a1 : a < (2 : Int) ^ m := by rw [← ha]; exact Int.emod_lt_of_pos _ (by omega)
  have b0 : 0 ≤ b := by rw [← hb]; exact Int.emod_nonneg _ hne
  have b1 : b < (2 : Int) ^ m := by rw [← hb]; exact Int.emod_lt_of_pos _ (by omega)
  go_wp2
  rw [ha, hb]
  clear ha hb hm x0 x1 x2 r00 r01 r10 r11 r20 r21 hne
  go_loop [7, 8] (fun c i => ∃ k : Nat, k ≤ m ∧ c = .int .i64 (bothTo a b k) ∧ i = .int .i64 (k : Int)) (fun _ i => m - (intOf i).toNat)
  case atStart => exact ⟨0, Nat.zero_le _, rfl, rfl⟩
  case round =>
    obtain ⟨k, hk, rfl, rfl⟩ := hrel
    obtain ⟨s0, s1⟩ := bothTo_bounds a b k
    by_cases hlt : (k : Int) < m
    · have e1 := shr_bit a0 k
      have e2 := shr_bit b0 k
      have g1 : a / 2 ^ k % 2 = bitT a k := rfl
      have g2 : b / 2 ^ k % 2 = bitT b k := rfl
      have c1 := bitT_cases a k
      have c2 := bitT_cases b k
      by_cases h1 : bitT a k = 1
      · by_cases h2 : bitT b k = 1
        · have HE : Hid (bothTo a b (k + 1) = bothTo a b k + 1) := (by show _ + (if _ then _ else _) = _; rw [if_pos ⟨h1, h2⟩] : bothTo a b (k + 1) = bothTo a b k + 1)
          rw [h1] at e1 g1
          rw [h2] at e2 g2
          clear c1 c2 h1 h2
          go_wp2
          go_round
          case rel => exact ⟨k + 1, by omega, by rw [HE.out], by go_num⟩
          case measure => simp [intOf]; omega
        · have HE : Hid (bothTo a b (k + 1) = bothTo a b k) := (by show _ + (if _ then _ else _) = _; rw [if_neg (fun h => h2 h.2)]; omega : bothTo a b (k + 1) = bothTo a b k)
          rw [h1] at e1 g1
          rw [show bitT b k = 0 by omega] at e2 g2
          clear c1 c2 h1 h2
          go_wp2
          go_round
          case rel => exact ⟨k + 1, by omega, by rw [HE.out], by go_num⟩
          case measure => simp [intOf]; omega
      · have HE : Hid (bothTo a b (k + 1) = bothTo a b k) := (by show _ + (if _ then _ else _) = _; rw [if_neg (fun h => h1 h.1)]; omega : bothTo a b (k + 1) = bothTo a b k)
        rw [show bitT a k = 0 by omega] at e1 g1
        clear c1 c2 h1
        go_wp2
        go_round
        case rel => exact ⟨k + 1, by omega, by rw [HE.out], by go_num⟩
        case measure => simp [intOf]; omega
    · have hkm : k = m := by omega
      subst hkm
      clear hlt hk
      have HMT : Hid (quorumT (k : Int) ≤ countT a → quorumT (k : Int) ≤ countT b → faultsT (k : Int) < bothTo a b k) := fun ha hb => quorum_meet hm1 hm7 a0 a1 b0 b1 ha hb
      have WA : Hid ((Lit.int .i64 a).wf = true) := fits (by omega) (by omega)
      have WB : Hid ((Lit.int .i64 b).wf = true) := fits (by omega) (by omega)
      have WK : Hid ((Lit.int .i64 (k : Int)).wf = true) := fits (by omega) (by omega)
      obtain ⟨both, hbo⟩ : ∃ t, t = bothTo a b k := ⟨_, rfl⟩
      rw [← hbo] at s0 s1 HMT ⊢
      clear hbo
      obtain ⟨q, hq⟩ : ∃ q, q = quorumT (k : Int) := ⟨_, rfl⟩
      have HQQ : Hid (quorumT (k : Int) = q) := hq.symm
      obtain ⟨f, hf⟩ : ∃ f, f = faultsT (k : Int) := ⟨_, rfl⟩
      have HFF : Hid (faultsT (k : Int) = f) := hf.symm
      have hqf : q = (k : Int) - f := by rw [hq, hf]; rfl
      have f0 : 0 ≤ f ∧ 3 * f < (k : Int) := by rw [hf]; exact faults_three _ (by omega)
      rw [← hq, ← hf] at HMT
      clear hq hf
      obtain ⟨ca, hca⟩ : ∃ c, c = countT a := ⟨_, rfl⟩
      have HCA : Hid (countT a = ca) := hca.symm
      obtain ⟨cb, hcb⟩ : ∃ c, c = countT b := ⟨_, rfl⟩
      have HCB : Hid (countT b = cb) := hcb.symm
      rw [← hca, ← hcb] at HMT
      clear hca hcb w0 w1 a0 a1 b0 b1
      have hk0 : (0 : Int) < (k : Int) := by omega
      have hk7 : (k : Int) ≤ 7 := by omega
      have q0 : 0 ≤ q := by omega
      have q7 : q ≤ 7 := by omega
      have f00 := f0.1
      have f07 : f ≤ 7 := by omega
      have dq : (q + f == (k : Int)) = true := by rw [hqf]; simp
      obtain ⟨vw, hvw⟩ : ∃ v, p3 % 200 = v := ⟨_, rfl⟩
      obtain ⟨r30, r31⟩ := r3
      have vw0 : 0 ≤ vw := by omega
      have vw1 : vw < 200 := by omega
      have HVW : Hid (p3 % 200 = vw) := hvw
      have WV : Hid ((Lit.int .i64 vw).wf = true) := fits (by omega) (by omega)
      have WV4 : Hid ((Lit.int .i64 (vw + 4)).wf = true) := fits (by omega) (by omega)
      have WV43 : Hid ((Lit.int .i64 (4 * vw + 3)).wf = true) := fits (by omega) (by omega)
      have WV40 : Hid ((Lit.int .i64 (4 * vw)).wf = true) := fits (by omega) (by omega)
      have hL4 := leader_next (v := vw) (n := (k : Int)) (by omega) vw0
      have hL43 := leader_four (v := vw) (n := (k : Int)) (by omega) vw0
      have hLb := leader_bounds (v := vw) (n := (k : Int)) (by omega) vw0
      obtain ⟨lv, hlv⟩ : ∃ t, t = leaderT vw (k : Int) := ⟨_, rfl⟩
      have HLV : Hid (leaderT vw (k : Int) = lv) := hlv.symm
      rw [← hlv] at hL4 hLb
      have lv0 := hLb.1
      have lv1 := hLb.2
      have HL4 : Hid (leaderT (vw + 4) (k : Int) = (lv + 1) % (k : Int)) := hL4
      have HL43 : Hid (leaderT (4 * vw + 3) (k : Int) = leaderT (4 * vw) (k : Int)) := hL43
      have dl : ((lv + 1) % (k : Int) == (lv + 1) % (k : Int)) = true := by simp
      have dl2 : (leaderT (4 * vw) (k : Int) == leaderT (4 * vw) (k : Int)) = true := by simp
      have hkne : (k : Int) ≠ 0 := by omega
      have HQF : Hid (q = (k : Int) - f) := hqf
      clear hlv hL4 hL43 hLb hvw hqf f0 hm1 hm7
      have Hw2 : Hid (Below w2.heap.size w2 w2) := Below.refl _ _
      go_wp2_with fail
      refine (HC a WA.out w2).mono ?_
      rintro e w3 ⟨rfl, hb⟩
      have Hw3 : Hid (Below w2.heap.size w2 w3) := bt Hw2.out hb
      clear hb
      rw [HCA.out]
      go_wp2_with fail
      refine (HQ (k : Int) WK.out w3).mono ?_
      rintro e w4 ⟨rfl, hb⟩
      have Hw4 : Hid (Below w2.heap.size w2 w4) := bt Hw3.out hb
      clear hb
      rw [HQQ.out]
      by_cases hea : q ≤ ca
      · go_wp2_with fail
        refine (HC b WB.out w4).mono ?_
        rintro e w5 ⟨rfl, hb⟩
        have Hw5 : Hid (Below w2.heap.size w2 w5) := bt Hw4.out hb
        clear hb
        rw [HCB.out]
        go_wp2_with fail
        refine (HQ (k : Int) WK.out w5).mono ?_
        rintro e w6 ⟨rfl, hb⟩
        have Hw6 : Hid (Below w2.heap.size w2 w6) := bt Hw5.out hb
        clear hb
        rw [HQQ.out]
        by_cases heb : q ≤ cb
        · have hfb : f < both := HMT.out hea heb
          have x3 := HX3.out w6 Hw6.out
          go_wp2_with fail
          refine (HF (k : Int) WK.out w6).mono ?_
          rintro e v7 ⟨rfl, hb⟩
          have Hv7 : Hid (Below w2.heap.size w2 v7) := bt Hw6.out hb
          clear hb
          rw [HFF.out]
          clear x3
          go_wp2_with fail
          refine (HQ (k : Int) WK.out v7).mono ?_
          rintro e v8 ⟨rfl, hb⟩
          have Hv8 : Hid (Below w2.heap.size w2 v8) := bt Hv7.out hb
          clear hb
          rw [HQQ.out]
          go_wp2_with fail
          refine (HF (k : Int) WK.out v8).mono ?_
          rintro e v9 ⟨rfl, hb⟩
          have Hv9 : Hid (Below w2.heap.size w2 v9) := bt Hv8.out hb
          clear hb
          rw [HFF.out]
          go_wp2_with fail
          rw [HVW.out]
          refine (HL vw WV.out (k : Int) WK.out v9).mono ?_
          rintro e v10 ⟨rfl, hb⟩
          have Hv10 : Hid (Below w2.heap.size w2 v10) := bt Hv9.out hb
          clear hb
          rw [HLV.out]
          go_wp2_with fail
          refine (HL vw WV.out (k : Int) WK.out v10).mono ?_
          rintro e v11 ⟨rfl, hb⟩
          have Hv11 : Hid (Below w2.heap.size w2 v11) := bt Hv10.out hb
          clear hb
          rw [HLV.out]
          go_wp2_with fail
          refine (HL (vw + 4) WV4.out (k : Int) WK.out v11).mono ?_
          rintro e v12 ⟨rfl, hb⟩
          have Hv12 : Hid (Below w2.heap.size w2 v12) := bt Hv11.out hb
          clear hb
          rw [HL4.out]
          go_wp2_with fail
          refine (HL vw WV.out (k : Int) WK.out v12).mono ?_
          rintro e v13 ⟨rfl, hb⟩
          have Hv13 : Hid (Below w2.heap.size w2 v13) := bt Hv12.out hb
          clear hb
          rw [HLV.out]
          go_wp2_with fail
          refine (HL (4 * vw + 3) WV43.out (k : Int) WK.out v13).mono ?_
          rintro e v14 ⟨rfl, hb⟩
          have Hv14 : Hid (Below w2.heap.size w2 v14) := bt Hv13.out hb
          clear hb
          rw [HL43.out]
          go_wp2_with fail
          refine (HL (4 * vw) WV40.out (k : Int) WK.out v14).mono ?_
          rintro e v15 ⟨rfl, hb⟩
          have Hv15 : Hid (Below w2.heap.size w2 v15) := bt Hv14.out hb
          clear hb
          go_wp2
          go_ret
          exact ⟨rfl, bt B2 Hv15.out⟩
        · skip
          have x3 := HX3.out w6 Hw6.out
          go_wp2_with fail
          refine (HQ (k : Int) WK.out w6).mono ?_
          rintro e v7 ⟨rfl, hb⟩
          have Hv7 : Hid (Below w2.heap.size w2 v7) := bt Hw6.out hb
          clear hb
          rw [HQQ.out]
          clear x3
          go_wp2_with fail
          refine (HF (k : Int) WK.out v7).mono ?_
          rintro e v8 ⟨rfl, hb⟩
          have Hv8 : Hid (Below w2.heap.size w2 v8) := bt Hv7.out hb
          clear hb
          rw [HFF.out]
          go_wp2_with fail
          rw [HVW.out]
          refine (HL vw WV.out (k : Int) WK.out v8).mono ?_
          rintro e v9 ⟨rfl, hb⟩
          have Hv9 : Hid (Below w2.heap.size w2 v9) := bt Hv8.out hb
          clear hb
          rw [HLV.out]
          go_wp2_with fail
          refine (HL vw WV.out (k : Int) WK.out v9).mono ?_
          rintro e v10 ⟨rfl, hb⟩
          have Hv10 : Hid (Below w2.heap.size w2 v10) := bt Hv9.out hb
          clear hb
          rw [HLV.out]
          go_wp2_with fail
          refine (HL (vw + 4) WV4.out (k : Int) WK.out v10).mono ?_
          rintro e v11 ⟨rfl, hb⟩
          have Hv11 : Hid (Below w2.heap.size w2 v11) := bt Hv10.out hb
          clear hb
          rw [HL4.out]
          go_wp2_with fail
          refine (HL vw WV.out (k : Int) WK.out v11).mono ?_
          rintro e v12 ⟨rfl, hb⟩
          have Hv12 : Hid (Below w2.heap.size w2 v12) := bt Hv11.out hb
          clear hb
          rw [HLV.out]
          go_wp2_with fail
          refine (HL (4 * vw + 3) WV43.out (k : Int) WK.out v12).mono ?_
          rintro e v13 ⟨rfl, hb⟩
          have Hv13 : Hid (Below w2.heap.size w2 v13) := bt Hv12.out hb
          clear hb
          rw [HL43.out]
          go_wp2_with fail
          refine (HL (4 * vw) WV40.out (k : Int) WK.out v13).mono ?_
          rintro e v14 ⟨rfl, hb⟩
          have Hv14 : Hid (Below w2.heap.size w2 v14) := bt Hv13.out hb
          clear hb
          go_wp2
          go_ret
          exact ⟨rfl, bt B2 Hv14.out⟩
      · skip
        have x3 := HX3.out w4 Hw4.out
        go_wp2_with fail
        refine (HQ (k : Int) WK.out w4).mono ?_
        rintro e v5 ⟨rfl, hb⟩
        have Hv5 : Hid (Below w2.heap.size w2 v5) := bt Hw4.out hb
        clear hb
        rw [HQQ.out]
        clear x3
        go_wp2_with fail
        refine (HF (k : Int) WK.out v5).mono ?_
        rintro e v6 ⟨rfl, hb⟩
        have Hv6 : Hid (Below w2.heap.size w2 v6) := bt Hv5.out hb
        clear hb
        rw [HFF.out]
        go_wp2_with fail
        rw [HVW.out]
        refine (HL vw WV.out (k : Int) WK.out v6).mono ?_
        rintro e v7 ⟨rfl, hb⟩
        have Hv7 : Hid (Below w2.heap.size w2 v7) := bt Hv6.out hb
        clear hb
        rw [HLV.out]
        go_wp2_with fail
        refine (HL vw WV.out (k : Int) WK.out v7).mono ?_
        rintro e v8 ⟨rfl, hb⟩
        have Hv8 : Hid (Below w2.heap.size w2 v8) := bt Hv7.out hb
        clear hb
        rw [HLV.out]
        go_wp2_with fail
        refine (HL (vw + 4) WV4.out (k : Int) WK.out v8).mono ?_
        rintro e v9 ⟨rfl, hb⟩
        have Hv9 : Hid (Below w2.heap.size w2 v9) := bt Hv8.out hb
        clear hb
        rw [HL4.out]
        go_wp2_with fail
        refine (HL vw WV.out (k : Int) WK.out v9).mono ?_
        rintro e v10 ⟨rfl, hb⟩
        have Hv10 : Hid (Below w2.heap.size w2 v10) := bt Hv9.out hb
        clear hb
        rw [HLV.out]
        go_wp2_with fail
        refine (HL (4 * vw + 3) WV43.out (k : Int) WK.out v10).mono ?_
        rintro e v11 ⟨rfl, hb⟩
        have Hv11 : Hid (Below w2.heap.size w2 v11) := bt Hv10.out hb
        clear hb
        rw [HL43.out]
        go_wp2_with fail
        refine (HL (4 * vw) WV40.out (k : Int) WK.out v11).mono ?_
        rintro e v12 ⟨rfl, hb⟩
        have Hv12 : Hid (Below w2.heap.size w2 v12) := bt Hv11.out hb
        clear hb
        go_wp2
        go_ret
        exact ⟨rfl, bt B2 Hv12.out⟩

end Go.Proofs.Ytfnneillakdopab.WFnQuorums
