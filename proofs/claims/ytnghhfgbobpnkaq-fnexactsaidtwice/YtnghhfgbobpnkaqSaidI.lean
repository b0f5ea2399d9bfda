/-
  The contract of the program's SaidTwice.
-/
import Derived.Test.YtnghhfgbobpnkaqWFnExactSaidTwice
import Derived.Test.YtnghhfgbobpnkaqSaidN
namespace Go.Proofs.Ytnghhfgbobpnkaq
open Go.RowKit Num Go.Maps

theorem zeroV (w : World) : (zeroValue 3).run Try.prog w = .ok (.int .i64 0) w := by kernel_rfl
theorem mapTV : Try.prog.underlying 93 = some (.map 59 3) := Try.underlying93
theorem makeV (t : TypeId) (n : Int) (w : World) (ht : Try.prog.underlying t = some (.map 59 3)) : (Instr.makeMap t (some (.int .i64 n))).run Try.prog w = .ok (.map (some w.heap.size)) (w.alloc (.map #[] 0)) := by
  simp [Instr.makeMap, run_underlying ht, asInt, Result.andThen]
  rfl

set_option maxRecDepth 100000 in
set_option maxHeartbeats 4000000 in
theorem saidTwice_i : WFnExactSaidTwice.Prg := by
  intro l v base w hown hl hwf
  have hv : RowsR w v 4 voteF l := rows_of_own voteF_len hown
  have HWF : Hid (∀ x ∈ l, wfV x) := hwf
  obtain ⟨a, cap, rfl, hr⟩ := hv
  have HR : Hid (0 < l.length → _) := hr
  have hmm := makeV 93 (l.length : Int)
  clear hr hwf hown
  go_enter Try.func24, Try.ntmps24
  go_wp2
  go_loopw [14] (fun i wr => ∃ m : Nat, m ≤ l.length ∧ i = .int .i64 (m : Int) ∧ Hid (noTwo l m 0) ∧ Hid (MapV wr w.heap.size m (l.take m)) ∧ Hid (Below w.heap.size w wr)) (fun i _ => l.length - (intOf i).toNat)
  case atStart => exact ⟨0, Nat.zero_le _, rfl, noTwo_zero l, mapV_made w, ba (Below.refl _ _) _⟩
  case round =>
    obtain ⟨m, hm, rfl, HN, HM, HB⟩ := hrel
    by_cases hlt : (m : Int) < l.length
    · have hmn : m < l.length := by omega
      obtain ⟨g, off, rfl, hg, hc⟩ := HR.out (by omega)
      have q0 : (0 : Int) ≤ (m : Int) := by omega
      obtain ⟨x, hx⟩ : ∃ x, x = l[m] := ⟨_, rfl⟩
      have HX : Hid (x = l[m]) := hx
      have HWX : Hid (wfV x) := (by rw [hx]; exact HWF.out _ (List.getElem_mem hmn) : wfV x)
      obtain ⟨x0, x1, x2, x3⟩ := x
      have c0 : wr.cell? ⟨g, off + m * 4, none⟩ = some (.int .i64 x0) := by rw [HB.out.cell (by exact hg)]; have := hc m hmn 0 (by omega); rw [← hx] at this; exact this
      have c1 : wr.cell? ⟨g, off + m * 4 + 1, none⟩ = some (.int .i64 x1) := by rw [HB.out.cell (by exact hg)]; have := hc m hmn 1 (by omega); rw [← hx] at this; exact this
      have c2 : wr.cell? ⟨g, off + m * 4 + 2, none⟩ = some (.int .i64 x2) := by rw [HB.out.cell (by exact hg)]; have := hc m hmn 2 (by omega); rw [← hx] at this; exact this
      have c3 : wr.cell? ⟨g, off + m * 4 + 3, none⟩ = some (.int .i64 x3) := by rw [HB.out.cell (by exact hg)]; have := hc m hmn 3 (by omega); rw [← hx] at this; exact this
      clear hc hx hg
      obtain ⟨D, hD, hrep⟩ := HM.out
      have hkey := key_v HWX.out
      obtain ⟨c, hc⟩ : ∃ c, D.atKey (lv (x0, x1, x2, x3)) (vD 0) = vD c := by
        obtain ⟨v, q, _, hv⟩ := hD.look_ok keyedV mapTV (zeroV wr) (plainElem_int Try.underlying3 (by decide)) hkey
        obtain ⟨c, _, hc, _⟩ := plainElem_int_inv Try.underlying3 hv
        exact ⟨c, congrArg Prod.fst hc⟩
      have HD : Hid (wr.ownsMap Try.prog 59 (plainElem Try.prog 3) w.heap.size m D) := hD
      have HRP : Hid (RepV D (l.take m)) := hrep
      have HK : Hid (keyOf Try.prog 59 (.agg #[.int .i64 x0, .int .i64 x1, .int .i64 0, .int .i64 x3]) = some (lv (x0, x1, x2, x3))) := hkey
      have HC : Hid (D.atKey (lv (x0, x1, x2, x3)) (.lit (.int .i64 0)) = .lit (.int .i64 c)) := hc
      have HE : Hid (plainElem (H := Unit) Try.prog 3 (.int .i64 x2) = some (vD x2, [])) := plainElem_int Try.underlying3 HWX.out.2.2.1
      have HWT : Hid (∀ y ∈ l.take m, wfV y) := fun y hy => HWF.out y (List.mem_of_mem_take hy)
      have hmx : m < maxLen := by unfold maxLen; omega
      have hsz := HB.out.size
      clear hD hrep hkey hc
      by_cases hh : Maps.has D (lv (x0, x1, x2, x3)) = true
      · have HH : Hid (Maps.has D (lv (x0, x1, x2, x3)) = true) := hh
        clear hh
        by_cases hcx : c = x2
        · have HO : Hid (∀ y ∈ l.take m, twoV (x0, x1, x2, x3) y = false) := repV_one HRP.out HC.out (Or.inr hcx)
          have HN2 : Hid (noTwo l (m + 1) 0) := noTwo_take hmn HN.out (by rw [← HX.out]; exact HO.out)
          have HP : Hid (RepV (D.put (lv (x0, x1, x2, x3)) (vD x2)) (l.take (m + 1))) := (by rw [List.take_add_one, List.getElem?_eq_getElem hmn, ← HX.out]; exact repV_put (HD.out.tidy keyedV) HRP.out HWT.out HWX.out HO.out : RepV _ _)
          have hcb : (c != x2) = false := by simpa using hcx
          subst hcx
          go_wp2_with (first | (at_lookup; refine wpList_lookup_own_ok_int _ rfl _ _ 93 rfl 59 3 .i64 keyedV mapTV Try.underlying3 (zeroV _) w.heap.size m D rfl ((HD.out.alloc _).alloc _) _ _ rfl HK.out ?_; intro c2 hat hwc; have hcc := vD_inj (HC.out.symm.trans hat); subst hcc; rw [HH.out]; clear hat hwc) | (at_mapUpdate; refine wpList_mapUpdate_own _ rfl _ _ _ 93 rfl 59 3 keyedV mapTV _ w.heap.size m D rfl ((HD.out.alloc _).alloc _) hmx _ _ _ rfl rfl HK.out _ [] HE.out ?_; intro w1 hown1 hgrow1))
          go_roundw
          case rel => exact ⟨m + 1, by omega, by go_num, HN2.out, ⟨_, hown1, HP.out⟩, (ba (ba HB.out _) _).grown hgrow1 (by simp; omega) fun b hb => by cases hb; exact Nat.le_refl _⟩
          case measure => simp [intOf]; omega
        · obtain ⟨y, hy, hy2⟩ := repV_two HRP.out HWT.out HWX.out HH.out HC.out hcx
          have HT : Hid (twiceB l = true) := (by obtain ⟨j, hj, e⟩ := List.getElem_of_mem hy; rw [List.length_take] at hj; exact twice_yes hmn (show j < m by omega) (by rw [← HX.out]; rw [List.getElem_take] at e; rw [e]; exact hy2) : twiceB l = true)
          have hcb : (c != x2) = true := by simpa using hcx
          clear hy hy2 hcx
          go_wp2_with (at_lookup; refine wpList_lookup_own_ok_int _ rfl _ _ 93 rfl 59 3 .i64 keyedV mapTV Try.underlying3 (zeroV _) w.heap.size m D rfl ((HD.out.alloc _).alloc _) _ _ rfl HK.out ?_; intro c2 hat hwc; have hcc := vD_inj (HC.out.symm.trans hat); subst hcc; rw [HH.out]; clear hat hwc)
          go_ret
          exact ⟨ret_bool HT.out.symm, ba (ba HB.out _) _⟩
      · have HH : Hid (Maps.has D (lv (x0, x1, x2, x3)) = false) := Bool.not_eq_true _ ▸ hh
        have HO : Hid (∀ y ∈ l.take m, twoV (x0, x1, x2, x3) y = false) := repV_one HRP.out HC.out (Or.inl HH.out)
        have HN2 : Hid (noTwo l (m + 1) 0) := noTwo_take hmn HN.out (by rw [← HX.out]; exact HO.out)
        have HP : Hid (RepV (D.put (lv (x0, x1, x2, x3)) (vD x2)) (l.take (m + 1))) := (by rw [List.take_add_one, List.getElem?_eq_getElem hmn, ← HX.out]; exact repV_put (HD.out.tidy keyedV) HRP.out HWT.out HWX.out HO.out : RepV _ _)
        clear hh
        go_wp2_with (first | (at_lookup; refine wpList_lookup_own_ok_int _ rfl _ _ 93 rfl 59 3 .i64 keyedV mapTV Try.underlying3 (zeroV _) w.heap.size m D rfl ((HD.out.alloc _).alloc _) _ _ rfl HK.out ?_; intro c2 hat hwc; have hcc := vD_inj (HC.out.symm.trans hat); subst hcc; rw [HH.out]; clear hat hwc) | (at_mapUpdate; refine wpList_mapUpdate_own _ rfl _ _ _ 93 rfl 59 3 keyedV mapTV _ w.heap.size m D rfl ((HD.out.alloc _).alloc _) hmx _ _ _ rfl rfl HK.out _ [] HE.out ?_; intro w1 hown1 hgrow1))
        go_roundw
        case rel => exact ⟨m + 1, by omega, by go_num, HN2.out, ⟨_, hown1, HP.out⟩, (ba (ba HB.out _) _).grown hgrow1 (by simp; omega) fun b hb => by cases hb; exact Nat.le_refl _⟩
        case measure => simp [intOf]; omega
    · have HT : Hid (twiceB l = false) := twice_no HN.out (by omega)
      go_wp2
      go_ret
      exact ⟨ret_bool HT.out.symm, HB.out⟩

end Go.Proofs.Ytnghhfgbobpnkaq
