/-
  The contract of the specification's Beginning.
-/
import Derived.Test.YtjdddcldbfhbiabTreeN
import Derived.Test.YtjdddcldbfhbiabRowX
import Derived.BigQuiet
namespace Go.Proofs.Ytjdddcldbfhbiab
open Go.RowKit Num

set_option maxRecDepth 100000 in
set_option maxHeartbeats 2000000 in
theorem begin_s (l l' : List Int) (va vb : Value) (w : World) (ha : RowsR w va 1 intF l) (hb : RowsR w vb 1 intF l') (hla : (l.length : Int) ≤ 1048576) (hlb : (l'.length : Int) ≤ 1048576) :
    Calls Try.prog 26 #[va, vb] w fun e w' => e = .returned (.bool (beginB l l')) ∧ Below w.heap.size w w' := by
  obtain ⟨aa, na, rfl, hra⟩ := ha
  obtain ⟨ab, nb, rfl, hrb⟩ := hb
  have HA : Hid (0 < l.length → _) := hra
  have HB : Hid (0 < l'.length → _) := hrb
  clear hra hrb
  go_enter Try.func26, Try.ntmps26
  go_wp2
  go_loopw [5] (fun i wr => ∃ k : Nat, k ≤ l.length ∧ k ≤ l'.length ∧ i = .int .i64 (k : Int) ∧ Hid (sameUp l l' k) ∧ Below w.heap.size w wr) (fun i _ => l.length - (intOf i).toNat)
  case atStart => exact ⟨0, Nat.zero_le _, Nat.zero_le _, rfl, fun j _ _ h => by omega, Below.refl _ _⟩
  case round =>
    obtain ⟨k, hk, hk', rfl, HS, hbel⟩ := hrel
    by_cases h1 : (k : Int) < l.length
    · by_cases h2 : (k : Int) < l'.length
      · have hkn : k < l.length := by omega
        have hkb : k < l'.length := by omega
        have q0 : (0 : Int) ≤ (k : Int) := by omega
        obtain ⟨ga, oa, rfl, hga, hca⟩ := HA.out (by omega)
        obtain ⟨gb, ob, rfl, hgb, hcb⟩ := HB.out (by omega)
        have hne := bw_some wr
        have c0 : ∀ x : Bw wr, x.to.cell? ⟨ga, oa + k, none⟩ = some (.int .i64 l[k]) := fun x => by rw [(bt hbel x.below).cell (by exact hga)]; have := hca k hkn 0 (by omega); rw [Nat.mul_one, Nat.add_zero] at this; exact this
        have c1 : ∀ x : Bw wr, x.to.cell? ⟨gb, ob + k, none⟩ = some (.int .i64 l'[k]) := fun x => by rw [(bt hbel x.below).cell (by exact hgb)]; have := hcb k hkb 0 (by omega); rw [Nat.mul_one, Nat.add_zero] at this; exact this
        clear hca hcb
        by_cases he : l[k] = l'[k]
        · have HT : Hid (sameUp l l' (k + 1)) := fun j hj hj' hjk => by
            by_cases e : j = k
            · subst e; exact he
            · exact HS.out j hj hj' (by omega)
          have d0 : (l[k] != l'[k]) = false := by simp [he]
          clear he
          go_wp2
          refine wp_region_bw (by kernel_rfl) (by kernel_rfl) ?_
          repeat (go_big_quiet_step (fail))
          refine wpQuiet_nil ?_
          intro _ hw'
          obtain ⟨x, rfl⟩ := hw'
          go_wp2
          go_roundw
          case rel => exact ⟨k + 1, by omega, by omega, by go_num, HT, bt hbel x.below⟩
          case measure => simp [intOf]; omega
        · have HT : Hid (beginB l l' = false) := beginB_no hkn hkb he
          have d0 : (l[k] != l'[k]) = true := by simpa using he
          clear he
          go_wp2
          refine wp_region_bw (by kernel_rfl) (by kernel_rfl) ?_
          repeat (go_big_quiet_step (fail))
          refine wpQuiet_nil ?_
          intro _ hw'
          obtain ⟨x, rfl⟩ := hw'
          go_wp2
          go_ret
          exact ⟨ret_bool HT.out.symm, bt hbel x.below⟩
      · have HT : Hid (beginB l l' = true) := beginB_yes HS.out (Or.inr (by omega))
        go_wp2
        go_ret
        exact ⟨ret_bool HT.out.symm, hbel⟩
    · have HT : Hid (beginB l l' = true) := beginB_yes HS.out (Or.inl (by omega))
      go_wp2
      go_ret
      exact ⟨ret_bool HT.out.symm, hbel⟩

end Go.Proofs.Ytjdddcldbfhbiab
