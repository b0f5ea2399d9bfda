/-
  Contracts of laws.markText, laws.markStringS, laws.heldStringS and laws.eqStringS: rows of texts that are marked, looked at, and held against each other.
-/
import Derived.Test.YtdopefimjabigatJ0
import Derived.Laws.OwnMore
namespace Go.Proofs.Ytdopefimjabigat
open Go.RowKit Num

/-- a mark -/
def mk (k : Nat) : ByteArray := strOfNums (109 :: dd k k)

theorem m_app (ys : List Int) : (⟨#[109]⟩ : ByteArray) ++ strOfNums ys = strOfNums (109 :: ys) := by
  apply ByteArray.ext; simp [strOfNums, ByteArray.data_append]
theorem ret_ba {a b : ByteArray} (h : a = b) : Ending.returned (.string a) = .returned (.string b) := by rw [h]

set_option maxRecDepth 100000 in
set_option maxHeartbeats 1000000 in
theorem markText_any (k : Nat) (w : World) (h0 : 0 < k) (h1 : k ≤ 1000000000) :
    Calls Try.prog 62 #[.int .i64 k] w fun e w' => e = .returned (.string (mk k)) ∧ Below w.heap.size w w' := by
  have hp : (0 : Int) < (k : Int) := by omega
  have hcv := one_str
  go_enter Try.func62, Try.ntmps62
  go_wp2
  go_loopw [0, 3] (fun a v wr => ∃ (m : Nat) (ys : List Int) (f : Nat), a = .int .i64 m ∧ m ≤ k ∧ m ≤ f ∧ v = .string (strOfNums ys) ∧ ys.length + m ≤ k ∧ Hid (dd k k = dd f m ++ ys) ∧ Below w.heap.size w wr) (fun a _ _ => (intOf a).toNat)
  case atStart => exact ⟨k, [], k, rfl, by omega, by omega, rfl, by simp, by simp [Hid], Below.refl _ _⟩
  case round =>
    obtain ⟨m, ys, f, rfl, hm1, hf, rfl, hyl, HY, hbel⟩ := hrel
    have hbs := hbel.size
    by_cases hm : m = 0
    · have hmz : ¬ (0 : Int) < (m : Int) := by omega
      have HM : Hid (m = 0) := hm
      have hadd : (⟨#[109]⟩ : ByteArray).size + (strOfNums ys).size ≤ 9223372036854775807 := by rw [strOfNums_size]; show 1 + _ ≤ _; omega
      clear hm
      go_wp2
      go_ret
      exact ⟨ret_ba (by rw [m_app, mk, HY.out, HM.out]; simp [dd_zero]), hbel⟩
    · obtain ⟨g, hg, hgf⟩ := dd_step f m (by omega) hf
      have HG : Hid (dd f m = _) := hg
      have hmp : (0 : Int) < (m : Int) := by omega
      have hadd : (strOfNums [48 + (m : Int) % 10]).size + (strOfNums ys).size ≤ 9223372036854775807 := by rw [strOfNums_size, strOfNums_size]; simp; omega
      clear hm hg
      go_wp2
      go_roundw
      case rel => exact ⟨m / 10, (48 + (m : Int) % 10) :: ys, g, by simp, by omega, hgf, by rw [str_append]; rfl, by simp; omega, (show dd k k = dd g (m / 10) ++ ((48 + (m : Int) % 10) :: ys) from by rw [HY.out, HG.out]; simp), hbel.alloc hbs _⟩
      case measure => simp [intOf]; omega

end Go.Proofs.Ytdopefimjabigat
