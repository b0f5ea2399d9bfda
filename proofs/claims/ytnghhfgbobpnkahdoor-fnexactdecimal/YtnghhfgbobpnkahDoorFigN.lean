/-
  Figures: what stands for 0 to 15.
-/
import Derived.WalkKit
namespace Go.Proofs.YtnghhfgbobpnkahDoor.Num

/-- a figure -/
def fig (d : Int) : Int := if d < 10 then 48 + d else 87 + d

theorem fig_at : ∀ (n : Nat) (_h : n < 16) (hp : n < (⟨#[48, 49, 50, 51, 52, 53, 54, 55, 56, 57, 97, 98, 99, 100, 101, 102]⟩ : ByteArray).size),
    (((⟨#[48, 49, 50, 51, 52, 53, 54, 55, 56, 57, 97, 98, 99, 100, 101, 102]⟩ : ByteArray)[n]'hp).toNat : Int) = fig n
  | 0, _, _ | 1, _, _ | 2, _, _ | 3, _, _ | 4, _, _ | 5, _, _ | 6, _, _ | 7, _, _ | 8, _, _ | 9, _, _ | 10, _, _ | 11, _, _ | 12, _, _ | 13, _, _ | 14, _, _ | 15, _, _ => rfl
  | n + 16, h, _ => by omega

theorem fig_at' (d : Int) (h0 : 0 ≤ d) (h1 : d < 16) (hp : d.toNat < (⟨#[48, 49, 50, 51, 52, 53, 54, 55, 56, 57, 97, 98, 99, 100, 101, 102]⟩ : ByteArray).size) :
    (((⟨#[48, 49, 50, 51, 52, 53, 54, 55, 56, 57, 97, 98, 99, 100, 101, 102]⟩ : ByteArray)[d.toNat]'hp).toNat : Int) = fig d := by
  rw [fig_at d.toNat (by omega) hp]
  rw [Int.toNat_of_nonneg h0]

theorem fig_small (d : Int) (h : d < 10) : fig d = 48 + d := by unfold fig; rw [if_pos h]

end Go.Proofs.YtnghhfgbobpnkahDoor.Num
