/-
  A cluster under a mutex: the lock's numbers in this translation, the block of a hall, what becomes of it.
-/
import Derived.Test.YtjieklilojmifatGreatClusP
import Derived.Conc.MuLone
namespace Go.Proofs.YtjieklilojmifatGreat
open Go.RowKit Num

abbrev muLink : Go.Conc.Locks.MuLink := { lock := 100, unlock := 101, ilock := 133, iunlock := 134, lockSlow := 159, unlockSlow := 162, disable := 155, enable := 157, acquire := 158, relMerge := 160, cas32 := 156, add32 := 161, tMutex := 118, tIMutex := 116, tPMutex := 189, tPIMutex := 211, tPI32 := 213, tUP := 215, tNoCopy := 113, tU32 := 114 }
theorem muLib : Go.Conc.Locks.MuLib Tryz.prog muLink :=
  ⟨Tryz.func100, Tryz.func101, Tryz.func133, Tryz.func134, Tryz.func155, Tryz.func157, Tryz.func158, Tryz.func160, Tryz.func156, Tryz.func161,
    Tryz.underlying116, Tryz.runUnderlying116, Tryz.sizeOf116, Tryz.isAgg116, Tryz.zeroValue116,
    Tryz.underlying118, Tryz.runUnderlying118, Tryz.sizeOf118, Tryz.isAgg118, Tryz.zeroValue118,
    Tryz.underlying189, Tryz.runUnderlying189, Tryz.sizeOf189, Tryz.isAgg189, Tryz.zeroValue189,
    Tryz.underlying211, Tryz.runUnderlying211, Tryz.sizeOf211, Tryz.isAgg211, Tryz.zeroValue211,
    Tryz.underlying213, Tryz.runUnderlying213, Tryz.sizeOf213, Tryz.isAgg213, Tryz.zeroValue213,
    Tryz.underlying215, Tryz.runUnderlying215, Tryz.sizeOf215, Tryz.isAgg215, Tryz.zeroValue215,
    Tryz.underlying113, Tryz.runUnderlying113, Tryz.sizeOf113, Tryz.isAgg113, Tryz.zeroValue113,
    Tryz.underlying21, Tryz.runUnderlying21, Tryz.sizeOf21, Tryz.isAgg21, Tryz.zeroValue21, (by kernel_rfl)⟩

/-- a hall's cells: the lock's two, then the cluster's -/
def hallA (st : Int) (c : CU) (s : CW) : Array Value := #[.int .i32 st, .int .u32 0, .int .i64 c.n, .bool c.chain, .int .i64 c.liars, s.treeV, s.peersV, s.net, s.said, s.pend]
/-- a cluster's parts do not lie in a block of halls -/
theorem row_hall_none {w : World} {base n m N : Nat} {e : TypeId} {v : Value} {xs : List Value} {A : Array Value} (h : w.ownsRow base e m v n xs) (hN : w.heap[N]? = some (.cells A 120 (0, 0))) (hne : e ≠ 120) : v.ownBlock ≠ some N := by
  rcases row_not_box h hN hne with h | h
  · rw [h]; exact fun e => by cases e
  · exact h
theorem OwnC.noHall {lo hi N : Nat} {w : World} {c : CU} {s : CW} {A : Array Value} (h : OwnC lo hi w c s) (hN : w.heap[N]? = some (.cells A 120 (0, 0))) : ∀ i, i < 5 → ¬ partC s i N := fun i hi hp => by
  match i, hi with
  | 0, _ =>
    rcases hp with hp | ⟨p, hm, hp⟩
    · exact row_hall_none h.tree.row hN (by decide) hp
    · exact row_hall_none (h.tree.cmds p hm) hN (by decide) hp
  | 1, _ =>
    rcases hp with hp | ⟨x, hm, a, ha, hp⟩
    · exact row_hall_none h.peers.row hN (by decide) hp
    · have hd := (h.peers.own.each x hm).1
      simp only [six, List.mem_cons, List.not_mem_nil, or_false] at ha
      rcases ha with rfl | rfl | rfl | rfl | rfl | rfl
      · exact row_hall_none hd.row hN (by decide) hp
      · exact row_hall_none hd.cells hN (by decide) hp
      · exact row_hall_none hd.early hN (by decide) hp
      · exact row_hall_none hd.undos hN (by decide) hp
      · exact row_hall_none hd.votes hN (by decide) hp
      · exact row_hall_none hd.news hN (by decide) hp
  | 2, _ => exact row_hall_none h.net hN (by decide) hp
  | 3, _ => exact row_hall_none h.said hN (by decide) hp
  | 4, _ => exact row_hall_none h.pend hN (by decide) hp
theorem OwnC.hallT {lo hi N : Nat} {w w' : World} {c : CU} {s : CW} {A : Array Value} (h : OwnC lo hi w c s) (hN : w.heap[N]? = some (.cells A 120 (0, 0))) (hg : w.grownBy w' (some N)) : OwnC lo hi w' c s :=
  h.frs (B := fun k => k = N) (FrS.of_grown hg (fun k e => by cases e; rfl)) (fun i g hi hp e => h.noHall hN i hi (by rw [← e]; exact hp))
/-- a hall in memory -/
abbrev HallAt (w : World) (N : Nat) (st : Int) (c : CU) (s : CW) : Prop := w.heap[N]? = some (.cells (hallA st c s) 120 (0, 0))
/-- a hall: what became of it; what lies below its own memory and is not its block is as it was -/
structure InH (N lo : Nat) (w w' : World) (st : Int) (c : CU) (s : CW) : Prop where
  box : HallAt w' N st c s
  own : OwnC lo w'.heap.size w' c s
  fr : FrS (fun k => k = N ∨ lo ≤ k) w w'
theorem cell_set {w : World} {N : Nat} {st t : Int} {c : CU} {s : CW} (h : HallAt w N st c s) : HallAt (w.setCell ⟨N, 0, none⟩ (.int .i32 t)) N t c s ∧ w.grownBy (w.setCell ⟨N, 0, none⟩ (.int .i32 t)) (some N) := by
  have h1 := heap_setCell_same w N 0 _ 120 (.int .i32 t) h
  exact ⟨h1, rfl, rfl, rfl, by simp, fun k _ hk => heap_setCell_other w ⟨N, 0, none⟩ k _ (fun e => hk (by simp [e]))⟩

end Go.Proofs.YtjieklilojmifatGreat
