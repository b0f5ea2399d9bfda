/-
  A cluster under a mutex: the lock's numbers in this translation, the block of a hall, what becomes of it.
-/
import Derived.Test.YtjieklilojmifauGreatRClusP
import Derived.Conc.MuLone
namespace Go.Proofs.YtjieklilojmifauGreatR
open Go.RowKit Num

abbrev muLink : Go.Conc.Locks.MuLink := { lock := 98, unlock := 99, ilock := 113, iunlock := 114, lockSlow := 122, unlockSlow := 125, disable := 118, enable := 120, acquire := 121, relMerge := 123, cas32 := 119, add32 := 124, tMutex := 120, tIMutex := 118, tPMutex := 172, tPIMutex := 175, tPI32 := 177, tUP := 179, tNoCopy := 115, tU32 := 116 }
theorem muLib : Go.Conc.Locks.MuLib Tryz.prog muLink :=
  ⟨Tryz.func98, Tryz.func99, Tryz.func113, Tryz.func114, Tryz.func118, Tryz.func120, Tryz.func121, Tryz.func123, Tryz.func119, Tryz.func124,
    Tryz.underlying118, Tryz.runUnderlying118, Tryz.sizeOf118, Tryz.isAgg118, Tryz.zeroValue118,
    Tryz.underlying120, Tryz.runUnderlying120, Tryz.sizeOf120, Tryz.isAgg120, Tryz.zeroValue120,
    Tryz.underlying172, Tryz.runUnderlying172, Tryz.sizeOf172, Tryz.isAgg172, Tryz.zeroValue172,
    Tryz.underlying175, Tryz.runUnderlying175, Tryz.sizeOf175, Tryz.isAgg175, Tryz.zeroValue175,
    Tryz.underlying177, Tryz.runUnderlying177, Tryz.sizeOf177, Tryz.isAgg177, Tryz.zeroValue177,
    Tryz.underlying179, Tryz.runUnderlying179, Tryz.sizeOf179, Tryz.isAgg179, Tryz.zeroValue179,
    Tryz.underlying115, Tryz.runUnderlying115, Tryz.sizeOf115, Tryz.isAgg115, Tryz.zeroValue115,
    Tryz.underlying21, Tryz.runUnderlying21, Tryz.sizeOf21, Tryz.isAgg21, Tryz.zeroValue21, (by kernel_rfl)⟩

/-- a hall's cells: the lock's two, then the cluster's -/
def hallA (st : Int) (c : CU) (s : CW) : Array Value := #[.int .i32 st, .int .u32 0, .int .i64 c.n, .bool c.chain, .int .i64 c.liars, s.treeV, s.peersV, s.net, s.said, s.pend]
/-- a cluster's parts do not lie in a block of halls -/
theorem row_hall_none {w : World} {base n m N : Nat} {e : TypeId} {v : Value} {xs : List Value} {A : Array Value} (h : w.ownsRow base e m v n xs) (hN : w.heap[N]? = some (.cells A 122 (0, 0))) (hne : e ≠ 122) : v.ownBlock ≠ some N := by
  rcases row_not_box h hN hne with h | h
  · rw [h]; exact fun e => by cases e
  · exact h
theorem OwnC.noHall {lo hi N : Nat} {w : World} {c : CU} {s : CW} {A : Array Value} (h : OwnC lo hi w c s) (hN : w.heap[N]? = some (.cells A 122 (0, 0))) : ∀ i, i < 5 → ¬ partC s i N := fun i hi hp => by
  match i, hi with
  | 0, _ =>
    rcases hp with hp | ⟨p, hm, hp⟩
    · exact row_hall_none h.tree.row hN (by decide) hp
    · exact row_hall_none (h.tree.cmds p hm) hN (by decide) hp
  | 1, _ =>
    rcases hp with hp | ⟨x, hm, a, ha, hp⟩
    · exact row_hall_none h.peers.row hN (by decide) hp
    · have hd := (h.peers.own.each x hm).1
      simp only [six, List.mem_cons, List.not_mem_nil, or_false] at ha
      rcases ha with rfl | rfl | rfl | rfl | rfl | rfl
      · exact row_hall_none hd.row hN (by decide) hp
      · exact row_hall_none hd.cells hN (by decide) hp
      · exact row_hall_none hd.early hN (by decide) hp
      · exact row_hall_none hd.undos hN (by decide) hp
      · exact row_hall_none hd.votes hN (by decide) hp
      · exact row_hall_none hd.news hN (by decide) hp
  | 2, _ => exact row_hall_none h.net hN (by decide) hp
  | 3, _ => exact row_hall_none h.said hN (by decide) hp
  | 4, _ => exact row_hall_none h.pend hN (by decide) hp
theorem OwnC.hallT {lo hi N : Nat} {w w' : World} {c : CU} {s : CW} {A : Array Value} (h : OwnC lo hi w c s) (hN : w.heap[N]? = some (.cells A 122 (0, 0))) (hg : w.grownBy w' (some N)) : OwnC lo hi w' c s :=
  h.frs (B := fun k => k = N) (FrS.of_grown hg (fun k e => by cases e; rfl)) (fun i g hi hp e => h.noHall hN i hi (by rw [← e]; exact hp))
/-- a hall in memory -/
abbrev HallAt (w : World) (N : Nat) (st : Int) (c : CU) (s : CW) : Prop := w.heap[N]? = some (.cells (hallA st c s) 122 (0, 0))
/-- a hall: what became of it; what lies below its own memory and is not its block is as it was -/
structure InH (N lo : Nat) (w w' : World) (st : Int) (c : CU) (s : CW) : Prop where
  box : HallAt w' N st c s
  own : OwnC lo w'.heap.size w' c s
  fr : FrS (fun k => k = N ∨ lo ≤ k) w w'
theorem cell_set {w : World} {N : Nat} {st t : Int} {c : CU} {s : CW} (h : HallAt w N st c s) : HallAt (w.setCell ⟨N, 0, none⟩ (.int .i32 t)) N t c s ∧ w.grownBy (w.setCell ⟨N, 0, none⟩ (.int .i32 t)) (some N) := by
  have h1 := heap_setCell_same w N 0 _ 122 (.int .i32 t) h
  exact ⟨h1, rfl, rfl, rfl, by simp, fun k _ hk => heap_setCell_other w ⟨N, 0, none⟩ k _ (fun e => hk (by simp [e]))⟩

end Go.Proofs.YtjieklilojmifauGreatR
