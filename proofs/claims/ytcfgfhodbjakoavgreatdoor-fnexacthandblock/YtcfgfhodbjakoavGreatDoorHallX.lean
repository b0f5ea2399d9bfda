/-
  A cluster under a mutex: the lock's numbers in this translation, the block of a hall, what becomes of it.
-/
import Derived.Test.YtcfgfhodbjakoavGreatDoorClusP
import Derived.Conc.MuLone
namespace Go.Proofs.YtcfgfhodbjakoavGreatDoor
open Go.RowKit Num

abbrev muLink : Go.Conc.Locks.MuLink := { lock := 147, unlock := 148, ilock := 161, iunlock := 162, lockSlow := 169, unlockSlow := 172, disable := 165, enable := 167, acquire := 168, relMerge := 170, cas32 := 166, add32 := 171, tMutex := 189, tIMutex := 187, tPMutex := 254, tPIMutex := 255, tPI32 := 257, tUP := 159, tNoCopy := 184, tU32 := 185 }
theorem muLib : Go.Conc.Locks.MuLib Tryz.prog muLink :=
  ⟨Tryz.func147, Tryz.func148, Tryz.func161, Tryz.func162, Tryz.func165, Tryz.func167, Tryz.func168, Tryz.func170, Tryz.func166, Tryz.func171,
    Tryz.underlying187, Tryz.runUnderlying187, Tryz.sizeOf187, Tryz.isAgg187, Tryz.zeroValue187,
    Tryz.underlying189, Tryz.runUnderlying189, Tryz.sizeOf189, Tryz.isAgg189, Tryz.zeroValue189,
    Tryz.underlying254, Tryz.runUnderlying254, Tryz.sizeOf254, Tryz.isAgg254, Tryz.zeroValue254,
    Tryz.underlying255, Tryz.runUnderlying255, Tryz.sizeOf255, Tryz.isAgg255, Tryz.zeroValue255,
    Tryz.underlying257, Tryz.runUnderlying257, Tryz.sizeOf257, Tryz.isAgg257, Tryz.zeroValue257,
    Tryz.underlying159, Tryz.runUnderlying159, Tryz.sizeOf159, Tryz.isAgg159, Tryz.zeroValue159,
    Tryz.underlying184, Tryz.runUnderlying184, Tryz.sizeOf184, Tryz.isAgg184, Tryz.zeroValue184,
    Tryz.underlying21, Tryz.runUnderlying21, Tryz.sizeOf21, Tryz.isAgg21, Tryz.zeroValue21, (by kernel_rfl)⟩

/-- a hall's cells: the lock's two, then the cluster's -/
def hallA (st : Int) (c : CU) (s : CW) : Array Value := #[.int .i32 st, .int .u32 0, .int .i64 c.n, .bool c.chain, .int .i64 c.liars, s.treeV, s.peersV, s.net, s.said, s.pend]
/-- a cluster's parts do not lie in a block of halls -/
theorem row_hall_none {w : World} {base n m N : Nat} {e : TypeId} {v : Value} {xs : List Value} {A : Array Value} (h : w.ownsRow base e m v n xs) (hN : w.heap[N]? = some (.cells A 191 (0, 0))) (hne : e ≠ 191) : v.ownBlock ≠ some N := by
  rcases row_not_box h hN hne with h | h
  · rw [h]; exact fun e => by cases e
  · exact h
theorem OwnC.noHall {lo hi N : Nat} {w : World} {c : CU} {s : CW} {A : Array Value} (h : OwnC lo hi w c s) (hN : w.heap[N]? = some (.cells A 191 (0, 0))) : ∀ i, i < 5 → ¬ partC s i N := fun i hi hp => by
  match i, hi with
  | 0, _ =>
    rcases hp with hp | ⟨p, hm, hp⟩
    · exact row_hall_none h.tree.row hN (by decide) hp
    · exact row_hall_none (h.tree.cmds p hm) hN (by decide) hp
  | 1, _ =>
    rcases hp with hp | ⟨x, hm, a, ha, hp⟩
    · exact row_hall_none h.peers.row hN (by decide) hp
    · have hd := (h.peers.own.each x hm).1
      simp only [six, List.mem_cons, List.not_mem_nil, or_false] at ha
      rcases ha with rfl | rfl | rfl | rfl | rfl | rfl
      · exact row_hall_none hd.row hN (by decide) hp
      · exact row_hall_none hd.cells hN (by decide) hp
      · exact row_hall_none hd.early hN (by decide) hp
      · exact row_hall_none hd.undos hN (by decide) hp
      · exact row_hall_none hd.votes hN (by decide) hp
      · exact row_hall_none hd.news hN (by decide) hp
  | 2, _ => exact row_hall_none h.net hN (by decide) hp
  | 3, _ => exact row_hall_none h.said hN (by decide) hp
  | 4, _ => exact row_hall_none h.pend hN (by decide) hp
theorem OwnC.hallT {lo hi N : Nat} {w w' : World} {c : CU} {s : CW} {A : Array Value} (h : OwnC lo hi w c s) (hN : w.heap[N]? = some (.cells A 191 (0, 0))) (hg : w.grownBy w' (some N)) : OwnC lo hi w' c s :=
  h.frs (B := fun k => k = N) (FrS.of_grown hg (fun k e => by cases e; rfl)) (fun i g hi hp e => h.noHall hN i hi (by rw [← e]; exact hp))
/-- a hall in memory -/
abbrev HallAt (w : World) (N : Nat) (st : Int) (c : CU) (s : CW) : Prop := w.heap[N]? = some (.cells (hallA st c s) 191 (0, 0))
/-- a hall: what became of it; what lies below its own memory and is not its block is as it was -/
structure InH (N lo : Nat) (w w' : World) (st : Int) (c : CU) (s : CW) : Prop where
  box : HallAt w' N st c s
  own : OwnC lo w'.heap.size w' c s
  fr : FrS (fun k => k = N ∨ lo ≤ k) w w'
theorem cell_set {w : World} {N : Nat} {st t : Int} {c : CU} {s : CW} (h : HallAt w N st c s) : HallAt (w.setCell ⟨N, 0, none⟩ (.int .i32 t)) N t c s ∧ w.grownBy (w.setCell ⟨N, 0, none⟩ (.int .i32 t)) (some N) := by
  have h1 := heap_setCell_same w N 0 _ 191 (.int .i32 t) h
  exact ⟨h1, rfl, rfl, rfl, by simp, fun k _ hk => heap_setCell_other w ⟨N, 0, none⟩ k _ (fun e => hk (by simp [e]))⟩

end Go.Proofs.YtcfgfhodbjakoavGreatDoor
