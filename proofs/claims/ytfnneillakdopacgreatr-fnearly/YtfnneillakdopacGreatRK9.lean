/-
  Texts of ours that later ones lean on, in one: FallS, StepE.
-/
import Derived.Test.YtfnneillakdopacGreatRK1
import Derived.Test.YtfnneillakdopacGreatRReadKSZ
import Derived.Test.YtfnneillakdopacGreatRK4
import Derived.Test.YtfnneillakdopacGreatRLieSZ
import Derived.Test.YtfnneillakdopacGreatRK6
set_option maxRecDepth 100000
set_option maxHeartbeats 32000000
namespace Go.Proofs.YtfnneillakdopacGreatR
open _root_.Go.Proofs.Tryz
open Go.RowKit Num
variable {c:CU}
def yCF (t:List BK) (p:PE):PE:={ jO p with cells:=zGF t [] p.row }
theorem fallen_s (ps:TL) (v:Value) (p:PE) (s:PV) (w:World) (hT:jB w v ps) (hk:okT (bks ps)) (hR:jS w p s) (hp:yAG p) :
  Calls prog 168 #[v,yZ p s] w fun e w'=>∃ s',e=.returned (yZ (yCF (bks ps) p) s')/\zO w.heap.size w'.heap.size w' (yCF (bks ps) p) s'/\Be w w':=by
 have HT:=hid hT;have HR:=hid hR;have HP:=hid hp;have HK:=hid hk;clear hT hR hp hk;obtain ⟨FP,j⟩:=nw (yCF (bks ps) p);have t:Hid (FP={ jO p with cells:=zGF (bks ps) [] p.row }):=j;rw [<- j];clear j;obtain ⟨W,hW⟩:=nw ((w.alloc (.cells (zA p s) 35)).alloc (.cells zF 35))
 have HW:Hid (Be w W/\Bx W w.heap.size (zA p s) 35/\Bx W (w.heap.size+1) zF 35):=(by
  rw [hW];exact ⟨ba (ba (br _ _) _) _,qK w _ _⟩:_/\_)
 unfold zF at hW;go_enter func168,ntmps168;go_wp2_with (rw [<- hW];clear hW;refine w_ld w.heap.size HW.2.1 underlying35 ?_)
 refine (keptText_s p s W (HR.below HW.1) HP.fit).mono ?_;rintro e w1 ⟨rfl,n⟩;have i:=hid (qad2 (bt HW.1 n) (bk n HW.2.2));clear n HW;go_wp2_with fail
 refine (readKept_s p w1 HP).mono ?_;rintro e w2 ⟨s2,rfl,ho,hb⟩;have b:=hid (qad4 (bt i.1 hb) (bk hb i.2) ho (gl i.2));have r:Hid (w1.heap.size<=w2.heap.size):=hb.size;clear ho hb i
 go_wp2_with (first
  | (refine w_st w2.heap.size (zA (jO p) s2) (heap_alloc_new w2 _) (zJ b.2.2.1.1) ?_;intro w3 hg hk hz;have h:Be w2 w3:=yB hg;have c:=hid (qad4 (bt b.1 h) (bk h b.2.1) (b.2.2.1.below h) hk);have x:=zB hk 14 s2.row rfl;clear hg hk hz h))
 clear x;refine (rowCells_s ps v (jO p).row s2.row w3 (HT.below c.1) c.2.2.1.reads.row HK (by have:=HP.len;show (p.row.length:Int)<=1048576;omega)).mono ?_;rintro e w4 ⟨vc,rfl,u,f⟩;have a:=hid (qad6 (bt c.1 f) (bk f c.2.1) (c.2.2.1.below f) (bk f c.2.2.2) f.size (gl c.2.2.2));have m:=hid u;clear u f;have y:Hid (w1.heap.size<=w2.heap.size):=r
 go_wp2_with (first
  | (refine w_sc w2.heap.size 15 vc a.2.2.2.1 (by simp [zA]) (zDH m) (zA FP { s2 with cells:=vc }) (by rw [t.out];rfl) ?_;intro w5 hg hk;have d:Hid (Be w w5/\Bx w5 (w.heap.size+1) zF 35/\Bx w5 w2.heap.size (zA FP { s2 with cells:=vc }) 35/\zO w.heap.size w5.heap.size w5 FP { s2 with cells:=vc }):=⟨a.1.grown hg a.1.size (fun k e=>by cases e;have:=b.1.size;omega),gk hg a.2.1 (fun e=>by have e:=Option.some.inj e;have:=(gl b.2.1);omega),hk,by
    rw [t.out];have o:=World.ownsRow.kept m hg (zH m a.2.2.2.1 (by decide));have hd:=(a.2.2.1.boxed a.2.2.2.1 hg).setCells (l:=zGF (bks ps) [] p.row) (v:=vc) (hi':=w5.heap.size) (Nat.le_trans (Nat.le_of_lt a.2.2.2.2.2) (Nat.le_trans a.2.2.2.2.1 hg.size)) (nl _) (zN o (by have:=a.2.2.2.2.2;have:=b.2.2.1.2.2;have:=y.out;omega)) (fun g e=>(o.lt g e).2) (fun g e=>Or.inr (by have:=(o.lt g e).1;have:=a.2.2.2.2.2;omega))
    exact hd.low (by have:=b.2.2.2;omega)⟩;clear hg hk)
  | (refine w_ld w2.heap.size d.2.2.1 underlying35 ?_)
  | (refine w_st (w.heap.size+1) (zA FP { s2 with cells:=vc }) d.2.1 (zJ d.2.2.2.1) ?_;intro z hg hk hz;have HZ:Hid (Bx z (w.heap.size+1) (zA FP { s2 with cells:=vc }) 35/\zO w.heap.size z.heap.size z FP { s2 with cells:=vc }/\Be w z):=⟨hk,(d.2.2.2.boxed d.2.1 hg).wide hg.size (nl _),d.1.grown hg d.1.size (fun k e=>by cases e;omega)⟩;clear hg hk hz))
 refine b_cr (.agg (zA FP { s2 with cells:=vc })) results168 HZ.1 underlying35 ?_;exact ⟨_,rfl,HZ.2.1,HZ.2.2⟩
structure EV where
 kind:Int
 at':Int
 to':Int
 num:Int
 cmd:CM
def evA (e:EV):Array Value:=#[.int .i64 e.kind,.int .i64 e.at',.int .i64 e.to',.int .i64 e.num,.int .i64 e.cmd.1,.string e.cmd.2.1,.int .i64 e.cmd.2.2]
theorem zDD (e:EV):(evA e).all (·.oneCell')=true:=by unfold evA;simp [Value.oneCell']
def yBJ (c:CU) (e:EV):Int:=e.num % (c.tree.length:Int)
def lieW (c:CU) (e:EV):Int:=if e.num % 2=1 then yR c.tree (yBJ c e)+1 else yEH c.peers 0+1
def lieQ (c:CU) (e:EV):QC × Bool:=qM c (if c.chain=true then 4 else 1) (yBJ c e)
def lieB (c:CU) (e:EV):BK:=((yBJ c e,lieW c e),([e.cmd],(lieQ c e).1))
def lieT (c:CU) (e:EV):CU:={ c with tree:=zGE c.tree (lieB c e) }
def lieL (c:CU) (e:EV):LT:=((1,e.at',e.to',lieW c e,zBE c.tree (lieB c e)),(lieQ c e).1,(0,0,0,0))
def zBC (c:CU) (e:EV):CU × Bool:=
 if (lieQ c e).2=false/\yBJ c e ≠ 0 then (c,false)
 else if qZ c e.at'=true/\kH c.tree c.n (lieQ c e).1=true/\qV c.said (lieQ c e).1 c.liars=true/\¬ zBE c.tree (lieB c e) < 0/\(jM (lieT c e) (lieL c e)).2=true then ((jM (lieT c e) (lieL c e)).1,true)
 else (c,false)
theorem hand_no {l:LT} (h:(jM c l).2=false):(jM c l).1=c:=by
 unfold jM at h ⊢
 split
 ·rename_i hm
  rw [if_pos hm] at h;unfold postB at h;unfold jV;simp only [Bool.not_eq_false',decide_eq_true_eq] at h;exact if_pos h
 ·rfl
def lieC (c:CU) (e:EV):CU × Bool:=
 if c.tree.length=0∨qZ c e.at'=false then (c,false)
 else if e.kind=8 then jM c (yAH c e.at' e.to' (qP c e.num) (yBJ c e))
 else if e.kind=9 then (if (qM c (qP c e.num) (yBJ c e)).2=true then jM c ((3,e.at',e.to',(qM c (qP c e.num) (yBJ c e)).1.2.1,0),(qM c (qP c e.num) (yBJ c e)).1,(0,0,0,0)) else (c,false))
 else if e.kind=10 then zBC c e
 else jM c ((4,e.at',e.to',e.num % 900+1,0),(0,0,0,0),(0,0,0,0))
def fallC (c:CU) (i:Int):CU × Bool:=if xT c i=true then (zCG c i (yCF c.tree (zCJ c i)),true) else (c,false)
def offerP (c:CU) (x:CM):CU × Bool:=if 8<=c.pend.length then (c,false) else ({ c with pend:=c.pend ++ [x] },true)
def doC (c:CU) (e:EV):CU × Bool:=
 if e.kind=1 then offerP c e.cmd
 else if e.kind=2 then showC c e.at'
 else if e.kind=3 then carryC c e.at'
 else if e.kind=4 then (zAC c e.at',outB c e.at')
 else if e.kind=5 then yEC c e.at'
 else if e.kind=6 then waitC c e.at'
 else if e.kind=7 then fallC c e.at'
 else lieC c e
structure lieOk (c:CU):Prop where
 net:(c.net.length:Int)<=1048576
 n:0<=c.n/\c.n<=7
 tree:okT c.tree
 ltree:(c.tree.length:Int)+1<=1048576
 one:1<=c.tree.length
 said:(c.said.length:Int)+7<=1048576
 lpeers:(c.peers.length:Int)<=1048576
 far:-9223372036854775808<=yEH c.peers 0/\yEH c.peers 0 < 9223372036854775807
 views:∀ k,-9223372036854775808<=yR c.tree k/\yR c.tree k < 9223372036854775807
theorem lieOk.hand (h:lieOk c):handOk c:=⟨h.net,h.n,by have:=h.ltree;omega,by have:=h.said;omega⟩
theorem lieOk.hand2 (h:lieOk c) (e:EV):handOk (lieT c e):=⟨h.net,h.n,by
 have:=h.ltree
 have hl:(zGE c.tree (lieB c e)).length<=c.tree.length+1:=by
  unfold zGE
  split
  ·omega
  ·split
   ·omega
   ·simp
 show ((zGE c.tree (lieB c e)).length:Int)<=1048576
 omega,by have:=h.said;show (c.said.length:Int)<=1048576;omega⟩
theorem lieQc_fit (c:CU) (ph k:Int):fitQ (qM c ph k).1:=by
 unfold qM
 split
 ·unfold zHE
  split
  ·exact ⟨by decide,by decide⟩
  ·have:=zEC (lieVotes c ph k (qN c.n)) ph (yR c.tree k) k 7;refine ⟨?_,?_⟩
   ·show (-9223372036854775808:Int)<=zHG _ _ _ _ 7;omega
   ·show zHG _ _ _ _ 7<=(9223372036854775807:Int);have:=this.2;omega
 ·exact ⟨by decide,by decide⟩
end Go.Proofs.YtfnneillakdopacGreatR
