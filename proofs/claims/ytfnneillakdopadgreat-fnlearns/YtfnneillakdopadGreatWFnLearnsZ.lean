/-
  The walk of the law.
-/
import Derived.Test.YtfnneillakdopadGreatK1
import Derived.Test.YtfnneillakdopadGreatK10
import Derived.Test.YtfnneillakdopadGreatK12
import Derived.Test.YtfnneillakdopadGreatChainLSZ
set_option maxRecDepth 100000
set_option maxHeartbeats 32000000
namespace Go.Proofs.YtfnneillakdopadGreat.WFnLearns
open _root_.Go.Proofs.Tryz
open Go.Value renaming int->I
open Go.IntKind renaming i64->U
open Option renaming some->Aa
open Go.RowKit Num
theorem walk_big (w:World) (ao:Option Addr) (len cap:Nat) (h:(1048576:Int) < len) :
  Calls prog 4 #[.slice ao len cap] w fun e w'=>e=.returned (.bool true)/\Be w w':=by
 go_enter func4,ntmps4;go_wp2;go_ret;exact ⟨rfl,br _ _⟩
theorem big_no (w:World) (ao:Option Addr) (len cap:Nat) (h:(len:Int)<=1048576) :
  Calls prog 6 #[.slice ao len cap] w fun e w'=>e=.returned (.bool false)/\w'=w:=by
 go_enter func6,ntmps6;go_wp2;go_ret;exact ⟨by simp;omega,rfl⟩
def Pk (y:World) (L:List (Nat × Array Value × TypeId)):Prop:=∀ e∈L,y.heap[e.1]?=Aa (.cells e.2.1 e.2.2 (0,0))
theorem Pk.more {y x:World} {L:List (Nat × Array Value × TypeId)} (h:Pk y L) (hb:Be y x):Pk x L:=fun e he=>(hb.block _ (Array.getElem?_eq_some_iff.1 (h e he)).1).trans (h e he)
theorem Pk.cons {y:World} {L:List (Nat × Array Value × TypeId)} {N:Nat} {A:Array Value} {T:TypeId} (h:Pk y L) (hk:y.heap[N]?=Aa (.cells A T (0,0))):Pk y ((N,A,T) :: L):=fun e he=>by
 rcases List.mem_cons.1 he with rfl | he
 ·exact hk
 ·exact h e he
theorem Pk.at {y:World} {L:List (Nat × Array Value × TypeId)} (h:Pk y L) (k:Nat) {N:Nat} {A:Array Value} {T:TypeId} (he:L[k]?=Aa (N,A,T)):y.heap[N]?=Aa (.cells A T (0,0)):=h _ (List.mem_of_getElem? he)
theorem high_up (a b:QC):a.2.1<=(yF a b).2.1:=by
 unfold yF
 split
 ·rename_i h;exact Int.le_of_lt h
 ·exact Int.le_refl _
def kept2 (p q:PE):Prop:=p.high.2.1<=q.high.2.1/\p.lock.2.1<=q.lock.2.1/\q.view=p.view/\q.last=p.last/\p.row.length<=q.row.length
theorem kept2.trans {p q r:PE} (h:kept2 p q) (k:kept2 q r):kept2 p r:=⟨Int.le_trans h.1 k.1,Int.le_trans h.2.1 k.2.1,k.2.2.1.trans h.2.2.1,k.2.2.2.1.trans h.2.2.2.1,Nat.le_trans h.2.2.2.2 k.2.2.2.2⟩
theorem kept2.refl (p:PE):kept2 p p:=⟨Int.le_refl _,Int.le_refl _,rfl,rfl,nl _⟩
theorem through_kept (t:List BK) (p:PE) (k:Int):kept2 p (kO t p k):=by
 unfold kO
 split
 ·exact ⟨Int.le_refl _,Int.le_refl _,rfl,rfl,by show p.row.length<=(p.row ++ _).length;simp⟩
 ·exact kept2.refl p
theorem chain_kept (t:List BK) (p:PE) (k:Int):kept2 p (jN t p k):=by
 unfold jN
 split
 ·rename_i b c d _
  have h1:kept2 p (yDI t p k b):=⟨high_up _ _,high_up _ _,rfl,rfl,nl _⟩
  have h2:kept2 (yDI t p k b) (zGC t (yDI t p k b) k):=by
   unfold zGC
   split
   ·exact through_kept _ _ _
   ·exact kept2.refl _
  refine (h1.trans h2).trans ?_;unfold yDH
  split
  ·exact ⟨Int.le_refl _,Int.le_refl _,rfl,rfl,nl _⟩
  ·exact kept2.refl _
 ·exact kept2.refl p
theorem walk (w:World) (ao:Option Addr) (len cap b off:Nat) (hc:Code w ao len b off) :
  Calls prog 4 #[.slice ao len cap] w fun e w'=>e=.returned (.bool true)/\Be w w':=by
 have HC:=hid hc;have ad:(len:Int)<=1048576:=by have:=hc.le;omega
 clear hc;go_enter func4,ntmps4;go_wp2_with fail
 refine (big_no w ao len cap ad).mono ?_;rintro e w0 ⟨rfl,hw⟩;obtain rfl:=hw.symm;clear hw;go_wp2_with fail
 refine (drawLearn_any HC).mono ?_;rintro e x1 ⟨ts,v,p,t,k,rfl,s,ab,hT,hD,hb⟩;have c:=hid (qad2 s ab);have aa:Hid ((zA p t).all (·.oneCell')=true):=zJ hD.1;have l:=hid (qad3 hb hT.read.q hD.reads);clear s ab hT hD hb
 go_wp2_with (first
  | (refine w_st x1.heap.size (zA p t) (heap_alloc_new x1 _) aa ?_;intro y1 hg hk hz;have d:Be x1 y1:=yB hg;have f:Hid (Be w y1/\Pk y1 [(x1.heap.size,zA p t,35)]/\jB y1 v ts/\jS y1 p t):=⟨bt l.1 d,Pk.cons (fun e he=>by simp at he) hk,l.2.1.below d,l.2.2.below d⟩;clear hg hk hz d l)
  | (refine w_ld x1.heap.size (f.2.1.at 0 rfl) underlying35 ?_))
 obtain ⟨N1,r⟩:=nw x1.heap.size;rw [<- r] at f;rw [<- r];clear r aa;obtain ⟨R,hR⟩:=nw (jN (bks ts) p k);have hl:jZ p+wtB (bks ts)<=1048576:=by have:=c.2.len;have:=c.1.wt;omega
 have g:Hid (chainI (bks ts) p k=R/\jN (bks ts) p k=R/\kept2 p R/\yC R):=hid (by rw [hR];exact ⟨chain_is c.1 c.2.high0 c.2.lock0 k,rfl,chain_kept _ _ _,yCE c.2.small c.1.ok hl⟩);have HL:=hid hl;clear hR hl;have HI:=chainLearn_i ts v p t k y1 f.2.2.1 c.1.ok (fun b hb=>⟨(c.1.each b hb).view.1,by have:=(c.1.each b hb).view.2;omega⟩) f.2.2.2 c.2.small HL;rw [g.out.1] at HI;refine HI.mono ?_;clear HI;rintro e x2 ⟨s2,rfl,ho,hb⟩;have y:Hid ((zA R s2).all (·.oneCell')=true):=zJ ho.1;have i:=hid (qad5 (bt f.1 hb) (f.2.1.more hb) (f.2.2.1.below hb) (f.2.2.2.below hb) ho.reads);clear ho hb f
 go_wp2_with (first
  | (refine w_st x2.heap.size (zA R s2) (heap_alloc_new x2 _) y ?_;intro y2 hg hk hz;have d:Be x2 y2:=yB hg;have h:=hid (qad5 (bt i.1 d) ((i.2.1.more d).cons hk) (i.2.2.1.below d) (i.2.2.2.1.below d) (i.2.2.2.2.below d));clear hg hk hz d i)
  | fail)
 obtain ⟨N2,o⟩:=nw x2.heap.size;rw [<- o] at h;rw [<- o];clear o y;have g1:=g.2.2.1.1;have g2:=g.2.2.1.2.1;have g3:=g.2.2.1.2.2.1;have g4:=g.2.2.1.2.2.2.1;have g5:=g.2.2.1.2.2.2.2;obtain ⟨ra,rc,hr,-⟩:=h.2.2.2.2.row;obtain ⟨pa,pc,hp,-⟩:=h.2.2.2.1.row;have z:=hid (qad2 hr hp);clear hr hp;have EV:=sfV p.last.1 p.last.2.1 p.last.2.2.1 p.last.2.2.2;have GV:=sfVg;refine xA (fun x=>Pk x [(N2,zA R s2,35),(N1,zA p t,35)]) (by kernel_rfl) ?_;show wpAnyH prog _ _ _ _ (47+1) (Array.replicate 48 false) _ _;have hS:Pk y2.drew [(N2,zA R s2,35),(N1,zA p t,35)]:=h.2.1.more (br _ _).drew;have j:Hid (Be y2 y2.drew):=(br _ _).drew;refine yJ 0 19 (.agg (zA R s2)) hS ?_ (hy:=fun x hx=>ldb N2 (hx.at 0 rfl) underlying35);refine yJ 1 20 v hS ?_;refine yJ 2 21 (.agg (zA p t)) hS ?_ (hy:=fun x hx=>ldb N1 (hx.at 1 rfl) underlying35);refine yJ 3 22 (I U k) hS ?_;refine h_cl 4 23 17 #[v,yZ p t,I U k] (((g.2.1 ▸ zII ts v p t k y2.drew (h.2.2.1.below j) c.out.1.ok (h.2.2.2.1.below j) c.out.2.small HL.out:Calls prog 17 #[v,yZ p t,I U k] y2.drew fun e w'=>∃ s',e=.returned (yZ R s')/\zO y2.drew.heap.size w'.heap.size w' R s'/\Below y2.drew.heap.size y2.drew w')).mono ?_);rintro e u1 ⟨s3,rfl,ho,hb⟩;have m:Hid (Be y2 u1):=bt j hb;have n:=hS.more hb;have ae:Hid (jS u1 R s3):=ho.reads;clear ho;clear hb hS j;refine ⟨_,rfl,n,?_⟩;simp only [pz];refine h_cl 5 24 10 #[yZ R s2,yZ R s3] ((samePeer_yes R s2 s3 u1 (h.2.2.2.2.below m) ae g.2.2.2).mono ?_);rintro e u2 ⟨rfl,hb⟩;have ac:Hid (Be y2 u2):=bt m hb;have a:=n.more hb;clear hb n m;refine ⟨_,rfl,a,?_⟩;simp only [pz];refine yJ 6 25 (.bool true) a ?_;refine yJ 7 26 (.pointer (Aa ⟨N2,2,none⟩)) a ?_;refine yJ 8 27 (.pointer (Aa ⟨N2,3,none⟩)) a ?_;refine yJ 9 28 (I U R.high.2.1) a ?_ (hy:=by intro x hx;have c1:=zB (hx.at 0 rfl) 3 (I U R.high.2.1) (rfl);go_simp;try rfl);refine yJ 10 29 (.pointer (Aa ⟨N1,2,none⟩)) a ?_;refine yJ 11 30 (.pointer (Aa ⟨N1,3,none⟩)) a ?_;refine yJ 12 31 (I U p.high.2.1) a ?_ (hy:=by intro x hx;have c1:=zB (hx.at 1 rfl) 3 (I U p.high.2.1) (rfl);go_simp;try rfl);refine yJ 13 32 (.bool true) a ?_ (hy:=by intro x hx;go_simp;try simp;try omega);refine yJ 14 33 (.bool true) a ?_;refine yJ 15 34 (.bool true) a ?_;refine yJ 16 35 (.pointer (Aa ⟨N2,6,none⟩)) a ?_;refine yJ 17 36 (.pointer (Aa ⟨N2,7,none⟩)) a ?_;refine yJ 18 37 (I U R.lock.2.1) a ?_ (hy:=by intro x hx;have c1:=zB (hx.at 0 rfl) 7 (I U R.lock.2.1) (rfl);go_simp;try rfl);refine yJ 19 38 (.pointer (Aa ⟨N1,6,none⟩)) a ?_;refine yJ 20 39 (.pointer (Aa ⟨N1,7,none⟩)) a ?_;refine yJ 21 40 (I U p.lock.2.1) a ?_ (hy:=by intro x hx;have c1:=zB (hx.at 1 rfl) 7 (I U p.lock.2.1) (rfl);go_simp;try rfl);refine yJ 22 41 (.bool true) a ?_ (hy:=by intro x hx;go_simp;try simp;try omega);refine yJ 23 42 (.bool true) a ?_;refine yJ 24 43 (.bool true) a ?_;refine yJ 25 44 (.pointer (Aa ⟨N2,1,none⟩)) a ?_;refine yJ 26 45 (I U R.view) a ?_ (hy:=by intro x hx;have c1:=zB (hx.at 0 rfl) 1 (I U R.view) (rfl);go_simp;try rfl);refine yJ 27 46 (.pointer (Aa ⟨N1,1,none⟩)) a ?_;refine yJ 28 47 (I U p.view) a ?_ (hy:=by intro x hx;have c1:=zB (hx.at 1 rfl) 1 (I U p.view) (rfl);go_simp;try rfl);refine yJ 29 48 (.bool true) a ?_ (hy:=by intro x hx;go_simp;try simp;try omega);refine yJ 30 49 (.bool true) a ?_;refine yJ 31 50 (.bool true) a ?_;refine yJ 32 51 (.pointer (Aa ⟨N2,10,none⟩)) a ?_;refine yJ 33 52 (.agg #[I U p.last.1,I U p.last.2.1,I U p.last.2.2.1,I U p.last.2.2.2]) a ?_ (hy:=by intro x hx;have c0:=zB (hx.at 0 rfl) 10 (I U p.last.1) (by simp [zA,g4]);have c1:=zB (hx.at 0 rfl) 11 (I U p.last.2.1) (by simp [zA,g4]);have c2:=zB (hx.at 0 rfl) 12 (I U p.last.2.2.1) (by simp [zA,g4]);have c3:=zB (hx.at 0 rfl) 13 (I U p.last.2.2.2) (by simp [zA,g4]);go_simp;try rfl);refine yJ 34 53 (.pointer (Aa ⟨N1,10,none⟩)) a ?_;refine yJ 35 54 (.agg #[I U p.last.1,I U p.last.2.1,I U p.last.2.2.1,I U p.last.2.2.2]) a ?_ (hy:=by intro x hx;have c0:=zB (hx.at 1 rfl) 10 (I U p.last.1) (rfl);have c1:=zB (hx.at 1 rfl) 11 (I U p.last.2.1) (rfl);have c2:=zB (hx.at 1 rfl) 12 (I U p.last.2.2.1) (rfl);have c3:=zB (hx.at 1 rfl) 13 (I U p.last.2.2.2) (rfl);go_simp;try rfl);refine yJ 36 55 (.bool true) a ?_;refine yJ 37 56 (.bool true) a ?_;refine yJ 38 57 (.bool true) a ?_;refine yJ 39 58 (.pointer (Aa ⟨N2,14,none⟩)) a ?_;refine yJ 40 59 (.slice ra R.row.length rc) a ?_ (hy:=by intro x hx;have c1:=zB (hx.at 0 rfl) 14 (.slice ra R.row.length rc) (by rw [<- z.out.1];rfl);go_simp;try rfl);refine yJ 41 60 (I U R.row.length) a ?_;refine yJ 42 61 (.pointer (Aa ⟨N1,14,none⟩)) a ?_;refine yJ 43 62 (.slice pa p.row.length pc) a ?_ (hy:=by intro x hx;have c1:=zB (hx.at 1 rfl) 14 (.slice pa p.row.length pc) (by rw [<- z.out.2];rfl);go_simp;try rfl);refine yJ 44 63 (I U p.row.length) a ?_;refine yJ 45 64 (.bool true) a ?_ (hy:=by intro x hx;go_simp;try simp;try omega);refine yJ 46 65 (.bool true) a ?_;refine yJ 47 2 (.bool true) a ?_;refine h_dn ?_;go_wp2;go_ret;exact ⟨rfl,bt h.1 ac⟩
end Go.Proofs.YtfnneillakdopadGreat.WFnLearns
