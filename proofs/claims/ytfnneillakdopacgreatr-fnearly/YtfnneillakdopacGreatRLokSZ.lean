/-
  A text of ours: LokS.
-/
import Derived.Test.YtfnneillakdopacGreatRK3
import Derived.Test.YtfnneillakdopacGreatRK4
import Derived.Test.YtfnneillakdopacGreatRK1
set_option maxRecDepth 100000
set_option maxHeartbeats 32000000
namespace Go.Proofs.YtfnneillakdopacGreatR
open _root_.Go.Proofs.Tryz
open Go.Value renaming int->I
open Go.IntKind renaming i64->U
open Go.RowKit Num
def yCA (t:List BK) (n:Int) (l:LT):Bool:=
 if l.1.1=1 then decide (l.2.2=(0,0,0,0)) && (inB l.1.2.2.2.2 1 ((t.length:Int) - 1) && (decide (yR t l.1.2.2.2.2=l.1.2.2.2.1) && (decide (zIF t l.1.2.2.2.2=l.2.1) && kH t n l.2.1)))
 else if l.1.1=2 then decide (l.1.2.2.2.2=0) && (decide (l.2.1=(0,0,0,0)) && (zCI t n l.2.2 && (decide (l.2.2.2.2.2=l.1.2.1) && decide (l.2.2.2.1=l.1.2.2.2.1))))
 else if l.1.1=3 then decide (l.1.2.2.2.2=0) && (decide (l.2.2=(0,0,0,0)) && (kH t n l.2.1 && decide (l.2.1.2.1=l.1.2.2.2.1)))
 else decide (l.1.2.2.2.2=0) && (decide (l.2.2=(0,0,0,0)) && (kH t n l.2.1 && decide (l.2.1.2.1 < l.1.2.2.2.1)))
def qI (t:List BK) (n:Int) (l:LT):Bool:=inB l.1.1 1 4 && (inB l.1.2.1 0 (n - 1) && (inB l.1.2.2.1 0 (n - 1) && (inB l.1.2.2.2.1 1 900 && yCA t n l)))
theorem eqVt (q r:QC) (w:World):(Op.equalIn 10000 28 (.agg #[I U q.1,I U q.2.1,I U q.2.2.1,I U q.2.2.2]) (.agg #[I U r.1,I U r.2.1,I U r.2.2.1,I U r.2.2.2])).run prog w=.ok (decide (q=r)) w:=by
 have u3:=underlying3;have hS:prog.underlying 28=some (.struct (prog.fieldsOf 28)):=by kernel_rfl
 have hp:prog.stoodInHeld 28=false:=by kernel_rfl
 rw [show (10000:Nat)=9999+1 from rfl,run_equalIn_agg w 9999 28 _ _ hS hp];simp only [Program.fieldsOf,underlying28];go_simp;obtain ⟨a,b,c,d⟩:=q;obtain ⟨a',b',c',d'⟩:=r;simp only [Prod.mk.injEq]
 by_cases h1:a=a' <;> by_cases h2:b=b' <;> by_cases h3:c=c' <;> by_cases h4:d=d' <;> simp [h1,h2,h3,h4]
theorem guardVt:prog.eqGuardType prog.depth 28=false:=by kernel_rfl
theorem qcRight_is {ps:TL} {va:Value} {n:Int} {q:QC} {r:Bool} (h:kH (bks ps) n q=r) (w:World) (hT:jB w va ps) (hl:(ps.length:Int)<=1048576) (hn0:0<=n) (hn1:n<=7) (hq:fitQ q) :
  Calls prog 118 #[va,I U n,.agg #[I U q.1,I U q.2.1,I U q.2.2.1,I U q.2.2.2]] w fun e w'=>e=.returned (.bool r)/\Be w w':=by rw [<- h];exact qcRight_s ps va n q w hT hl (by omega) (by omega) hq
theorem letterOk_s (ps:TL) (va:Value) (n:Int) (l:LT) (w:World) (hT:jB w va ps) (hl:(ps.length:Int)<=1048576) (hn0:0<=n) (hn1:n<=7) (hq:fitQ l.2.1) :
  Calls prog 78 #[va,I U n,.agg (zQ l)] w fun e w'=>e=.returned (.bool (qI (bks ps) n l))/\Be w w':=by
 have HT:=hid hT;have t:=hid hq;have ac:Hid ((bks ps).length=ps.length):=yO ps;have h7:¬ n > 7:=by omega
 have ai:¬ (7:Int) < n:=by omega
 have ad:IntKind.i64.wrap (n - 1)=n - 1:=(by rw [IntKind.wrap_i64];omega);obtain ⟨⟨c,fr,to,view,b⟩,⟨q0,q1,q2,q3⟩,⟨v0,v1,v2,v3⟩⟩:=l;obtain ⟨a,cap,rfl,hr⟩:=hT.1;have z:=hid hr;have EQ:=eqQ (q0,q1,q2,q3) (0,0,0,0);have GQ:=guardQ;have EV:=eqVt (v0,v1,v2,v3) (0,0,0,0);have GV:=guardVt;simp only at EQ EV;obtain ⟨W,hW⟩:=nw (w.alloc (.cells (zQ (((c,fr,to,view,b),(q0,q1,q2,q3),(v0,v1,v2,v3)))) 61));have HW:Hid (Be w W/\Bx W w.heap.size (zQ (((c,fr,to,view,b),(q0,q1,q2,q3),(v0,v1,v2,v3)))) 61):=hid (by rw [hW];exact ⟨ba (br _ _) _,heap_alloc_new w _⟩);have HX:Hid (∀ x,Be W x->Bx x w.heap.size (zQ (((c,fr,to,view,b),(q0,q1,q2,q3),(v0,v1,v2,v3)))) 61):=fun x hx=>bk hx HW.2
 clear hT hr hq;have c0:=zB HW.2 0 (I U c) rfl;have c1:=zB HW.2 1 (I U fr) rfl;have c2:=zB HW.2 2 (I U to) rfl;have c3:=zB HW.2 3 (I U view) rfl;have c4:=zB HW.2 4 (I U b) rfl;have c5:=zB HW.2 5 (I U q0) rfl;have c6:=zB HW.2 6 (I U q1) rfl;have c7:=zB HW.2 7 (I U q2) rfl;have c8:=zB HW.2 8 (I U q3) rfl;have c9:=zB HW.2 9 (I U v0) rfl;have ak:=zB HW.2 10 (I U v1) rfl;have ag:=zB HW.2 11 (I U v2) rfl;have af:=zB HW.2 12 (I U v3) rfl;go_enter func78,ntmps78;go_wp2_with (rw [<- hW];clear hW)
 refine (yS c 1 4 W).mono ?_;rintro e x0 ⟨rfl,hw⟩;obtain rfl:=hw.symm;clear hw
 cases e0:inB c 1 4 with
 | false=>
  have HE:Hid (qI (bks ps) n (((c,fr,to,view,b),(q0,q1,q2,q3),(v0,v1,v2,v3)))=false):=hid (by unfold qI;simp only [e0];rfl);go_wp2;go_ret;exact ⟨zL HE.symm,HW.1⟩
 | true=>
  go_wp2_with fail
  refine (yS fr 0 (n - 1) W).mono ?_;rintro e x1 ⟨rfl,hw⟩;obtain rfl:=hw.symm;clear hw
  cases e1:inB fr 0 (n - 1) with
  | false=>
   have HE:Hid (qI (bks ps) n (((c,fr,to,view,b),(q0,q1,q2,q3),(v0,v1,v2,v3)))=false):=hid (by unfold qI;simp only [e0,e1];rfl);go_wp2;go_ret;exact ⟨zL HE.symm,HW.1⟩
  | true=>
   go_wp2_with fail
   refine (yS to 0 (n - 1) W).mono ?_;rintro e x2 ⟨rfl,hw⟩;obtain rfl:=hw.symm;clear hw
   cases e2:inB to 0 (n - 1) with
   | false=>
    have HE:Hid (qI (bks ps) n (((c,fr,to,view,b),(q0,q1,q2,q3),(v0,v1,v2,v3)))=false):=hid (by unfold qI;simp only [e0,e1,e2];rfl);go_wp2;go_ret;exact ⟨zL HE.symm,HW.1⟩
   | true=>
    go_wp2_with fail
    refine (yS view 1 900 W).mono ?_;rintro e x3 ⟨rfl,hw⟩;obtain rfl:=hw.symm;clear hw
    cases e3:inB view 1 900 with
    | false=>
     have HE:Hid (qI (bks ps) n (((c,fr,to,view,b),(q0,q1,q2,q3),(v0,v1,v2,v3)))=false):=hid (by unfold qI;simp only [e0,e1,e2,e3];rfl);go_wp2;go_ret;exact ⟨zL HE.symm,HW.1⟩
    | true=>
     have d:Hid (qI (bks ps) n (((c,fr,to,view,b),(q0,q1,q2,q3),(v0,v1,v2,v3)))=yCA (bks ps) n (((c,fr,to,view,b),(q0,q1,q2,q3),(v0,v1,v2,v3)))):=(by unfold qI;simp only [e0,e1,e2,e3];rfl:qI (bks ps) n (((c,fr,to,view,b),(q0,q1,q2,q3),(v0,v1,v2,v3)))=_);have ab:c=1∨c=2∨c=3∨c=4:=by simp only [inB,decide_eq_true_eq] at e0;omega
     clear e0 e1 e2 e3
     rcases ab with rfl | rfl | rfl | rfl
     ·by_cases hv:(v0,v1,v2,v3)=((0,0,0,0):QC)
      ·rw [decide_eq_true hv] at EV;have f:Hid (yCA (bks ps) n (((1,fr,to,view,b),(q0,q1,q2,q3),(v0,v1,v2,v3)))=(inB b 1 ((ps.length:Int) - 1) && (decide (yR (bks ps) b=view) && (decide (zIF (bks ps) b=(q0,q1,q2,q3)) && kH (bks ps) n (q0,q1,q2,q3))))):=(by unfold yCA;simp only [if_true];rw [decide_eq_true hv,ac.out];rfl:yCA (bks ps) n (((1,fr,to,view,b),(q0,q1,q2,q3),(v0,v1,v2,v3)))=_);clear hv;have aj:=yX W;have y3:∀ x:Bw W,x.to.cell? ⟨w.heap.size,3,none⟩=some (I U view):=fun x=>zB (HX _ x.below) 3 _ rfl
       have y4:∀ x:Bw W,x.to.cell? ⟨w.heap.size,4,none⟩=some (I U b):=fun x=>zB (HX _ x.below) 4 _ rfl
       have y5:∀ x:Bw W,x.to.cell? ⟨w.heap.size,5,none⟩=some (I U q0):=fun x=>zB (HX _ x.below) 5 _ rfl
       have y6:∀ x:Bw W,x.to.cell? ⟨w.heap.size,6,none⟩=some (I U q1):=fun x=>zB (HX _ x.below) 6 _ rfl
       have y7:∀ x:Bw W,x.to.cell? ⟨w.heap.size,7,none⟩=some (I U q2):=fun x=>zB (HX _ x.below) 7 _ rfl
       have y8:∀ x:Bw W,x.to.cell? ⟨w.heap.size,8,none⟩=some (I U q3):=fun x=>zB (HX _ x.below) 8 _ rfl
       cases eb:inB b 1 ((ps.length:Int) - 1) with
       | false=>
        have HE:Hid (qI (bks ps) n (((1,fr,to,view,b),(q0,q1,q2,q3),(v0,v1,v2,v3)))=false):=hid (by rw [d.out,f.out,eb];rfl);clear EQ GQ;go_wp2;refine rb ?_;repeat (go_big_quiet_step (first | (with_reducible refine zI (jU eb _))))
        refine qnn fun x=>?_
        go_wp2;go_ret;exact ⟨zL HE.symm,bt HW.1 x.below⟩
       | true=>
        have aa:1<=b/\b<=(ps.length:Int) - 1:=by simpa [inB] using eb
        obtain ⟨bn,rfl⟩:∃ bn:Nat,b=(bn:Int):=⟨b.toNat,by omega⟩;have i:bn < ps.length:=by omega
        have b0:(0:Int)<=(bn:Int):=by omega
        have b1:(bn:Int) < ps.length:=by omega
        obtain ⟨gt,ot,rfl,j,k⟩:=z (by omega);have o:Hid (yR (bks ps) (bn:Int)=ps[bn].1.1.2):=(by unfold yR;simp [bks,i]:yR (bks ps) (bn:Int)=_);have p:Hid (zIF (bks ps) (bn:Int)=ps[bn].1.2.2):=(by unfold zIF;simp [bks,i]:zIF (bks ps) (bn:Int)=_);obtain ⟨vw,s⟩:=nw (ps[bn].1.1.2);obtain ⟨jq,m⟩:∃ jq:QC,jq=ps[bn].1.2.2:=⟨_,rfl⟩;rw [<- s] at o;rw [<- m] at p;have z1:∀ x:Bw W,x.to.cell? ⟨gt,ot+bn * 7+1,none⟩=some (I U vw):=fun x=>by rw [(bt HW.1 x.below).cell (by exact j),s];exact k bn i 1 (by omega)
        have z3:∀ x:Bw W,x.to.cell? ⟨gt,ot+bn * 7+3,none⟩=some (I U jq.1):=fun x=>by rw [(bt HW.1 x.below).cell (by exact j),m];exact k bn i 3 (by omega)
        have z4:∀ x:Bw W,x.to.cell? ⟨gt,ot+bn * 7+3+1,none⟩=some (I U jq.2.1):=fun x=>by rw [(bt HW.1 x.below).cell (by exact j),m];exact k bn i 4 (by omega)
        have z5:∀ x:Bw W,x.to.cell? ⟨gt,ot+bn * 7+3+2,none⟩=some (I U jq.2.2.1):=fun x=>by rw [(bt HW.1 x.below).cell (by exact j),m];exact k bn i 5 (by omega)
        have z6:∀ x:Bw W,x.to.cell? ⟨gt,ot+bn * 7+3+3,none⟩=some (I U jq.2.2.2):=fun x=>by rw [(bt HW.1 x.below).cell (by exact j),m];exact k bn i 6 (by omega)
        clear k j s m aa;have EJ:=eqQ jq (q0,q1,q2,q3);simp only at EJ;clear EQ
        by_cases hvv:vw=view
        ·have bv:(vw == view)=true:=by simpa using hvv
         have dv:decide (vw=view)=true:=decide_eq_true hvv;have u:Hid (decide (yR (bks ps) (bn:Int)=view)=true):=hid (by rw [o.out];exact dv);clear hvv
         by_cases hjj:jq=(q0,q1,q2,q3)
         ·rw [decide_eq_true hjj] at EJ;have y:Hid (decide (zIF (bks ps) (bn:Int)=(q0,q1,q2,q3))=true):=hid (by rw [p.out];exact decide_eq_true hjj);clear hjj;obtain ⟨r,hr⟩:=nw (kH (bks ps) n (q0,q1,q2,q3));have HE:Hid (qI (bks ps) n (((1,fr,to,view,(bn:Int)),(q0,q1,q2,q3),(v0,v1,v2,v3)))=r):=hid (by rw [d.out,f.out,eb,u.out,y.out,hr];rfl);have v:Hid (∀ x:Bw W,Calls prog 118 #[.slice (some ⟨gt,ot,none⟩) ps.length cap,I U n,.agg #[I U q0,I U q1,I U q2,I U q3]] x.to fun e w'=>e=.returned (.bool r)/\Below x.to.heap.size x.to w'):=fun x=>qcRight_is hr.symm x.to (HT.below (bt HW.1 x.below)) hl hn0 hn1 t
          clear hr;go_wp2;refine rb ?_;repeat (go_big_quiet_step (first | (with_reducible refine zI (jU eb _)) | (go_at_call 118;with_reducible refine xX (v.out _))))
          refine qnn fun x=>?_
          go_wp2;go_ret;exact ⟨zL HE.symm,bt HW.1 x.below⟩
         ·rw [decide_eq_false hjj] at EJ;have HE:Hid (qI (bks ps) n (((1,fr,to,view,(bn:Int)),(q0,q1,q2,q3),(v0,v1,v2,v3)))=false):=hid (by rw [d.out,f.out,eb,u.out,p.out,decide_eq_false hjj];rfl);clear hjj;go_wp2;refine rb ?_;repeat (go_big_quiet_step (first | (with_reducible refine zI (jU eb _))))
          refine qnn fun x=>?_
          go_wp2;go_ret;exact ⟨zL HE.symm,bt HW.1 x.below⟩
        ·have bv:(vw == view)=false:=by simpa using hvv
         have dv:decide (vw=view)=false:=decide_eq_false hvv;have HE:Hid (qI (bks ps) n (((1,fr,to,view,(bn:Int)),(q0,q1,q2,q3),(v0,v1,v2,v3)))=false):=hid (by rw [d.out,f.out,eb,o.out,dv];rfl);clear hvv EJ;go_wp2;refine rb ?_;repeat (go_big_quiet_step (first | (with_reducible refine zI (jU eb _))))
         refine qnn fun x=>?_
         go_wp2;go_ret;exact ⟨zL HE.symm,bt HW.1 x.below⟩
      ·rw [decide_eq_false hv] at EV;have HE:Hid (qI (bks ps) n (((1,fr,to,view,b),(q0,q1,q2,q3),(v0,v1,v2,v3)))=false):=hid (by rw [d.out];unfold yCA;simp only [if_true];rw [decide_eq_false hv];rfl);clear hv;go_wp2;go_ret;exact ⟨zL HE.symm,HW.1⟩
     ·by_cases hb0:b=0
      ·have bb:(b != 0)=false:=by simpa using hb0
       have db:decide (b=0)=true:=decide_eq_true hb0;clear hb0
       by_cases hz:(q0,q1,q2,q3)=((0,0,0,0):QC)
       ·rw [decide_eq_true hz] at EQ;have f:Hid (yCA (bks ps) n (((2,fr,to,view,b),(q0,q1,q2,q3),(v0,v1,v2,v3)))=(zCI (bks ps) n (v0,v1,v2,v3) && (decide (v3=fr) && decide (v1=view)))):=(by unfold yCA;simp only [show ¬ ((2:Int)=1) by decide,if_true,if_false];rw [db,decide_eq_true hz];rfl:yCA (bks ps) n (((2,fr,to,view,b),(q0,q1,q2,q3),(v0,v1,v2,v3)))=_);clear hz;go_wp2_with fail
        refine (voteOk_s ps _ n (v0,v1,v2,v3) W (HT.below HW.1) hl).mono ?_;rintro e x4 ⟨rfl,hb⟩;have h:Hid (Be w x4):=bt HW.1 hb;have d1:=zB (HX x4 hb) 1 (I U fr) rfl;have d3:=zB (HX x4 hb) 3 (I U view) rfl;have ae:=zB (HX x4 hb) 10 (I U v1) rfl;have ah:=zB (HX x4 hb) 12 (I U v3) rfl;clear hb
        cases g:zCI (bks ps) n (v0,v1,v2,v3) with
        | false=>
         have HE:Hid (qI (bks ps) n (((2,fr,to,view,b),(q0,q1,q2,q3),(v0,v1,v2,v3)))=false):=hid (by rw [d.out,f.out,g];rfl);go_wp2;go_ret;exact ⟨zL HE.symm,h⟩
        | true=>
         by_cases h1:v3=fr
         ·have b1:(v3 == fr)=true:=by simpa using h1
          have g1:decide (v3=fr)=true:=decide_eq_true h1;have HE:Hid (qI (bks ps) n (((2,fr,to,view,b),(q0,q1,q2,q3),(v0,v1,v2,v3)))=(v1 == view)):=hid (by rw [d.out,f.out,g,g1];by_cases hq:v1=view <;> simp [hq]);clear h1;go_wp2;go_ret;exact ⟨zL HE.symm,h⟩
         ·have b1:(v3 == fr)=false:=by simpa using h1
          have g1:decide (v3=fr)=false:=decide_eq_false h1;have HE:Hid (qI (bks ps) n (((2,fr,to,view,b),(q0,q1,q2,q3),(v0,v1,v2,v3)))=false):=hid (by rw [d.out,f.out,g,g1];rfl);go_wp2;go_ret;exact ⟨zL HE.symm,h⟩
       ·rw [decide_eq_false hz] at EQ;have HE:Hid (qI (bks ps) n (((2,fr,to,view,b),(q0,q1,q2,q3),(v0,v1,v2,v3)))=false):=hid (by rw [d.out];unfold yCA;simp only [show ¬ ((2:Int)=1) by decide,if_true,if_false];rw [db,decide_eq_false hz];rfl);clear hz;go_wp2;go_ret;exact ⟨zL HE.symm,HW.1⟩
      ·have bb:(b != 0)=true:=by simpa using hb0
       have HE:Hid (qI (bks ps) n (((2,fr,to,view,b),(q0,q1,q2,q3),(v0,v1,v2,v3)))=false):=hid (by rw [d.out];unfold yCA;simp only [show ¬ ((2:Int)=1) by decide,if_true,if_false];rw [decide_eq_false hb0];rfl);go_wp2;go_ret;exact ⟨zL HE.symm,HW.1⟩
     ·by_cases hb0:b=0
      ·have bb:(b != 0)=false:=by simpa using hb0
       have db:decide (b=0)=true:=decide_eq_true hb0;clear hb0
       by_cases hz:(v0,v1,v2,v3)=((0,0,0,0):QC)
       ·rw [decide_eq_true hz] at EV;have f:Hid (yCA (bks ps) n (((3,fr,to,view,b),(q0,q1,q2,q3),(v0,v1,v2,v3)))=(kH (bks ps) n (q0,q1,q2,q3) && decide (q1=view))):=(by unfold yCA;simp only [show ¬ ((3:Int)=1) by decide,show ¬ ((3:Int)=2) by decide,if_true,if_false];rw [db,decide_eq_true hz];rfl:yCA (bks ps) n (((3,fr,to,view,b),(q0,q1,q2,q3),(v0,v1,v2,v3)))=_);clear hz;go_wp2_with fail
        refine (qcRight_is (q:=(q0,q1,q2,q3)) rfl W (HT.below HW.1) hl hn0 hn1 t).mono ?_;rintro e x4 ⟨rfl,hb⟩;have h:Hid (Be w x4):=bt HW.1 hb;have d3:=zB (HX x4 hb) 3 (I U view) rfl;have d6:=zB (HX x4 hb) 6 (I U q1) rfl;clear hb
        cases g:kH (bks ps) n (q0,q1,q2,q3) with
        | false=>
         have HE:Hid (qI (bks ps) n (((3,fr,to,view,b),(q0,q1,q2,q3),(v0,v1,v2,v3)))=false):=hid (by rw [d.out,f.out,g];rfl);go_wp2;go_ret;exact ⟨zL HE.symm,h⟩
        | true=>
         have HE:Hid (qI (bks ps) n (((3,fr,to,view,b),(q0,q1,q2,q3),(v0,v1,v2,v3)))=(q1 == view)):=hid (by rw [d.out,f.out,g];by_cases hq:q1=view <;> simp [hq]);go_wp2;go_ret;exact ⟨zL HE.symm,h⟩
       ·rw [decide_eq_false hz] at EV;have HE:Hid (qI (bks ps) n (((3,fr,to,view,b),(q0,q1,q2,q3),(v0,v1,v2,v3)))=false):=hid (by rw [d.out];unfold yCA;simp only [show ¬ ((3:Int)=1) by decide,show ¬ ((3:Int)=2) by decide,if_true,if_false];rw [db,decide_eq_false hz];rfl);clear hz;go_wp2;go_ret;exact ⟨zL HE.symm,HW.1⟩
      ·have bb:(b != 0)=true:=by simpa using hb0
       have HE:Hid (qI (bks ps) n (((3,fr,to,view,b),(q0,q1,q2,q3),(v0,v1,v2,v3)))=false):=hid (by rw [d.out];unfold yCA;simp only [show ¬ ((3:Int)=1) by decide,show ¬ ((3:Int)=2) by decide,if_true,if_false];rw [decide_eq_false hb0];rfl);go_wp2;go_ret;exact ⟨zL HE.symm,HW.1⟩
     ·by_cases hb0:b=0
      ·have bb:(b != 0)=false:=by simpa using hb0
       have db:decide (b=0)=true:=decide_eq_true hb0;clear hb0
       by_cases hz:(v0,v1,v2,v3)=((0,0,0,0):QC)
       ·rw [decide_eq_true hz] at EV;have f:Hid (yCA (bks ps) n (((4,fr,to,view,b),(q0,q1,q2,q3),(v0,v1,v2,v3)))=(kH (bks ps) n (q0,q1,q2,q3) && decide (q1 < view))):=(by unfold yCA;simp only [show ¬ ((4:Int)=1) by decide,show ¬ ((4:Int)=2) by decide,show ¬ ((4:Int)=3) by decide,if_false];rw [db,decide_eq_true hz];rfl:yCA (bks ps) n (((4,fr,to,view,b),(q0,q1,q2,q3),(v0,v1,v2,v3)))=_);clear hz;go_wp2_with fail
        refine (qcRight_is (q:=(q0,q1,q2,q3)) rfl W (HT.below HW.1) hl hn0 hn1 t).mono ?_;rintro e x4 ⟨rfl,hb⟩;have h:Hid (Be w x4):=bt HW.1 hb;have d3:=zB (HX x4 hb) 3 (I U view) rfl;have d6:=zB (HX x4 hb) 6 (I U q1) rfl;clear hb
        cases g:kH (bks ps) n (q0,q1,q2,q3) with
        | false=>
         have HE:Hid (qI (bks ps) n (((4,fr,to,view,b),(q0,q1,q2,q3),(v0,v1,v2,v3)))=false):=hid (by rw [d.out,f.out,g];rfl);go_wp2;go_ret;exact ⟨zL HE.symm,h⟩
        | true=>
         have HE:Hid (qI (bks ps) n (((4,fr,to,view,b),(q0,q1,q2,q3),(v0,v1,v2,v3)))=decide (q1 < view)):=hid (by rw [d.out,f.out,g];rfl);go_wp2;go_ret;exact ⟨zL HE.symm,h⟩
       ·rw [decide_eq_false hz] at EV;have HE:Hid (qI (bks ps) n (((4,fr,to,view,b),(q0,q1,q2,q3),(v0,v1,v2,v3)))=false):=hid (by rw [d.out];unfold yCA;simp only [show ¬ ((4:Int)=1) by decide,show ¬ ((4:Int)=2) by decide,show ¬ ((4:Int)=3) by decide,if_false];rw [db,decide_eq_false hz];rfl);clear hz;go_wp2;go_ret;exact ⟨zL HE.symm,HW.1⟩
      ·have bb:(b != 0)=true:=by simpa using hb0
       have HE:Hid (qI (bks ps) n (((4,fr,to,view,b),(q0,q1,q2,q3),(v0,v1,v2,v3)))=false):=hid (by rw [d.out];unfold yCA;simp only [show ¬ ((4:Int)=1) by decide,show ¬ ((4:Int)=2) by decide,show ¬ ((4:Int)=3) by decide,if_false];rw [decide_eq_false hb0];rfl);go_wp2;go_ret;exact ⟨zL HE.symm,HW.1⟩
end Go.Proofs.YtfnneillakdopacGreatR
