/-
  A text of ours: LokS.
-/
import Derived.Test.YtdopefimjabigadGreatK3
import Derived.Test.YtdopefimjabigadGreatK4
import Derived.Test.YtdopefimjabigadGreatK1
set_option maxRecDepth 100000
set_option maxHeartbeats 32000000
namespace Go.Proofs.YtdopefimjabigadGreat
open Go.RowKit Num
def yCA (t:List BK) (n:Int) (l:LT):Bool:=
 if l.1.1=1 then decide (l.2.2=(0,0,0,0)) && (inB l.1.2.2.2.2 1 ((t.length:Int) - 1) && (decide (yR t l.1.2.2.2.2=l.1.2.2.2.1) && (decide (zIF t l.1.2.2.2.2=l.2.1) && kH t n l.2.1)))
 else if l.1.1=2 then decide (l.1.2.2.2.2=0) && (decide (l.2.1=(0,0,0,0)) && (zCI t n l.2.2 && (decide (l.2.2.2.2.2=l.1.2.1) && decide (l.2.2.2.1=l.1.2.2.2.1))))
 else if l.1.1=3 then decide (l.1.2.2.2.2=0) && (decide (l.2.2=(0,0,0,0)) && (kH t n l.2.1 && decide (l.2.1.2.1=l.1.2.2.2.1)))
 else decide (l.1.2.2.2.2=0) && (decide (l.2.2=(0,0,0,0)) && (kH t n l.2.1 && decide (l.2.1.2.1 < l.1.2.2.2.1)))
def qI (t:List BK) (n:Int) (l:LT):Bool:=inB l.1.1 1 4 && (inB l.1.2.1 0 (n - 1) && (inB l.1.2.2.1 0 (n - 1) && (inB l.1.2.2.2.1 1 900 && yCA t n l)))
theorem eqVt (q r:QC) (w:World):(Op.equalIn 10000 28 (.agg #[.int .i64 q.1,.int .i64 q.2.1,.int .i64 q.2.2.1,.int .i64 q.2.2.2]) (.agg #[.int .i64 r.1,.int .i64 r.2.1,.int .i64 r.2.2.1,.int .i64 r.2.2.2])).run Tryz.prog w=.ok (decide (q=r)) w:=by
 have u3:=Tryz.underlying3;have hS:Tryz.prog.underlying 28=some (.struct (Tryz.prog.fieldsOf 28)):=by kernel_rfl
 have hp:Tryz.prog.stoodInHeld 28=false:=by kernel_rfl
 rw [show (10000:Nat)=9999+1 from rfl,run_equalIn_agg w 9999 28 _ _ hS hp];simp only [Program.fieldsOf,Tryz.underlying28];go_simp;obtain ⟨a,b,c,d⟩:=q;obtain ⟨a',b',c',d'⟩:=r;simp only [Prod.mk.injEq]
 by_cases h1:a=a' <;> by_cases h2:b=b' <;> by_cases h3:c=c' <;> by_cases h4:d=d' <;> simp [h1,h2,h3,h4]
theorem guardVt:Tryz.prog.eqGuardType Tryz.prog.depth 28=false:=by kernel_rfl
theorem qcRight_is {ps:TL} {va:Value} {n:Int} {q:QC} {r:Bool} (h:kH (bks ps) n q=r) (w:World) (hT:jB w va ps) (hl:(ps.length:Int)≤1048576) (hn0:0≤n) (hn1:n≤7) (hq:fitQ q) :
  Calls Tryz.prog 79 #[va,.int .i64 n,.agg #[.int .i64 q.1,.int .i64 q.2.1,.int .i64 q.2.2.1,.int .i64 q.2.2.2]] w fun e w'=>e=.returned (.bool r)∧Below w.heap.size w w':=by rw [← h];exact qcRight_s ps va n q w hT hl (by omega) (by omega) hq
theorem letterOk_s (ps:TL) (va:Value) (n:Int) (l:LT) (w:World) (hT:jB w va ps) (hl:(ps.length:Int)≤1048576) (hn0:0≤n) (hn1:n≤7) (hq:fitQ l.2.1) :
  Calls Tryz.prog 32 #[va,.int .i64 n,.agg (zQ l)] w fun e w'=>e=.returned (.bool (qI (bks ps) n l))∧Below w.heap.size w w':=by
 have HT:=hid hT;have HFQ:=hid hq;have HBL:Hid ((bks ps).length=ps.length):=yO ps;have h7:¬ n > 7:=by omega
 have h7':¬ (7:Int) < n:=by omega
 have hsub:IntKind.i64.wrap (n - 1)=n - 1:=(by rw [IntKind.wrap_i64];omega);obtain ⟨⟨kind,fr,to,view,block⟩,⟨q0,q1,q2,q3⟩,⟨v0,v1,v2,v3⟩⟩:=l;obtain ⟨a,cap,rfl,hr⟩:=hT.1;have HTR:=hid hr;have EQ:=eqQ (q0,q1,q2,q3) (0,0,0,0);have GQ:=guardQ;have EV:=eqVt (v0,v1,v2,v3) (0,0,0,0);have GV:=guardVt;simp only at EQ EV;obtain ⟨W,hW⟩:∃ W,W=w.alloc (.cells (zQ (((kind,fr,to,view,block),(q0,q1,q2,q3),(v0,v1,v2,v3)))) 37):=⟨_,rfl⟩;have HW:Hid (Below w.heap.size w W∧Bx W w.heap.size (zQ (((kind,fr,to,view,block),(q0,q1,q2,q3),(v0,v1,v2,v3)))) 37):=hid (by rw [hW];exact ⟨ba (br _ _) _,heap_alloc_new w _⟩);have HX:Hid (∀ x,Below W.heap.size W x→Bx x w.heap.size (zQ (((kind,fr,to,view,block),(q0,q1,q2,q3),(v0,v1,v2,v3)))) 37):=fun x hx=>(hx.block _ (gl HW.out.2)).trans HW.out.2
 clear hT hr hq;have c0:=zB HW.out.2 0 (.int .i64 kind) rfl;have c1:=zB HW.out.2 1 (.int .i64 fr) rfl;have c2:=zB HW.out.2 2 (.int .i64 to) rfl;have c3:=zB HW.out.2 3 (.int .i64 view) rfl;have c4:=zB HW.out.2 4 (.int .i64 block) rfl;have c5:=zB HW.out.2 5 (.int .i64 q0) rfl;have c6:=zB HW.out.2 6 (.int .i64 q1) rfl;have c7:=zB HW.out.2 7 (.int .i64 q2) rfl;have c8:=zB HW.out.2 8 (.int .i64 q3) rfl;have c9:=zB HW.out.2 9 (.int .i64 v0) rfl;have c10:=zB HW.out.2 10 (.int .i64 v1) rfl;have c11:=zB HW.out.2 11 (.int .i64 v2) rfl;have c12:=zB HW.out.2 12 (.int .i64 v3) rfl;go_enter Tryz.func32,Tryz.ntmps32;go_wp2_with (rw [← hW];clear hW)
 refine (yS kind 1 4 W).mono ?_;rintro e x0 ⟨rfl,hw⟩;obtain rfl:=hw.symm;clear hw
 cases e0:inB kind 1 4 with
 | false=>
  have HE:Hid (qI (bks ps) n (((kind,fr,to,view,block),(q0,q1,q2,q3),(v0,v1,v2,v3)))=false):=hid (by unfold qI;simp only [e0];rfl);go_wp2;go_ret;exact ⟨zL HE.out.symm,HW.out.1⟩
 | true=>
  go_wp2_with fail
  refine (yS fr 0 (n - 1) W).mono ?_;rintro e x1 ⟨rfl,hw⟩;obtain rfl:=hw.symm;clear hw
  cases e1:inB fr 0 (n - 1) with
  | false=>
   have HE:Hid (qI (bks ps) n (((kind,fr,to,view,block),(q0,q1,q2,q3),(v0,v1,v2,v3)))=false):=hid (by unfold qI;simp only [e0,e1];rfl);go_wp2;go_ret;exact ⟨zL HE.out.symm,HW.out.1⟩
  | true=>
   go_wp2_with fail
   refine (yS to 0 (n - 1) W).mono ?_;rintro e x2 ⟨rfl,hw⟩;obtain rfl:=hw.symm;clear hw
   cases e2:inB to 0 (n - 1) with
   | false=>
    have HE:Hid (qI (bks ps) n (((kind,fr,to,view,block),(q0,q1,q2,q3),(v0,v1,v2,v3)))=false):=hid (by unfold qI;simp only [e0,e1,e2];rfl);go_wp2;go_ret;exact ⟨zL HE.out.symm,HW.out.1⟩
   | true=>
    go_wp2_with fail
    refine (yS view 1 900 W).mono ?_;rintro e x3 ⟨rfl,hw⟩;obtain rfl:=hw.symm;clear hw
    cases e3:inB view 1 900 with
    | false=>
     have HE:Hid (qI (bks ps) n (((kind,fr,to,view,block),(q0,q1,q2,q3),(v0,v1,v2,v3)))=false):=hid (by unfold qI;simp only [e0,e1,e2,e3];rfl);go_wp2;go_ret;exact ⟨zL HE.out.symm,HW.out.1⟩
    | true=>
     have HK4:Hid (qI (bks ps) n (((kind,fr,to,view,block),(q0,q1,q2,q3),(v0,v1,v2,v3)))=yCA (bks ps) n (((kind,fr,to,view,block),(q0,q1,q2,q3),(v0,v1,v2,v3)))):=(by unfold qI;simp only [e0,e1,e2,e3];rfl:qI (bks ps) n (((kind,fr,to,view,block),(q0,q1,q2,q3),(v0,v1,v2,v3)))=_);have hk4:kind=1∨kind=2∨kind=3∨kind=4:=by simp only [inB,decide_eq_true_eq] at e0;omega
     clear e0 e1 e2 e3
     rcases hk4 with rfl | rfl | rfl | rfl
     ·by_cases hv:(v0,v1,v2,v3)=((0,0,0,0):QC)
      ·rw [decide_eq_true hv] at EV;have HKK:Hid (yCA (bks ps) n (((1,fr,to,view,block),(q0,q1,q2,q3),(v0,v1,v2,v3)))=(inB block 1 ((ps.length:Int) - 1) && (decide (yR (bks ps) block=view) && (decide (zIF (bks ps) block=(q0,q1,q2,q3)) && kH (bks ps) n (q0,q1,q2,q3))))):=(by unfold yCA;simp only [if_true];rw [decide_eq_true hv,HBL.out];rfl:yCA (bks ps) n (((1,fr,to,view,block),(q0,q1,q2,q3),(v0,v1,v2,v3)))=_);clear hv;have hne:=yX W;have y3:∀ x:Bw W,x.to.cell? ⟨w.heap.size,3,none⟩=some (.int .i64 view):=fun x=>zB (HX.out _ x.below) 3 _ rfl
       have y4:∀ x:Bw W,x.to.cell? ⟨w.heap.size,4,none⟩=some (.int .i64 block):=fun x=>zB (HX.out _ x.below) 4 _ rfl
       have y5:∀ x:Bw W,x.to.cell? ⟨w.heap.size,5,none⟩=some (.int .i64 q0):=fun x=>zB (HX.out _ x.below) 5 _ rfl
       have y6:∀ x:Bw W,x.to.cell? ⟨w.heap.size,6,none⟩=some (.int .i64 q1):=fun x=>zB (HX.out _ x.below) 6 _ rfl
       have y7:∀ x:Bw W,x.to.cell? ⟨w.heap.size,7,none⟩=some (.int .i64 q2):=fun x=>zB (HX.out _ x.below) 7 _ rfl
       have y8:∀ x:Bw W,x.to.cell? ⟨w.heap.size,8,none⟩=some (.int .i64 q3):=fun x=>zB (HX.out _ x.below) 8 _ rfl
       cases eb:inB block 1 ((ps.length:Int) - 1) with
       | false=>
        have HE:Hid (qI (bks ps) n (((1,fr,to,view,block),(q0,q1,q2,q3),(v0,v1,v2,v3)))=false):=hid (by rw [HK4.out,HKK.out,eb];rfl);clear EQ GQ;go_wp2;refine rb ?_;repeat (go_big_quiet_step (first | (with_reducible refine zI (jU eb _))))
        refine wpQuiet_nil ?_;intro _ hw';obtain ⟨x,rfl⟩:=hw';go_wp2;go_ret;exact ⟨zL HE.out.symm,bt HW.out.1 x.below⟩
       | true=>
        have hbb:1≤block∧block≤(ps.length:Int) - 1:=by simpa [inB] using eb
        obtain ⟨bn,rfl⟩:∃ bn:Nat,block=(bn:Int):=⟨block.toNat,by omega⟩;have hbn:bn < ps.length:=by omega
        have b0:(0:Int)≤(bn:Int):=by omega
        have b1:(bn:Int) < ps.length:=by omega
        obtain ⟨gt,ot,rfl,hgt,hct⟩:=HTR.out (by omega);have HVW:Hid (yR (bks ps) (bn:Int)=ps[bn].1.1.2):=(by unfold yR;simp [bks,hbn]:yR (bks ps) (bn:Int)=_);have HJQ:Hid (zIF (bks ps) (bn:Int)=ps[bn].1.2.2):=(by unfold zIF;simp [bks,hbn]:zIF (bks ps) (bn:Int)=_);obtain ⟨vw,hvw⟩:∃ vw,vw=ps[bn].1.1.2:=⟨_,rfl⟩;obtain ⟨jq,hjq⟩:∃ jq:QC,jq=ps[bn].1.2.2:=⟨_,rfl⟩;rw [← hvw] at HVW;rw [← hjq] at HJQ;have z1:∀ x:Bw W,x.to.cell? ⟨gt,ot+bn * 7+1,none⟩=some (.int .i64 vw):=fun x=>by rw [(bt HW.out.1 x.below).cell (by exact hgt),hvw];exact hct bn hbn 1 (by omega)
        have z3:∀ x:Bw W,x.to.cell? ⟨gt,ot+bn * 7+3,none⟩=some (.int .i64 jq.1):=fun x=>by rw [(bt HW.out.1 x.below).cell (by exact hgt),hjq];exact hct bn hbn 3 (by omega)
        have z4:∀ x:Bw W,x.to.cell? ⟨gt,ot+bn * 7+3+1,none⟩=some (.int .i64 jq.2.1):=fun x=>by rw [(bt HW.out.1 x.below).cell (by exact hgt),hjq];exact hct bn hbn 4 (by omega)
        have z5:∀ x:Bw W,x.to.cell? ⟨gt,ot+bn * 7+3+2,none⟩=some (.int .i64 jq.2.2.1):=fun x=>by rw [(bt HW.out.1 x.below).cell (by exact hgt),hjq];exact hct bn hbn 5 (by omega)
        have z6:∀ x:Bw W,x.to.cell? ⟨gt,ot+bn * 7+3+3,none⟩=some (.int .i64 jq.2.2.2):=fun x=>by rw [(bt HW.out.1 x.below).cell (by exact hgt),hjq];exact hct bn hbn 6 (by omega)
        clear hct hgt hvw hjq hbb;have EJ:=eqQ jq (q0,q1,q2,q3);simp only at EJ;clear EQ
        by_cases hvv:vw=view
        ·have bv:(vw == view)=true:=by simpa using hvv
         have dv:decide (vw=view)=true:=decide_eq_true hvv;have HVV:Hid (decide (yR (bks ps) (bn:Int)=view)=true):=hid (by rw [HVW.out];exact dv);clear hvv
         by_cases hjj:jq=(q0,q1,q2,q3)
         ·rw [decide_eq_true hjj] at EJ;have HJJ:Hid (decide (zIF (bks ps) (bn:Int)=(q0,q1,q2,q3))=true):=hid (by rw [HJQ.out];exact decide_eq_true hjj);clear hjj;obtain ⟨r,hr⟩:∃ r,r=kH (bks ps) n (q0,q1,q2,q3):=⟨_,rfl⟩;have HE:Hid (qI (bks ps) n (((1,fr,to,view,(bn:Int)),(q0,q1,q2,q3),(v0,v1,v2,v3)))=r):=hid (by rw [HK4.out,HKK.out,eb,HVV.out,HJJ.out,hr];rfl);have HQR:Hid (∀ x:Bw W,Calls Tryz.prog 79 #[.slice (some ⟨gt,ot,none⟩) ps.length cap,.int .i64 n,.agg #[.int .i64 q0,.int .i64 q1,.int .i64 q2,.int .i64 q3]] x.to fun e w'=>e=.returned (.bool r)∧Below x.to.heap.size x.to w'):=fun x=>qcRight_is hr.symm x.to (HT.out.below (bt HW.out.1 x.below)) hl hn0 hn1 HFQ.out
          clear hr;go_wp2;refine rb ?_;repeat (go_big_quiet_step (first | (with_reducible refine zI (jU eb _)) | (go_at_call 79;with_reducible refine xX (HQR.out _))))
          refine wpQuiet_nil ?_;intro _ hw';obtain ⟨x,rfl⟩:=hw';go_wp2;go_ret;exact ⟨zL HE.out.symm,bt HW.out.1 x.below⟩
         ·rw [decide_eq_false hjj] at EJ;have HE:Hid (qI (bks ps) n (((1,fr,to,view,(bn:Int)),(q0,q1,q2,q3),(v0,v1,v2,v3)))=false):=hid (by rw [HK4.out,HKK.out,eb,HVV.out,HJQ.out,decide_eq_false hjj];rfl);clear hjj;go_wp2;refine rb ?_;repeat (go_big_quiet_step (first | (with_reducible refine zI (jU eb _))))
          refine wpQuiet_nil ?_;intro _ hw';obtain ⟨x,rfl⟩:=hw';go_wp2;go_ret;exact ⟨zL HE.out.symm,bt HW.out.1 x.below⟩
        ·have bv:(vw == view)=false:=by simpa using hvv
         have dv:decide (vw=view)=false:=decide_eq_false hvv;have HE:Hid (qI (bks ps) n (((1,fr,to,view,(bn:Int)),(q0,q1,q2,q3),(v0,v1,v2,v3)))=false):=hid (by rw [HK4.out,HKK.out,eb,HVW.out,dv];rfl);clear hvv EJ;go_wp2;refine rb ?_;repeat (go_big_quiet_step (first | (with_reducible refine zI (jU eb _))))
         refine wpQuiet_nil ?_;intro _ hw';obtain ⟨x,rfl⟩:=hw';go_wp2;go_ret;exact ⟨zL HE.out.symm,bt HW.out.1 x.below⟩
      ·rw [decide_eq_false hv] at EV;have HE:Hid (qI (bks ps) n (((1,fr,to,view,block),(q0,q1,q2,q3),(v0,v1,v2,v3)))=false):=hid (by rw [HK4.out];unfold yCA;simp only [if_true];rw [decide_eq_false hv];rfl);clear hv;go_wp2;go_ret;exact ⟨zL HE.out.symm,HW.out.1⟩
     ·by_cases hb0:block=0
      ·have bb:(block != 0)=false:=by simpa using hb0
       have db:decide (block=0)=true:=decide_eq_true hb0;clear hb0
       by_cases hz:(q0,q1,q2,q3)=((0,0,0,0):QC)
       ·rw [decide_eq_true hz] at EQ;have HKK:Hid (yCA (bks ps) n (((2,fr,to,view,block),(q0,q1,q2,q3),(v0,v1,v2,v3)))=(zCI (bks ps) n (v0,v1,v2,v3) && (decide (v3=fr) && decide (v1=view)))):=(by unfold yCA;simp only [show ¬ ((2:Int)=1) by decide,if_true,if_false];rw [db,decide_eq_true hz];rfl:yCA (bks ps) n (((2,fr,to,view,block),(q0,q1,q2,q3),(v0,v1,v2,v3)))=_);clear hz;go_wp2_with fail
        refine (voteOk_s ps _ n (v0,v1,v2,v3) W (HT.out.below HW.out.1) hl).mono ?_;rintro e x4 ⟨rfl,hb⟩;have HB4:Hid (Below w.heap.size w x4):=bt HW.out.1 hb;have d1:=zB (HX.out x4 hb) 1 (.int .i64 fr) rfl;have d3:=zB (HX.out x4 hb) 3 (.int .i64 view) rfl;have d10:=zB (HX.out x4 hb) 10 (.int .i64 v1) rfl;have d12:=zB (HX.out x4 hb) 12 (.int .i64 v3) rfl;clear hb
        cases hvo:zCI (bks ps) n (v0,v1,v2,v3) with
        | false=>
         have HE:Hid (qI (bks ps) n (((2,fr,to,view,block),(q0,q1,q2,q3),(v0,v1,v2,v3)))=false):=hid (by rw [HK4.out,HKK.out,hvo];rfl);go_wp2;go_ret;exact ⟨zL HE.out.symm,HB4.out⟩
        | true=>
         by_cases h1:v3=fr
         ·have b1:(v3 == fr)=true:=by simpa using h1
          have g1:decide (v3=fr)=true:=decide_eq_true h1;have HE:Hid (qI (bks ps) n (((2,fr,to,view,block),(q0,q1,q2,q3),(v0,v1,v2,v3)))=(v1 == view)):=hid (by rw [HK4.out,HKK.out,hvo,g1];by_cases hq:v1=view <;> simp [hq]);clear h1;go_wp2;go_ret;exact ⟨zL HE.out.symm,HB4.out⟩
         ·have b1:(v3 == fr)=false:=by simpa using h1
          have g1:decide (v3=fr)=false:=decide_eq_false h1;have HE:Hid (qI (bks ps) n (((2,fr,to,view,block),(q0,q1,q2,q3),(v0,v1,v2,v3)))=false):=hid (by rw [HK4.out,HKK.out,hvo,g1];rfl);go_wp2;go_ret;exact ⟨zL HE.out.symm,HB4.out⟩
       ·rw [decide_eq_false hz] at EQ;have HE:Hid (qI (bks ps) n (((2,fr,to,view,block),(q0,q1,q2,q3),(v0,v1,v2,v3)))=false):=hid (by rw [HK4.out];unfold yCA;simp only [show ¬ ((2:Int)=1) by decide,if_true,if_false];rw [db,decide_eq_false hz];rfl);clear hz;go_wp2;go_ret;exact ⟨zL HE.out.symm,HW.out.1⟩
      ·have bb:(block != 0)=true:=by simpa using hb0
       have HE:Hid (qI (bks ps) n (((2,fr,to,view,block),(q0,q1,q2,q3),(v0,v1,v2,v3)))=false):=hid (by rw [HK4.out];unfold yCA;simp only [show ¬ ((2:Int)=1) by decide,if_true,if_false];rw [decide_eq_false hb0];rfl);go_wp2;go_ret;exact ⟨zL HE.out.symm,HW.out.1⟩
     ·by_cases hb0:block=0
      ·have bb:(block != 0)=false:=by simpa using hb0
       have db:decide (block=0)=true:=decide_eq_true hb0;clear hb0
       by_cases hz:(v0,v1,v2,v3)=((0,0,0,0):QC)
       ·rw [decide_eq_true hz] at EV;have HKK:Hid (yCA (bks ps) n (((3,fr,to,view,block),(q0,q1,q2,q3),(v0,v1,v2,v3)))=(kH (bks ps) n (q0,q1,q2,q3) && decide (q1=view))):=(by unfold yCA;simp only [show ¬ ((3:Int)=1) by decide,show ¬ ((3:Int)=2) by decide,if_true,if_false];rw [db,decide_eq_true hz];rfl:yCA (bks ps) n (((3,fr,to,view,block),(q0,q1,q2,q3),(v0,v1,v2,v3)))=_);clear hz;go_wp2_with fail
        refine (qcRight_is (q:=(q0,q1,q2,q3)) rfl W (HT.out.below HW.out.1) hl hn0 hn1 HFQ.out).mono ?_;rintro e x4 ⟨rfl,hb⟩;have HB4:Hid (Below w.heap.size w x4):=bt HW.out.1 hb;have d3:=zB (HX.out x4 hb) 3 (.int .i64 view) rfl;have d6:=zB (HX.out x4 hb) 6 (.int .i64 q1) rfl;clear hb
        cases hvo:kH (bks ps) n (q0,q1,q2,q3) with
        | false=>
         have HE:Hid (qI (bks ps) n (((3,fr,to,view,block),(q0,q1,q2,q3),(v0,v1,v2,v3)))=false):=hid (by rw [HK4.out,HKK.out,hvo];rfl);go_wp2;go_ret;exact ⟨zL HE.out.symm,HB4.out⟩
        | true=>
         have HE:Hid (qI (bks ps) n (((3,fr,to,view,block),(q0,q1,q2,q3),(v0,v1,v2,v3)))=(q1 == view)):=hid (by rw [HK4.out,HKK.out,hvo];by_cases hq:q1=view <;> simp [hq]);go_wp2;go_ret;exact ⟨zL HE.out.symm,HB4.out⟩
       ·rw [decide_eq_false hz] at EV;have HE:Hid (qI (bks ps) n (((3,fr,to,view,block),(q0,q1,q2,q3),(v0,v1,v2,v3)))=false):=hid (by rw [HK4.out];unfold yCA;simp only [show ¬ ((3:Int)=1) by decide,show ¬ ((3:Int)=2) by decide,if_true,if_false];rw [db,decide_eq_false hz];rfl);clear hz;go_wp2;go_ret;exact ⟨zL HE.out.symm,HW.out.1⟩
      ·have bb:(block != 0)=true:=by simpa using hb0
       have HE:Hid (qI (bks ps) n (((3,fr,to,view,block),(q0,q1,q2,q3),(v0,v1,v2,v3)))=false):=hid (by rw [HK4.out];unfold yCA;simp only [show ¬ ((3:Int)=1) by decide,show ¬ ((3:Int)=2) by decide,if_true,if_false];rw [decide_eq_false hb0];rfl);go_wp2;go_ret;exact ⟨zL HE.out.symm,HW.out.1⟩
     ·by_cases hb0:block=0
      ·have bb:(block != 0)=false:=by simpa using hb0
       have db:decide (block=0)=true:=decide_eq_true hb0;clear hb0
       by_cases hz:(v0,v1,v2,v3)=((0,0,0,0):QC)
       ·rw [decide_eq_true hz] at EV;have HKK:Hid (yCA (bks ps) n (((4,fr,to,view,block),(q0,q1,q2,q3),(v0,v1,v2,v3)))=(kH (bks ps) n (q0,q1,q2,q3) && decide (q1 < view))):=(by unfold yCA;simp only [show ¬ ((4:Int)=1) by decide,show ¬ ((4:Int)=2) by decide,show ¬ ((4:Int)=3) by decide,if_false];rw [db,decide_eq_true hz];rfl:yCA (bks ps) n (((4,fr,to,view,block),(q0,q1,q2,q3),(v0,v1,v2,v3)))=_);clear hz;go_wp2_with fail
        refine (qcRight_is (q:=(q0,q1,q2,q3)) rfl W (HT.out.below HW.out.1) hl hn0 hn1 HFQ.out).mono ?_;rintro e x4 ⟨rfl,hb⟩;have HB4:Hid (Below w.heap.size w x4):=bt HW.out.1 hb;have d3:=zB (HX.out x4 hb) 3 (.int .i64 view) rfl;have d6:=zB (HX.out x4 hb) 6 (.int .i64 q1) rfl;clear hb
        cases hvo:kH (bks ps) n (q0,q1,q2,q3) with
        | false=>
         have HE:Hid (qI (bks ps) n (((4,fr,to,view,block),(q0,q1,q2,q3),(v0,v1,v2,v3)))=false):=hid (by rw [HK4.out,HKK.out,hvo];rfl);go_wp2;go_ret;exact ⟨zL HE.out.symm,HB4.out⟩
        | true=>
         have HE:Hid (qI (bks ps) n (((4,fr,to,view,block),(q0,q1,q2,q3),(v0,v1,v2,v3)))=decide (q1 < view)):=hid (by rw [HK4.out,HKK.out,hvo];rfl);go_wp2;go_ret;exact ⟨zL HE.out.symm,HB4.out⟩
       ·rw [decide_eq_false hz] at EV;have HE:Hid (qI (bks ps) n (((4,fr,to,view,block),(q0,q1,q2,q3),(v0,v1,v2,v3)))=false):=hid (by rw [HK4.out];unfold yCA;simp only [show ¬ ((4:Int)=1) by decide,show ¬ ((4:Int)=2) by decide,show ¬ ((4:Int)=3) by decide,if_false];rw [db,decide_eq_false hz];rfl);clear hz;go_wp2;go_ret;exact ⟨zL HE.out.symm,HW.out.1⟩
      ·have bb:(block != 0)=true:=by simpa using hb0
       have HE:Hid (qI (bks ps) n (((4,fr,to,view,block),(q0,q1,q2,q3),(v0,v1,v2,v3)))=false):=hid (by rw [HK4.out];unfold yCA;simp only [show ¬ ((4:Int)=1) by decide,show ¬ ((4:Int)=2) by decide,show ¬ ((4:Int)=3) by decide,if_false];rw [decide_eq_false hb0];rfl);go_wp2;go_ret;exact ⟨zL HE.out.symm,HW.out.1⟩
end Go.Proofs.YtdopefimjabigadGreat
