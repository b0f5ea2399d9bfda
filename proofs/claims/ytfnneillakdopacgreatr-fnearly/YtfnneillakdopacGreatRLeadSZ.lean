/-
  A text of ours: LeadS.
-/
import Derived.Test.YtfnneillakdopacGreatRK1
import Derived.Test.YtfnneillakdopacGreatRNewSZ
import Derived.Test.YtfnneillakdopacGreatRK3
import Derived.Test.YtfnneillakdopacGreatRK4
import Derived.Deep.AppendLies
import Derived.Deep.DeepCutAuto
set_option maxRecDepth 100000
set_option maxHeartbeats 32000000
namespace Go.Proofs.YtfnneillakdopacGreatR
open _root_.Go.Proofs.Tryz
open Go.Value renaming int->I,oneCell'->Ai
open Go.IntKind renaming i64->U,wrap_i64->Ak
open Option renaming none->Aa,some->Ab
open Nat renaming le_trans->Ac,lt_of_lt_of_le->Ad
open Option.some renaming inj->Ae
open List renaming length_append->Af
open Go.World.ownsRow renaming kept->Ag
open _root_.Array renaming replicate->Ah
open Or renaming inr->Aj
open Go.RowKit Num
variable {N lo:Nat} {p:PE} {s:PV} {v:VT} {w x y:World}
def chainView (v:VT):Int:=if v.1=4 then v.2.1+1 else v.2.1
def ledP (p:PE) (n:Int) (v:VT):PE:=if v.1=4/\xQ (v.2.1+1) n=p.id/\v.2.1+1=p.view+1 then yI p (v.2.1+1) else p
def saysL (p:PE) (q:QC) (i:Nat):LT:=kX p 3 (i:Int) q (0,0,0,0)
def zAH (p:PE) (q:QC):Nat->List LT
 | 0=>[]
 | i+1=>zAH p q i ++ [saysL p q i]
theorem says_len (p:PE) (q:QC):∀ i,(zAH p q i).length=i
 | 0=>rfl
 | i+1=>by unfold zAH;rw [Af,says_len p q i];rfl
def leadQ (p:PE) (n:Int) (v:VT):PE × List LT:=
 if zFH (jP p.votes v.1 v.2.1 v.2.2.1)=zBD n then
  (if v.1=4 then ({ p with high:=yF p.high (zHE p.votes v.1 v.2.1 v.2.2.1 n).1 },[]) else (p,zAH p (zHE p.votes v.1 v.2.1 v.2.2.1 n).1 n.toNat))
 else (p,[])
def leadR (p:PE) (n:Int) (v:VT):PE × List LT:=
 if p.view=chainView v/\xQ (chainView v) n=p.id/\hasV p.votes v=false then leadQ { p with votes:=p.votes ++ [v] } n v else (p,[])
def zCF (p:PE) (n:Int) (v:VT):PE × List LT:=leadR (ledP p n v) n v
theorem led_small (h:yC p) (n:Int) (v:VT):yC (ledP p n v):=by
 unfold ledP
 split
 ·exact zHA h _
 ·exact h
theorem led_votes (n:Int) (v:VT):(ledP p n v).votes.length<=p.votes.length:=by
 unfold ledP yI
 split
 ·split
  ·simp
  ·exact nl _
 ·exact nl _
theorem inSix_lim {hi:Nat} (h:zO lo hi w p s) {g:Nat} (hg:zIE s g):lo<=g/\g < hi:=by
 obtain ⟨a,ha,e⟩:=hg;exact zED h.2.1 a ha g e
theorem six_votes {v:Value} {g:Nat} (h:zIE {s with votes:=v } g):v.ownBlock=some g∨zIE s g:=by
 obtain ⟨a,ha,e⟩:=h;simp only [six,List.mem_cons,List.not_mem_nil,or_false] at ha
 rcases ha with rfl | rfl | rfl | rfl | rfl | rfl
 ·exact Aj ⟨_,by simp [six],e⟩
 ·exact Aj ⟨_,by simp [six],e⟩
 ·exact Aj ⟨_,by simp [six],e⟩
 ·exact Aj ⟨_,by simp [six],e⟩
 ·exact Or.inl e
 ·exact Aj ⟨_,by simp [six],e⟩
structure PtV (w y:World) (N lo:Nat) (p:PE) (s:PV) (v:VT):Prop where
 ptr:Bx y N (zA p s) 35
 box:Bx y w.heap.size #[I U v.1,I U v.2.1,I U v.2.2.1,I U v.2.2.2] 28
 own:zO lo y.heap.size y p s
 grown:w.grownBy y (some N)
 out:y.ownsRow w.heap.size 61 13 (.slice (Ab ⟨w.heap.size+1,0,Aa⟩) 0 0) 0 []
 far:∀ g,zIE s g->g ≠ w.heap.size+1
theorem PtV.lt (h:PtV w y N lo p s v):w.heap.size+1 < y.heap.size:=(h.out.lt _ rfl).2
theorem PtV.more (h:PtV w y N lo p s v) (hb:Be y x):PtV w x N lo p s v:=
 ⟨bk hb h.ptr,bk hb h.box,(h.own.below hb).wide hb.size (nl _),zP h.grown (yG hb),zS h.out hb,h.far⟩
theorem PtV.put {q:PE} {s':PV} (h:PtV w y N lo p s v) (hN:N < w.heap.size) (hg:y.grownBy x (some N)) (hk:Bx x N (zA q s') 35) (ho:zO lo x.heap.size x q s') (hf:∀ g,zIE s' g->g ≠ w.heap.size+1):PtV w x N lo q s' v:=
 ⟨hk,gk hg h.box (qsn (by omega)),ho,zP h.grown hg,Ag h.out hg (zH h.out h.ptr (by decide)),hf⟩
structure PtC (w y:World) (N Nq lo:Nat) (p:PE) (s:PV) (q:QC):Prop where
 ptr:Bx y N (zA p s) 35
 qc:Bx y Nq #[I U q.1,I U q.2.1,I U q.2.2.1,I U q.2.2.2] 26
 own:zO lo y.heap.size y p s
 grown:w.grownBy y (some N)
theorem PtC.more {Nq:Nat} {q:QC} (h:PtC w y N Nq lo p s q) (hb:Be y x):PtC w x N Nq lo p s q:=
 ⟨bk hb h.ptr,bk hb h.qc,(h.own.below hb).wide hb.size (nl _),zP h.grown (yG hb)⟩
theorem PtC.grow {Nq n:Nat} {q:QC} {v:Value} {xs:List Value} (h:PtC w y N Nq lo p s q) (hN:N < w.heap.size) (ho:y.ownsRow w.heap.size 61 13 v n xs) (hg:y.grownBy x v.ownBlock) (ha:∀ g,zIE s g->v.ownBlock ≠ some g):PtC w x N Nq lo p s q:=by
 have hf:FrS (fun k=>v.ownBlock=some k) y x:=FrS.of_grown hg (fun g e=>e);refine ⟨gk hg h.ptr (fun e=>by have:=(ho.lt N e.symm).1;omega),gk hg h.qc (fun e=>?_),(h.own.frs hf ha).wide hg.size (nl _),⟨hg.os.trans h.grown.os,hg.tape.trans h.grown.tape,hg.output.trans h.grown.output,Ac h.grown.size hg.size,fun k hk hn=>(hg.block k (Ad hk h.grown.size) (fun e=>by have:=(ho.lt k e.symm).1;omega)).trans (h.grown.block k hk hn)⟩⟩
 rcases zH ho h.qc (by decide) with hh | hh
 ·rw [hh] at e;cases e
 ·exact hh e.symm
theorem vote_p (p:PE) (s:PV) (N lo hi:Nat) (n:Int) (v:VT) (w:World) (hD:zO lo hi w p s) (hN:Bx w N (zA p s) 35) (hlo:lo<=w.heap.size) (hs:yC p) (hvl:(p.votes.length:Int)+1<=1048576)
  (hn0:0<=n) (hn1:n<=7) (hv0:-9223372036854775808<=v.2.1) (hv1:v.2.1 < 9223372036854775807) (hp0:-9223372036854775808<=p.view) (hp1:p.view < 9223372036854775807) :
  Calls prog 120 #[.pointer (Ab ⟨N,0,Aa⟩),I U n,.agg #[I U v.1,I U v.2.1,I U v.2.2.1,I U v.2.2.2]] w fun e w'=>∃ v',e=.returned v'/\w.grownBy w' (some N)/\(∃ s',Bx w' N (zA (zCF p n v).1 s') 35/\zO lo w'.heap.size w' (zCF p n v).1 s')/\w'.ownsRow w.heap.size 61 13 v' (zCF p n v).2.length (zE yE (zCF p n v).2):=by
 obtain ⟨v0,v1,v2,v3⟩:=v;simp only at hv0 hv1 ⊢;have HS:=hid hs;have ar:N < w.heap.size:=(gl hN);obtain ⟨li,az,ai,ak,aj⟩:=info_parts infoVote;obtain ⟨ri,cw,cl,cq,ch⟩:=info_parts zBJ;obtain ⟨W,hW⟩:=nw ((w.alloc (.cells #[I U v0,I U v1,I U v2,I U v3] 28)).alloc (.cells #[] 61))
 have HW:Hid (PtV w W N lo p s (v0,v1,v2,v3)):=(by
  have hb:Be w W:=by rw [hW];exact ba (ba (br _ _) _) _
  have h:=zN (yH (w.alloc (.cells #[I U v0,I U v1,I U v2,I U v3] 28)) 61 13) (show w.heap.size<=(w.alloc (.cells #[I U v0,I U v1,I U v2,I U v3] 28)).heap.size by simp)
  exact ⟨(hb.block _ ar).trans hN,by rw [hW];exact (qK w _ _).1,(hD.below hb).wide (Ac hD.2.2 hb.size) (nl _),yG hb,by rw [hW];simpa using h,fun g hg=>by have:=(inSix_lim hD hg).2;have:=hD.2.2;omega⟩:PtV w W N lo p s (v0,v1,v2,v3))
 obtain ⟨VW,ca⟩:=nw (chainView (v0,v1,v2,v3));obtain ⟨Q,hQ⟩:=nw (ledP p n (v0,v1,v2,v3));have ce:Hid (yC Q/\(Q.votes.length:Int)+1<=1048576):=hid (by rw [hQ];exact ⟨led_small HS _ _,by have:=led_votes (p:=p) n (v0,v1,v2,v3);omega⟩);have HR:Hid (zCF p n (v0,v1,v2,v3)=leadR Q n (v0,v1,v2,v3)):=(by rw [hQ];rfl:zCF p n (v0,v1,v2,v3)=_);have HQ:=hid hQ;have a3:=hid ca;have b6:-9223372036854775808<=VW/\VW<=9223372036854775807:=by rw [ca];unfold chainView;simp only;split <;> omega
 have ax:=b6.1;have aw:=b6.2;obtain ⟨R,hR⟩:=nw (zCF p n (v0,v1,v2,v3));rw [<- hR] at HR ⊢;clear hD hN hs hvl hQ ca b6 hR;have u:-9223372036854775808<=n:=by omega
 have aa:n<=9223372036854775807:=by omega
 go_enter func120,ntmps120;have w0:=zB HW.box 0 (I U v0) rfl;have w1:=zB HW.box 1 (I U v1) rfl
 go_upto_region 2 with fail
 rw [<- hW];clear hW
 go_upto_if 17 with fail
 go_cut [8] (fun vw wx=>vw=I U VW/\∃ s1,PtV w wx N lo Q s1 (v0,v1,v2,v3))
 case first=>
  have a1:=yX W
  by_cases h4:v0=4
  ·subst h4;have a5:VW=v1+1:=by rw [a3.out];rfl
   have c4:IntKind.i64.wrap (v1+1)=v1+1:=(by rw [Ak];omega);have c3:IntKind.i64.wrap (p.view+1)=p.view+1:=(by rw [Ak];omega);have y0:∀ x:Bw W,x.to.cell? ⟨N,0,Aa⟩=Ab (I U p.id):=fun x=>zB (HW.more x.below).ptr 0 _ rfl
   have y1:∀ x:Bw W,x.to.cell? ⟨N,1,Aa⟩=Ab (I U p.view):=fun x=>zB (HW.more x.below).ptr 1 _ rfl
   obtain ⟨ld,e1⟩:∃ ld,xQ (v1+1) n=ld:=⟨_,rfl⟩;have bz:-9223372036854775808<=v1+1:=by omega
   have b7:v1+1<=9223372036854775807:=by omega
   by_cases hl:ld=p.id
   ·have bl:(ld == p.id)=true:=by simpa using hl
    have dl:decide (ld=p.id)=true:=decide_eq_true hl
    by_cases hv:v1+1=p.view+1
    ·have bv:(v1+1 == p.view+1)=true:=by simpa using hv
     have dv:decide (v1+1=p.view+1)=true:=decide_eq_true hv;have av:Hid (Q=yI p (v1+1)):=(by rw [HQ.out];unfold ledP;rw [if_pos ⟨rfl,e1.trans hl,hv⟩]:Q=_);clear hl hv;go_wp2;clear w0 w1;refine rb ?_;repeat (go_big_quiet_step (first | (with_reducible refine zI (xR e1 u aa bz b7 _))))
     refine qnn fun xq=>?_
     have HX:Hid (PtV w xq.to N lo p s (4,v1,v2,v3)):=HW.more xq.below;obtain ⟨y,hy⟩:=nw xq.to;rw [<- hy] at HX ⊢;clear hy y0 y1 a1 HW;go_wp2_with (refine w_ld N HX.ptr underlying35 ?_)
     refine (zCB p s (v1+1) y HX.own.reads HS).mono ?_;rw [<- av.out];rintro e x1 ⟨s1,rfl,ho,hb⟩;have ct:Hid (∀ g,zIE s1 g->g ≠ w.heap.size+1):=fun g hg=>by have:=(inSix_lim ho hg).1;have:=HX.lt;omega
     have cg:Hid (zO lo x1.heap.size x1 Q s1):=ho.low (Ac hlo HX.grown.size);have cc:Hid (PtV w x1 N lo p s (4,v1,v2,v3)):=HX.more hb;clear ho hb HX;go_wp2_with (refine w_st N (zA Q s1) cc.ptr (zJ cg.1) ?_;intro y2 hg hk hz;have cx:Hid (PtV w y2 N lo Q s1 (4,v1,v2,v3)):=cc.put ar hg hk ((cg.boxed cc.ptr hg).wide hg.size (nl _)) ct;clear hg hk hz)
     go_meet
     case rel=>exact ⟨by rw [a5],s1,cx⟩
    ·have bv:(v1+1 == p.view+1)=false:=by simpa using hv
     have dv:decide (v1+1=p.view+1)=false:=decide_eq_false hv;have av:Hid (Q=p):=(by rw [HQ.out];unfold ledP;rw [if_neg (fun h=>hv h.2.2)]:Q=_);clear hl hv;go_wp2;clear w0 w1;refine rb ?_;repeat (go_big_quiet_step (first | (with_reducible refine zI (xR e1 u aa bz b7 _))))
     refine qnn fun xq=>?_
     go_wp2
     go_meet
     case rel=>exact ⟨by rw [a5],s,by rw [av.out];exact HW.out.more xq.below⟩
   ·have bl:(ld == p.id)=false:=by simpa using hl
    have dl:decide (ld=p.id)=false:=decide_eq_false hl;have av:Hid (Q=p):=(by rw [HQ.out];unfold ledP;rw [if_neg (fun h=>hl (e1.symm.trans h.2.1))]:Q=_);clear hl;go_wp2;clear w0 w1;refine rb ?_;repeat (go_big_quiet_step (first | (with_reducible refine zI (xR e1 u aa bz b7 _))))
    refine qnn fun xq=>?_
    go_wp2
    go_meet
    case rel=>exact ⟨by rw [a5],s,by rw [av.out];exact HW.out.more xq.below⟩
  ·have b4:(v0 == 4)=false:=by simpa using h4
   have a5:VW=v1:=by rw [a3.out];exact if_neg h4
   have av:Hid (Q=p):=(by rw [HQ.out];unfold ledP;rw [if_neg (fun h=>h4 h.1)]:Q=_);clear a1;go_wp2
   go_meet
   case rel=>exact ⟨by rw [a5],s,by rw [av.out];exact HW.out⟩
 case rest=>
  obtain ⟨rfl,s1,hY⟩:=hcut;have HY:=hid hY;clear hY w0 w1 HW;have a1:=yX wc;have y0:∀ x:Bw wc,x.to.cell? ⟨N,0,Aa⟩=Ab (I U Q.id):=fun x=>zB (HY.more x.below).ptr 0 _ rfl
  have y1:∀ x:Bw wc,x.to.cell? ⟨N,1,Aa⟩=Ab (I U Q.view):=fun x=>zB (HY.more x.below).ptr 1 _ rfl
  have bu:∀ x:Bw wc,x.to.cell? ⟨N,18,Aa⟩=some s1.votes:=fun x=>zB (HY.more x.below).ptr 18 _ rfl
  have z0:∀ x:Bw wc,x.to.cell? ⟨w.heap.size,0,Aa⟩=Ab (I U v0):=fun x=>zB (HY.more x.below).box 0 _ rfl
  have z1:∀ x:Bw wc,x.to.cell? ⟨w.heap.size,1,Aa⟩=Ab (I U v1):=fun x=>zB (HY.more x.below).box 1 _ rfl
  have z2:∀ x:Bw wc,x.to.cell? ⟨w.heap.size,2,Aa⟩=Ab (I U v2):=fun x=>zB (HY.more x.below).box 2 _ rfl
  have z3:∀ x:Bw wc,x.to.cell? ⟨w.heap.size,3,Aa⟩=Ab (I U v3):=fun x=>zB (HY.more x.below).box 3 _ rfl
  obtain ⟨ld,e1⟩:∃ ld,xQ VW n=ld:=⟨_,rfl⟩;obtain ⟨hv,e2⟩:∃ hv,hasV Q.votes (v0,v1,v2,v3)=hv:=⟨_,rfl⟩;have bb:Hid (∀ x:Bw wc,Calls prog 156 #[s1.votes,.agg #[I U v0,I U v1,I U v2,I U v3]] x.to fun e w'=>e=.returned (.bool hv)/\Below x.to.heap.size x.to w'):=fun x=>by rw [<- e2];exact has_s Q.votes s1.votes (v0,v1,v2,v3) x.to (HY.more x.below).own.reads.votes (by have:=ce.2;omega)
  by_cases h1:Q.view=VW
  ·have b1:(Q.view != VW)=false:=by simpa using h1
   have d1:decide (Q.view=VW)=true:=decide_eq_true h1
   by_cases h2:ld=Q.id
   ·have b2:(ld != Q.id)=false:=by simpa using h2
    have d2:decide (ld=Q.id)=true:=decide_eq_true h2
    cases hv with
    | true=>
     have HE:Hid (R=(Q,[])):=(by rw [HR.out];unfold leadR;rw [if_neg (fun h=>by rw [e2] at h;exact absurd h.2.2 (by decide))]:R=_);clear h1 h2 e2;go_wp2;refine rb ?_;repeat (go_big_quiet_step (first | (with_reducible refine zI (xR e1 u aa ax aw _)) | (go_at_call 156;with_reducible refine xX (bb.out _))))
     refine qnn fun xq=>?_
     go_wp2;go_ret;rw [HE.out];exact ⟨_,rfl,(HY.more xq.below).grown,⟨s1,(HY.more xq.below).ptr,(HY.more xq.below).own⟩,(HY.more xq.below).out⟩
    | false=>
     obtain ⟨q2,an⟩:∃ q2:PE,q2={ Q with votes:=Q.votes ++ [(v0,v1,v2,v3)] }:=⟨_,rfl⟩;have HE:Hid (R=leadQ q2 n (v0,v1,v2,v3)):=(by rw [HR.out,an];unfold leadR;rw [<- a3.out,if_pos ⟨h1,e1.trans h2,e2⟩]:R=_);clear h1 h2 e2;go_wp2;refine rb ?_;repeat (go_big_quiet_step (first | (with_reducible refine zI (xR e1 u aa ax aw _)) | (go_at_call 156;with_reducible refine xX (bb.out _))))
     refine qnn fun xq=>?_
     have HX:Hid (PtV w xq.to N lo Q s1 (v0,v1,v2,v3)):=HY.more xq.below;obtain ⟨y,hy⟩:=nw xq.to;rw [<- hy] at HX ⊢;clear hy y0 y1 bu z0 z1 z2 z3 a1 HY bb
     go_upto_region 9 with fail
     go_cut [] (fun wx=>∃ s2,PtV w wx N lo q2 s2 (v0,v1,v2,v3))
     case first=>
      have c6:=ce.2;have c5:w.heap.size < y.heap.size:=(gl HX.box);refine p_rg (fun i=>decide (i < 12)) (fun x=>Bx x N (zA Q s1) 35/\Bx x w.heap.size #[I U v0,I U v1,I U v2,I U v3] 28) ?_;show zX prog _ _ _ _ _ (12+1) (Ah 13 false) _ _;have hS:Bx y.drew N (zA Q s1) 35/\Bx y.drew w.heap.size #[I U v0,I U v1,I U v2,I U v3] 28:=⟨HX.ptr,HX.box⟩;have K:∀ x,Be y x->Bx x N (zA Q s1) 35/\Bx x w.heap.size #[I U v0,I U v1,I U v2,I U v3] 28:=fun x hb=>⟨(HX.more hb).ptr,(HX.more hb).box⟩
      have RD:∀ x,Be y x->yM x s1.votes 4 xD Q.votes:=fun x hb=>(HX.more hb).own.reads.votes
      refine p_pt 0 70 N 0 hS ?_;refine p_pt 2 72 N 0 hS ?_;refine p_pt 3 73 N 0 hS ?_;refine p_pt 4 74 N 18 hS ?_;refine zD 5 75 s1.votes hS ?_ (hy:=by intro x hx;have c:=zB hx.1 18 s1.votes rfl;go_simp;try rfl);refine zD 7 77 (.agg #[I U v0,I U v1,I U v2,I U v3]) hS ?_ (hy:=fun x hx=>ldb w.heap.size hx.2 underlying28);have a6:=bw y;refine zFC (i:=1) (j:=8) (by kernel_rfl) ?_ ?_
      ·obtain ⟨y1,al⟩:=nw (y.drew.alloc (.cells #[] 28));have ad:Be y y1:=by rw [al];exact a6.alloc a6.size _
       have b9:y1.ownsRow y.heap.size 28 4 (.slice (Ab ⟨y.drew.heap.size,0,Aa⟩) 0 0) ([]:List VT).length (zE xD []):=by rw [al];exact zN (yH y.drew _ _) a6.size
       refine xU (s:=1) (e':=some 71) rfl rfl rfl (.slice (Ab ⟨y.drew.heap.size,0,Aa⟩) 0 0) y1 ?_ ⟨fun _=>K y1 ad,?_⟩
       ·rw [al];go_simp
        try rfl
       simp only [pz];refine zFC (i:=6) (j:=8) (by kernel_rfl) ?_ ?_
       ·refine xS (s:=6) (e':=some 76) rfl rfl rfl (.tmp 71) (.tmp 75) 32 rfl y.heap.size 28 li _ 32 underlying32 az ai ak aj rfl (by decide) kW kP (.slice (Ab ⟨y.drew.heap.size,0,Aa⟩) 0 0) [] rfl b9 _ Q.votes rfl (RD y1 ad) (by simp;unfold maxLen;omega) (by simp;omega) ad.size ?_;intro a2 y2 bj cr cy;simp only [List.nil_append] at bj;have ab:Be y y2:=ad.grown cr ad.size (fun k hk=>(b9.lt k hk).1);refine ⟨fun _=>K y2 ab,?_⟩;simp only [pz];obtain ⟨y3,bg⟩:=nw (y2.alloc (.cells #[I U v0,I U v1,I U v2,I U v3] 28));have ac:Be y y3:=by rw [bg];exact ab.alloc ab.size _
        have bc:Bx y3 y2.heap.size #[I U v0,I U v1,I U v2,I U v3] 28:=by rw [bg];exact heap_alloc_new y2 _
        refine p_on 8 ?_;refine xU (s:=8) (e':=some 78) rfl rfl rfl (.slice (Ab ⟨y2.heap.size,0,Aa⟩) 1 1) y3 ?_ ⟨fun _=>K y3 ac,?_⟩
        ·rw [bg];go_simp
         try rfl
        simp only [pz];have t:=zS bj (show Be y2 y3 by rw [bg];exact (br _ _).alloc (nl _) _);refine qO (s:=9) (e':=some 79) rfl rfl rfl (.tmp 76) (.tmp 78) 32 rfl (by kernel_rfl) y.heap.size 28 li _ 4 32 underlying32 az ai ak aj rfl (by decide) a2 _ _ rfl t ⟨y2.heap.size,0,Aa⟩ 1 1 (xD (v0,v1,v2,v3)) rfl rfl (World.news_of_block bc) (kP _) (by decide) (by unfold maxLen;omega) (by omega) ac.size _ rfl ?_;intro g2 r z a4 ag ao ap;have l:Be y z:=ac.grown ag ac.size (fun k hk=>(t.lt k hk).1);refine ⟨fun _=>K z l,?_⟩;simp only [pz];refine zD 10 80 (.pointer (Ab ⟨N,0,Aa⟩)) (K z l) ?_;refine zD 11 81 (.pointer (Ab ⟨N,18,Aa⟩)) (K z l) ?_;refine p_ce 12 N 18 (.slice (Ab ⟨g2,0,Aa⟩) (Q.votes.length+1) r) (zA Q s1) (zA q2 { s1 with votes:=.slice (Ab ⟨g2,0,Aa⟩) (Q.votes.length+1) r }) ((K z l).1) (by simp [zA]) rfl (by rw [an];rfl) ?_;intro z2 hg hk
        have HZ:Hid (PtV w z2 N lo q2 { s1 with votes:=.slice (Ab ⟨g2,0,Aa⟩) (Q.votes.length+1) r } (v0,v1,v2,v3)):=(by
         have t:z.ownsRow y.heap.size 28 4 (.slice (Ab ⟨g2,0,Aa⟩) (Q.votes.length+1) r) (Q.votes ++ [(v0,v1,v2,v3)]).length (zE xD (Q.votes ++ [(v0,v1,v2,v3)])):=by rw [Af,zY];simpa [zE] using a4
         have a9:=Ag t hg (zH t (K z l).1 (by decide));refine (HX.more l).put ar hg hk ?_ (fun g hg=>(six_votes hg).elim (fun e=>by have:=(t.lt g e).1;have:=HX.lt;omega) (HX.far g));rw [an]
         exact (HX.own.below l).boxed (K z l).1 hg |>.setVotes (Ac l.size hg.size) (nl _) (zN a9 (Ac hlo HX.grown.size)) (fun g e=>by cases e;exact Ad ap hg.size) (fun g e=>Aj (t.lt g e).1):PtV w z2 N lo q2 _ (v0,v1,v2,v3))
        refine ⟨fun h=>absurd h (by decide),?_⟩;refine p_do ?_;go_wp2
        go_meet
        case rel=>exact ⟨_,HZ⟩
       ·obtain ⟨y2,af⟩:=nw (y1.alloc (.cells #[I U v0,I U v1,I U v2,I U v3] 28));have ab:Be y y2:=by rw [af];exact ad.alloc ad.size _
        have c2:Bx y2 y1.heap.size #[I U v0,I U v1,I U v2,I U v3] 28:=by rw [af];exact heap_alloc_new y1 _
        refine xU (s:=8) (e':=some 78) rfl rfl rfl (.slice (Ab ⟨y1.heap.size,0,Aa⟩) 1 1) y2 ?_ ⟨fun _=>K y2 ab,?_⟩
        ·rw [af];go_simp
         try rfl
        simp only [pz];have a8:=zS b9 (show Be y1 y2 by rw [af];exact (br _ _).alloc (nl _) _);refine p_on 6 ?_;refine xS (s:=6) (e':=some 76) rfl rfl rfl (.tmp 71) (.tmp 75) 32 rfl y.heap.size 28 li _ 32 underlying32 az ai ak aj rfl (by decide) kW kP (.slice (Ab ⟨y.drew.heap.size,0,Aa⟩) 0 0) [] rfl a8 _ Q.votes rfl (RD y2 ab) (by simp;unfold maxLen;omega) (by simp;omega) ab.size ?_;intro a2 y3 ae aq bp;simp only [List.nil_append] at ae;have ac:Be y y3:=ab.grown aq ab.size (fun k hk=>(a8.lt k hk).1);refine ⟨fun _=>K y3 ac,?_⟩;simp only [pz];have bc:Bx y3 y1.heap.size #[I U v0,I U v1,I U v2,I U v3] 28:=gk aq c2 (fun e=>by have e:=Ae e;rw [al] at e;simp at e);refine qO (s:=9) (e':=some 79) rfl rfl rfl (.tmp 76) (.tmp 78) 32 rfl (by kernel_rfl) y.heap.size 28 li _ 4 32 underlying32 az ai ak aj rfl (by decide) a2 _ _ rfl ae ⟨y1.heap.size,0,Aa⟩ 1 1 (xD (v0,v1,v2,v3)) rfl rfl (World.news_of_block bc) (kP _) (by decide) (by unfold maxLen;omega) (by omega) ac.size _ rfl ?_;intro g2 r z a4 ag ao ap;have l:Be y z:=ac.grown ag ac.size (fun k hk=>(ae.lt k hk).1);refine ⟨fun _=>K z l,?_⟩;simp only [pz];refine zD 10 80 (.pointer (Ab ⟨N,0,Aa⟩)) (K z l) ?_;refine zD 11 81 (.pointer (Ab ⟨N,18,Aa⟩)) (K z l) ?_;refine p_ce 12 N 18 (.slice (Ab ⟨g2,0,Aa⟩) (Q.votes.length+1) r) (zA Q s1) (zA q2 { s1 with votes:=.slice (Ab ⟨g2,0,Aa⟩) (Q.votes.length+1) r }) ((K z l).1) (by simp [zA]) rfl (by rw [an];rfl) ?_;intro z2 hg hk
        have HZ:Hid (PtV w z2 N lo q2 { s1 with votes:=.slice (Ab ⟨g2,0,Aa⟩) (Q.votes.length+1) r } (v0,v1,v2,v3)):=(by
         have t:z.ownsRow y.heap.size 28 4 (.slice (Ab ⟨g2,0,Aa⟩) (Q.votes.length+1) r) (Q.votes ++ [(v0,v1,v2,v3)]).length (zE xD (Q.votes ++ [(v0,v1,v2,v3)])):=by rw [Af,zY];simpa [zE] using a4
         have a9:=Ag t hg (zH t (K z l).1 (by decide));refine (HX.more l).put ar hg hk ?_ (fun g hg=>(six_votes hg).elim (fun e=>by have:=(t.lt g e).1;have:=HX.lt;omega) (HX.far g));rw [an]
         exact (HX.own.below l).boxed (K z l).1 hg |>.setVotes (Ac l.size hg.size) (nl _) (zN a9 (Ac hlo HX.grown.size)) (fun g e=>by cases e;exact Ad ap hg.size) (fun g e=>Aj (t.lt g e).1):PtV w z2 N lo q2 _ (v0,v1,v2,v3))
        refine ⟨fun h=>absurd h (by decide),?_⟩;refine p_do ?_;go_wp2
        go_meet
        case rel=>exact ⟨_,HZ⟩
      ·obtain ⟨y1,al⟩:=nw (y.drew.alloc (.cells #[I U v0,I U v1,I U v2,I U v3] 28));have ad:Be y y1:=by rw [al];exact a6.alloc a6.size _
       have cf:Bx y1 y.drew.heap.size #[I U v0,I U v1,I U v2,I U v3] 28:=by rw [al];exact heap_alloc_new y.drew _
       refine xU (s:=8) (e':=some 78) rfl rfl rfl (.slice (Ab ⟨y.drew.heap.size,0,Aa⟩) 1 1) y1 ?_ ⟨fun _=>K y1 ad,?_⟩
       ·rw [al];go_simp
        try rfl
       simp only [pz];obtain ⟨y2,af⟩:=nw (y1.alloc (.cells #[] 28));have ab:Be y y2:=by rw [af];exact ad.alloc ad.size _
       have a8:y2.ownsRow y.heap.size 28 4 (.slice (Ab ⟨y1.heap.size,0,Aa⟩) 0 0) ([]:List VT).length (zE xD []):=by rw [af];exact zN (yH y1 _ _) ad.size
       refine p_on 1 ?_;refine xU (s:=1) (e':=some 71) rfl rfl rfl (.slice (Ab ⟨y1.heap.size,0,Aa⟩) 0 0) y2 ?_ ⟨fun _=>K y2 ab,?_⟩
       ·rw [af];go_simp
        try rfl
       simp only [pz];refine p_on 6 ?_;refine xS (s:=6) (e':=some 76) rfl rfl rfl (.tmp 71) (.tmp 75) 32 rfl y.heap.size 28 li _ 32 underlying32 az ai ak aj rfl (by decide) kW kP (.slice (Ab ⟨y1.heap.size,0,Aa⟩) 0 0) [] rfl a8 _ Q.votes rfl (RD y2 ab) (by simp;unfold maxLen;omega) (by simp;omega) ab.size ?_;intro a2 y3 ae aq bp;simp only [List.nil_append] at ae;have ac:Be y y3:=ab.grown aq ab.size (fun k hk=>(a8.lt k hk).1);refine ⟨fun _=>K y3 ac,?_⟩;simp only [pz];have bc:Bx y3 y.drew.heap.size #[I U v0,I U v1,I U v2,I U v3] 28:=(aq.block _ (Ad (gl cf) (by rw [af];simp)) (fun e=>by have e:=Ae e;rw [al] at e;simp at e)).trans (((show Be y1 y2 by rw [af];exact (br _ _).alloc (nl _) _).block _ (gl cf)).trans cf);refine qO (s:=9) (e':=some 79) rfl rfl rfl (.tmp 76) (.tmp 78) 32 rfl (by kernel_rfl) y.heap.size 28 li _ 4 32 underlying32 az ai ak aj rfl (by decide) a2 _ _ rfl ae ⟨y.drew.heap.size,0,Aa⟩ 1 1 (xD (v0,v1,v2,v3)) rfl rfl (World.news_of_block bc) (kP _) (by decide) (by unfold maxLen;omega) (by omega) ac.size _ rfl ?_;intro g2 r z a4 ag ao ap;have l:Be y z:=ac.grown ag ac.size (fun k hk=>(ae.lt k hk).1);refine ⟨fun _=>K z l,?_⟩;simp only [pz];refine zD 10 80 (.pointer (Ab ⟨N,0,Aa⟩)) (K z l) ?_;refine zD 11 81 (.pointer (Ab ⟨N,18,Aa⟩)) (K z l) ?_;refine p_ce 12 N 18 (.slice (Ab ⟨g2,0,Aa⟩) (Q.votes.length+1) r) (zA Q s1) (zA q2 { s1 with votes:=.slice (Ab ⟨g2,0,Aa⟩) (Q.votes.length+1) r }) ((K z l).1) (by simp [zA]) rfl (by rw [an];rfl) ?_;intro z2 hg hk
       have HZ:Hid (PtV w z2 N lo q2 { s1 with votes:=.slice (Ab ⟨g2,0,Aa⟩) (Q.votes.length+1) r } (v0,v1,v2,v3)):=(by
        have t:z.ownsRow y.heap.size 28 4 (.slice (Ab ⟨g2,0,Aa⟩) (Q.votes.length+1) r) (Q.votes ++ [(v0,v1,v2,v3)]).length (zE xD (Q.votes ++ [(v0,v1,v2,v3)])):=by rw [Af,zY];simpa [zE] using a4
        have a9:=Ag t hg (zH t (K z l).1 (by decide));refine (HX.more l).put ar hg hk ?_ (fun g hg=>(six_votes hg).elim (fun e=>by have:=(t.lt g e).1;have:=HX.lt;omega) (HX.far g));rw [an]
        exact (HX.own.below l).boxed (K z l).1 hg |>.setVotes (Ac l.size hg.size) (nl _) (zN a9 (Ac hlo HX.grown.size)) (fun g e=>by cases e;exact Ad ap hg.size) (fun g e=>Aj (t.lt g e).1):PtV w z2 N lo q2 _ (v0,v1,v2,v3))
       refine ⟨fun h=>absurd h (by decide),?_⟩;refine p_do ?_;go_wp2
       go_meet
       case rel=>exact ⟨_,HZ⟩
     case rest=>
      obtain ⟨s2,hZ⟩:=hcut;have HZ:=hid hZ;clear hZ HX;have ck:Hid ((q2.votes.length:Int)<=1048576):=hid (by rw [an];have:=ce.2;simp;omega);clear an;have a1:=yX wc;have bu:∀ x:Bw wc,x.to.cell? ⟨N,18,Aa⟩=some s2.votes:=fun x=>zB (HZ.more x.below).ptr 18 _ rfl
      have z0:∀ x:Bw wc,x.to.cell? ⟨w.heap.size,0,Aa⟩=Ab (I U v0):=fun x=>zB (HZ.more x.below).box 0 _ rfl
      have z1:∀ x:Bw wc,x.to.cell? ⟨w.heap.size,1,Aa⟩=Ab (I U v1):=fun x=>zB (HZ.more x.below).box 1 _ rfl
      have z2:∀ x:Bw wc,x.to.cell? ⟨w.heap.size,2,Aa⟩=Ab (I U v2):=fun x=>zB (HZ.more x.below).box 2 _ rfl
      obtain ⟨sg,e3⟩:∃ sg,jP q2.votes v0 v1 v2=sg:=⟨_,rfl⟩;have b0:=signersT_bounds q2.votes v0 v1 v2;rw [e3] at b0;obtain ⟨cn,e4⟩:∃ cn,zFH sg=cn:=⟨_,rfl⟩;obtain ⟨qn,e5⟩:∃ qn,zBD n=qn:=⟨_,rfl⟩;have b8:Hid (∀ x:Bw wc,Calls prog 157 #[s2.votes,I U v0,I U v1,I U v2] x.to fun e w'=>e=.returned (I U sg)/\Below x.to.heap.size x.to w'):=fun x=>by rw [<- e3];exact signers_s q2.votes s2.votes v0 v1 v2 x.to (HZ.more x.below).own.reads.votes ck
      have bq:Hid (∀ x:World,Calls prog 37 #[I U sg] x fun e w'=>e=.returned (I U cn)/\w'=x):=fun x=>by rw [<- e4];exact count_s sg x (by omega) (by omega)
      by_cases h3:cn=qn
      ·have b3:(cn != qn)=false:=by simpa using h3
       have ay:Hid (R=if v0=4 then ({ q2 with high:=yF q2.high (zHE q2.votes v0 v1 v2 n).1 },[]) else (q2,zAH q2 (zHE q2.votes v0 v1 v2 n).1 n.toNat)):=(by rw [HE.out];unfold leadQ;simp only;rw [e3,e4,e5,if_pos h3]:R=_);clear h3 e3 e4 b0;go_wp2;refine rb ?_;repeat (go_big_quiet_step (first | (go_at_call 157;with_reducible refine xX (b8.out _)) | (go_at_call 37;with_reducible refine zI (bq.out _)) | (with_reducible refine zI (zJD e5 u aa _))))
       refine qnn fun xq=>?_
       have HX:Hid (PtV w xq.to N lo q2 s2 (v0,v1,v2,v3)):=HZ.more xq.below;obtain ⟨y,hy⟩:=nw xq.to;rw [<- hy] at HX ⊢;clear hy bu z0 z1 z2 a1 HZ b8 bq HE;obtain ⟨⟨qc,qb⟩,e6⟩:∃ q,zHE q2.votes v0 v1 v2 n=q:=⟨_,rfl⟩;rw [e6] at ay;simp only at ay;go_wp2;refine xA (Below y.heap.size y) (by kernel_rfl) ?_;show wpAnyH prog _ _ _ _ (17+1) (Ah 18 false) _ _;refine fl_in (i:=15) (d:=some 9) (obj:=.cells #[I U 0,I U 0,I U 0,I U 0] 26 (0,0)) (base:=y.heap.size) (T:=Below y.heap.size y) (f:=17) ?_ (br _ _).drew;refine f_tk 0 99 (.pointer (Ab ⟨N,0,Aa⟩)) ?_ ?_
       ·intro x hx;go_simp
        try rfl
       simp only [pz];refine f_tk 1 100 (.pointer (Ab ⟨N,0,Aa⟩)) ?_ ?_
       ·intro x hx;go_simp
        try rfl
       simp only [pz];refine f_tk 2 101 (.pointer (Ab ⟨N,18,Aa⟩)) ?_ ?_
       ·intro x hx;go_simp
        try rfl
       simp only [pz];refine f_tk 3 102 s2.votes ?_ ?_
       ·intro x hx;have c:=zB (HX.more hx).ptr 18 s2.votes rfl;go_simp
        try rfl
       simp only [pz];refine f_tk 4 103 (.pointer (Ab ⟨w.heap.size,0,Aa⟩)) ?_ ?_
       ·intro x hx;go_simp
        try rfl
       simp only [pz];refine f_tk 5 104 (I U v0) ?_ ?_
       ·intro x hx;have c:=zB (HX.more hx).box 0 (I U v0) rfl;go_simp
        try rfl
       simp only [pz];refine f_tk 6 105 (.pointer (Ab ⟨w.heap.size,1,Aa⟩)) ?_ ?_
       ·intro x hx;go_simp
        try rfl
       simp only [pz];refine f_tk 7 106 (I U v1) ?_ ?_
       ·intro x hx;have c:=zB (HX.more hx).box 1 (I U v1) rfl;go_simp
        try rfl
       simp only [pz];refine f_tk 8 107 (.pointer (Ab ⟨w.heap.size,2,Aa⟩)) ?_ ?_
       ·intro x hx;go_simp
        try rfl
       simp only [pz];refine f_tk 9 108 (I U v2) ?_ ?_
       ·intro x hx;have c:=zB (HX.more hx).box 2 (I U v2) rfl;go_simp
        try rfl
       simp only [pz];refine f_tk 10 109 (I U n) ?_ ?_
       ·intro x hx;go_simp
        try rfl
       simp only [pz];refine fl_call (c:=11) (e':=some 110) (fn:=158) (args:=#[s2.votes,I U v0,I U v1,I U v2,I U n]) (T':=fun v' x=>v'=.tuple #[.agg #[I U qc.1,I U qc.2.1,I U qc.2.2.1,I U qc.2.2.2],.bool qb]/\Be y x) rfl rfl ⟨rfl,fun ρ x=>?_⟩ (fun _ h=>h.size) (fun a b h hb=>bt h hb) (fun _ h=>h) rfl rfl (by kernel_rfl) (Or.inl (by kernel_rfl)) (by kernel_rfl) (by decide) (by kernel_rfl) (by rfl) (fun x=>?_) (fun x hx=>(qcOf_s q2.votes s2.votes v0 v1 v2 n x (HX.more hx).own.reads.votes ck u aa).mono (fun e x' h=>by rw [e6] at h;exact ⟨_,h.1,KpF.below h.2,rfl,bt hx h.2⟩)) (fun _ _ h=>h.2) ?_
       ·unfold flP;go_simp
        try rfl
       ·go_simp
        try rfl
       intro va;refine fl_and (fun c1=>?_);subst c1;simp only [pz];refine f_tk 12 98 (.tuple #[.agg #[I U qc.1,I U qc.2.1,I U qc.2.2.1,I U qc.2.2.2],.bool qb]) ?_ ?_
       ·intro x hx;go_simp
        try rfl
       simp only [pz];refine f_tk 13 111 (.agg #[I U qc.1,I U qc.2.1,I U qc.2.2.1,I U qc.2.2.2]) ?_ ?_
       ·intro x hx;go_simp
        try rfl
       simp only [pz];refine f_tk 14 112 (.bool qb) ?_ ?_
       ·intro x hx;go_simp
        try rfl
       simp only [pz];refine fl_out (f:=2) rfl rfl ⟨rfl,fun ρ x=>?_⟩ (fun _ h=>h.size) (fun a b h hb=>bt h hb) (fun _ h=>h) (by kernel_rfl) ?_
       ·unfold flP;go_simp
        try rfl
       intro Nq y3 hT cp bi;simp only [pz];refine jR (s:=16) (N:=Nq) (cells:=#[I U qc.1,I U qc.2.1,I U qc.2.2.1,I U qc.2.2.2]) rfl rfl rfl rfl (by kernel_rfl) rfl rfl bi (by kernel_rfl) rfl (by simp [Ai]) ?_;intro y4 cm bm;have hb:Be y y4:=hT.grown cm hT.size (qkk (by exact cp));refine ⟨hb,?_⟩;refine yJ 17 10 (.bool qb) hb ?_;refine h_dn ?_;have am:Hid (PtV w y4 N lo q2 s2 (v0,v1,v2,v3)):=HX.more hb;have bo:=hid bm;clear hT cp bi cm bm hb HX;have c0:=zB am.box 0 (I U v0) rfl
       by_cases h4:v0=4
       ·subst h4;obtain ⟨q3,bn⟩:∃ q3:PE,q3={ q2 with high:=yF q2.high qc }:=⟨_,rfl⟩;have cd:Hid (R=(q3,[])):=(by rw [ay.out,if_pos rfl,bn]:R=_);go_wp2;clear c0;refine p_rg (fun i=>decide (i < 9)) (fun x=>Bx x N (zA q2 s2) 35/\Bx x Nq #[I U qc.1,I U qc.2.1,I U qc.2.2.1,I U qc.2.2.2] 26) ?_;show zX prog _ _ _ _ _ (9+1) (Ah 10 false) _ _;have hS:Bx y4.drew N (zA q2 s2) 35/\Bx y4.drew Nq #[I U qc.1,I U qc.2.1,I U qc.2.2.1,I U qc.2.2.2] 26:=⟨am.ptr,bo⟩;refine p_pt 0 116 N 0 hS ?_;refine p_pt 1 117 N 0 hS ?_;refine p_pt 2 118 N 0 hS ?_;refine p_pt 3 119 N 2 hS ?_;refine zD 4 120 (.agg #[I U q2.high.1,I U q2.high.2.1,I U q2.high.2.2.1,I U q2.high.2.2.2]) hS ?_ (hy:=by intro x hx;have d0:=zB hx.1 2 (I U q2.high.1) rfl;have d1:=zB hx.1 3 (I U q2.high.2.1) rfl;have d2:=zB hx.1 4 (I U q2.high.2.2.1) rfl;have d3:=zB hx.1 5 (I U q2.high.2.2.2) rfl;go_simp;try rfl);refine zD 5 121 (.agg #[I U qc.1,I U qc.2.1,I U qc.2.2.1,I U qc.2.2.2]) hS ?_ (hy:=fun x hx=>ldb Nq hx.2 underlying26);refine kJ 6 122 159 #[.agg #[I U q2.high.1,I U q2.high.2.1,I U q2.high.2.2.1,I U q2.high.2.2.2],.agg #[I U qc.1,I U qc.2.1,I U qc.2.2.1,I U qc.2.2.2]] ((yAF q2.high qc y4.drew).mono ?_);rintro e x5 ⟨rfl,a7⟩;have hb:=(bw y4).trans a7;have au:Hid (PtV w x5 N lo q2 s2 (4,v1,v2,v3)):=am.more hb;have bh:Bx x5 N (zA q2 s2) 35/\Bx x5 Nq #[I U qc.1,I U qc.2.1,I U qc.2.2.1,I U qc.2.2.2] 26:=⟨au.ptr,bk hb bo⟩;clear hb a7 hS am;refine ⟨_,rfl,fun _=>bh,?_⟩;simp only [pz];refine zD 7 123 (.pointer (Ab ⟨N,0,Aa⟩)) bh ?_;refine zD 8 124 (.pointer (Ab ⟨N,2,Aa⟩)) bh ?_;refine p_pa 9 N 2 #[I U (yF q2.high qc).1,I U (yF q2.high qc).2.1,I U (yF q2.high qc).2.2.1,I U (yF q2.high qc).2.2.2] (zA q2 s2) (zA q3 s2) au.ptr (by simp [zA]) (by simp [Ai]) (by rw [bn];rfl) ?_;intro y6 hg hk;have ah:Hid (PtV w y6 N lo q3 s2 (4,v1,v2,v3)):=au.put ar hg hk (by rw [bn];exact ((au.own.boxed au.ptr hg).wide hg.size (nl _)).other rfl rfl rfl rfl rfl rfl) au.far;clear hg hk bh au;refine ⟨fun h=>absurd h (by decide),?_⟩;refine p_do ?_;go_wp2;go_ret;rw [cd.out];exact ⟨_,rfl,ah.grown,⟨s2,ah.ptr,ah.own⟩,ah.out.out⟩
       ·have b4:(v0 == 4)=false:=by simpa using h4
        have cd:Hid (R=(q2,zAH q2 qc n.toNat)):=(by rw [ay.out,if_neg h4]:R=_);go_wp2;clear c0 b4 h4
        go_loopw [7,11] (fun o i wr=>∃ m:Nat,m<=n.toNat/\i=I U (m:Int)/\Hid (PtC w wr N Nq lo q2 s2 qc)/\Hid (wr.ownsRow w.heap.size 61 13 o m (zE yE (zAH q2 qc m))/\∀ g,o.ownBlock=some g->¬ zIE s2 g)) (fun _ i _=>n.toNat - (intOf i).toNat)
        case atStart=>exact ⟨0,Nat.zero_le _,rfl,⟨am.ptr,bo,am.own,am.grown⟩,am.out.out,fun g e hg=>am.far g hg (Ae e).symm⟩
        case round=>
         obtain ⟨m,hm,rfl,HY,HO⟩:=hrel
         by_cases hlt:m < n.toNat
         ·have g1:(m:Int) < n:=by omega
          go_wp2;refine p_rg (fun _=>true) (fun x=>Bx x N (zA q2 s2) 35/\Bx x Nq #[I U qc.1,I U qc.2.1,I U qc.2.2.1,I U qc.2.2.2] 26) ?_;show zX prog _ _ _ _ _ (10+1) (Ah 11 false) _ _;have hS:Bx wr.drew N (zA q2 s2) 35/\Bx wr.drew Nq #[I U qc.1,I U qc.2.1,I U qc.2.2.1,I U qc.2.2.2] 26:=⟨HY.ptr,HY.qc⟩;refine zD 0 131 u7 hS ?_;refine p_pt 1 132 N 0 hS ?_;refine p_pt 2 133 N 0 hS ?_;refine zD 3 134 (.agg (zA q2 s2)) hS ?_ (hy:=fun x hx=>ldb N hx.1 underlying35);refine zD 4 135 (I U (m:Int)) hS ?_;refine zD 5 136 (.agg #[I U qc.1,I U qc.2.1,I U qc.2.2.1,I U qc.2.2.2]) hS ?_ (hy:=fun x hx=>ldb Nq hx.2 underlying26);refine zD 6 137 (.agg #[I U 0,I U 0,I U 0,I U 0]) hS ?_;refine kJ 7 138 40 #[.agg (zA q2 s2),I U 3,I U (m:Int),.agg #[I U qc.1,I U qc.2.1,I U qc.2.2.1,I U qc.2.2.2],.agg #[I U 0,I U 0,I U 0,I U 0]] ((answered_s q2 s2 3 (m:Int) qc (0,0,0,0) wr.drew).mono ?_);obtain ⟨LL,cb⟩:=nw (kX q2 3 (m:Int) qc (0,0,0,0));have cv:Hid (zAH q2 qc (m+1)=zAH q2 qc m ++ [LL]):=(by rw [cb];rfl:zAH q2 qc (m+1)=_);rw [<- cb];clear cb;rintro e x4 ⟨rfl,a7⟩;have hb:=(bw wr).trans a7;have be:Hid (PtC w x4 N Nq lo q2 s2 qc):=HY.more hb;have ci:Hid (x4.ownsRow w.heap.size 61 13 u7 m (zE yE (zAH q2 qc m))):=zS HO.1 hb;clear hb a7 hS;refine ⟨_,rfl,fun _=>⟨be.ptr,be.qc⟩,?_⟩;simp only [pz];obtain ⟨y5,bf⟩:=nw (x4.alloc (.cells (zQ LL) 61));have b5:Be x4 y5:=by rw [bf];exact (br _ _).alloc (nl _) _
          have a0:Hid (PtC w y5 N Nq lo q2 s2 qc):=be.more b5;have bx:Hid (y5.ownsRow w.heap.size 61 13 u7 m (zE yE (zAH q2 qc m))):=zS ci b5;have cs:Hid (Bx y5 x4.heap.size (zQ LL) 61):=(by rw [bf];exact heap_alloc_new x4 _:y5.heap[x4.heap.size]?=_);refine p_run (s:=8) (e':=some 139) rfl rfl rfl (by kernel_rfl) (.slice (Ab ⟨x4.heap.size,0,Aa⟩) 1 1) y5 ?_ ⟨fun _=>⟨a0.ptr,a0.qc⟩,?_⟩
          ·rw [bf];unfold letV zQ;go_simp
           try rfl
          clear bf b5 be ci;simp only [pz];refine qO (s:=9) (e':=some 140) rfl rfl rfl (.tmp 131) (.tmp 139) 33 rfl (by kernel_rfl) w.heap.size 61 ri _ 13 104 underlying33 cw cl cq ch rfl (by decide) u7 _ _ rfl bx ⟨x4.heap.size,0,Aa⟩ 1 1 (yE LL) rfl rfl (World.news_of_block cs) (kF _) (by decide) (by unfold maxLen;omega) (by omega) a0.grown.size _ rfl ?_;intro g6 bd y6 ho hg ao cj;have ah:Hid (PtC w y6 N Nq lo q2 s2 qc):=a0.grow ar bx hg (fun g ag e=>HO.2 g e ag)
          have cu:Hid (y6.ownsRow w.heap.size 61 13 (.slice (Ab ⟨g6,0,Aa⟩) (m+1) bd) (m+1) (zE yE (zAH q2 qc (m+1)))/\∀ g,(Value.slice (Ab ⟨g6,0,Aa⟩) (m+1) bd).ownBlock=some g->¬ zIE s2 g):=⟨by rw [cv.out,zY];simpa [zE] using ho,fun g e ag=>by
           have e:g6=g:=Ae e;subst e
           rcases ao with ao | ao
           ·exact HO.out.2 g6 ao ag
           ·have:=(inSix_lim a0.own ag).2;omega⟩
          clear ho hg ao cj a0 bx cs;refine ⟨fun _=>⟨ah.ptr,ah.qc⟩,?_⟩;simp only [pz];refine zD 10 7 (.slice (Ab ⟨g6,0,Aa⟩) (m+1) bd) ⟨ah.ptr,ah.qc⟩ ?_;refine p_do ?_;go_wp2
          go_roundw
          case rel=>exact ⟨m+1,by omega,by go_num,ah,cu⟩
          case measure=>simp [intOf];omega
         ·have co:m=n.toNat:=by omega
          have g1:¬ (m:Int) < n:=by omega
          have cz:=hid co;clear co hlt hm;go_wp2;go_ret;rw [cd.out];simp only;rw [says_len,<- cz.out];exact ⟨_,rfl,HY.grown,⟨s2,HY.ptr,HY.own⟩,HO.1⟩
      ·have b3:(cn != qn)=true:=by simpa using h3
       have ay:Hid (R=(q2,[])):=(by rw [HE.out];unfold leadQ;simp only;rw [e3,e4,e5,if_neg h3]:R=_);clear h3 e3 e4 b0;go_wp2;refine rb ?_;repeat (go_big_quiet_step (first | (go_at_call 157;with_reducible refine xX (b8.out _)) | (go_at_call 37;with_reducible refine zI (bq.out _)) | (with_reducible refine zI (zJD e5 u aa _))))
       refine qnn fun xq=>?_
       go_wp2;go_ret;rw [ay.out];exact ⟨_,rfl,(HZ.more xq.below).grown,⟨s2,(HZ.more xq.below).ptr,(HZ.more xq.below).own⟩,(HZ.more xq.below).out⟩
   ·have b2:(ld != Q.id)=true:=by simpa using h2
    have d2:decide (ld=Q.id)=false:=decide_eq_false h2;have HE:Hid (R=(Q,[])):=(by rw [HR.out];unfold leadR;rw [if_neg (fun h=>h2 (by rw [<- e1,a3.out];exact h.2.1))]:R=_);clear h1 h2;go_wp2;refine rb ?_;repeat (go_big_quiet_step (first | (with_reducible refine zI (xR e1 u aa ax aw _)) | (go_at_call 156;with_reducible refine xX (bb.out _))))
    refine qnn fun xq=>?_
    go_wp2;go_ret;rw [HE.out];exact ⟨_,rfl,(HY.more xq.below).grown,⟨s1,(HY.more xq.below).ptr,(HY.more xq.below).own⟩,(HY.more xq.below).out⟩
  ·have b1:(Q.view != VW)=true:=by simpa using h1
   have d1:decide (Q.view=VW)=false:=decide_eq_false h1;have HE:Hid (R=(Q,[])):=(by rw [HR.out];unfold leadR;rw [if_neg (fun h=>h1 (by rw [a3.out];exact h.1))]:R=_);clear h1;go_wp2;refine rb ?_;repeat (go_big_quiet_step (first | (with_reducible refine zI (xR e1 u aa ax aw _)) | (go_at_call 156;with_reducible refine xX (bb.out _))))
   refine qnn fun xq=>?_
   go_wp2;go_ret;rw [HE.out];exact ⟨_,rfl,(HY.more xq.below).grown,⟨s1,(HY.more xq.below).ptr,(HY.more xq.below).own⟩,(HY.more xq.below).out⟩
end Go.Proofs.YtfnneillakdopacGreatR
