/-
  A text of ours: LeadS.
-/
import Derived.Test.YtdopefimjabigadGreatK1
import Derived.Test.YtdopefimjabigadGreatNewS
import Derived.Test.YtdopefimjabigadGreatK3
import Derived.Test.YtdopefimjabigadGreatK4
import Derived.Deep.AppendLies
import Derived.Deep.DeepCutAuto
set_option maxRecDepth 100000
set_option maxHeartbeats 32000000
namespace Go.Proofs.YtdopefimjabigadGreat
open Go.RowKit Num
def chainView (v:VT):Int:=if v.1=4 then v.2.1+1 else v.2.1
def ledP (p:PE) (n:Int) (v:VT):PE:=if v.1=4∧xQ (v.2.1+1) n=p.id∧v.2.1+1=p.view+1 then yI p (v.2.1+1) else p
def saysL (p:PE) (q:QC) (i:Nat):LT:=kX p 3 (i:Int) q (0,0,0,0)
def zAH (p:PE) (q:QC):Nat→List LT
 | 0=>[]
 | i+1=>zAH p q i ++ [saysL p q i]
theorem says_len (p:PE) (q:QC):∀ i,(zAH p q i).length=i
 | 0=>rfl
 | i+1=>by unfold zAH;rw [List.length_append,says_len p q i];rfl
def leadQ (p:PE) (n:Int) (v:VT):PE × List LT:=
 if zFH (jP p.votes v.1 v.2.1 v.2.2.1)=zBD n then
  (if v.1=4 then ({ p with high:=yF p.high (zHE p.votes v.1 v.2.1 v.2.2.1 n).1 },[]) else (p,zAH p (zHE p.votes v.1 v.2.1 v.2.2.1 n).1 n.toNat))
 else (p,[])
def leadR (p:PE) (n:Int) (v:VT):PE × List LT:=
 if p.view=chainView v∧xQ (chainView v) n=p.id∧hasV p.votes v=false then leadQ { p with votes:=p.votes ++ [v] } n v else (p,[])
def zCF (p:PE) (n:Int) (v:VT):PE × List LT:=leadR (ledP p n v) n v
theorem led_small {p:PE} (h:yC p) (n:Int) (v:VT):yC (ledP p n v):=by
 unfold ledP
 split
 ·exact zHA h _
 ·exact h
theorem led_votes {p:PE} (n:Int) (v:VT):(ledP p n v).votes.length≤p.votes.length:=by
 unfold ledP yI
 split
 ·split
  ·simp
  ·exact nl _
 ·exact nl _
theorem inSix_lim {lo hi:Nat} {w:World} {p:PE} {s:PV} (h:zO lo hi w p s) {g:Nat} (hg:zIE s g):lo≤g∧g < hi:=by
 obtain ⟨a,ha,e⟩:=hg;exact zED h.2.1 a ha g e
theorem six_votes {s:PV} {v:Value} {g:Nat} (h:zIE { s with votes:=v } g):v.ownBlock=some g∨zIE s g:=by
 obtain ⟨a,ha,e⟩:=h;simp only [six,List.mem_cons,List.not_mem_nil,or_false] at ha
 rcases ha with rfl | rfl | rfl | rfl | rfl | rfl
 ·exact Or.inr ⟨_,by simp [six],e⟩
 ·exact Or.inr ⟨_,by simp [six],e⟩
 ·exact Or.inr ⟨_,by simp [six],e⟩
 ·exact Or.inr ⟨_,by simp [six],e⟩
 ·exact Or.inl e
 ·exact Or.inr ⟨_,by simp [six],e⟩
structure PtV (w y:World) (N lo:Nat) (p:PE) (s:PV) (v:VT):Prop where
 ptr:Bx y N (zA p s) 35
 box:Bx y w.heap.size #[.int .i64 v.1,.int .i64 v.2.1,.int .i64 v.2.2.1,.int .i64 v.2.2.2] 28
 own:zO lo y.heap.size y p s
 grown:w.grownBy y (some N)
 out:y.ownsRow w.heap.size 37 13 (.slice (some ⟨w.heap.size+1,0,none⟩) 0 0) 0 []
 far:∀ g,zIE s g→g ≠ w.heap.size+1
theorem PtV.lt {w y:World} {N lo:Nat} {p:PE} {s:PV} {v:VT} (h:PtV w y N lo p s v):w.heap.size+1 < y.heap.size:=(h.out.lt _ rfl).2
theorem PtV.more {w y x:World} {N lo:Nat} {p:PE} {s:PV} {v:VT} (h:PtV w y N lo p s v) (hb:Below y.heap.size y x):PtV w x N lo p s v:=
 ⟨(hb.block _ (gl h.ptr)).trans h.ptr,(hb.block _ (gl h.box)).trans h.box,(h.own.below hb).wide hb.size (nl _),zP h.grown (yG hb),zS h.out hb,h.far⟩
theorem PtV.put {w y x:World} {N lo:Nat} {p q:PE} {s s':PV} {v:VT} (h:PtV w y N lo p s v) (hN:N < w.heap.size) (hg:y.grownBy x (some N)) (hk:Bx x N (zA q s') 35) (ho:zO lo x.heap.size x q s') (hf:∀ g,zIE s' g→g ≠ w.heap.size+1):PtV w x N lo q s' v:=
 ⟨hk,(hg.block _ (gl h.box) (fun e=>by have:=Option.some.inj e;omega)).trans h.box,ho,zP h.grown hg,World.ownsRow.kept h.out hg (zH h.out h.ptr (by decide)),hf⟩
structure PtC (w y:World) (N Nq lo:Nat) (p:PE) (s:PV) (q:QC):Prop where
 ptr:Bx y N (zA p s) 35
 qc:Bx y Nq #[.int .i64 q.1,.int .i64 q.2.1,.int .i64 q.2.2.1,.int .i64 q.2.2.2] 26
 own:zO lo y.heap.size y p s
 grown:w.grownBy y (some N)
theorem PtC.more {w y x:World} {N Nq lo:Nat} {p:PE} {s:PV} {q:QC} (h:PtC w y N Nq lo p s q) (hb:Below y.heap.size y x):PtC w x N Nq lo p s q:=
 ⟨(hb.block _ (gl h.ptr)).trans h.ptr,(hb.block _ (gl h.qc)).trans h.qc,(h.own.below hb).wide hb.size (nl _),zP h.grown (yG hb)⟩
theorem PtC.grow {w y x:World} {N Nq lo n:Nat} {p:PE} {s:PV} {q:QC} {v:Value} {xs:List Value} (h:PtC w y N Nq lo p s q) (hN:N < w.heap.size) (ho:y.ownsRow w.heap.size 37 13 v n xs) (hg:y.grownBy x v.ownBlock) (ha:∀ g,zIE s g→v.ownBlock ≠ some g):PtC w x N Nq lo p s q:=by
 have hf:FrS (fun k=>v.ownBlock=some k) y x:=FrS.of_grown hg (fun g e=>e);refine ⟨(hg.block _ (gl h.ptr) (fun e=>by have:=(ho.lt N e.symm).1;omega)).trans h.ptr,(hg.block _ (gl h.qc) (fun e=>?_)).trans h.qc,(h.own.frs hf ha).wide hg.size (nl _),⟨hg.os.trans h.grown.os,hg.tape.trans h.grown.tape,hg.output.trans h.grown.output,Nat.le_trans h.grown.size hg.size,fun k hk hn=>(hg.block k (Nat.lt_of_lt_of_le hk h.grown.size) (fun e=>by have:=(ho.lt k e.symm).1;omega)).trans (h.grown.block k hk hn)⟩⟩
 rcases zH ho h.qc (by decide) with hh | hh
 ·rw [hh] at e;cases e
 ·exact hh e.symm
theorem vote_p (p:PE) (s:PV) (N lo hi:Nat) (n:Int) (v:VT) (w:World) (hD:zO lo hi w p s) (hN:Bx w N (zA p s) 35) (hlo:lo≤w.heap.size) (hs:yC p) (hvl:(p.votes.length:Int)+1≤1048576)
  (hn0:0≤n) (hn1:n≤7) (hv0:-9223372036854775808≤v.2.1) (hv1:v.2.1 < 9223372036854775807) (hp0:-9223372036854775808≤p.view) (hp1:p.view < 9223372036854775807) :
  Calls Tryz.prog 122 #[.pointer (some ⟨N,0,none⟩),.int .i64 n,.agg #[.int .i64 v.1,.int .i64 v.2.1,.int .i64 v.2.2.1,.int .i64 v.2.2.2]] w fun e w'=>∃ v',e=.returned v'∧w.grownBy w' (some N)∧(∃ s',Bx w' N (zA (zCF p n v).1 s') 35∧zO lo w'.heap.size w' (zCF p n v).1 s')∧w'.ownsRow w.heap.size 37 13 v' (zCF p n v).2.length (zE yE (zCF p n v).2):=by
 obtain ⟨v0,v1,v2,v3⟩:=v;simp only at hv0 hv1 ⊢;have HS:=hid hs;have hNl:N < w.heap.size:=(gl hN);obtain ⟨li,lhi,lhz0,lhz1,lhz2⟩:=info_parts infoVote;obtain ⟨ri,rhi,rhz0,rhz1,rhz2⟩:=info_parts zBJ;obtain ⟨W,hW⟩:∃ W,W=(w.alloc (.cells #[.int .i64 v0,.int .i64 v1,.int .i64 v2,.int .i64 v3] 28)).alloc (.cells #[] 37):=⟨_,rfl⟩
 have HW:Hid (PtV w W N lo p s (v0,v1,v2,v3)):=(by
  have hb:Below w.heap.size w W:=by rw [hW];exact ba (ba (br _ _) _) _
  have h:=zN (yH (w.alloc (.cells #[.int .i64 v0,.int .i64 v1,.int .i64 v2,.int .i64 v3] 28)) 37 13) (show w.heap.size≤(w.alloc (.cells #[.int .i64 v0,.int .i64 v1,.int .i64 v2,.int .i64 v3] 28)).heap.size by simp)
  exact ⟨(hb.block _ hNl).trans hN,by rw [hW];exact (qK w _ _).1,(hD.below hb).wide (Nat.le_trans hD.2.2 hb.size) (nl _),yG hb,by rw [hW];simpa using h,fun g hg=>by have:=(inSix_lim hD hg).2;have:=hD.2.2;omega⟩:PtV w W N lo p s (v0,v1,v2,v3))
 obtain ⟨VW,hVW⟩:∃ VW,VW=chainView (v0,v1,v2,v3):=⟨_,rfl⟩;obtain ⟨Q,hQ⟩:∃ Q,Q=ledP p n (v0,v1,v2,v3):=⟨_,rfl⟩;have HSQ:Hid (yC Q∧(Q.votes.length:Int)+1≤1048576):=hid (by rw [hQ];exact ⟨led_small HS.out _ _,by have:=led_votes (p:=p) n (v0,v1,v2,v3);omega⟩);have HR:Hid (zCF p n (v0,v1,v2,v3)=leadR Q n (v0,v1,v2,v3)):=(by rw [hQ];rfl:zCF p n (v0,v1,v2,v3)=_);have HQ:=hid hQ;have HVW:=hid hVW;have hVb:-9223372036854775808≤VW∧VW≤9223372036854775807:=by rw [hVW];unfold chainView;simp only;split <;> omega
 have hvb0:=hVb.1;have hvb1:=hVb.2;obtain ⟨R,hR⟩:∃ R,R=zCF p n (v0,v1,v2,v3):=⟨_,rfl⟩;rw [← hR] at HR ⊢;clear hD hN hs hvl hQ hVW hVb hR;have hn0':-9223372036854775808≤n:=by omega
 have hn1':n≤9223372036854775807:=by omega
 go_enter Tryz.func122,Tryz.ntmps122;have w0:=zB HW.out.box 0 (.int .i64 v0) rfl;have w1:=zB HW.out.box 1 (.int .i64 v1) rfl
 go_upto_region 2 with fail
 rw [← hW];clear hW
 go_upto_if 17 with fail
 go_cut [8] (fun vw wx=>vw=.int .i64 VW∧∃ s1,PtV w wx N lo Q s1 (v0,v1,v2,v3))
 case first=>
  have hne:=yX W
  by_cases h4:v0=4
  ·subst h4;have hcv:VW=v1+1:=by rw [HVW.out];rfl
   have hadd:IntKind.i64.wrap (v1+1)=v1+1:=(by rw [IntKind.wrap_i64];omega);have hadp:IntKind.i64.wrap (p.view+1)=p.view+1:=(by rw [IntKind.wrap_i64];omega);have y0:∀ x:Bw W,x.to.cell? ⟨N,0,none⟩=some (.int .i64 p.id):=fun x=>zB (HW.out.more x.below).ptr 0 _ rfl
   have y1:∀ x:Bw W,x.to.cell? ⟨N,1,none⟩=some (.int .i64 p.view):=fun x=>zB (HW.out.more x.below).ptr 1 _ rfl
   obtain ⟨ld,e1⟩:∃ ld,xQ (v1+1) n=ld:=⟨_,rfl⟩;have hw0:-9223372036854775808≤v1+1:=by omega
   have hw1:v1+1≤9223372036854775807:=by omega
   by_cases hl:ld=p.id
   ·have bl:(ld == p.id)=true:=by simpa using hl
    have dl:decide (ld=p.id)=true:=decide_eq_true hl
    by_cases hv:v1+1=p.view+1
    ·have bv:(v1+1 == p.view+1)=true:=by simpa using hv
     have dv:decide (v1+1=p.view+1)=true:=decide_eq_true hv;have HQ1:Hid (Q=yI p (v1+1)):=(by rw [HQ.out];unfold ledP;rw [if_pos ⟨rfl,e1.trans hl,hv⟩]:Q=_);clear hl hv;go_wp2;clear w0 w1;refine rb ?_;repeat (go_big_quiet_step (first | (with_reducible refine zI (xR e1 hn0' hn1' hw0 hw1 _))))
     refine wpQuiet_nil ?_;intro _ hw';obtain ⟨xq,rfl⟩:=hw';have HX:Hid (PtV w xq.to N lo p s (4,v1,v2,v3)):=HW.out.more xq.below;obtain ⟨y,hy⟩:∃ y,y=xq.to:=⟨_,rfl⟩;rw [← hy] at HX ⊢;clear hy y0 y1 hne HW;go_wp2_with (refine w_ld N HX.out.ptr Tryz.underlying35 ?_)
     refine (zCB p s (v1+1) y HX.out.own.reads HS.out).mono ?_;rw [← HQ1.out];rintro e x1 ⟨s1,rfl,ho,hb⟩;have HF1:Hid (∀ g,zIE s1 g→g ≠ w.heap.size+1):=fun g hg=>by have:=(inSix_lim ho hg).1;have:=HX.out.lt;omega
     have HO1:Hid (zO lo x1.heap.size x1 Q s1):=ho.low (Nat.le_trans hlo HX.out.grown.size);have HX1:Hid (PtV w x1 N lo p s (4,v1,v2,v3)):=HX.out.more hb;clear ho hb HX;go_wp2_with (refine w_st N (zA Q s1) HX1.out.ptr (zJ HO1.out.1) ?_;intro y2 hg hk hz;have HY2:Hid (PtV w y2 N lo Q s1 (4,v1,v2,v3)):=HX1.out.put hNl hg hk ((HO1.out.boxed HX1.out.ptr hg).wide hg.size (nl _)) HF1.out;clear hg hk hz)
     go_meet
     case rel=>exact ⟨by rw [hcv],s1,HY2.out⟩
    ·have bv:(v1+1 == p.view+1)=false:=by simpa using hv
     have dv:decide (v1+1=p.view+1)=false:=decide_eq_false hv;have HQ1:Hid (Q=p):=(by rw [HQ.out];unfold ledP;rw [if_neg (fun h=>hv h.2.2)]:Q=_);clear hl hv;go_wp2;clear w0 w1;refine rb ?_;repeat (go_big_quiet_step (first | (with_reducible refine zI (xR e1 hn0' hn1' hw0 hw1 _))))
     refine wpQuiet_nil ?_;intro _ hw';obtain ⟨xq,rfl⟩:=hw';go_wp2
     go_meet
     case rel=>exact ⟨by rw [hcv],s,by rw [HQ1.out];exact HW.out.more xq.below⟩
   ·have bl:(ld == p.id)=false:=by simpa using hl
    have dl:decide (ld=p.id)=false:=decide_eq_false hl;have HQ1:Hid (Q=p):=(by rw [HQ.out];unfold ledP;rw [if_neg (fun h=>hl (e1.symm.trans h.2.1))]:Q=_);clear hl;go_wp2;clear w0 w1;refine rb ?_;repeat (go_big_quiet_step (first | (with_reducible refine zI (xR e1 hn0' hn1' hw0 hw1 _))))
    refine wpQuiet_nil ?_;intro _ hw';obtain ⟨xq,rfl⟩:=hw';go_wp2
    go_meet
    case rel=>exact ⟨by rw [hcv],s,by rw [HQ1.out];exact HW.out.more xq.below⟩
  ·have b4:(v0 == 4)=false:=by simpa using h4
   have hcv:VW=v1:=by rw [HVW.out];exact if_neg h4
   have HQ1:Hid (Q=p):=(by rw [HQ.out];unfold ledP;rw [if_neg (fun h=>h4 h.1)]:Q=_);clear hne;go_wp2
   go_meet
   case rel=>exact ⟨by rw [hcv],s,by rw [HQ1.out];exact HW.out⟩
 case rest=>
  obtain ⟨rfl,s1,hY⟩:=hcut;have HY:=hid hY;clear hY w0 w1 HW;have hne:=yX wc;have y0:∀ x:Bw wc,x.to.cell? ⟨N,0,none⟩=some (.int .i64 Q.id):=fun x=>zB (HY.out.more x.below).ptr 0 _ rfl
  have y1:∀ x:Bw wc,x.to.cell? ⟨N,1,none⟩=some (.int .i64 Q.view):=fun x=>zB (HY.out.more x.below).ptr 1 _ rfl
  have y18:∀ x:Bw wc,x.to.cell? ⟨N,18,none⟩=some s1.votes:=fun x=>zB (HY.out.more x.below).ptr 18 _ rfl
  have z0:∀ x:Bw wc,x.to.cell? ⟨w.heap.size,0,none⟩=some (.int .i64 v0):=fun x=>zB (HY.out.more x.below).box 0 _ rfl
  have z1:∀ x:Bw wc,x.to.cell? ⟨w.heap.size,1,none⟩=some (.int .i64 v1):=fun x=>zB (HY.out.more x.below).box 1 _ rfl
  have z2:∀ x:Bw wc,x.to.cell? ⟨w.heap.size,2,none⟩=some (.int .i64 v2):=fun x=>zB (HY.out.more x.below).box 2 _ rfl
  have z3:∀ x:Bw wc,x.to.cell? ⟨w.heap.size,3,none⟩=some (.int .i64 v3):=fun x=>zB (HY.out.more x.below).box 3 _ rfl
  obtain ⟨ld,e1⟩:∃ ld,xQ VW n=ld:=⟨_,rfl⟩;obtain ⟨hv,e2⟩:∃ hv,hasV Q.votes (v0,v1,v2,v3)=hv:=⟨_,rfl⟩;have HHV:Hid (∀ x:Bw wc,Calls Tryz.prog 161 #[s1.votes,.agg #[.int .i64 v0,.int .i64 v1,.int .i64 v2,.int .i64 v3]] x.to fun e w'=>e=.returned (.bool hv)∧Below x.to.heap.size x.to w'):=fun x=>by rw [← e2];exact has_s Q.votes s1.votes (v0,v1,v2,v3) x.to (HY.out.more x.below).own.reads.votes (by have:=HSQ.out.2;omega)
  by_cases h1:Q.view=VW
  ·have b1:(Q.view != VW)=false:=by simpa using h1
   have d1:decide (Q.view=VW)=true:=decide_eq_true h1
   by_cases h2:ld=Q.id
   ·have b2:(ld != Q.id)=false:=by simpa using h2
    have d2:decide (ld=Q.id)=true:=decide_eq_true h2
    cases hv with
    | true=>
     have HE:Hid (R=(Q,[])):=(by rw [HR.out];unfold leadR;rw [if_neg (fun h=>by rw [e2] at h;exact absurd h.2.2 (by decide))]:R=_);clear h1 h2 e2;go_wp2;refine rb ?_;repeat (go_big_quiet_step (first | (with_reducible refine zI (xR e1 hn0' hn1' hvb0 hvb1 _)) | (go_at_call 161;with_reducible refine xX (HHV.out _))))
     refine wpQuiet_nil ?_;intro _ hw';obtain ⟨xq,rfl⟩:=hw';go_wp2;go_ret;rw [HE.out];exact ⟨_,rfl,(HY.out.more xq.below).grown,⟨s1,(HY.out.more xq.below).ptr,(HY.out.more xq.below).own⟩,(HY.out.more xq.below).out⟩
    | false=>
     obtain ⟨q2,hq2⟩:∃ q2:PE,q2={ Q with votes:=Q.votes ++ [(v0,v1,v2,v3)] }:=⟨_,rfl⟩;have HE:Hid (R=leadQ q2 n (v0,v1,v2,v3)):=(by rw [HR.out,hq2];unfold leadR;rw [← HVW.out,if_pos ⟨h1,e1.trans h2,e2⟩]:R=_);clear h1 h2 e2;go_wp2;refine rb ?_;repeat (go_big_quiet_step (first | (with_reducible refine zI (xR e1 hn0' hn1' hvb0 hvb1 _)) | (go_at_call 161;with_reducible refine xX (HHV.out _))))
     refine wpQuiet_nil ?_;intro _ hw';obtain ⟨xq,rfl⟩:=hw';have HX:Hid (PtV w xq.to N lo Q s1 (v0,v1,v2,v3)):=HY.out.more xq.below;obtain ⟨y,hy⟩:∃ y,y=xq.to:=⟨_,rfl⟩;rw [← hy] at HX ⊢;clear hy y0 y1 y18 z0 z1 z2 z3 hne HY HHV
     go_upto_region 9 with fail
     go_cut [] (fun wx=>∃ s2,PtV w wx N lo q2 s2 (v0,v1,v2,v3))
     case first=>
      have hsz:=HSQ.out.2;have hww:w.heap.size < y.heap.size:=(gl HX.out.box);refine zT (fun i=>decide (i < 12)) (fun x=>Bx x N (zA Q s1) 35∧Bx x w.heap.size #[.int .i64 v0,.int .i64 v1,.int .i64 v2,.int .i64 v3] 28) (by kernel_rfl) ?_;show zX Tryz.prog _ _ _ _ _ (12+1) (Array.replicate 13 false) _ _;have hS:Bx y.drew N (zA Q s1) 35∧Bx y.drew w.heap.size #[.int .i64 v0,.int .i64 v1,.int .i64 v2,.int .i64 v3] 28:=⟨HX.out.ptr,HX.out.box⟩;have K:∀ x,Below y.heap.size y x→Bx x N (zA Q s1) 35∧Bx x w.heap.size #[.int .i64 v0,.int .i64 v1,.int .i64 v2,.int .i64 v3] 28:=fun x hb=>⟨(HX.out.more hb).ptr,(HX.out.more hb).box⟩
      have RD:∀ x,Below y.heap.size y x→yM x s1.votes 4 xD Q.votes:=fun x hb=>(HX.out.more hb).own.reads.votes
      refine zD 0 70 (.pointer (some ⟨N,0,none⟩)) hS ?_;refine zD 2 72 (.pointer (some ⟨N,0,none⟩)) hS ?_;refine zD 3 73 (.pointer (some ⟨N,0,none⟩)) hS ?_;refine zD 4 74 (.pointer (some ⟨N,18,none⟩)) hS ?_;refine zD 5 75 s1.votes hS ?_ (hy:=by intro x hx;have c:=zB hx.1 18 s1.votes rfl;go_simp;try with_reducible rfl);refine zD 7 77 (.agg #[.int .i64 v0,.int .i64 v1,.int .i64 v2,.int .i64 v3]) hS ?_ (hy:=fun x hx=>zM _ _ rfl w.heap.size rfl _ _ _ _ hx.2 Tryz.underlying28 rfl (by kernel_rfl));have hd0:Below y.heap.size y y.drew:=(br _ _).drew;refine zFC (i:=1) (j:=8) (by kernel_rfl) ?_ ?_
      ·obtain ⟨y1,hy1⟩:∃ y1,y1=y.drew.alloc (.cells #[] 28):=⟨_,rfl⟩;have hb1:Below y.heap.size y y1:=by rw [hy1];exact hd0.alloc hd0.size _
       have oy1:y1.ownsRow y.heap.size 28 4 (.slice (some ⟨y.drew.heap.size,0,none⟩) 0 0) ([]:List VT).length (zE xD []):=by rw [hy1];exact zN (yH y.drew _ _) hd0.size
       refine xU (s:=1) (e':=some 71) rfl rfl rfl (.slice (some ⟨y.drew.heap.size,0,none⟩) 0 0) y1 ?_ ⟨fun _=>K y1 hb1,?_⟩
       ·rw [hy1];go_simp
        try with_reducible rfl
       simp only [pz];refine zFC (i:=6) (j:=8) (by kernel_rfl) ?_ ?_
       ·refine xS (s:=6) (e':=some 76) rfl rfl rfl (.tmp 71) (.tmp 75) 32 rfl y.heap.size 28 li _ 32 Tryz.underlying32 lhi lhz0 lhz1 lhz2 rfl (by decide) kW kP (.slice (some ⟨y.drew.heap.size,0,none⟩) 0 0) [] rfl oy1 _ Q.votes rfl (RD y1 hb1) (by simp;unfold maxLen;omega) (by simp;omega) hb1.size ?_;intro v69 y2 hoy2 hgy2 haty2;simp only [List.nil_append] at hoy2;have hb2:Below y.heap.size y y2:=hb1.grown hgy2 hb1.size (fun k hk=>(oy1.lt k hk).1);refine ⟨fun _=>K y2 hb2,?_⟩;simp only [pz];obtain ⟨y3,hy3⟩:∃ y3,y3=y2.alloc (.cells #[.int .i64 v0,.int .i64 v1,.int .i64 v2,.int .i64 v3] 28):=⟨_,rfl⟩;have hb3:Below y.heap.size y y3:=by rw [hy3];exact hb2.alloc hb2.size _
        have by3:Bx y3 y2.heap.size #[.int .i64 v0,.int .i64 v1,.int .i64 v2,.int .i64 v3] 28:=by rw [hy3];exact heap_alloc_new y2 _
        refine kG (i:=8) (by kernel_rfl) ?_;refine xU (s:=8) (e':=some 78) rfl rfl rfl (.slice (some ⟨y2.heap.size,0,none⟩) 1 1) y3 ?_ ⟨fun _=>K y3 hb3,?_⟩
        ·rw [hy3];go_simp
         try with_reducible rfl
        simp only [pz];have ho3:=zS hoy2 (show Below y2.heap.size y2 y3 by rw [hy3];exact (br _ _).alloc (nl _) _);refine qO (s:=9) (e':=some 79) rfl rfl rfl (.tmp 76) (.tmp 78) 32 rfl (by kernel_rfl) y.heap.size 28 li _ 4 32 Tryz.underlying32 lhi lhz0 lhz1 lhz2 rfl (by decide) v69 _ _ rfl ho3 ⟨y2.heap.size,0,none⟩ 1 1 (xD (v0,v1,v2,v3)) rfl rfl (World.news_of_block by3) (kP _) (by decide) (by unfold maxLen;omega) (by omega) hb3.size _ rfl ?_;intro g2 cap2 z ho2 hg2 hwh hlt2;have hbz:Below y.heap.size y z:=hb3.grown hg2 hb3.size (fun k hk=>(ho3.lt k hk).1);refine ⟨fun _=>K z hbz,?_⟩;simp only [pz];refine zD 10 80 (.pointer (some ⟨N,0,none⟩)) (K z hbz) ?_;refine zD 11 81 (.pointer (some ⟨N,18,none⟩)) (K z hbz) ?_;refine kT (s:=12) (N:=N) (o:=18) (u:=.slice (some ⟨g2,0,none⟩) (Q.votes.length+1) cap2) (old:=zA Q s1) (new:=zA q2 { s1 with votes:=.slice (some ⟨g2,0,none⟩) (Q.votes.length+1) cap2 }) rfl rfl rfl rfl (by kernel_rfl) rfl rfl (K z hbz).1 (by kernel_rfl) (by simp [zA]) rfl (by rw [hq2];rfl) ?_;intro z2 hg hk
        have HZ:Hid (PtV w z2 N lo q2 { s1 with votes:=.slice (some ⟨g2,0,none⟩) (Q.votes.length+1) cap2 } (v0,v1,v2,v3)):=(by
         have ho3:z.ownsRow y.heap.size 28 4 (.slice (some ⟨g2,0,none⟩) (Q.votes.length+1) cap2) (Q.votes ++ [(v0,v1,v2,v3)]).length (zE xD (Q.votes ++ [(v0,v1,v2,v3)])):=by rw [List.length_append,zY];simpa [zE] using ho2
         have ho4:=World.ownsRow.kept ho3 hg (zH ho3 (K z hbz).1 (by decide));refine (HX.out.more hbz).put hNl hg hk ?_ (fun g hg=>(six_votes hg).elim (fun e=>by have:=(ho3.lt g e).1;have:=HX.out.lt;omega) (HX.out.far g));rw [hq2]
         exact (HX.out.own.below hbz).boxed (K z hbz).1 hg |>.setVotes (Nat.le_trans hbz.size hg.size) (nl _) (zN ho4 (Nat.le_trans hlo HX.out.grown.size)) (fun g e=>by cases e;exact Nat.lt_of_lt_of_le hlt2 hg.size) (fun g e=>Or.inr (ho3.lt g e).1):PtV w z2 N lo q2 _ (v0,v1,v2,v3))
        refine ⟨fun h=>absurd h (by decide),?_⟩;refine zK (by kernel_rfl) ?_ _;go_wp2
        go_meet
        case rel=>exact ⟨_,HZ.out⟩
       ·obtain ⟨y2,hy2⟩:∃ y2,y2=y1.alloc (.cells #[.int .i64 v0,.int .i64 v1,.int .i64 v2,.int .i64 v3] 28):=⟨_,rfl⟩;have hb2:Below y.heap.size y y2:=by rw [hy2];exact hb1.alloc hb1.size _
        have by2:Bx y2 y1.heap.size #[.int .i64 v0,.int .i64 v1,.int .i64 v2,.int .i64 v3] 28:=by rw [hy2];exact heap_alloc_new y1 _
        refine xU (s:=8) (e':=some 78) rfl rfl rfl (.slice (some ⟨y1.heap.size,0,none⟩) 1 1) y2 ?_ ⟨fun _=>K y2 hb2,?_⟩
        ·rw [hy2];go_simp
         try with_reducible rfl
        simp only [pz];have oy2:=zS oy1 (show Below y1.heap.size y1 y2 by rw [hy2];exact (br _ _).alloc (nl _) _);refine kG (i:=6) (by kernel_rfl) ?_;refine xS (s:=6) (e':=some 76) rfl rfl rfl (.tmp 71) (.tmp 75) 32 rfl y.heap.size 28 li _ 32 Tryz.underlying32 lhi lhz0 lhz1 lhz2 rfl (by decide) kW kP (.slice (some ⟨y.drew.heap.size,0,none⟩) 0 0) [] rfl oy2 _ Q.votes rfl (RD y2 hb2) (by simp;unfold maxLen;omega) (by simp;omega) hb2.size ?_;intro v69 y3 hoy3 hgy3 haty3;simp only [List.nil_append] at hoy3;have hb3:Below y.heap.size y y3:=hb2.grown hgy3 hb2.size (fun k hk=>(oy2.lt k hk).1);refine ⟨fun _=>K y3 hb3,?_⟩;simp only [pz];have by3:Bx y3 y1.heap.size #[.int .i64 v0,.int .i64 v1,.int .i64 v2,.int .i64 v3] 28:=(hgy3.block _ (gl by2) (fun e=>by have e:=Option.some.inj e;rw [hy1] at e;simp at e)).trans by2;refine qO (s:=9) (e':=some 79) rfl rfl rfl (.tmp 76) (.tmp 78) 32 rfl (by kernel_rfl) y.heap.size 28 li _ 4 32 Tryz.underlying32 lhi lhz0 lhz1 lhz2 rfl (by decide) v69 _ _ rfl hoy3 ⟨y1.heap.size,0,none⟩ 1 1 (xD (v0,v1,v2,v3)) rfl rfl (World.news_of_block by3) (kP _) (by decide) (by unfold maxLen;omega) (by omega) hb3.size _ rfl ?_;intro g2 cap2 z ho2 hg2 hwh hlt2;have hbz:Below y.heap.size y z:=hb3.grown hg2 hb3.size (fun k hk=>(hoy3.lt k hk).1);refine ⟨fun _=>K z hbz,?_⟩;simp only [pz];refine zD 10 80 (.pointer (some ⟨N,0,none⟩)) (K z hbz) ?_;refine zD 11 81 (.pointer (some ⟨N,18,none⟩)) (K z hbz) ?_;refine kT (s:=12) (N:=N) (o:=18) (u:=.slice (some ⟨g2,0,none⟩) (Q.votes.length+1) cap2) (old:=zA Q s1) (new:=zA q2 { s1 with votes:=.slice (some ⟨g2,0,none⟩) (Q.votes.length+1) cap2 }) rfl rfl rfl rfl (by kernel_rfl) rfl rfl (K z hbz).1 (by kernel_rfl) (by simp [zA]) rfl (by rw [hq2];rfl) ?_;intro z2 hg hk
        have HZ:Hid (PtV w z2 N lo q2 { s1 with votes:=.slice (some ⟨g2,0,none⟩) (Q.votes.length+1) cap2 } (v0,v1,v2,v3)):=(by
         have ho3:z.ownsRow y.heap.size 28 4 (.slice (some ⟨g2,0,none⟩) (Q.votes.length+1) cap2) (Q.votes ++ [(v0,v1,v2,v3)]).length (zE xD (Q.votes ++ [(v0,v1,v2,v3)])):=by rw [List.length_append,zY];simpa [zE] using ho2
         have ho4:=World.ownsRow.kept ho3 hg (zH ho3 (K z hbz).1 (by decide));refine (HX.out.more hbz).put hNl hg hk ?_ (fun g hg=>(six_votes hg).elim (fun e=>by have:=(ho3.lt g e).1;have:=HX.out.lt;omega) (HX.out.far g));rw [hq2]
         exact (HX.out.own.below hbz).boxed (K z hbz).1 hg |>.setVotes (Nat.le_trans hbz.size hg.size) (nl _) (zN ho4 (Nat.le_trans hlo HX.out.grown.size)) (fun g e=>by cases e;exact Nat.lt_of_lt_of_le hlt2 hg.size) (fun g e=>Or.inr (ho3.lt g e).1):PtV w z2 N lo q2 _ (v0,v1,v2,v3))
        refine ⟨fun h=>absurd h (by decide),?_⟩;refine zK (by kernel_rfl) ?_ _;go_wp2
        go_meet
        case rel=>exact ⟨_,HZ.out⟩
      ·obtain ⟨y1,hy1⟩:∃ y1,y1=y.drew.alloc (.cells #[.int .i64 v0,.int .i64 v1,.int .i64 v2,.int .i64 v3] 28):=⟨_,rfl⟩;have hb1:Below y.heap.size y y1:=by rw [hy1];exact hd0.alloc hd0.size _
       have by1:Bx y1 y.drew.heap.size #[.int .i64 v0,.int .i64 v1,.int .i64 v2,.int .i64 v3] 28:=by rw [hy1];exact heap_alloc_new y.drew _
       refine xU (s:=8) (e':=some 78) rfl rfl rfl (.slice (some ⟨y.drew.heap.size,0,none⟩) 1 1) y1 ?_ ⟨fun _=>K y1 hb1,?_⟩
       ·rw [hy1];go_simp
        try with_reducible rfl
       simp only [pz];obtain ⟨y2,hy2⟩:∃ y2,y2=y1.alloc (.cells #[] 28):=⟨_,rfl⟩;have hb2:Below y.heap.size y y2:=by rw [hy2];exact hb1.alloc hb1.size _
       have oy2:y2.ownsRow y.heap.size 28 4 (.slice (some ⟨y1.heap.size,0,none⟩) 0 0) ([]:List VT).length (zE xD []):=by rw [hy2];exact zN (yH y1 _ _) hb1.size
       refine kG (i:=1) (by kernel_rfl) ?_;refine xU (s:=1) (e':=some 71) rfl rfl rfl (.slice (some ⟨y1.heap.size,0,none⟩) 0 0) y2 ?_ ⟨fun _=>K y2 hb2,?_⟩
       ·rw [hy2];go_simp
        try with_reducible rfl
       simp only [pz];refine kG (i:=6) (by kernel_rfl) ?_;refine xS (s:=6) (e':=some 76) rfl rfl rfl (.tmp 71) (.tmp 75) 32 rfl y.heap.size 28 li _ 32 Tryz.underlying32 lhi lhz0 lhz1 lhz2 rfl (by decide) kW kP (.slice (some ⟨y1.heap.size,0,none⟩) 0 0) [] rfl oy2 _ Q.votes rfl (RD y2 hb2) (by simp;unfold maxLen;omega) (by simp;omega) hb2.size ?_;intro v69 y3 hoy3 hgy3 haty3;simp only [List.nil_append] at hoy3;have hb3:Below y.heap.size y y3:=hb2.grown hgy3 hb2.size (fun k hk=>(oy2.lt k hk).1);refine ⟨fun _=>K y3 hb3,?_⟩;simp only [pz];have by3:Bx y3 y.drew.heap.size #[.int .i64 v0,.int .i64 v1,.int .i64 v2,.int .i64 v3] 28:=(hgy3.block _ (Nat.lt_of_lt_of_le (gl by1) (by rw [hy2];simp)) (fun e=>by have e:=Option.some.inj e;rw [hy1] at e;simp at e)).trans (((show Below y1.heap.size y1 y2 by rw [hy2];exact (br _ _).alloc (nl _) _).block _ (gl by1)).trans by1);refine qO (s:=9) (e':=some 79) rfl rfl rfl (.tmp 76) (.tmp 78) 32 rfl (by kernel_rfl) y.heap.size 28 li _ 4 32 Tryz.underlying32 lhi lhz0 lhz1 lhz2 rfl (by decide) v69 _ _ rfl hoy3 ⟨y.drew.heap.size,0,none⟩ 1 1 (xD (v0,v1,v2,v3)) rfl rfl (World.news_of_block by3) (kP _) (by decide) (by unfold maxLen;omega) (by omega) hb3.size _ rfl ?_;intro g2 cap2 z ho2 hg2 hwh hlt2;have hbz:Below y.heap.size y z:=hb3.grown hg2 hb3.size (fun k hk=>(hoy3.lt k hk).1);refine ⟨fun _=>K z hbz,?_⟩;simp only [pz];refine zD 10 80 (.pointer (some ⟨N,0,none⟩)) (K z hbz) ?_;refine zD 11 81 (.pointer (some ⟨N,18,none⟩)) (K z hbz) ?_;refine kT (s:=12) (N:=N) (o:=18) (u:=.slice (some ⟨g2,0,none⟩) (Q.votes.length+1) cap2) (old:=zA Q s1) (new:=zA q2 { s1 with votes:=.slice (some ⟨g2,0,none⟩) (Q.votes.length+1) cap2 }) rfl rfl rfl rfl (by kernel_rfl) rfl rfl (K z hbz).1 (by kernel_rfl) (by simp [zA]) rfl (by rw [hq2];rfl) ?_;intro z2 hg hk
       have HZ:Hid (PtV w z2 N lo q2 { s1 with votes:=.slice (some ⟨g2,0,none⟩) (Q.votes.length+1) cap2 } (v0,v1,v2,v3)):=(by
        have ho3:z.ownsRow y.heap.size 28 4 (.slice (some ⟨g2,0,none⟩) (Q.votes.length+1) cap2) (Q.votes ++ [(v0,v1,v2,v3)]).length (zE xD (Q.votes ++ [(v0,v1,v2,v3)])):=by rw [List.length_append,zY];simpa [zE] using ho2
        have ho4:=World.ownsRow.kept ho3 hg (zH ho3 (K z hbz).1 (by decide));refine (HX.out.more hbz).put hNl hg hk ?_ (fun g hg=>(six_votes hg).elim (fun e=>by have:=(ho3.lt g e).1;have:=HX.out.lt;omega) (HX.out.far g));rw [hq2]
        exact (HX.out.own.below hbz).boxed (K z hbz).1 hg |>.setVotes (Nat.le_trans hbz.size hg.size) (nl _) (zN ho4 (Nat.le_trans hlo HX.out.grown.size)) (fun g e=>by cases e;exact Nat.lt_of_lt_of_le hlt2 hg.size) (fun g e=>Or.inr (ho3.lt g e).1):PtV w z2 N lo q2 _ (v0,v1,v2,v3))
       refine ⟨fun h=>absurd h (by decide),?_⟩;refine zK (by kernel_rfl) ?_ _;go_wp2
       go_meet
       case rel=>exact ⟨_,HZ.out⟩
     case rest=>
      obtain ⟨s2,hZ⟩:=hcut;have HZ:=hid hZ;clear hZ HX;have HSL:Hid ((q2.votes.length:Int)≤1048576):=hid (by rw [hq2];have:=HSQ.out.2;simp;omega);clear hq2;have hne:=yX wc;have y18:∀ x:Bw wc,x.to.cell? ⟨N,18,none⟩=some s2.votes:=fun x=>zB (HZ.out.more x.below).ptr 18 _ rfl
      have z0:∀ x:Bw wc,x.to.cell? ⟨w.heap.size,0,none⟩=some (.int .i64 v0):=fun x=>zB (HZ.out.more x.below).box 0 _ rfl
      have z1:∀ x:Bw wc,x.to.cell? ⟨w.heap.size,1,none⟩=some (.int .i64 v1):=fun x=>zB (HZ.out.more x.below).box 1 _ rfl
      have z2:∀ x:Bw wc,x.to.cell? ⟨w.heap.size,2,none⟩=some (.int .i64 v2):=fun x=>zB (HZ.out.more x.below).box 2 _ rfl
      obtain ⟨sg,e3⟩:∃ sg,jP q2.votes v0 v1 v2=sg:=⟨_,rfl⟩;have hsg:=signersT_bounds q2.votes v0 v1 v2;rw [e3] at hsg;obtain ⟨cn,e4⟩:∃ cn,zFH sg=cn:=⟨_,rfl⟩;obtain ⟨qn,e5⟩:∃ qn,zBD n=qn:=⟨_,rfl⟩;have HSG:Hid (∀ x:Bw wc,Calls Tryz.prog 162 #[s2.votes,.int .i64 v0,.int .i64 v1,.int .i64 v2] x.to fun e w'=>e=.returned (.int .i64 sg)∧Below x.to.heap.size x.to w'):=fun x=>by rw [← e3];exact signers_s q2.votes s2.votes v0 v1 v2 x.to (HZ.out.more x.below).own.reads.votes HSL.out
      have HCN:Hid (∀ x:World,Calls Tryz.prog 120 #[.int .i64 sg] x fun e w'=>e=.returned (.int .i64 cn)∧w'=x):=fun x=>by rw [← e4];exact count_s sg x (by omega) (by omega)
      by_cases h3:cn=qn
      ·have b3:(cn != qn)=false:=by simpa using h3
       have HE2:Hid (R=if v0=4 then ({ q2 with high:=yF q2.high (zHE q2.votes v0 v1 v2 n).1 },[]) else (q2,zAH q2 (zHE q2.votes v0 v1 v2 n).1 n.toNat)):=(by rw [HE.out];unfold leadQ;simp only;rw [e3,e4,e5,if_pos h3]:R=_);clear h3 e3 e4 hsg;go_wp2;refine rb ?_;repeat (go_big_quiet_step (first | (go_at_call 162;with_reducible refine xX (HSG.out _)) | (go_at_call 120;with_reducible refine zI (HCN.out _)) | (with_reducible refine zI (zJD e5 hn0' hn1' _))))
       refine wpQuiet_nil ?_;intro _ hw';obtain ⟨xq,rfl⟩:=hw';have HX:Hid (PtV w xq.to N lo q2 s2 (v0,v1,v2,v3)):=HZ.out.more xq.below;obtain ⟨y,hy⟩:∃ y,y=xq.to:=⟨_,rfl⟩;rw [← hy] at HX ⊢;clear hy y18 z0 z1 z2 hne HZ HSG HCN HE;obtain ⟨⟨qc,qb⟩,e6⟩:∃ q,zHE q2.votes v0 v1 v2 n=q:=⟨_,rfl⟩;rw [e6] at HE2;simp only at HE2;go_wp2;refine xA (Below y.heap.size y) (by kernel_rfl) ?_;show wpAnyH Tryz.prog _ _ _ _ (17+1) (Array.replicate 18 false) _ _;refine fl_in (i:=15) (d:=some 9) (obj:=.cells #[.int .i64 0,.int .i64 0,.int .i64 0,.int .i64 0] 26 (0,0)) (base:=y.heap.size) (T:=Below y.heap.size y) (f:=17) ?_ (br _ _).drew;refine kU (j:=0) (e':=some 99) (v:=.pointer (some ⟨N,0,none⟩)) rfl rfl rfl rfl (by kernel_rfl) (by kernel_rfl) (by kernel_rfl) (by kernel_rfl) (by kernel_rfl) (by decide) (by kernel_rfl) (fun _ _ _ h=>h) (fun _ h=>h) (Or.inl ⟨by rfl,?_⟩) ?_
       ·intro x hx;go_simp
        try with_reducible rfl
       simp only [pz];refine kU (j:=1) (e':=some 100) (v:=.pointer (some ⟨N,0,none⟩)) rfl rfl rfl rfl (by kernel_rfl) (by kernel_rfl) (by kernel_rfl) (by kernel_rfl) (by kernel_rfl) (by decide) (by kernel_rfl) (fun _ _ _ h=>h) (fun _ h=>h) (Or.inl ⟨by rfl,?_⟩) ?_
       ·intro x hx;go_simp
        try with_reducible rfl
       simp only [pz];refine kU (j:=2) (e':=some 101) (v:=.pointer (some ⟨N,18,none⟩)) rfl rfl rfl rfl (by kernel_rfl) (by kernel_rfl) (by kernel_rfl) (by kernel_rfl) (by kernel_rfl) (by decide) (by kernel_rfl) (fun _ _ _ h=>h) (fun _ h=>h) (Or.inl ⟨by rfl,?_⟩) ?_
       ·intro x hx;go_simp
        try with_reducible rfl
       simp only [pz];refine kU (j:=3) (e':=some 102) (v:=s2.votes) rfl rfl rfl rfl (by kernel_rfl) (by kernel_rfl) (by kernel_rfl) (by kernel_rfl) (by kernel_rfl) (by decide) (by kernel_rfl) (fun _ _ _ h=>h) (fun _ h=>h) (Or.inl ⟨by rfl,?_⟩) ?_
       ·intro x hx;have c:=zB (HX.out.more hx).ptr 18 s2.votes rfl;go_simp
        try with_reducible rfl
       simp only [pz];refine kU (j:=4) (e':=some 103) (v:=.pointer (some ⟨w.heap.size,0,none⟩)) rfl rfl rfl rfl (by kernel_rfl) (by kernel_rfl) (by kernel_rfl) (by kernel_rfl) (by kernel_rfl) (by decide) (by kernel_rfl) (fun _ _ _ h=>h) (fun _ h=>h) (Or.inl ⟨by rfl,?_⟩) ?_
       ·intro x hx;go_simp
        try with_reducible rfl
       simp only [pz];refine kU (j:=5) (e':=some 104) (v:=.int .i64 v0) rfl rfl rfl rfl (by kernel_rfl) (by kernel_rfl) (by kernel_rfl) (by kernel_rfl) (by kernel_rfl) (by decide) (by kernel_rfl) (fun _ _ _ h=>h) (fun _ h=>h) (Or.inl ⟨by rfl,?_⟩) ?_
       ·intro x hx;have c:=zB (HX.out.more hx).box 0 (.int .i64 v0) rfl;go_simp
        try with_reducible rfl
       simp only [pz];refine kU (j:=6) (e':=some 105) (v:=.pointer (some ⟨w.heap.size,1,none⟩)) rfl rfl rfl rfl (by kernel_rfl) (by kernel_rfl) (by kernel_rfl) (by kernel_rfl) (by kernel_rfl) (by decide) (by kernel_rfl) (fun _ _ _ h=>h) (fun _ h=>h) (Or.inl ⟨by rfl,?_⟩) ?_
       ·intro x hx;go_simp
        try with_reducible rfl
       simp only [pz];refine kU (j:=7) (e':=some 106) (v:=.int .i64 v1) rfl rfl rfl rfl (by kernel_rfl) (by kernel_rfl) (by kernel_rfl) (by kernel_rfl) (by kernel_rfl) (by decide) (by kernel_rfl) (fun _ _ _ h=>h) (fun _ h=>h) (Or.inl ⟨by rfl,?_⟩) ?_
       ·intro x hx;have c:=zB (HX.out.more hx).box 1 (.int .i64 v1) rfl;go_simp
        try with_reducible rfl
       simp only [pz];refine kU (j:=8) (e':=some 107) (v:=.pointer (some ⟨w.heap.size,2,none⟩)) rfl rfl rfl rfl (by kernel_rfl) (by kernel_rfl) (by kernel_rfl) (by kernel_rfl) (by kernel_rfl) (by decide) (by kernel_rfl) (fun _ _ _ h=>h) (fun _ h=>h) (Or.inl ⟨by rfl,?_⟩) ?_
       ·intro x hx;go_simp
        try with_reducible rfl
       simp only [pz];refine kU (j:=9) (e':=some 108) (v:=.int .i64 v2) rfl rfl rfl rfl (by kernel_rfl) (by kernel_rfl) (by kernel_rfl) (by kernel_rfl) (by kernel_rfl) (by decide) (by kernel_rfl) (fun _ _ _ h=>h) (fun _ h=>h) (Or.inl ⟨by rfl,?_⟩) ?_
       ·intro x hx;have c:=zB (HX.out.more hx).box 2 (.int .i64 v2) rfl;go_simp
        try with_reducible rfl
       simp only [pz];refine kU (j:=10) (e':=some 109) (v:=.int .i64 n) rfl rfl rfl rfl (by kernel_rfl) (by kernel_rfl) (by kernel_rfl) (by kernel_rfl) (by kernel_rfl) (by decide) (by kernel_rfl) (fun _ _ _ h=>h) (fun _ h=>h) (Or.inl ⟨by rfl,?_⟩) ?_
       ·intro x hx;go_simp
        try with_reducible rfl
       simp only [pz];refine fl_call (c:=11) (e':=some 110) (fn:=163) (args:=#[s2.votes,.int .i64 v0,.int .i64 v1,.int .i64 v2,.int .i64 n]) (T':=fun v' x=>v'=.tuple #[.agg #[.int .i64 qc.1,.int .i64 qc.2.1,.int .i64 qc.2.2.1,.int .i64 qc.2.2.2],.bool qb]∧Below y.heap.size y x) rfl rfl ⟨rfl,fun ρ x=>?_⟩ (fun _ h=>h.size) (fun a b h hb=>bt h hb) (fun _ h=>h) rfl rfl (by kernel_rfl) (Or.inl (by kernel_rfl)) (by kernel_rfl) (by decide) (by kernel_rfl) (by rfl) (fun x=>?_) (fun x hx=>(qcOf_s q2.votes s2.votes v0 v1 v2 n x (HX.out.more hx).own.reads.votes HSL.out hn0' hn1').mono (fun e x' h=>by rw [e6] at h;exact ⟨_,h.1,KpF.below h.2,rfl,bt hx h.2⟩)) (fun _ _ h=>h.2) ?_
       ·unfold flP;go_simp
        try with_reducible rfl
       ·go_simp
        try with_reducible rfl
       intro va;refine fl_and (fun hva=>?_);subst hva;simp only [pz];refine kU (j:=12) (e':=some 98) (v:=.tuple #[.agg #[.int .i64 qc.1,.int .i64 qc.2.1,.int .i64 qc.2.2.1,.int .i64 qc.2.2.2],.bool qb]) rfl rfl rfl rfl (by kernel_rfl) (by kernel_rfl) (by kernel_rfl) (by kernel_rfl) (by kernel_rfl) (by decide) (by kernel_rfl) (fun _ _ _ h=>h) (fun _ h=>h) (Or.inl ⟨by rfl,?_⟩) ?_
       ·intro x hx;go_simp
        try with_reducible rfl
       simp only [pz];refine kU (j:=13) (e':=some 111) (v:=.agg #[.int .i64 qc.1,.int .i64 qc.2.1,.int .i64 qc.2.2.1,.int .i64 qc.2.2.2]) rfl rfl rfl rfl (by kernel_rfl) (by kernel_rfl) (by kernel_rfl) (by kernel_rfl) (by kernel_rfl) (by decide) (by kernel_rfl) (fun _ _ _ h=>h) (fun _ h=>h) (Or.inl ⟨by rfl,?_⟩) ?_
       ·intro x hx;go_simp
        try with_reducible rfl
       simp only [pz];refine kU (j:=14) (e':=some 112) (v:=.bool qb) rfl rfl rfl rfl (by kernel_rfl) (by kernel_rfl) (by kernel_rfl) (by kernel_rfl) (by kernel_rfl) (by decide) (by kernel_rfl) (fun _ _ _ h=>h) (fun _ h=>h) (Or.inl ⟨by rfl,?_⟩) ?_
       ·intro x hx;go_simp
        try with_reducible rfl
       simp only [pz];refine fl_out (f:=2) rfl rfl ⟨rfl,fun ρ x=>?_⟩ (fun _ h=>h.size) (fun a b h hb=>bt h hb) (fun _ h=>h) (by kernel_rfl) ?_
       ·unfold flP;go_simp
        try with_reducible rfl
       intro Nq y3 hT hNq hold;simp only [pz];refine jR (s:=16) (N:=Nq) (cells:=#[.int .i64 qc.1,.int .i64 qc.2.1,.int .i64 qc.2.2.1,.int .i64 qc.2.2.2]) rfl rfl rfl rfl (by kernel_rfl) rfl rfl hold (by kernel_rfl) rfl (by simp [Value.oneCell']) ?_;intro y4 hgr hnew;have hb:Below y.heap.size y y4:=hT.grown hgr hT.size (fun k hk=>by cases hk;exact hNq);refine ⟨hb,?_⟩;refine yJ 17 10 (.bool qb) hb ?_;refine h_dn ?_;have HX4:Hid (PtV w y4 N lo q2 s2 (v0,v1,v2,v3)):=HX.out.more hb;have HQC:=hid hnew;clear hT hNq hold hgr hnew hb HX;have c0:=zB HX4.out.box 0 (.int .i64 v0) rfl
       by_cases h4:v0=4
       ·subst h4;obtain ⟨q3,hq3⟩:∃ q3:PE,q3={ q2 with high:=yF q2.high qc }:=⟨_,rfl⟩;have HE3:Hid (R=(q3,[])):=(by rw [HE2.out,if_pos rfl,hq3]:R=_);go_wp2;clear c0;refine zT (fun i=>decide (i < 9)) (fun x=>Bx x N (zA q2 s2) 35∧Bx x Nq #[.int .i64 qc.1,.int .i64 qc.2.1,.int .i64 qc.2.2.1,.int .i64 qc.2.2.2] 26) (by kernel_rfl) ?_;show zX Tryz.prog _ _ _ _ _ (9+1) (Array.replicate 10 false) _ _;have hS:Bx y4.drew N (zA q2 s2) 35∧Bx y4.drew Nq #[.int .i64 qc.1,.int .i64 qc.2.1,.int .i64 qc.2.2.1,.int .i64 qc.2.2.2] 26:=⟨HX4.out.ptr,HQC.out⟩;refine zD 0 116 (.pointer (some ⟨N,0,none⟩)) hS ?_;refine zD 1 117 (.pointer (some ⟨N,0,none⟩)) hS ?_;refine zD 2 118 (.pointer (some ⟨N,0,none⟩)) hS ?_;refine zD 3 119 (.pointer (some ⟨N,2,none⟩)) hS ?_;refine zD 4 120 (.agg #[.int .i64 q2.high.1,.int .i64 q2.high.2.1,.int .i64 q2.high.2.2.1,.int .i64 q2.high.2.2.2]) hS ?_ (hy:=by intro x hx;have d0:=zB hx.1 2 (.int .i64 q2.high.1) rfl;have d1:=zB hx.1 3 (.int .i64 q2.high.2.1) rfl;have d2:=zB hx.1 4 (.int .i64 q2.high.2.2.1) rfl;have d3:=zB hx.1 5 (.int .i64 q2.high.2.2.2) rfl;go_simp;try with_reducible rfl);refine zD 5 121 (.agg #[.int .i64 qc.1,.int .i64 qc.2.1,.int .i64 qc.2.2.1,.int .i64 qc.2.2.2]) hS ?_ (hy:=fun x hx=>zM _ _ rfl Nq rfl _ _ _ _ hx.2 Tryz.underlying26 rfl (by kernel_rfl));refine kJ 6 122 34 #[.agg #[.int .i64 q2.high.1,.int .i64 q2.high.2.1,.int .i64 q2.high.2.2.1,.int .i64 q2.high.2.2.2],.agg #[.int .i64 qc.1,.int .i64 qc.2.1,.int .i64 qc.2.2.1,.int .i64 qc.2.2.2]] ((yAF q2.high qc y4.drew).mono ?_);rintro e x5 ⟨rfl,hb0⟩;have hb:Below y4.heap.size y4 x5:=((br _ _).drew).trans hb0;have HX5:Hid (PtV w x5 N lo q2 s2 (4,v1,v2,v3)):=HX4.out.more hb;have hS1:Bx x5 N (zA q2 s2) 35∧Bx x5 Nq #[.int .i64 qc.1,.int .i64 qc.2.1,.int .i64 qc.2.2.1,.int .i64 qc.2.2.2] 26:=⟨HX5.out.ptr,(hb.block _ (gl HQC.out)).trans HQC.out⟩;clear hb hb0 hS HX4;refine ⟨_,rfl,fun _=>hS1,?_⟩;simp only [pz];refine zD 7 123 (.pointer (some ⟨N,0,none⟩)) hS1 ?_;refine zD 8 124 (.pointer (some ⟨N,2,none⟩)) hS1 ?_;refine xW (s:=9) (N:=N) (o:=2) (cells:=#[.int .i64 (yF q2.high qc).1,.int .i64 (yF q2.high qc).2.1,.int .i64 (yF q2.high qc).2.2.1,.int .i64 (yF q2.high qc).2.2.2]) (old:=zA q2 s2) (new:=zA q3 s2) rfl rfl rfl rfl (by kernel_rfl) rfl rfl HX5.out.ptr (by kernel_rfl) (by simp [zA]) (by simp [Value.oneCell']) (by rw [hq3];rfl) ?_;intro y6 hg hk;have HY6:Hid (PtV w y6 N lo q3 s2 (4,v1,v2,v3)):=HX5.out.put hNl hg hk (by rw [hq3];exact ((HX5.out.own.boxed HX5.out.ptr hg).wide hg.size (nl _)).other rfl rfl rfl rfl rfl rfl) HX5.out.far;clear hg hk hS1 HX5;refine ⟨fun h=>absurd h (by decide),?_⟩;refine zK (by kernel_rfl) ?_ _;go_wp2;go_ret;rw [HE3.out];exact ⟨_,rfl,HY6.out.grown,⟨s2,HY6.out.ptr,HY6.out.own⟩,HY6.out.out⟩
       ·have b4:(v0 == 4)=false:=by simpa using h4
        have HE3:Hid (R=(q2,zAH q2 qc n.toNat)):=(by rw [HE2.out,if_neg h4]:R=_);go_wp2;clear c0 b4 h4
        go_loopw [7,11] (fun o i wr=>∃ m:Nat,m≤n.toNat∧i=.int .i64 (m:Int)∧Hid (PtC w wr N Nq lo q2 s2 qc)∧Hid (wr.ownsRow w.heap.size 37 13 o m (zE yE (zAH q2 qc m))∧∀ g,o.ownBlock=some g→¬ zIE s2 g)) (fun _ i _=>n.toNat - (intOf i).toNat)
        case atStart=>exact ⟨0,Nat.zero_le _,rfl,⟨HX4.out.ptr,HQC.out,HX4.out.own,HX4.out.grown⟩,HX4.out.out,fun g e hg=>HX4.out.far g hg (Option.some.inj e).symm⟩
        case round=>
         obtain ⟨m,hm,rfl,HY,HO⟩:=hrel
         by_cases hlt:m < n.toNat
         ·have g1:(m:Int) < n:=by omega
          go_wp2;refine zT (fun _=>true) (fun x=>Bx x N (zA q2 s2) 35∧Bx x Nq #[.int .i64 qc.1,.int .i64 qc.2.1,.int .i64 qc.2.2.1,.int .i64 qc.2.2.2] 26) (by kernel_rfl) ?_;show zX Tryz.prog _ _ _ _ _ (10+1) (Array.replicate 11 false) _ _;have hS:Bx wr.drew N (zA q2 s2) 35∧Bx wr.drew Nq #[.int .i64 qc.1,.int .i64 qc.2.1,.int .i64 qc.2.2.1,.int .i64 qc.2.2.2] 26:=⟨HY.out.ptr,HY.out.qc⟩;refine zD 0 131 u7 hS ?_;refine zD 1 132 (.pointer (some ⟨N,0,none⟩)) hS ?_;refine zD 2 133 (.pointer (some ⟨N,0,none⟩)) hS ?_;refine zD 3 134 (.agg (zA q2 s2)) hS ?_ (hy:=fun x hx=>zM _ _ rfl N rfl _ _ _ _ hx.1 Tryz.underlying35 rfl (by kernel_rfl));refine zD 4 135 (.int .i64 (m:Int)) hS ?_;refine zD 5 136 (.agg #[.int .i64 qc.1,.int .i64 qc.2.1,.int .i64 qc.2.2.1,.int .i64 qc.2.2.2]) hS ?_ (hy:=fun x hx=>zM _ _ rfl Nq rfl _ _ _ _ hx.2 Tryz.underlying26 rfl (by kernel_rfl));refine zD 6 137 (.agg #[.int .i64 0,.int .i64 0,.int .i64 0,.int .i64 0]) hS ?_;refine kJ 7 138 63 #[.agg (zA q2 s2),.int .i64 3,.int .i64 (m:Int),.agg #[.int .i64 qc.1,.int .i64 qc.2.1,.int .i64 qc.2.2.1,.int .i64 qc.2.2.2],.agg #[.int .i64 0,.int .i64 0,.int .i64 0,.int .i64 0]] ((answered_s q2 s2 3 (m:Int) qc (0,0,0,0) wr.drew).mono ?_);obtain ⟨LL,hLL⟩:∃ LL,LL=kX q2 3 (m:Int) qc (0,0,0,0):=⟨_,rfl⟩;have HLL:Hid (zAH q2 qc (m+1)=zAH q2 qc m ++ [LL]):=(by rw [hLL];rfl:zAH q2 qc (m+1)=_);rw [← hLL];clear hLL;rintro e x4 ⟨rfl,hb0⟩;have hb:Below wr.heap.size wr x4:=((br _ _).drew).trans hb0;have HY4:Hid (PtC w x4 N Nq lo q2 s2 qc):=HY.out.more hb;have HO4:Hid (x4.ownsRow w.heap.size 37 13 u7 m (zE yE (zAH q2 qc m))):=zS HO.out.1 hb;clear hb hb0 hS;refine ⟨_,rfl,fun _=>⟨HY4.out.ptr,HY4.out.qc⟩,?_⟩;simp only [pz];obtain ⟨y5,hy5⟩:∃ y5,y5=x4.alloc (.cells (zQ LL) 37):=⟨_,rfl⟩;have hb5:Below x4.heap.size x4 y5:=by rw [hy5];exact (br _ _).alloc (nl _) _
          have HY5:Hid (PtC w y5 N Nq lo q2 s2 qc):=HY4.out.more hb5;have HO5:Hid (y5.ownsRow w.heap.size 37 13 u7 m (zE yE (zAH q2 qc m))):=zS HO4.out hb5;have HB5:Hid (Bx y5 x4.heap.size (zQ LL) 37):=(by rw [hy5];exact heap_alloc_new x4 _:y5.heap[x4.heap.size]?=_);refine p_run (s:=8) (e':=some 139) rfl rfl rfl (by kernel_rfl) (.slice (some ⟨x4.heap.size,0,none⟩) 1 1) y5 ?_ ⟨fun _=>⟨HY5.out.ptr,HY5.out.qc⟩,?_⟩
          ·rw [hy5];unfold letV zQ;go_simp
           try with_reducible rfl
          clear hy5 hb5 HY4 HO4;simp only [pz];refine qO (s:=9) (e':=some 140) rfl rfl rfl (.tmp 131) (.tmp 139) 33 rfl (by kernel_rfl) w.heap.size 37 ri _ 13 104 Tryz.underlying33 rhi rhz0 rhz1 rhz2 rfl (by decide) u7 _ _ rfl HO5.out ⟨x4.heap.size,0,none⟩ 1 1 (yE LL) rfl rfl (World.news_of_block HB5.out) (kF _) (by decide) (by unfold maxLen;omega) (by omega) HY5.out.grown.size _ rfl ?_;intro g6 cap6 y6 ho hg hwh hlt6;have HY6:Hid (PtC w y6 N Nq lo q2 s2 qc):=HY5.out.grow hNl HO5.out hg (fun g hg2 e=>HO.out.2 g e hg2)
          have HO6:Hid (y6.ownsRow w.heap.size 37 13 (.slice (some ⟨g6,0,none⟩) (m+1) cap6) (m+1) (zE yE (zAH q2 qc (m+1)))∧∀ g,(Value.slice (some ⟨g6,0,none⟩) (m+1) cap6).ownBlock=some g→¬ zIE s2 g):=⟨by rw [HLL.out,zY];simpa [zE] using ho,fun g e hg2=>by
           have e:g6=g:=Option.some.inj e;subst e
           rcases hwh with hwh | hwh
           ·exact HO.out.2 g6 hwh hg2
           ·have:=(inSix_lim HY5.out.own hg2).2;omega⟩
          clear ho hg hwh hlt6 HY5 HO5 HB5;refine ⟨fun _=>⟨HY6.out.ptr,HY6.out.qc⟩,?_⟩;simp only [pz];refine zD 10 7 (.slice (some ⟨g6,0,none⟩) (m+1) cap6) ⟨HY6.out.ptr,HY6.out.qc⟩ ?_;refine zK (by kernel_rfl) ?_ _;go_wp2
          go_roundw
          case rel=>exact ⟨m+1,by omega,by go_num,HY6.out,HO6.out⟩
          case measure=>simp [intOf];omega
         ·have hml:m=n.toNat:=by omega
          have g1:¬ (m:Int) < n:=by omega
          have HML:=hid hml;clear hml hlt hm;go_wp2;go_ret;rw [HE3.out];simp only;rw [says_len,← HML.out];exact ⟨_,rfl,HY.out.grown,⟨s2,HY.out.ptr,HY.out.own⟩,HO.out.1⟩
      ·have b3:(cn != qn)=true:=by simpa using h3
       have HE2:Hid (R=(q2,[])):=(by rw [HE.out];unfold leadQ;simp only;rw [e3,e4,e5,if_neg h3]:R=_);clear h3 e3 e4 hsg;go_wp2;refine rb ?_;repeat (go_big_quiet_step (first | (go_at_call 162;with_reducible refine xX (HSG.out _)) | (go_at_call 120;with_reducible refine zI (HCN.out _)) | (with_reducible refine zI (zJD e5 hn0' hn1' _))))
       refine wpQuiet_nil ?_;intro _ hw';obtain ⟨xq,rfl⟩:=hw';go_wp2;go_ret;rw [HE2.out];exact ⟨_,rfl,(HZ.out.more xq.below).grown,⟨s2,(HZ.out.more xq.below).ptr,(HZ.out.more xq.below).own⟩,(HZ.out.more xq.below).out⟩
   ·have b2:(ld != Q.id)=true:=by simpa using h2
    have d2:decide (ld=Q.id)=false:=decide_eq_false h2;have HE:Hid (R=(Q,[])):=(by rw [HR.out];unfold leadR;rw [if_neg (fun h=>h2 (by rw [← e1,HVW.out];exact h.2.1))]:R=_);clear h1 h2;go_wp2;refine rb ?_;repeat (go_big_quiet_step (first | (with_reducible refine zI (xR e1 hn0' hn1' hvb0 hvb1 _)) | (go_at_call 161;with_reducible refine xX (HHV.out _))))
    refine wpQuiet_nil ?_;intro _ hw';obtain ⟨xq,rfl⟩:=hw';go_wp2;go_ret;rw [HE.out];exact ⟨_,rfl,(HY.out.more xq.below).grown,⟨s1,(HY.out.more xq.below).ptr,(HY.out.more xq.below).own⟩,(HY.out.more xq.below).out⟩
  ·have b1:(Q.view != VW)=true:=by simpa using h1
   have d1:decide (Q.view=VW)=false:=decide_eq_false h1;have HE:Hid (R=(Q,[])):=(by rw [HR.out];unfold leadR;rw [if_neg (fun h=>h1 (by rw [HVW.out];exact h.1))]:R=_);clear h1;go_wp2;refine rb ?_;repeat (go_big_quiet_step (first | (with_reducible refine zI (xR e1 hn0' hn1' hvb0 hvb1 _)) | (go_at_call 161;with_reducible refine xX (HHV.out _))))
   refine wpQuiet_nil ?_;intro _ hw';obtain ⟨xq,rfl⟩:=hw';go_wp2;go_ret;rw [HE.out];exact ⟨_,rfl,(HY.out.more xq.below).grown,⟨s1,(HY.out.more xq.below).ptr,(HY.out.more xq.below).own⟩,(HY.out.more xq.below).out⟩
end Go.Proofs.YtdopefimjabigadGreat
