/-
  A text of ours: SaidC.
-/
import Derived.Test.YtfnneillakdopacGreatRK1
import Derived.Test.YtfnneillakdopacGreatRK7
import Derived.Test.YtfnneillakdopacGreatRK4
import Derived.Test.YtfnneillakdopacGreatRLokSZ
set_option maxRecDepth 100000
set_option maxHeartbeats 32000000
namespace Go.Proofs.YtfnneillakdopacGreatR
open _root_.Go.Proofs.Tryz
open Go.Value renaming int->I
open Go.IntKind renaming i64->U
open Option renaming none->Aa,some->Ab
open Nat renaming le_trans->Ac,lt_of_lt_of_le->Ad
open List renaming length_append->Ae
open Go.World.ownsRow renaming kept->Af
open Go.RowKit Num
structure PtS (w y:World) (N lo:Nat) (c:CU) (s:CW) (V:Array Value):Prop where
 inb:InB N lo w y c s
 box:Bx y w.heap.size V 28
theorem PtS.more {w y x:World} {N lo:Nat} {c:CU} {s:CW} {V:Array Value} (h:PtS w y N lo c s V) (hb:Be y x):PtS w x N lo c s V:=
 ⟨h.inb.more hb,bk hb h.box⟩
theorem said_takeC {l:List VT} {v:VT} {m:Nat} (h:m < l.length) (hn:¬ v∈l.take m) (hv:¬ l[m]=v):¬ v∈l.take (m+1):=by
 rw [List.take_succ_eq_append_getElem h];intro hm
 rcases List.mem_append.1 hm with hm | hm
 ·exact hn hm
 ·exact hv (List.mem_singleton.1 hm).symm
theorem said_p (c:CU) (s:CW) (N lo hi:Nat) (v:VT) (w:World) (hbox:Bx w N (zR c s) 124) (hown:xG lo hi w c s) (hlo:lo<=hi) (hk:(c.said.length:Int)<=1048575) :
  Calls prog 195 #[.pointer (Ab ⟨N,0,Aa⟩),.agg #[I U v.1,I U v.2.1,I U v.2.2.1,I U v.2.2.2]] w fun e w'=>(∃ u,e=.returned u)/\∃ s',InB N lo w w' (zHF c v) s':=by
 have bg:N < w.heap.size:=(gl hbox);have au:Hid (lo<=w.heap.size):=Ac hlo hown.size;obtain ⟨li,ag,t,aa,y⟩:=info_parts infoVote;obtain ⟨v0,v1,v2,v3⟩:=v;simp only;obtain ⟨W,hW⟩:=nw (w.alloc (.cells #[I U v0,I U v1,I U v2,I U v3] 28))
 have HW:Hid (PtS w W N lo c s #[I U v0,I U v1,I U v2,I U v3]):=(by
  have hb:Be w W:=by rw [hW];exact (br _ _).alloc (nl _) _
  exact ⟨(InB.start hbox hown).more hb,by rw [hW];exact heap_alloc_new w _⟩:PtS w W N lo c s #[I U v0,I U v1,I U v2,I U v3])
 obtain ⟨R,hR⟩:=nw (zHF c (v0,v1,v2,v3));have HR:Hid (R=if (v0,v1,v2,v3)∈c.said then c else { c with said:=c.said ++ [(v0,v1,v2,v3)] }):=hR;rw [<- hR];clear hR;obtain ⟨a,cap,er,a4⟩:=yL hown.said;have a9:Hid (0 < c.said.length->∃ g,a=Ab ⟨g,0,Aa⟩):=a4;have aw:Hid (s.said=.slice a c.said.length cap):=er;have EV:=eqVt;have GV:=guardVt;clear hbox hown hlo a4 er;go_enter func195,ntmps195;go_wp2;rw [<- hW];clear hW
 go_loopw [4] (fun i wr=>∃ m:Nat,m<=c.said.length/\i=I U (m:Int)/\Hid (¬ (v0,v1,v2,v3)∈c.said.take m)/\Hid (PtS w wr N lo c s #[I U v0,I U v1,I U v2,I U v3])) (fun i _=>c.said.length - (intOf i).toNat)
 case atStart=>exact ⟨0,Nat.zero_le _,rfl,(show ¬ ((v0,v1,v2,v3):VT)∈c.said.take 0 by simp),HW⟩
 case round=>
  obtain ⟨m,hm,rfl,HF,HY⟩:=hrel;have c6:=zB HY.inb.box 6 s.said rfl;rw [aw.out] at c6
  by_cases hlt:(m:Int) < c.said.length
  ·have av:m < c.said.length:=by omega
   obtain ⟨g,rfl⟩:=a9 (by omega);have q0:(0:Int)<=(m:Int):=by omega
   obtain ⟨x,hx⟩:∃ x:VT,x=c.said[m]:=⟨_,rfl⟩;obtain ⟨x0,x1,x2,x3⟩:=x;have a1:Hid (yM wr (.slice (Ab ⟨g,0,Aa⟩) c.said.length cap) 4 xD c.said):=(by rw [<- aw.out];exact zW kW HY.inb.own.said:yM _ _ _ _ _);obtain ⟨a',bd,a7,a3⟩:=a1.out;injection a7 with ea _ ec
   subst ea ec;obtain ⟨g',bf,az,hg,hc⟩:=a3 (by omega);injection az with az
   injection az with a8 af _
   subst a8 af;have bi:=yX wr;have zc:∀ j,j < 4->∀ z:Bw wr,z.to.cell? ⟨g,0+m * 4+j,Aa⟩=(xD (x0,x1,x2,x3))[j]?:=fun j hj z=>by rw [z.below.cell (by exact hg),hx];exact hc m av j hj
   have z0:∀ z:Bw wr,z.to.cell? ⟨g,m * 4,Aa⟩=Ab (I U x0):=fun z=>by have:=zc 0 (by omega) z;simpa [xD] using this
   have z1:∀ z:Bw wr,z.to.cell? ⟨g,m * 4+1,Aa⟩=Ab (I U x1):=fun z=>by have:=zc 1 (by omega) z;simpa [xD] using this
   have z2:∀ z:Bw wr,z.to.cell? ⟨g,m * 4+2,Aa⟩=Ab (I U x2):=fun z=>by have:=zc 2 (by omega) z;simpa [xD] using this
   have z3:∀ z:Bw wr,z.to.cell? ⟨g,m * 4+3,Aa⟩=Ab (I U x3):=fun z=>by have:=zc 3 (by omega) z;simpa [xD] using this
   have y6:∀ z:Bw wr,z.to.cell? ⟨N,6,Aa⟩=Ab (.slice (Ab ⟨g,0,Aa⟩) c.said.length cap):=fun z=>by rw [<- aw.out];exact zB (HY.more z.below).inb.box 6 s.said rfl
   have y0:∀ z:Bw wr,z.to.cell? ⟨w.heap.size,0,Aa⟩=Ab (I U v0):=fun z=>zB (HY.more z.below).box 0 _ rfl
   have y1:∀ z:Bw wr,z.to.cell? ⟨w.heap.size,1,Aa⟩=Ab (I U v1):=fun z=>zB (HY.more z.below).box 1 _ rfl
   have y2:∀ z:Bw wr,z.to.cell? ⟨w.heap.size,2,Aa⟩=Ab (I U v2):=fun z=>zB (HY.more z.below).box 2 _ rfl
   have y3:∀ z:Bw wr,z.to.cell? ⟨w.heap.size,3,Aa⟩=Ab (I U v3):=fun z=>zB (HY.more z.below).box 3 _ rfl
   have ax:∀ z:World,_:=fun z=>EV (x0,x1,x2,x3) (v0,v1,v2,v3) z
   simp only at ax;have HX:Hid ((x0,x1,x2,x3)=c.said[m]):=hx;clear hc hg hx zc a3 a1
   by_cases hh:(x0,x1,x2,x3)=(v0,v1,v2,v3)
   ·have dh:decide ((x0,x1,x2,x3)=(v0,v1,v2,v3))=true:=decide_eq_true hh;have HE:Hid (R=c):=hid (by rw [HR.out,if_pos (by rw [<- hh,HX.out];exact List.getElem_mem av)]);rw [dh] at ax;clear hh dh;go_wp2;clear c6;refine rb ?_;repeat (go_big_quiet_step (fail))
    refine qnn fun xq=>?_
    go_wp2;refine bodyPost_ret (results_none results195 _ _ _) rfl ?_;rw [HE.out];exact ⟨⟨_,rfl⟩,s,(HY.more xq.below).inb⟩
   ·have dh:decide ((x0,x1,x2,x3)=(v0,v1,v2,v3))=false:=decide_eq_false hh;have HN:Hid (¬ (v0,v1,v2,v3)∈c.said.take (m+1)):=said_takeC av HF (by rw [<- HX.out];exact hh);rw [dh] at ax;clear hh dh;go_wp2;clear c6;refine rb ?_;repeat (go_big_quiet_step (fail))
    refine qnn fun xq=>?_
    go_wp2
    go_roundw
    case rel=>exact ⟨m+1,by omega,by go_num,HN,HY.more xq.below⟩
    case measure=>simp [intOf];omega
  ·have a6:m=c.said.length:=by omega
   subst a6;rw [List.take_length] at HF;obtain ⟨c2,ae⟩:∃ c2:CU,c2={ c with said:=c.said ++ [(v0,v1,v2,v3)] }:=⟨_,rfl⟩;have HE:Hid (R=c2):=hid (by rw [HR.out,if_neg HF.out,ae]);go_wp2;clear c6 EV GV;have bh:w.heap.size < wr.heap.size:=(gl HY.box);refine p_rg (fun i=>decide (i < 12)) (fun x=>Bx x N (zR c s) 124/\Bx x w.heap.size #[I U v0,I U v1,I U v2,I U v3] 28) ?_;show zX prog _ _ _ _ _ (12+1) (Array.replicate 13 false) _ _;have hS:Bx wr.drew N (zR c s) 124/\Bx wr.drew w.heap.size #[I U v0,I U v1,I U v2,I U v3] 28:=⟨HY.inb.box,HY.box⟩;have K:∀ x,Be wr x->Bx x N (zR c s) 124/\Bx x w.heap.size #[I U v0,I U v1,I U v2,I U v3] 28:=fun x hb=>⟨(HY.more hb).inb.box,(HY.more hb).box⟩
   have RD:∀ x,Be wr x->yM x s.said 4 xD c.said:=fun x hb=>zW kW (HY.more hb).inb.own.said
   have be:(c.said.length:Int)<=1048576:=by omega
   refine p_pt 0 23 N 0 hS ?_;refine p_pt 2 25 N 0 hS ?_;refine p_pt 3 26 N 0 hS ?_;refine p_pt 4 27 N 6 hS ?_;refine zD 5 28 s.said hS ?_ (hy:=by intro x hx;have c:=zB hx.1 6 s.said rfl;go_simp;try rfl);refine zD 7 30 (.agg #[I U v0,I U v1,I U v2,I U v3]) hS ?_ (hy:=fun x hx=>ldb w.heap.size hx.2 underlying28);have aj:=bw wr;refine zFC (i:=1) (j:=8) (by kernel_rfl) ?_ ?_
   ·obtain ⟨y1,ab⟩:=nw (wr.drew.alloc (.cells #[] 28));have o:Be wr y1:=by rw [ab];exact aj.alloc aj.size _
    have ay:y1.ownsRow wr.heap.size 28 4 (.slice (Ab ⟨wr.drew.heap.size,0,Aa⟩) 0 0) ([]:List VT).length (zE xD []):=by rw [ab];exact zN (yH wr.drew _ _) aj.size
    refine xU (s:=1) (e':=some 24) rfl rfl rfl (.slice (Ab ⟨wr.drew.heap.size,0,Aa⟩) 0 0) y1 ?_ ⟨fun _=>K y1 o,?_⟩
    ·rw [ab];go_simp
     try rfl
    simp only [pz];refine zFC (i:=6) (j:=8) (by kernel_rfl) ?_ ?_
    ·refine xS (s:=6) (e':=some 29) rfl rfl rfl (.tmp 24) (.tmp 28) 32 rfl wr.heap.size 28 li _ 32 underlying32 ag t aa y rfl (by decide) kW kP (.slice (Ab ⟨wr.drew.heap.size,0,Aa⟩) 0 0) [] rfl ay _ c.said rfl (RD y1 o) (by simp;unfold maxLen;omega) (by simp;omega) o.size ?_;intro ah y2 aq a5 bb;simp only [List.nil_append] at aq;have l:Be wr y2:=o.grown a5 o.size (fun k hk=>(ay.lt k hk).1);refine ⟨fun _=>K y2 l,?_⟩;simp only [pz];obtain ⟨y3,ao⟩:=nw (y2.alloc (.cells #[I U v0,I U v1,I U v2,I U v3] 28));have n:Be wr y3:=by rw [ao];exact l.alloc l.size _
     have an:Bx y3 y2.heap.size #[I U v0,I U v1,I U v2,I U v3] 28:=by rw [ao];exact heap_alloc_new y2 _
     refine p_on 8 ?_;refine xU (s:=8) (e':=some 31) rfl rfl rfl (.slice (Ab ⟨y2.heap.size,0,Aa⟩) 1 1) y3 ?_ ⟨fun _=>K y3 n,?_⟩
     ·rw [ao];go_simp
      try rfl
     simp only [pz];have f:=zS aq (show Be y2 y3 by rw [ao];exact (br _ _).alloc (nl _) _);refine qO (s:=9) (e':=some 32) rfl rfl rfl (.tmp 29) (.tmp 31) 32 rfl (by kernel_rfl) wr.heap.size 28 li _ 4 32 underlying32 ag t aa y rfl (by decide) ah _ _ rfl f ⟨y2.heap.size,0,Aa⟩ 1 1 (xD (v0,v1,v2,v3)) rfl rfl (World.news_of_block an) (kP _) (by decide) (by unfold maxLen;omega) (by omega) n.size _ rfl ?_;intro g2 d z ai af a2 ap;have b:Be wr z:=n.grown af n.size (fun k hk=>(f.lt k hk).1);refine ⟨fun _=>K z b,?_⟩;simp only [pz];refine zD 10 33 (.pointer (Ab ⟨N,0,Aa⟩)) (K z b) ?_;refine zD 11 34 (.pointer (Ab ⟨N,6,Aa⟩)) (K z b) ?_;refine p_ce 12 N 6 (.slice (Ab ⟨g2,0,Aa⟩) (c.said.length+1) d) (zR c s) (zR c2 { s with said:=.slice (Ab ⟨g2,0,Aa⟩) (c.said.length+1) d }) ((K z b).1) (by simp [zR]) rfl (by rw [ae];rfl) ?_;intro z2 hg hk
     have HZ:Hid (InB N lo w z2 c2 { s with said:=.slice (Ab ⟨g2,0,Aa⟩) (c.said.length+1) d }):=(by
      have f:z.ownsRow wr.heap.size 28 4 (.slice (Ab ⟨g2,0,Aa⟩) (c.said.length+1) d) (c.said ++ [(v0,v1,v2,v3)]).length (zE xD (c.said ++ [(v0,v1,v2,v3)])):=by rw [Ae,zY];simpa [zE] using ai
      have al:=Af f hg (zH f (K z b).1 (by decide));have am:=HY.inb.more b;have ac:lo<=wr.heap.size:=Ac au HY.inb.fr.size;refine ⟨hk,?_,am.fr.trans (FrS.of_grown hg (fun k e=>by cases e;rfl))⟩;rw [ae]
      exact ((HY.inb.own.below b).boxT (K z b).1 hg).setSaid (Ac b.size hg.size) (nl _) (zN al ac) (fun g e=>⟨(f.lt g e).1,Ad (f.lt g e).2 hg.size⟩) ac:InB _ _ _ _ _ _)
     refine ⟨fun h=>absurd h (by decide),?_⟩;refine p_do ?_;go_wp2;refine bodyPost_end (results_none results195 _ _ _) rfl ?_;rw [HE.out];exact ⟨⟨_,rfl⟩,_,HZ⟩
    ·obtain ⟨y2,r⟩:=nw (y1.alloc (.cells #[I U v0,I U v1,I U v2,I U v3] 28));have l:Be wr y2:=by rw [r];exact o.alloc o.size _
     have bc:Bx y2 y1.heap.size #[I U v0,I U v1,I U v2,I U v3] 28:=by rw [r];exact heap_alloc_new y1 _
     refine xU (s:=8) (e':=some 31) rfl rfl rfl (.slice (Ab ⟨y1.heap.size,0,Aa⟩) 1 1) y2 ?_ ⟨fun _=>K y2 l,?_⟩
     ·rw [r];go_simp
      try rfl
     simp only [pz];have ak:=zS ay (show Be y1 y2 by rw [r];exact (br _ _).alloc (nl _) _);refine p_on 6 ?_;refine xS (s:=6) (e':=some 29) rfl rfl rfl (.tmp 24) (.tmp 28) 32 rfl wr.heap.size 28 li _ 32 underlying32 ag t aa y rfl (by decide) kW kP (.slice (Ab ⟨wr.drew.heap.size,0,Aa⟩) 0 0) [] rfl ak _ c.said rfl (RD y2 l) (by simp;unfold maxLen;omega) (by simp;omega) l.size ?_;intro ah y3 p ad ar;simp only [List.nil_append] at p;have n:Be wr y3:=l.grown ad l.size (fun k hk=>(ak.lt k hk).1);refine ⟨fun _=>K y3 n,?_⟩;simp only [pz];have an:Bx y3 y1.heap.size #[I U v0,I U v1,I U v2,I U v3] 28:=gk ad bc (fun e=>by have e:=Option.some.inj e;rw [ab] at e;simp at e);refine qO (s:=9) (e':=some 32) rfl rfl rfl (.tmp 29) (.tmp 31) 32 rfl (by kernel_rfl) wr.heap.size 28 li _ 4 32 underlying32 ag t aa y rfl (by decide) ah _ _ rfl p ⟨y1.heap.size,0,Aa⟩ 1 1 (xD (v0,v1,v2,v3)) rfl rfl (World.news_of_block an) (kP _) (by decide) (by unfold maxLen;omega) (by omega) n.size _ rfl ?_;intro g2 d z ai af a2 ap;have b:Be wr z:=n.grown af n.size (fun k hk=>(p.lt k hk).1);refine ⟨fun _=>K z b,?_⟩;simp only [pz];refine zD 10 33 (.pointer (Ab ⟨N,0,Aa⟩)) (K z b) ?_;refine zD 11 34 (.pointer (Ab ⟨N,6,Aa⟩)) (K z b) ?_;refine p_ce 12 N 6 (.slice (Ab ⟨g2,0,Aa⟩) (c.said.length+1) d) (zR c s) (zR c2 { s with said:=.slice (Ab ⟨g2,0,Aa⟩) (c.said.length+1) d }) ((K z b).1) (by simp [zR]) rfl (by rw [ae];rfl) ?_;intro z2 hg hk
     have HZ:Hid (InB N lo w z2 c2 { s with said:=.slice (Ab ⟨g2,0,Aa⟩) (c.said.length+1) d }):=(by
      have f:z.ownsRow wr.heap.size 28 4 (.slice (Ab ⟨g2,0,Aa⟩) (c.said.length+1) d) (c.said ++ [(v0,v1,v2,v3)]).length (zE xD (c.said ++ [(v0,v1,v2,v3)])):=by rw [Ae,zY];simpa [zE] using ai
      have al:=Af f hg (zH f (K z b).1 (by decide));have am:=HY.inb.more b;have ac:lo<=wr.heap.size:=Ac au HY.inb.fr.size;refine ⟨hk,?_,am.fr.trans (FrS.of_grown hg (fun k e=>by cases e;rfl))⟩;rw [ae]
      exact ((HY.inb.own.below b).boxT (K z b).1 hg).setSaid (Ac b.size hg.size) (nl _) (zN al ac) (fun g e=>⟨(f.lt g e).1,Ad (f.lt g e).2 hg.size⟩) ac:InB _ _ _ _ _ _)
     refine ⟨fun h=>absurd h (by decide),?_⟩;refine p_do ?_;go_wp2;refine bodyPost_end (results_none results195 _ _ _) rfl ?_;rw [HE.out];exact ⟨⟨_,rfl⟩,_,HZ⟩
   ·obtain ⟨y1,ab⟩:=nw (wr.drew.alloc (.cells #[I U v0,I U v1,I U v2,I U v3] 28));have o:Be wr y1:=by rw [ab];exact aj.alloc aj.size _
    have a0:Bx y1 wr.drew.heap.size #[I U v0,I U v1,I U v2,I U v3] 28:=by rw [ab];exact heap_alloc_new wr.drew _
    refine xU (s:=8) (e':=some 31) rfl rfl rfl (.slice (Ab ⟨wr.drew.heap.size,0,Aa⟩) 1 1) y1 ?_ ⟨fun _=>K y1 o,?_⟩
    ·rw [ab];go_simp
     try rfl
    simp only [pz];obtain ⟨y2,r⟩:=nw (y1.alloc (.cells #[] 28));have l:Be wr y2:=by rw [r];exact o.alloc o.size _
    have ak:y2.ownsRow wr.heap.size 28 4 (.slice (Ab ⟨y1.heap.size,0,Aa⟩) 0 0) ([]:List VT).length (zE xD []):=by rw [r];exact zN (yH y1 _ _) o.size
    refine p_on 1 ?_;refine xU (s:=1) (e':=some 24) rfl rfl rfl (.slice (Ab ⟨y1.heap.size,0,Aa⟩) 0 0) y2 ?_ ⟨fun _=>K y2 l,?_⟩
    ·rw [r];go_simp
     try rfl
    simp only [pz];refine p_on 6 ?_;refine xS (s:=6) (e':=some 29) rfl rfl rfl (.tmp 24) (.tmp 28) 32 rfl wr.heap.size 28 li _ 32 underlying32 ag t aa y rfl (by decide) kW kP (.slice (Ab ⟨y1.heap.size,0,Aa⟩) 0 0) [] rfl ak _ c.said rfl (RD y2 l) (by simp;unfold maxLen;omega) (by simp;omega) l.size ?_;intro ah y3 p ad ar;simp only [List.nil_append] at p;have n:Be wr y3:=l.grown ad l.size (fun k hk=>(ak.lt k hk).1);refine ⟨fun _=>K y3 n,?_⟩;simp only [pz];have an:Bx y3 wr.drew.heap.size #[I U v0,I U v1,I U v2,I U v3] 28:=(ad.block _ (Ad (gl a0) (by rw [r];simp)) (fun e=>by have e:=Option.some.inj e;rw [ab] at e;simp at e)).trans (((show Be y1 y2 by rw [r];exact (br _ _).alloc (nl _) _).block _ (gl a0)).trans a0);refine qO (s:=9) (e':=some 32) rfl rfl rfl (.tmp 29) (.tmp 31) 32 rfl (by kernel_rfl) wr.heap.size 28 li _ 4 32 underlying32 ag t aa y rfl (by decide) ah _ _ rfl p ⟨wr.drew.heap.size,0,Aa⟩ 1 1 (xD (v0,v1,v2,v3)) rfl rfl (World.news_of_block an) (kP _) (by decide) (by unfold maxLen;omega) (by omega) n.size _ rfl ?_;intro g2 d z ai af a2 ap;have b:Be wr z:=n.grown af n.size (fun k hk=>(p.lt k hk).1);refine ⟨fun _=>K z b,?_⟩;simp only [pz];refine zD 10 33 (.pointer (Ab ⟨N,0,Aa⟩)) (K z b) ?_;refine zD 11 34 (.pointer (Ab ⟨N,6,Aa⟩)) (K z b) ?_;refine p_ce 12 N 6 (.slice (Ab ⟨g2,0,Aa⟩) (c.said.length+1) d) (zR c s) (zR c2 { s with said:=.slice (Ab ⟨g2,0,Aa⟩) (c.said.length+1) d }) ((K z b).1) (by simp [zR]) rfl (by rw [ae];rfl) ?_;intro z2 hg hk
    have HZ:Hid (InB N lo w z2 c2 { s with said:=.slice (Ab ⟨g2,0,Aa⟩) (c.said.length+1) d }):=(by
     have f:z.ownsRow wr.heap.size 28 4 (.slice (Ab ⟨g2,0,Aa⟩) (c.said.length+1) d) (c.said ++ [(v0,v1,v2,v3)]).length (zE xD (c.said ++ [(v0,v1,v2,v3)])):=by rw [Ae,zY];simpa [zE] using ai
     have al:=Af f hg (zH f (K z b).1 (by decide));have am:=HY.inb.more b;have ac:lo<=wr.heap.size:=Ac au HY.inb.fr.size;refine ⟨hk,?_,am.fr.trans (FrS.of_grown hg (fun k e=>by cases e;rfl))⟩;rw [ae]
     exact ((HY.inb.own.below b).boxT (K z b).1 hg).setSaid (Ac b.size hg.size) (nl _) (zN al ac) (fun g e=>⟨(f.lt g e).1,Ad (f.lt g e).2 hg.size⟩) ac:InB _ _ _ _ _ _)
    refine ⟨fun h=>absurd h (by decide),?_⟩;refine p_do ?_;go_wp2;refine bodyPost_end (results_none results195 _ _ _) rfl ?_;rw [HE.out];exact ⟨⟨_,rfl⟩,_,HZ⟩
end Go.Proofs.YtfnneillakdopacGreatR
