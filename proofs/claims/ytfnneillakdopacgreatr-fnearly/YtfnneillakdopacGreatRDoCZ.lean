/-
  A text of ours: DoC.
-/
import Derived.Test.YtfnneillakdopacGreatRK1
import Derived.Test.YtfnneillakdopacGreatRLieCZ
import Derived.Test.YtfnneillakdopacGreatRCarryCZ
import Derived.Test.YtfnneillakdopacGreatRShowCZ
import Derived.Test.YtfnneillakdopacGreatRK9
set_option maxRecDepth 100000
set_option maxHeartbeats 32000000
namespace Go.Proofs.YtfnneillakdopacGreatR
open _root_.Go.Proofs.Tryz
open Go.Value renaming int->I
open Go.IntKind renaming i64->U
open Option renaming none->Aa,some->Ab
open Nat renaming le_trans->Ac,lt_of_lt_of_le->Ad
open Option.some renaming inj->Ae
open List renaming length_append->Af
open Go.World.ownsRow renaming kept->Ag
open Go.RowKit Num
structure doOk (c:CU):Prop where
 lie:lieOk c
 carry:carryOk c
 shw:showOk c
 kept:∀ p∈c.peers,yAG p
theorem InW.start {N lo hi:Nat} {w:World} {c:CU} {s:CW} (hb:Bx w N (zR c s) 124) (h:xG lo hi w c s):InW N lo w w c s:=(InB.start hb h).weak
theorem do_p (c:CU) (s:CW) (N lo hi:Nat) (e:EV) (w:World) (hbox:Bx w N (zR c s) 124) (hown:xG lo hi w c s) (hlo:lo<=hi) (hok:doOk c) (hwa:(Lit.int U e.at').wf=true) (hn:0<=e.num) (hc:(e.cmd.2.1.size:Int)<=1048576) :
  Calls prog 123 #[.pointer (Ab ⟨N,0,Aa⟩),.agg (evA e)] w fun r w'=>r=.returned (.bool (doC c e).2)/\∃ s',InW N lo w w' (doC c e).1 s':=by
 have bi:Hid (lo<=w.heap.size):=Ac hlo hown.size;have u:=hid hok;have b0:=hid hc;obtain ⟨W,hW⟩:=nw (w.alloc (.cells (evA e) 172))
 have HW:Hid (PtE w W N lo c s e):=(by
  have hb:Be w W:=by rw [hW];exact yA _ _
  exact ⟨(InB.start hbox hown).more hb,by rw [hW];exact heap_alloc_new w _⟩:PtE _ _ _ _ _ _ _)
 have aa:Hid (lo<=W.heap.size):=Ac bi HW.inb.fr.size;clear hbox hown hlo hok hc;obtain ⟨R,hR⟩:=nw (doC c e);have HR:Hid (R=doC c e):=hR;rw [<- hR];clear hR;have l0:=zB HW.box 0 (I U e.kind) rfl;have l1:=zB HW.box 1 (I U e.at') rfl
 by_cases k1:e.kind=1
 ·have b1:(e.kind == 1)=true:=by simpa using k1
  have HE:Hid (R=offerP c e.cmd):=(by rw [HR.out];unfold doC;rw [if_pos k1]:R=_);clear k1 HR;obtain ⟨aq,cq,eq,-⟩:=yL HW.inb.own.pend;have ch:Hid (s.pend=.slice aq c.pend.length cq):=eq;have c7:=zB HW.inb.box 7 s.pend rfl;rw [eq] at c7;clear eq
  by_cases h8:(8:Int)<=(c.pend.length:Int)
  ·have f:Hid (R=(c,false)):=(by rw [HE.out];exact if_pos (by omega):R=_);go_enter func123,ntmps123;go_wp2_with (rw [<- hW];clear hW)
   go_ret;refine ⟨zL (by rw [f.out]),s,?_⟩;rw [f.out];exact HW.out.inb.weak
  ·obtain ⟨c2,am⟩:∃ c2:CU,c2={ c with pend:=c.pend ++ [e.cmd] }:=⟨_,rfl⟩;have f:Hid (R=(c2,true)):=(by rw [HE.out,am];exact if_neg (by omega):R=_);obtain ⟨ci,an,af,ah,ag⟩:=info_parts infoCmd;go_enter func123,ntmps123
   go_upto_region 5 with (rw [<- hW];clear hW)
   clear c7 l0 l1;refine p_rg (fun i=>decide (i < 13)) (fun x=>Bx x N (zR c s) 124/\Bx x w.heap.size (evA e) 172) ?_;show zX prog _ _ _ _ _ (13+1) (Array.replicate 14 false) _ _;have hS:Bx W.drew N (zR c s) 124/\Bx W.drew w.heap.size (evA e) 172:=⟨HW.inb.box,HW.box⟩;have K:∀ x,Be W x->Bx x N (zR c s) 124/\Bx x w.heap.size (evA e) 172:=fun x hb=>⟨(HW.more hb).inb.box,(HW.more hb).box⟩
   have RD:∀ x,Be W x->yM x s.pend 3 kL c.pend:=fun x hb=>zW kC (HW.more hb).inb.own.pend
   have cg:(c.pend.length:Int)<=1048576:=by omega
   obtain ⟨li,bv⟩:=nw ci;subst bv;refine p_pt 0 17 N 0 hS ?_;refine p_pt 2 19 N 0 hS ?_;refine p_pt 3 20 N 0 hS ?_;refine p_pt 4 21 N 7 hS ?_;refine zD 5 22 s.pend hS ?_ (hy:=by intro x hx;have cc:=zB hx.1 7 s.pend rfl;go_simp;try rfl);refine p_pt 7 24 w.heap.size 4 hS ?_;refine zD 8 25 (.agg #[I U e.cmd.1,.string e.cmd.2.1,I U e.cmd.2.2]) hS ?_ (hy:=fun x hx=>ldm w.heap.size 4 (kL e.cmd) (ev_cmd hx.2) underlying139);have m:=bw W;refine zFC (i:=1) (j:=9) (by kernel_rfl) ?_ ?_
   ·obtain ⟨y1,aj⟩:=nw (W.drew.alloc (.cells #[] 139));have v:Be W y1:=by rw [aj];exact m.alloc m.size _
    have bc:y1.ownsRow W.heap.size 139 3 (.slice (Ab ⟨W.drew.heap.size,0,Aa⟩) 0 0) ([]:List CM).length (zE kL []):=by rw [aj];exact zN (yH W.drew _ _) m.size
    refine xU (s:=1) (e':=some 18) rfl rfl rfl (.slice (Ab ⟨W.drew.heap.size,0,Aa⟩) 0 0) y1 ?_ ⟨fun _=>K y1 v,?_⟩
    ·rw [aj];go_simp
     try rfl
    simp only [pz];refine zFC (i:=6) (j:=9) (by kernel_rfl) ?_ ?_
    ·refine xS (s:=6) (e':=some 23) rfl rfl rfl (.tmp 18) (.tmp 22) 86 rfl W.heap.size 139 li _ 32 underlying86 an af ah ag rfl (by decide) kC qL (.slice (Ab ⟨W.drew.heap.size,0,Aa⟩) 0 0) [] rfl bc _ c.pend rfl (RD y1 v) (by simp;unfold maxLen;omega) (by simp;omega) v.size ?_;intro ao y2 a4 bq cb;simp only [List.nil_append] at a4;have n:Be W y2:=v.grown bq v.size (fun k hk=>(bc.lt k hk).1);refine ⟨fun _=>K y2 n,?_⟩;simp only [pz];obtain ⟨y3,az⟩:=nw (y2.alloc (.cells #[I U e.cmd.1,.string e.cmd.2.1,I U e.cmd.2.2] 139));have o:Be W y3:=by rw [az];exact n.alloc n.size _
     have ax:Bx y3 y2.heap.size #[I U e.cmd.1,.string e.cmd.2.1,I U e.cmd.2.2] 139:=by rw [az];exact heap_alloc_new y2 _
     refine p_on 9 ?_;refine xU (s:=9) (e':=some 26) rfl rfl rfl (.slice (Ab ⟨y2.heap.size,0,Aa⟩) 1 1) y3 ?_ ⟨fun _=>K y3 o,?_⟩
     ·rw [az];go_simp
      try rfl
     simp only [pz];have l:=zS a4 (show Be y2 y3 by rw [az];exact (br _ _).alloc (nl _) _);refine qO (s:=10) (e':=some 27) rfl rfl rfl (.tmp 23) (.tmp 26) 86 rfl (by kernel_rfl) W.heap.size 139 li _ 3 32 underlying86 an af ah ag rfl (by decide) ao _ _ rfl l ⟨y2.heap.size,0,Aa⟩ 1 1 (kL e.cmd) rfl rfl (World.news_of_block ax) (qL _) (by decide) (by unfold maxLen;omega) (by omega) o.size _ rfl ?_;intro g2 b z ap aw bj a3;have a:Be W z:=o.grown aw o.size (fun k hk=>(l.lt k hk).1);refine ⟨fun _=>K z a,?_⟩;simp only [pz];refine zD 11 28 (.pointer (Ab ⟨N,0,Aa⟩)) (K z a) ?_;refine zD 12 29 (.pointer (Ab ⟨N,7,Aa⟩)) (K z a) ?_;refine p_ce 13 N 7 (.slice (Ab ⟨g2,0,Aa⟩) (c.pend.length+1) b) (zR c s) (zR c2 { s with pend:=.slice (Ab ⟨g2,0,Aa⟩) (c.pend.length+1) b }) ((K z a).1) (by simp [zR]) rfl (by rw [am];rfl) ?_;intro z2 hg hk
     have HZ:Hid (InB N lo w z2 c2 { s with pend:=.slice (Ab ⟨g2,0,Aa⟩) (c.pend.length+1) b }):=(by
      have l:z.ownsRow W.heap.size 139 3 (.slice (Ab ⟨g2,0,Aa⟩) (c.pend.length+1) b) (c.pend ++ [e.cmd]).length (zE kL (c.pend ++ [e.cmd])):=by rw [Af,zY];simpa [zE] using ap
      have av:=Ag l hg (zH l (K z a).1 (by decide));have d:=HW.inb.more a;refine ⟨hk,?_,d.fr.trans (FrS.of_grown hg (fun k e=>by cases e;rfl))⟩;rw [am]
      exact ((HW.inb.own.below a).boxT (K z a).1 hg).setPend2 (Ac a.size hg.size) (nl _) (zN av aa) (fun g e=>⟨(l.lt g e).1,Ad (l.lt g e).2 hg.size⟩) aa:InB _ _ _ _ _ _)
     refine ⟨fun h=>absurd h (by decide),?_⟩;refine p_do ?_;go_wp2;go_ret;refine ⟨zL (by rw [f.out]),{ s with pend:=.slice (Ab ⟨g2,0,Aa⟩) (c.pend.length+1) b },?_⟩;rw [f.out];exact HZ.out.weak
    ·obtain ⟨y2,ad⟩:=nw (y1.alloc (.cells #[I U e.cmd.1,.string e.cmd.2.1,I U e.cmd.2.2] 139));have n:Be W y2:=by rw [ad];exact v.alloc v.size _
     have ce:Bx y2 y1.heap.size #[I U e.cmd.1,.string e.cmd.2.1,I U e.cmd.2.2] 139:=by rw [ad];exact heap_alloc_new y1 _
     refine xU (s:=9) (e':=some 26) rfl rfl rfl (.slice (Ab ⟨y1.heap.size,0,Aa⟩) 1 1) y2 ?_ ⟨fun _=>K y2 n,?_⟩
     ·rw [ad];go_simp
      try rfl
     simp only [pz];have au:=zS bc (show Be y1 y2 by rw [ad];exact (br _ _).alloc (nl _) _);refine p_on 6 ?_;refine xS (s:=6) (e':=some 23) rfl rfl rfl (.tmp 18) (.tmp 22) 86 rfl W.heap.size 139 li _ 32 underlying86 an af ah ag rfl (by decide) kC qL (.slice (Ab ⟨W.drew.heap.size,0,Aa⟩) 0 0) [] rfl au _ c.pend rfl (RD y2 n) (by simp;unfold maxLen;omega) (by simp;omega) n.size ?_;intro ao y3 ab al a7;simp only [List.nil_append] at ab;have o:Be W y3:=n.grown al n.size (fun k hk=>(au.lt k hk).1);refine ⟨fun _=>K y3 o,?_⟩;simp only [pz];have ax:Bx y3 y1.heap.size #[I U e.cmd.1,.string e.cmd.2.1,I U e.cmd.2.2] 139:=gk al ce (fun e=>by have e:=Ae e;rw [aj] at e;simp at e);refine qO (s:=10) (e':=some 27) rfl rfl rfl (.tmp 23) (.tmp 26) 86 rfl (by kernel_rfl) W.heap.size 139 li _ 3 32 underlying86 an af ah ag rfl (by decide) ao _ _ rfl ab ⟨y1.heap.size,0,Aa⟩ 1 1 (kL e.cmd) rfl rfl (World.news_of_block ax) (qL _) (by decide) (by unfold maxLen;omega) (by omega) o.size _ rfl ?_;intro g2 b z ap aw bj a3;have a:Be W z:=o.grown aw o.size (fun k hk=>(ab.lt k hk).1);refine ⟨fun _=>K z a,?_⟩;simp only [pz];refine zD 11 28 (.pointer (Ab ⟨N,0,Aa⟩)) (K z a) ?_;refine zD 12 29 (.pointer (Ab ⟨N,7,Aa⟩)) (K z a) ?_;refine p_ce 13 N 7 (.slice (Ab ⟨g2,0,Aa⟩) (c.pend.length+1) b) (zR c s) (zR c2 { s with pend:=.slice (Ab ⟨g2,0,Aa⟩) (c.pend.length+1) b }) ((K z a).1) (by simp [zR]) rfl (by rw [am];rfl) ?_;intro z2 hg hk
     have HZ:Hid (InB N lo w z2 c2 { s with pend:=.slice (Ab ⟨g2,0,Aa⟩) (c.pend.length+1) b }):=(by
      have l:z.ownsRow W.heap.size 139 3 (.slice (Ab ⟨g2,0,Aa⟩) (c.pend.length+1) b) (c.pend ++ [e.cmd]).length (zE kL (c.pend ++ [e.cmd])):=by rw [Af,zY];simpa [zE] using ap
      have av:=Ag l hg (zH l (K z a).1 (by decide));have d:=HW.inb.more a;refine ⟨hk,?_,d.fr.trans (FrS.of_grown hg (fun k e=>by cases e;rfl))⟩;rw [am]
      exact ((HW.inb.own.below a).boxT (K z a).1 hg).setPend2 (Ac a.size hg.size) (nl _) (zN av aa) (fun g e=>⟨(l.lt g e).1,Ad (l.lt g e).2 hg.size⟩) aa:InB _ _ _ _ _ _)
     refine ⟨fun h=>absurd h (by decide),?_⟩;refine p_do ?_;go_wp2;go_ret;refine ⟨zL (by rw [f.out]),{ s with pend:=.slice (Ab ⟨g2,0,Aa⟩) (c.pend.length+1) b },?_⟩;rw [f.out];exact HZ.out.weak
   ·obtain ⟨y1,aj⟩:=nw (W.drew.alloc (.cells #[I U e.cmd.1,.string e.cmd.2.1,I U e.cmd.2.2] 139));have v:Be W y1:=by rw [aj];exact m.alloc m.size _
    have be:Bx y1 W.drew.heap.size #[I U e.cmd.1,.string e.cmd.2.1,I U e.cmd.2.2] 139:=by rw [aj];exact heap_alloc_new W.drew _
    refine xU (s:=9) (e':=some 26) rfl rfl rfl (.slice (Ab ⟨W.drew.heap.size,0,Aa⟩) 1 1) y1 ?_ ⟨fun _=>K y1 v,?_⟩
    ·rw [aj];go_simp
     try rfl
    simp only [pz];obtain ⟨y2,ad⟩:=nw (y1.alloc (.cells #[] 139));have n:Be W y2:=by rw [ad];exact v.alloc v.size _
    have au:y2.ownsRow W.heap.size 139 3 (.slice (Ab ⟨y1.heap.size,0,Aa⟩) 0 0) ([]:List CM).length (zE kL []):=by rw [ad];exact zN (yH y1 _ _) v.size
    refine p_on 1 ?_;refine xU (s:=1) (e':=some 18) rfl rfl rfl (.slice (Ab ⟨y1.heap.size,0,Aa⟩) 0 0) y2 ?_ ⟨fun _=>K y2 n,?_⟩
    ·rw [ad];go_simp
     try rfl
    simp only [pz];refine p_on 6 ?_;refine xS (s:=6) (e':=some 23) rfl rfl rfl (.tmp 18) (.tmp 22) 86 rfl W.heap.size 139 li _ 32 underlying86 an af ah ag rfl (by decide) kC qL (.slice (Ab ⟨y1.heap.size,0,Aa⟩) 0 0) [] rfl au _ c.pend rfl (RD y2 n) (by simp;unfold maxLen;omega) (by simp;omega) n.size ?_;intro ao y3 ab al a7;simp only [List.nil_append] at ab;have o:Be W y3:=n.grown al n.size (fun k hk=>(au.lt k hk).1);refine ⟨fun _=>K y3 o,?_⟩;simp only [pz];have ax:Bx y3 W.drew.heap.size #[I U e.cmd.1,.string e.cmd.2.1,I U e.cmd.2.2] 139:=(al.block _ (Ad (gl be) (by rw [ad];simp)) (fun e=>by have e:=Ae e;rw [aj] at e;simp at e)).trans (((show Be y1 y2 by rw [ad];exact (br _ _).alloc (nl _) _).block _ (gl be)).trans be);refine qO (s:=10) (e':=some 27) rfl rfl rfl (.tmp 23) (.tmp 26) 86 rfl (by kernel_rfl) W.heap.size 139 li _ 3 32 underlying86 an af ah ag rfl (by decide) ao _ _ rfl ab ⟨W.drew.heap.size,0,Aa⟩ 1 1 (kL e.cmd) rfl rfl (World.news_of_block ax) (qL _) (by decide) (by unfold maxLen;omega) (by omega) o.size _ rfl ?_;intro g2 b z ap aw bj a3;have a:Be W z:=o.grown aw o.size (fun k hk=>(ab.lt k hk).1);refine ⟨fun _=>K z a,?_⟩;simp only [pz];refine zD 11 28 (.pointer (Ab ⟨N,0,Aa⟩)) (K z a) ?_;refine zD 12 29 (.pointer (Ab ⟨N,7,Aa⟩)) (K z a) ?_;refine p_ce 13 N 7 (.slice (Ab ⟨g2,0,Aa⟩) (c.pend.length+1) b) (zR c s) (zR c2 { s with pend:=.slice (Ab ⟨g2,0,Aa⟩) (c.pend.length+1) b }) ((K z a).1) (by simp [zR]) rfl (by rw [am];rfl) ?_;intro z2 hg hk
    have HZ:Hid (InB N lo w z2 c2 { s with pend:=.slice (Ab ⟨g2,0,Aa⟩) (c.pend.length+1) b }):=(by
     have l:z.ownsRow W.heap.size 139 3 (.slice (Ab ⟨g2,0,Aa⟩) (c.pend.length+1) b) (c.pend ++ [e.cmd]).length (zE kL (c.pend ++ [e.cmd])):=by rw [Af,zY];simpa [zE] using ap
     have av:=Ag l hg (zH l (K z a).1 (by decide));have d:=HW.inb.more a;refine ⟨hk,?_,d.fr.trans (FrS.of_grown hg (fun k e=>by cases e;rfl))⟩;rw [am]
     exact ((HW.inb.own.below a).boxT (K z a).1 hg).setPend2 (Ac a.size hg.size) (nl _) (zN av aa) (fun g e=>⟨(l.lt g e).1,Ad (l.lt g e).2 hg.size⟩) aa:InB _ _ _ _ _ _)
    refine ⟨fun h=>absurd h (by decide),?_⟩;refine p_do ?_;go_wp2;go_ret;refine ⟨zL (by rw [f.out]),{ s with pend:=.slice (Ab ⟨g2,0,Aa⟩) (c.pend.length+1) b },?_⟩;rw [f.out];exact HZ.out.weak
 ·have b1:(e.kind == 1)=false:=by simpa using k1
  by_cases k2:e.kind=2
  ·have b2:(e.kind == 2)=true:=by simpa using k2
   have HE:Hid (R=showC c e.at'):=(by rw [HR.out];unfold doC;rw [if_neg k1,if_pos k2]:R=_);clear k1 k2 HR;go_enter func123,ntmps123;go_wp2_with (rw [<- hW];clear hW)
   clear l0 l1;refine (show_p c s N lo W.heap.size e.at' W HW.inb.box HW.inb.own aa u.shw).mono ?_;rintro r y3 ⟨rfl,s3,d⟩;have ac:Hid (InW N lo w y3 R.1 s3):=(by rw [HE.out];exact HW.out.inb.weak.trans d:InW _ _ _ _ _ _);clear d;rw [<- HE.out];go_wp2;go_ret;exact ⟨rfl,s3,ac⟩
  ·have b2:(e.kind == 2)=false:=by simpa using k2
   by_cases k3:e.kind=3
   ·have b3:(e.kind == 3)=true:=by simpa using k3
    have HE:Hid (R=carryC c e.at'):=(by rw [HR.out];unfold doC;rw [if_neg k1,if_neg k2,if_pos k3]:R=_);clear k1 k2 k3 HR;go_enter func123,ntmps123;go_wp2_with (rw [<- hW];clear hW)
    clear l0 l1;refine (carry_p c s N lo W.heap.size e.at' W HW.inb.box HW.inb.own aa u.carry hwa).mono ?_;rintro r y3 ⟨rfl,s3,d⟩;have ac:Hid (InW N lo w y3 R.1 s3):=(by rw [HE.out];exact HW.out.inb.weak.trans d:InW _ _ _ _ _ _);clear d;rw [<- HE.out];go_wp2;go_ret;exact ⟨rfl,s3,ac⟩
   ·have b3:(e.kind == 3)=false:=by simpa using k3
    by_cases k4:e.kind=4
    ·have b4:(e.kind == 4)=true:=by simpa using k4
     have HE:Hid (R=(zAC c e.at',outB c e.at')):=(by rw [HR.out];unfold doC;rw [if_neg k1,if_neg k2,if_neg k3,if_pos k4]:R=_);clear k1 k2 k3 k4 HR;go_enter func123,ntmps123;go_wp2_with (rw [<- hW];clear hW)
     clear l0 l1;refine (out_p c s N lo W.heap.size e.at' W HW.inb.box HW.inb.own aa u.carry.net hwa).mono ?_;rintro r y3 ⟨rfl,s3,d⟩;have ac:Hid (InB N lo w y3 (zAC c e.at') s3):=HW.inb.trans d;clear d;go_wp2_with (refine w_st y3.heap.size (zQ (zBH c e.at')) (heap_alloc_new y3 _) (kD _) ?_;intro w2 hg hk hz;have bz:Hid (InB N lo w w2 (zAC c e.at') s3):=ac.more (yB hg);clear hg hk hz)
     go_ret;refine ⟨zL (by rw [HE.out]),s3,?_⟩;rw [HE.out];exact bz.out.weak
    ·have b4:(e.kind == 4)=false:=by simpa using k4
     by_cases k5:e.kind=5
     ·have b5:(e.kind == 5)=true:=by simpa using k5
      have HE:Hid (R=yEC c e.at'):=(by rw [HR.out];unfold doC;rw [if_neg k1,if_neg k2,if_neg k3,if_neg k4,if_pos k5]:R=_);clear k1 k2 k3 k4 k5 HR;go_enter func123,ntmps123;go_wp2_with (rw [<- hW];clear hW)
      clear l0 l1;refine (twice_p c s N lo W.heap.size e.at' W HW.inb.box HW.inb.own aa u.carry.net hwa).mono ?_;rintro r y3 ⟨rfl,s3,d⟩;have ac:Hid (InW N lo w y3 R.1 s3):=(by rw [HE.out];exact HW.out.inb.weak.trans d.weak:InW _ _ _ _ _ _);clear d;rw [<- HE.out];go_wp2;go_ret;exact ⟨rfl,s3,ac⟩
     ·have b5:(e.kind == 5)=false:=by simpa using k5
      by_cases k6:e.kind=6
      ·have b6:(e.kind == 6)=true:=by simpa using k6
       have HE:Hid (R=waitC c e.at'):=(by rw [HR.out];unfold doC;rw [if_neg k1,if_neg k2,if_neg k3,if_neg k4,if_neg k5,if_pos k6]:R=_);clear k1 k2 k3 k4 k5 k6 HR;go_enter func123,ntmps123;go_wp2_with (rw [<- hW];clear hW)
       clear l0 l1;refine (wait_p c s N lo W.heap.size e.at' W HW.inb.box HW.inb.own aa u.carry.net u.carry.lpeers hwa u.shw.n u.shw.peers).mono ?_;rintro r y3 ⟨rfl,s3,d⟩;have ac:Hid (InW N lo w y3 R.1 s3):=(by rw [HE.out];exact HW.out.inb.weak.trans d:InW _ _ _ _ _ _);clear d;rw [<- HE.out];go_wp2;go_ret;exact ⟨rfl,s3,ac⟩
      ·have b6:(e.kind == 6)=false:=by simpa using k6
       by_cases k7:e.kind=7
       ·have b7:(e.kind == 7)=true:=by simpa using k7
        have HE:Hid (R=fallC c e.at'):=(by rw [HR.out];unfold doC;rw [if_neg k1,if_neg k2,if_neg k3,if_neg k4,if_neg k5,if_neg k6,if_pos k7]:R=_);clear k1 k2 k3 k4 k5 k6 k7 HR;obtain ⟨at',ct,et,-⟩:=HW.inb.own.reads.viewCell;go_enter func123,ntmps123
        go_upto_region 20 with (rw [<- hW];clear hW)
        clear l0 l1 et;refine p_rg (fun _=>true) (fun x=>Bx x N (zR c s) 124/\Bx x w.heap.size (evA e) 172) ?_;show zX prog _ _ _ _ _ (6+1) (Array.replicate 7 false) _ _;have KP:∀ y,Be W y->Bx y N (zR c s) 124/\Bx y w.heap.size (evA e) 172:=fun y hb=>⟨(HW.more hb).inb.box,(HW.more hb).box⟩
        have m:=bw W;have hS:=KP W.drew m;refine p_pt 0 66 N 0 hS ?_;refine p_pt 1 67 N 0 hS ?_;refine zD 2 68 (.agg (zR c s)) hS ?_ (hy:=fun x hx=>ldb N hx.1 underlying124);refine p_pt 3 69 w.heap.size 1 hS ?_;refine zD 4 70 (I U e.at') hS ?_ (hy:=by intro x hx;have l1:=zB hx.2 1 (I U e.at') rfl;go_simp;try rfl);refine kJ 5 71 167 #[.agg (zR c s),I U e.at'] ((zHB c s e.at' W.drew (HW.more m).inb.own.reads u.carry.lpeers).mono ?_);rintro r X1 ⟨rfl,a1⟩;have ak:Be W X1:=bt m a1;refine ⟨_,rfl,fun _=>KP X1 ak,?_⟩;simp only [pz];have ae:Hid (PtE w X1 N lo c s e):=HW.more ak
        by_cases hh:xT c e.at'=true
        ·rw [hh]
         have d:0<=e.at'/\e.at' < c.peers.length:=by
          unfold xT at hh;have:=zDF (Bool.and_eq_true _ _ ▸ hh).1;omega
         obtain ⟨j,hj⟩:∃ j:Nat,(j:Int)=e.at':=⟨e.at'.toNat,by omega⟩;have ay:j < c.peers.length:=by omega
         have HJ:Hid ((j:Int)=e.at'):=hj;have f:Hid (R=(zCG c (j:Int) (yCF c.tree (zCJ c (j:Int))),true)):=(by rw [HE.out,HJ.out];exact if_pos hh:R=_);clear hh d hj HE;refine zD 6 72 (.bool false) (KP X1 ak) ?_;refine p_do ?_;clear hS KP m a1 ak;obtain ⟨g,cap,p,t,bo,cf,a9,bk,bf,bh,bm,⟨bd,a2,bn⟩,a0⟩:=(ae.inb.own).peerAt ay;have ca:=hid bk;have bu:=hid bf;have bl:=hid (qad2 a2 bn);have a6:Hid (s.peersV=.slice (Ab ⟨g,0,Aa⟩) c.peers.length cap):=bo;have bb:=hid (qad3 bh bm a0);have bg:p∈c.peers:=by rw [<- a9];unfold zCJ;rw [show ((j:Int)).toNat=j by omega,List.getElem?_eq_getElem ay];exact List.getElem_mem ay
         have bx:Hid (yAG p):=u.kept p bg;rw [a9] at f;have q0:(0:Int)<=(j:Int):=by omega
         have q1:(j:Int) < (c.peers.length:Int):=by omega
         clear bk bf a2 bn bo a9 cf bh bm a0 bg;obtain ⟨P1,a8⟩:=nw (yCF c.tree p);rw [<- a8] at f;have b8:Hid (yCF c.tree p=P1):=a8.symm;clear a8
         go_upto_region 22 with fail
         refine p_rg (fun _=>true) (fun x=>Bx x N (zR c s) 124/\Bx x w.heap.size (evA e) 172) ?_;show zX prog _ _ _ _ _ (20+1) (Array.replicate 21 false) _ _;have KP:∀ y,Be X1 y->Bx y N (zR c s) 124/\Bx y w.heap.size (evA e) 172:=fun y hb=>⟨(ae.more hb).inb.box,(ae.more hb).box⟩
         have m:=bw X1;have hS:=KP X1.drew m;refine p_pt 0 73 N 0 hS ?_;refine p_pt 1 74 N 0 hS ?_;refine p_pt 2 75 N 4 hS ?_;refine zD 3 76 (.slice (Ab ⟨g,0,Aa⟩) c.peers.length cap) hS ?_ (hy:=by intro x hx;have c4:=zB hx.1 4 s.peersV rfl;rw [a6.out] at c4;go_simp;try rfl);refine p_pt 4 77 w.heap.size 1 hS ?_;refine zD 5 78 (I U (j:Int)) hS ?_ (hy:=by intro x hx;have l1:=zB hx.2 1 (I U e.at') rfl;rw [<- HJ.out] at l1;go_simp;try rfl);refine p_pt 6 79 N 0 hS ?_;refine p_pt 7 80 N 0 hS ?_;refine p_pt 8 81 N 3 hS ?_;refine zD 9 82 s.treeV hS ?_ (hy:=by intro x hx;have c3:=zB hx.1 3 s.treeV rfl;go_simp;try rfl);refine p_pt 10 83 N 0 hS ?_;refine p_pt 11 84 N 0 hS ?_;refine p_pt 12 85 N 4 hS ?_;refine zD 13 86 (.slice (Ab ⟨g,0,Aa⟩) c.peers.length cap) hS ?_ (hy:=by intro x hx;have c4:=zB hx.1 4 s.peersV rfl;rw [a6.out] at c4;go_simp;try rfl);refine p_pt 14 87 w.heap.size 1 hS ?_;refine zD 15 88 (I U (j:Int)) hS ?_ (hy:=by intro x hx;have l1:=zB hx.2 1 (I U e.at') rfl;rw [<- HJ.out] at l1;go_simp;try rfl);refine p_pt 16 89 g (j * 21) hS ?_;refine p_on 17 ?_;refine xU (s:=17) (e':=some 90) rfl rfl rfl (.agg (zA p t)) X1.drew (ldm g (j * 21) (peerL p t) (qW (m.block g bb.1) bu) underlying35) ⟨fun _=>hS,?_⟩;simp only [pz];have ar:=fallen_s s.tree s.treeV p t X1.drew (ae.more m).inb.own.reads.tree (by rw [ae.out.inb.own.etree];exact u.out.lie.tree) (ca.below m) bx;rw [ae.out.inb.own.etree,b8.out] at ar;refine kJ 18 91 168 #[s.treeV,.agg (zA p t)] (ar.mono ?_);clear ar;rintro r yc ⟨t1,rfl,bp,cd⟩;have ai:Be X1 yc:=bt m cd;refine ⟨_,rfl,fun _=>KP yc ai,?_⟩;simp only [pz];refine zD 19 92 (.pointer (Ab ⟨g,j * 21,Aa⟩)) (KP yc ai) ?_;have a5:Bx yc g bd 35:=(ai.block g bb.1).trans bl.1;refine p_pa 20 g (j * 21) (zA P1 t1) bd (yBB bd (j * 21) (zA P1 t1)) a5 (by have:=bl.2;simpa [zA] using this) (zJ bp.1) rfl ?_;intro z hg hk;have HZ:=put_peer (ae.more ai).inb ae.inb.own ai (Ac bi ae.inb.fr.size) a6 bb.2.1 ay a5 hg hk (bp.low m.size) (KP yc ai).2 (by decide)
         have BZ:Bx z N (zR c s) 124:=(hg.block _ (Array.getElem?_eq_some_iff.1 (KP yc ai).1).1 (fun e=>by
          have hn:=(KP yc ai).1;rw [Ae e] at hn
          exact absurd (hn.symm.trans a5) (by simp))).trans (KP yc ai).1
         refine ⟨fun _=>⟨BZ,HZ.2⟩,?_⟩;refine p_do ?_;have b9:=hid HZ.1;go_wp2;go_ret;refine ⟨zL (by rw [f.out]),{ s with peers:=s.peers.set j (P1,t1) },?_⟩;rw [f.out];exact b9.out
        ·have hf:xT c e.at'=false:=by simpa using hh
         rw [hf];have f:Hid (R=(c,false)):=(by rw [HE.out];exact if_neg hh:R=_);refine zD 6 72 (.bool true) (KP X1 ak) ?_;refine p_do ?_;go_wp2;go_ret;refine ⟨zL (by rw [f.out]),s,?_⟩;rw [f.out];exact ae.out.inb.weak
       ·have b7:(e.kind == 7)=false:=by simpa using k7
        have HE:Hid (R=lieC c e):=(by rw [HR.out];unfold doC;rw [if_neg k1,if_neg k2,if_neg k3,if_neg k4,if_neg k5,if_neg k6,if_neg k7]:R=_);clear k1 k2 k3 k4 k5 k6 k7 HR;go_enter func123,ntmps123;go_wp2_with (first | (rw [<- hW];clear hW) | (refine w_ld w.heap.size HW.box underlying172 ?_))
        clear l0 l1;refine (lie_p c s N lo W.heap.size e W HW.inb.box HW.inb.own aa u.lie hn b0).mono ?_;rintro r y3 ⟨rfl,s3,d⟩;have ac:Hid (InW N lo w y3 R.1 s3):=(by rw [HE.out];exact HW.out.inb.weak.trans d.weak:InW _ _ _ _ _ _);clear d;rw [<- HE.out];go_wp2;go_ret;exact ⟨rfl,s3,ac⟩
end Go.Proofs.YtfnneillakdopacGreatR
