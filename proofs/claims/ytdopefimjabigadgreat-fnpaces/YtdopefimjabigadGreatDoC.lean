/-
  A text of ours: DoC.
-/
import Derived.Test.YtdopefimjabigadGreatK1
import Derived.Test.YtdopefimjabigadGreatLieC
import Derived.Test.YtdopefimjabigadGreatCarryC
import Derived.Test.YtdopefimjabigadGreatShowC
import Derived.Test.YtdopefimjabigadGreatK9
set_option maxRecDepth 100000
set_option maxHeartbeats 32000000
namespace Go.Proofs.YtdopefimjabigadGreat
open Go.RowKit Num
structure doOk (c:CU):Prop where
 lie:lieOk c
 carry:carryOk c
 shw:showOk c
 kept:∀ p∈c.peers,yAG p
theorem InW.start {N lo hi:Nat} {w:World} {c:CU} {s:CW} (hb:Bx w N (zR c s) 90) (h:xG lo hi w c s):InW N lo w w c s:=(InB.start hb h).weak
theorem do_p (c:CU) (s:CW) (N lo hi:Nat) (e:EV) (w:World) (hbox:Bx w N (zR c s) 90) (hown:xG lo hi w c s) (hlo:lo<=hi) (hok:doOk c) (hwa:(Lit.int .i64 e.at').wf=true) (hn:0<=e.num) (hc:(e.cmd.2.1.size:Int)<=1048576) :
  Calls Tryz.prog 102 #[.pointer (some ⟨N,0,none⟩),.agg (evA e)] w fun r w'=>r=.returned (.bool (doC c e).2)/\∃ s',InW N lo w w' (doC c e).1 s':=by
 have HLO:Hid (lo<=w.heap.size):=Nat.le_trans hlo hown.size;have HOK:=hid hok;have HCM:=hid hc;obtain ⟨W,hW⟩:∃ W,W=w.alloc (.cells (evA e) 132):=⟨_,rfl⟩
 have HW:Hid (PtE w W N lo c s e):=(by
  have hb:Below w.heap.size w W:=by rw [hW];exact yA _ _
  exact ⟨(InB.start hbox hown).more hb,by rw [hW];exact heap_alloc_new w _⟩:PtE _ _ _ _ _ _ _)
 have HLW:Hid (lo<=W.heap.size):=Nat.le_trans HLO.out HW.out.inb.fr.size;clear hbox hown hlo hok hc;obtain ⟨R,hR⟩:∃ R,R=doC c e:=⟨_,rfl⟩;have HR:Hid (R=doC c e):=hR;rw [<- hR];clear hR;have l0:=zB HW.out.box 0 (.int .i64 e.kind) rfl;have l1:=zB HW.out.box 1 (.int .i64 e.at') rfl
 by_cases k1:e.kind=1
 ·have b1:(e.kind == 1)=true:=by simpa using k1
  have HE:Hid (R=offerP c e.cmd):=(by rw [HR.out];unfold doC;rw [if_pos k1]:R=_);clear k1 HR;obtain ⟨aq,cq,eq,-⟩:=yL HW.out.inb.own.pend;have HEQ:Hid (s.pend=.slice aq c.pend.length cq):=eq;have c7:=zB HW.out.inb.box 7 s.pend rfl;rw [eq] at c7;clear eq
  by_cases h8:(8:Int)<=(c.pend.length:Int)
  ·have HE2:Hid (R=(c,false)):=(by rw [HE.out];exact if_pos (by omega):R=_);go_enter Tryz.func102,Tryz.ntmps102;go_wp2_with (rw [<- hW];clear hW)
   go_ret;refine ⟨zL (by rw [HE2.out]),s,?_⟩;rw [HE2.out];exact HW.out.inb.weak
  ·obtain ⟨c2,hc2⟩:∃ c2:CU,c2={ c with pend:=c.pend ++ [e.cmd] }:=⟨_,rfl⟩;have HE2:Hid (R=(c2,true)):=(by rw [HE.out,hc2];exact if_neg (by omega):R=_);obtain ⟨ci,lhi,lhz0,lhz1,lhz2⟩:=info_parts infoCmd;go_enter Tryz.func102,Tryz.ntmps102
   go_upto_region 5 with (rw [<- hW];clear hW)
   clear c7 l0 l1;refine zT (fun i=>decide (i < 13)) (fun x=>Bx x N (zR c s) 90/\Bx x w.heap.size (evA e) 132) (by kernel_rfl) ?_;show zX Tryz.prog _ _ _ _ _ (13+1) (Array.replicate 14 false) _ _;have hS:Bx W.drew N (zR c s) 90/\Bx W.drew w.heap.size (evA e) 132:=⟨HW.out.inb.box,HW.out.box⟩;have K:∀ x,Below W.heap.size W x->Bx x N (zR c s) 90/\Bx x w.heap.size (evA e) 132:=fun x hb=>⟨(HW.out.more hb).inb.box,(HW.out.more hb).box⟩
   have RD:∀ x,Below W.heap.size W x->yM x s.pend 3 kL c.pend:=fun x hb=>zW kC (HW.out.more hb).inb.own.pend
   have hlen:(c.pend.length:Int)<=1048576:=by omega
   obtain ⟨li,hli⟩:∃ li,li=ci:=⟨_,rfl⟩;subst hli;refine zD 0 17 (.pointer (some ⟨N,0,none⟩)) hS ?_;refine zD 2 19 (.pointer (some ⟨N,0,none⟩)) hS ?_;refine zD 3 20 (.pointer (some ⟨N,0,none⟩)) hS ?_;refine zD 4 21 (.pointer (some ⟨N,7,none⟩)) hS ?_;refine zD 5 22 s.pend hS ?_ (hy:=by intro x hx;have cc:=zB hx.1 7 s.pend rfl;go_simp;try with_reducible rfl);refine zD 7 24 (.pointer (some ⟨w.heap.size,4,none⟩)) hS ?_;refine zD 8 25 (.agg #[.int .i64 e.cmd.1,.string e.cmd.2.1,.int .i64 e.cmd.2.2]) hS ?_ (hy:=fun x hx=>xB _ _ rfl w.heap.size 4 rfl (kL e.cmd) _ (ev_cmd hx.2) Tryz.underlying130 rfl (by kernel_rfl));have hd0:Below W.heap.size W W.drew:=(br _ _).drew;refine zFC (i:=1) (j:=9) (by kernel_rfl) ?_ ?_
   ·obtain ⟨y1,hy1⟩:∃ y1,y1=W.drew.alloc (.cells #[] 130):=⟨_,rfl⟩;have hb1:Below W.heap.size W y1:=by rw [hy1];exact hd0.alloc hd0.size _
    have oy1:y1.ownsRow W.heap.size 130 3 (.slice (some ⟨W.drew.heap.size,0,none⟩) 0 0) ([]:List CM).length (zE kL []):=by rw [hy1];exact zN (yH W.drew _ _) hd0.size
    refine xU (s:=1) (e':=some 18) rfl rfl rfl (.slice (some ⟨W.drew.heap.size,0,none⟩) 0 0) y1 ?_ ⟨fun _=>K y1 hb1,?_⟩
    ·rw [hy1];go_simp
     try with_reducible rfl
    simp only [pz];refine zFC (i:=6) (j:=9) (by kernel_rfl) ?_ ?_
    ·refine xS (s:=6) (e':=some 23) rfl rfl rfl (.tmp 18) (.tmp 22) 74 rfl W.heap.size 130 li _ 32 Tryz.underlying74 lhi lhz0 lhz1 lhz2 rfl (by decide) kC qL (.slice (some ⟨W.drew.heap.size,0,none⟩) 0 0) [] rfl oy1 _ c.pend rfl (RD y1 hb1) (by simp;unfold maxLen;omega) (by simp;omega) hb1.size ?_;intro v69 y2 hoy2 hgy2 haty2;simp only [List.nil_append] at hoy2;have hb2:Below W.heap.size W y2:=hb1.grown hgy2 hb1.size (fun k hk=>(oy1.lt k hk).1);refine ⟨fun _=>K y2 hb2,?_⟩;simp only [pz];obtain ⟨y3,hy3⟩:∃ y3,y3=y2.alloc (.cells #[.int .i64 e.cmd.1,.string e.cmd.2.1,.int .i64 e.cmd.2.2] 130):=⟨_,rfl⟩;have hb3:Below W.heap.size W y3:=by rw [hy3];exact hb2.alloc hb2.size _
     have by3:Bx y3 y2.heap.size #[.int .i64 e.cmd.1,.string e.cmd.2.1,.int .i64 e.cmd.2.2] 130:=by rw [hy3];exact heap_alloc_new y2 _
     refine kG (i:=9) (by kernel_rfl) ?_;refine xU (s:=9) (e':=some 26) rfl rfl rfl (.slice (some ⟨y2.heap.size,0,none⟩) 1 1) y3 ?_ ⟨fun _=>K y3 hb3,?_⟩
     ·rw [hy3];go_simp
      try with_reducible rfl
     simp only [pz];have ho3:=zS hoy2 (show Below y2.heap.size y2 y3 by rw [hy3];exact (br _ _).alloc (nl _) _);refine qO (s:=10) (e':=some 27) rfl rfl rfl (.tmp 23) (.tmp 26) 74 rfl (by kernel_rfl) W.heap.size 130 li _ 3 32 Tryz.underlying74 lhi lhz0 lhz1 lhz2 rfl (by decide) v69 _ _ rfl ho3 ⟨y2.heap.size,0,none⟩ 1 1 (kL e.cmd) rfl rfl (World.news_of_block by3) (qL _) (by decide) (by unfold maxLen;omega) (by omega) hb3.size _ rfl ?_;intro g2 cap2 z ho2 hg2 hwh hlt2;have hbz:Below W.heap.size W z:=hb3.grown hg2 hb3.size (fun k hk=>(ho3.lt k hk).1);refine ⟨fun _=>K z hbz,?_⟩;simp only [pz];refine zD 11 28 (.pointer (some ⟨N,0,none⟩)) (K z hbz) ?_;refine zD 12 29 (.pointer (some ⟨N,7,none⟩)) (K z hbz) ?_;refine kT (s:=13) (N:=N) (o:=7) (u:=.slice (some ⟨g2,0,none⟩) (c.pend.length+1) cap2) (old:=zR c s) (new:=zR c2 { s with pend:=.slice (some ⟨g2,0,none⟩) (c.pend.length+1) cap2 }) rfl rfl rfl rfl (by kernel_rfl) rfl rfl (K z hbz).1 (by kernel_rfl) (by simp [zR]) rfl (by rw [hc2];rfl) ?_;intro z2 hg hk
     have HZ:Hid (InB N lo w z2 c2 { s with pend:=.slice (some ⟨g2,0,none⟩) (c.pend.length+1) cap2 }):=(by
      have ho3:z.ownsRow W.heap.size 130 3 (.slice (some ⟨g2,0,none⟩) (c.pend.length+1) cap2) (c.pend ++ [e.cmd]).length (zE kL (c.pend ++ [e.cmd])):=by rw [List.length_append,zY];simpa [zE] using ho2
      have ho4:=World.ownsRow.kept ho3 hg (zH ho3 (K z hbz).1 (by decide));have hin:=HW.out.inb.more hbz;refine ⟨hk,?_,hin.fr.trans (FrS.of_grown hg (fun k e=>by cases e;rfl))⟩;rw [hc2]
      exact ((HW.out.inb.own.below hbz).boxT (K z hbz).1 hg).setPend2 (Nat.le_trans hbz.size hg.size) (nl _) (zN ho4 HLW.out) (fun g e=>⟨(ho3.lt g e).1,Nat.lt_of_lt_of_le (ho3.lt g e).2 hg.size⟩) HLW.out:InB _ _ _ _ _ _)
     refine ⟨fun h=>absurd h (by decide),?_⟩;refine zK (by kernel_rfl) ?_ _;go_wp2;go_ret;refine ⟨zL (by rw [HE2.out]),{ s with pend:=.slice (some ⟨g2,0,none⟩) (c.pend.length+1) cap2 },?_⟩;rw [HE2.out];exact HZ.out.weak
    ·obtain ⟨y2,hy2⟩:∃ y2,y2=y1.alloc (.cells #[.int .i64 e.cmd.1,.string e.cmd.2.1,.int .i64 e.cmd.2.2] 130):=⟨_,rfl⟩;have hb2:Below W.heap.size W y2:=by rw [hy2];exact hb1.alloc hb1.size _
     have by2:Bx y2 y1.heap.size #[.int .i64 e.cmd.1,.string e.cmd.2.1,.int .i64 e.cmd.2.2] 130:=by rw [hy2];exact heap_alloc_new y1 _
     refine xU (s:=9) (e':=some 26) rfl rfl rfl (.slice (some ⟨y1.heap.size,0,none⟩) 1 1) y2 ?_ ⟨fun _=>K y2 hb2,?_⟩
     ·rw [hy2];go_simp
      try with_reducible rfl
     simp only [pz];have oy2:=zS oy1 (show Below y1.heap.size y1 y2 by rw [hy2];exact (br _ _).alloc (nl _) _);refine kG (i:=6) (by kernel_rfl) ?_;refine xS (s:=6) (e':=some 23) rfl rfl rfl (.tmp 18) (.tmp 22) 74 rfl W.heap.size 130 li _ 32 Tryz.underlying74 lhi lhz0 lhz1 lhz2 rfl (by decide) kC qL (.slice (some ⟨W.drew.heap.size,0,none⟩) 0 0) [] rfl oy2 _ c.pend rfl (RD y2 hb2) (by simp;unfold maxLen;omega) (by simp;omega) hb2.size ?_;intro v69 y3 hoy3 hgy3 haty3;simp only [List.nil_append] at hoy3;have hb3:Below W.heap.size W y3:=hb2.grown hgy3 hb2.size (fun k hk=>(oy2.lt k hk).1);refine ⟨fun _=>K y3 hb3,?_⟩;simp only [pz];have by3:Bx y3 y1.heap.size #[.int .i64 e.cmd.1,.string e.cmd.2.1,.int .i64 e.cmd.2.2] 130:=(hgy3.block _ (gl by2) (fun e=>by have e:=Option.some.inj e;rw [hy1] at e;simp at e)).trans by2;refine qO (s:=10) (e':=some 27) rfl rfl rfl (.tmp 23) (.tmp 26) 74 rfl (by kernel_rfl) W.heap.size 130 li _ 3 32 Tryz.underlying74 lhi lhz0 lhz1 lhz2 rfl (by decide) v69 _ _ rfl hoy3 ⟨y1.heap.size,0,none⟩ 1 1 (kL e.cmd) rfl rfl (World.news_of_block by3) (qL _) (by decide) (by unfold maxLen;omega) (by omega) hb3.size _ rfl ?_;intro g2 cap2 z ho2 hg2 hwh hlt2;have hbz:Below W.heap.size W z:=hb3.grown hg2 hb3.size (fun k hk=>(hoy3.lt k hk).1);refine ⟨fun _=>K z hbz,?_⟩;simp only [pz];refine zD 11 28 (.pointer (some ⟨N,0,none⟩)) (K z hbz) ?_;refine zD 12 29 (.pointer (some ⟨N,7,none⟩)) (K z hbz) ?_;refine kT (s:=13) (N:=N) (o:=7) (u:=.slice (some ⟨g2,0,none⟩) (c.pend.length+1) cap2) (old:=zR c s) (new:=zR c2 { s with pend:=.slice (some ⟨g2,0,none⟩) (c.pend.length+1) cap2 }) rfl rfl rfl rfl (by kernel_rfl) rfl rfl (K z hbz).1 (by kernel_rfl) (by simp [zR]) rfl (by rw [hc2];rfl) ?_;intro z2 hg hk
     have HZ:Hid (InB N lo w z2 c2 { s with pend:=.slice (some ⟨g2,0,none⟩) (c.pend.length+1) cap2 }):=(by
      have ho3:z.ownsRow W.heap.size 130 3 (.slice (some ⟨g2,0,none⟩) (c.pend.length+1) cap2) (c.pend ++ [e.cmd]).length (zE kL (c.pend ++ [e.cmd])):=by rw [List.length_append,zY];simpa [zE] using ho2
      have ho4:=World.ownsRow.kept ho3 hg (zH ho3 (K z hbz).1 (by decide));have hin:=HW.out.inb.more hbz;refine ⟨hk,?_,hin.fr.trans (FrS.of_grown hg (fun k e=>by cases e;rfl))⟩;rw [hc2]
      exact ((HW.out.inb.own.below hbz).boxT (K z hbz).1 hg).setPend2 (Nat.le_trans hbz.size hg.size) (nl _) (zN ho4 HLW.out) (fun g e=>⟨(ho3.lt g e).1,Nat.lt_of_lt_of_le (ho3.lt g e).2 hg.size⟩) HLW.out:InB _ _ _ _ _ _)
     refine ⟨fun h=>absurd h (by decide),?_⟩;refine zK (by kernel_rfl) ?_ _;go_wp2;go_ret;refine ⟨zL (by rw [HE2.out]),{ s with pend:=.slice (some ⟨g2,0,none⟩) (c.pend.length+1) cap2 },?_⟩;rw [HE2.out];exact HZ.out.weak
   ·obtain ⟨y1,hy1⟩:∃ y1,y1=W.drew.alloc (.cells #[.int .i64 e.cmd.1,.string e.cmd.2.1,.int .i64 e.cmd.2.2] 130):=⟨_,rfl⟩;have hb1:Below W.heap.size W y1:=by rw [hy1];exact hd0.alloc hd0.size _
    have by1:Bx y1 W.drew.heap.size #[.int .i64 e.cmd.1,.string e.cmd.2.1,.int .i64 e.cmd.2.2] 130:=by rw [hy1];exact heap_alloc_new W.drew _
    refine xU (s:=9) (e':=some 26) rfl rfl rfl (.slice (some ⟨W.drew.heap.size,0,none⟩) 1 1) y1 ?_ ⟨fun _=>K y1 hb1,?_⟩
    ·rw [hy1];go_simp
     try with_reducible rfl
    simp only [pz];obtain ⟨y2,hy2⟩:∃ y2,y2=y1.alloc (.cells #[] 130):=⟨_,rfl⟩;have hb2:Below W.heap.size W y2:=by rw [hy2];exact hb1.alloc hb1.size _
    have oy2:y2.ownsRow W.heap.size 130 3 (.slice (some ⟨y1.heap.size,0,none⟩) 0 0) ([]:List CM).length (zE kL []):=by rw [hy2];exact zN (yH y1 _ _) hb1.size
    refine kG (i:=1) (by kernel_rfl) ?_;refine xU (s:=1) (e':=some 18) rfl rfl rfl (.slice (some ⟨y1.heap.size,0,none⟩) 0 0) y2 ?_ ⟨fun _=>K y2 hb2,?_⟩
    ·rw [hy2];go_simp
     try with_reducible rfl
    simp only [pz];refine kG (i:=6) (by kernel_rfl) ?_;refine xS (s:=6) (e':=some 23) rfl rfl rfl (.tmp 18) (.tmp 22) 74 rfl W.heap.size 130 li _ 32 Tryz.underlying74 lhi lhz0 lhz1 lhz2 rfl (by decide) kC qL (.slice (some ⟨y1.heap.size,0,none⟩) 0 0) [] rfl oy2 _ c.pend rfl (RD y2 hb2) (by simp;unfold maxLen;omega) (by simp;omega) hb2.size ?_;intro v69 y3 hoy3 hgy3 haty3;simp only [List.nil_append] at hoy3;have hb3:Below W.heap.size W y3:=hb2.grown hgy3 hb2.size (fun k hk=>(oy2.lt k hk).1);refine ⟨fun _=>K y3 hb3,?_⟩;simp only [pz];have by3:Bx y3 W.drew.heap.size #[.int .i64 e.cmd.1,.string e.cmd.2.1,.int .i64 e.cmd.2.2] 130:=(hgy3.block _ (Nat.lt_of_lt_of_le (gl by1) (by rw [hy2];simp)) (fun e=>by have e:=Option.some.inj e;rw [hy1] at e;simp at e)).trans (((show Below y1.heap.size y1 y2 by rw [hy2];exact (br _ _).alloc (nl _) _).block _ (gl by1)).trans by1);refine qO (s:=10) (e':=some 27) rfl rfl rfl (.tmp 23) (.tmp 26) 74 rfl (by kernel_rfl) W.heap.size 130 li _ 3 32 Tryz.underlying74 lhi lhz0 lhz1 lhz2 rfl (by decide) v69 _ _ rfl hoy3 ⟨W.drew.heap.size,0,none⟩ 1 1 (kL e.cmd) rfl rfl (World.news_of_block by3) (qL _) (by decide) (by unfold maxLen;omega) (by omega) hb3.size _ rfl ?_;intro g2 cap2 z ho2 hg2 hwh hlt2;have hbz:Below W.heap.size W z:=hb3.grown hg2 hb3.size (fun k hk=>(hoy3.lt k hk).1);refine ⟨fun _=>K z hbz,?_⟩;simp only [pz];refine zD 11 28 (.pointer (some ⟨N,0,none⟩)) (K z hbz) ?_;refine zD 12 29 (.pointer (some ⟨N,7,none⟩)) (K z hbz) ?_;refine kT (s:=13) (N:=N) (o:=7) (u:=.slice (some ⟨g2,0,none⟩) (c.pend.length+1) cap2) (old:=zR c s) (new:=zR c2 { s with pend:=.slice (some ⟨g2,0,none⟩) (c.pend.length+1) cap2 }) rfl rfl rfl rfl (by kernel_rfl) rfl rfl (K z hbz).1 (by kernel_rfl) (by simp [zR]) rfl (by rw [hc2];rfl) ?_;intro z2 hg hk
    have HZ:Hid (InB N lo w z2 c2 { s with pend:=.slice (some ⟨g2,0,none⟩) (c.pend.length+1) cap2 }):=(by
     have ho3:z.ownsRow W.heap.size 130 3 (.slice (some ⟨g2,0,none⟩) (c.pend.length+1) cap2) (c.pend ++ [e.cmd]).length (zE kL (c.pend ++ [e.cmd])):=by rw [List.length_append,zY];simpa [zE] using ho2
     have ho4:=World.ownsRow.kept ho3 hg (zH ho3 (K z hbz).1 (by decide));have hin:=HW.out.inb.more hbz;refine ⟨hk,?_,hin.fr.trans (FrS.of_grown hg (fun k e=>by cases e;rfl))⟩;rw [hc2]
     exact ((HW.out.inb.own.below hbz).boxT (K z hbz).1 hg).setPend2 (Nat.le_trans hbz.size hg.size) (nl _) (zN ho4 HLW.out) (fun g e=>⟨(ho3.lt g e).1,Nat.lt_of_lt_of_le (ho3.lt g e).2 hg.size⟩) HLW.out:InB _ _ _ _ _ _)
    refine ⟨fun h=>absurd h (by decide),?_⟩;refine zK (by kernel_rfl) ?_ _;go_wp2;go_ret;refine ⟨zL (by rw [HE2.out]),{ s with pend:=.slice (some ⟨g2,0,none⟩) (c.pend.length+1) cap2 },?_⟩;rw [HE2.out];exact HZ.out.weak
 ·have b1:(e.kind == 1)=false:=by simpa using k1
  by_cases k2:e.kind=2
  ·have b2:(e.kind == 2)=true:=by simpa using k2
   have HE:Hid (R=showC c e.at'):=(by rw [HR.out];unfold doC;rw [if_neg k1,if_pos k2]:R=_);clear k1 k2 HR;go_enter Tryz.func102,Tryz.ntmps102;go_wp2_with (rw [<- hW];clear hW)
   clear l0 l1;refine (show_p c s N lo W.heap.size e.at' W HW.out.inb.box HW.out.inb.own HLW.out HOK.out.shw).mono ?_;rintro r y3 ⟨rfl,s3,hin⟩;have HIN:Hid (InW N lo w y3 R.1 s3):=(by rw [HE.out];exact HW.out.inb.weak.trans hin:InW _ _ _ _ _ _);clear hin;rw [<- HE.out];go_wp2;go_ret;exact ⟨rfl,s3,HIN.out⟩
  ·have b2:(e.kind == 2)=false:=by simpa using k2
   by_cases k3:e.kind=3
   ·have b3:(e.kind == 3)=true:=by simpa using k3
    have HE:Hid (R=carryC c e.at'):=(by rw [HR.out];unfold doC;rw [if_neg k1,if_neg k2,if_pos k3]:R=_);clear k1 k2 k3 HR;go_enter Tryz.func102,Tryz.ntmps102;go_wp2_with (rw [<- hW];clear hW)
    clear l0 l1;refine (carry_p c s N lo W.heap.size e.at' W HW.out.inb.box HW.out.inb.own HLW.out HOK.out.carry hwa).mono ?_;rintro r y3 ⟨rfl,s3,hin⟩;have HIN:Hid (InW N lo w y3 R.1 s3):=(by rw [HE.out];exact HW.out.inb.weak.trans hin:InW _ _ _ _ _ _);clear hin;rw [<- HE.out];go_wp2;go_ret;exact ⟨rfl,s3,HIN.out⟩
   ·have b3:(e.kind == 3)=false:=by simpa using k3
    by_cases k4:e.kind=4
    ·have b4:(e.kind == 4)=true:=by simpa using k4
     have HE:Hid (R=(zAC c e.at',outB c e.at')):=(by rw [HR.out];unfold doC;rw [if_neg k1,if_neg k2,if_neg k3,if_pos k4]:R=_);clear k1 k2 k3 k4 HR;go_enter Tryz.func102,Tryz.ntmps102;go_wp2_with (rw [<- hW];clear hW)
     clear l0 l1;refine (out_p c s N lo W.heap.size e.at' W HW.out.inb.box HW.out.inb.own HLW.out HOK.out.carry.net hwa).mono ?_;rintro r y3 ⟨rfl,s3,hin⟩;have HIN:Hid (InB N lo w y3 (zAC c e.at') s3):=HW.out.inb.trans hin;clear hin;go_wp2_with (refine w_st y3.heap.size (zQ (zBH c e.at')) (heap_alloc_new y3 _) (kD _) ?_;intro w2 hg hk hz;have HI2:Hid (InB N lo w w2 (zAC c e.at') s3):=HIN.out.more (yB hg);clear hg hk hz)
     go_ret;refine ⟨zL (by rw [HE.out]),s3,?_⟩;rw [HE.out];exact HI2.out.weak
    ·have b4:(e.kind == 4)=false:=by simpa using k4
     by_cases k5:e.kind=5
     ·have b5:(e.kind == 5)=true:=by simpa using k5
      have HE:Hid (R=yEC c e.at'):=(by rw [HR.out];unfold doC;rw [if_neg k1,if_neg k2,if_neg k3,if_neg k4,if_pos k5]:R=_);clear k1 k2 k3 k4 k5 HR;go_enter Tryz.func102,Tryz.ntmps102;go_wp2_with (rw [<- hW];clear hW)
      clear l0 l1;refine (twice_p c s N lo W.heap.size e.at' W HW.out.inb.box HW.out.inb.own HLW.out HOK.out.carry.net hwa).mono ?_;rintro r y3 ⟨rfl,s3,hin⟩;have HIN:Hid (InW N lo w y3 R.1 s3):=(by rw [HE.out];exact HW.out.inb.weak.trans hin.weak:InW _ _ _ _ _ _);clear hin;rw [<- HE.out];go_wp2;go_ret;exact ⟨rfl,s3,HIN.out⟩
     ·have b5:(e.kind == 5)=false:=by simpa using k5
      by_cases k6:e.kind=6
      ·have b6:(e.kind == 6)=true:=by simpa using k6
       have HE:Hid (R=waitC c e.at'):=(by rw [HR.out];unfold doC;rw [if_neg k1,if_neg k2,if_neg k3,if_neg k4,if_neg k5,if_pos k6]:R=_);clear k1 k2 k3 k4 k5 k6 HR;go_enter Tryz.func102,Tryz.ntmps102;go_wp2_with (rw [<- hW];clear hW)
       clear l0 l1;refine (wait_p c s N lo W.heap.size e.at' W HW.out.inb.box HW.out.inb.own HLW.out HOK.out.carry.net HOK.out.carry.lpeers hwa HOK.out.shw.n HOK.out.shw.peers).mono ?_;rintro r y3 ⟨rfl,s3,hin⟩;have HIN:Hid (InW N lo w y3 R.1 s3):=(by rw [HE.out];exact HW.out.inb.weak.trans hin:InW _ _ _ _ _ _);clear hin;rw [<- HE.out];go_wp2;go_ret;exact ⟨rfl,s3,HIN.out⟩
      ·have b6:(e.kind == 6)=false:=by simpa using k6
       by_cases k7:e.kind=7
       ·have b7:(e.kind == 7)=true:=by simpa using k7
        have HE:Hid (R=fallC c e.at'):=(by rw [HR.out];unfold doC;rw [if_neg k1,if_neg k2,if_neg k3,if_neg k4,if_neg k5,if_neg k6,if_pos k7]:R=_);clear k1 k2 k3 k4 k5 k6 k7 HR;obtain ⟨at',ct,et,-⟩:=HW.out.inb.own.reads.viewCell;go_enter Tryz.func102,Tryz.ntmps102
        go_upto_region 20 with (rw [<- hW];clear hW)
        clear l0 l1 et;refine zT (fun _=>true) (fun x=>Bx x N (zR c s) 90/\Bx x w.heap.size (evA e) 132) (by kernel_rfl) ?_;show zX Tryz.prog _ _ _ _ _ (6+1) (Array.replicate 7 false) _ _;have KP:∀ y,Below W.heap.size W y->Bx y N (zR c s) 90/\Bx y w.heap.size (evA e) 132:=fun y hb=>⟨(HW.out.more hb).inb.box,(HW.out.more hb).box⟩
        have hd0:Below W.heap.size W W.drew:=(br _ _).drew;have hS:=KP W.drew hd0;refine zD 0 66 (.pointer (some ⟨N,0,none⟩)) hS ?_;refine zD 1 67 (.pointer (some ⟨N,0,none⟩)) hS ?_;refine zD 2 68 (.agg (zR c s)) hS ?_ (hy:=fun x hx=>zM _ _ rfl N rfl _ _ _ _ hx.1 Tryz.underlying90 rfl (by kernel_rfl));refine zD 3 69 (.pointer (some ⟨w.heap.size,1,none⟩)) hS ?_;refine zD 4 70 (.int .i64 e.at') hS ?_ (hy:=by intro x hx;have l1:=zB hx.2 1 (.int .i64 e.at') rfl;go_simp;try with_reducible rfl);refine kJ 5 71 145 #[.agg (zR c s),.int .i64 e.at'] ((zHB c s e.at' W.drew (HW.out.more hd0).inb.own.reads HOK.out.carry.lpeers).mono ?_);rintro r X1 ⟨rfl,hsX1⟩;have hbX1:Below W.heap.size W X1:=bt hd0 hsX1;refine ⟨_,rfl,fun _=>KP X1 hbX1,?_⟩;simp only [pz];have HX1:Hid (PtE w X1 N lo c s e):=HW.out.more hbX1
        by_cases hh:xT c e.at'=true
        ·rw [hh]
         have hin:0<=e.at'/\e.at' < c.peers.length:=by
          unfold xT at hh;have:=zDF (Bool.and_eq_true _ _ ▸ hh).1;omega
         obtain ⟨j,hj⟩:∃ j:Nat,(j:Int)=e.at':=⟨e.at'.toNat,by omega⟩;have hjn:j < c.peers.length:=by omega
         have HJ:Hid ((j:Int)=e.at'):=hj;have HE2:Hid (R=(zCG c (j:Int) (yCF c.tree (zCJ c (j:Int))),true)):=(by rw [HE.out,HJ.out];exact if_pos hh:R=_);clear hh hin hj HE;refine zD 6 72 (.bool false) (KP X1 hbX1) ?_;refine zK (by kernel_rfl) ?_ _;clear hS KP hd0 hsX1 hbX1;obtain ⟨g,cap,p,t,hpv,hpt,hpa,hpr,hrg,hgl,hlg,⟨cur,hcur,hcs⟩,hcap⟩:=(HX1.out.inb.own).peerAt hjn;have HPR:=hid hpr;have HRG:=hid hrg;have HCU:Hid (Bx X1 g cur 35/\j * 21+21<=cur.size):=⟨hcur,hcs⟩;have HPV:Hid (s.peersV=.slice (some ⟨g,0,none⟩) c.peers.length cap):=hpv;have HGL:Hid (g < X1.heap.size/\lo<=g/\c.peers.length<=cap):=⟨hgl,hlg,hcap⟩;have hpm:p∈c.peers:=by rw [<- hpa];unfold zCJ;rw [show ((j:Int)).toNat=j by omega,List.getElem?_eq_getElem hjn];exact List.getElem_mem hjn
         have HKP:Hid (yAG p):=HOK.out.kept p hpm;rw [hpa] at HE2;have q0:(0:Int)<=(j:Int):=by omega
         have q1:(j:Int) < (c.peers.length:Int):=by omega
         clear hpr hrg hcur hcs hpv hpa hpt hgl hlg hcap hpm;obtain ⟨P1,hP1⟩:∃ P1,P1=yCF c.tree p:=⟨_,rfl⟩;rw [<- hP1] at HE2;have HP1:Hid (yCF c.tree p=P1):=hP1.symm;clear hP1
         go_upto_region 22 with fail
         refine zT (fun _=>true) (fun x=>Bx x N (zR c s) 90/\Bx x w.heap.size (evA e) 132) (by kernel_rfl) ?_;show zX Tryz.prog _ _ _ _ _ (20+1) (Array.replicate 21 false) _ _;have KP:∀ y,Below X1.heap.size X1 y->Bx y N (zR c s) 90/\Bx y w.heap.size (evA e) 132:=fun y hb=>⟨(HX1.out.more hb).inb.box,(HX1.out.more hb).box⟩
         have hd0:Below X1.heap.size X1 X1.drew:=(br _ _).drew;have hS:=KP X1.drew hd0;refine zD 0 73 (.pointer (some ⟨N,0,none⟩)) hS ?_;refine zD 1 74 (.pointer (some ⟨N,0,none⟩)) hS ?_;refine zD 2 75 (.pointer (some ⟨N,4,none⟩)) hS ?_;refine zD 3 76 (.slice (some ⟨g,0,none⟩) c.peers.length cap) hS ?_ (hy:=by intro x hx;have c4:=zB hx.1 4 s.peersV rfl;rw [HPV.out] at c4;go_simp;try with_reducible rfl);refine zD 4 77 (.pointer (some ⟨w.heap.size,1,none⟩)) hS ?_;refine zD 5 78 (.int .i64 (j:Int)) hS ?_ (hy:=by intro x hx;have l1:=zB hx.2 1 (.int .i64 e.at') rfl;rw [<- HJ.out] at l1;go_simp;try with_reducible rfl);refine zD 6 79 (.pointer (some ⟨N,0,none⟩)) hS ?_;refine zD 7 80 (.pointer (some ⟨N,0,none⟩)) hS ?_;refine zD 8 81 (.pointer (some ⟨N,3,none⟩)) hS ?_;refine zD 9 82 s.treeV hS ?_ (hy:=by intro x hx;have c3:=zB hx.1 3 s.treeV rfl;go_simp;try with_reducible rfl);refine zD 10 83 (.pointer (some ⟨N,0,none⟩)) hS ?_;refine zD 11 84 (.pointer (some ⟨N,0,none⟩)) hS ?_;refine zD 12 85 (.pointer (some ⟨N,4,none⟩)) hS ?_;refine zD 13 86 (.slice (some ⟨g,0,none⟩) c.peers.length cap) hS ?_ (hy:=by intro x hx;have c4:=zB hx.1 4 s.peersV rfl;rw [HPV.out] at c4;go_simp;try with_reducible rfl);refine zD 14 87 (.pointer (some ⟨w.heap.size,1,none⟩)) hS ?_;refine zD 15 88 (.int .i64 (j:Int)) hS ?_ (hy:=by intro x hx;have l1:=zB hx.2 1 (.int .i64 e.at') rfl;rw [<- HJ.out] at l1;go_simp;try with_reducible rfl);refine zD 16 89 (.pointer (some ⟨g,j * 21,none⟩)) hS ?_;refine kG (i:=17) (by kernel_rfl) ?_;refine xU (s:=17) (e':=some 90) rfl rfl rfl (.agg (zA p t)) X1.drew (xB _ _ rfl g (j * 21) rfl (peerL p t) _ (qW (hd0.block g HGL.out.1) HRG.out) Tryz.underlying35 rfl (by kernel_rfl)) ⟨fun _=>hS,?_⟩;simp only [pz];have hcon:=fallen_s s.tree s.treeV p t X1.drew (HX1.out.more hd0).inb.own.reads.tree (by rw [HX1.out.inb.own.etree];exact HOK.out.lie.tree) (HPR.out.below hd0) HKP.out;rw [HX1.out.inb.own.etree,HP1.out] at hcon;refine kJ 18 91 146 #[s.treeV,.agg (zA p t)] (hcon.mono ?_);clear hcon;rintro r yc ⟨t1,rfl,hoc,hbc⟩;have hby:Below X1.heap.size X1 yc:=bt hd0 hbc;refine ⟨_,rfl,fun _=>KP yc hby,?_⟩;simp only [pz];refine zD 19 92 (.pointer (some ⟨g,j * 21,none⟩)) (KP yc hby) ?_;have hcy:Bx yc g cur 35:=(hby.block g HGL.out.1).trans HCU.out.1;refine xW (s:=20) (N:=g) (o:=j * 21) (cells:=zA P1 t1) (old:=cur) (new:=yBB cur (j * 21) (zA P1 t1)) rfl rfl rfl rfl (by kernel_rfl) rfl rfl hcy (by kernel_rfl) (by have:=HCU.out.2;simpa [zA] using this) (zJ hoc.1) rfl ?_;intro z hg hk;have HZ:=put_peer (HX1.out.more hby).inb HX1.out.inb.own hby (Nat.le_trans HLO.out HX1.out.inb.fr.size) HPV.out HGL.out.2.1 hjn hcy hg hk (hoc.low hd0.size) (KP yc hby).2 (by decide)
         have BZ:Bx z N (zR c s) 90:=(hg.block _ (Array.getElem?_eq_some_iff.1 (KP yc hby).1).1 (fun e=>by
          have hn:=(KP yc hby).1;rw [Option.some.inj e] at hn
          exact absurd (hn.symm.trans hcy) (by simp))).trans (KP yc hby).1
         refine ⟨fun _=>⟨BZ,HZ.2⟩,?_⟩;refine zK (by kernel_rfl) ?_ _;have HZZ:=hid HZ.1;go_wp2;go_ret;refine ⟨zL (by rw [HE2.out]),{ s with peers:=s.peers.set j (P1,t1) },?_⟩;rw [HE2.out];exact HZZ.out
        ·have hf:xT c e.at'=false:=by simpa using hh
         rw [hf];have HE2:Hid (R=(c,false)):=(by rw [HE.out];exact if_neg hh:R=_);refine zD 6 72 (.bool true) (KP X1 hbX1) ?_;refine zK (by kernel_rfl) ?_ _;go_wp2;go_ret;refine ⟨zL (by rw [HE2.out]),s,?_⟩;rw [HE2.out];exact HX1.out.inb.weak
       ·have b7:(e.kind == 7)=false:=by simpa using k7
        have HE:Hid (R=lieC c e):=(by rw [HR.out];unfold doC;rw [if_neg k1,if_neg k2,if_neg k3,if_neg k4,if_neg k5,if_neg k6,if_neg k7]:R=_);clear k1 k2 k3 k4 k5 k6 k7 HR;go_enter Tryz.func102,Tryz.ntmps102;go_wp2_with (first | (rw [<- hW];clear hW) | (refine w_ld w.heap.size HW.out.box Tryz.underlying132 ?_))
        clear l0 l1;refine (lie_p c s N lo W.heap.size e W HW.out.inb.box HW.out.inb.own HLW.out HOK.out.lie hn HCM.out).mono ?_;rintro r y3 ⟨rfl,s3,hin⟩;have HIN:Hid (InW N lo w y3 R.1 s3):=(by rw [HE.out];exact HW.out.inb.weak.trans hin.weak:InW _ _ _ _ _ _);clear hin;rw [<- HE.out];go_wp2;go_ret;exact ⟨rfl,s3,HIN.out⟩
end Go.Proofs.YtdopefimjabigadGreat
