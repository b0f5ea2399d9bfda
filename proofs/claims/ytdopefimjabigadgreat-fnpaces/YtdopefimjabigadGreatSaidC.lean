/-
  A text of ours: SaidC.
-/
import Derived.Test.YtdopefimjabigadGreatK1
import Derived.Test.YtdopefimjabigadGreatK7
import Derived.Test.YtdopefimjabigadGreatK4
import Derived.Test.YtdopefimjabigadGreatLokS
set_option maxRecDepth 100000
set_option maxHeartbeats 32000000
namespace Go.Proofs.YtdopefimjabigadGreat
open Go.RowKit Num
structure PtS (w y:World) (N lo:Nat) (c:CU) (s:CW) (V:Array Value):Prop where
 inb:InB N lo w y c s
 box:Bx y w.heap.size V 28
theorem PtS.more {w y x:World} {N lo:Nat} {c:CU} {s:CW} {V:Array Value} (h:PtS w y N lo c s V) (hb:Below y.heap.size y x):PtS w x N lo c s V:=
 ⟨h.inb.more hb,(hb.block _ (gl h.box)).trans h.box⟩
theorem said_takeC {l:List VT} {v:VT} {m:Nat} (h:m < l.length) (hn:¬ v∈l.take m) (hv:¬ l[m]=v):¬ v∈l.take (m+1):=by
 rw [List.take_succ_eq_append_getElem h];intro hm
 rcases List.mem_append.1 hm with hm | hm
 ·exact hn hm
 ·exact hv (List.mem_singleton.1 hm).symm
theorem said_p (c:CU) (s:CW) (N lo hi:Nat) (v:VT) (w:World) (hbox:Bx w N (zR c s) 90) (hown:xG lo hi w c s) (hlo:lo<=hi) (hk:(c.said.length:Int)<=1048575) :
  Calls Tryz.prog 184 #[.pointer (some ⟨N,0,none⟩),.agg #[.int .i64 v.1,.int .i64 v.2.1,.int .i64 v.2.2.1,.int .i64 v.2.2.2]] w fun e w'=>(∃ u,e=.returned u)/\∃ s',InB N lo w w' (zHF c v) s':=by
 have hNl:N < w.heap.size:=(gl hbox);have HLO:Hid (lo<=w.heap.size):=Nat.le_trans hlo hown.size;obtain ⟨li,lhi,lhz0,lhz1,lhz2⟩:=info_parts infoVote;obtain ⟨v0,v1,v2,v3⟩:=v;simp only;obtain ⟨W,hW⟩:∃ W,W=w.alloc (.cells #[.int .i64 v0,.int .i64 v1,.int .i64 v2,.int .i64 v3] 28):=⟨_,rfl⟩
 have HW:Hid (PtS w W N lo c s #[.int .i64 v0,.int .i64 v1,.int .i64 v2,.int .i64 v3]):=(by
  have hb:Below w.heap.size w W:=by rw [hW];exact (br _ _).alloc (nl _) _
  exact ⟨(InB.start hbox hown).more hb,by rw [hW];exact heap_alloc_new w _⟩:PtS w W N lo c s #[.int .i64 v0,.int .i64 v1,.int .i64 v2,.int .i64 v3])
 obtain ⟨R,hR⟩:∃ R,R=zHF c (v0,v1,v2,v3):=⟨_,rfl⟩;have HR:Hid (R=if (v0,v1,v2,v3)∈c.said then c else { c with said:=c.said ++ [(v0,v1,v2,v3)] }):=hR;rw [<- hR];clear hR;obtain ⟨a,cap,er,hfm⟩:=yL hown.said;have HFM:Hid (0 < c.said.length->∃ g,a=some ⟨g,0,none⟩):=hfm;have HER:Hid (s.said=.slice a c.said.length cap):=er;have EV:=eqVt;have GV:=guardVt;clear hbox hown hlo hfm er;go_enter Tryz.func184,Tryz.ntmps184;go_wp2;rw [<- hW];clear hW
 go_loopw [4] (fun i wr=>∃ m:Nat,m<=c.said.length/\i=.int .i64 (m:Int)/\Hid (¬ (v0,v1,v2,v3)∈c.said.take m)/\Hid (PtS w wr N lo c s #[.int .i64 v0,.int .i64 v1,.int .i64 v2,.int .i64 v3])) (fun i _=>c.said.length - (intOf i).toNat)
 case atStart=>exact ⟨0,Nat.zero_le _,rfl,(show ¬ ((v0,v1,v2,v3):VT)∈c.said.take 0 by simp),HW.out⟩
 case round=>
  obtain ⟨m,hm,rfl,HF,HY⟩:=hrel;have c6:=zB HY.out.inb.box 6 s.said rfl;rw [HER.out] at c6
  by_cases hlt:(m:Int) < c.said.length
  ·have hmn:m < c.said.length:=by omega
   obtain ⟨g,rfl⟩:=HFM.out (by omega);have q0:(0:Int)<=(m:Int):=by omega
   obtain ⟨x,hx⟩:∃ x:VT,x=c.said[m]:=⟨_,rfl⟩;obtain ⟨x0,x1,x2,x3⟩:=x;have HSR:Hid (yM wr (.slice (some ⟨g,0,none⟩) c.said.length cap) 4 xD c.said):=(by rw [<- HER.out];exact zW kW HY.out.inb.own.said:yM _ _ _ _ _);obtain ⟨a',cap',er',hr'⟩:=HSR.out;injection er' with ea _ ec
   subst ea ec;obtain ⟨g',off,hgo,hg,hc⟩:=hr' (by omega);injection hgo with hgo
   injection hgo with hg1 hg2 _
   subst hg1 hg2;have hne:=yX wr;have zc:∀ j,j < 4->∀ z:Bw wr,z.to.cell? ⟨g,0+m * 4+j,none⟩=(xD (x0,x1,x2,x3))[j]?:=fun j hj z=>by rw [z.below.cell (by exact hg),hx];exact hc m hmn j hj
   have z0:∀ z:Bw wr,z.to.cell? ⟨g,m * 4,none⟩=some (.int .i64 x0):=fun z=>by have:=zc 0 (by omega) z;simpa [xD] using this
   have z1:∀ z:Bw wr,z.to.cell? ⟨g,m * 4+1,none⟩=some (.int .i64 x1):=fun z=>by have:=zc 1 (by omega) z;simpa [xD] using this
   have z2:∀ z:Bw wr,z.to.cell? ⟨g,m * 4+2,none⟩=some (.int .i64 x2):=fun z=>by have:=zc 2 (by omega) z;simpa [xD] using this
   have z3:∀ z:Bw wr,z.to.cell? ⟨g,m * 4+3,none⟩=some (.int .i64 x3):=fun z=>by have:=zc 3 (by omega) z;simpa [xD] using this
   have y6:∀ z:Bw wr,z.to.cell? ⟨N,6,none⟩=some (.slice (some ⟨g,0,none⟩) c.said.length cap):=fun z=>by rw [<- HER.out];exact zB (HY.out.more z.below).inb.box 6 s.said rfl
   have y0:∀ z:Bw wr,z.to.cell? ⟨w.heap.size,0,none⟩=some (.int .i64 v0):=fun z=>zB (HY.out.more z.below).box 0 _ rfl
   have y1:∀ z:Bw wr,z.to.cell? ⟨w.heap.size,1,none⟩=some (.int .i64 v1):=fun z=>zB (HY.out.more z.below).box 1 _ rfl
   have y2:∀ z:Bw wr,z.to.cell? ⟨w.heap.size,2,none⟩=some (.int .i64 v2):=fun z=>zB (HY.out.more z.below).box 2 _ rfl
   have y3:∀ z:Bw wr,z.to.cell? ⟨w.heap.size,3,none⟩=some (.int .i64 v3):=fun z=>zB (HY.out.more z.below).box 3 _ rfl
   have eqs:∀ z:World,_:=fun z=>EV (x0,x1,x2,x3) (v0,v1,v2,v3) z
   simp only at eqs;have HX:Hid ((x0,x1,x2,x3)=c.said[m]):=hx;clear hc hg hx zc hr' HSR
   by_cases hh:(x0,x1,x2,x3)=(v0,v1,v2,v3)
   ·have dh:decide ((x0,x1,x2,x3)=(v0,v1,v2,v3))=true:=decide_eq_true hh;have HE:Hid (R=c):=hid (by rw [HR.out,if_pos (by rw [<- hh,HX.out];exact List.getElem_mem hmn)]);rw [dh] at eqs;clear hh dh;go_wp2;clear c6;refine rb ?_;repeat (go_big_quiet_step (fail))
    refine wpQuiet_nil ?_;intro _ hw';obtain ⟨xq,rfl⟩:=hw';go_wp2;refine bodyPost_ret (results_none Tryz.results184 _ _ _) rfl ?_;rw [HE.out];exact ⟨⟨_,rfl⟩,s,(HY.out.more xq.below).inb⟩
   ·have dh:decide ((x0,x1,x2,x3)=(v0,v1,v2,v3))=false:=decide_eq_false hh;have HN:Hid (¬ (v0,v1,v2,v3)∈c.said.take (m+1)):=said_takeC hmn HF.out (by rw [<- HX.out];exact hh);rw [dh] at eqs;clear hh dh;go_wp2;clear c6;refine rb ?_;repeat (go_big_quiet_step (fail))
    refine wpQuiet_nil ?_;intro _ hw';obtain ⟨xq,rfl⟩:=hw';go_wp2
    go_roundw
    case rel=>exact ⟨m+1,by omega,by go_num,HN.out,HY.out.more xq.below⟩
    case measure=>simp [intOf];omega
  ·have hml:m=c.said.length:=by omega
   subst hml;rw [List.take_length] at HF;obtain ⟨c2,hc2⟩:∃ c2:CU,c2={ c with said:=c.said ++ [(v0,v1,v2,v3)] }:=⟨_,rfl⟩;have HE:Hid (R=c2):=hid (by rw [HR.out,if_neg HF.out,hc2]);go_wp2;clear c6 EV GV;have hww:w.heap.size < wr.heap.size:=(gl HY.out.box);refine zT (fun i=>decide (i < 12)) (fun x=>Bx x N (zR c s) 90/\Bx x w.heap.size #[.int .i64 v0,.int .i64 v1,.int .i64 v2,.int .i64 v3] 28) (by kernel_rfl) ?_;show zX Tryz.prog _ _ _ _ _ (12+1) (Array.replicate 13 false) _ _;have hS:Bx wr.drew N (zR c s) 90/\Bx wr.drew w.heap.size #[.int .i64 v0,.int .i64 v1,.int .i64 v2,.int .i64 v3] 28:=⟨HY.out.inb.box,HY.out.box⟩;have K:∀ x,Below wr.heap.size wr x->Bx x N (zR c s) 90/\Bx x w.heap.size #[.int .i64 v0,.int .i64 v1,.int .i64 v2,.int .i64 v3] 28:=fun x hb=>⟨(HY.out.more hb).inb.box,(HY.out.more hb).box⟩
   have RD:∀ x,Below wr.heap.size wr x->yM x s.said 4 xD c.said:=fun x hb=>zW kW (HY.out.more hb).inb.own.said
   have hlen:(c.said.length:Int)<=1048576:=by omega
   refine zD 0 23 (.pointer (some ⟨N,0,none⟩)) hS ?_;refine zD 2 25 (.pointer (some ⟨N,0,none⟩)) hS ?_;refine zD 3 26 (.pointer (some ⟨N,0,none⟩)) hS ?_;refine zD 4 27 (.pointer (some ⟨N,6,none⟩)) hS ?_;refine zD 5 28 s.said hS ?_ (hy:=by intro x hx;have c:=zB hx.1 6 s.said rfl;go_simp;try with_reducible rfl);refine zD 7 30 (.agg #[.int .i64 v0,.int .i64 v1,.int .i64 v2,.int .i64 v3]) hS ?_ (hy:=fun x hx=>zM _ _ rfl w.heap.size rfl _ _ _ _ hx.2 Tryz.underlying28 rfl (by kernel_rfl));have hd0:Below wr.heap.size wr wr.drew:=(br _ _).drew;refine zFC (i:=1) (j:=8) (by kernel_rfl) ?_ ?_
   ·obtain ⟨y1,hy1⟩:∃ y1,y1=wr.drew.alloc (.cells #[] 28):=⟨_,rfl⟩;have hb1:Below wr.heap.size wr y1:=by rw [hy1];exact hd0.alloc hd0.size _
    have oy1:y1.ownsRow wr.heap.size 28 4 (.slice (some ⟨wr.drew.heap.size,0,none⟩) 0 0) ([]:List VT).length (zE xD []):=by rw [hy1];exact zN (yH wr.drew _ _) hd0.size
    refine xU (s:=1) (e':=some 24) rfl rfl rfl (.slice (some ⟨wr.drew.heap.size,0,none⟩) 0 0) y1 ?_ ⟨fun _=>K y1 hb1,?_⟩
    ·rw [hy1];go_simp
     try with_reducible rfl
    simp only [pz];refine zFC (i:=6) (j:=8) (by kernel_rfl) ?_ ?_
    ·refine xS (s:=6) (e':=some 29) rfl rfl rfl (.tmp 24) (.tmp 28) 32 rfl wr.heap.size 28 li _ 32 Tryz.underlying32 lhi lhz0 lhz1 lhz2 rfl (by decide) kW kP (.slice (some ⟨wr.drew.heap.size,0,none⟩) 0 0) [] rfl oy1 _ c.said rfl (RD y1 hb1) (by simp;unfold maxLen;omega) (by simp;omega) hb1.size ?_;intro v69 y2 hoy2 hgy2 haty2;simp only [List.nil_append] at hoy2;have hb2:Below wr.heap.size wr y2:=hb1.grown hgy2 hb1.size (fun k hk=>(oy1.lt k hk).1);refine ⟨fun _=>K y2 hb2,?_⟩;simp only [pz];obtain ⟨y3,hy3⟩:∃ y3,y3=y2.alloc (.cells #[.int .i64 v0,.int .i64 v1,.int .i64 v2,.int .i64 v3] 28):=⟨_,rfl⟩;have hb3:Below wr.heap.size wr y3:=by rw [hy3];exact hb2.alloc hb2.size _
     have by3:Bx y3 y2.heap.size #[.int .i64 v0,.int .i64 v1,.int .i64 v2,.int .i64 v3] 28:=by rw [hy3];exact heap_alloc_new y2 _
     refine kG (i:=8) (by kernel_rfl) ?_;refine xU (s:=8) (e':=some 31) rfl rfl rfl (.slice (some ⟨y2.heap.size,0,none⟩) 1 1) y3 ?_ ⟨fun _=>K y3 hb3,?_⟩
     ·rw [hy3];go_simp
      try with_reducible rfl
     simp only [pz];have ho3:=zS hoy2 (show Below y2.heap.size y2 y3 by rw [hy3];exact (br _ _).alloc (nl _) _);refine qO (s:=9) (e':=some 32) rfl rfl rfl (.tmp 29) (.tmp 31) 32 rfl (by kernel_rfl) wr.heap.size 28 li _ 4 32 Tryz.underlying32 lhi lhz0 lhz1 lhz2 rfl (by decide) v69 _ _ rfl ho3 ⟨y2.heap.size,0,none⟩ 1 1 (xD (v0,v1,v2,v3)) rfl rfl (World.news_of_block by3) (kP _) (by decide) (by unfold maxLen;omega) (by omega) hb3.size _ rfl ?_;intro g2 cap2 z ho2 hg2 hwh hlt2;have hbz:Below wr.heap.size wr z:=hb3.grown hg2 hb3.size (fun k hk=>(ho3.lt k hk).1);refine ⟨fun _=>K z hbz,?_⟩;simp only [pz];refine zD 10 33 (.pointer (some ⟨N,0,none⟩)) (K z hbz) ?_;refine zD 11 34 (.pointer (some ⟨N,6,none⟩)) (K z hbz) ?_;refine kT (s:=12) (N:=N) (o:=6) (u:=.slice (some ⟨g2,0,none⟩) (c.said.length+1) cap2) (old:=zR c s) (new:=zR c2 { s with said:=.slice (some ⟨g2,0,none⟩) (c.said.length+1) cap2 }) rfl rfl rfl rfl (by kernel_rfl) rfl rfl (K z hbz).1 (by kernel_rfl) (by simp [zR]) rfl (by rw [hc2];rfl) ?_;intro z2 hg hk
     have HZ:Hid (InB N lo w z2 c2 { s with said:=.slice (some ⟨g2,0,none⟩) (c.said.length+1) cap2 }):=(by
      have ho3:z.ownsRow wr.heap.size 28 4 (.slice (some ⟨g2,0,none⟩) (c.said.length+1) cap2) (c.said ++ [(v0,v1,v2,v3)]).length (zE xD (c.said ++ [(v0,v1,v2,v3)])):=by rw [List.length_append,zY];simpa [zE] using ho2
      have ho4:=World.ownsRow.kept ho3 hg (zH ho3 (K z hbz).1 (by decide));have hin:=HY.out.inb.more hbz;have hlw:lo<=wr.heap.size:=Nat.le_trans HLO.out HY.out.inb.fr.size;refine ⟨hk,?_,hin.fr.trans (FrS.of_grown hg (fun k e=>by cases e;rfl))⟩;rw [hc2]
      exact ((HY.out.inb.own.below hbz).boxT (K z hbz).1 hg).setSaid (Nat.le_trans hbz.size hg.size) (nl _) (zN ho4 hlw) (fun g e=>⟨(ho3.lt g e).1,Nat.lt_of_lt_of_le (ho3.lt g e).2 hg.size⟩) hlw:InB _ _ _ _ _ _)
     refine ⟨fun h=>absurd h (by decide),?_⟩;refine zK (by kernel_rfl) ?_ _;go_wp2;refine bodyPost_end (results_none Tryz.results184 _ _ _) rfl ?_;rw [HE.out];exact ⟨⟨_,rfl⟩,_,HZ.out⟩
    ·obtain ⟨y2,hy2⟩:∃ y2,y2=y1.alloc (.cells #[.int .i64 v0,.int .i64 v1,.int .i64 v2,.int .i64 v3] 28):=⟨_,rfl⟩;have hb2:Below wr.heap.size wr y2:=by rw [hy2];exact hb1.alloc hb1.size _
     have by2:Bx y2 y1.heap.size #[.int .i64 v0,.int .i64 v1,.int .i64 v2,.int .i64 v3] 28:=by rw [hy2];exact heap_alloc_new y1 _
     refine xU (s:=8) (e':=some 31) rfl rfl rfl (.slice (some ⟨y1.heap.size,0,none⟩) 1 1) y2 ?_ ⟨fun _=>K y2 hb2,?_⟩
     ·rw [hy2];go_simp
      try with_reducible rfl
     simp only [pz];have oy2:=zS oy1 (show Below y1.heap.size y1 y2 by rw [hy2];exact (br _ _).alloc (nl _) _);refine kG (i:=6) (by kernel_rfl) ?_;refine xS (s:=6) (e':=some 29) rfl rfl rfl (.tmp 24) (.tmp 28) 32 rfl wr.heap.size 28 li _ 32 Tryz.underlying32 lhi lhz0 lhz1 lhz2 rfl (by decide) kW kP (.slice (some ⟨wr.drew.heap.size,0,none⟩) 0 0) [] rfl oy2 _ c.said rfl (RD y2 hb2) (by simp;unfold maxLen;omega) (by simp;omega) hb2.size ?_;intro v69 y3 hoy3 hgy3 haty3;simp only [List.nil_append] at hoy3;have hb3:Below wr.heap.size wr y3:=hb2.grown hgy3 hb2.size (fun k hk=>(oy2.lt k hk).1);refine ⟨fun _=>K y3 hb3,?_⟩;simp only [pz];have by3:Bx y3 y1.heap.size #[.int .i64 v0,.int .i64 v1,.int .i64 v2,.int .i64 v3] 28:=(hgy3.block _ (gl by2) (fun e=>by have e:=Option.some.inj e;rw [hy1] at e;simp at e)).trans by2;refine qO (s:=9) (e':=some 32) rfl rfl rfl (.tmp 29) (.tmp 31) 32 rfl (by kernel_rfl) wr.heap.size 28 li _ 4 32 Tryz.underlying32 lhi lhz0 lhz1 lhz2 rfl (by decide) v69 _ _ rfl hoy3 ⟨y1.heap.size,0,none⟩ 1 1 (xD (v0,v1,v2,v3)) rfl rfl (World.news_of_block by3) (kP _) (by decide) (by unfold maxLen;omega) (by omega) hb3.size _ rfl ?_;intro g2 cap2 z ho2 hg2 hwh hlt2;have hbz:Below wr.heap.size wr z:=hb3.grown hg2 hb3.size (fun k hk=>(hoy3.lt k hk).1);refine ⟨fun _=>K z hbz,?_⟩;simp only [pz];refine zD 10 33 (.pointer (some ⟨N,0,none⟩)) (K z hbz) ?_;refine zD 11 34 (.pointer (some ⟨N,6,none⟩)) (K z hbz) ?_;refine kT (s:=12) (N:=N) (o:=6) (u:=.slice (some ⟨g2,0,none⟩) (c.said.length+1) cap2) (old:=zR c s) (new:=zR c2 { s with said:=.slice (some ⟨g2,0,none⟩) (c.said.length+1) cap2 }) rfl rfl rfl rfl (by kernel_rfl) rfl rfl (K z hbz).1 (by kernel_rfl) (by simp [zR]) rfl (by rw [hc2];rfl) ?_;intro z2 hg hk
     have HZ:Hid (InB N lo w z2 c2 { s with said:=.slice (some ⟨g2,0,none⟩) (c.said.length+1) cap2 }):=(by
      have ho3:z.ownsRow wr.heap.size 28 4 (.slice (some ⟨g2,0,none⟩) (c.said.length+1) cap2) (c.said ++ [(v0,v1,v2,v3)]).length (zE xD (c.said ++ [(v0,v1,v2,v3)])):=by rw [List.length_append,zY];simpa [zE] using ho2
      have ho4:=World.ownsRow.kept ho3 hg (zH ho3 (K z hbz).1 (by decide));have hin:=HY.out.inb.more hbz;have hlw:lo<=wr.heap.size:=Nat.le_trans HLO.out HY.out.inb.fr.size;refine ⟨hk,?_,hin.fr.trans (FrS.of_grown hg (fun k e=>by cases e;rfl))⟩;rw [hc2]
      exact ((HY.out.inb.own.below hbz).boxT (K z hbz).1 hg).setSaid (Nat.le_trans hbz.size hg.size) (nl _) (zN ho4 hlw) (fun g e=>⟨(ho3.lt g e).1,Nat.lt_of_lt_of_le (ho3.lt g e).2 hg.size⟩) hlw:InB _ _ _ _ _ _)
     refine ⟨fun h=>absurd h (by decide),?_⟩;refine zK (by kernel_rfl) ?_ _;go_wp2;refine bodyPost_end (results_none Tryz.results184 _ _ _) rfl ?_;rw [HE.out];exact ⟨⟨_,rfl⟩,_,HZ.out⟩
   ·obtain ⟨y1,hy1⟩:∃ y1,y1=wr.drew.alloc (.cells #[.int .i64 v0,.int .i64 v1,.int .i64 v2,.int .i64 v3] 28):=⟨_,rfl⟩;have hb1:Below wr.heap.size wr y1:=by rw [hy1];exact hd0.alloc hd0.size _
    have by1:Bx y1 wr.drew.heap.size #[.int .i64 v0,.int .i64 v1,.int .i64 v2,.int .i64 v3] 28:=by rw [hy1];exact heap_alloc_new wr.drew _
    refine xU (s:=8) (e':=some 31) rfl rfl rfl (.slice (some ⟨wr.drew.heap.size,0,none⟩) 1 1) y1 ?_ ⟨fun _=>K y1 hb1,?_⟩
    ·rw [hy1];go_simp
     try with_reducible rfl
    simp only [pz];obtain ⟨y2,hy2⟩:∃ y2,y2=y1.alloc (.cells #[] 28):=⟨_,rfl⟩;have hb2:Below wr.heap.size wr y2:=by rw [hy2];exact hb1.alloc hb1.size _
    have oy2:y2.ownsRow wr.heap.size 28 4 (.slice (some ⟨y1.heap.size,0,none⟩) 0 0) ([]:List VT).length (zE xD []):=by rw [hy2];exact zN (yH y1 _ _) hb1.size
    refine kG (i:=1) (by kernel_rfl) ?_;refine xU (s:=1) (e':=some 24) rfl rfl rfl (.slice (some ⟨y1.heap.size,0,none⟩) 0 0) y2 ?_ ⟨fun _=>K y2 hb2,?_⟩
    ·rw [hy2];go_simp
     try with_reducible rfl
    simp only [pz];refine kG (i:=6) (by kernel_rfl) ?_;refine xS (s:=6) (e':=some 29) rfl rfl rfl (.tmp 24) (.tmp 28) 32 rfl wr.heap.size 28 li _ 32 Tryz.underlying32 lhi lhz0 lhz1 lhz2 rfl (by decide) kW kP (.slice (some ⟨y1.heap.size,0,none⟩) 0 0) [] rfl oy2 _ c.said rfl (RD y2 hb2) (by simp;unfold maxLen;omega) (by simp;omega) hb2.size ?_;intro v69 y3 hoy3 hgy3 haty3;simp only [List.nil_append] at hoy3;have hb3:Below wr.heap.size wr y3:=hb2.grown hgy3 hb2.size (fun k hk=>(oy2.lt k hk).1);refine ⟨fun _=>K y3 hb3,?_⟩;simp only [pz];have by3:Bx y3 wr.drew.heap.size #[.int .i64 v0,.int .i64 v1,.int .i64 v2,.int .i64 v3] 28:=(hgy3.block _ (Nat.lt_of_lt_of_le (gl by1) (by rw [hy2];simp)) (fun e=>by have e:=Option.some.inj e;rw [hy1] at e;simp at e)).trans (((show Below y1.heap.size y1 y2 by rw [hy2];exact (br _ _).alloc (nl _) _).block _ (gl by1)).trans by1);refine qO (s:=9) (e':=some 32) rfl rfl rfl (.tmp 29) (.tmp 31) 32 rfl (by kernel_rfl) wr.heap.size 28 li _ 4 32 Tryz.underlying32 lhi lhz0 lhz1 lhz2 rfl (by decide) v69 _ _ rfl hoy3 ⟨wr.drew.heap.size,0,none⟩ 1 1 (xD (v0,v1,v2,v3)) rfl rfl (World.news_of_block by3) (kP _) (by decide) (by unfold maxLen;omega) (by omega) hb3.size _ rfl ?_;intro g2 cap2 z ho2 hg2 hwh hlt2;have hbz:Below wr.heap.size wr z:=hb3.grown hg2 hb3.size (fun k hk=>(hoy3.lt k hk).1);refine ⟨fun _=>K z hbz,?_⟩;simp only [pz];refine zD 10 33 (.pointer (some ⟨N,0,none⟩)) (K z hbz) ?_;refine zD 11 34 (.pointer (some ⟨N,6,none⟩)) (K z hbz) ?_;refine kT (s:=12) (N:=N) (o:=6) (u:=.slice (some ⟨g2,0,none⟩) (c.said.length+1) cap2) (old:=zR c s) (new:=zR c2 { s with said:=.slice (some ⟨g2,0,none⟩) (c.said.length+1) cap2 }) rfl rfl rfl rfl (by kernel_rfl) rfl rfl (K z hbz).1 (by kernel_rfl) (by simp [zR]) rfl (by rw [hc2];rfl) ?_;intro z2 hg hk
    have HZ:Hid (InB N lo w z2 c2 { s with said:=.slice (some ⟨g2,0,none⟩) (c.said.length+1) cap2 }):=(by
     have ho3:z.ownsRow wr.heap.size 28 4 (.slice (some ⟨g2,0,none⟩) (c.said.length+1) cap2) (c.said ++ [(v0,v1,v2,v3)]).length (zE xD (c.said ++ [(v0,v1,v2,v3)])):=by rw [List.length_append,zY];simpa [zE] using ho2
     have ho4:=World.ownsRow.kept ho3 hg (zH ho3 (K z hbz).1 (by decide));have hin:=HY.out.inb.more hbz;have hlw:lo<=wr.heap.size:=Nat.le_trans HLO.out HY.out.inb.fr.size;refine ⟨hk,?_,hin.fr.trans (FrS.of_grown hg (fun k e=>by cases e;rfl))⟩;rw [hc2]
     exact ((HY.out.inb.own.below hbz).boxT (K z hbz).1 hg).setSaid (Nat.le_trans hbz.size hg.size) (nl _) (zN ho4 hlw) (fun g e=>⟨(ho3.lt g e).1,Nat.lt_of_lt_of_le (ho3.lt g e).2 hg.size⟩) hlw:InB _ _ _ _ _ _)
    refine ⟨fun h=>absurd h (by decide),?_⟩;refine zK (by kernel_rfl) ?_ _;go_wp2;refine bodyPost_end (results_none Tryz.results184 _ _ _) rfl ?_;rw [HE.out];exact ⟨⟨_,rfl⟩,_,HZ.out⟩
end Go.Proofs.YtdopefimjabigadGreat
