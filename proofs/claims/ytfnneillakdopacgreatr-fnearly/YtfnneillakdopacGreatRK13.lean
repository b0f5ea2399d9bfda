/-
  Texts of ours that later ones lean on, in one: ThrI, UndoI, BackI, EarI, SameI, SameP, CodeOf.
-/
import Derived.Test.YtfnneillakdopacGreatRK1
import Derived.Test.YtfnneillakdopacGreatRK12
import Derived.Test.YtfnneillakdopacGreatRThrSZ
import Derived.Test.YtfnneillakdopacGreatRK4
import Derived.Test.YtfnneillakdopacGreatRK11
import Derived.Deep.RegionHeld3
import Derived.Test.YtfnneillakdopacGreatRK5
import Derived.Test.YtfnneillakdopacGreatREarSZ
import Derived.BigQuiet
import Derived.Laws.StructEq
import Derived.Test.YtfnneillakdopacGreatRK10
import Derived.ProofKit
import Derived.OpenShut
import Derived.ChangeOld
set_option maxRecDepth 100000
set_option maxHeartbeats 32000000
namespace Go.Proofs.YtfnneillakdopacGreatR
open _root_.Go.Proofs.Tryz
open Go.Value renaming int->I,string->Ak
open Go.IntKind renaming i64->U
open Option renaming none->Aa,some->Ab
open Nat renaming le_trans->Ac,lt_of_lt_of_le->Ad,zero_le->Ae
open Option.some renaming inj->Af
open List renaming getElem_mem->Ag,take_length->Al
open Go.World.ownsRow renaming kept->Ah,alloc->Ai
open _root_.ByteArray renaming empty->Aj
open Go.RowKit Num
theorem Bx2.grow {w y x:World} {base n m:Nat} {A Z:Array Value} {e:TypeId} {v:Value} {xs:List Value} (h:Bx2 w y A Z) (ho:y.ownsRow base e m v n xs) (hne:e ≠ 35) (hb:w.heap.size<=base) (hg:y.grownBy x v.ownBlock):Bx2 w x A Z:=by
 have:=h.lt;exact ⟨h.below.grown hg h.below.size (fun k hk=>Ac hb (ho.lt k hk).1),(hg.block _ (by omega) (ne_own (zH ho h.box hne))).trans h.box,(hg.block _ (by omega) (ne_own (zH ho h.zero hne))).trans h.zero⟩
theorem throughR_i (ps:TL) (v:Value) (p:PE) (s:PV) (k:Int) (w:World) (hT:jB w v ps) (hk:okT (bks ps)) (hR:jS w p s) (hs:yC p) :
  Calls prog 15 #[v,yZ p s,I U k] w fun e w'=>∃ s',e=.returned (yZ (kO (bks ps) p k) s')/\zO w.heap.size w'.heap.size w' (kO (bks ps) p k) s'/\Be w w':=by
 have HT:=hid hT;have HK:=hid hk;have HR:=hid hR;have HS:=hid hs;have bc:(ps.length:Int)<=1048576:=by have:=hk.1;rw [yO] at this;exact this
 have b6:=hs.row;have bn:Hid ((bks ps).length=ps.length):=yO ps;obtain ⟨ii,bq,bl,bd,bo⟩:=info_parts infoIntL;obtain ⟨cb,b2,rfl,-⟩:=HT.1;clear hT hk hR hs;obtain ⟨W,hW⟩:=nw ((w.alloc (.cells (zA p s) 35)).alloc (.cells zF 35));have HW:Hid (Bx2 w W (zA p s) zF):=hid (by rw [hW];exact two_boxes w _ _);have ay:=zB HW.box 14 s.row rfl;unfold zF at hW;go_enter func15,ntmps15;go_wp2_with (rw [<- hW];clear hW)
 refine (lastOf_i p.row s.row W (HR.below HW.below).row b6).mono ?_;rintro e W' ⟨rfl,hw⟩;obtain rfl:=hw.symm;clear hw ay;obtain ⟨u,hu⟩:=nw (qS p.row);have HU:Hid (qS p.row=u):=hu.symm;rw [<- hu];clear hu;go_wp2_with fail
 refine (extends_i ps _ k u W (HT.below HW.below) bc).mono ?_;rintro e x0 ⟨rfl,hb⟩;have d:Hid (Bx2 w x0 (zA p s) zF):=HW.more hb;clear hb HW
 by_cases hx:yBI (bks ps) k u=true
 ·have HE:Hid (kO (bks ps) p k=jW (bks ps) (jC p) (kB (bks ps) k u)):=(by unfold kO;rw [HU.out,if_pos hx]:kO (bks ps) p k=_);rw [hx];clear hx;go_wp2_with (refine w_ld w.heap.size d.box underlying35 ?_)
  refine (withoutEarly_i p s x0 (HR.below d.below) HS).mono ?_;rintro e x1 ⟨s3,rfl,ho,hb⟩;have n:Hid (zO w.heap.size x1.heap.size x1 (jC p) s3):=ho.low d.below.size;have f:Hid (Bx2 w x1 (zA p s) zF):=d.more hb;clear ho hb d;obtain ⟨q,hq⟩:=nw (jC p);have a6:Hid (q.row=p.row/\okL q.cells):=hid (by rw [hq];exact ⟨rfl,okL_back HS⟩);rw [<- hq] at HE n;rw [<- hq];clear hq;go_wp2_with (refine w_st w.heap.size (zA q s3) f.box (zJ n.1) ?_;intro x4 hg hk hz;have t:Hid (Bx2 w x4 (zA q s3) zF):=f.put hg hk;have ae:Hid (zO w.heap.size x4.heap.size x4 q s3):=(n.boxed f.box hg).wide hg.size (nl _);clear hg hk hz f n)
  refine (rowAfter_i ps _ k u x4 (HT.below t.below) bc).mono ?_;rintro e x5 ⟨v5,rfl,ho,hb⟩;obtain ⟨L,hL⟩:=nw (kB (bks ps) k u);have bz:Hid (∀ x∈L,∃ j:Nat,x=(j:Int)/\j < ps.length):=hid (by rw [hL];intro x hx;have:=after_mem hx;rw [bn.out] at this;exact this);have cc:(L.length:Int)<=1048576:=by have:=zDA (bks ps) k u;rw [<- hL,bn.out] at this;omega
  rw [<- hL] at HE ho;have ab:Hid (x5.ownsRow x4.heap.size 3 1 v5 L.length (zE xJ L)):=ho;have am:Hid (Bx2 w x5 (zA q s3) zF):=t.more hb;have ac:Hid (zO w.heap.size x4.heap.size x5 q s3):=ae.below hb;have b5:Hid (x4.heap.size<=x5.heap.size):=hb.size;obtain ⟨a5,c5,rfl,al⟩:=zW jG ho;clear al;clear hL ho hb t ae;go_wp2
  go_loopw [27] (fun i wr=>∃ (m:Nat) (tm:PV),m<=L.length/\i=I U (m:Int)/\Hid (Bx2 w wr (zA (jW (bks ps) q (L.take m)) tm) zF)/\Hid (zO w.heap.size wr.heap.size wr (jW (bks ps) q (L.take m)) tm)/\Hid (wr.ownsRow x4.heap.size 3 1 (.slice a5 L.length c5) L.length (zE xJ L))/\Hid (apart tm.row (.slice a5 L.length c5))/\Hid (x5.heap.size<=wr.heap.size)) (fun i _=>L.length - (intOf i).toNat)
  case atStart=>exact ⟨0,s3,Ae _,rfl,am,thr_own _ _ (ac.wide b5 (nl _)),ab,yQ ac.2.1.l0 (fun g e=>⟨(ab.lt g e).1,(ab.lt g e).2⟩) (Or.inl (nl _)),nl _⟩
  case round=>
   obtain ⟨m,tm,hm,rfl,a,l,a1,aq,bh⟩:=hrel
   by_cases hlt:(m:Int) < L.length
   ·have aw:m < L.length:=by omega
    obtain ⟨j,hj,ag⟩:=bz L[m] (Ag aw);have HJ:Hid (L[m]=(j:Int)):=hj;have q0:(0:Int)<=(m:Int):=by omega
    have j0:(0:Int)<=(j:Int):=by omega
    have j1:(j:Int) < ps.length:=by omega
    obtain ⟨ca,b9,e5,al⟩:=zW jG a1;injection e5 with b8 _ b4
    subst b8 b4;obtain ⟨g5,o5,rfl,a4,be⟩:=al (by omega);have hc:wr.cell? ⟨g5,o5+m,Aa⟩=Ab (I U (j:Int)):=by have:=be m aw 0 (by omega);rw [HJ.out] at this;simpa [xJ] using this
    have b3:Hid (g5 < wr.heap.size):=a4;clear be a4 al hj;have ao:Hid ((jW (bks ps) q (L.take m)).row.length=p.row.length+m):=hid (by unfold jW;simp [a6.out.1];omega);have r:Hid (Be wr (wr.alloc (.cells #[I U (j:Int)] 3))):=(Below.refl wr.heap.size wr).alloc (nl _) _;have ay:=zB a.box 14 tm.row rfl;obtain ⟨q1,ai⟩:∃ q1:PE,q1={ (jW (bks ps) q (L.take m)) with row:=(jW (bks ps) q (L.take m)).row ++ [(j:Int)] }:=⟨_,rfl⟩;have bp:Hid ({ q1 with cells:=yD q1.cells ps[j].1.2.1 }=jW (bks ps) q (L.take (m+1))/\okL q1.cells):=(by rw [ai];exact ⟨thr_step aw HJ ag,rowC_ok HK _ _ a6.2⟩:_/\okL q1.cells)
    go_wp2_with (first
     | (at_builtin;refine wpList_append_lies _ rfl (.tmp 32) (.tmp 34) 29 rfl w.heap.size 3 ii _ 1 8 underlying29 bq bl bd bo rfl (by decide) tm.row _ _ rfl (l.below r).1.row ⟨wr.heap.size,0,Aa⟩ 1 1 [I U (j:Int)] rfl rfl (World.news_of_block (heap_alloc_new wr _)) (by intro x hx;simp at hx;subst hx;rfl) (by decide) (by rw [ao.out];unfold maxLen;omega) (by rw [ao.out];omega) (by have:=a.lt;simp;omega) _ rfl ?_;intro g2 b y2 a9 af ax an;have ad:Hid (Bx2 w y2 (zA (jW (bks ps) q (L.take m)) tm) zF):=(a.more r).grow (l.below r).1.row (by decide) (nl _) af;have au:Hid (y2.ownsRow x4.heap.size 3 1 (.slice (Ab ⟨g5,o5,Aa⟩) L.length c5) L.length (zE xJ L)):=Ah (zS a1 r) af aq.symm.ne;have a7:Hid (zO w.heap.size y2.heap.size y2 q1 { tm with row:=.slice (Ab ⟨g2,0,Aa⟩) ((jW (bks ps) q (L.take m)).row.length+1) b }):=(by rw [ai];exact (l.below r).addRow af a9 (ax.imp id (fun e=>by rw [e];simp)) an:zO _ _ y2 q1 _);have bm:Hid (apart (.slice (Ab ⟨g2,0,Aa⟩) ((jW (bks ps) q (L.take m)).row.length+1) b) (.slice (Ab ⟨g5,o5,Aa⟩) L.length c5)):=(by intro g e e2;cases e;exact ax.elim (fun h=>aq _ h e2) (fun h=>by have e2:=Af e2;have:=b3.out;simp at e2 h;omega):apart _ _);have bj:Hid (wr.heap.size<=y2.heap.size):=Ac r.size af.size;clear a9 af ax an ay hc)
     | (refine w_sc w.heap.size 14 (.slice (Ab ⟨g2,0,Aa⟩) ((jW (bks ps) q (L.take m)).row.length+1) b) ad.box (by simp [zA]) rfl (zA q1 { tm with row:=.slice (Ab ⟨g2,0,Aa⟩) ((jW (bks ps) q (L.take m)).row.length+1) b }) (by rw [ai];rfl) ?_;intro y3 hg hk;have o:Hid (Bx2 w y3 (zA q1 { tm with row:=.slice (Ab ⟨g2,0,Aa⟩) ((jW (bks ps) q (L.take m)).row.length+1) b }) zF):=ad.put hg hk;have ak:Hid (zO w.heap.size y3.heap.size y3 q1 { tm with row:=.slice (Ab ⟨g2,0,Aa⟩) ((jW (bks ps) q (L.take m)).row.length+1) b }):=(a7.boxed ad.box hg).wide hg.size (nl _);have bb:Hid (y3.ownsRow x4.heap.size 3 1 (.slice (Ab ⟨g5,o5,Aa⟩) L.length c5) L.length (zE xJ L)):=Ah au hg (zH au ad.box (by decide));have bu:Hid (x5.heap.size<=y3.heap.size):=Ac bh (Ac bj hg.size);clear hg hk ad a7 au bj))
    obtain ⟨t1,az⟩:∃ t1:PV,t1={ tm with row:=.slice (Ab ⟨g2,0,Aa⟩) ((jW (bks ps) q (L.take m)).row.length+1) b }:=⟨_,rfl⟩;have b1:Hid (apart t1.row (.slice (Ab ⟨g5,o5,Aa⟩) L.length c5)):=(by rw [az];exact bm.out:apart t1.row _);rw [<- az] at o ak;clear ai az bm ao a l a1 aq bh r;obtain ⟨ce,cd,et,a8⟩:=(HT.below o.below).1;injection et with b7 _ bx
    subst b7 bx;obtain ⟨gt,ot,rfl,bi,bk⟩:=a8 (by omega);obtain ⟨cv,av⟩:=nw (ps[j].2);have ah:Hid (yM y3 cv 3 kL ps[j].1.2.1/\okB ps[j].1):=hid (by rw [av];exact ⟨(HT.below o.below).2 ps[j] (Ag ag),okT_at HK ag⟩);have aj:Hid (gt < y3.heap.size/\y3.cell? ⟨gt,ot+j * 7+2,Aa⟩=some cv):=⟨bi,by rw [av];exact bk j ag 2 (by omega)⟩;clear bi bk av a8;refine p_rg (fun i=>decide (i < 8)) (fun x=>Bx x w.heap.size (zA q1 t1) 35/\x.cell? ⟨gt,ot+j * 7+2,Aa⟩=some cv) ?_;show zX prog _ _ _ _ _ (12+1) (Array.replicate 13 false) _ _;have hS:Bx y3.drew w.heap.size (zA q1 t1) 35/\y3.drew.cell? ⟨gt,ot+j * 7+2,Aa⟩=some cv:=⟨o.box,aj.2⟩;refine p_pt 0 38 w.heap.size 15 hS ?_;refine zD 1 39 t1.cells hS ?_ (hy:=by intro x hx;have c:=zB hx.1 15 t1.cells rfl;go_simp;try rfl);refine zD 2 40 (.slice (Ab ⟨gt,ot,Aa⟩) ps.length b2) hS ?_;refine zD 3 41 (I U (j:Int)) hS ?_;refine p_pt 4 42 gt (ot+j * 7) hS ?_;refine p_pt 5 43 gt (ot+j * 7+2) hS ?_;refine zD 6 44 cv hS ?_ (hy:=by intro x hx;have c:=hx.2;go_simp;try rfl);refine kJ 7 45 55 #[t1.cells,cv] ((doneAll_i q1.cells ps[j].1.2.1 t1.cells cv y3.drew (ak.reads.cells.below (br _ _).drew) (ah.1.below (br _ _).drew) bp.2 ah.2.1 ah.2.2).mono ?_);rintro e y4 ⟨w1,w2,rfl,ho,-,-,bg⟩;have hb:=(bw y3).trans bg;have y:Hid (y4.ownsRow y3.heap.size 92 2 w1 (yD q1.cells ps[j].1.2.1).length (kM (yD q1.cells ps[j].1.2.1))):=ho;have t:Hid (Bx2 w y4 (zA q1 t1) zF):=o.more hb;have ae:Hid (zO w.heap.size y3.heap.size y4 q1 t1):=ak.below hb;have a3:Hid (y4.ownsRow x4.heap.size 3 1 (.slice (Ab ⟨g5,o5,Aa⟩) L.length c5) L.length (zE xJ L)):=zS bb hb;have ap:=hid (qad2 o.out.below.size hb.size);have aa:Bx y4 w.heap.size (zA q1 t1) 35/\y4.cell? ⟨gt,ot+j * 7+2,Aa⟩=some cv:=⟨t.box,by rw [hb.cell (by exact aj.out.1)];exact aj.out.2⟩;clear ho hb bg hS o ak bb aj ah;refine ⟨_,rfl,fun _=>aa,?_⟩;simp only [pz];refine p_pu 8 37 (.tuple #[w1,w2]) ?_ ?_
    ·intro x hx;go_simp
     try rfl
    simp only [pz];refine p_pu 9 46 w1 ?_ ?_
    ·intro x hx;go_simp
     try rfl
    simp only [pz];refine p_pu 10 47 w2 ?_ ?_
    ·intro x hx;go_simp
     try rfl
    simp only [pz];refine p_pu 11 48 (.pointer (Ab ⟨w.heap.size,15,Aa⟩)) ?_ ?_
    ·intro x hx;go_simp
     try rfl
    simp only [pz];refine p_ce 12 w.heap.size 15 w1 (zA q1 t1) (zA { q1 with cells:=yD q1.cells ps[j].1.2.1 } { t1 with cells:=w1 }) aa.1 (by simp [zA]) (zDH y) rfl ?_;intro y5 hg hk;have am:Hid (Bx2 w y5 (zA { q1 with cells:=yD q1.cells ps[j].1.2.1 } { t1 with cells:=w1 }) zF):=t.put hg hk;have ac:Hid (zO w.heap.size y5.heap.size y5 { q1 with cells:=yD q1.cells ps[j].1.2.1 } { t1 with cells:=w1 }):=(ae.boxed aa.1 hg).setCells (Ac ap.2 hg.size) (nl _) (zN (Ah y hg (zH y aa.1 (by decide))) ap.1) (fun g e=>Ad (y.lt g e).2 hg.size) (fun g e=>Or.inr (y.lt g e).1);have ab:Hid (y5.ownsRow x4.heap.size 3 1 (.slice (Ab ⟨g5,o5,Aa⟩) L.length c5) L.length (zE xJ L)):=Ah a3 hg (zH a3 aa.1 (by decide));have b0:Hid (x5.heap.size<=y5.heap.size):=Ac bu (Ac ap.2 hg.size);rw [bp.out.1] at am ac;clear hg hk aa t ae a3 y;refine ⟨fun h=>absurd h (by decide),?_⟩;refine p_do ?_;go_wp2
    go_roundw
    case rel=>exact ⟨m+1,{ t1 with cells:=w1 },by omega,by go_num,am,ac,ab,b1,b0⟩
    case measure=>simp [intOf];omega
   ·have bv:m=L.length:=by omega
    subst bv;rw [Al] at a l;obtain ⟨QQ,bf⟩:=nw (jW (bks ps) q L);rw [<- bf] at a l HE;clear bf
    go_wp2_with (first
     | (refine w_ld w.heap.size a.box underlying35 ?_)
     | (refine w_st (w.heap.size+1) (zA QQ tm) a.zero (zJ l.1) ?_;intro z hg hk hz;have ar:Hid (Be w z):=a.below.grown hg a.below.size (qkk (by omega));have a0:Hid (Bx z (w.heap.size+1) (zA QQ tm) 35):=hk;have a2:Hid (zO w.heap.size z.heap.size z QQ tm):=(l.boxed a.zero hg).wide hg.size (nl _);clear hg hk hz l a))
    refine b_cr (.agg (zA QQ tm)) results15 a0 underlying35 ?_;rw [HE.out];exact ⟨_,rfl,a2,ar⟩
 ·have hx:yBI (bks ps) k u=false:=by simpa using hx
  have HE:Hid (kO (bks ps) p k=p):=hid (by unfold kO;rw [HU.out,if_neg (by rw [hx];decide)]);rw [hx];clear hx;go_wp2_with (refine w_ld w.heap.size d.box underlying35 ?_)
  refine (copyPeer_i p s x0 (HR.below d.below) HS).mono ?_;rintro e x1 ⟨s1,rfl,ho,hb⟩;have n:Hid (zO w.heap.size x1.heap.size x1 p s1):=ho.low d.below.size;have f:Hid (Bx2 w x1 (zA p s) zF):=d.more hb;clear ho hb d;go_wp2_with (refine w_st (w.heap.size+1) (zA p s1) f.zero (zJ n.1) ?_;intro z hg hk hz;have ar:Hid (Be w z):=f.below.grown hg f.below.size (qkk (by omega));have a0:Hid (Bx z (w.heap.size+1) (zA p s1) 35):=hk;have a2:Hid (zO w.heap.size z.heap.size z p s1):=(n.boxed f.zero hg).wide hg.size (nl _);clear hg hk hz n f)
  refine b_cr (.agg (zA p s1)) results15 a0 underlying35 ?_;rw [HE.out];exact ⟨_,rfl,a2,ar⟩
open Go.Maps
theorem undo_next {w w':World} {n:Nat} {t:TypeId} {u0 u1 u2:Value} (h:w.heap[n]?=Ab (.cells #[u0,u1,u2] t (0,0))) (hb:Be w w'):w'.heap[n]?=Ab (.cells #[u0,u1,u2] t (0,0)):=
 (hb.block n (gl h)).trans h
theorem undoOf_i (cs:CL) (v:Value) (key:ByteArray) (w:World) (hv:qQ w v cs) (hl:(cs.length:Int)<=1048576) (hk:(key.size:Int)<=1048576) :
  Calls prog 92 #[v,.string key] w fun e w'=>e=.returned (undoV (yDB cs key))/\Be w w':=by
 have HV:=hid hv;obtain ⟨a,cap,rfl,hr⟩:=hv;have HR:=hid hr;have n:key.size<=281474976710656:=by omega
 clear hr;go_enter func92,ntmps92;go_wp2_with fail
 have B1:Be w (w.alloc (.cells #[.string Aj,.bool false,I U 0] 95)):=ba (br _ _) _;refine (cellAt_i cs _ key _ (HV.below B1) hl).mono ?_;rintro e w2 ⟨rfl,s⟩;have o:Hid (Bx w2 w.heap.size #[.string Aj,.bool false,I U 0] 95):=undo_block s;have l:Hid (Be w w2):=bt B1 s;have u:w.heap.size < w2.heap.size:=(gl o);clear B1 s
 cases hh:zBB cs key with
 | false=>
  have m:cellAt cs key=-1:=cellAt_no hh;have HE:Hid (yDB cs key=(key,false,0)):=undo_no hh;rw [m];go_wp2_with fail
  refine (clone key _ n).mono ?_;rintro e w3 ⟨rfl,f⟩;obtain ⟨⟨x0,f0⟩,⟨x1,f1⟩,⟨x2,f2⟩,b,c⟩:=blk_three (undo_next o f) (.string key) (.bool false) (I U 0);have y0:=cell_of_row _ w.heap.size 0 _ _ (0,0) b;have y1:=cell_of_row _ w.heap.size 1 _ _ (0,0) b;have y2:=cell_of_row _ w.heap.size 2 _ _ (0,0) b;have r:Hid (World.grownBy _ _ (some w.heap.size)):=c;have h:Hid (Be w w3):=bt l f;clear b c f;go_wp2;refine bodyPost_ret (v:=.agg #[.string key,.bool false,I U 0]) (by simp [results,results92,go_sem,y0,y1,y2]) rfl ?_;refine ⟨?_,?_⟩
  ·rw [HE.out];rfl
  ·exact h.out.grown r h.size fun k hk=>by cases hk;exact nl _
 | true=>
  obtain ⟨j,hj,m,hu⟩:=undo_at hh;have HE:Hid (yDB cs key=(key,true,cs[j].2)):=hu;rw [m];clear hu m;obtain ⟨g,p,rfl,hg,hc⟩:=HR (by omega);have q0:(0:Int)<=(j:Int):=by omega
  have q1:(j:Int) < cs.length:=by omega
  have HS:Hid (∀ w',Be w2 w'->w'.cell? ⟨g,p+j * 2+1,Aa⟩=Ab (I U cs[j].2)):=fun w' hb=>by rw [(bt l hb).cell (by exact hg)];exact (hc j hj).2
  clear hc;go_wp2
  go_region_held3 (fun w'=>w'.cell? ⟨g,p+j * 2+1,Aa⟩=Ab (I U cs[j].2)) (first | exact HS _ (br _ _).drew | exact HS _ d | exact t) (first | (go_at_call 125;refine (clone _ _ n).mono ?_;rintro e w3 ⟨rfl,f⟩;have d:Be w2 w3:=(br _ _).drew.trans f;obtain ⟨⟨x0,f0⟩,⟨x1,f1⟩,⟨x2,f2⟩,b,c⟩:=blk_three (undo_next o d) (.string key) (.bool true) (I U cs[j].2);have t:=(yAD (i:=p+j * 2+1) c (Ad hg (bt l d).size) (fun e=>Nat.lt_irrefl _ ((Af e) ▸ hg))).trans (HS _ d)))
  all_goals
   have y0:=cell_of_row _ w.heap.size 0 _ _ (0,0) b;have y1:=cell_of_row _ w.heap.size 1 _ _ (0,0) b;have y2:=cell_of_row _ w.heap.size 2 _ _ (0,0) b;have r:Hid (World.grownBy _ _ (some w.heap.size)):=c;have h:Hid (Be w w3):=bt l d;clear b c f t x0 f0 x1 f1 x2 f2 d;go_wp2;refine bodyPost_ret (v:=.agg #[.string key,.bool true,I U cs[j].2]) (by simp [results,results92,go_sem,y0,y1,y2]) rfl ?_;refine ⟨?_,?_⟩
   ·rw [HE.out];rfl
   ·exact h.out.grown r h.size fun k hk=>by cases hk;exact nl _
theorem mapUndo_i (cs:CL) (b:Nat) (key:ByteArray) (w:World) (hm:MapIs w b cs) (hk:(key.size:Int)<=1048576) :
  Calls prog 94 #[.map (some b),.string key] w fun e w'=>e=.returned (undoV (yDB cs key))/\Be w w':=by
 have l:key.size<=281474976710656:=by omega
 have B1:Be w (w.alloc (.cells #[.string Aj,.bool false,I U 0] 95)):=ba (br _ _) _;have p:=hm.below B1;obtain ⟨D,hD,a⟩:=p;have HD:=hid hD;have HK:Hid (keyOf prog 9 (.string key)=Ab (lk key)):=keyS hk;have x:Hid (Be w (w.alloc (.cells #[.string Aj,.bool false,I U 0] 95))):=B1;have o:Hid ((w.alloc (.cells #[.string Aj,.bool false,I U 0] 95)).heap[w.heap.size]?=Ab (.cells #[.string Aj,.bool false,I U 0] 95 (0,0))):=heap_alloc_new w _;have g:Maps.has D (lk key)=zBB cs key:=a.2.1 key
 obtain ⟨n0,HC,HE⟩:∃ n0:Int,Hid (D.atKey (lk key) (i64D 0)=i64D n0)/\Hid (yDB cs key=(key,zBB cs key,n0)):=by
  cases hh:zBB cs key with
  | false=>exact ⟨0,atKey_of_not_has (by rw [g,hh]) _,undo_no hh⟩
  | true=>
   obtain ⟨d,n,u,hu⟩:=undo_find hh;exact ⟨d.2,(by have:=a.2.2 d n;rw [u] at this;exact this),hu⟩
 clear hD a hm B1;go_enter func94,ntmps94;go_wp2_with (at_lookup;refine wpList_lookup_own_ok_int _ rfl _ _ 142 rfl 9 3 U keyedS mapT underlying3 (zeroI _) b _ _ rfl HD _ _ rfl HK ?_;intro c j r;have e:c=n0:=(by have:=j.symm.trans HC;unfold i64D at this;injection this with t;injection t);subst e;clear j r)
 refine (clone key _ l).mono ?_;rintro e w3 ⟨rfl,h⟩;obtain ⟨⟨x0,f0⟩,⟨x1,f1⟩,⟨x2,f2⟩,f,i⟩:=blk_three (undo_next o h) (.string key) (.bool (zBB cs key)) (I U c);have y0:=cell_of_row _ w.heap.size 0 _ _ (0,0) f;have y1:=cell_of_row _ w.heap.size 1 _ _ (0,0) f;have y2:=cell_of_row _ w.heap.size 2 _ _ (0,0) f;have s:Hid (World.grownBy _ _ (some w.heap.size)):=i;have m:Hid (Be w w3):=bt x h;clear f i h g;go_wp2;refine bodyPost_ret (v:=.agg #[.string key,.bool (zBB cs key),I U c]) (by simp [results,results94,go_sem,y0,y1,y2]) rfl ?_;refine ⟨?_,?_⟩
 ·rw [HE.out];rfl
 ·exact m.out.grown s m.size fun k hk=>by cases hk;exact nl _
theorem doneBack_i (cs:CL) (l:List CM) (v u:Value) (w:World) (hv:qQ w v cs) (hu:yM w u 3 kL l) (hok:okL cs) (hl:(l.length:Int)<=1048576) (hall:∀ c∈l,(c.2.1.size:Int)<=1048576) :
  Calls prog 53 #[v,u] w fun e w'=>∃ v1 v2,e=.returned (.tuple #[v1,v2])/\w'.ownsRow w.heap.size 92 2 v1 (yD cs l).length (kM (yD cs l))/\w'.ownsRow w.heap.size 95 3 v2 (jQ cs l).length (zE kK (jQ cs l))/\(v1.ownBlock=none∨v1.ownBlock ≠ v2.ownBlock)/\Be w w':=by
 have HV:=hid hv;have HL:=hid hok;have HA:=hid hall;have h1:=hok.1;obtain ⟨a,cap,rfl,_⟩:=hv;obtain ⟨b,bm,rfl,hr⟩:=hu;have HR:=hid hr;obtain ⟨i0,hi,am,an,ao⟩:=info_parts infoUndo;clear hall hr hok;go_enter func53,ntmps53;go_wp2_with (at_make;refine wpList_make_own _ rfl _ _ 31 rfl w.heap.size 95 i0 _ 3 underlying31 hi am an _ _ _ l.length rfl rfl rfl (by rw [ao];omega) (by unfold maxLen;omega) (nl _) ?_;intro w0 ac z)
 have B0:Be w w0:=(br _ _).grown z (nl _) (fun k h=>by cases h);have az:Hid (w0.ownsRow w.heap.size 95 3 (.slice (Ab ⟨w.heap.size,0,Aa⟩) 0 l.length) 0 []):=ac;have ak:Hid (Be w w0):=B0;clear ac z B0;refine (cellsOk_i cs _ w0 (HV.below ak) HL.1 HL.2).mono ?_;rintro e w1 ⟨rfl,aq⟩;have av:Hid (w1.ownsRow w.heap.size 95 3 (.slice (Ab ⟨w.heap.size,0,Aa⟩) 0 l.length) 0 []):=zS az aq;have ag:Hid (Be w w1):=bt ak aq;clear aq az ak
 cases ab:kS cs with
 | false=>
  have bg:Hid (yD cs l=cs):=(doneAll_bad ab l).1;have bf:Hid (jQ cs l=l.map fun c=>yDB cs c.2.1):=undos_bad ab l;clear ab;go_wp2
  go_loopw [6,20] (fun q i wr=>∃ k:Nat,k<=l.length/\i=I U (k:Int)/\wr.ownsRow w.heap.size 95 3 q k (zE kK ((l.take k).map fun c=>yDB cs c.2.1))/\Be w wr) (fun _ i _=>l.length - (intOf i).toNat)
  case atStart=>exact ⟨0,Ae _,rfl,av,ag⟩
  case round=>
   obtain ⟨k,hk,rfl,p,n⟩:=hrel;have HO:Hid (wr.ownsRow w.heap.size 95 3 u6 k (zE kK ((l.take k).map fun c=>yDB cs c.2.1))):=p;have HB:Hid (Be w wr):=n;have a9:=n.size;clear p n
   by_cases hlt:(k:Int) < l.length
   ·have j:k < l.length:=by omega
    have q0:(0:Int)<=(k:Int):=by omega
    obtain ⟨g,s,rfl,hg,hc⟩:=HR (by omega);have c0:wr.cell? ⟨g,s+k * 3,Aa⟩=Ab (I U l[k].1):=by rw [HB.out.cell (by exact hg)];exact hc k j 0 (by omega)
    have c1:wr.cell? ⟨g,s+k * 3+1,Aa⟩=Ab (.string l[k].2.1):=by rw [HB.out.cell (by exact hg)];exact hc k j 1 (by omega)
    have c2:wr.cell? ⟨g,s+k * 3+2,Aa⟩=Ab (I U l[k].2.2):=by rw [HB.out.cell (by exact hg)];exact hc k j 2 (by omega)
    have HS:Hid (l.take (k+1)=l.take k ++ [l[k]]):=take_snoc j;clear hc;go_wp2_with fail
    have BA:Be wr (wr.alloc (Obj.cells #[I U l[k].1,Ak l[k].2.1,I U l[k].2.2] 139)):=ba (br _ _) _;refine (undoOf_i cs _ l[k].2.1 _ (HV.below (bt HB BA)) h1 (HA _ (Ag j))).mono ?_;rintro e w2 ⟨rfl,r⟩;unfold undoV;have a3:Hid (w2.ownsRow w.heap.size 95 3 u6 k (zE kK ((l.take k).map fun c=>yDB cs c.2.1))):=zS HO (bt BA r);have aj:Hid (Be w w2):=bt HB (bt BA r);have bl:=(bt BA r).size;clear r c0 c1 c2 BA HO;obtain ⟨uu,t⟩:=nw (yDB cs l[k].2.1);rw [<- t];have al:Hid (uu=yDB cs l[k].2.1):=t;clear t;go_wp2_with (at_builtin;refine wpList_append_own _ rfl _ _ 31 rfl w.heap.size 95 i0 _ 3 32 underlying31 hi am an ao rfl (by decide) _ _ _ rfl (Ai a3 _) ⟨World.heap _ |>.size,0,Aa⟩ 1 1 (kK uu) rfl rfl (newsU _ uu _) (onesU uu) (by unfold maxLen;omega) (by omega) (by simp;omega) ?_;intro v3 w3 d y _)
    have o:Hid (w3.ownsRow w.heap.size 95 3 v3 (k+1) _):=d;have ar:Hid (Be w w3):=(ba aj _).grown y (by simp;omega) (fun b hb=>(a3.lt b hb).1);clear d y
    go_roundw
    case rel=>exact ⟨k+1,by omega,by go_num,by rw [HS.out,List.map_append,zY];show w3.ownsRow _ _ _ _ _ (_ ++ zE kK [yDB cs l[k].2.1]);rw [flatU_one,<- al.out];exact o.out,ar⟩
    case measure=>simp [intOf];omega
   ·have aa:k=l.length:=by omega
    have HK:Hid (k=l.length):=aa;clear aa;go_wp2_with fail
    refine (copy_i cs _ wr (HV.below HB) HL.1 HL.2).mono ?_;rintro e w3 ⟨v3,rfl,d,f⟩;have ad:Hid (w3.ownsRow wr.heap.size 92 2 v3 cs.length (kM cs)):=d;have o:Hid (w3.ownsRow w.heap.size 95 3 u6 k (zE kK ((l.take k).map fun c=>yDB cs c.2.1))):=zS HO f;clear d;go_wp2
    go_ret2
    refine ⟨v3,_,rfl,by rw [bg.out];exact zN ad HB.size,?_,own_ne HO ad (nl _),bt HB f⟩;have:=o.out;rw [HK.out,Al,<- bf.out] at this;rw [zGI];exact this
 | true=>
  have ap:Hid (kS cs=true):=ab;clear ab;go_wp2_with fail
  refine (accounts_i cs _ w1 (HV.below ag) ap HL.2).mono ?_;rintro e w2 ⟨rfl,au,r⟩;have a8:Hid (MapIs w2 w1.heap.size cs):=au;have bi:Hid (w2.ownsRow w.heap.size 95 3 (.slice (Ab ⟨w.heap.size,0,Aa⟩) 0 l.length) 0 []):=zS av r;have aj:Hid (Be w w2):=bt ag r;have bn:=ag.size;clear au r;go_wp2
  go_loopw [6,39] (fun q i wr=>∃ k:Nat,k<=l.length/\i=I U (k:Int)/\wr.ownsRow w.heap.size 95 3 q k (zE kK (jQ cs (l.take k)))/\MapIs wr w1.heap.size (yD cs (l.take k))/\Be w wr) (fun _ i _=>l.length - (intOf i).toNat)
  case atStart=>exact ⟨0,Ae _,rfl,bi,a8,aj⟩
  case round=>
   obtain ⟨k,hk,rfl,p,ae,n⟩:=hrel;have HO:Hid (wr.ownsRow w.heap.size 95 3 u6 k (zE kK (jQ cs (l.take k)))):=p;have HB:Hid (Be w wr):=n;have HM:Hid (MapIs wr w1.heap.size (yD cs (l.take k))):=ae;have bk:=ae.lt;have a9:=n.size;clear p n ae
   by_cases hlt:(k:Int) < l.length
   ·have j:k < l.length:=by omega
    have q0:(0:Int)<=(k:Int):=by omega
    obtain ⟨g,s,rfl,hg,hc⟩:=HR (by omega);have c0:wr.cell? ⟨g,s+k * 3,Aa⟩=Ab (I U l[k].1):=by rw [HB.out.cell (by exact hg)];exact hc k j 0 (by omega)
    have c1:wr.cell? ⟨g,s+k * 3+1,Aa⟩=Ab (.string l[k].2.1):=by rw [HB.out.cell (by exact hg)];exact hc k j 1 (by omega)
    have c2:wr.cell? ⟨g,s+k * 3+2,Aa⟩=Ab (I U l[k].2.2):=by rw [HB.out.cell (by exact hg)];exact hc k j 2 (by omega)
    have HS:Hid (l.take (k+1)=l.take k ++ [l[k]]):=take_snoc j;clear hc;go_wp2_with fail
    have BA:Be wr (wr.alloc (Obj.cells #[I U l[k].1,Ak l[k].2.1,I U l[k].2.2] 139)):=ba (br _ _) _;refine (mapUndo_i (yD cs (l.take k)) w1.heap.size l[k].2.1 _ (HM.below BA) (HA _ (Ag j))).mono ?_;rintro e w3 ⟨rfl,f⟩;unfold undoV;have k0:w3.cell? ⟨wr.heap.size,0,Aa⟩=Ab (I U l[k].1):=by rw [f.cell (by simp)];simp
    have k1:w3.cell? ⟨wr.heap.size,1,Aa⟩=Ab (.string l[k].2.1):=by rw [f.cell (by simp)];simp
    have k2:w3.cell? ⟨wr.heap.size,2,Aa⟩=Ab (I U l[k].2.2):=by rw [f.cell (by simp)];simp
    have bd:=hid (qad3 k0 k1 k2);have ax:wr.heap.size < w3.heap.size:=by have:=f.size;simp at this;omega
    have o:Hid (w3.ownsRow w.heap.size 95 3 u6 k (zE kK (jQ cs (l.take k)))):=zS HO (bt BA f);have aw:Hid (MapIs w3 w1.heap.size (yD cs (l.take k))):=HM.below (bt BA f);have ar:Hid (Be w w3):=bt HB (bt BA f);have ah:∀ x,u6.ownBlock=some x->x < wr.heap.size:=fun x hx=>(HO.lt x hx).2
    have bj:Hid (∀ x,u6.ownBlock=some x->x < wr.heap.size):=ah;clear f c0 c1 c2 BA HO HM k0 k1 k2 ah;obtain ⟨uu,t⟩:=nw (yDB (yD cs (l.take k)) l[k].2.1);rw [<- t];have al:Hid (uu=yDB (yD cs (l.take k)) l[k].2.1):=t;clear t;go_wp2_with (at_builtin;refine wpList_append_own _ rfl _ _ 31 rfl w.heap.size 95 i0 _ 3 32 underlying31 hi am an ao rfl (by decide) _ _ _ rfl (Ai o _) ⟨World.heap _ |>.size,0,Aa⟩ 1 1 (kK uu) rfl rfl (newsU _ uu _) (onesU uu) (by unfold maxLen;omega) (by omega) (by simp;omega) ?_;intro v4 w4 af m _;have ay:Hid (w4.ownsRow w.heap.size 95 3 v4 (k+1) _):=af;have a5:Hid (MapIs w4 w1.heap.size (yD cs (l.take k))):=(aw.below (ba (br _ _) _)).kept m (row_not_map o aw);have a1:Hid (Be w w4):=(ba ar _).grown m (by simp;omega) (fun b hb=>(o.lt b hb).1);have a0:∀ i,w4.cell? ⟨wr.heap.size,i,Aa⟩=w3.cell? ⟨wr.heap.size,i,Aa⟩:=(fun i=>(yAD (i:=i) m (by simp;omega) (fun e=>Nat.lt_irrefl _ (bj _ e))).trans ((ba (br _ _) _:Be w3 _).cell (by exact ax)));obtain ⟨k0,k1,k2⟩:=bd.out;rw [<- a0] at k0 k1 k2;clear af m a0)
    refine (do_i (yD cs (l.take k)) w1.heap.size l[k] _ a5 (doneAll_ok _ ap) (HA _ (Ag j))).mono ?_;rintro e w5 ⟨rfl,a2,ai⟩;have a6:Hid (MapIs w5 w1.heap.size (yAA (yD cs (l.take k)) l[k])):=a2;have be:Hid (w5.ownsRow w.heap.size 95 3 v4 (k+1) _):=Ah ay ai (Or.inr (row_not_map ay a5).symm);have bh:Hid (Be w w5):=a1.grown ai a1.size fun x hx=>by cases hx;omega
    clear a2 ai k0 k1 k2;go_wp2
    go_roundw
    case rel=>exact ⟨k+1,by omega,by go_num,by rw [HS.out,undos_snoc,zY,flatU_one,<- al.out];exact be.out,by rw [HS.out,doneAll_snoc];exact a6.out,bh⟩
    case measure=>simp [intOf];omega
   ·have aa:k=l.length:=by omega
    have HK:Hid (k=l.length):=aa;have a7:Hid (MapIs wr w1.heap.size (yD cs l)):=hid (by have:=HM.out;rw [aa,Al] at this;exact this);clear aa;obtain ⟨_,a4,bc⟩:=zFG.1 (doneAll_ok l ap);have bb:=hid a4;clear a4;go_wp2_with fail
    refine (told_i (yD cs l) w1.heap.size wr a7 bb (Nat.le_succ_of_le bc) (okL_all l HL HA).2).mono ?_;rintro e w3 ⟨v3,rfl,d,f⟩;have ad:Hid (w3.ownsRow wr.heap.size 92 2 v3 _ _):=d;have o:Hid (w3.ownsRow w.heap.size 95 3 u6 k (zE kK (jQ cs (l.take k)))):=zS HO f;clear d;go_wp2
    go_ret2
    refine ⟨v3,_,rfl,zN ad HB.size,?_,own_ne HO ad (nl _),bt HB f⟩;have:=o.out;rw [HK.out,Al] at this;rw [zGI];exact this
theorem tooEarlyR_i (ps:TL) (v:Value) (p:PE) (s:PV) (k:Int) (w:World) (hT:jB w v ps) (hk:okT (bks ps)) (hR:jS w p s) (hs:yC p) :
  Calls prog 14 #[v,yZ p s,I U k] w fun e w'=>∃ s',e=.returned (yZ (yDF (bks ps) p k) s')/\zO w.heap.size w'.heap.size w' (yDF (bks ps) p k) s'/\Be w w':=by
 have HT:=hid hT;have HK:=hid hk;have HR:=hid hR;have HS:=hid hs;have ch:(ps.length:Int)<=1048576:=by have:=hk.1;rw [yO] at this;exact this
 have cx:=hs.row;have b7:Hid ((bks ps).length=ps.length):=yO ps;obtain ⟨ii,cd,b5,bu,cb⟩:=info_parts infoIntL;obtain ⟨ui,cm,bk,b1,bz⟩:=info_parts infoUndo;obtain ⟨c7,cn,rfl,-⟩:=HT.1;clear hT hk hR hs;obtain ⟨W,hW⟩:=nw ((w.alloc (.cells (zA p s) 35)).alloc (.cells zF 35));have HW:Hid (Bx2 w W (zA p s) zF):=hid (by rw [hW];exact two_boxes w _ _);unfold zF at hW;go_enter func14,ntmps14;go_wp2_with (rw [<- hW];clear hW;(refine w_ld w.heap.size HW.box underlying35 ?_))
 refine (withoutEarly_i p s W (HR.below HW.below) HS).mono ?_;rintro e x1 ⟨s3,rfl,ho,hb⟩;have b:Hid (zO w.heap.size x1.heap.size x1 (jC p) s3):=ho.low HW.below.size;have ap:Hid (Bx2 w x1 (zA p s) zF):=HW.more hb;clear ho hb HW;obtain ⟨u,hu⟩:=nw (qS p.row);have HE:Hid (yDF (bks ps) p k=yBH (bks ps) (jC p) (kB (bks ps) k u)):=(by unfold yDF;rw [hu]:yDF (bks ps) p k=_);obtain ⟨q,hq⟩:=nw (jC p);have aw:Hid (q.early=[]/\q.undos=[]/\okL q.cells):=hid (by rw [hq];exact ⟨rfl,rfl,okL_back HS⟩);have b8:Hid (qS q.row=u/\(q.row.length:Int)<=1048576):=(by rw [hq,hu];exact ⟨rfl,cx⟩:qS q.row=u/\_);rw [<- hq] at HE b;rw [<- hq];clear hq hu;go_wp2_with (refine w_st w.heap.size (zA q s3) ap.box (zJ b.1) ?_;intro x4 hg hk hz;have f:Hid (Bx2 w x4 (zA q s3) zF):=ap.put hg hk;have y:Hid (zO w.heap.size x4.heap.size x4 q s3):=(b.boxed ap.box hg).wide hg.size (nl _);have cs:=zB f.box 14 s3.row rfl;clear hg hk hz ap b)
 refine (lastOf_i q.row s3.row x4 y.reads.row b8.2).mono ?_;rintro e W' ⟨rfl,hw⟩;obtain rfl:=hw.symm;clear hw cs;rw [b8.out.1];go_wp2_with fail
 refine (rowAfter_i ps _ k u x4 (HT.below f.below) ch).mono ?_;rintro e x5 ⟨v5,rfl,ho,hb⟩;obtain ⟨L,hL⟩:=nw (kB (bks ps) k u);have cj:Hid (∀ x∈L,∃ j:Nat,x=(j:Int)/\j < ps.length):=hid (by rw [hL];intro x hx;have:=after_mem hx;rw [b7.out] at this;exact this);have c8:(L.length:Int)<=1048576:=by have:=zDA (bks ps) k u;rw [<- hL,b7.out] at this;omega
 rw [<- hL] at HE ho;have t:Hid (x5.ownsRow x4.heap.size 3 1 v5 L.length (zE xJ L)):=ho;have ab:Hid (Bx2 w x5 (zA q s3) zF):=f.more hb;have n:Hid (zO w.heap.size x4.heap.size x5 q s3):=y.below hb;have cw:Hid (x4.heap.size<=x5.heap.size):=hb.size;obtain ⟨a5,c5,rfl,aq⟩:=zW jG ho;clear aq;clear hL ho hb f y;have ce:Hid (zA (yBH (bks ps) q (L.take 0)) s3=zA q s3):=hid (by unfold zA yBH;simp);go_wp2
 go_loopw [20] (fun i wr=>∃ (m:Nat) (tm:PV),m<=L.length/\i=I U (m:Int)/\Hid (Bx2 w wr (zA (yBH (bks ps) q (L.take m)) tm) zF)/\Hid (zO w.heap.size wr.heap.size wr (yBH (bks ps) q (L.take m)) tm)/\Hid (wr.ownsRow x4.heap.size 3 1 (.slice a5 L.length c5) L.length (zE xJ L))/\Hid (apart tm.early (.slice a5 L.length c5))/\Hid (x5.heap.size<=wr.heap.size)) (fun i _=>L.length - (intOf i).toNat)
 case atStart=>exact ⟨0,s3,Ae _,rfl,(by rw [ce.out];exact ab.out:Bx2 w x5 (zA (yBH (bks ps) q (L.take 0)) s3) zF),ear_own _ _ aw.1 aw.2.1 (n.wide cw (nl _)),t,yQ n.2.1.l2 (fun g e=>⟨(t.lt g e).1,(t.lt g e).2⟩) (Or.inl (nl _)),nl _⟩
 case round=>
  obtain ⟨m,tm,hm,rfl,a,o,a9,bm,cp⟩:=hrel
  by_cases hlt:(m:Int) < L.length
  ·have a2:m < L.length:=by omega
   obtain ⟨j,hj,aj⟩:=cj L[m] (Ag a2);have HJ:Hid (L[m]=(j:Int)):=hj;have q0:(0:Int)<=(m:Int):=by omega
   have j0:(0:Int)<=(j:Int):=by omega
   have j1:(j:Int) < ps.length:=by omega
   obtain ⟨c6,c4,e5,aq⟩:=zW jG a9;injection e5 with c3 _ cu
   subst c3 cu;obtain ⟨g5,o5,rfl,bf,bv⟩:=aq (by omega);have hc:wr.cell? ⟨g5,o5+m,Aa⟩=Ab (I U (j:Int)):=by have:=bv m a2 0 (by omega);rw [HJ.out] at this;simpa [xJ] using this
   have co:Hid (g5 < wr.heap.size):=bf;clear bv bf aq hj;obtain ⟨dc,c9,et,bi⟩:=(HT.below a.below).1;injection et with c0 _ ci
   subst c0 ci;obtain ⟨gt,ot,rfl,b2,b3⟩:=bi (by omega);obtain ⟨cv,a1⟩:=nw (ps[j].2);have ag:Hid (yM wr cv 3 kL ps[j].1.2.1/\okB ps[j].1):=hid (by rw [a1];exact ⟨(HT.below a.below).2 ps[j] (Ag aj),okT_at HK aj⟩);have ao:Hid (gt < wr.heap.size/\wr.cell? ⟨gt,ot+j * 7+2,Aa⟩=some cv):=⟨b2,by rw [a1];exact b3 j aj 2 (by omega)⟩;clear b2 b3 a1 bi;obtain ⟨qm,a7⟩:∃ qm:PE,qm=yBH (bks ps) q (L.take m):=⟨_,rfl⟩
   have ac:Hid (({ qm with cells:=yD qm.cells ps[j].1.2.1,early:=qm.early ++ [(j:Int)],undos:=qm.undos ++ jQ qm.cells ps[j].1.2.1 }:PE)=yBH (bks ps) q (L.take (m+1))/\okL qm.cells/\qm.early.length=m/\qm.undos.length<=m * 1048576/\(jQ qm.cells ps[j].1.2.1).length<=1048576):=(by
    rw [a7];refine ⟨ear_step a2 HJ aj,rowC_ok HK _ _ aw.2.2,by unfold yBH;simp;omega,?_,?_⟩
    ·have:=earU_len HK (L.take m) q.cells;rw [List.length_take,Nat.min_eq_left hm] at this;exact this
    ·rw [zGI];have:=ag.2.1;omega:_/\_/\_/\_/\_)
   rw [<- a7] at a o;clear a7;go_wp2;clear hc;refine p_rg (fun i=>decide (i < 8)) (fun x=>Bx x w.heap.size (zA qm tm) 35/\x.cell? ⟨gt,ot+j * 7+2,Aa⟩=some cv) ?_;show zX prog _ _ _ _ _ (12+1) (Array.replicate 13 false) _ _;have hS:Bx wr.drew w.heap.size (zA qm tm) 35/\wr.drew.cell? ⟨gt,ot+j * 7+2,Aa⟩=some cv:=⟨a.box,ao.2⟩;refine p_pt 0 25 w.heap.size 15 hS ?_;refine zD 1 26 tm.cells hS ?_ (hy:=by intro x hx;have c:=zB hx.1 15 tm.cells rfl;go_simp;try rfl);refine zD 2 27 (.slice (Ab ⟨gt,ot,Aa⟩) ps.length cn) hS ?_;refine zD 3 28 (I U (j:Int)) hS ?_;refine p_pt 4 29 gt (ot+j * 7) hS ?_;refine p_pt 5 30 gt (ot+j * 7+2) hS ?_;refine zD 6 31 cv hS ?_ (hy:=by intro x hx;have c:=hx.2;go_simp;try rfl);refine kJ 7 32 53 #[tm.cells,cv] ((doneBack_i qm.cells ps[j].1.2.1 tm.cells cv wr.drew (o.reads.cells.below (br _ _).drew) (ag.1.below (br _ _).drew) ac.2.1 ag.2.1 ag.2.2).mono ?_);rintro e y1 ⟨w1,w2,rfl,ho,af,-,b0⟩;have hb:=(bw wr).trans b0;have b:Hid (y1.ownsRow wr.heap.size 92 2 w1 (yD qm.cells ps[j].1.2.1).length (kM (yD qm.cells ps[j].1.2.1))):=ho;have ak:Hid (y1.ownsRow wr.heap.size 95 3 w2 (jQ qm.cells ps[j].1.2.1).length (zE kK (jQ qm.cells ps[j].1.2.1))):=af;have r:Hid (Bx2 w y1 (zA qm tm) zF):=a.more hb;have b9:Hid (zO w.heap.size wr.heap.size y1 qm tm):=o.below hb;have be:Hid (y1.ownsRow x4.heap.size 3 1 (.slice (Ab ⟨g5,o5,Aa⟩) L.length c5) L.length (zE xJ L)):=zS a9 hb;have ar:=hid (qad2 a.out.below.size hb.size);have cc:Bx y1 w.heap.size (zA qm tm) 35/\y1.cell? ⟨gt,ot+j * 7+2,Aa⟩=some cv:=⟨r.box,by rw [hb.cell (by exact ao.out.1)];exact ao.out.2⟩;clear ho af hb b0 hS ao ag a o a9;refine ⟨_,rfl,fun _=>cc,?_⟩;simp only [pz];refine p_pu 8 24 (.tuple #[w1,w2]) ?_ ?_
   ·intro x hx;go_simp
    try rfl
   simp only [pz];refine p_pu 9 33 w1 ?_ ?_
   ·intro x hx;go_simp
    try rfl
   simp only [pz];refine p_pu 10 34 w2 ?_ ?_
   ·intro x hx;go_simp
    try rfl
   simp only [pz];refine p_pu 11 9 w1 ?_ ?_
   ·intro x hx;go_simp
    try rfl
   simp only [pz];refine p_pu 12 10 w2 ?_ ?_
   ·intro x hx;go_simp
    try rfl
   simp only [pz];refine p_do ?_;clear cc;obtain ⟨q1,al⟩:∃ q1:PE,q1={ qm with cells:=yD qm.cells ps[j].1.2.1 }:=⟨_,rfl⟩;obtain ⟨t1,an⟩:∃ t1:PV,t1={ tm with cells:=w1 }:=⟨_,rfl⟩;have ae:Hid (({ q1 with early:=q1.early ++ [(j:Int)],undos:=q1.undos ++ jQ qm.cells ps[j].1.2.1 }:PE)=yBH (bks ps) q (L.take (m+1))/\q1.early.length=m/\q1.undos.length<=m * 1048576):=hid (by rw [al];exact ⟨ac.1,ac.2.2.1,ac.2.2.2.1⟩);have ax:Hid (apart t1.early (.slice (Ab ⟨g5,o5,Aa⟩) L.length c5)):=(by rw [an];exact bm.out:apart t1.early _);obtain ⟨us,ay⟩:=nw (jQ qm.cells ps[j].1.2.1);have cf:Hid (us.length<=1048576):=hid (by rw [ay];exact ac.out.2.2.2.2);rw [<- ay] at ae ak;clear ay ac bm;have bo:Hid (q1.early.length=m):=ae.2.1
   go_wp2_with (first
    | (refine w_sc w.heap.size 15 w1 r.box (by simp [zA]) (zDH b) (zA q1 t1) (by rw [al,an];rfl) ?_;intro y2 hg hk;have am:Hid (Bx2 w y2 (zA q1 t1) zF):=r.put hg hk;have ad:Hid (zO w.heap.size y2.heap.size y2 q1 t1):=hid (by rw [al,an];exact (b9.boxed r.box hg).setCells (Ac ar.2 hg.size) (nl _) (zN (Ah b hg (zH b r.box (by decide))) ar.1) (fun g e=>Ad (b.lt g e).2 hg.size) (fun g e=>Or.inr (b.lt g e).1));have bn:Hid (y2.ownsRow x4.heap.size 3 1 (.slice (Option.some ⟨g5,o5,Aa⟩) L.length c5) L.length (zE xJ L)):=Ah be hg (zH be r.box (by decide));have az:Hid (y2.ownsRow wr.heap.size 95 3 w2 us.length (zE kK us)):=Ah ak hg (zH ak r.box (by decide));have a6:Hid (wr.heap.size<=y2.heap.size):=Ac ar.2 hg.size;have l:Hid (Be y2 (y2.alloc (.cells #[I U (j:Int)] 3))):=(Below.refl y2.heap.size y2).alloc (nl _) _;clear hg hk r b9 be ak b al an;have cl:=zB am.box 16 t1.early rfl)
    | (at_builtin;refine wpList_append_lies _ rfl (.tmp 38) (.tmp 40) 29 rfl w.heap.size 3 ii _ 1 8 underlying29 cd b5 bu cb rfl (by decide) t1.early _ _ rfl (ad.below l).1.early ⟨y2.heap.size,0,Aa⟩ 1 1 [I U (j:Int)] rfl rfl (World.news_of_block (heap_alloc_new y2 _)) (by intro x hx;simp at hx;subst hx;rfl) (by decide) (by rw [bo.out];unfold maxLen;omega) (by rw [bo.out];omega) (by have:=am.lt;simp;omega) _ rfl ?_;intro g2 d y4 af aa a3 au;have f:Hid (Bx2 w y4 (zA q1 t1) zF):=(am.more l).grow (ad.below l).1.early (by decide) (nl _) aa;have bd:Hid (y4.ownsRow x4.heap.size 3 1 (.slice (Option.some ⟨g5,o5,Aa⟩) L.length c5) L.length (zE xJ L)):=Ah (zS bn l) aa ax.symm.ne;have a0:Hid (y4.ownsRow wr.heap.size 95 3 w2 us.length (zE kK us)):=Ah (zS az l) aa (row_kind (zS az l) (ad.below l).1.early (by decide));have y:Hid (zO w.heap.size y4.heap.size y4 { q1 with early:=q1.early ++ [(j:Int)] } { t1 with early:=.slice (Ab ⟨g2,0,Aa⟩) (q1.early.length+1) d }):=(ad.below l).addEarly aa af (a3.imp id (fun e=>by rw [e];simp)) au;have b4:Hid (apart (.slice (Ab ⟨g2,0,Aa⟩) (q1.early.length+1) d) (.slice (Option.some ⟨g5,o5,Aa⟩) L.length c5)):=(by intro g e e2;cases e;exact a3.elim (fun h=>ax _ h e2) (fun h=>by have e2:=Af e2;have:=co.out;have:=a6.out;simp at e2 h;omega):apart _ _);have bj:Hid (wr.heap.size<=y4.heap.size):=Ac a6 (Ac l.size aa.size);clear af aa a3 au cl am ad bn az a6 l)
    | (refine w_sc w.heap.size 16 (.slice (Ab ⟨g2,0,Aa⟩) (q1.early.length+1) d) f.box (by simp [zA]) rfl (zA { q1 with early:=q1.early ++ [(j:Int)] } { t1 with early:=.slice (Ab ⟨g2,0,Aa⟩) (q1.early.length+1) d }) rfl ?_;intro y5 hg hk;have ab:Hid (Bx2 w y5 (zA { q1 with early:=q1.early ++ [(j:Int)] } { t1 with early:=.slice (Ab ⟨g2,0,Aa⟩) (q1.early.length+1) d }) zF):=f.put hg hk;have n:Hid (zO w.heap.size y5.heap.size y5 { q1 with early:=q1.early ++ [(j:Int)] } { t1 with early:=.slice (Ab ⟨g2,0,Aa⟩) (q1.early.length+1) d }):=(y.boxed f.box hg).wide hg.size (nl _);have t:Hid (y5.ownsRow x4.heap.size 3 1 (.slice (Option.some ⟨g5,o5,Aa⟩) L.length c5) L.length (zE xJ L)):=Ah bd hg (zH bd f.box (by decide));have bg:Hid (y5.ownsRow wr.heap.size 95 3 w2 us.length (zE kK us)):=Ah a0 hg (zH a0 f.box (by decide));have bq:Hid (x5.heap.size<=y5.heap.size/\w.heap.size<=y5.heap.size):=hid (by have:=cp.out;have:=bj.out;have:=ar.out;have:=hg.size;omega);obtain ⟨q2,bc⟩:∃ q2:PE,q2={ q1 with early:=q1.early ++ [(j:Int)] }:=⟨_,rfl⟩;obtain ⟨t2,a4⟩:∃ t2:PV,t2={ t1 with early:=.slice (Ab ⟨g2,0,Aa⟩) (q1.early.length+1) d }:=⟨_,rfl⟩;have bl:Hid (({ q2 with undos:=q2.undos ++ us }:PE)=yBH (bks ps) q (L.take (m+1))/\q2.undos.length<=m * 1048576):=hid (by rw [bc];exact ⟨ae.1,ae.2.2⟩);have c2:Hid (apart t2.early (.slice (Option.some ⟨g5,o5,Aa⟩) L.length c5)):=(by rw [a4];exact b4.out:apart t2.early _);rw [<- bc,<- a4] at ab n;clear hg hk f y bd a0 bc a4 b4 ax ae bj;have c1:=zB ab.box 17 t2.undos rfl;have db:=bl.2;have da:=cf.out)
    | (at_builtin;refine wpList_append_w _ rfl _ _ 31 rfl w.heap.size 95 ui _ 32 underlying31 cm bk b1 bz rfl (by decide) yFF undoF_one t2.undos q2.undos rfl n.1.undos w2 us rfl (zW yFF bg) (by unfold maxLen;omega) (by omega) bq.2 ?_;intro v6 y6 a8 ai av;have ah:Hid (Bx2 w y6 (zA q2 t2) zF):=ab.grow n.1.undos (by decide) (nl _) ai;have bb:Hid (y6.ownsRow x4.heap.size 3 1 (.slice (Option.some ⟨g5,o5,Aa⟩) L.length c5) L.length (zE xJ L)):=Ah t ai (row_kind t n.1.undos (by decide));have b6:Hid (zO w.heap.size y6.heap.size y6 { q2 with undos:=q2.undos ++ us } { t2 with undos:=v6 }):=n.addUndos ai a8 av;have cq:Hid (v6.oneCell'=true):=zDH a8;have bh:Hid (x5.heap.size<=y6.heap.size):=Ac bq.1 ai.size;clear a8 ai av ab n t bg c1)
    | (refine w_sc w.heap.size 17 v6 ah.box (by simp [zA]) cq (zA { q2 with undos:=q2.undos ++ us } { t2 with undos:=v6 }) rfl ?_;intro y7 hg hk;have bp:Hid (Bx2 w y7 (zA { q2 with undos:=q2.undos ++ us } { t2 with undos:=v6 }) zF):=ah.put hg hk;have ca:Hid (zO w.heap.size y7.heap.size y7 { q2 with undos:=q2.undos ++ us } { t2 with undos:=v6 }):=(b6.boxed ah.box hg).wide hg.size (nl _);have ct:Hid (y7.ownsRow x4.heap.size 3 1 (.slice (Option.some ⟨g5,o5,Aa⟩) L.length c5) L.length (zE xJ L)):=Ah bb hg (zH bb ah.box (by decide));have cr:Hid (x5.heap.size<=y7.heap.size):=Ac bh hg.size;clear hg hk ah b6 bb bh))
   rw [bl.out.1] at bp ca
   go_roundw
   case rel=>exact ⟨m+1,{ t2 with undos:=v6 },by omega,by go_num,bp,ca,ct,c2,cr⟩
   case measure=>simp [intOf];omega
  ·have cg:m=L.length:=by omega
   subst cg;rw [Al] at a o;obtain ⟨QQ,bx⟩:=nw (yBH (bks ps) q L);rw [<- bx] at a o HE;clear bx
   go_wp2_with (first
    | (refine w_ld w.heap.size a.box underlying35 ?_)
    | (refine w_st (w.heap.size+1) (zA QQ tm) a.zero (zJ o.1) ?_;intro z hg hk hz;have ck:Hid (Be w z):=a.below.grown hg a.below.size (qkk (by omega));have cy:Hid (Bx z (w.heap.size+1) (zA QQ tm) 35):=hk;have cz:Hid (zO w.heap.size z.heap.size z QQ tm):=(o.boxed a.zero hg).wide hg.size (nl _);clear hg hk hz o a))
   refine b_cr (.agg (zA QQ tm)) results14 cy underlying35 ?_;rw [HE.out];exact ⟨_,rfl,cz,ck⟩
theorem sameInts_yes (l:List Int) (a b:Value) (w:World) (ha:yM w a 1 xJ l) (hb:yM w b 1 xJ l) (hl:(l.length:Int)<=1048576) :
  Calls prog 19 #[a,b] w fun e w'=>e=.returned (.bool true)/\Be w w':=by
 obtain ⟨a,ca,rfl,d⟩:=ha;obtain ⟨b,cb,rfl,g⟩:=hb;have HA:=hid d;have HB:=hid g;clear d g;go_enter func19,ntmps19;go_wp2
 go_loopw [5] (fun i wr=>∃ m:Nat,m<=l.length/\i=I U m/\Be w wr) (fun i _=>l.length - (intOf i).toNat)
 case atStart=>exact ⟨0,Ae _,rfl,br _ _⟩
 case round=>
  obtain ⟨m,hm,rfl,c⟩:=hrel
  by_cases hlt:(m:Int) < l.length
  ·have q0:(0:Int)<=(m:Int):=by omega
   have f:m < l.length:=by omega
   obtain ⟨ga,oa,rfl,k,h⟩:=HA (by omega);obtain ⟨gb,ob,rfl,n,j⟩:=HB (by omega);have o:=yX wr;have c0:∀ x:Bw wr,x.to.cell? ⟨ga,oa+m,Aa⟩=Ab (I U l[m]):=fun x=>by rw [(bt c x.below).cell (by exact k)];have:=h m f 0 (by omega);simpa [xJ] using this
   have d0:∀ x:Bw wr,x.to.cell? ⟨gb,ob+m,Aa⟩=Ab (I U l[m]):=fun x=>by rw [(bt c x.below).cell (by exact n)];have:=j m f 0 (by omega);simpa [xJ] using this
   clear h j;go_wp2;refine rb ?_;repeat (go_big_quiet_step (fail))
   refine qnn fun x=>?_
   go_wp2
   go_roundw
   case rel=>exact ⟨m+1,by omega,by go_num,bt c x.below⟩
   case measure=>simp [intOf];omega
  ·go_wp2;go_ret;exact ⟨rfl,c⟩
theorem sfV (a b c d:Int) (w:World):(Op.equalIn 10000 28 (.agg #[I U a,I U b,I U c,I U d]) (.agg #[I U a,I U b,I U c,I U d])).run prog w=.ok true w:=by
 have u3:=underlying3;have hS:prog.underlying 28=Ab (.struct (prog.fieldsOf 28)):=by kernel_rfl
 have hp:prog.stoodInHeld 28=false:=by kernel_rfl
 rw [show (10000:Nat)=9999+1 from rfl,run_equalIn_agg w 9999 28 _ _ hS hp];simp only [Program.fieldsOf,underlying28];go_simp
theorem sfVg:prog.eqGuardType prog.depth 28=false:=by kernel_rfl
theorem sfQ (a b c d:Int) (w:World):(Op.equalIn 10000 26 (.agg #[I U a,I U b,I U c,I U d]) (.agg #[I U a,I U b,I U c,I U d])).run prog w=.ok true w:=by
 have u3:=underlying3;have hS:prog.underlying 26=Ab (.struct (prog.fieldsOf 26)):=by kernel_rfl
 have hp:prog.stoodInHeld 26=false:=by kernel_rfl
 rw [show (10000:Nat)=9999+1 from rfl,run_equalIn_agg w 9999 26 _ _ hS hp];simp only [Program.fieldsOf,underlying26];go_simp
theorem sfQg:prog.eqGuardType prog.depth 26=false:=by kernel_rfl
theorem sfU (k:ByteArray) (o:Bool) (n:Int) (w:World):(Op.equalIn 10000 95 (.agg #[.string k,.bool o,I U n]) (.agg #[.string k,.bool o,I U n])).run prog w=.ok true w:=by
 have u3:=underlying3;have u9:=underlying9;have u4:=underlying4;have hS:prog.underlying 95=Ab (.struct (prog.fieldsOf 95)):=by kernel_rfl
 have hp:prog.stoodInHeld 95=false:=by kernel_rfl
 rw [show (10000:Nat)=9999+1 from rfl,run_equalIn_agg w 9999 95 _ _ hS hp];simp only [Program.fieldsOf,underlying95];go_simp
theorem sfUg:prog.eqGuardType prog.depth 95=false:=by kernel_rfl
theorem sfVd (a b c d:Int) (w:World):(Op.equalIn 9999 28 (.agg #[I U a,I U b,I U c,I U d]) (.agg #[I U a,I U b,I U c,I U d])).run prog w=.ok true w:=by
 have u3:=underlying3;have hS:prog.underlying 28=Ab (.struct (prog.fieldsOf 28)):=by kernel_rfl
 have hp:prog.stoodInHeld 28=false:=by kernel_rfl
 rw [show (9999:Nat)=9998+1 from rfl,run_equalIn_agg w 9998 28 _ _ hS hp];simp only [Program.fieldsOf,underlying28];go_simp
theorem sfQd (a b c d:Int) (w:World):(Op.equalIn 9999 26 (.agg #[I U a,I U b,I U c,I U d]) (.agg #[I U a,I U b,I U c,I U d])).run prog w=.ok true w:=by
 have u3:=underlying3;have hS:prog.underlying 26=Ab (.struct (prog.fieldsOf 26)):=by kernel_rfl
 have hp:prog.stoodInHeld 26=false:=by kernel_rfl
 rw [show (9999:Nat)=9998+1 from rfl,run_equalIn_agg w 9998 26 _ _ hS hp];simp only [Program.fieldsOf,underlying26];go_simp
theorem sfL (a b c d e f g h k n o p q:Int) (w:World):(Op.equalIn 10000 61 (.agg #[I U a,I U b,I U c,I U d,I U e,I U f,I U g,I U h,I U k,I U n,I U o,I U p,I U q]) (.agg #[I U a,I U b,I U c,I U d,I U e,I U f,I U g,I U h,I U k,I U n,I U o,I U p,I U q])).run prog w=.ok true w:=by
 have u3:=underlying3;have e1:=sfQd f g h k;have e2:=sfVd n o p q;have hS:prog.underlying 61=Ab (.struct (prog.fieldsOf 61)):=by kernel_rfl
 have hp:prog.stoodInHeld 61=false:=by kernel_rfl
 rw [show (10000:Nat)=9999+1 from rfl,run_equalIn_agg w 9999 61 _ _ hS hp];simp only [Program.fieldsOf,underlying61];go_simp
theorem sfLg:prog.eqGuardType prog.depth 61=false:=by kernel_rfl
theorem sfC (k:ByteArray) (n:Int) (w:World):(Op.equalIn 10000 92 (.agg #[.string k,I U n]) (.agg #[.string k,I U n])).run prog w=.ok true w:=by
 have u3:=underlying3;have u9:=underlying9;have hS:prog.underlying 92=Ab (.struct (prog.fieldsOf 92)):=by kernel_rfl
 have hp:prog.stoodInHeld 92=false:=by kernel_rfl
 rw [show (10000:Nat)=9999+1 from rfl,run_equalIn_agg w 9999 92 _ _ hS hp];simp only [Program.fieldsOf,underlying92];go_simp
theorem sfCg:prog.eqGuardType prog.depth 92=false:=by kernel_rfl
theorem sameCells_yes (l:CL) (a b:Value) (w:World) (ha:qQ w a l) (hb:qQ w b l) (hl:(l.length:Int)<=1048576) :
  Calls prog 16 #[a,b] w fun e w'=>e=.returned (.bool true)/\Be w w':=by
 obtain ⟨a,ca,rfl,h⟩:=ha;obtain ⟨b,cb,rfl,n⟩:=hb;have HA:=hid h;have HB:=hid n;clear h n;go_enter func16,ntmps16;go_wp2
 go_loopw [5] (fun i wr=>∃ m:Nat,m<=l.length/\i=I U m/\Be w wr) (fun i _=>l.length - (intOf i).toNat)
 case atStart=>exact ⟨0,Ae _,rfl,br _ _⟩
 case round=>
  obtain ⟨m,hm,rfl,c⟩:=hrel
  by_cases hlt:(m:Int) < l.length
  ·have q0:(0:Int)<=(m:Int):=by omega
   have d:m < l.length:=by omega
   obtain ⟨ga,oa,rfl,j,f⟩:=HA (by omega);obtain ⟨gb,ob,rfl,k,g⟩:=HB (by omega);have o:=yX wr;have c0:∀ x:Bw wr,x.to.cell? ⟨ga,oa+m * 2,Aa⟩=Ab (.string l[m].1):=fun x=>by rw [(bt c x.below).cell (by exact j)];exact (f m d).1
   have c1:∀ x:Bw wr,x.to.cell? ⟨ga,oa+m * 2+1,Aa⟩=Ab (I U l[m].2):=fun x=>by rw [(bt c x.below).cell (by exact j)];exact (f m d).2
   have d0:∀ x:Bw wr,x.to.cell? ⟨gb,ob+m * 2,Aa⟩=Ab (.string l[m].1):=fun x=>by rw [(bt c x.below).cell (by exact k)];exact (g m d).1
   have d1:∀ x:Bw wr,x.to.cell? ⟨gb,ob+m * 2+1,Aa⟩=Ab (I U l[m].2):=fun x=>by rw [(bt c x.below).cell (by exact k)];exact (g m d).2
   have e0:=sfC l[m].1 l[m].2;have e1:=sfCg;clear f g;go_wp2;refine rb ?_;repeat (go_big_quiet_step (fail))
   refine qnn fun x=>?_
   go_wp2
   go_roundw
   case rel=>exact ⟨m+1,by omega,by go_num,bt c x.below⟩
   case measure=>simp [intOf];omega
  ·go_wp2;go_ret;exact ⟨rfl,c⟩
theorem sameUndos_yes (l:List UN) (a b:Value) (w:World) (ha:yM w a 3 kK l) (hb:yM w b 3 kK l) (hl:(l.length:Int)<=1048576) :
  Calls prog 61 #[a,b] w fun e w'=>e=.returned (.bool true)/\Be w w':=by
 obtain ⟨a,ca,rfl,k⟩:=ha;obtain ⟨b,cb,rfl,n⟩:=hb;have HA:=hid k;have HB:=hid n;clear k n;go_enter func61,ntmps61;go_wp2
 go_loopw [5] (fun i wr=>∃ m:Nat,m<=l.length/\i=I U m/\Be w wr) (fun i _=>l.length - (intOf i).toNat)
 case atStart=>exact ⟨0,Ae _,rfl,br _ _⟩
 case round=>
  obtain ⟨m,hm,rfl,c⟩:=hrel
  by_cases hlt:(m:Int) < l.length
  ·have q0:(0:Int)<=(m:Int):=by omega
   have d:m < l.length:=by omega
   obtain ⟨ga,oa,rfl,h,f⟩:=HA (by omega);obtain ⟨gb,ob,rfl,j,g⟩:=HB (by omega);have o:=yX wr;have c0:∀ x:Bw wr,x.to.cell? ⟨ga,oa+m * 3,Aa⟩=Ab (.string l[m].1):=fun x=>by rw [(bt c x.below).cell (by exact h)];exact f m d 0 (by omega)
   have c1:∀ x:Bw wr,x.to.cell? ⟨ga,oa+m * 3+1,Aa⟩=Ab (.bool l[m].2.1):=fun x=>by rw [(bt c x.below).cell (by exact h)];exact f m d 1 (by omega)
   have c2:∀ x:Bw wr,x.to.cell? ⟨ga,oa+m * 3+2,Aa⟩=Ab (I U l[m].2.2):=fun x=>by rw [(bt c x.below).cell (by exact h)];exact f m d 2 (by omega)
   have d0:∀ x:Bw wr,x.to.cell? ⟨gb,ob+m * 3,Aa⟩=Ab (.string l[m].1):=fun x=>by rw [(bt c x.below).cell (by exact j)];exact g m d 0 (by omega)
   have d1:∀ x:Bw wr,x.to.cell? ⟨gb,ob+m * 3+1,Aa⟩=Ab (.bool l[m].2.1):=fun x=>by rw [(bt c x.below).cell (by exact j)];exact g m d 1 (by omega)
   have d2:∀ x:Bw wr,x.to.cell? ⟨gb,ob+m * 3+2,Aa⟩=Ab (I U l[m].2.2):=fun x=>by rw [(bt c x.below).cell (by exact j)];exact g m d 2 (by omega)
   have e0:=sfU l[m].1 l[m].2.1 l[m].2.2;have e1:=sfUg;clear f g;go_wp2;refine rb ?_;repeat (go_big_quiet_step (fail))
   refine qnn fun x=>?_
   go_wp2
   go_roundw
   case rel=>exact ⟨m+1,by omega,by go_num,bt c x.below⟩
   case measure=>simp [intOf];omega
  ·go_wp2;go_ret;exact ⟨rfl,c⟩
theorem sameVotes_yes (l:List VT) (a b:Value) (w:World) (ha:yM w a 4 xD l) (hb:yM w b 4 xD l) (hl:(l.length:Int)<=1048576) :
  Calls prog 62 #[a,b] w fun e w'=>e=.returned (.bool true)/\Be w w':=by
 obtain ⟨a,ca,rfl,k⟩:=ha;obtain ⟨b,cb,rfl,n⟩:=hb;have HA:=hid k;have HB:=hid n;clear k n;go_enter func62,ntmps62;go_wp2
 go_loopw [5] (fun i wr=>∃ m:Nat,m<=l.length/\i=I U m/\Be w wr) (fun i _=>l.length - (intOf i).toNat)
 case atStart=>exact ⟨0,Ae _,rfl,br _ _⟩
 case round=>
  obtain ⟨m,hm,rfl,c⟩:=hrel
  by_cases hlt:(m:Int) < l.length
  ·have q0:(0:Int)<=(m:Int):=by omega
   have d:m < l.length:=by omega
   obtain ⟨ga,oa,rfl,h,f⟩:=HA (by omega);obtain ⟨gb,ob,rfl,j,g⟩:=HB (by omega);have o:=yX wr;have c0:∀ x:Bw wr,x.to.cell? ⟨ga,oa+m * 4,Aa⟩=Ab (I U l[m].1):=fun x=>by rw [(bt c x.below).cell (by exact h)];exact f m d 0 (by omega)
   have c1:∀ x:Bw wr,x.to.cell? ⟨ga,oa+m * 4+1,Aa⟩=Ab (I U l[m].2.1):=fun x=>by rw [(bt c x.below).cell (by exact h)];exact f m d 1 (by omega)
   have c2:∀ x:Bw wr,x.to.cell? ⟨ga,oa+m * 4+2,Aa⟩=Ab (I U l[m].2.2.1):=fun x=>by rw [(bt c x.below).cell (by exact h)];exact f m d 2 (by omega)
   have c3:∀ x:Bw wr,x.to.cell? ⟨ga,oa+m * 4+3,Aa⟩=Ab (I U l[m].2.2.2):=fun x=>by rw [(bt c x.below).cell (by exact h)];exact f m d 3 (by omega)
   have d0:∀ x:Bw wr,x.to.cell? ⟨gb,ob+m * 4,Aa⟩=Ab (I U l[m].1):=fun x=>by rw [(bt c x.below).cell (by exact j)];exact g m d 0 (by omega)
   have d1:∀ x:Bw wr,x.to.cell? ⟨gb,ob+m * 4+1,Aa⟩=Ab (I U l[m].2.1):=fun x=>by rw [(bt c x.below).cell (by exact j)];exact g m d 1 (by omega)
   have d2:∀ x:Bw wr,x.to.cell? ⟨gb,ob+m * 4+2,Aa⟩=Ab (I U l[m].2.2.1):=fun x=>by rw [(bt c x.below).cell (by exact j)];exact g m d 2 (by omega)
   have d3:∀ x:Bw wr,x.to.cell? ⟨gb,ob+m * 4+3,Aa⟩=Ab (I U l[m].2.2.2):=fun x=>by rw [(bt c x.below).cell (by exact j)];exact g m d 3 (by omega)
   have e0:=sfV l[m].1 l[m].2.1 l[m].2.2.1 l[m].2.2.2;have e1:=sfVg;clear f g;go_wp2;refine rb ?_;repeat (go_big_quiet_step (fail))
   refine qnn fun x=>?_
   go_wp2
   go_roundw
   case rel=>exact ⟨m+1,by omega,by go_num,bt c x.below⟩
   case measure=>simp [intOf];omega
  ·go_wp2;go_ret;exact ⟨rfl,c⟩
theorem sameLetters_yes (l:List LT) (a b:Value) (w:World) (ha:yM w a 13 yE l) (hb:yM w b 13 yE l) (hl:(l.length:Int)<=1048576) :
  Calls prog 38 #[a,b] w fun e w'=>e=.returned (.bool true)/\Be w w':=by
 obtain ⟨a,ca,rfl,k⟩:=ha;obtain ⟨b,cb,rfl,n⟩:=hb;have HA:=hid k;have HB:=hid n;clear k n;go_enter func38,ntmps38;go_wp2
 go_loopw [5] (fun i wr=>∃ m:Nat,m<=l.length/\i=I U m/\Be w wr) (fun i _=>l.length - (intOf i).toNat)
 case atStart=>exact ⟨0,Ae _,rfl,br _ _⟩
 case round=>
  obtain ⟨m,hm,rfl,c⟩:=hrel
  by_cases hlt:(m:Int) < l.length
  ·have q0:(0:Int)<=(m:Int):=by omega
   have d:m < l.length:=by omega
   obtain ⟨ga,oa,rfl,h,f⟩:=HA (by omega);obtain ⟨gb,ob,rfl,j,g⟩:=HB (by omega);have p:=yX wr;have c0:∀ x:Bw wr,x.to.cell? ⟨ga,oa+m * 13,Aa⟩=Ab (I U l[m].1.1):=fun x=>by rw [(bt c x.below).cell (by exact h)];exact f m d 0 (by omega)
   have c1:∀ x:Bw wr,x.to.cell? ⟨ga,oa+m * 13+1,Aa⟩=Ab (I U l[m].1.2.1):=fun x=>by rw [(bt c x.below).cell (by exact h)];exact f m d 1 (by omega)
   have c2:∀ x:Bw wr,x.to.cell? ⟨ga,oa+m * 13+2,Aa⟩=Ab (I U l[m].1.2.2.1):=fun x=>by rw [(bt c x.below).cell (by exact h)];exact f m d 2 (by omega)
   have c3:∀ x:Bw wr,x.to.cell? ⟨ga,oa+m * 13+3,Aa⟩=Ab (I U l[m].1.2.2.2.1):=fun x=>by rw [(bt c x.below).cell (by exact h)];exact f m d 3 (by omega)
   have c4:∀ x:Bw wr,x.to.cell? ⟨ga,oa+m * 13+4,Aa⟩=Ab (I U l[m].1.2.2.2.2):=fun x=>by rw [(bt c x.below).cell (by exact h)];exact f m d 4 (by omega)
   have c5:∀ x:Bw wr,x.to.cell? ⟨ga,oa+m * 13+5,Aa⟩=Ab (I U l[m].2.1.1):=fun x=>by rw [(bt c x.below).cell (by exact h)];exact f m d 5 (by omega)
   have c6:∀ x:Bw wr,x.to.cell? ⟨ga,oa+m * 13+6,Aa⟩=Ab (I U l[m].2.1.2.1):=fun x=>by rw [(bt c x.below).cell (by exact h)];exact f m d 6 (by omega)
   have c7:∀ x:Bw wr,x.to.cell? ⟨ga,oa+m * 13+7,Aa⟩=Ab (I U l[m].2.1.2.2.1):=fun x=>by rw [(bt c x.below).cell (by exact h)];exact f m d 7 (by omega)
   have c8:∀ x:Bw wr,x.to.cell? ⟨ga,oa+m * 13+8,Aa⟩=Ab (I U l[m].2.1.2.2.2):=fun x=>by rw [(bt c x.below).cell (by exact h)];exact f m d 8 (by omega)
   have c9:∀ x:Bw wr,x.to.cell? ⟨ga,oa+m * 13+9,Aa⟩=Ab (I U l[m].2.2.1):=fun x=>by rw [(bt c x.below).cell (by exact h)];exact f m d 9 (by omega)
   have u:∀ x:Bw wr,x.to.cell? ⟨ga,oa+m * 13+10,Aa⟩=Ab (I U l[m].2.2.2.1):=fun x=>by rw [(bt c x.below).cell (by exact h)];exact f m d 10 (by omega)
   have v:∀ x:Bw wr,x.to.cell? ⟨ga,oa+m * 13+11,Aa⟩=Ab (I U l[m].2.2.2.2.1):=fun x=>by rw [(bt c x.below).cell (by exact h)];exact f m d 11 (by omega)
   have t:∀ x:Bw wr,x.to.cell? ⟨ga,oa+m * 13+12,Aa⟩=Ab (I U l[m].2.2.2.2.2):=fun x=>by rw [(bt c x.below).cell (by exact h)];exact f m d 12 (by omega)
   have d0:∀ x:Bw wr,x.to.cell? ⟨gb,ob+m * 13,Aa⟩=Ab (I U l[m].1.1):=fun x=>by rw [(bt c x.below).cell (by exact j)];exact g m d 0 (by omega)
   have d1:∀ x:Bw wr,x.to.cell? ⟨gb,ob+m * 13+1,Aa⟩=Ab (I U l[m].1.2.1):=fun x=>by rw [(bt c x.below).cell (by exact j)];exact g m d 1 (by omega)
   have d2:∀ x:Bw wr,x.to.cell? ⟨gb,ob+m * 13+2,Aa⟩=Ab (I U l[m].1.2.2.1):=fun x=>by rw [(bt c x.below).cell (by exact j)];exact g m d 2 (by omega)
   have d3:∀ x:Bw wr,x.to.cell? ⟨gb,ob+m * 13+3,Aa⟩=Ab (I U l[m].1.2.2.2.1):=fun x=>by rw [(bt c x.below).cell (by exact j)];exact g m d 3 (by omega)
   have d4:∀ x:Bw wr,x.to.cell? ⟨gb,ob+m * 13+4,Aa⟩=Ab (I U l[m].1.2.2.2.2):=fun x=>by rw [(bt c x.below).cell (by exact j)];exact g m d 4 (by omega)
   have d5:∀ x:Bw wr,x.to.cell? ⟨gb,ob+m * 13+5,Aa⟩=Ab (I U l[m].2.1.1):=fun x=>by rw [(bt c x.below).cell (by exact j)];exact g m d 5 (by omega)
   have d6:∀ x:Bw wr,x.to.cell? ⟨gb,ob+m * 13+6,Aa⟩=Ab (I U l[m].2.1.2.1):=fun x=>by rw [(bt c x.below).cell (by exact j)];exact g m d 6 (by omega)
   have d7:∀ x:Bw wr,x.to.cell? ⟨gb,ob+m * 13+7,Aa⟩=Ab (I U l[m].2.1.2.2.1):=fun x=>by rw [(bt c x.below).cell (by exact j)];exact g m d 7 (by omega)
   have d8:∀ x:Bw wr,x.to.cell? ⟨gb,ob+m * 13+8,Aa⟩=Ab (I U l[m].2.1.2.2.2):=fun x=>by rw [(bt c x.below).cell (by exact j)];exact g m d 8 (by omega)
   have d9:∀ x:Bw wr,x.to.cell? ⟨gb,ob+m * 13+9,Aa⟩=Ab (I U l[m].2.2.1):=fun x=>by rw [(bt c x.below).cell (by exact j)];exact g m d 9 (by omega)
   have o:∀ x:Bw wr,x.to.cell? ⟨gb,ob+m * 13+10,Aa⟩=Ab (I U l[m].2.2.2.1):=fun x=>by rw [(bt c x.below).cell (by exact j)];exact g m d 10 (by omega)
   have s:∀ x:Bw wr,x.to.cell? ⟨gb,ob+m * 13+11,Aa⟩=Ab (I U l[m].2.2.2.2.1):=fun x=>by rw [(bt c x.below).cell (by exact j)];exact g m d 11 (by omega)
   have r:∀ x:Bw wr,x.to.cell? ⟨gb,ob+m * 13+12,Aa⟩=Ab (I U l[m].2.2.2.2.2):=fun x=>by rw [(bt c x.below).cell (by exact j)];exact g m d 12 (by omega)
   have e0:=sfL l[m].1.1 l[m].1.2.1 l[m].1.2.2.1 l[m].1.2.2.2.1 l[m].1.2.2.2.2 l[m].2.1.1 l[m].2.1.2.1 l[m].2.1.2.2.1 l[m].2.1.2.2.2 l[m].2.2.1 l[m].2.2.2.1 l[m].2.2.2.2.1 l[m].2.2.2.2.2;have e1:=sfLg;clear f g;go_wp2;refine rb ?_;repeat (go_big_quiet_step (fail))
   refine qnn fun x=>?_
   go_wp2
   go_roundw
   case rel=>exact ⟨m+1,by omega,by go_num,bt c x.below⟩
   case measure=>simp [intOf];omega
  ·go_wp2;go_ret;exact ⟨rfl,c⟩
theorem samePeer_yes (p:PE) (s t:PV) (w:World) (ha:jS w p s) (hb:jS w p t) (hs:yC p) :
  Calls prog 22 #[yZ p s,yZ p t] w fun e w'=>e=.returned (.bool true)/\Be w w':=by
 have HA:=hid ha;have HB:=hid hb;have HS:=hid hs;clear ha hb hs;obtain ⟨W,hW⟩:=nw ((w.alloc (.cells (zA p s) 35)).alloc (.cells (zA p t) 35));have HW:Hid (Bx W w.heap.size (zA p s) 35/\Bx W (w.heap.size+1) (zA p t) 35/\Be w W):=hid (by rw [hW];exact ⟨(qK w _ _).1,(qK w _ _).2,ba (ba (br _ _) _) _⟩);have e0:=sfQ p.high.1 p.high.2.1 p.high.2.2.1 p.high.2.2.2;have e1:=sfQ p.lock.1 p.lock.2.1 p.lock.2.2.1 p.lock.2.2.2;have e2:=sfQg;have e3:=sfV p.last.1 p.last.2.1 p.last.2.2.1 p.last.2.2.2;have e4:=sfVg;have c0:=zB HW.1 0 (I U p.id) rfl;have c1:=zB HW.1 1 (I U p.view) rfl;have c2:=zB HW.1 2 (I U p.high.1) rfl;have c3:=zB HW.1 3 (I U p.high.2.1) rfl;have c4:=zB HW.1 4 (I U p.high.2.2.1) rfl;have c5:=zB HW.1 5 (I U p.high.2.2.2) rfl;have c6:=zB HW.1 6 (I U p.lock.1) rfl;have c7:=zB HW.1 7 (I U p.lock.2.1) rfl;have c8:=zB HW.1 8 (I U p.lock.2.2.1) rfl;have c9:=zB HW.1 9 (I U p.lock.2.2.2) rfl;have o:=zB HW.1 10 (I U p.last.1) rfl;have u:=zB HW.1 11 (I U p.last.2.1) rfl;have n:=zB HW.1 12 (I U p.last.2.2.1) rfl;have k:=zB HW.1 13 (I U p.last.2.2.2) rfl;have l:=zB HW.1 14 (s.row) rfl;have d0:=zB HW.2.1 0 (I U p.id) rfl;have d1:=zB HW.2.1 1 (I U p.view) rfl;have d2:=zB HW.2.1 2 (I U p.high.1) rfl;have d3:=zB HW.2.1 3 (I U p.high.2.1) rfl;have d4:=zB HW.2.1 4 (I U p.high.2.2.1) rfl;have d5:=zB HW.2.1 5 (I U p.high.2.2.2) rfl;have d6:=zB HW.2.1 6 (I U p.lock.1) rfl;have d7:=zB HW.2.1 7 (I U p.lock.2.1) rfl;have d8:=zB HW.2.1 8 (I U p.lock.2.2.1) rfl;have d9:=zB HW.2.1 9 (I U p.lock.2.2.2) rfl;have h:=zB HW.2.1 10 (I U p.last.1) rfl;have m:=zB HW.2.1 11 (I U p.last.2.1) rfl;have j:=zB HW.2.1 12 (I U p.last.2.2.1) rfl;have i:=zB HW.2.1 13 (I U p.last.2.2.2) rfl;have r:=zB HW.2.1 14 (t.row) rfl;rw [hW] at c0 c1 c2 c3 c4 c5 c6 c7 c8 c9 o u n k l d0 d1 d2 d3 d4 d5 d6 d7 d8 d9 h m j i r;go_enter func22,ntmps22;go_wp2_with fail
 rw [<- hW];clear hW;refine (sameInts_yes p.row s.row t.row W (HA.row.below HW.2.2) (HB.row.below HW.2.2) HS.row).mono ?_;rintro e x0 ⟨rfl,hb⟩;have b:=hid (qad3 (bk hb HW.1) (bk hb HW.2.1) (bt HW.2.2 hb));clear hb HW c0 c1 c2 c3 c4 c5 c6 c7 c8 c9 o u n k l d0 d1 d2 d3 d4 d5 d6 d7 d8 d9 h m j i r;have af:=zB b.1 15 (s.cells) rfl;have z:=zB b.2.1 15 (t.cells) rfl;clear e0 e1 e2 e3 e4;go_wp2_with fail
 refine (sameCells_yes p.cells s.cells t.cells x0 (HA.cells.below b.2.2) (HB.cells.below b.2.2) HS.cells).mono ?_;rintro e x1 ⟨rfl,hb⟩;have f:=hid (qad3 (bk hb b.1) (bk hb b.2.1) (bt b.2.2 hb));clear hb b af z;have x:=zB f.1 16 (s.early) rfl;have ae:=zB f.2.1 16 (t.early) rfl;go_wp2_with fail
 refine (sameInts_yes p.early s.early t.early x1 (HA.early.below f.2.2) (HB.early.below f.2.2) HS.early).mono ?_;rintro e x2 ⟨rfl,hb⟩;have c:=hid (qad3 (bk hb f.1) (bk hb f.2.1) (bt f.2.2 hb));clear hb f x ae;have aa:=zB c.1 17 (s.undos) rfl;have ab:=zB c.2.1 17 (t.undos) rfl;go_wp2_with fail
 refine (sameUndos_yes p.undos s.undos t.undos x2 (HA.undos.below c.2.2) (HB.undos.below c.2.2) HS.undos).mono ?_;rintro e x3 ⟨rfl,hb⟩;have a:=hid (qad3 (bk hb c.1) (bk hb c.2.1) (bt c.2.2 hb));clear hb c aa ab;have v:=zB a.1 18 (s.votes) rfl;have ac:=zB a.2.1 18 (t.votes) rfl;go_wp2_with fail
 refine (sameVotes_yes p.votes s.votes t.votes x3 (HA.votes.below a.2.2) (HB.votes.below a.2.2) HS.votes).mono ?_;rintro e x4 ⟨rfl,hb⟩;have d:=hid (qad3 (bk hb a.1) (bk hb a.2.1) (bt a.2.2 hb));clear hb a v ac;have y:=zB d.1 19 (s.news) rfl;have ad:=zB d.2.1 19 (t.news) rfl;go_wp2_with fail
 refine (sameLetters_yes p.news s.news t.news x4 (HA.news.below d.2.2) (HB.news.below d.2.2) HS.news).mono ?_;rintro e x5 ⟨rfl,hb⟩;have g:=hid (qad3 (bk hb d.1) (bk hb d.2.1) (bt d.2.2 hb));clear hb d y ad;have ag:=zB g.1 20 (I U p.shown) rfl;have ah:=zB g.2.1 20 (I U p.shown) rfl;go_wp2;go_ret;exact ⟨rfl,g.2.2⟩
open Go.ChangeShapes Go.WideShapes Go.ChangeAt
theorem code_of {W:World} {a:Option Addr} {len cap:Nat} {zs:List Int} (hle:len<=1048576) (hz:len<=zs.length) (ha:a=none->len=0) (hcell:∀ x,a=some x->∀ i,i < zs.length->W.cell? (x.add i)=Ab (.int .u8 (zs.getD i 0))) (hwz:∀ n∈zs,(Lit.int .u8 n).wf=true) (_hc:len<=cap) :
  ∃ b off,Code W a len b off:=by
 by_cases h0:len=0
 ·subst h0;exact ⟨0,0,⟨by omega,fun h=>absurd h (by omega),fun k hk=>absurd hk (by omega),fun h=>absurd h (by omega)⟩⟩
 ·cases a with
  | none=>exact absurd (ha rfl) h0
  | some x=>
   obtain ⟨b,off,f⟩:=x;have h1:=hcell _ rfl;have c:f=none:=by simpa [Addr.add] using World.cell?_spot (h1 0 (by omega))
   subst c
   have h2:∀ k,k < len->W.cell? ⟨b,off+k,Aa⟩=Ab (.int .u8 (zs.getD k 0)):=fun k hk=>by
    have hp:(⟨b,off,Aa⟩:Addr).add k=⟨b,off+k,Aa⟩:=by unfold Addr.add;split <;> simp_all
    rw [<- hp];exact h1 k (by omega)
   refine ⟨b,off,⟨hle,fun _=>rfl,fun k hk=>⟨zs.getD k 0,?_,?_,h2 k hk⟩,fun _=>World.block_lt_of_cell? W _ (h2 0 (by omega))⟩⟩
   all_goals
    have d:k < zs.length:=by omega
    have hm:zs.getD k 0∈zs:=by
     have e:zs.getD k 0=zs[k]:=by simp [List.getD,List.getElem?_eq_getElem d]
     rw [e];exact Ag d
    have:=bounds_u8 (hwz _ hm);omega
theorem code_open {H:Type} {enc:TypeId × Value->H} {W:World} {a:Option Addr} {len cap:Nat} {d:DataW H} {p:List MemPlace} (hlen:¬ (1048576:Int) < len) (h:DataW.Trod enc prog W 0 (fun _=>true) true 22 (.slice a len cap) d p):∃ b off,Code W a len b off:=by
 obtain ⟨j,hf⟩:=h
 rcases open_ints underlying22 underlying5 (by kernel_rfl) hf with ⟨e,_⟩ | ⟨x,l,c,zs,e,_,hl,hm,hz,_,f,g⟩
 ·simp [Value.cells] at e;obtain ⟨rfl,rfl,rfl⟩:=e;exact code_of (zs:=[]) (cap:=0) (by omega) (Ae _) (fun _=>rfl) (fun x h=>by cases h) (fun n h=>by cases h) (nl _)
 ·simp [Value.cells] at e;obtain ⟨rfl,rfl,rfl⟩:=e;exact code_of (zs:=zs) (by omega) (by have:zs.length=cap:=(by simpa using hz);omega) (fun h=>by cases h) (fun y h i hi=>by cases h;exact f i hi) g hl
end Go.Proofs.YtfnneillakdopacGreatR
