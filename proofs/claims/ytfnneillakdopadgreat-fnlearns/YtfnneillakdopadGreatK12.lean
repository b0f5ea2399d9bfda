/-
  Texts of ours that later ones lean on, in one: ThrI, UndoI, BackI, EarI, BitN, QcI, ChnI, SameI, SameP, CodeOf.
-/
import Derived.Test.YtfnneillakdopadGreatK1
import Derived.Test.YtfnneillakdopadGreatK11
import Derived.Test.YtfnneillakdopadGreatThrSZ
import Derived.Test.YtfnneillakdopadGreatK3
import Derived.Test.YtfnneillakdopadGreatK10
import Derived.Deep.RegionHeld3
import Derived.Test.YtfnneillakdopadGreatK4
import Derived.Test.YtfnneillakdopadGreatEarSZ
import Derived.Laws.Bits64b
import Derived.BigQuiet
import Derived.OpenShut
import Derived.Laws.StructEq
import Derived.Test.YtfnneillakdopadGreatK9
import Derived.ProofKit
import Derived.ChangeOld
set_option maxRecDepth 100000
set_option maxHeartbeats 32000000
namespace Go.Proofs.YtfnneillakdopadGreat
open _root_.Go.Proofs.Tryz
open Go.Value renaming int->I,oneCell'->Ak,string->Am
open Go.IntKind renaming i64->U
open Option renaming none->Aa,some->Ab
open Nat renaming le_trans->Ac,lt_of_lt_of_le->Ad,zero_le->Ae
open Option.some renaming inj->Af
open List renaming getElem_mem->Ag,take_length->An
open Go.World.ownsRow renaming kept->Ah,alloc->Ai
open _root_.Array renaming replicate->Aj
open _root_.ByteArray renaming empty->Al
open Go.RowKit Num
variable {cap n:Nat} {a:Option Addr}
theorem Bx2.grow {w y x:World} {base m:Nat} {A Z:Array Value} {e:TypeId} {v:Value} {xs:List Value} (h:Bx2 w y A Z) (ho:y.ownsRow base e m v n xs) (hne:e ≠ 35) (hb:w.heap.size<=base) (hg:y.grownBy x v.ownBlock):Bx2 w x A Z:=by
 have:=h.lt;exact ⟨h.below.grown hg h.below.size (fun k hk=>Ac hb (ho.lt k hk).1),(hg.block _ (by omega) (ne_own (zH ho h.box hne))).trans h.box,(hg.block _ (by omega) (ne_own (zH ho h.zero hne))).trans h.zero⟩
theorem throughR_i (ps:TL) (v:Value) (p:PE) (s:PV) (k:Int) (w:World) (hT:jB w v ps) (hk:okT (bks ps)) (hR:jS w p s) (hs:yC p) :
  Calls prog 47 #[v,yZ p s,I U k] w fun e w'=>∃ s',e=.returned (yZ (kO (bks ps) p k) s')/\zO w.heap.size w'.heap.size w' (kO (bks ps) p k) s'/\Be w w':=by
 have HT:=hid hT;have HK:=hid hk;have HR:=hid hR;have HS:=hid hs;have bd:(ps.length:Int)<=1048576:=by have:=hk.1;rw [yO] at this;exact this
 have b0:=hs.row;have bh:Hid ((bks ps).length=ps.length):=yO ps;obtain ⟨ii,b3,a6,bj,bp⟩:=info_parts infoIntL;obtain ⟨cf,b5,rfl,-⟩:=HT.1;clear hT hk hR hs;obtain ⟨W,hW⟩:=nw ((w.alloc (.cells (zA p s) 35)).alloc (.cells zF 35));have HW:Hid (Bx2 w W (zA p s) zF):=hid (by rw [hW];exact two_boxes w _ _);have a3:=zB HW.box 14 s.row rfl;unfold zF at hW;go_enter func47,ntmps47;go_wp2_with (rw [<- hW];clear hW)
 refine (lastOf_i p.row s.row W (HR.below HW.below).row b0).mono ?_;rintro e W' ⟨rfl,hw⟩;obtain rfl:=hw.symm;clear hw a3;obtain ⟨u,hu⟩:=nw (qS p.row);have HU:Hid (qS p.row=u):=hu.symm;rw [<- hu];clear hu;go_wp2_with fail
 refine (extends_i ps _ k u W (HT.below HW.below) bd).mono ?_;rintro e x0 ⟨rfl,hb⟩;have d:Hid (Bx2 w x0 (zA p s) zF):=HW.more hb;clear hb HW
 by_cases hx:yBI (bks ps) k u=true
 ·have HE:Hid (kO (bks ps) p k=jW (bks ps) (jC p) (kB (bks ps) k u)):=(by unfold kO;rw [HU.out,if_pos hx]:kO (bks ps) p k=_);rw [hx];clear hx;go_wp2_with (refine w_ld w.heap.size d.box underlying35 ?_)
  refine (withoutEarly_i p s x0 (HR.below d.below) HS).mono ?_;rintro e x1 ⟨s3,rfl,ho,hb⟩;have n:Hid (zO w.heap.size x1.heap.size x1 (jC p) s3):=ho.low d.below.size;have f:Hid (Bx2 w x1 (zA p s) zF):=d.more hb;clear ho hb d;obtain ⟨q,hq⟩:=nw (jC p);have a7:Hid (q.row=p.row/\okL q.cells):=hid (by rw [hq];exact ⟨rfl,okL_back HS⟩);rw [<- hq] at HE n;rw [<- hq];clear hq;go_wp2_with (refine w_st w.heap.size (zA q s3) f.box (zJ n.1) ?_;intro x4 hg hk hz;have o:Hid (Bx2 w x4 (zA q s3) zF):=f.put hg hk;have ab:Hid (zO w.heap.size x4.heap.size x4 q s3):=(n.boxed f.box hg).wide hg.size (nl _);clear hg hk hz f n)
  refine (rowAfter_i ps _ k u x4 (HT.below o.below) bd).mono ?_;rintro e x5 ⟨v5,rfl,ho,hb⟩;obtain ⟨L,hL⟩:=nw (kB (bks ps) k u);have bq:Hid (∀ x∈L,∃ j:Nat,x=(j:Int)/\j < ps.length):=hid (by rw [hL];intro x hx;have:=after_mem hx;rw [bh.out] at this;exact this);have cb:(L.length:Int)<=1048576:=by have:=zDA (bks ps) k u;rw [<- hL,bh.out] at this;omega
  rw [<- hL] at HE ho;have ac:Hid (x5.ownsRow x4.heap.size 3 1 v5 L.length (zE xJ L)):=ho;have ag:Hid (Bx2 w x5 (zA q s3) zF):=o.more hb;have ae:Hid (zO w.heap.size x4.heap.size x5 q s3):=ab.below hb;have b7:Hid (x4.heap.size<=x5.heap.size):=hb.size;obtain ⟨a5,c5,rfl,ah⟩:=zW jG ho;clear ah;clear hL ho hb o ab;go_wp2
  go_loopw [27] (fun i wr=>∃ (m:Nat) (tm:PV),m<=L.length/\i=I U (m:Int)/\Hid (Bx2 w wr (zA (jW (bks ps) q (L.take m)) tm) zF)/\Hid (zO w.heap.size wr.heap.size wr (jW (bks ps) q (L.take m)) tm)/\Hid (wr.ownsRow x4.heap.size 3 1 (.slice a5 L.length c5) L.length (zE xJ L))/\Hid (apart tm.row (.slice a5 L.length c5))/\Hid (x5.heap.size<=wr.heap.size)) (fun i _=>L.length - (intOf i).toNat)
  case atStart=>exact ⟨0,s3,Ae _,rfl,ag,thr_own _ _ (ae.wide b7 (nl _)),ac,yQ ae.2.1.l0 (fun g e=>⟨(ac.lt g e).1,(ac.lt g e).2⟩) (Or.inl (nl _)),nl _⟩
  case round=>
   obtain ⟨m,tm,hm,rfl,a,l,ap,aq,bn⟩:=hrel
   by_cases hlt:(m:Int) < L.length
   ·have au:m < L.length:=by omega
    obtain ⟨j,hj,ak⟩:=bq L[m] (Ag au);have HJ:Hid (L[m]=(j:Int)):=hj;have q0:(0:Int)<=(m:Int):=by omega
    have j0:(0:Int)<=(j:Int):=by omega
    have j1:(j:Int) < ps.length:=by omega
    obtain ⟨cc,ce,e5,ah⟩:=zW jG ap;injection e5 with b6 _ bx
    subst b6 bx;obtain ⟨g5,o5,rfl,bo,a8⟩:=ah (by omega);have hc:wr.cell? ⟨g5,o5+m,Aa⟩=Ab (I U (j:Int)):=by have:=a8 m au 0 (by omega);rw [HJ.out] at this;simpa [xJ] using this
    have bv:Hid (g5 < wr.heap.size):=bo;clear a8 bo ah hj;have ao:Hid ((jW (bks ps) q (L.take m)).row.length=p.row.length+m):=hid (by unfold jW;simp [a7.out.1];omega);have t:Hid (Be wr (wr.alloc (.cells #[I U (j:Int)] 3))):=(Below.refl wr.heap.size wr).alloc (nl _) _;have a3:=zB a.box 14 tm.row rfl;obtain ⟨q1,aj⟩:∃ q1:PE,q1={ (jW (bks ps) q (L.take m)) with row:=(jW (bks ps) q (L.take m)).row ++ [(j:Int)] }:=⟨_,rfl⟩;have bm:Hid ({ q1 with cells:=yD q1.cells ps[j].1.2.1 }=jW (bks ps) q (L.take (m+1))/\okL q1.cells):=(by rw [aj];exact ⟨thr_step au HJ ak,rowC_ok HK _ _ a7.2⟩:_/\okL q1.cells)
    go_wp2_with (first
     | (at_builtin;refine wpList_append_lies _ rfl (.tmp 32) (.tmp 34) 29 rfl w.heap.size 3 ii _ 1 8 underlying29 b3 a6 bj bp rfl (by decide) tm.row _ _ rfl (l.below t).1.row ⟨wr.heap.size,0,Aa⟩ 1 1 [I U (j:Int)] rfl rfl (World.news_of_block (heap_alloc_new wr _)) (by intro x hx;simp at hx;subst hx;rfl) (by decide) (by rw [ao.out];unfold maxLen;omega) (by rw [ao.out];omega) (by have:=a.lt;simp;omega) _ rfl ?_;intro g2 b y2 bb ad a2 an;have af:Hid (Bx2 w y2 (zA (jW (bks ps) q (L.take m)) tm) zF):=(a.more t).grow (l.below t).1.row (by decide) (nl _) ad;have a0:Hid (y2.ownsRow x4.heap.size 3 1 (.slice (Ab ⟨g5,o5,Aa⟩) L.length c5) L.length (zE xJ L)):=Ah (zS ap t) ad aq.symm.ne;have bk:Hid (zO w.heap.size y2.heap.size y2 q1 { tm with row:=.slice (Ab ⟨g2,0,Aa⟩) ((jW (bks ps) q (L.take m)).row.length+1) b }):=(by rw [aj];exact (l.below t).addRow ad bb (a2.imp id (fun e=>by rw [e];simp)) an:zO _ _ y2 q1 _);have bi:Hid (apart (.slice (Ab ⟨g2,0,Aa⟩) ((jW (bks ps) q (L.take m)).row.length+1) b) (.slice (Ab ⟨g5,o5,Aa⟩) L.length c5)):=(by intro g e e2;cases e;exact a2.elim (fun h=>aq _ h e2) (fun h=>by have e2:=Af e2;have:=bv.out;simp at e2 h;omega):apart _ _);have a4:Hid (wr.heap.size<=y2.heap.size):=Ac t.size ad.size;clear bb ad a2 an a3 hc)
     | (refine w_sc w.heap.size 14 (.slice (Ab ⟨g2,0,Aa⟩) ((jW (bks ps) q (L.take m)).row.length+1) b) af.box (by simp [zA]) rfl (zA q1 { tm with row:=.slice (Ab ⟨g2,0,Aa⟩) ((jW (bks ps) q (L.take m)).row.length+1) b }) (by rw [aj];rfl) ?_;intro y3 hg hk;have r:Hid (Bx2 w y3 (zA q1 { tm with row:=.slice (Ab ⟨g2,0,Aa⟩) ((jW (bks ps) q (L.take m)).row.length+1) b }) zF):=af.put hg hk;have am:Hid (zO w.heap.size y3.heap.size y3 q1 { tm with row:=.slice (Ab ⟨g2,0,Aa⟩) ((jW (bks ps) q (L.take m)).row.length+1) b }):=(bk.boxed af.box hg).wide hg.size (nl _);have bl:Hid (y3.ownsRow x4.heap.size 3 1 (.slice (Ab ⟨g5,o5,Aa⟩) L.length c5) L.length (zE xJ L)):=Ah a0 hg (zH a0 af.box (by decide));have b9:Hid (x5.heap.size<=y3.heap.size):=Ac bn (Ac a4 hg.size);clear hg hk af bk a0 a4))
    obtain ⟨t1,ax⟩:∃ t1:PV,t1={ tm with row:=.slice (Ab ⟨g2,0,Aa⟩) ((jW (bks ps) q (L.take m)).row.length+1) b }:=⟨_,rfl⟩;have b4:Hid (apart t1.row (.slice (Ab ⟨g5,o5,Aa⟩) L.length c5)):=(by rw [ax];exact bi.out:apart t1.row _);rw [<- ax] at r am;clear aj ax bi ao a l ap aq bn t;obtain ⟨cd,ca,et,bf⟩:=(HT.below r.below).1;injection et with b8 _ b1
    subst b8 b1;obtain ⟨gt,ot,rfl,bg,be⟩:=bf (by omega);obtain ⟨cv,a1⟩:=nw (ps[j].2);have al:Hid (yM y3 cv 3 kL ps[j].1.2.1/\okB ps[j].1):=hid (by rw [a1];exact ⟨(HT.below r.below).2 ps[j] (Ag ak),okT_at HK ak⟩);have ai:Hid (gt < y3.heap.size/\y3.cell? ⟨gt,ot+j * 7+2,Aa⟩=some cv):=⟨bg,by rw [a1];exact be j ak 2 (by omega)⟩;clear bg be a1 bf;refine p_rg (fun i=>decide (i < 8)) (fun x=>Bx x w.heap.size (zA q1 t1) 35/\x.cell? ⟨gt,ot+j * 7+2,Aa⟩=some cv) ?_;show zX prog _ _ _ _ _ (12+1) (Aj 13 false) _ _;have hS:Bx y3.drew w.heap.size (zA q1 t1) 35/\y3.drew.cell? ⟨gt,ot+j * 7+2,Aa⟩=some cv:=⟨r.box,ai.2⟩;refine p_pt 0 38 w.heap.size 15 hS ?_;refine zD 1 39 t1.cells hS ?_ (hy:=by intro x hx;have c:=zB hx.1 15 t1.cells rfl;go_simp;try rfl);refine zD 2 40 (.slice (Ab ⟨gt,ot,Aa⟩) ps.length b5) hS ?_;refine zD 3 41 (I U (j:Int)) hS ?_;refine p_pt 4 42 gt (ot+j * 7) hS ?_;refine p_pt 5 43 gt (ot+j * 7+2) hS ?_;refine zD 6 44 cv hS ?_ (hy:=by intro x hx;have c:=hx.2;go_simp;try rfl);refine kJ 7 45 91 #[t1.cells,cv] ((doneAll_i q1.cells ps[j].1.2.1 t1.cells cv y3.drew (am.reads.cells.below (br _ _).drew) (al.1.below (br _ _).drew) bm.2 al.2.1 al.2.2).mono ?_);rintro e y4 ⟨w1,w2,rfl,ho,-,-,a9⟩;have hb:=(bw y3).trans a9;have y:Hid (y4.ownsRow y3.heap.size 108 2 w1 (yD q1.cells ps[j].1.2.1).length (kM (yD q1.cells ps[j].1.2.1))):=ho;have o:Hid (Bx2 w y4 (zA q1 t1) zF):=r.more hb;have ab:Hid (zO w.heap.size y3.heap.size y4 q1 t1):=am.below hb;have ar:Hid (y4.ownsRow x4.heap.size 3 1 (.slice (Ab ⟨g5,o5,Aa⟩) L.length c5) L.length (zE xJ L)):=zS bl hb;have aw:=hid (qad2 r.out.below.size hb.size);have aa:Bx y4 w.heap.size (zA q1 t1) 35/\y4.cell? ⟨gt,ot+j * 7+2,Aa⟩=some cv:=⟨o.box,by rw [hb.cell (by exact ai.out.1)];exact ai.out.2⟩;clear ho hb a9 hS r am bl ai al;refine ⟨_,rfl,fun _=>aa,?_⟩;simp only [pz];refine p_pu 8 37 (.tuple #[w1,w2]) ?_ ?_
    ·intro x hx;go_simp
     try rfl
    simp only [pz];refine p_pu 9 46 w1 ?_ ?_
    ·intro x hx;go_simp
     try rfl
    simp only [pz];refine p_pu 10 47 w2 ?_ ?_
    ·intro x hx;go_simp
     try rfl
    simp only [pz];refine p_pu 11 48 (.pointer (Ab ⟨w.heap.size,15,Aa⟩)) ?_ ?_
    ·intro x hx;go_simp
     try rfl
    simp only [pz];refine p_ce 12 w.heap.size 15 w1 (zA q1 t1) (zA { q1 with cells:=yD q1.cells ps[j].1.2.1 } { t1 with cells:=w1 }) aa.1 (by simp [zA]) (zDH y) rfl ?_;intro y5 hg hk;have ag:Hid (Bx2 w y5 (zA { q1 with cells:=yD q1.cells ps[j].1.2.1 } { t1 with cells:=w1 }) zF):=o.put hg hk;have ae:Hid (zO w.heap.size y5.heap.size y5 { q1 with cells:=yD q1.cells ps[j].1.2.1 } { t1 with cells:=w1 }):=(ab.boxed aa.1 hg).setCells (Ac aw.2 hg.size) (nl _) (zN (Ah y hg (zH y aa.1 (by decide))) aw.1) (fun g e=>Ad (y.lt g e).2 hg.size) (fun g e=>Or.inr (y.lt g e).1);have ac:Hid (y5.ownsRow x4.heap.size 3 1 (.slice (Ab ⟨g5,o5,Aa⟩) L.length c5) L.length (zE xJ L)):=Ah ar hg (zH ar aa.1 (by decide));have bz:Hid (x5.heap.size<=y5.heap.size):=Ac b9 (Ac aw.2 hg.size);rw [bm.out.1] at ag ae;clear hg hk aa o ab ar y;refine ⟨fun h=>absurd h (by decide),?_⟩;refine p_do ?_;go_wp2
    go_roundw
    case rel=>exact ⟨m+1,{ t1 with cells:=w1 },by omega,by go_num,ag,ae,ac,b4,bz⟩
    case measure=>simp [intOf];omega
   ·have bu:m=L.length:=by omega
    subst bu;rw [An] at a l;obtain ⟨QQ,bc⟩:=nw (jW (bks ps) q L);rw [<- bc] at a l HE;clear bc
    go_wp2_with (first
     | (refine w_ld w.heap.size a.box underlying35 ?_)
     | (refine w_st (w.heap.size+1) (zA QQ tm) a.zero (zJ l.1) ?_;intro z hg hk hz;have az:Hid (Be w z):=a.below.grown hg a.below.size (qkk (by omega));have ay:Hid (Bx z (w.heap.size+1) (zA QQ tm) 35):=hk;have av:Hid (zO w.heap.size z.heap.size z QQ tm):=(l.boxed a.zero hg).wide hg.size (nl _);clear hg hk hz l a))
    refine b_cr (.agg (zA QQ tm)) results47 ay underlying35 ?_;rw [HE.out];exact ⟨_,rfl,av,az⟩
 ·have hx:yBI (bks ps) k u=false:=by simpa using hx
  have HE:Hid (kO (bks ps) p k=p):=hid (by unfold kO;rw [HU.out,if_neg (by rw [hx];decide)]);rw [hx];clear hx;go_wp2_with (refine w_ld w.heap.size d.box underlying35 ?_)
  refine (copyPeer_i p s x0 (HR.below d.below) HS).mono ?_;rintro e x1 ⟨s1,rfl,ho,hb⟩;have n:Hid (zO w.heap.size x1.heap.size x1 p s1):=ho.low d.below.size;have f:Hid (Bx2 w x1 (zA p s) zF):=d.more hb;clear ho hb d;go_wp2_with (refine w_st (w.heap.size+1) (zA p s1) f.zero (zJ n.1) ?_;intro z hg hk hz;have az:Hid (Be w z):=f.below.grown hg f.below.size (qkk (by omega));have ay:Hid (Bx z (w.heap.size+1) (zA p s1) 35):=hk;have av:Hid (zO w.heap.size z.heap.size z p s1):=(n.boxed f.zero hg).wide hg.size (nl _);clear hg hk hz n f)
  refine b_cr (.agg (zA p s1)) results47 ay underlying35 ?_;rw [HE.out];exact ⟨_,rfl,av,az⟩
open Go.Maps
theorem undo_next {w w':World} {t:TypeId} {u0 u1 u2:Value} (h:w.heap[n]?=Ab (.cells #[u0,u1,u2] t (0,0))) (hb:Be w w'):w'.heap[n]?=Ab (.cells #[u0,u1,u2] t (0,0)):=
 (hb.block n (gl h)).trans h
theorem undoOf_i (cs:CL) (v:Value) (key:ByteArray) (w:World) (hv:qQ w v cs) (hl:(cs.length:Int)<=1048576) (hk:(key.size:Int)<=1048576) :
  Calls prog 130 #[v,.string key] w fun e w'=>e=.returned (undoV (yDB cs key))/\Be w w':=by
 have HV:=hid hv;obtain ⟨a,cap,rfl,hr⟩:=hv;have HR:=hid hr;have n:key.size<=281474976710656:=by omega
 clear hr;go_enter func130,ntmps130;go_wp2_with fail
 have B1:Be w (w.alloc (.cells #[.string Al,.bool false,I U 0] 110)):=ba (br _ _) _;refine (cellAt_i cs _ key _ (HV.below B1) hl).mono ?_;rintro e w2 ⟨rfl,s⟩;have r:Hid (Bx w2 w.heap.size #[.string Al,.bool false,I U 0] 110):=undo_block s;have l:Hid (Be w w2):=bt B1 s;have x:w.heap.size < w2.heap.size:=(gl r);clear B1 s
 cases hh:zBB cs key with
 | false=>
  have m:cellAt cs key=-1:=cellAt_no hh;have HE:Hid (yDB cs key=(key,false,0)):=undo_no hh;rw [m];go_wp2_with fail
  refine (clone key _ n).mono ?_;rintro e w3 ⟨rfl,c⟩;obtain ⟨⟨x0,f0⟩,⟨x1,f1⟩,⟨x2,f2⟩,b,f⟩:=blk_three (undo_next r c) (.string key) (.bool false) (I U 0);have y0:=cell_of_row _ w.heap.size 0 _ _ (0,0) b;have y1:=cell_of_row _ w.heap.size 1 _ _ (0,0) b;have y2:=cell_of_row _ w.heap.size 2 _ _ (0,0) b;have p:Hid (World.grownBy _ _ (some w.heap.size)):=f;have h:Hid (Be w w3):=bt l c;clear b f c;go_wp2;refine bodyPost_ret (v:=.agg #[.string key,.bool false,I U 0]) (by simp [results,results130,go_sem,y0,y1,y2]) rfl ?_;refine ⟨?_,?_⟩
  ·rw [HE.out];rfl
  ·exact h.out.grown p h.size fun k hk=>by cases hk;exact nl _
 | true=>
  obtain ⟨j,hj,m,hu⟩:=undo_at hh;have HE:Hid (yDB cs key=(key,true,cs[j].2)):=hu;rw [m];clear hu m;obtain ⟨g,o,rfl,hg,hc⟩:=HR (by omega);have q0:(0:Int)<=(j:Int):=by omega
  have q1:(j:Int) < cs.length:=by omega
  have HS:Hid (∀ w',Be w2 w'->w'.cell? ⟨g,o+j * 2+1,Aa⟩=Ab (I U cs[j].2)):=fun w' hb=>by rw [(bt l hb).cell (by exact hg)];exact (hc j hj).2
  clear hc;go_wp2
  go_region_held3 (fun w'=>w'.cell? ⟨g,o+j * 2+1,Aa⟩=Ab (I U cs[j].2)) (first | exact HS _ (br _ _).drew | exact HS _ d | exact t) (first | (go_at_call 107;refine (clone _ _ n).mono ?_;rintro e w3 ⟨rfl,c⟩;have d:Be w2 w3:=(br _ _).drew.trans c;obtain ⟨⟨x0,f0⟩,⟨x1,f1⟩,⟨x2,f2⟩,b,f⟩:=blk_three (undo_next r d) (.string key) (.bool true) (I U cs[j].2);have t:=(yAD (i:=o+j * 2+1) f (Ad hg (bt l d).size) (fun e=>Nat.lt_irrefl _ ((Af e) ▸ hg))).trans (HS _ d)))
  all_goals
   have y0:=cell_of_row _ w.heap.size 0 _ _ (0,0) b;have y1:=cell_of_row _ w.heap.size 1 _ _ (0,0) b;have y2:=cell_of_row _ w.heap.size 2 _ _ (0,0) b;have p:Hid (World.grownBy _ _ (some w.heap.size)):=f;have h:Hid (Be w w3):=bt l d;clear b f c t x0 f0 x1 f1 x2 f2 d;go_wp2;refine bodyPost_ret (v:=.agg #[.string key,.bool true,I U cs[j].2]) (by simp [results,results130,go_sem,y0,y1,y2]) rfl ?_;refine ⟨?_,?_⟩
   ·rw [HE.out];rfl
   ·exact h.out.grown p h.size fun k hk=>by cases hk;exact nl _
theorem mapUndo_i (cs:CL) (b:Nat) (key:ByteArray) (w:World) (hm:MapIs w b cs) (hk:(key.size:Int)<=1048576) :
  Calls prog 131 #[.map (some b),.string key] w fun e w'=>e=.returned (undoV (yDB cs key))/\Be w w':=by
 have i:key.size<=281474976710656:=by omega
 have B1:Be w (w.alloc (.cells #[.string Al,.bool false,I U 0] 110)):=ba (br _ _) _;have n:=hm.below B1;obtain ⟨D,hD,a⟩:=n;have HD:=hid hD;have HK:Hid (keyOf prog 9 (.string key)=Ab (lk key)):=keyS hk;have o:Hid (Be w (w.alloc (.cells #[.string Al,.bool false,I U 0] 110))):=B1;have r:Hid ((w.alloc (.cells #[.string Al,.bool false,I U 0] 110)).heap[w.heap.size]?=Ab (.cells #[.string Al,.bool false,I U 0] 110 (0,0))):=heap_alloc_new w _;have g:Maps.has D (lk key)=zBB cs key:=a.2.1 key
 obtain ⟨n0,HC,HE⟩:∃ n0:Int,Hid (D.atKey (lk key) (i64D 0)=i64D n0)/\Hid (yDB cs key=(key,zBB cs key,n0)):=by
  cases hh:zBB cs key with
  | false=>exact ⟨0,atKey_of_not_has (by rw [g,hh]) _,undo_no hh⟩
  | true=>
   obtain ⟨d,p,x,hu⟩:=undo_find hh;exact ⟨d.2,(by have:=a.2.2 d p;rw [x] at this;exact this),hu⟩
 clear hD a hm B1;go_enter func131,ntmps131;go_wp2_with (at_lookup;refine wpList_lookup_own_ok_int _ rfl _ _ 167 rfl 9 3 U keyedS mapT underlying3 (zeroI _) b _ _ rfl HD _ _ rfl HK ?_;intro c j y;have e:c=n0:=(by have:=j.symm.trans HC;unfold i64D at this;injection this with t;injection t);subst e;clear j y)
 refine (clone key _ i).mono ?_;rintro e w3 ⟨rfl,h⟩;obtain ⟨⟨x0,f0⟩,⟨x1,f1⟩,⟨x2,f2⟩,f,l⟩:=blk_three (undo_next r h) (.string key) (.bool (zBB cs key)) (I U c);have y0:=cell_of_row _ w.heap.size 0 _ _ (0,0) f;have y1:=cell_of_row _ w.heap.size 1 _ _ (0,0) f;have y2:=cell_of_row _ w.heap.size 2 _ _ (0,0) f;have s:Hid (World.grownBy _ _ (some w.heap.size)):=l;have m:Hid (Be w w3):=bt o h;clear f l h g;go_wp2;refine bodyPost_ret (v:=.agg #[.string key,.bool (zBB cs key),I U c]) (by simp [results,results131,go_sem,y0,y1,y2]) rfl ?_;refine ⟨?_,?_⟩
 ·rw [HE.out];rfl
 ·exact m.out.grown s m.size fun k hk=>by cases hk;exact nl _
theorem doneBack_i (cs:CL) (l:List CM) (v u:Value) (w:World) (hv:qQ w v cs) (hu:yM w u 3 kL l) (hok:okL cs) (hl:(l.length:Int)<=1048576) (hall:∀ c∈l,(c.2.1.size:Int)<=1048576) :
  Calls prog 92 #[v,u] w fun e w'=>∃ v1 v2,e=.returned (.tuple #[v1,v2])/\w'.ownsRow w.heap.size 108 2 v1 (yD cs l).length (kM (yD cs l))/\w'.ownsRow w.heap.size 110 3 v2 (jQ cs l).length (zE kK (jQ cs l))/\(v1.ownBlock=none∨v1.ownBlock ≠ v2.ownBlock)/\Be w w':=by
 have HV:=hid hv;have HL:=hid hok;have HA:=hid hall;have h1:=hok.1;obtain ⟨a,cap,rfl,_⟩:=hv;obtain ⟨b,bk,rfl,hr⟩:=hu;have HR:=hid hr;obtain ⟨i0,hi,aj,ai,ap⟩:=info_parts infoUndo;clear hall hr hok;go_enter func92,ntmps92;go_wp2_with (at_make;refine wpList_make_own _ rfl _ _ 31 rfl w.heap.size 110 i0 _ 3 underlying31 hi aj ai _ _ _ l.length rfl rfl rfl (by rw [ap];omega) (by unfold maxLen;omega) (nl _) ?_;intro w0 ae y)
 have B0:Be w w0:=(br _ _).grown y (nl _) (fun k h=>by cases h);have a0:Hid (w0.ownsRow w.heap.size 110 3 (.slice (Ab ⟨w.heap.size,0,Aa⟩) 0 l.length) 0 []):=ae;have ao:Hid (Be w w0):=B0;clear ae y B0;refine (cellsOk_i cs _ w0 (HV.below ao) HL.1 HL.2).mono ?_;rintro e w1 ⟨rfl,al⟩;have a1:Hid (w1.ownsRow w.heap.size 110 3 (.slice (Ab ⟨w.heap.size,0,Aa⟩) 0 l.length) 0 []):=zS a0 al;have ag:Hid (Be w w1):=bt ao al;clear al a0 ao
 cases ab:kS cs with
 | false=>
  have bi:Hid (yD cs l=cs):=(doneAll_bad ab l).1;have bj:Hid (jQ cs l=l.map fun c=>yDB cs c.2.1):=undos_bad ab l;clear ab;go_wp2
  go_loopw [6,20] (fun q i wr=>∃ k:Nat,k<=l.length/\i=I U (k:Int)/\wr.ownsRow w.heap.size 110 3 q k (zE kK ((l.take k).map fun c=>yDB cs c.2.1))/\Be w wr) (fun _ i _=>l.length - (intOf i).toNat)
  case atStart=>exact ⟨0,Ae _,rfl,a1,ag⟩
  case round=>
   obtain ⟨k,hk,rfl,p,n⟩:=hrel;have HO:Hid (wr.ownsRow w.heap.size 110 3 u6 k (zE kK ((l.take k).map fun c=>yDB cs c.2.1))):=p;have HB:Hid (Be w wr):=n;have bh:=n.size;clear p n
   by_cases hlt:(k:Int) < l.length
   ·have j:k < l.length:=by omega
    have q0:(0:Int)<=(k:Int):=by omega
    obtain ⟨g,s,rfl,hg,hc⟩:=HR (by omega);have c0:wr.cell? ⟨g,s+k * 3,Aa⟩=Ab (I U l[k].1):=by rw [HB.out.cell (by exact hg)];exact hc k j 0 (by omega)
    have c1:wr.cell? ⟨g,s+k * 3+1,Aa⟩=Ab (.string l[k].2.1):=by rw [HB.out.cell (by exact hg)];exact hc k j 1 (by omega)
    have c2:wr.cell? ⟨g,s+k * 3+2,Aa⟩=Ab (I U l[k].2.2):=by rw [HB.out.cell (by exact hg)];exact hc k j 2 (by omega)
    have HS:Hid (l.take (k+1)=l.take k ++ [l[k]]):=take_snoc j;clear hc;go_wp2_with fail
    have BA:Be wr (wr.alloc (Obj.cells #[I U l[k].1,Am l[k].2.1,I U l[k].2.2] 130)):=ba (br _ _) _;refine (undoOf_i cs _ l[k].2.1 _ (HV.below (bt HB BA)) h1 (HA _ (Ag j))).mono ?_;rintro e w2 ⟨rfl,r⟩;unfold undoV;have a2:Hid (w2.ownsRow w.heap.size 110 3 u6 k (zE kK ((l.take k).map fun c=>yDB cs c.2.1))):=zS HO (bt BA r);have am:Hid (Be w w2):=bt HB (bt BA r);have bm:=(bt BA r).size;clear r c0 c1 c2 BA HO;obtain ⟨uu,t⟩:=nw (yDB cs l[k].2.1);rw [<- t];have an:Hid (uu=yDB cs l[k].2.1):=t;clear t;go_wp2_with (at_builtin;refine wpList_append_own _ rfl _ _ 31 rfl w.heap.size 110 i0 _ 3 32 underlying31 hi aj ai ap rfl (by decide) _ _ _ rfl (Ai a2 _) ⟨World.heap _ |>.size,0,Aa⟩ 1 1 (kK uu) rfl rfl (newsU _ uu _) (onesU uu) (by unfold maxLen;omega) (by omega) (by simp;omega) ?_;intro v3 w3 d z _)
    have o:Hid (w3.ownsRow w.heap.size 110 3 v3 (k+1) _):=d;have ar:Hid (Be w w3):=(ba am _).grown z (by simp;omega) (fun b hb=>(a2.lt b hb).1);clear d z
    go_roundw
    case rel=>exact ⟨k+1,by omega,by go_num,by rw [HS.out,List.map_append,zY];show w3.ownsRow _ _ _ _ _ (_ ++ zE kK [yDB cs l[k].2.1]);rw [flatU_one,<- an.out];exact o.out,ar⟩
    case measure=>simp [intOf];omega
   ·have aa:k=l.length:=by omega
    have HK:Hid (k=l.length):=aa;clear aa;go_wp2_with fail
    refine (copy_i cs _ wr (HV.below HB) HL.1 HL.2).mono ?_;rintro e w3 ⟨v3,rfl,d,f⟩;have af:Hid (w3.ownsRow wr.heap.size 108 2 v3 cs.length (kM cs)):=d;have o:Hid (w3.ownsRow w.heap.size 110 3 u6 k (zE kK ((l.take k).map fun c=>yDB cs c.2.1))):=zS HO f;clear d;go_wp2
    go_ret2
    refine ⟨v3,_,rfl,by rw [bi.out];exact zN af HB.size,?_,own_ne HO af (nl _),bt HB f⟩;have:=o.out;rw [HK.out,An,<- bj.out] at this;rw [zGI];exact this
 | true=>
  have ak:Hid (kS cs=true):=ab;clear ab;go_wp2_with fail
  refine (accounts_i cs _ w1 (HV.below ag) ak HL.2).mono ?_;rintro e w2 ⟨rfl,az,r⟩;have bg:Hid (MapIs w2 w1.heap.size cs):=az;have be:Hid (w2.ownsRow w.heap.size 110 3 (.slice (Ab ⟨w.heap.size,0,Aa⟩) 0 l.length) 0 []):=zS a1 r;have am:Hid (Be w w2):=bt ag r;have bn:=ag.size;clear az r;go_wp2
  go_loopw [6,39] (fun q i wr=>∃ k:Nat,k<=l.length/\i=I U (k:Int)/\wr.ownsRow w.heap.size 110 3 q k (zE kK (jQ cs (l.take k)))/\MapIs wr w1.heap.size (yD cs (l.take k))/\Be w wr) (fun _ i _=>l.length - (intOf i).toNat)
  case atStart=>exact ⟨0,Ae _,rfl,be,bg,am⟩
  case round=>
   obtain ⟨k,hk,rfl,p,ad,n⟩:=hrel;have HO:Hid (wr.ownsRow w.heap.size 110 3 u6 k (zE kK (jQ cs (l.take k)))):=p;have HB:Hid (Be w wr):=n;have HM:Hid (MapIs wr w1.heap.size (yD cs (l.take k))):=ad;have bl:=ad.lt;have bh:=n.size;clear p n ad
   by_cases hlt:(k:Int) < l.length
   ·have j:k < l.length:=by omega
    have q0:(0:Int)<=(k:Int):=by omega
    obtain ⟨g,s,rfl,hg,hc⟩:=HR (by omega);have c0:wr.cell? ⟨g,s+k * 3,Aa⟩=Ab (I U l[k].1):=by rw [HB.out.cell (by exact hg)];exact hc k j 0 (by omega)
    have c1:wr.cell? ⟨g,s+k * 3+1,Aa⟩=Ab (.string l[k].2.1):=by rw [HB.out.cell (by exact hg)];exact hc k j 1 (by omega)
    have c2:wr.cell? ⟨g,s+k * 3+2,Aa⟩=Ab (I U l[k].2.2):=by rw [HB.out.cell (by exact hg)];exact hc k j 2 (by omega)
    have HS:Hid (l.take (k+1)=l.take k ++ [l[k]]):=take_snoc j;clear hc;go_wp2_with fail
    have BA:Be wr (wr.alloc (Obj.cells #[I U l[k].1,Am l[k].2.1,I U l[k].2.2] 130)):=ba (br _ _) _;refine (mapUndo_i (yD cs (l.take k)) w1.heap.size l[k].2.1 _ (HM.below BA) (HA _ (Ag j))).mono ?_;rintro e w3 ⟨rfl,f⟩;unfold undoV;have k0:w3.cell? ⟨wr.heap.size,0,Aa⟩=Ab (I U l[k].1):=by rw [f.cell (by simp)];simp
    have k1:w3.cell? ⟨wr.heap.size,1,Aa⟩=Ab (.string l[k].2.1):=by rw [f.cell (by simp)];simp
    have k2:w3.cell? ⟨wr.heap.size,2,Aa⟩=Ab (I U l[k].2.2):=by rw [f.cell (by simp)];simp
    have a6:=hid (qad3 k0 k1 k2);have ax:wr.heap.size < w3.heap.size:=by have:=f.size;simp at this;omega
    have o:Hid (w3.ownsRow w.heap.size 110 3 u6 k (zE kK (jQ cs (l.take k)))):=zS HO (bt BA f);have a5:Hid (MapIs w3 w1.heap.size (yD cs (l.take k))):=HM.below (bt BA f);have ar:Hid (Be w w3):=bt HB (bt BA f);have ah:∀ x,u6.ownBlock=some x->x < wr.heap.size:=fun x hx=>(HO.lt x hx).2
    have bb:Hid (∀ x,u6.ownBlock=some x->x < wr.heap.size):=ah;clear f c0 c1 c2 BA HO HM k0 k1 k2 ah;obtain ⟨uu,t⟩:=nw (yDB (yD cs (l.take k)) l[k].2.1);rw [<- t];have an:Hid (uu=yDB (yD cs (l.take k)) l[k].2.1):=t;clear t;go_wp2_with (at_builtin;refine wpList_append_own _ rfl _ _ 31 rfl w.heap.size 110 i0 _ 3 32 underlying31 hi aj ai ap rfl (by decide) _ _ _ rfl (Ai o _) ⟨World.heap _ |>.size,0,Aa⟩ 1 1 (kK uu) rfl rfl (newsU _ uu _) (onesU uu) (by unfold maxLen;omega) (by omega) (by simp;omega) ?_;intro v4 w4 ac m _;have a4:Hid (w4.ownsRow w.heap.size 110 3 v4 (k+1) _):=ac;have au:Hid (MapIs w4 w1.heap.size (yD cs (l.take k))):=(a5.below (ba (br _ _) _)).kept m (row_not_map o a5);have a3:Hid (Be w w4):=(ba ar _).grown m (by simp;omega) (fun b hb=>(o.lt b hb).1);have aw:∀ i,w4.cell? ⟨wr.heap.size,i,Aa⟩=w3.cell? ⟨wr.heap.size,i,Aa⟩:=(fun i=>(yAD (i:=i) m (by simp;omega) (fun e=>Nat.lt_irrefl _ (bb _ e))).trans ((ba (br _ _) _:Be w3 _).cell (by exact ax)));obtain ⟨k0,k1,k2⟩:=a6.out;rw [<- aw] at k0 k1 k2;clear ac m aw)
    refine (do_i (yD cs (l.take k)) w1.heap.size l[k] _ au (doneAll_ok _ ak) (HA _ (Ag j))).mono ?_;rintro e w5 ⟨rfl,ay,aq⟩;have bc:Hid (MapIs w5 w1.heap.size (yAA (yD cs (l.take k)) l[k])):=ay;have a8:Hid (w5.ownsRow w.heap.size 110 3 v4 (k+1) _):=Ah a4 aq (Or.inr (row_not_map a4 au).symm);have a7:Hid (Be w w5):=a3.grown aq a3.size fun x hx=>by cases hx;omega
    clear ay aq k0 k1 k2;go_wp2
    go_roundw
    case rel=>exact ⟨k+1,by omega,by go_num,by rw [HS.out,undos_snoc,zY,flatU_one,<- an.out];exact a8.out,by rw [HS.out,doneAll_snoc];exact bc.out,a7⟩
    case measure=>simp [intOf];omega
   ·have aa:k=l.length:=by omega
    have HK:Hid (k=l.length):=aa;have bf:Hid (MapIs wr w1.heap.size (yD cs l)):=hid (by have:=HM.out;rw [aa,An] at this;exact this);clear aa;obtain ⟨_,av,a9⟩:=zFG.1 (doneAll_ok l ak);have bd:=hid av;clear av;go_wp2_with fail
    refine (told_i (yD cs l) w1.heap.size wr bf bd (Nat.le_succ_of_le a9) (okL_all l HL HA).2).mono ?_;rintro e w3 ⟨v3,rfl,d,f⟩;have af:Hid (w3.ownsRow wr.heap.size 108 2 v3 _ _):=d;have o:Hid (w3.ownsRow w.heap.size 110 3 u6 k (zE kK (jQ cs (l.take k)))):=zS HO f;clear d;go_wp2
    go_ret2
    refine ⟨v3,_,rfl,zN af HB.size,?_,own_ne HO af (nl _),bt HB f⟩;have:=o.out;rw [HK.out,An] at this;rw [zGI];exact this
theorem tooEarlyR_i (ps:TL) (v:Value) (p:PE) (s:PV) (k:Int) (w:World) (hT:jB w v ps) (hk:okT (bks ps)) (hR:jS w p s) (hs:yC p) :
  Calls prog 49 #[v,yZ p s,I U k] w fun e w'=>∃ s',e=.returned (yZ (yDF (bks ps) p k) s')/\zO w.heap.size w'.heap.size w' (yDF (bks ps) p k) s'/\Be w w':=by
 have HT:=hid hT;have HK:=hid hk;have HR:=hid hR;have HS:=hid hs;have cm:(ps.length:Int)<=1048576:=by have:=hk.1;rw [yO] at this;exact this
 have cn:=hs.row;have b4:Hid ((bks ps).length=ps.length):=yO ps;obtain ⟨ii,cp,bg,b7,cd⟩:=info_parts infoIntL;obtain ⟨ui,cq,b9,b8,bk⟩:=info_parts infoUndo;obtain ⟨de,cs,rfl,-⟩:=HT.1;clear hT hk hR hs;obtain ⟨W,hW⟩:=nw ((w.alloc (.cells (zA p s) 35)).alloc (.cells zF 35));have HW:Hid (Bx2 w W (zA p s) zF):=hid (by rw [hW];exact two_boxes w _ _);unfold zF at hW;go_enter func49,ntmps49;go_wp2_with (rw [<- hW];clear hW;(refine w_ld w.heap.size HW.box underlying35 ?_))
 refine (withoutEarly_i p s W (HR.below HW.below) HS).mono ?_;rintro e x1 ⟨s3,rfl,ho,hb⟩;have f:Hid (zO w.heap.size x1.heap.size x1 (jC p) s3):=ho.low HW.below.size;have ap:Hid (Bx2 w x1 (zA p s) zF):=HW.more hb;clear ho hb HW;obtain ⟨u,hu⟩:=nw (qS p.row);have HE:Hid (yDF (bks ps) p k=yBH (bks ps) (jC p) (kB (bks ps) k u)):=(by unfold yDF;rw [hu]:yDF (bks ps) p k=_);obtain ⟨q,hq⟩:=nw (jC p);have a0:Hid (q.early=[]/\q.undos=[]/\okL q.cells):=hid (by rw [hq];exact ⟨rfl,rfl,okL_back HS⟩);have b5:Hid (qS q.row=u/\(q.row.length:Int)<=1048576):=(by rw [hq,hu];exact ⟨rfl,cn⟩:qS q.row=u/\_);rw [<- hq] at HE f;rw [<- hq];clear hq hu;go_wp2_with (refine w_st w.heap.size (zA q s3) ap.box (zJ f.1) ?_;intro x4 hg hk hz;have b:Hid (Bx2 w x4 (zA q s3) zF):=ap.put hg hk;have y:Hid (zO w.heap.size x4.heap.size x4 q s3):=(f.boxed ap.box hg).wide hg.size (nl _);have c4:=zB b.box 14 s3.row rfl;clear hg hk hz ap f)
 refine (lastOf_i q.row s3.row x4 y.reads.row b5.2).mono ?_;rintro e W' ⟨rfl,hw⟩;obtain rfl:=hw.symm;clear hw c4;rw [b5.out.1];go_wp2_with fail
 refine (rowAfter_i ps _ k u x4 (HT.below b.below) cm).mono ?_;rintro e x5 ⟨v5,rfl,ho,hb⟩;obtain ⟨L,hL⟩:=nw (kB (bks ps) k u);have cf:Hid (∀ x∈L,∃ j:Nat,x=(j:Int)/\j < ps.length):=hid (by rw [hL];intro x hx;have:=after_mem hx;rw [b4.out] at this;exact this);have c7:(L.length:Int)<=1048576:=by have:=zDA (bks ps) k u;rw [<- hL,b4.out] at this;omega
 rw [<- hL] at HE ho;have t:Hid (x5.ownsRow x4.heap.size 3 1 v5 L.length (zE xJ L)):=ho;have ab:Hid (Bx2 w x5 (zA q s3) zF):=b.more hb;have n:Hid (zO w.heap.size x4.heap.size x5 q s3):=y.below hb;have cu:Hid (x4.heap.size<=x5.heap.size):=hb.size;obtain ⟨a5,c5,rfl,ak⟩:=zW jG ho;clear ak;clear hL ho hb b y;have ck:Hid (zA (yBH (bks ps) q (L.take 0)) s3=zA q s3):=hid (by unfold zA yBH;simp);go_wp2
 go_loopw [20] (fun i wr=>∃ (m:Nat) (tm:PV),m<=L.length/\i=I U (m:Int)/\Hid (Bx2 w wr (zA (yBH (bks ps) q (L.take m)) tm) zF)/\Hid (zO w.heap.size wr.heap.size wr (yBH (bks ps) q (L.take m)) tm)/\Hid (wr.ownsRow x4.heap.size 3 1 (.slice a5 L.length c5) L.length (zE xJ L))/\Hid (apart tm.early (.slice a5 L.length c5))/\Hid (x5.heap.size<=wr.heap.size)) (fun i _=>L.length - (intOf i).toNat)
 case atStart=>exact ⟨0,s3,Ae _,rfl,(by rw [ck.out];exact ab.out:Bx2 w x5 (zA (yBH (bks ps) q (L.take 0)) s3) zF),ear_own _ _ a0.1 a0.2.1 (n.wide cu (nl _)),t,yQ n.2.1.l2 (fun g e=>⟨(t.lt g e).1,(t.lt g e).2⟩) (Or.inl (nl _)),nl _⟩
 case round=>
  obtain ⟨m,tm,hm,rfl,a,o,ay,bf,c3⟩:=hrel
  by_cases hlt:(m:Int) < L.length
  ·have a1:m < L.length:=by omega
   obtain ⟨j,hj,ao⟩:=cf L[m] (Ag a1);have HJ:Hid (L[m]=(j:Int)):=hj;have q0:(0:Int)<=(m:Int):=by omega
   have j0:(0:Int)<=(j:Int):=by omega
   have j1:(j:Int) < ps.length:=by omega
   obtain ⟨da,dc,e5,ak⟩:=zW jG ay;injection e5 with ct _ cl
   subst ct cl;obtain ⟨g5,o5,rfl,cc,bh⟩:=ak (by omega);have hc:wr.cell? ⟨g5,o5+m,Aa⟩=Ab (I U (j:Int)):=by have:=bh m a1 0 (by omega);rw [HJ.out] at this;simpa [xJ] using this
   have ch:Hid (g5 < wr.heap.size):=cc;clear bh cc ak hj;obtain ⟨db,c6,et,bv⟩:=(HT.below a.below).1;injection et with cz _ co
   subst cz co;obtain ⟨gt,ot,rfl,b0,bq⟩:=bv (by omega);obtain ⟨cv,bb⟩:=nw (ps[j].2);have ag:Hid (yM wr cv 3 kL ps[j].1.2.1/\okB ps[j].1):=hid (by rw [bb];exact ⟨(HT.below a.below).2 ps[j] (Ag ao),okT_at HK ao⟩);have al:Hid (gt < wr.heap.size/\wr.cell? ⟨gt,ot+j * 7+2,Aa⟩=some cv):=⟨b0,by rw [bb];exact bq j ao 2 (by omega)⟩;clear b0 bq bb bv;obtain ⟨qm,a4⟩:∃ qm:PE,qm=yBH (bks ps) q (L.take m):=⟨_,rfl⟩
   have ac:Hid (({ qm with cells:=yD qm.cells ps[j].1.2.1,early:=qm.early ++ [(j:Int)],undos:=qm.undos ++ jQ qm.cells ps[j].1.2.1 }:PE)=yBH (bks ps) q (L.take (m+1))/\okL qm.cells/\qm.early.length=m/\qm.undos.length<=m * 1048576/\(jQ qm.cells ps[j].1.2.1).length<=1048576):=(by
    rw [a4];refine ⟨ear_step a1 HJ ao,rowC_ok HK _ _ a0.2.2,by unfold yBH;simp;omega,?_,?_⟩
    ·have:=earU_len HK (L.take m) q.cells;rw [List.length_take,Nat.min_eq_left hm] at this;exact this
    ·rw [zGI];have:=ag.2.1;omega:_/\_/\_/\_/\_)
   rw [<- a4] at a o;clear a4;go_wp2;clear hc;refine p_rg (fun i=>decide (i < 8)) (fun x=>Bx x w.heap.size (zA qm tm) 35/\x.cell? ⟨gt,ot+j * 7+2,Aa⟩=some cv) ?_;show zX prog _ _ _ _ _ (12+1) (Aj 13 false) _ _;have hS:Bx wr.drew w.heap.size (zA qm tm) 35/\wr.drew.cell? ⟨gt,ot+j * 7+2,Aa⟩=some cv:=⟨a.box,al.2⟩;refine p_pt 0 25 w.heap.size 15 hS ?_;refine zD 1 26 tm.cells hS ?_ (hy:=by intro x hx;have c:=zB hx.1 15 tm.cells rfl;go_simp;try rfl);refine zD 2 27 (.slice (Ab ⟨gt,ot,Aa⟩) ps.length cs) hS ?_;refine zD 3 28 (I U (j:Int)) hS ?_;refine p_pt 4 29 gt (ot+j * 7) hS ?_;refine p_pt 5 30 gt (ot+j * 7+2) hS ?_;refine zD 6 31 cv hS ?_ (hy:=by intro x hx;have c:=hx.2;go_simp;try rfl);refine kJ 7 32 92 #[tm.cells,cv] ((doneBack_i qm.cells ps[j].1.2.1 tm.cells cv wr.drew (o.reads.cells.below (br _ _).drew) (ag.1.below (br _ _).drew) ac.2.1 ag.2.1 ag.2.2).mono ?_);rintro e y1 ⟨w1,w2,rfl,ho,ad,-,bl⟩;have hb:=(bw wr).trans bl;have f:Hid (y1.ownsRow wr.heap.size 108 2 w1 (yD qm.cells ps[j].1.2.1).length (kM (yD qm.cells ps[j].1.2.1))):=ho;have an:Hid (y1.ownsRow wr.heap.size 110 3 w2 (jQ qm.cells ps[j].1.2.1).length (zE kK (jQ qm.cells ps[j].1.2.1))):=ad;have r:Hid (Bx2 w y1 (zA qm tm) zF):=a.more hb;have cb:Hid (zO w.heap.size wr.heap.size y1 qm tm):=o.below hb;have a3:Hid (y1.ownsRow x4.heap.size 3 1 (.slice (Ab ⟨g5,o5,Aa⟩) L.length c5) L.length (zE xJ L)):=zS ay hb;have ar:=hid (qad2 a.out.below.size hb.size);have bi:Bx y1 w.heap.size (zA qm tm) 35/\y1.cell? ⟨gt,ot+j * 7+2,Aa⟩=some cv:=⟨r.box,by rw [hb.cell (by exact al.out.1)];exact al.out.2⟩;clear ho ad hb bl hS al ag a o ay;refine ⟨_,rfl,fun _=>bi,?_⟩;simp only [pz];refine p_pu 8 24 (.tuple #[w1,w2]) ?_ ?_
   ·intro x hx;go_simp
    try rfl
   simp only [pz];refine p_pu 9 33 w1 ?_ ?_
   ·intro x hx;go_simp
    try rfl
   simp only [pz];refine p_pu 10 34 w2 ?_ ?_
   ·intro x hx;go_simp
    try rfl
   simp only [pz];refine p_pu 11 9 w1 ?_ ?_
   ·intro x hx;go_simp
    try rfl
   simp only [pz];refine p_pu 12 10 w2 ?_ ?_
   ·intro x hx;go_simp
    try rfl
   simp only [pz];refine p_do ?_;clear bi;obtain ⟨q1,am⟩:∃ q1:PE,q1={ qm with cells:=yD qm.cells ps[j].1.2.1 }:=⟨_,rfl⟩;obtain ⟨t1,aj⟩:∃ t1:PV,t1={ tm with cells:=w1 }:=⟨_,rfl⟩;have ah:Hid (({ q1 with early:=q1.early ++ [(j:Int)],undos:=q1.undos ++ jQ qm.cells ps[j].1.2.1 }:PE)=yBH (bks ps) q (L.take (m+1))/\q1.early.length=m/\q1.undos.length<=m * 1048576):=hid (by rw [am];exact ⟨ac.1,ac.2.2.1,ac.2.2.2.1⟩);have a6:Hid (apart t1.early (.slice (Ab ⟨g5,o5,Aa⟩) L.length c5)):=(by rw [aj];exact bf.out:apart t1.early _);obtain ⟨us,a7⟩:=nw (jQ qm.cells ps[j].1.2.1);have c0:Hid (us.length<=1048576):=hid (by rw [a7];exact ac.out.2.2.2.2);rw [<- a7] at ah an;clear a7 ac bf;have bm:Hid (q1.early.length=m):=ah.2.1
   go_wp2_with (first
    | (refine w_sc w.heap.size 15 w1 r.box (by simp [zA]) (zDH f) (zA q1 t1) (by rw [am,aj];rfl) ?_;intro y2 hg hk;have aq:Hid (Bx2 w y2 (zA q1 t1) zF):=r.put hg hk;have ai:Hid (zO w.heap.size y2.heap.size y2 q1 t1):=hid (by rw [am,aj];exact (cb.boxed r.box hg).setCells (Ac ar.2 hg.size) (nl _) (zN (Ah f hg (zH f r.box (by decide))) ar.1) (fun g e=>Ad (f.lt g e).2 hg.size) (fun g e=>Or.inr (f.lt g e).1));have b3:Hid (y2.ownsRow x4.heap.size 3 1 (.slice (Option.some ⟨g5,o5,Aa⟩) L.length c5) L.length (zE xJ L)):=Ah a3 hg (zH a3 r.box (by decide));have a2:Hid (y2.ownsRow wr.heap.size 110 3 w2 us.length (zE kK us)):=Ah an hg (zH an r.box (by decide));have ax:Hid (wr.heap.size<=y2.heap.size):=Ac ar.2 hg.size;have l:Hid (Be y2 (y2.alloc (.cells #[I U (j:Int)] 3))):=(Below.refl y2.heap.size y2).alloc (nl _) _;clear hg hk r cb a3 an f am aj;have cx:=zB aq.box 16 t1.early rfl)
    | (at_builtin;refine wpList_append_lies _ rfl (.tmp 38) (.tmp 40) 29 rfl w.heap.size 3 ii _ 1 8 underlying29 cp bg b7 cd rfl (by decide) t1.early _ _ rfl (ai.below l).1.early ⟨y2.heap.size,0,Aa⟩ 1 1 [I U (j:Int)] rfl rfl (World.news_of_block (heap_alloc_new y2 _)) (by intro x hx;simp at hx;subst hx;rfl) (by decide) (by rw [bm.out];unfold maxLen;omega) (by rw [bm.out];omega) (by have:=aq.lt;simp;omega) _ rfl ?_;intro g2 d y4 ad aa bc au;have b:Hid (Bx2 w y4 (zA q1 t1) zF):=(aq.more l).grow (ai.below l).1.early (by decide) (nl _) aa;have az:Hid (y4.ownsRow x4.heap.size 3 1 (.slice (Option.some ⟨g5,o5,Aa⟩) L.length c5) L.length (zE xJ L)):=Ah (zS b3 l) aa a6.symm.ne;have bd:Hid (y4.ownsRow wr.heap.size 110 3 w2 us.length (zE kK us)):=Ah (zS a2 l) aa (row_kind (zS a2 l) (ai.below l).1.early (by decide));have y:Hid (zO w.heap.size y4.heap.size y4 { q1 with early:=q1.early ++ [(j:Int)] } { t1 with early:=.slice (Ab ⟨g2,0,Aa⟩) (q1.early.length+1) d }):=(ai.below l).addEarly aa ad (bc.imp id (fun e=>by rw [e];simp)) au;have bu:Hid (apart (.slice (Ab ⟨g2,0,Aa⟩) (q1.early.length+1) d) (.slice (Option.some ⟨g5,o5,Aa⟩) L.length c5)):=(by intro g e e2;cases e;exact bc.elim (fun h=>a6 _ h e2) (fun h=>by have e2:=Af e2;have:=ch.out;have:=ax.out;simp at e2 h;omega):apart _ _);have bj:Hid (wr.heap.size<=y4.heap.size):=Ac ax (Ac l.size aa.size);clear ad aa bc au cx aq ai b3 a2 ax l)
    | (refine w_sc w.heap.size 16 (.slice (Ab ⟨g2,0,Aa⟩) (q1.early.length+1) d) b.box (by simp [zA]) rfl (zA { q1 with early:=q1.early ++ [(j:Int)] } { t1 with early:=.slice (Ab ⟨g2,0,Aa⟩) (q1.early.length+1) d }) rfl ?_;intro y5 hg hk;have ab:Hid (Bx2 w y5 (zA { q1 with early:=q1.early ++ [(j:Int)] } { t1 with early:=.slice (Ab ⟨g2,0,Aa⟩) (q1.early.length+1) d }) zF):=b.put hg hk;have n:Hid (zO w.heap.size y5.heap.size y5 { q1 with early:=q1.early ++ [(j:Int)] } { t1 with early:=.slice (Ab ⟨g2,0,Aa⟩) (q1.early.length+1) d }):=(y.boxed b.box hg).wide hg.size (nl _);have t:Hid (y5.ownsRow x4.heap.size 3 1 (.slice (Option.some ⟨g5,o5,Aa⟩) L.length c5) L.length (zE xJ L)):=Ah az hg (zH az b.box (by decide));have b1:Hid (y5.ownsRow wr.heap.size 110 3 w2 us.length (zE kK us)):=Ah bd hg (zH bd b.box (by decide));have bo:Hid (x5.heap.size<=y5.heap.size/\w.heap.size<=y5.heap.size):=hid (by have:=c3.out;have:=bj.out;have:=ar.out;have:=hg.size;omega);obtain ⟨q2,a8⟩:∃ q2:PE,q2={ q1 with early:=q1.early ++ [(j:Int)] }:=⟨_,rfl⟩;obtain ⟨t2,a9⟩:∃ t2:PV,t2={ t1 with early:=.slice (Ab ⟨g2,0,Aa⟩) (q1.early.length+1) d }:=⟨_,rfl⟩;have bx:Hid (({ q2 with undos:=q2.undos ++ us }:PE)=yBH (bks ps) q (L.take (m+1))/\q2.undos.length<=m * 1048576):=hid (by rw [a8];exact ⟨ah.1,ah.2.2⟩);have c1:Hid (apart t2.early (.slice (Option.some ⟨g5,o5,Aa⟩) L.length c5)):=(by rw [a9];exact bu.out:apart t2.early _);rw [<- a8,<- a9] at ab n;clear hg hk b y az bd a8 a9 bu a6 ah bj;have cy:=zB ab.box 17 t2.undos rfl;have c9:=bx.2;have c8:=c0.out)
    | (at_builtin;refine wpList_append_w _ rfl _ _ 31 rfl w.heap.size 110 ui _ 32 underlying31 cq b9 b8 bk rfl (by decide) yFF undoF_one t2.undos q2.undos rfl n.1.undos w2 us rfl (zW yFF b1) (by unfold maxLen;omega) (by omega) bo.2 ?_;intro v6 y6 aw ae av;have af:Hid (Bx2 w y6 (zA q2 t2) zF):=ab.grow n.1.undos (by decide) (nl _) ae;have be:Hid (y6.ownsRow x4.heap.size 3 1 (.slice (Option.some ⟨g5,o5,Aa⟩) L.length c5) L.length (zE xJ L)):=Ah t ae (row_kind t n.1.undos (by decide));have ca:Hid (zO w.heap.size y6.heap.size y6 { q2 with undos:=q2.undos ++ us } { t2 with undos:=v6 }):=n.addUndos ae aw av;have ce:Hid (v6.oneCell'=true):=zDH aw;have b6:Hid (x5.heap.size<=y6.heap.size):=Ac bo.1 ae.size;clear aw ae av ab n t b1 cy)
    | (refine w_sc w.heap.size 17 v6 af.box (by simp [zA]) ce (zA { q2 with undos:=q2.undos ++ us } { t2 with undos:=v6 }) rfl ?_;intro y7 hg hk;have bp:Hid (Bx2 w y7 (zA { q2 with undos:=q2.undos ++ us } { t2 with undos:=v6 }) zF):=af.put hg hk;have bz:Hid (zO w.heap.size y7.heap.size y7 { q2 with undos:=q2.undos ++ us } { t2 with undos:=v6 }):=(ca.boxed af.box hg).wide hg.size (nl _);have c2:Hid (y7.ownsRow x4.heap.size 3 1 (.slice (Option.some ⟨g5,o5,Aa⟩) L.length c5) L.length (zE xJ L)):=Ah be hg (zH be af.box (by decide));have cj:Hid (x5.heap.size<=y7.heap.size):=Ac b6 hg.size;clear hg hk af ca be b6))
   rw [bx.out.1] at bp bz
   go_roundw
   case rel=>exact ⟨m+1,{ t2 with undos:=v6 },by omega,by go_num,bp,bz,c2,c1,cj⟩
   case measure=>simp [intOf];omega
  ·have cg:m=L.length:=by omega
   subst cg;rw [An] at a o;obtain ⟨QQ,bn⟩:=nw (yBH (bks ps) q L);rw [<- bn] at a o HE;clear bn
   go_wp2_with (first
    | (refine w_ld w.heap.size a.box underlying35 ?_)
    | (refine w_st (w.heap.size+1) (zA QQ tm) a.zero (zJ o.1) ?_;intro z hg hk hz;have cw:Hid (Be w z):=a.below.grown hg a.below.size (qkk (by omega));have cr:Hid (Bx z (w.heap.size+1) (zA QQ tm) 35):=hk;have ci:Hid (zO w.heap.size z.heap.size z QQ tm):=(o.boxed a.zero hg).wide hg.size (nl _);clear hg hk hz o a))
   refine b_cr (.agg (zA QQ tm)) results49 cr underlying35 ?_;rw [HE.out];exact ⟨_,rfl,ci,cw⟩
def b2 (b:Bool) (k:Nat):Int:=if b=true then (2:Int) ^ k else 0
theorem higher_i (a b:QC) (w:World) :
  Calls prog 30 #[zBF a,zBF b] w fun e w'=>e=.returned (zBF (yF a b))/\Be w w':=by
 obtain ⟨a0,a1,a2,a3⟩:=a;obtain ⟨b0,b1,b2,b3⟩:=b;unfold zBF;simp only
 by_cases h:a1 < b1
 ·have HE:Hid (yF (a0,a1,a2,a3) (b0,b1,b2,b3)=(b0,b1,b2,b3)):=if_pos h;go_enter func30,ntmps30;go_wp2;refine bodyPost_ret (v:=.agg #[I U b0,I U b1,I U b2,I U b3]) (by simp [results,results30,go_sem]) rfl ⟨by rw [HE.out],?_⟩;exact ba (ba (ba (br _ _) _) _) _
 ·have HE:Hid (yF (a0,a1,a2,a3) (b0,b1,b2,b3)=(a0,a1,a2,a3)):=if_neg h;go_enter func30,ntmps30;go_wp2;refine bodyPost_ret (v:=.agg #[I U a0,I U a1,I U a2,I U a3]) (by simp [results,results30,go_sem]) rfl ⟨by rw [HE.out],?_⟩;exact ba (ba (ba (br _ _) _) _) _
theorem placeJ {k:Int} {r:Bool} (h:inB k 0 ((n:Int) - 1)=r) (w:World) :
  Calls prog 85 #[.slice a n cap,I U k] w fun e w'=>e=.returned (.bool r)/\w'=w:=by
 subst h
 by_cases h0:0<=k
 ·by_cases h1:k < n
  ·have HR:Hid (inB k 0 ((n:Int) - 1)=true):=kY ⟨h0,by omega⟩;go_enter func85,ntmps85;go_wp2;go_ret;exact ⟨zL HR.symm,rfl⟩
  ·have HR:Hid (inB k 0 ((n:Int) - 1)=false):=zAB (by omega);go_enter func85,ntmps85;go_wp2;go_ret;exact ⟨zL HR.symm,rfl⟩
 ·have HR:Hid (inB k 0 ((n:Int) - 1)=false):=zAB (by omega);go_enter func85,ntmps85;go_wp2;go_ret;exact ⟨zL HR.symm,rfl⟩
theorem justBlock_i (ps:TL) (v:Value) (k:Int) (w:World) (hT:jB w v ps) :
  Calls prog 45 #[v,I U k] w fun e w'=>e=.returned (I U (jusT (bks ps) k))/\w'=w:=by
 have HT:=hid hT;have b:Hid ((bks ps).length=ps.length):=yO ps;obtain ⟨a,cap,rfl,hr⟩:=hT.1;have d:=hid hr;clear hT hr
 cases h1:inB k 0 ((ps.length:Int) - 1) with
 | false=>
  have HE:Hid (jusT (bks ps) k=-1):=hid (by unfold jusT;rw [b.out,h1];rfl);have H1:=hid h1;clear h1;go_enter func45,ntmps45;go_wp2_with fail
  refine (placeJ H1 w).mono ?_;rintro e w' ⟨rfl,hw⟩;obtain rfl:=hw.symm;clear hw;go_wp2;go_ret;exact ⟨jD HE.symm,rfl⟩
 | true=>
  have hk:=zDF h1;obtain ⟨kn,rfl⟩:∃ kn:Nat,k=(kn:Int):=⟨k.toNat,by omega⟩;have c:kn < ps.length:=by omega
  have k0:(0:Int)<=(kn:Int):=by omega
  have k1:(kn:Int) < ps.length:=by omega
  obtain ⟨g,f,rfl,hg,hc⟩:=d (by omega);obtain ⟨j,hj⟩:=nw (ps[kn].1.2.2.2.2.1);have c5:w.cell? ⟨g,f+kn * 7+3+2,Aa⟩=Ab (I U j):=by rw [hj];exact hc kn c 5 (by omega)
  have HJ:Hid (zHC (bks ps) (kn:Int)=j):=hid (by rw [hj];exact justB_at c);have H1:=hid h1;clear hj hc hg h1 hk
  cases h2:inB j 0 ((ps.length:Int) - 1) with
  | false=>
   have HE:Hid (jusT (bks ps) (kn:Int)=-1):=hid (by unfold jusT;rw [b.out,H1.out,HJ.out,h2];rfl);have H2:=hid h2;clear h2;go_enter func45,ntmps45;go_wp2_with fail
   refine (placeJ H1 w).mono ?_;rintro e w' ⟨rfl,hw⟩;obtain rfl:=hw.symm;clear hw;go_wp2_with fail
   refine (placeJ H2 w).mono ?_;rintro e w' ⟨rfl,hw⟩;obtain rfl:=hw.symm;clear hw;go_wp2;go_ret;exact ⟨jD HE.symm,rfl⟩
  | true=>
   have HE:Hid (jusT (bks ps) (kn:Int)=j):=hid (by unfold jusT;rw [b.out,H1.out,HJ.out,h2];rfl);have H2:=hid h2;clear h2;go_enter func45,ntmps45;go_wp2_with fail
   refine (placeJ H1 w).mono ?_;rintro e w' ⟨rfl,hw⟩;obtain rfl:=hw.symm;clear hw;go_wp2_with fail
   refine (placeJ H2 w).mono ?_;rintro e w' ⟨rfl,hw⟩;obtain rfl:=hw.symm;clear hw;go_wp2;go_ret;exact ⟨jD HE.symm,rfl⟩
theorem oneAbove_i (ps:TL) (v:Value) (k u:Int) (w:World) (hT:jB w v ps) (hv:∀ b∈bks ps,0<=b.1.2/\b.1.2<=1000) :
  Calls prog 86 #[v,I U k,I U u] w fun e w'=>e=.returned (.bool (oneT (bks ps) k u))/\Be w w':=by
 have HT:=hid hT;have HV:=hid hv;have h:Hid ((bks ps).length=ps.length):=yO ps;obtain ⟨a,cap,rfl,hr⟩:=hT.1;have j:=hid hr;clear hT hr hv
 cases h1:inB k 0 ((ps.length:Int) - 1) with
 | false=>
  have HE:Hid (oneT (bks ps) k u=false):=hid (by unfold oneT;rw [h.out,h1];rfl);have H1:=hid h1;clear h1;go_enter func86,ntmps86;go_wp2_with fail
  refine (placeJ H1 w).mono ?_;rintro e w' ⟨rfl,hw⟩;obtain rfl:=hw.symm;clear hw;go_wp2;go_ret;exact ⟨zL HE.symm,br _ _⟩
 | true=>
  have H1:=hid h1
  cases h2:inB u 0 ((ps.length:Int) - 1) with
  | false=>
   have HE:Hid (oneT (bks ps) k u=false):=hid (by unfold oneT;rw [h.out,h2];simp);have H2:=hid h2;clear h1 h2;go_enter func86,ntmps86;go_wp2_with fail
   refine (placeJ H1 w).mono ?_;rintro e w' ⟨rfl,hw⟩;obtain rfl:=hw.symm;clear hw;go_wp2_with fail
   refine (placeJ H2 w).mono ?_;rintro e w' ⟨rfl,hw⟩;obtain rfl:=hw.symm;clear hw;go_wp2;go_ret;exact ⟨zL HE.symm,br _ _⟩
  | true=>
   have H2:=hid h2;have hk:=zDF h1;have hu:=zDF h2;obtain ⟨kn,rfl⟩:∃ kn:Nat,k=(kn:Int):=⟨k.toNat,by omega⟩;obtain ⟨un,rfl⟩:∃ un:Nat,u=(un:Int):=⟨u.toNat,by omega⟩;have d:kn < ps.length:=by omega
   have f:un < ps.length:=by omega
   have k0:(0:Int)<=(kn:Int):=by omega
   have k1:(kn:Int) < ps.length:=by omega
   have u0:(0:Int)<=(un:Int):=by omega
   have u1:(un:Int) < ps.length:=by omega
   obtain ⟨g,i,rfl,hg,hc⟩:=j (by omega);obtain ⟨x,hx⟩:=nw (ps[kn].1.1.2);obtain ⟨y,hy⟩:=nw (ps[un].1.1.2);have l:0<=x/\x<=1000:=by rw [hx,<- bks_at d];exact HV.out _ (Ag _)
   have n:0<=y/\y<=1000:=by rw [hy,<- bks_at f];exact HV.out _ (Ag _)
   have m:=yX w;have c1:∀ z:Bw w,z.to.cell? ⟨g,i+kn * 7+1,Aa⟩=Ab (I U x):=fun z=>by rw [z.below.cell (by exact hg),hx];exact hc kn d 1 (by omega)
   have d1:∀ z:Bw w,z.to.cell? ⟨g,i+un * 7+1,Aa⟩=Ab (I U y):=fun z=>by rw [z.below.cell (by exact hg),hy];exact hc un f 1 (by omega)
   have HE:Hid (oneT (bks ps) (kn:Int) (un:Int)=decide (x=y+1)):=hid (by unfold oneT;rw [h.out,H1.out,H2.out,viewAt_tl d,viewAt_tl f,<- hx,<- hy];rfl);clear hx hy hc h1 h2 hk hu d f
   by_cases hgt:y < x
   ·have b1:IntKind.i64.wrap (x - y)=x - y:=by rw [IntKind.wrap_i64];omega
    by_cases h3:x - y=1
    ·have b2:(x - y == 1)=true:=by simpa using h3
     have c:Hid (decide (x=y+1)=true):=decide_eq_true (by omega);clear h3;go_enter func86,ntmps86;go_wp2_with fail
     refine (placeJ H1 w).mono ?_;rintro e w' ⟨rfl,hw⟩;obtain rfl:=hw.symm;clear hw;go_wp2_with fail
     refine (placeJ H2 w).mono ?_;rintro e w' ⟨rfl,hw⟩;obtain rfl:=hw.symm;clear hw;go_wp2;refine rb ?_;repeat (go_big_quiet_step (fail))
     refine qnn fun z=>?_
     go_wp2;go_ret;exact ⟨zL (HE.trans c).symm,z.below⟩
    ·have b2:(x - y == 1)=false:=by simpa using h3
     have c:Hid (decide (x=y+1)=false):=decide_eq_false (by omega);clear h3;go_enter func86,ntmps86;go_wp2_with fail
     refine (placeJ H1 w).mono ?_;rintro e w' ⟨rfl,hw⟩;obtain rfl:=hw.symm;clear hw;go_wp2_with fail
     refine (placeJ H2 w).mono ?_;rintro e w' ⟨rfl,hw⟩;obtain rfl:=hw.symm;clear hw;go_wp2;refine rb ?_;repeat (go_big_quiet_step (fail))
     refine qnn fun z=>?_
     go_wp2;go_ret;exact ⟨zL (HE.trans c).symm,z.below⟩
   ·have c:Hid (decide (x=y+1)=false):=decide_eq_false (by omega);go_enter func86,ntmps86;go_wp2_with fail
    refine (placeJ H1 w).mono ?_;rintro e w' ⟨rfl,hw⟩;obtain rfl:=hw.symm;clear hw;go_wp2_with fail
    refine (placeJ H2 w).mono ?_;rintro e w' ⟨rfl,hw⟩;obtain rfl:=hw.symm;clear hw;go_wp2;refine rb ?_;repeat (go_big_quiet_step (fail))
    refine qnn fun z=>?_
    go_wp2;go_ret;exact ⟨zL (HE.trans c).symm,z.below⟩
theorem twoRow_i (ps:TL) (v:Value) (k:Int) (w:World) (hT:jB w v ps) (hv:∀ b∈bks ps,0<=b.1.2/\b.1.2<=1000) :
  Calls prog 48 #[v,I U k] w fun e w'=>e=.returned (rowAns (twoT (bks ps) k))/\Be w w':=by
 have HT:=hid hT;have HV:=hid hv;clear hT hv;obtain ⟨b,hb⟩:=nw (jusT (bks ps) k);obtain ⟨c,hc⟩:=nw (jusT (bks ps) b);have HE:Hid (twoT (bks ps) k=if b=0∨c=0∨oneT (bks ps) b c=false then none else some c):=(by unfold twoT;rw [<- hb,<- hc]:twoT (bks ps) k=_);have HB:=hid hb;have HC:=hid hc;clear hb hc;have e0:Calls prog 45 #[v,I U k] w fun e w'=>e=.returned (I U b)/\w'=w:=by rw [HB.out];exact justBlock_i ps v k w HT
 have e1:Calls prog 45 #[v,I U b] w fun e w'=>e=.returned (I U c)/\w'=w:=by rw [HC.out];exact justBlock_i ps v b w HT
 have E0:=hid e0;have E1:=hid e1;clear e0 e1
 by_cases h0:b=0
 ·have b0:(b == 0)=true:=by simpa using h0
  have HR:Hid (twoT (bks ps) k=none):=hid (by rw [HE.out,if_pos (Or.inl h0)]);clear h0;go_enter func48,ntmps48;go_wp2_with fail
  refine E0.out.mono ?_;rintro e w' ⟨rfl,hw⟩;obtain rfl:=hw.symm;clear hw;go_wp2_with fail
  refine E1.out.mono ?_;rintro e w' ⟨rfl,hw⟩;obtain rfl:=hw.symm;clear hw;go_wp2
  go_ret2
  exact ⟨by rw [HR.out];rfl,br _ _⟩
 ·have b0:(b == 0)=false:=by simpa using h0
  by_cases h1:c=0
  ·have b1:(c == 0)=true:=by simpa using h1
   have HR:Hid (twoT (bks ps) k=none):=hid (by rw [HE.out,if_pos (Or.inr (Or.inl h1))]);clear h0 h1;go_enter func48,ntmps48;go_wp2_with fail
   refine E0.out.mono ?_;rintro e w' ⟨rfl,hw⟩;obtain rfl:=hw.symm;clear hw;go_wp2_with fail
   refine E1.out.mono ?_;rintro e w' ⟨rfl,hw⟩;obtain rfl:=hw.symm;clear hw;go_wp2
   go_ret2
   exact ⟨by rw [HR.out];rfl,br _ _⟩
  ·have b1:(c == 0)=false:=by simpa using h1
   cases h2:oneT (bks ps) b c with
   | false=>
    have HR:Hid (twoT (bks ps) k=none):=hid (by rw [HE.out,if_pos (Or.inr (Or.inr h2))]);have H2:=hid h2;clear h0 h1 h2;go_enter func48,ntmps48;go_wp2_with fail
    refine E0.out.mono ?_;rintro e w' ⟨rfl,hw⟩;obtain rfl:=hw.symm;clear hw;go_wp2_with fail
    refine E1.out.mono ?_;rintro e w' ⟨rfl,hw⟩;obtain rfl:=hw.symm;clear hw;go_wp2_with fail
    refine (oneAbove_i ps _ b c w HT HV).mono ?_;rintro e w1 ⟨rfl,hb⟩;have B:=hid hb;clear hb;rw [H2.out];go_wp2
    go_ret2
    exact ⟨by rw [HR.out];rfl,B.out⟩
   | true=>
    have HR:Hid (twoT (bks ps) k=some c):=hid (by rw [HE.out,if_neg (fun h=>by rcases h with h | h | h;exact h0 h;exact h1 h;rw [h2] at h;cases h)]);have H2:=hid h2;clear h0 h1 h2;go_enter func48,ntmps48;go_wp2_with fail
    refine E0.out.mono ?_;rintro e w' ⟨rfl,hw⟩;obtain rfl:=hw.symm;clear hw;go_wp2_with fail
    refine E1.out.mono ?_;rintro e w' ⟨rfl,hw⟩;obtain rfl:=hw.symm;clear hw;go_wp2_with fail
    refine (oneAbove_i ps _ b c w HT HV).mono ?_;rintro e w1 ⟨rfl,hb⟩;have B:=hid hb;clear hb;rw [H2.out];go_wp2
    go_ret2
    exact ⟨by rw [HR.out];rfl,B.out⟩
theorem threeRow_i (ps:TL) (v:Value) (k:Int) (w:World) (hT:jB w v ps) (hv:∀ b∈bks ps,0<=b.1.2/\b.1.2<=1000) :
  Calls prog 46 #[v,I U k] w fun e w'=>e=.returned (rowAns (thrT (bks ps) k))/\Be w w':=by
 have HT:=hid hT;have HV:=hid hv;clear hT hv
 cases h0:twoT (bks ps) k with
 | none=>
  have HR:Hid (thrT (bks ps) k=none):=hid (by unfold thrT;rw [h0]);have H0:=hid h0;clear h0;go_enter func46,ntmps46;go_wp2_with fail
  refine (twoRow_i ps _ k w HT HV).mono ?_;rintro e w1 ⟨rfl,hb⟩;have B:=hid hb;clear hb;rw [H0.out];unfold rowAns;go_wp2_with fail
  refine (justBlock_i ps _ 0 w1 (HT.below B.out)).mono ?_;rintro e w' ⟨rfl,hw⟩;obtain rfl:=hw.symm;clear hw;go_wp2
  go_ret2
  exact ⟨by rw [HR.out];rfl,B.out⟩
 | some c=>
  obtain ⟨d,hd⟩:=nw (jusT (bks ps) c);have HD:=hid hd;have H0:=hid h0
  cases h2:oneT (bks ps) c d with
  | false=>
   have HR:Hid (thrT (bks ps) k=none):=hid (by unfold thrT;rw [h0];simp only;rw [<- hd,h2];rfl);have H2:=hid h2;clear h0 h2 hd;go_enter func46,ntmps46;go_wp2_with fail
   refine (twoRow_i ps _ k w HT HV).mono ?_;rintro e w1 ⟨rfl,hb⟩;have B:=hid hb;clear hb;rw [H0.out];unfold rowAns;go_wp2_with fail
   refine (justBlock_i ps _ c w1 (HT.below B.out)).mono ?_;rintro e w' ⟨rfl,hw⟩;obtain rfl:=hw.symm;clear hw;rw [<- HD.out];go_wp2_with fail
   refine (oneAbove_i ps _ c d w1 (HT.below B.out) HV).mono ?_;rintro e w2 ⟨rfl,hb⟩;have B2:=hid (bt B.out hb);clear hb;rw [H2.out];go_wp2
   go_ret2
   exact ⟨by rw [HR.out];rfl,B2.out⟩
  | true=>
   have HR:Hid (thrT (bks ps) k=some d):=hid (by unfold thrT;rw [h0];simp only;rw [<- hd,h2];rfl);have H2:=hid h2;clear h0 h2 hd;go_enter func46,ntmps46;go_wp2_with fail
   refine (twoRow_i ps _ k w HT HV).mono ?_;rintro e w1 ⟨rfl,hb⟩;have B:=hid hb;clear hb;rw [H0.out];unfold rowAns;go_wp2_with fail
   refine (justBlock_i ps _ c w1 (HT.below B.out)).mono ?_;rintro e w' ⟨rfl,hw⟩;obtain rfl:=hw.symm;clear hw;rw [<- HD.out];go_wp2_with fail
   refine (oneAbove_i ps _ c d w1 (HT.below B.out) HV).mono ?_;rintro e w2 ⟨rfl,hb⟩;have B2:=hid (bt B.out hb);clear hb;rw [H2.out];go_wp2
   go_ret2
   exact ⟨by rw [HR.out];rfl,B2.out⟩
theorem chainLearn_i (ps:TL) (v:Value) (p:PE) (s:PV) (k:Int) (w:World) (hT:jB w v ps) (hk:okT (bks ps)) (hv:∀ b∈bks ps,0<=b.1.2/\b.1.2<=1000) (hR:jS w p s) (hs:yC p) (hl:jZ p+wtB (bks ps)<=1048576) :
  Calls prog 16 #[v,yZ p s,I U k] w fun e w'=>∃ s',e=.returned (yZ (chainI (bks ps) p k) s')/\zO w.heap.size w'.heap.size w' (chainI (bks ps) p k) s'/\Be w w':=by
 have HT:=hid hT;have HK:=hid hk;have HV:=hid hv;have HR:=hid hR;have HS:=hid hs;have bb:=hid hl;have bd:Hid ((bks ps).length=ps.length):=yO ps;obtain ⟨bg,a2,rfl,-⟩:=HT.1;clear hT hk hR hs hl hv;obtain ⟨W,hW⟩:=nw ((w.alloc (.cells (zA p s) 35)).alloc (.cells zF 35));have HW:Hid (Bx2 w W (zA p s) zF):=hid (by rw [hW];exact two_boxes w _ _);unfold zF at hW;go_enter func16,ntmps16;go_wp2_with (rw [<- hW];clear hW;refine w_ld w.heap.size HW.box underlying35 ?_)
 refine (copyPeer_i p s W (HR.below HW.below) HS).mono ?_;rintro e x1 ⟨s1,rfl,ho,hb⟩;have a0:Hid (zO w.heap.size x1.heap.size x1 p s1):=ho.low HW.below.size;have f:Hid (Bx2 w x1 (zA p s) zF):=HW.more hb;clear ho hb HW;go_wp2_with (refine w_st w.heap.size (zA p s1) f.box (zJ a0.1) ?_;intro y1 hg hk hz;have g:Hid (Bx2 w y1 (zA p s1) zF):=f.put hg hk;have aj:Hid (zO w.heap.size y1.heap.size y1 p s1):=(a0.boxed f.box hg).wide hg.size (nl _);clear hg hk hz f a0)
 refine (justBlock_i ps _ k y1 (HT.below g.below)).mono ?_;rintro e x2 ⟨rfl,hw⟩;obtain rfl:=hw.symm;clear hw;obtain ⟨b,hb⟩:=nw (jusT (bks ps) k);rw [<- hb]
 by_cases h3:b=-1
 ·have HE:Hid (chainI (bks ps) p k=p):=hid (by unfold chainI;rw [<- hb,if_pos h3]);have b3:(b == -1)=true:=by simpa using h3
  clear h3 hb
  go_wp2_with (first
   | (refine w_ld w.heap.size g.box underlying35 ?_)
   | (refine w_st (w.heap.size+1) (zA p s1) g.zero (zJ aj.1) ?_;intro z hg hk hz;have r:Hid (Be w z):=g.below.grown hg g.below.size (qkk (by omega));have o:Hid (Bx z (w.heap.size+1) (zA p s1) 35):=hk;have l:Hid (zO w.heap.size z.heap.size z p s1):=(aj.boxed g.zero hg).wide hg.size (nl _);clear hg hk hz g aj))
  refine b_cr (.agg (zA p s1)) results16 o underlying35 ?_;rw [HE.out];exact ⟨_,rfl,l,r⟩
 ·have b3:(b == -1)=false:=by simpa using h3
  obtain ⟨hk,m,ai⟩:=jusT_in hb h3;rw [bd.out] at hk m;have HI:=hid hk;have a4:=hid m;have HE:Hid (chainI (bks ps) p k=learnF (bks ps) (learnG (bks ps) (yDI (bks ps) p k b) k) k):=(by unfold chainI;rw [<- hb,if_neg h3]:chainI (bks ps) p k=_);clear h3 hk m ai hb;obtain ⟨kn,rfl⟩:∃ kn:Nat,k=(kn:Int):=⟨k.toNat,by have:=HI.out;omega⟩;obtain ⟨bn,rfl⟩:∃ bn:Nat,b=(bn:Int):=⟨b.toNat,by have:=a4.out;omega⟩;have ab:kn < ps.length:=by have:=HI.out;omega
  have y:bn < ps.length:=by have:=a4.out;omega
  have k0:(0:Int)<=(kn:Int):=by omega
  have k1:(kn:Int) < ps.length:=by omega
  have b0:(0:Int)<=(bn:Int):=by omega
  have b1:(bn:Int) < ps.length:=by omega
  obtain ⟨bf,be,et,a3⟩:=HT.1;injection et with bc _ a9
  subst bc a9;obtain ⟨gt,ot,rfl,ax,n⟩:=a3 (by omega);obtain ⟨jk,aq⟩:∃ jk:QC,jk=ps[kn].1.2.2:=⟨_,rfl⟩;obtain ⟨jb,ai⟩:∃ jb:QC,jb=ps[bn].1.2.2:=⟨_,rfl⟩
  have au:Hid (∀ x:World,Be w x->x.cell? ⟨gt,ot+kn * 7+3,Aa⟩=Ab (I U jk.1)/\x.cell? ⟨gt,ot+kn * 7+4,Aa⟩=Ab (I U jk.2.1)/\x.cell? ⟨gt,ot+kn * 7+5,Aa⟩=Ab (I U jk.2.2.1)/\x.cell? ⟨gt,ot+kn * 7+6,Aa⟩=Ab (I U jk.2.2.2)):=fun x hb=>by
   refine ⟨?_,?_,?_,?_⟩ <;> rw [hb.cell (by exact ax),aq]
   ·exact n kn ab 3 (by omega)
   ·exact n kn ab 4 (by omega)
   ·exact n kn ab 5 (by omega)
   ·exact n kn ab 6 (by omega)
  have ay:Hid (∀ x:World,Be w x->x.cell? ⟨gt,ot+bn * 7+3,Aa⟩=Ab (I U jb.1)/\x.cell? ⟨gt,ot+bn * 7+4,Aa⟩=Ab (I U jb.2.1)/\x.cell? ⟨gt,ot+bn * 7+5,Aa⟩=Ab (I U jb.2.2.1)/\x.cell? ⟨gt,ot+bn * 7+6,Aa⟩=Ab (I U jb.2.2.2)):=fun x hb=>by
   refine ⟨?_,?_,?_,?_⟩ <;> rw [hb.cell (by exact ax),ai]
   ·exact n bn y 3 (by omega)
   ·exact n bn y 4 (by omega)
   ·exact n bn y 5 (by omega)
   ·exact n bn y 6 (by omega)
  obtain ⟨q1,al⟩:∃ q1:PE,q1={ p with high:=yF p.high jk }:=⟨_,rfl⟩;obtain ⟨q2,ao⟩:∃ q2:PE,q2={ q1 with lock:=yF q1.lock jb }:=⟨_,rfl⟩
  have ah:Hid (yDI (bks ps) p (kn:Int) (bn:Int)=q2/\yC q2/\yC (learnG (bks ps) q2 (kn:Int))):=(by
   have e1:zIF (bks ps) (kn:Int)=jk:=by rw [aq];unfold zIF;simp [bks,ab]
   have e2:zIF (bks ps) (bn:Int)=jb:=by rw [ai];unfold zIF;simp [bks,y]
   have e3:yDI (bks ps) p (kn:Int) (bn:Int)=q2:=by unfold yDI;rw [e1,e2,ao,al]
   have e4:yC q2:=by rw [<- e3];exact learnQ_small HS
   refine ⟨e3,e4,learnG_small e4 HK ?_⟩
   rw [<- e3];exact bb.out:_/\_/\_)
  rw [ah.out.1] at HE;clear aq ai ax n a3;go_wp2;refine p_rg (fun i=>decide (i < 9)) (fun x=>Bx x w.heap.size (zA p s1) 35/\x.cell? ⟨gt,ot+kn * 7+3,Aa⟩=Ab (I U jk.1)/\x.cell? ⟨gt,ot+kn * 7+4,Aa⟩=Ab (I U jk.2.1)/\x.cell? ⟨gt,ot+kn * 7+5,Aa⟩=Ab (I U jk.2.2.1)/\x.cell? ⟨gt,ot+kn * 7+6,Aa⟩=Ab (I U jk.2.2.2)) ?_;show zX prog _ _ _ _ _ (9+1) (Aj 10 false) _ _;have hS:Bx y1.drew w.heap.size (zA p s1) 35/\y1.drew.cell? ⟨gt,ot+kn * 7+3,Aa⟩=Ab (I U jk.1)/\y1.drew.cell? ⟨gt,ot+kn * 7+4,Aa⟩=Ab (I U jk.2.1)/\y1.drew.cell? ⟨gt,ot+kn * 7+5,Aa⟩=Ab (I U jk.2.2.1)/\y1.drew.cell? ⟨gt,ot+kn * 7+6,Aa⟩=Ab (I U jk.2.2.2):=⟨g.box,au y1.drew (g.below.trans (br _ _).drew)⟩;refine p_pt 0 20 w.heap.size 2 hS ?_;refine zD 1 21 (.agg #[I U p.high.1,I U p.high.2.1,I U p.high.2.2.1,I U p.high.2.2.2]) hS ?_ (hy:=by intro x hx;have d0:=zB hx.1 2 (I U p.high.1) rfl;have d1:=zB hx.1 3 (I U p.high.2.1) rfl;have d2:=zB hx.1 4 (I U p.high.2.2.1) rfl;have d3:=zB hx.1 5 (I U p.high.2.2.2) rfl;go_simp;try rfl);refine zD 2 22 (.slice (Ab ⟨gt,ot,Aa⟩) ps.length a2) hS ?_;refine zD 3 23 (I U (kn:Int)) hS ?_;refine p_pt 4 24 gt (ot+kn * 7) hS ?_;refine p_pt 5 25 gt (ot+kn * 7+3) hS ?_;refine zD 6 26 (.agg #[I U jk.1,I U jk.2.1,I U jk.2.2.1,I U jk.2.2.2]) hS ?_ (hy:=by intro x hx;have d0:=hx.2.1;have d1:=hx.2.2.1;have d2:=hx.2.2.2.1;have d3:=hx.2.2.2.2;go_simp;try rfl);refine kJ 7 27 30 #[.agg #[I U p.high.1,I U p.high.2.1,I U p.high.2.2.1,I U p.high.2.2.2],.agg #[I U jk.1,I U jk.2.1,I U jk.2.2.1,I U jk.2.2.2]] ((higher_i (p.high) jk y1.drew).mono ?_);rintro e x2 ⟨rfl,m⟩;have hb:=(bw y1).trans m;have f:Hid (Bx2 w x2 (zA p s1) zF):=g.more hb;have a1:Hid (zO w.heap.size x2.heap.size x2 p s1):=(aj.below hb).wide hb.size (nl _);have ac:Bx x2 w.heap.size (zA p s1) 35/\x2.cell? ⟨gt,ot+kn * 7+3,Aa⟩=Ab (I U jk.1)/\x2.cell? ⟨gt,ot+kn * 7+4,Aa⟩=Ab (I U jk.2.1)/\x2.cell? ⟨gt,ot+kn * 7+5,Aa⟩=Ab (I U jk.2.2.1)/\x2.cell? ⟨gt,ot+kn * 7+6,Aa⟩=Ab (I U jk.2.2.2):=⟨f.box,au x2 f.below⟩;clear hb m hS g aj;refine ⟨_,rfl,fun _=>ac,?_⟩;simp only [pz];refine zD 8 28 (.pointer (Ab ⟨w.heap.size,2,Aa⟩)) ac ?_;refine p_pa 9 w.heap.size 2 #[I U (yF (p.high) jk).1,I U (yF (p.high) jk).2.1,I U (yF (p.high) jk).2.2.1,I U (yF (p.high) jk).2.2.2] (zA p s1) (zA q1 s1) f.box (by simp [zA]) (by simp [Ak]) (by rw [al];rfl) ?_;intro y2 hg hk;have an:Hid (Bx2 w y2 (zA q1 s1) zF):=f.put hg hk;have a8:Hid (zO w.heap.size y2.heap.size y2 q1 s1):=hid (by rw [al];exact ((a1.boxed f.box hg).wide hg.size (nl _)).other rfl rfl rfl rfl rfl rfl);clear hg hk ac f a1;refine ⟨fun h=>absurd h (by decide),?_⟩;refine p_do ?_;go_wp2;refine p_rg (fun i=>decide (i < 9)) (fun x=>Bx x w.heap.size (zA q1 s1) 35/\x.cell? ⟨gt,ot+bn * 7+3,Aa⟩=Ab (I U jb.1)/\x.cell? ⟨gt,ot+bn * 7+4,Aa⟩=Ab (I U jb.2.1)/\x.cell? ⟨gt,ot+bn * 7+5,Aa⟩=Ab (I U jb.2.2.1)/\x.cell? ⟨gt,ot+bn * 7+6,Aa⟩=Ab (I U jb.2.2.2)) ?_;show zX prog _ _ _ _ _ (9+1) (Aj 10 false) _ _;have hS:Bx y2.drew w.heap.size (zA q1 s1) 35/\y2.drew.cell? ⟨gt,ot+bn * 7+3,Aa⟩=Ab (I U jb.1)/\y2.drew.cell? ⟨gt,ot+bn * 7+4,Aa⟩=Ab (I U jb.2.1)/\y2.drew.cell? ⟨gt,ot+bn * 7+5,Aa⟩=Ab (I U jb.2.2.1)/\y2.drew.cell? ⟨gt,ot+bn * 7+6,Aa⟩=Ab (I U jb.2.2.2):=⟨an.box,ay y2.drew (an.below.trans (br _ _).drew)⟩;refine p_pt 0 29 w.heap.size 6 hS ?_;refine zD 1 30 (.agg #[I U q1.lock.1,I U q1.lock.2.1,I U q1.lock.2.2.1,I U q1.lock.2.2.2]) hS ?_ (hy:=by intro x hx;have d0:=zB hx.1 6 (I U q1.lock.1) rfl;have d1:=zB hx.1 7 (I U q1.lock.2.1) rfl;have d2:=zB hx.1 8 (I U q1.lock.2.2.1) rfl;have d3:=zB hx.1 9 (I U q1.lock.2.2.2) rfl;go_simp;try rfl);refine zD 2 31 (.slice (Ab ⟨gt,ot,Aa⟩) ps.length a2) hS ?_;refine zD 3 32 (I U (bn:Int)) hS ?_;refine p_pt 4 33 gt (ot+bn * 7) hS ?_;refine p_pt 5 34 gt (ot+bn * 7+3) hS ?_;refine zD 6 35 (.agg #[I U jb.1,I U jb.2.1,I U jb.2.2.1,I U jb.2.2.2]) hS ?_ (hy:=by intro x hx;have d0:=hx.2.1;have d1:=hx.2.2.1;have d2:=hx.2.2.2.1;have d3:=hx.2.2.2.2;go_simp;try rfl);refine kJ 7 36 30 #[.agg #[I U q1.lock.1,I U q1.lock.2.1,I U q1.lock.2.2.1,I U q1.lock.2.2.2],.agg #[I U jb.1,I U jb.2.1,I U jb.2.2.1,I U jb.2.2.2]] ((higher_i (q1.lock) jb y2.drew).mono ?_);rintro e x3 ⟨rfl,m⟩;have hb:=(bw y2).trans m;have ag:Hid (Bx2 w x3 (zA q1 s1) zF):=an.more hb;have a6:Hid (zO w.heap.size x3.heap.size x3 q1 s1):=(a8.below hb).wide hb.size (nl _);have ac:Bx x3 w.heap.size (zA q1 s1) 35/\x3.cell? ⟨gt,ot+bn * 7+3,Aa⟩=Ab (I U jb.1)/\x3.cell? ⟨gt,ot+bn * 7+4,Aa⟩=Ab (I U jb.2.1)/\x3.cell? ⟨gt,ot+bn * 7+5,Aa⟩=Ab (I U jb.2.2.1)/\x3.cell? ⟨gt,ot+bn * 7+6,Aa⟩=Ab (I U jb.2.2.2):=⟨ag.box,ay x3 ag.below⟩;clear hb m hS an a8;refine ⟨_,rfl,fun _=>ac,?_⟩;simp only [pz];refine zD 8 37 (.pointer (Ab ⟨w.heap.size,6,Aa⟩)) ac ?_;refine p_pa 9 w.heap.size 6 #[I U (yF (q1.lock) jb).1,I U (yF (q1.lock) jb).2.1,I U (yF (q1.lock) jb).2.2.1,I U (yF (q1.lock) jb).2.2.2] (zA q1 s1) (zA q2 s1) ag.box (by simp [zA]) (by simp [Ak]) (by rw [ao];rfl) ?_;intro y3 hg hk;have aw:Hid (Bx2 w y3 (zA q2 s1) zF):=ag.put hg hk;have a7:Hid (zO w.heap.size y3.heap.size y3 q2 s1):=hid (by rw [ao];exact ((a6.boxed ag.box hg).wide hg.size (nl _)).other rfl rfl rfl rfl rfl rfl);clear hg hk ac ag a6;refine ⟨fun h=>absurd h (by decide),?_⟩;refine p_do ?_;clear al ao au ay;go_wp2_with fail
  refine (threeRow_i ps _ (kn:Int) y3 (HT.below aw.below) HV).mono ?_;rintro e x4 ⟨rfl,hb⟩;have aa:Hid (Bx2 w x4 (zA q2 s1) zF):=aw.more hb;have ak:Hid (zO w.heap.size x4.heap.size x4 q2 s1):=(a7.below hb).wide hb.size (nl _);clear hb aw a7
  cases hr:thrT (bks ps) (kn:Int) with
  | none=>
   have az:Hid (learnG (bks ps) q2 (kn:Int)=q2):=hid (by unfold learnG;rw [hr]);rw [az.out] at HE ah;unfold rowAns;clear hr;go_wp2_with fail
   refine (twoRow_i ps _ (kn:Int) x4 (HT.below aa.below) HV).mono ?_;rintro e x6 ⟨rfl,hb⟩;have a:Hid (Bx2 w x6 (zA q2 s1) zF):=aa.more hb;have j:Hid (zO w.heap.size x6.heap.size x6 q2 s1):=(ak.below hb).wide hb.size (nl _);clear hb aa ak
   cases hn:twoT (bks ps) (kn:Int) with
   | some c=>
    obtain ⟨q6,af⟩:=nw (yDF (bks ps) q2 c);have HE:Hid (chainI (bks ps) p (kn:Int)=q6):=hid (by rw [HE.out];unfold learnF;rw [hn,af]);unfold rowAns;clear hn;go_wp2_with (refine w_ld w.heap.size a.box underlying35 ?_)
    refine (tooEarlyR_i ps _ q2 s1 c x6 (HT.below a.below) HK j.reads ah.2.1).mono ?_;rw [<- af];rintro e x7 ⟨s7,rfl,ho,hb⟩;have ae:Hid (zO w.heap.size x7.heap.size x7 q6 s7):=ho.low a.below.size;have t:Hid (Bx2 w x7 (zA q2 s1) zF):=a.more hb;clear ho hb a j af
    go_wp2_with (first
     | (refine w_st w.heap.size (zA q6 s7) t.box (zJ ae.1) ?_;intro y7 hg hk hz;have d:Hid (Bx2 w y7 (zA q6 s7) zF):=t.put hg hk;have ad:Hid (zO w.heap.size y7.heap.size y7 q6 s7):=(ae.boxed t.box hg).wide hg.size (nl _);clear hg hk hz t ae)
     | (refine w_ld w.heap.size d.box underlying35 ?_)
     | (refine w_st (w.heap.size+1) (zA q6 s7) d.zero (zJ ad.1) ?_;intro z hg hk hz;have r:Hid (Be w z):=d.below.grown hg d.below.size (qkk (by omega));have o:Hid (Bx z (w.heap.size+1) (zA q6 s7) 35):=hk;have l:Hid (zO w.heap.size z.heap.size z q6 s7):=(ad.boxed d.zero hg).wide hg.size (nl _);clear hg hk hz d ad))
    refine b_cr (.agg (zA q6 s7)) results16 o underlying35 ?_;rw [HE.out];exact ⟨_,rfl,l,r⟩
   | none=>
    have HE:Hid (chainI (bks ps) p (kn:Int)=q2):=hid (by rw [HE.out];unfold learnF;rw [hn]);unfold rowAns;clear hn
    go_wp2_with (first
     | (refine w_ld w.heap.size a.box underlying35 ?_)
     | (refine w_st (w.heap.size+1) (zA q2 s1) a.zero (zJ j.1) ?_;intro z hg hk hz;have r:Hid (Be w z):=a.below.grown hg a.below.size (qkk (by omega));have o:Hid (Bx z (w.heap.size+1) (zA q2 s1) 35):=hk;have l:Hid (zO w.heap.size z.heap.size z q2 s1):=(j.boxed a.zero hg).wide hg.size (nl _);clear hg hk hz a j))
    refine b_cr (.agg (zA q2 s1)) results16 o underlying35 ?_;rw [HE.out];exact ⟨_,rfl,l,r⟩
  | some dd=>
   obtain ⟨q5,ap⟩:=nw (kO (bks ps) q2 dd);have az:Hid (learnG (bks ps) q2 (kn:Int)=q5):=hid (by unfold learnG;rw [hr,ap]);rw [az.out] at HE ah;unfold rowAns;clear hr;go_wp2_with (refine w_ld w.heap.size aa.box underlying35 ?_)
   refine (throughR_i ps _ q2 s1 dd x4 (HT.below aa.below) HK ak.reads ah.2.1).mono ?_;rw [<- ap];rintro e x5 ⟨s5,rfl,ho,hb⟩;have av:Hid (zO w.heap.size x5.heap.size x5 q5 s5):=ho.low aa.below.size;have am:Hid (Bx2 w x5 (zA q2 s1) zF):=aa.more hb;clear ho hb aa ak ap;go_wp2_with (refine w_st w.heap.size (zA q5 s5) am.box (zJ av.1) ?_;intro y5 hg hk hz;have ar:Hid (Bx2 w y5 (zA q5 s5) zF):=am.put hg hk;have a5:Hid (zO w.heap.size y5.heap.size y5 q5 s5):=(av.boxed am.box hg).wide hg.size (nl _);clear hg hk hz am av)
   refine (twoRow_i ps _ (kn:Int) y5 (HT.below ar.below) HV).mono ?_;rintro e x6 ⟨rfl,hb⟩;have a:Hid (Bx2 w x6 (zA q5 s5) zF):=ar.more hb;have j:Hid (zO w.heap.size x6.heap.size x6 q5 s5):=(a5.below hb).wide hb.size (nl _);clear hb ar a5
   cases hn:twoT (bks ps) (kn:Int) with
   | some c=>
    obtain ⟨q6,af⟩:=nw (yDF (bks ps) q5 c);have HE:Hid (chainI (bks ps) p (kn:Int)=q6):=hid (by rw [HE.out];unfold learnF;rw [hn,af]);unfold rowAns;clear hn;go_wp2_with (refine w_ld w.heap.size a.box underlying35 ?_)
    refine (tooEarlyR_i ps _ q5 s5 c x6 (HT.below a.below) HK j.reads ah.2.2).mono ?_;rw [<- af];rintro e x7 ⟨s7,rfl,ho,hb⟩;have ae:Hid (zO w.heap.size x7.heap.size x7 q6 s7):=ho.low a.below.size;have t:Hid (Bx2 w x7 (zA q5 s5) zF):=a.more hb;clear ho hb a j af
    go_wp2_with (first
     | (refine w_st w.heap.size (zA q6 s7) t.box (zJ ae.1) ?_;intro y7 hg hk hz;have d:Hid (Bx2 w y7 (zA q6 s7) zF):=t.put hg hk;have ad:Hid (zO w.heap.size y7.heap.size y7 q6 s7):=(ae.boxed t.box hg).wide hg.size (nl _);clear hg hk hz t ae)
     | (refine w_ld w.heap.size d.box underlying35 ?_)
     | (refine w_st (w.heap.size+1) (zA q6 s7) d.zero (zJ ad.1) ?_;intro z hg hk hz;have r:Hid (Be w z):=d.below.grown hg d.below.size (qkk (by omega));have o:Hid (Bx z (w.heap.size+1) (zA q6 s7) 35):=hk;have l:Hid (zO w.heap.size z.heap.size z q6 s7):=(ad.boxed d.zero hg).wide hg.size (nl _);clear hg hk hz d ad))
    refine b_cr (.agg (zA q6 s7)) results16 o underlying35 ?_;rw [HE.out];exact ⟨_,rfl,l,r⟩
   | none=>
    have HE:Hid (chainI (bks ps) p (kn:Int)=q5):=hid (by rw [HE.out];unfold learnF;rw [hn]);unfold rowAns;clear hn
    go_wp2_with (first
     | (refine w_ld w.heap.size a.box underlying35 ?_)
     | (refine w_st (w.heap.size+1) (zA q5 s5) a.zero (zJ j.1) ?_;intro z hg hk hz;have r:Hid (Be w z):=a.below.grown hg a.below.size (qkk (by omega));have o:Hid (Bx z (w.heap.size+1) (zA q5 s5) 35):=hk;have l:Hid (zO w.heap.size z.heap.size z q5 s5):=(j.boxed a.zero hg).wide hg.size (nl _);clear hg hk hz a j))
    refine b_cr (.agg (zA q5 s5)) results16 o underlying35 ?_;rw [HE.out];exact ⟨_,rfl,l,r⟩
theorem sameInts_yes (l:List Int) (a b:Value) (w:World) (ha:yM w a 1 xJ l) (hb:yM w b 1 xJ l) (hl:(l.length:Int)<=1048576) :
  Calls prog 38 #[a,b] w fun e w'=>e=.returned (.bool true)/\Be w w':=by
 obtain ⟨a,ca,rfl,d⟩:=ha;obtain ⟨b,cb,rfl,h⟩:=hb;have HA:=hid d;have HB:=hid h;clear d h;go_enter func38,ntmps38;go_wp2
 go_loopw [5] (fun i wr=>∃ m:Nat,m<=l.length/\i=I U m/\Be w wr) (fun i _=>l.length - (intOf i).toNat)
 case atStart=>exact ⟨0,Ae _,rfl,br _ _⟩
 case round=>
  obtain ⟨m,hm,rfl,c⟩:=hrel
  by_cases hlt:(m:Int) < l.length
  ·have q0:(0:Int)<=(m:Int):=by omega
   have j:m < l.length:=by omega
   obtain ⟨ga,oa,rfl,n,f⟩:=HA (by omega);obtain ⟨gb,ob,rfl,k,g⟩:=HB (by omega);have o:=yX wr;have c0:∀ x:Bw wr,x.to.cell? ⟨ga,oa+m,Aa⟩=Ab (I U l[m]):=fun x=>by rw [(bt c x.below).cell (by exact n)];have:=f m j 0 (by omega);simpa [xJ] using this
   have d0:∀ x:Bw wr,x.to.cell? ⟨gb,ob+m,Aa⟩=Ab (I U l[m]):=fun x=>by rw [(bt c x.below).cell (by exact k)];have:=g m j 0 (by omega);simpa [xJ] using this
   clear f g;go_wp2;refine rb ?_;repeat (go_big_quiet_step (fail))
   refine qnn fun x=>?_
   go_wp2
   go_roundw
   case rel=>exact ⟨m+1,by omega,by go_num,bt c x.below⟩
   case measure=>simp [intOf];omega
  ·go_wp2;go_ret;exact ⟨rfl,c⟩
theorem sfV (a b c d:Int) (w:World):(Op.equalIn 10000 28 (.agg #[I U a,I U b,I U c,I U d]) (.agg #[I U a,I U b,I U c,I U d])).run prog w=.ok true w:=by
 have u3:=underlying3;have hS:prog.underlying 28=Ab (.struct (prog.fieldsOf 28)):=by kernel_rfl
 have hp:prog.stoodInHeld 28=false:=by kernel_rfl
 rw [show (10000:Nat)=9999+1 from rfl,run_equalIn_agg w 9999 28 _ _ hS hp];simp only [Program.fieldsOf,underlying28];go_simp
theorem sfVg:prog.eqGuardType prog.depth 28=false:=by kernel_rfl
theorem sfQ (a b c d:Int) (w:World):(Op.equalIn 10000 26 (.agg #[I U a,I U b,I U c,I U d]) (.agg #[I U a,I U b,I U c,I U d])).run prog w=.ok true w:=by
 have u3:=underlying3;have hS:prog.underlying 26=Ab (.struct (prog.fieldsOf 26)):=by kernel_rfl
 have hp:prog.stoodInHeld 26=false:=by kernel_rfl
 rw [show (10000:Nat)=9999+1 from rfl,run_equalIn_agg w 9999 26 _ _ hS hp];simp only [Program.fieldsOf,underlying26];go_simp
theorem sfQg:prog.eqGuardType prog.depth 26=false:=by kernel_rfl
theorem sfU (k:ByteArray) (o:Bool) (n:Int) (w:World):(Op.equalIn 10000 110 (.agg #[.string k,.bool o,I U n]) (.agg #[.string k,.bool o,I U n])).run prog w=.ok true w:=by
 have u3:=underlying3;have u9:=underlying9;have u4:=underlying4;have hS:prog.underlying 110=Ab (.struct (prog.fieldsOf 110)):=by kernel_rfl
 have hp:prog.stoodInHeld 110=false:=by kernel_rfl
 rw [show (10000:Nat)=9999+1 from rfl,run_equalIn_agg w 9999 110 _ _ hS hp];simp only [Program.fieldsOf,underlying110];go_simp
theorem sfUg:prog.eqGuardType prog.depth 110=false:=by kernel_rfl
theorem sfVd (a b c d:Int) (w:World):(Op.equalIn 9999 28 (.agg #[I U a,I U b,I U c,I U d]) (.agg #[I U a,I U b,I U c,I U d])).run prog w=.ok true w:=by
 have u3:=underlying3;have hS:prog.underlying 28=Ab (.struct (prog.fieldsOf 28)):=by kernel_rfl
 have hp:prog.stoodInHeld 28=false:=by kernel_rfl
 rw [show (9999:Nat)=9998+1 from rfl,run_equalIn_agg w 9998 28 _ _ hS hp];simp only [Program.fieldsOf,underlying28];go_simp
theorem sfQd (a b c d:Int) (w:World):(Op.equalIn 9999 26 (.agg #[I U a,I U b,I U c,I U d]) (.agg #[I U a,I U b,I U c,I U d])).run prog w=.ok true w:=by
 have u3:=underlying3;have hS:prog.underlying 26=Ab (.struct (prog.fieldsOf 26)):=by kernel_rfl
 have hp:prog.stoodInHeld 26=false:=by kernel_rfl
 rw [show (9999:Nat)=9998+1 from rfl,run_equalIn_agg w 9998 26 _ _ hS hp];simp only [Program.fieldsOf,underlying26];go_simp
theorem sfL (a b c d e f g h k n o p q:Int) (w:World):(Op.equalIn 10000 37 (.agg #[I U a,I U b,I U c,I U d,I U e,I U f,I U g,I U h,I U k,I U n,I U o,I U p,I U q]) (.agg #[I U a,I U b,I U c,I U d,I U e,I U f,I U g,I U h,I U k,I U n,I U o,I U p,I U q])).run prog w=.ok true w:=by
 have u3:=underlying3;have e1:=sfQd f g h k;have e2:=sfVd n o p q;have hS:prog.underlying 37=Ab (.struct (prog.fieldsOf 37)):=by kernel_rfl
 have hp:prog.stoodInHeld 37=false:=by kernel_rfl
 rw [show (10000:Nat)=9999+1 from rfl,run_equalIn_agg w 9999 37 _ _ hS hp];simp only [Program.fieldsOf,underlying37];go_simp
theorem sfLg:prog.eqGuardType prog.depth 37=false:=by kernel_rfl
theorem sfC (k:ByteArray) (n:Int) (w:World):(Op.equalIn 10000 108 (.agg #[.string k,I U n]) (.agg #[.string k,I U n])).run prog w=.ok true w:=by
 have u3:=underlying3;have u9:=underlying9;have hS:prog.underlying 108=Ab (.struct (prog.fieldsOf 108)):=by kernel_rfl
 have hp:prog.stoodInHeld 108=false:=by kernel_rfl
 rw [show (10000:Nat)=9999+1 from rfl,run_equalIn_agg w 9999 108 _ _ hS hp];simp only [Program.fieldsOf,underlying108];go_simp
theorem sfCg:prog.eqGuardType prog.depth 108=false:=by kernel_rfl
theorem sameCells_yes (l:CL) (a b:Value) (w:World) (ha:qQ w a l) (hb:qQ w b l) (hl:(l.length:Int)<=1048576) :
  Calls prog 39 #[a,b] w fun e w'=>e=.returned (.bool true)/\Be w w':=by
 obtain ⟨a,ca,rfl,h⟩:=ha;obtain ⟨b,cb,rfl,n⟩:=hb;have HA:=hid h;have HB:=hid n;clear h n;go_enter func39,ntmps39;go_wp2
 go_loopw [5] (fun i wr=>∃ m:Nat,m<=l.length/\i=I U m/\Be w wr) (fun i _=>l.length - (intOf i).toNat)
 case atStart=>exact ⟨0,Ae _,rfl,br _ _⟩
 case round=>
  obtain ⟨m,hm,rfl,c⟩:=hrel
  by_cases hlt:(m:Int) < l.length
  ·have q0:(0:Int)<=(m:Int):=by omega
   have d:m < l.length:=by omega
   obtain ⟨ga,oa,rfl,k,f⟩:=HA (by omega);obtain ⟨gb,ob,rfl,j,g⟩:=HB (by omega);have o:=yX wr;have c0:∀ x:Bw wr,x.to.cell? ⟨ga,oa+m * 2,Aa⟩=Ab (.string l[m].1):=fun x=>by rw [(bt c x.below).cell (by exact k)];exact (f m d).1
   have c1:∀ x:Bw wr,x.to.cell? ⟨ga,oa+m * 2+1,Aa⟩=Ab (I U l[m].2):=fun x=>by rw [(bt c x.below).cell (by exact k)];exact (f m d).2
   have d0:∀ x:Bw wr,x.to.cell? ⟨gb,ob+m * 2,Aa⟩=Ab (.string l[m].1):=fun x=>by rw [(bt c x.below).cell (by exact j)];exact (g m d).1
   have d1:∀ x:Bw wr,x.to.cell? ⟨gb,ob+m * 2+1,Aa⟩=Ab (I U l[m].2):=fun x=>by rw [(bt c x.below).cell (by exact j)];exact (g m d).2
   have e0:=sfC l[m].1 l[m].2;have e1:=sfCg;clear f g;go_wp2;refine rb ?_;repeat (go_big_quiet_step (fail))
   refine qnn fun x=>?_
   go_wp2
   go_roundw
   case rel=>exact ⟨m+1,by omega,by go_num,bt c x.below⟩
   case measure=>simp [intOf];omega
  ·go_wp2;go_ret;exact ⟨rfl,c⟩
theorem sameUndos_yes (l:List UN) (a b:Value) (w:World) (ha:yM w a 3 kK l) (hb:yM w b 3 kK l) (hl:(l.length:Int)<=1048576) :
  Calls prog 40 #[a,b] w fun e w'=>e=.returned (.bool true)/\Be w w':=by
 obtain ⟨a,ca,rfl,k⟩:=ha;obtain ⟨b,cb,rfl,n⟩:=hb;have HA:=hid k;have HB:=hid n;clear k n;go_enter func40,ntmps40;go_wp2
 go_loopw [5] (fun i wr=>∃ m:Nat,m<=l.length/\i=I U m/\Be w wr) (fun i _=>l.length - (intOf i).toNat)
 case atStart=>exact ⟨0,Ae _,rfl,br _ _⟩
 case round=>
  obtain ⟨m,hm,rfl,c⟩:=hrel
  by_cases hlt:(m:Int) < l.length
  ·have q0:(0:Int)<=(m:Int):=by omega
   have d:m < l.length:=by omega
   obtain ⟨ga,oa,rfl,j,f⟩:=HA (by omega);obtain ⟨gb,ob,rfl,h,g⟩:=HB (by omega);have o:=yX wr;have c0:∀ x:Bw wr,x.to.cell? ⟨ga,oa+m * 3,Aa⟩=Ab (.string l[m].1):=fun x=>by rw [(bt c x.below).cell (by exact j)];exact f m d 0 (by omega)
   have c1:∀ x:Bw wr,x.to.cell? ⟨ga,oa+m * 3+1,Aa⟩=Ab (.bool l[m].2.1):=fun x=>by rw [(bt c x.below).cell (by exact j)];exact f m d 1 (by omega)
   have c2:∀ x:Bw wr,x.to.cell? ⟨ga,oa+m * 3+2,Aa⟩=Ab (I U l[m].2.2):=fun x=>by rw [(bt c x.below).cell (by exact j)];exact f m d 2 (by omega)
   have d0:∀ x:Bw wr,x.to.cell? ⟨gb,ob+m * 3,Aa⟩=Ab (.string l[m].1):=fun x=>by rw [(bt c x.below).cell (by exact h)];exact g m d 0 (by omega)
   have d1:∀ x:Bw wr,x.to.cell? ⟨gb,ob+m * 3+1,Aa⟩=Ab (.bool l[m].2.1):=fun x=>by rw [(bt c x.below).cell (by exact h)];exact g m d 1 (by omega)
   have d2:∀ x:Bw wr,x.to.cell? ⟨gb,ob+m * 3+2,Aa⟩=Ab (I U l[m].2.2):=fun x=>by rw [(bt c x.below).cell (by exact h)];exact g m d 2 (by omega)
   have e0:=sfU l[m].1 l[m].2.1 l[m].2.2;have e1:=sfUg;clear f g;go_wp2;refine rb ?_;repeat (go_big_quiet_step (fail))
   refine qnn fun x=>?_
   go_wp2
   go_roundw
   case rel=>exact ⟨m+1,by omega,by go_num,bt c x.below⟩
   case measure=>simp [intOf];omega
  ·go_wp2;go_ret;exact ⟨rfl,c⟩
theorem sameVotes_yes (l:List VT) (a b:Value) (w:World) (ha:yM w a 4 xD l) (hb:yM w b 4 xD l) (hl:(l.length:Int)<=1048576) :
  Calls prog 41 #[a,b] w fun e w'=>e=.returned (.bool true)/\Be w w':=by
 obtain ⟨a,ca,rfl,k⟩:=ha;obtain ⟨b,cb,rfl,n⟩:=hb;have HA:=hid k;have HB:=hid n;clear k n;go_enter func41,ntmps41;go_wp2
 go_loopw [5] (fun i wr=>∃ m:Nat,m<=l.length/\i=I U m/\Be w wr) (fun i _=>l.length - (intOf i).toNat)
 case atStart=>exact ⟨0,Ae _,rfl,br _ _⟩
 case round=>
  obtain ⟨m,hm,rfl,c⟩:=hrel
  by_cases hlt:(m:Int) < l.length
  ·have q0:(0:Int)<=(m:Int):=by omega
   have d:m < l.length:=by omega
   obtain ⟨ga,oa,rfl,j,f⟩:=HA (by omega);obtain ⟨gb,ob,rfl,h,g⟩:=HB (by omega);have o:=yX wr;have c0:∀ x:Bw wr,x.to.cell? ⟨ga,oa+m * 4,Aa⟩=Ab (I U l[m].1):=fun x=>by rw [(bt c x.below).cell (by exact j)];exact f m d 0 (by omega)
   have c1:∀ x:Bw wr,x.to.cell? ⟨ga,oa+m * 4+1,Aa⟩=Ab (I U l[m].2.1):=fun x=>by rw [(bt c x.below).cell (by exact j)];exact f m d 1 (by omega)
   have c2:∀ x:Bw wr,x.to.cell? ⟨ga,oa+m * 4+2,Aa⟩=Ab (I U l[m].2.2.1):=fun x=>by rw [(bt c x.below).cell (by exact j)];exact f m d 2 (by omega)
   have c3:∀ x:Bw wr,x.to.cell? ⟨ga,oa+m * 4+3,Aa⟩=Ab (I U l[m].2.2.2):=fun x=>by rw [(bt c x.below).cell (by exact j)];exact f m d 3 (by omega)
   have d0:∀ x:Bw wr,x.to.cell? ⟨gb,ob+m * 4,Aa⟩=Ab (I U l[m].1):=fun x=>by rw [(bt c x.below).cell (by exact h)];exact g m d 0 (by omega)
   have d1:∀ x:Bw wr,x.to.cell? ⟨gb,ob+m * 4+1,Aa⟩=Ab (I U l[m].2.1):=fun x=>by rw [(bt c x.below).cell (by exact h)];exact g m d 1 (by omega)
   have d2:∀ x:Bw wr,x.to.cell? ⟨gb,ob+m * 4+2,Aa⟩=Ab (I U l[m].2.2.1):=fun x=>by rw [(bt c x.below).cell (by exact h)];exact g m d 2 (by omega)
   have d3:∀ x:Bw wr,x.to.cell? ⟨gb,ob+m * 4+3,Aa⟩=Ab (I U l[m].2.2.2):=fun x=>by rw [(bt c x.below).cell (by exact h)];exact g m d 3 (by omega)
   have e0:=sfV l[m].1 l[m].2.1 l[m].2.2.1 l[m].2.2.2;have e1:=sfVg;clear f g;go_wp2;refine rb ?_;repeat (go_big_quiet_step (fail))
   refine qnn fun x=>?_
   go_wp2
   go_roundw
   case rel=>exact ⟨m+1,by omega,by go_num,bt c x.below⟩
   case measure=>simp [intOf];omega
  ·go_wp2;go_ret;exact ⟨rfl,c⟩
theorem sameLetters_yes (l:List LT) (a b:Value) (w:World) (ha:yM w a 13 yE l) (hb:yM w b 13 yE l) (hl:(l.length:Int)<=1048576) :
  Calls prog 11 #[a,b] w fun e w'=>e=.returned (.bool true)/\Be w w':=by
 obtain ⟨a,ca,rfl,k⟩:=ha;obtain ⟨b,cb,rfl,n⟩:=hb;have HA:=hid k;have HB:=hid n;clear k n;go_enter func11,ntmps11;go_wp2
 go_loopw [5] (fun i wr=>∃ m:Nat,m<=l.length/\i=I U m/\Be w wr) (fun i _=>l.length - (intOf i).toNat)
 case atStart=>exact ⟨0,Ae _,rfl,br _ _⟩
 case round=>
  obtain ⟨m,hm,rfl,c⟩:=hrel
  by_cases hlt:(m:Int) < l.length
  ·have q0:(0:Int)<=(m:Int):=by omega
   have d:m < l.length:=by omega
   obtain ⟨ga,oa,rfl,j,f⟩:=HA (by omega);obtain ⟨gb,ob,rfl,h,g⟩:=HB (by omega);have v:=yX wr;have c0:∀ x:Bw wr,x.to.cell? ⟨ga,oa+m * 13,Aa⟩=Ab (I U l[m].1.1):=fun x=>by rw [(bt c x.below).cell (by exact j)];exact f m d 0 (by omega)
   have c1:∀ x:Bw wr,x.to.cell? ⟨ga,oa+m * 13+1,Aa⟩=Ab (I U l[m].1.2.1):=fun x=>by rw [(bt c x.below).cell (by exact j)];exact f m d 1 (by omega)
   have c2:∀ x:Bw wr,x.to.cell? ⟨ga,oa+m * 13+2,Aa⟩=Ab (I U l[m].1.2.2.1):=fun x=>by rw [(bt c x.below).cell (by exact j)];exact f m d 2 (by omega)
   have c3:∀ x:Bw wr,x.to.cell? ⟨ga,oa+m * 13+3,Aa⟩=Ab (I U l[m].1.2.2.2.1):=fun x=>by rw [(bt c x.below).cell (by exact j)];exact f m d 3 (by omega)
   have c4:∀ x:Bw wr,x.to.cell? ⟨ga,oa+m * 13+4,Aa⟩=Ab (I U l[m].1.2.2.2.2):=fun x=>by rw [(bt c x.below).cell (by exact j)];exact f m d 4 (by omega)
   have c5:∀ x:Bw wr,x.to.cell? ⟨ga,oa+m * 13+5,Aa⟩=Ab (I U l[m].2.1.1):=fun x=>by rw [(bt c x.below).cell (by exact j)];exact f m d 5 (by omega)
   have c6:∀ x:Bw wr,x.to.cell? ⟨ga,oa+m * 13+6,Aa⟩=Ab (I U l[m].2.1.2.1):=fun x=>by rw [(bt c x.below).cell (by exact j)];exact f m d 6 (by omega)
   have c7:∀ x:Bw wr,x.to.cell? ⟨ga,oa+m * 13+7,Aa⟩=Ab (I U l[m].2.1.2.2.1):=fun x=>by rw [(bt c x.below).cell (by exact j)];exact f m d 7 (by omega)
   have c8:∀ x:Bw wr,x.to.cell? ⟨ga,oa+m * 13+8,Aa⟩=Ab (I U l[m].2.1.2.2.2):=fun x=>by rw [(bt c x.below).cell (by exact j)];exact f m d 8 (by omega)
   have c9:∀ x:Bw wr,x.to.cell? ⟨ga,oa+m * 13+9,Aa⟩=Ab (I U l[m].2.2.1):=fun x=>by rw [(bt c x.below).cell (by exact j)];exact f m d 9 (by omega)
   have o:∀ x:Bw wr,x.to.cell? ⟨ga,oa+m * 13+10,Aa⟩=Ab (I U l[m].2.2.2.1):=fun x=>by rw [(bt c x.below).cell (by exact j)];exact f m d 10 (by omega)
   have s:∀ x:Bw wr,x.to.cell? ⟨ga,oa+m * 13+11,Aa⟩=Ab (I U l[m].2.2.2.2.1):=fun x=>by rw [(bt c x.below).cell (by exact j)];exact f m d 11 (by omega)
   have p:∀ x:Bw wr,x.to.cell? ⟨ga,oa+m * 13+12,Aa⟩=Ab (I U l[m].2.2.2.2.2):=fun x=>by rw [(bt c x.below).cell (by exact j)];exact f m d 12 (by omega)
   have d0:∀ x:Bw wr,x.to.cell? ⟨gb,ob+m * 13,Aa⟩=Ab (I U l[m].1.1):=fun x=>by rw [(bt c x.below).cell (by exact h)];exact g m d 0 (by omega)
   have d1:∀ x:Bw wr,x.to.cell? ⟨gb,ob+m * 13+1,Aa⟩=Ab (I U l[m].1.2.1):=fun x=>by rw [(bt c x.below).cell (by exact h)];exact g m d 1 (by omega)
   have d2:∀ x:Bw wr,x.to.cell? ⟨gb,ob+m * 13+2,Aa⟩=Ab (I U l[m].1.2.2.1):=fun x=>by rw [(bt c x.below).cell (by exact h)];exact g m d 2 (by omega)
   have d3:∀ x:Bw wr,x.to.cell? ⟨gb,ob+m * 13+3,Aa⟩=Ab (I U l[m].1.2.2.2.1):=fun x=>by rw [(bt c x.below).cell (by exact h)];exact g m d 3 (by omega)
   have d4:∀ x:Bw wr,x.to.cell? ⟨gb,ob+m * 13+4,Aa⟩=Ab (I U l[m].1.2.2.2.2):=fun x=>by rw [(bt c x.below).cell (by exact h)];exact g m d 4 (by omega)
   have d5:∀ x:Bw wr,x.to.cell? ⟨gb,ob+m * 13+5,Aa⟩=Ab (I U l[m].2.1.1):=fun x=>by rw [(bt c x.below).cell (by exact h)];exact g m d 5 (by omega)
   have d6:∀ x:Bw wr,x.to.cell? ⟨gb,ob+m * 13+6,Aa⟩=Ab (I U l[m].2.1.2.1):=fun x=>by rw [(bt c x.below).cell (by exact h)];exact g m d 6 (by omega)
   have d7:∀ x:Bw wr,x.to.cell? ⟨gb,ob+m * 13+7,Aa⟩=Ab (I U l[m].2.1.2.2.1):=fun x=>by rw [(bt c x.below).cell (by exact h)];exact g m d 7 (by omega)
   have d8:∀ x:Bw wr,x.to.cell? ⟨gb,ob+m * 13+8,Aa⟩=Ab (I U l[m].2.1.2.2.2):=fun x=>by rw [(bt c x.below).cell (by exact h)];exact g m d 8 (by omega)
   have d9:∀ x:Bw wr,x.to.cell? ⟨gb,ob+m * 13+9,Aa⟩=Ab (I U l[m].2.2.1):=fun x=>by rw [(bt c x.below).cell (by exact h)];exact g m d 9 (by omega)
   have r:∀ x:Bw wr,x.to.cell? ⟨gb,ob+m * 13+10,Aa⟩=Ab (I U l[m].2.2.2.1):=fun x=>by rw [(bt c x.below).cell (by exact h)];exact g m d 10 (by omega)
   have t:∀ x:Bw wr,x.to.cell? ⟨gb,ob+m * 13+11,Aa⟩=Ab (I U l[m].2.2.2.2.1):=fun x=>by rw [(bt c x.below).cell (by exact h)];exact g m d 11 (by omega)
   have y:∀ x:Bw wr,x.to.cell? ⟨gb,ob+m * 13+12,Aa⟩=Ab (I U l[m].2.2.2.2.2):=fun x=>by rw [(bt c x.below).cell (by exact h)];exact g m d 12 (by omega)
   have e0:=sfL l[m].1.1 l[m].1.2.1 l[m].1.2.2.1 l[m].1.2.2.2.1 l[m].1.2.2.2.2 l[m].2.1.1 l[m].2.1.2.1 l[m].2.1.2.2.1 l[m].2.1.2.2.2 l[m].2.2.1 l[m].2.2.2.1 l[m].2.2.2.2.1 l[m].2.2.2.2.2;have e1:=sfLg;clear f g;go_wp2;refine rb ?_;repeat (go_big_quiet_step (fail))
   refine qnn fun x=>?_
   go_wp2
   go_roundw
   case rel=>exact ⟨m+1,by omega,by go_num,bt c x.below⟩
   case measure=>simp [intOf];omega
  ·go_wp2;go_ret;exact ⟨rfl,c⟩
theorem samePeer_yes (p:PE) (s t:PV) (w:World) (ha:jS w p s) (hb:jS w p t) (hs:yC p) :
  Calls prog 10 #[yZ p s,yZ p t] w fun e w'=>e=.returned (.bool true)/\Be w w':=by
 have HA:=hid ha;have HB:=hid hb;have HS:=hid hs;clear ha hb hs;obtain ⟨W,hW⟩:=nw ((w.alloc (.cells (zA p s) 35)).alloc (.cells (zA p t) 35));have HW:Hid (Bx W w.heap.size (zA p s) 35/\Bx W (w.heap.size+1) (zA p t) 35/\Be w W):=hid (by rw [hW];exact ⟨(qK w _ _).1,(qK w _ _).2,ba (ba (br _ _) _) _⟩);have e0:=sfQ p.high.1 p.high.2.1 p.high.2.2.1 p.high.2.2.2;have e1:=sfQ p.lock.1 p.lock.2.1 p.lock.2.2.1 p.lock.2.2.2;have e2:=sfQg;have e3:=sfV p.last.1 p.last.2.1 p.last.2.2.1 p.last.2.2.2;have e4:=sfVg;have c0:=zB HW.1 0 (I U p.id) rfl;have c1:=zB HW.1 1 (I U p.view) rfl;have c2:=zB HW.1 2 (I U p.high.1) rfl;have c3:=zB HW.1 3 (I U p.high.2.1) rfl;have c4:=zB HW.1 4 (I U p.high.2.2.1) rfl;have c5:=zB HW.1 5 (I U p.high.2.2.2) rfl;have c6:=zB HW.1 6 (I U p.lock.1) rfl;have c7:=zB HW.1 7 (I U p.lock.2.1) rfl;have c8:=zB HW.1 8 (I U p.lock.2.2.1) rfl;have c9:=zB HW.1 9 (I U p.lock.2.2.2) rfl;have i:=zB HW.1 10 (I U p.last.1) rfl;have l:=zB HW.1 11 (I U p.last.2.1) rfl;have j:=zB HW.1 12 (I U p.last.2.2.1) rfl;have n:=zB HW.1 13 (I U p.last.2.2.2) rfl;have v:=zB HW.1 14 (s.row) rfl;have d0:=zB HW.2.1 0 (I U p.id) rfl;have d1:=zB HW.2.1 1 (I U p.view) rfl;have d2:=zB HW.2.1 2 (I U p.high.1) rfl;have d3:=zB HW.2.1 3 (I U p.high.2.1) rfl;have d4:=zB HW.2.1 4 (I U p.high.2.2.1) rfl;have d5:=zB HW.2.1 5 (I U p.high.2.2.2) rfl;have d6:=zB HW.2.1 6 (I U p.lock.1) rfl;have d7:=zB HW.2.1 7 (I U p.lock.2.1) rfl;have d8:=zB HW.2.1 8 (I U p.lock.2.2.1) rfl;have d9:=zB HW.2.1 9 (I U p.lock.2.2.2) rfl;have k:=zB HW.2.1 10 (I U p.last.1) rfl;have o:=zB HW.2.1 11 (I U p.last.2.1) rfl;have r:=zB HW.2.1 12 (I U p.last.2.2.1) rfl;have h:=zB HW.2.1 13 (I U p.last.2.2.2) rfl;have m:=zB HW.2.1 14 (t.row) rfl;rw [hW] at c0 c1 c2 c3 c4 c5 c6 c7 c8 c9 i l j n v d0 d1 d2 d3 d4 d5 d6 d7 d8 d9 k o r h m;go_enter func10,ntmps10;go_wp2_with fail
 rw [<- hW];clear hW;refine (sameInts_yes p.row s.row t.row W (HA.row.below HW.2.2) (HB.row.below HW.2.2) HS.row).mono ?_;rintro e x0 ⟨rfl,hb⟩;have f:=hid (qad3 (bk hb HW.1) (bk hb HW.2.1) (bt HW.2.2 hb));clear hb HW c0 c1 c2 c3 c4 c5 c6 c7 c8 c9 i l j n v d0 d1 d2 d3 d4 d5 d6 d7 d8 d9 k o r h m;have z:=zB f.1 15 (s.cells) rfl;have ag:=zB f.2.1 15 (t.cells) rfl;clear e0 e1 e2 e3 e4;go_wp2_with fail
 refine (sameCells_yes p.cells s.cells t.cells x0 (HA.cells.below f.2.2) (HB.cells.below f.2.2) HS.cells).mono ?_;rintro e x1 ⟨rfl,hb⟩;have c:=hid (qad3 (bk hb f.1) (bk hb f.2.1) (bt f.2.2 hb));clear hb f z ag;have ac:=zB c.1 16 (s.early) rfl;have aa:=zB c.2.1 16 (t.early) rfl;go_wp2_with fail
 refine (sameInts_yes p.early s.early t.early x1 (HA.early.below c.2.2) (HB.early.below c.2.2) HS.early).mono ?_;rintro e x2 ⟨rfl,hb⟩;have a:=hid (qad3 (bk hb c.1) (bk hb c.2.1) (bt c.2.2 hb));clear hb c ac aa;have af:=zB a.1 17 (s.undos) rfl;have ad:=zB a.2.1 17 (t.undos) rfl;go_wp2_with fail
 refine (sameUndos_yes p.undos s.undos t.undos x2 (HA.undos.below a.2.2) (HB.undos.below a.2.2) HS.undos).mono ?_;rintro e x3 ⟨rfl,hb⟩;have b:=hid (qad3 (bk hb a.1) (bk hb a.2.1) (bt a.2.2 hb));clear hb a af ad;have x:=zB b.1 18 (s.votes) rfl;have ab:=zB b.2.1 18 (t.votes) rfl;go_wp2_with fail
 refine (sameVotes_yes p.votes s.votes t.votes x3 (HA.votes.below b.2.2) (HB.votes.below b.2.2) HS.votes).mono ?_;rintro e x4 ⟨rfl,hb⟩;have d:=hid (qad3 (bk hb b.1) (bk hb b.2.1) (bt b.2.2 hb));clear hb b x ab;have y:=zB d.1 19 (s.news) rfl;have ae:=zB d.2.1 19 (t.news) rfl;go_wp2_with fail
 refine (sameLetters_yes p.news s.news t.news x4 (HA.news.below d.2.2) (HB.news.below d.2.2) HS.news).mono ?_;rintro e x5 ⟨rfl,hb⟩;have g:=hid (qad3 (bk hb d.1) (bk hb d.2.1) (bt d.2.2 hb));clear hb d y ae;have ai:=zB g.1 20 (I U p.shown) rfl;have ah:=zB g.2.1 20 (I U p.shown) rfl;go_wp2;go_ret;exact ⟨rfl,g.2.2⟩
open Go.ChangeShapes Go.WideShapes Go.ChangeAt
theorem code_of {W:World} {len:Nat} {zs:List Int} (hle:len<=1048576) (hz:len<=zs.length) (ha:a=none->len=0) (hcell:∀ x,a=some x->∀ i,i < zs.length->W.cell? (x.add i)=Ab (.int .u8 (zs.getD i 0))) (hwz:∀ n∈zs,(Lit.int .u8 n).wf=true) (_hc:len<=cap) :
  ∃ b off,Code W a len b off:=by
 by_cases h0:len=0
 ·subst h0;exact ⟨0,0,⟨by omega,fun h=>absurd h (by omega),fun k hk=>absurd hk (by omega),fun h=>absurd h (by omega)⟩⟩
 ·cases a with
  | none=>exact absurd (ha rfl) h0
  | some x=>
   obtain ⟨b,off,f⟩:=x;have h1:=hcell _ rfl;have c:f=none:=by simpa [Addr.add] using World.cell?_spot (h1 0 (by omega))
   subst c
   have h2:∀ k,k < len->W.cell? ⟨b,off+k,Aa⟩=Ab (.int .u8 (zs.getD k 0)):=fun k hk=>by
    have hp:(⟨b,off,Aa⟩:Addr).add k=⟨b,off+k,Aa⟩:=by unfold Addr.add;split <;> simp_all
    rw [<- hp];exact h1 k (by omega)
   refine ⟨b,off,⟨hle,fun _=>rfl,fun k hk=>⟨zs.getD k 0,?_,?_,h2 k hk⟩,fun _=>World.block_lt_of_cell? W _ (h2 0 (by omega))⟩⟩
   all_goals
    have d:k < zs.length:=by omega
    have hm:zs.getD k 0∈zs:=by
     have e:zs.getD k 0=zs[k]:=by simp [List.getD,List.getElem?_eq_getElem d]
     rw [e];exact Ag d
    have:=bounds_u8 (hwz _ hm);omega
theorem code_open {H:Type} {enc:TypeId × Value->H} {W:World} {len:Nat} {d:DataW H} {p:List MemPlace} (hlen:¬ (1048576:Int) < len) (h:DataW.Trod enc prog W 0 (fun _=>true) true 22 (.slice a len cap) d p):∃ b off,Code W a len b off:=by
 obtain ⟨j,hf⟩:=h
 rcases open_ints underlying22 underlying5 (by kernel_rfl) hf with ⟨e,_⟩ | ⟨x,l,c,zs,e,_,hl,hm,hz,_,f,g⟩
 ·simp [Value.cells] at e;obtain ⟨rfl,rfl,rfl⟩:=e;exact code_of (zs:=[]) (cap:=0) (by omega) (Ae _) (fun _=>rfl) (fun x h=>by cases h) (fun n h=>by cases h) (nl _)
 ·simp [Value.cells] at e;obtain ⟨rfl,rfl,rfl⟩:=e;exact code_of (zs:=zs) (by omega) (by have:zs.length=cap:=(by simpa using hz);omega) (fun h=>by cases h) (fun y h i hi=>by cases h;exact f i hi) g hl
end Go.Proofs.YtfnneillakdopadGreat
