/-
  A text of ours: ChainLS.
-/
import Derived.Test.YtfnneillakdopacGreatRK1
import Derived.Test.YtfnneillakdopacGreatRK6
import Derived.Test.YtfnneillakdopacGreatREarSZ
import Derived.Test.YtfnneillakdopacGreatRK3
import Derived.Test.YtfnneillakdopacGreatRK4
set_option maxRecDepth 100000
set_option maxHeartbeats 32000000
namespace Go.Proofs.YtfnneillakdopacGreatR
open _root_.Go.Proofs.Tryz
open Go.Value renaming int->I,oneCell'->Ac
open Go.IntKind renaming i64->U
open Option renaming none->Aa,some->Ab
open Go.RowKit Num
theorem zII (ps:TL) (v:Value) (p:PE) (s:PV) (k:Int) (w:World) (hT:jB w v ps) (hk:okT (bks ps)) (hR:jS w p s) (hs:yC p) (hl:jZ p+wtB (bks ps)<=1048576) :
  Calls prog 212 #[v,yZ p s,I U k] w fun e w'=>∃ s',e=.returned (yZ (jN (bks ps) p k) s')/\zO w.heap.size w'.heap.size w' (jN (bks ps) p k) s'/\Be w w':=by
 have HT:=hid hT;have HK:=hid hk;have HR:=hid hR;have HS:=hid hs;have bg:=hid hl;have a8:(ps.length:Int)<=1048576:=by have:=hk.1;rw [yO] at this;exact this
 have bh:Hid ((bks ps).length=ps.length):=yO ps;obtain ⟨bj,bb,rfl,-⟩:=HT.1;clear hT hk hR hs hl;obtain ⟨W,hW⟩:=nw ((w.alloc (.cells (zA p s) 35)).alloc (.cells zF 35))
 have HC:Hid (Be w W/\Bx W w.heap.size (zA p s) 35/\Bx W (w.heap.size+1) zF 35):=by
  rw [hW];exact ⟨ba (ba (br _ _) _) _,qK w _ _⟩
 have aj:Hid (W.heap.size=w.heap.size+1+1):=hid (by rw [hW];simp);unfold zF at hW;go_enter func212,ntmps212;go_wp2_with (rw [<- hW];clear hW;refine w_ld w.heap.size HC.2.1 underlying35 ?_)
 refine (zHJ p s W (HR.below HC.1) HS).mono ?_;rintro e x1 ⟨s1,rfl,ho,hb⟩;have au:Hid (zO W.heap.size x1.heap.size x1 p s1):=ho.toD;have ab:Hid (Be W x1):=hb;clear ho hb;go_wp2_with (refine w_st x1.heap.size (zA p s1) (heap_alloc_new x1 _) (zJ au.1) ?_;intro y1 hg hk hz;have al:Be x1 y1:=yB hg;have g:Hid (Bx3 w y1 x1.heap.size (zA p s) zF (zA p s1)):=⟨bt HC.1 (bt ab al),(al.block _ (by have:=ab.size;have:=aj.out;omega)).trans ((ab.block _ (by have:=aj.out;omega)).trans HC.2.1),(al.block _ (by have:=ab.size;have:=aj.out;omega)).trans ((ab.block _ (by have:=aj.out;omega)).trans HC.2.2),hk,(by have:=ab.size;have:=aj.out;omega)⟩;have am:Hid (zO w.heap.size y1.heap.size y1 p s1):=((au.below al).wide (Nat.le_of_lt (gl hk)) (nl _)).low HC.1.size;clear hg hk hz al au ab)
 clear HC aj;refine (three_s ps _ k y1 (HT.below g.below) a8).mono ?_;rintro e x2 ⟨rfl,hw⟩;obtain rfl:=hw.symm;clear hw
 cases h3:zGG (bks ps) k with
 | none=>
  have HE:Hid (jN (bks ps) p k=p):=hid (by unfold jN;rw [h3]);clear h3
  go_wp2_with (first
   | (refine w_ld x1.heap.size g.out.out underlying35 ?_)
   | (refine w_st (w.heap.size+1) (zA p s1) g.zero (zJ am.1) ?_;intro z hg hk hz;have l:Hid (Be w z):=g.below.grown hg g.below.size (qkk (by omega));have r:Hid (Bx z (w.heap.size+1) (zA p s1) 35):=hk;have o:Hid (zO w.heap.size z.heap.size z p s1):=(am.boxed g.zero hg).wide hg.size (nl _);clear hg hk hz g am))
  refine b_cr (.agg (zA p s1)) results212 r underlying35 ?_;rw [HE.out];exact ⟨_,rfl,o,l⟩
 | some bcd=>
  obtain ⟨b,c,d⟩:=bcd;have HE:Hid (jN (bks ps) p k=yDH (bks ps) (zGC (bks ps) (yDI (bks ps) p k b) k) b c):=(by unfold jN;rw [h3]:jN (bks ps) p k=_);have a1:=threeT_in h3;rw [bh.out] at a1;have t:=hid a1;clear h3 a1;obtain ⟨kn,rfl⟩:∃ kn:Nat,k=(kn:Int):=⟨k.toNat,by have:=t.1;omega⟩;obtain ⟨bn,rfl⟩:∃ bn:Nat,b=(bn:Int):=⟨b.toNat,by have:=t.2.1;omega⟩;have u:kn < ps.length:=by have:=t.1;omega
  have y:bn < ps.length:=by have:=t.2.1;omega
  have k0:(0:Int)<=(kn:Int):=by omega
  have k1:(kn:Int) < ps.length:=by omega
  have b0:(0:Int)<=(bn:Int):=by omega
  have b1:(bn:Int) < ps.length:=by omega
  obtain ⟨bl,bk,et,a7⟩:=HT.1;injection et with bi _ bf
  subst bi bf;obtain ⟨gt,ot,rfl,a0,n⟩:=a7 (by omega);obtain ⟨jk,a5⟩:∃ jk:QC,jk=ps[kn].1.2.2:=⟨_,rfl⟩;obtain ⟨jb,a2⟩:∃ jb:QC,jb=ps[bn].1.2.2:=⟨_,rfl⟩
  have av:Hid (∀ x:World,Be w x->x.cell? ⟨gt,ot+kn * 7+3,Aa⟩=Ab (I U jk.1)/\x.cell? ⟨gt,ot+kn * 7+4,Aa⟩=Ab (I U jk.2.1)/\x.cell? ⟨gt,ot+kn * 7+5,Aa⟩=Ab (I U jk.2.2.1)/\x.cell? ⟨gt,ot+kn * 7+6,Aa⟩=Ab (I U jk.2.2.2)):=fun x hb=>by
   refine ⟨?_,?_,?_,?_⟩ <;> rw [hb.cell (by exact a0),a5]
   ·exact n kn u 3 (by omega)
   ·exact n kn u 4 (by omega)
   ·exact n kn u 5 (by omega)
   ·exact n kn u 6 (by omega)
  have ay:Hid (∀ x:World,Be w x->x.cell? ⟨gt,ot+bn * 7+3,Aa⟩=Ab (I U jb.1)/\x.cell? ⟨gt,ot+bn * 7+4,Aa⟩=Ab (I U jb.2.1)/\x.cell? ⟨gt,ot+bn * 7+5,Aa⟩=Ab (I U jb.2.2.1)/\x.cell? ⟨gt,ot+bn * 7+6,Aa⟩=Ab (I U jb.2.2.2)):=fun x hb=>by
   refine ⟨?_,?_,?_,?_⟩ <;> rw [hb.cell (by exact a0),a2]
   ·exact n bn y 3 (by omega)
   ·exact n bn y 4 (by omega)
   ·exact n bn y 5 (by omega)
   ·exact n bn y 6 (by omega)
  obtain ⟨q1,an⟩:∃ q1:PE,q1={ p with high:=yF p.high jk }:=⟨_,rfl⟩;obtain ⟨q2,ar⟩:∃ q2:PE,q2={ q1 with lock:=yF q1.lock jb }:=⟨_,rfl⟩
  have ah:Hid (yDI (bks ps) p (kn:Int) (bn:Int)=q2/\yC q2/\yC (zGC (bks ps) q2 (kn:Int))):=(by
   have e1:zIF (bks ps) (kn:Int)=jk:=by rw [a5];unfold zIF;simp [bks,u]
   have e2:zIF (bks ps) (bn:Int)=jb:=by rw [a2];unfold zIF;simp [bks,y]
   have e3:yDI (bks ps) p (kn:Int) (bn:Int)=q2:=by unfold yDI;rw [e1,e2,ar,an]
   have e4:yC q2:=by rw [<- e3];exact learnQ_small HS
   refine ⟨e3,e4,learnR_small e4 HK ?_⟩
   rw [<- e3];exact bg.out:_/\_/\_)
  rw [ah.out.1] at HE;clear a5 a2 a0 n a7;go_wp2;refine p_rg (fun i=>decide (i < 9)) (fun x=>Bx x x1.heap.size (zA p s1) 35/\x.cell? ⟨gt,ot+kn * 7+3,Aa⟩=Ab (I U jk.1)/\x.cell? ⟨gt,ot+kn * 7+4,Aa⟩=Ab (I U jk.2.1)/\x.cell? ⟨gt,ot+kn * 7+5,Aa⟩=Ab (I U jk.2.2.1)/\x.cell? ⟨gt,ot+kn * 7+6,Aa⟩=Ab (I U jk.2.2.2)) ?_;show zX prog _ _ _ _ _ (9+1) (Array.replicate 10 false) _ _;have hS:Bx y1.drew x1.heap.size (zA p s1) 35/\y1.drew.cell? ⟨gt,ot+kn * 7+3,Aa⟩=Ab (I U jk.1)/\y1.drew.cell? ⟨gt,ot+kn * 7+4,Aa⟩=Ab (I U jk.2.1)/\y1.drew.cell? ⟨gt,ot+kn * 7+5,Aa⟩=Ab (I U jk.2.2.1)/\y1.drew.cell? ⟨gt,ot+kn * 7+6,Aa⟩=Ab (I U jk.2.2.2):=⟨g.out.out,av y1.drew (g.below.trans (br _ _).drew)⟩;refine p_pt 0 27 x1.heap.size 2 hS ?_;refine zD 1 28 (.agg #[I U p.high.1,I U p.high.2.1,I U p.high.2.2.1,I U p.high.2.2.2]) hS ?_ (hy:=by intro x hx;have d0:=zB hx.1 2 (I U p.high.1) rfl;have d1:=zB hx.1 3 (I U p.high.2.1) rfl;have d2:=zB hx.1 4 (I U p.high.2.2.1) rfl;have d3:=zB hx.1 5 (I U p.high.2.2.2) rfl;go_simp;try rfl);refine zD 2 29 (.slice (Ab ⟨gt,ot,Aa⟩) ps.length bb) hS ?_;refine zD 3 30 (I U (kn:Int)) hS ?_;refine p_pt 4 31 gt (ot+kn * 7) hS ?_;refine p_pt 5 32 gt (ot+kn * 7+3) hS ?_;refine zD 6 33 (.agg #[I U jk.1,I U jk.2.1,I U jk.2.2.1,I U jk.2.2.2]) hS ?_ (hy:=by intro x hx;have d0:=hx.2.1;have d1:=hx.2.2.1;have d2:=hx.2.2.2.1;have d3:=hx.2.2.2.2;go_simp;try rfl);refine kJ 7 34 159 #[.agg #[I U p.high.1,I U p.high.2.1,I U p.high.2.2.1,I U p.high.2.2.2],.agg #[I U jk.1,I U jk.2.1,I U jk.2.2.1,I U jk.2.2.2]] ((yAF (p.high) jk y1.drew).mono ?_);rintro e x2 ⟨rfl,ak⟩;have hb:=(bw y1).trans ak;have ag:Hid (Bx3 w x2 x1.heap.size (zA p s) zF (zA p s1)):=g.more hb;have be:Hid (zO w.heap.size x2.heap.size x2 p s1):=(am.below hb).wide hb.size (nl _);have af:Bx x2 x1.heap.size (zA p s1) 35/\x2.cell? ⟨gt,ot+kn * 7+3,Aa⟩=Ab (I U jk.1)/\x2.cell? ⟨gt,ot+kn * 7+4,Aa⟩=Ab (I U jk.2.1)/\x2.cell? ⟨gt,ot+kn * 7+5,Aa⟩=Ab (I U jk.2.2.1)/\x2.cell? ⟨gt,ot+kn * 7+6,Aa⟩=Ab (I U jk.2.2.2):=⟨ag.out.out,av x2 ag.below⟩;clear hb ak hS g am;refine ⟨_,rfl,fun _=>af,?_⟩;simp only [pz];refine zD 8 35 (.pointer (Ab ⟨x1.heap.size,2,Aa⟩)) af ?_;refine p_pa 9 x1.heap.size 2 #[I U (yF (p.high) jk).1,I U (yF (p.high) jk).2.1,I U (yF (p.high) jk).2.2.1,I U (yF (p.high) jk).2.2.2] (zA p s1) (zA q1 s1) ag.out.out (by simp [zA]) (by simp [Ac]) (by rw [an];rfl) ?_;intro y2 hg hk;have ao:Hid (Bx3 w y2 x1.heap.size (zA p s) zF (zA q1 s1)):=ag.put hg hk;have a6:Hid (zO w.heap.size y2.heap.size y2 q1 s1):=hid (by rw [an];exact ((be.boxed ag.out.out hg).wide hg.size (nl _)).other rfl rfl rfl rfl rfl rfl);clear hg hk af ag be;refine ⟨fun h=>absurd h (by decide),?_⟩;refine p_do ?_;go_wp2;refine p_rg (fun i=>decide (i < 9)) (fun x=>Bx x x1.heap.size (zA q1 s1) 35/\x.cell? ⟨gt,ot+bn * 7+3,Aa⟩=Ab (I U jb.1)/\x.cell? ⟨gt,ot+bn * 7+4,Aa⟩=Ab (I U jb.2.1)/\x.cell? ⟨gt,ot+bn * 7+5,Aa⟩=Ab (I U jb.2.2.1)/\x.cell? ⟨gt,ot+bn * 7+6,Aa⟩=Ab (I U jb.2.2.2)) ?_;show zX prog _ _ _ _ _ (9+1) (Array.replicate 10 false) _ _;have hS:Bx y2.drew x1.heap.size (zA q1 s1) 35/\y2.drew.cell? ⟨gt,ot+bn * 7+3,Aa⟩=Ab (I U jb.1)/\y2.drew.cell? ⟨gt,ot+bn * 7+4,Aa⟩=Ab (I U jb.2.1)/\y2.drew.cell? ⟨gt,ot+bn * 7+5,Aa⟩=Ab (I U jb.2.2.1)/\y2.drew.cell? ⟨gt,ot+bn * 7+6,Aa⟩=Ab (I U jb.2.2.2):=⟨ao.out.out,ay y2.drew (ao.below.trans (br _ _).drew)⟩;refine p_pt 0 36 x1.heap.size 6 hS ?_;refine zD 1 37 (.agg #[I U q1.lock.1,I U q1.lock.2.1,I U q1.lock.2.2.1,I U q1.lock.2.2.2]) hS ?_ (hy:=by intro x hx;have d0:=zB hx.1 6 (I U q1.lock.1) rfl;have d1:=zB hx.1 7 (I U q1.lock.2.1) rfl;have d2:=zB hx.1 8 (I U q1.lock.2.2.1) rfl;have d3:=zB hx.1 9 (I U q1.lock.2.2.2) rfl;go_simp;try rfl);refine zD 2 38 (.slice (Ab ⟨gt,ot,Aa⟩) ps.length bb) hS ?_;refine zD 3 39 (I U (bn:Int)) hS ?_;refine p_pt 4 40 gt (ot+bn * 7) hS ?_;refine p_pt 5 41 gt (ot+bn * 7+3) hS ?_;refine zD 6 42 (.agg #[I U jb.1,I U jb.2.1,I U jb.2.2.1,I U jb.2.2.2]) hS ?_ (hy:=by intro x hx;have d0:=hx.2.1;have d1:=hx.2.2.1;have d2:=hx.2.2.2.1;have d3:=hx.2.2.2.2;go_simp;try rfl);refine kJ 7 43 159 #[.agg #[I U q1.lock.1,I U q1.lock.2.1,I U q1.lock.2.2.1,I U q1.lock.2.2.2],.agg #[I U jb.1,I U jb.2.1,I U jb.2.2.1,I U jb.2.2.2]] ((yAF (q1.lock) jb y2.drew).mono ?_);rintro e x3 ⟨rfl,ak⟩;have hb:=(bw y2).trans ak;have ai:Hid (Bx3 w x3 x1.heap.size (zA p s) zF (zA q1 s1)):=ao.more hb;have a9:Hid (zO w.heap.size x3.heap.size x3 q1 s1):=(a6.below hb).wide hb.size (nl _);have af:Bx x3 x1.heap.size (zA q1 s1) 35/\x3.cell? ⟨gt,ot+bn * 7+3,Aa⟩=Ab (I U jb.1)/\x3.cell? ⟨gt,ot+bn * 7+4,Aa⟩=Ab (I U jb.2.1)/\x3.cell? ⟨gt,ot+bn * 7+5,Aa⟩=Ab (I U jb.2.2.1)/\x3.cell? ⟨gt,ot+bn * 7+6,Aa⟩=Ab (I U jb.2.2.2):=⟨ai.out.out,ay x3 ai.below⟩;clear hb ak hS ao a6;refine ⟨_,rfl,fun _=>af,?_⟩;simp only [pz];refine zD 8 44 (.pointer (Ab ⟨x1.heap.size,6,Aa⟩)) af ?_;refine p_pa 9 x1.heap.size 6 #[I U (yF (q1.lock) jb).1,I U (yF (q1.lock) jb).2.1,I U (yF (q1.lock) jb).2.2.1,I U (yF (q1.lock) jb).2.2.2] (zA q1 s1) (zA q2 s1) ai.out.out (by simp [zA]) (by simp [Ac]) (by rw [ar];rfl) ?_;intro y3 hg hk;have az:Hid (Bx3 w y3 x1.heap.size (zA p s) zF (zA q2 s1)):=ai.put hg hk;have bd:Hid (zO w.heap.size y3.heap.size y3 q2 s1):=hid (by rw [ar];exact ((a9.boxed ai.out.out hg).wide hg.size (nl _)).other rfl rfl rfl rfl rfl rfl);clear hg hk af ai a9;refine ⟨fun h=>absurd h (by decide),?_⟩;refine p_do ?_;clear an ar av ay;go_wp2_with fail
  refine (threeRow_s ps _ (kn:Int) y3 (HT.below az.below) a8).mono ?_;rintro e x4 ⟨rfl,hb⟩;have aa:Hid (Bx3 w x4 x1.heap.size (zA p s) zF (zA q2 s1)):=az.more hb;have ap:Hid (zO w.heap.size x4.heap.size x4 q2 s1):=(bd.below hb).wide hb.size (nl _);clear hb az bd
  cases hr:zCH (bks ps) (kn:Int) with
  | none=>
   have ax:Hid (zGC (bks ps) q2 (kn:Int)=q2):=hid (by unfold zGC;rw [hr]);rw [ax.out] at HE ah;unfold rowAns;clear hr;go_wp2_with fail
   refine (next_s ps _ (bn:Int) c x4 (HT.below aa.below) t.2.1 t.2.2.1).mono ?_;rintro e x6 ⟨rfl,hb⟩;have a:Hid (Bx3 w x6 x1.heap.size (zA p s) zF (zA q2 s1)):=aa.more hb;have j:Hid (zO w.heap.size x6.heap.size x6 q2 s1):=(ap.below hb).wide hb.size (nl _);clear hb aa ap
   by_cases hn:zFB (bks ps) (bn:Int) c=true
   ·obtain ⟨q6,ac⟩:=nw (yDF (bks ps) q2 c);have HE:Hid (jN (bks ps) p (kn:Int)=q6):=hid (by rw [HE.out];unfold yDH;rw [if_pos hn,ac]);rw [hn];clear hn;go_wp2_with (refine w_ld x1.heap.size a.out.out underlying35 ?_)
    refine (tooEarly_s ps _ q2 s1 c x6 (HT.below a.below) HK j.reads ah.2.1).mono ?_;rw [<- ac];rintro e x7 ⟨s7,rfl,ho,hb⟩;have ad:Hid (zO w.heap.size x7.heap.size x7 q6 s7):=ho.low a.below.size;have m:Hid (Bx3 w x7 x1.heap.size (zA p s) zF (zA q2 s1)):=a.more hb;clear ho hb a j ac
    go_wp2_with (first
     | (refine w_st x1.heap.size (zA q6 s7) m.out.out (zJ ad.1) ?_;intro y7 hg hk hz;have f:Hid (Bx3 w y7 x1.heap.size (zA p s) zF (zA q6 s7)):=m.put hg hk;have ae:Hid (zO w.heap.size y7.heap.size y7 q6 s7):=(ad.boxed m.out.out hg).wide hg.size (nl _);clear hg hk hz m ad)
     | (refine w_ld x1.heap.size f.out.out underlying35 ?_)
     | (refine w_st (w.heap.size+1) (zA q6 s7) f.zero (zJ ae.1) ?_;intro z hg hk hz;have l:Hid (Be w z):=f.below.grown hg f.below.size (qkk (by omega));have r:Hid (Bx z (w.heap.size+1) (zA q6 s7) 35):=hk;have o:Hid (zO w.heap.size z.heap.size z q6 s7):=(ae.boxed f.zero hg).wide hg.size (nl _);clear hg hk hz f ae))
    refine b_cr (.agg (zA q6 s7)) results212 r underlying35 ?_;rw [HE.out];exact ⟨_,rfl,o,l⟩
   ·have hn:zFB (bks ps) (bn:Int) c=false:=Bool.eq_false_iff.2 hn;have HE:Hid (jN (bks ps) p (kn:Int)=q2):=hid (by rw [HE.out];unfold yDH;rw [if_neg (by rw [hn];decide)]);rw [hn];clear hn
    go_wp2_with (first
     | (refine w_ld x1.heap.size a.out.out underlying35 ?_)
     | (refine w_st (w.heap.size+1) (zA q2 s1) a.zero (zJ j.1) ?_;intro z hg hk hz;have l:Hid (Be w z):=a.below.grown hg a.below.size (qkk (by omega));have r:Hid (Bx z (w.heap.size+1) (zA q2 s1) 35):=hk;have o:Hid (zO w.heap.size z.heap.size z q2 s1):=(j.boxed a.zero hg).wide hg.size (nl _);clear hg hk hz a j))
    refine b_cr (.agg (zA q2 s1)) results212 r underlying35 ?_;rw [HE.out];exact ⟨_,rfl,o,l⟩
  | some dd=>
   obtain ⟨q5,a3⟩:=nw (kO (bks ps) q2 dd);have ax:Hid (zGC (bks ps) q2 (kn:Int)=q5):=hid (by unfold zGC;rw [hr,a3]);rw [ax.out] at HE ah;unfold rowAns;clear hr;go_wp2_with (refine w_ld x1.heap.size aa.out.out underlying35 ?_)
   refine (through_s ps _ q2 s1 dd x4 (HT.below aa.below) HK ap.reads ah.2.1).mono ?_;rw [<- a3];rintro e x5 ⟨s5,rfl,ho,hb⟩;have aw:Hid (zO w.heap.size x5.heap.size x5 q5 s5):=ho.low aa.below.size;have aq:Hid (Bx3 w x5 x1.heap.size (zA p s) zF (zA q2 s1)):=aa.more hb;clear ho hb aa ap a3;go_wp2_with (refine w_st x1.heap.size (zA q5 s5) aq.out.out (zJ aw.1) ?_;intro y5 hg hk hz;have a4:Hid (Bx3 w y5 x1.heap.size (zA p s) zF (zA q5 s5)):=aq.put hg hk;have bc:Hid (zO w.heap.size y5.heap.size y5 q5 s5):=(aw.boxed aq.out.out hg).wide hg.size (nl _);clear hg hk hz aq aw)
   refine (next_s ps _ (bn:Int) c y5 (HT.below a4.below) t.2.1 t.2.2.1).mono ?_;rintro e x6 ⟨rfl,hb⟩;have a:Hid (Bx3 w x6 x1.heap.size (zA p s) zF (zA q5 s5)):=a4.more hb;have j:Hid (zO w.heap.size x6.heap.size x6 q5 s5):=(bc.below hb).wide hb.size (nl _);clear hb a4 bc
   by_cases hn:zFB (bks ps) (bn:Int) c=true
   ·obtain ⟨q6,ac⟩:=nw (yDF (bks ps) q5 c);have HE:Hid (jN (bks ps) p (kn:Int)=q6):=hid (by rw [HE.out];unfold yDH;rw [if_pos hn,ac]);rw [hn];clear hn;go_wp2_with (refine w_ld x1.heap.size a.out.out underlying35 ?_)
    refine (tooEarly_s ps _ q5 s5 c x6 (HT.below a.below) HK j.reads ah.2.2).mono ?_;rw [<- ac];rintro e x7 ⟨s7,rfl,ho,hb⟩;have ad:Hid (zO w.heap.size x7.heap.size x7 q6 s7):=ho.low a.below.size;have m:Hid (Bx3 w x7 x1.heap.size (zA p s) zF (zA q5 s5)):=a.more hb;clear ho hb a j ac
    go_wp2_with (first
     | (refine w_st x1.heap.size (zA q6 s7) m.out.out (zJ ad.1) ?_;intro y7 hg hk hz;have f:Hid (Bx3 w y7 x1.heap.size (zA p s) zF (zA q6 s7)):=m.put hg hk;have ae:Hid (zO w.heap.size y7.heap.size y7 q6 s7):=(ad.boxed m.out.out hg).wide hg.size (nl _);clear hg hk hz m ad)
     | (refine w_ld x1.heap.size f.out.out underlying35 ?_)
     | (refine w_st (w.heap.size+1) (zA q6 s7) f.zero (zJ ae.1) ?_;intro z hg hk hz;have l:Hid (Be w z):=f.below.grown hg f.below.size (qkk (by omega));have r:Hid (Bx z (w.heap.size+1) (zA q6 s7) 35):=hk;have o:Hid (zO w.heap.size z.heap.size z q6 s7):=(ae.boxed f.zero hg).wide hg.size (nl _);clear hg hk hz f ae))
    refine b_cr (.agg (zA q6 s7)) results212 r underlying35 ?_;rw [HE.out];exact ⟨_,rfl,o,l⟩
   ·have hn:zFB (bks ps) (bn:Int) c=false:=Bool.eq_false_iff.2 hn;have HE:Hid (jN (bks ps) p (kn:Int)=q5):=hid (by rw [HE.out];unfold yDH;rw [if_neg (by rw [hn];decide)]);rw [hn];clear hn
    go_wp2_with (first
     | (refine w_ld x1.heap.size a.out.out underlying35 ?_)
     | (refine w_st (w.heap.size+1) (zA q5 s5) a.zero (zJ j.1) ?_;intro z hg hk hz;have l:Hid (Be w z):=a.below.grown hg a.below.size (qkk (by omega));have r:Hid (Bx z (w.heap.size+1) (zA q5 s5) 35):=hk;have o:Hid (zO w.heap.size z.heap.size z q5 s5):=(j.boxed a.zero hg).wide hg.size (nl _);clear hg hk hz a j))
    refine b_cr (.agg (zA q5 s5)) results212 r underlying35 ?_;rw [HE.out];exact ⟨_,rfl,o,l⟩
end Go.Proofs.YtfnneillakdopacGreatR
