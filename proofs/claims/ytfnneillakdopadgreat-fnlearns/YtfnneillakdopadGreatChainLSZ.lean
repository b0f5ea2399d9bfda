/-
  A text of ours: ChainLS.
-/
import Derived.Test.YtfnneillakdopadGreatK1
import Derived.Test.YtfnneillakdopadGreatK5
import Derived.Test.YtfnneillakdopadGreatEarSZ
import Derived.Test.YtfnneillakdopadGreatK3
set_option maxRecDepth 100000
set_option maxHeartbeats 32000000
namespace Go.Proofs.YtfnneillakdopadGreat
open _root_.Go.Proofs.Tryz
open Go.Value renaming int->I,oneCell'->Ac
open Go.IntKind renaming i64->U
open Option renaming none->Aa,some->Ab
open Go.RowKit Num
theorem zII (ps:TL) (v:Value) (p:PE) (s:PV) (k:Int) (w:World) (hT:jB w v ps) (hk:okT (bks ps)) (hR:jS w p s) (hs:yC p) (hl:jZ p+wtB (bks ps)<=1048576) :
  Calls prog 17 #[v,yZ p s,I U k] w fun e w'=>∃ s',e=.returned (yZ (jN (bks ps) p k) s')/\zO w.heap.size w'.heap.size w' (jN (bks ps) p k) s'/\Be w w':=by
 have HT:=hid hT;have HK:=hid hk;have HR:=hid hR;have HS:=hid hs;have bh:=hid hl;have a8:(ps.length:Int)<=1048576:=by have:=hk.1;rw [yO] at this;exact this
 have bj:Hid ((bks ps).length=ps.length):=yO ps;obtain ⟨bm,a9,rfl,-⟩:=HT.1;clear hT hk hR hs hl;obtain ⟨W,hW⟩:=nw ((w.alloc (.cells (zA p s) 35)).alloc (.cells zF 35))
 have HC:Hid (Be w W/\Bx W w.heap.size (zA p s) 35/\Bx W (w.heap.size+1) zF 35):=by
  rw [hW];exact ⟨ba (ba (br _ _) _) _,qK w _ _⟩
 have ai:Hid (W.heap.size=w.heap.size+1+1):=hid (by rw [hW];simp);unfold zF at hW;go_enter func17,ntmps17;go_wp2_with (rw [<- hW];clear hW;refine w_ld w.heap.size HC.2.1 underlying35 ?_)
 refine (zHJ p s W (HR.below HC.1) HS).mono ?_;rintro e x1 ⟨s1,rfl,ho,hb⟩;have a6:Hid (zO W.heap.size x1.heap.size x1 p s1):=ho.toD;have ac:Hid (Be W x1):=hb;clear ho hb;go_wp2_with (refine w_st x1.heap.size (zA p s1) (heap_alloc_new x1 _) (zJ a6.1) ?_;intro y1 hg hk hz;have am:Be x1 y1:=yB hg;have g:Hid (Bx3 w y1 x1.heap.size (zA p s) zF (zA p s1)):=⟨bt HC.1 (bt ac am),(am.block _ (by have:=ac.size;have:=ai.out;omega)).trans ((ac.block _ (by have:=ai.out;omega)).trans HC.2.1),(am.block _ (by have:=ac.size;have:=ai.out;omega)).trans ((ac.block _ (by have:=ai.out;omega)).trans HC.2.2),hk,(by have:=ac.size;have:=ai.out;omega)⟩;have an:Hid (zO w.heap.size y1.heap.size y1 p s1):=((a6.below am).wide (Nat.le_of_lt (gl hk)) (nl _)).low HC.1.size;clear hg hk hz am a6 ac)
 clear HC ai;refine (three_s ps _ k y1 (HT.below g.below) a8).mono ?_;rintro e x2 ⟨rfl,hw⟩;obtain rfl:=hw.symm;clear hw
 cases h3:zGG (bks ps) k with
 | none=>
  have HE:Hid (jN (bks ps) p k=p):=hid (by unfold jN;rw [h3]);clear h3
  go_wp2_with (first
   | (refine w_ld x1.heap.size g.out.out underlying35 ?_)
   | (refine w_st (w.heap.size+1) (zA p s1) g.zero (zJ an.1) ?_;intro z hg hk hz;have o:Hid (Be w z):=g.below.grown hg g.below.size (qkk (by omega));have n:Hid (Bx z (w.heap.size+1) (zA p s1) 35):=hk;have l:Hid (zO w.heap.size z.heap.size z p s1):=(an.boxed g.zero hg).wide hg.size (nl _);clear hg hk hz g an))
  refine b_cr (.agg (zA p s1)) results17 n underlying35 ?_;rw [HE.out];exact ⟨_,rfl,l,o⟩
 | some bcd=>
  obtain ⟨b,c,d⟩:=bcd;have HE:Hid (jN (bks ps) p k=yDH (bks ps) (zGC (bks ps) (yDI (bks ps) p k b) k) b c):=(by unfold jN;rw [h3]:jN (bks ps) p k=_);have a4:=threeT_in h3;rw [bj.out] at a4;have aa:=hid a4;clear h3 a4;obtain ⟨kn,rfl⟩:∃ kn:Nat,k=(kn:Int):=⟨k.toNat,by have:=aa.1;omega⟩;obtain ⟨bn,rfl⟩:∃ bn:Nat,b=(bn:Int):=⟨b.toNat,by have:=aa.2.1;omega⟩;have ab:kn < ps.length:=by have:=aa.1;omega
  have t:bn < ps.length:=by have:=aa.2.1;omega
  have k0:(0:Int)<=(kn:Int):=by omega
  have k1:(kn:Int) < ps.length:=by omega
  have b0:(0:Int)<=(bn:Int):=by omega
  have b1:(bn:Int) < ps.length:=by omega
  obtain ⟨bl,bk,et,bb⟩:=HT.1;injection et with bi _ bg
  subst bi bg;obtain ⟨gt,ot,rfl,a2,m⟩:=bb (by omega);obtain ⟨jk,aw⟩:∃ jk:QC,jk=ps[kn].1.2.2:=⟨_,rfl⟩;obtain ⟨jb,ay⟩:∃ jb:QC,jb=ps[bn].1.2.2:=⟨_,rfl⟩
  have az:Hid (∀ x:World,Be w x->x.cell? ⟨gt,ot+kn * 7+3,Aa⟩=Ab (I U jk.1)/\x.cell? ⟨gt,ot+kn * 7+4,Aa⟩=Ab (I U jk.2.1)/\x.cell? ⟨gt,ot+kn * 7+5,Aa⟩=Ab (I U jk.2.2.1)/\x.cell? ⟨gt,ot+kn * 7+6,Aa⟩=Ab (I U jk.2.2.2)):=fun x hb=>by
   refine ⟨?_,?_,?_,?_⟩ <;> rw [hb.cell (by exact a2),aw]
   ·exact m kn ab 3 (by omega)
   ·exact m kn ab 4 (by omega)
   ·exact m kn ab 5 (by omega)
   ·exact m kn ab 6 (by omega)
  have a3:Hid (∀ x:World,Be w x->x.cell? ⟨gt,ot+bn * 7+3,Aa⟩=Ab (I U jb.1)/\x.cell? ⟨gt,ot+bn * 7+4,Aa⟩=Ab (I U jb.2.1)/\x.cell? ⟨gt,ot+bn * 7+5,Aa⟩=Ab (I U jb.2.2.1)/\x.cell? ⟨gt,ot+bn * 7+6,Aa⟩=Ab (I U jb.2.2.2)):=fun x hb=>by
   refine ⟨?_,?_,?_,?_⟩ <;> rw [hb.cell (by exact a2),ay]
   ·exact m bn t 3 (by omega)
   ·exact m bn t 4 (by omega)
   ·exact m bn t 5 (by omega)
   ·exact m bn t 6 (by omega)
  obtain ⟨q1,ap⟩:∃ q1:PE,q1={ p with high:=yF p.high jk }:=⟨_,rfl⟩;obtain ⟨q2,au⟩:∃ q2:PE,q2={ q1 with lock:=yF q1.lock jb }:=⟨_,rfl⟩
  have ak:Hid (yDI (bks ps) p (kn:Int) (bn:Int)=q2/\yC q2/\yC (zGC (bks ps) q2 (kn:Int))):=(by
   have e1:zIF (bks ps) (kn:Int)=jk:=by rw [aw];unfold zIF;simp [bks,ab]
   have e2:zIF (bks ps) (bn:Int)=jb:=by rw [ay];unfold zIF;simp [bks,t]
   have e3:yDI (bks ps) p (kn:Int) (bn:Int)=q2:=by unfold yDI;rw [e1,e2,au,ap]
   have e4:yC q2:=by rw [<- e3];exact learnQ_small HS
   refine ⟨e3,e4,learnR_small e4 HK ?_⟩
   rw [<- e3];exact bh.out:_/\_/\_)
  rw [ak.out.1] at HE;clear aw ay a2 m bb;go_wp2;refine p_rg (fun i=>decide (i < 9)) (fun x=>Bx x x1.heap.size (zA p s1) 35/\x.cell? ⟨gt,ot+kn * 7+3,Aa⟩=Ab (I U jk.1)/\x.cell? ⟨gt,ot+kn * 7+4,Aa⟩=Ab (I U jk.2.1)/\x.cell? ⟨gt,ot+kn * 7+5,Aa⟩=Ab (I U jk.2.2.1)/\x.cell? ⟨gt,ot+kn * 7+6,Aa⟩=Ab (I U jk.2.2.2)) ?_;show zX prog _ _ _ _ _ (9+1) (Array.replicate 10 false) _ _;have hS:Bx y1.drew x1.heap.size (zA p s1) 35/\y1.drew.cell? ⟨gt,ot+kn * 7+3,Aa⟩=Ab (I U jk.1)/\y1.drew.cell? ⟨gt,ot+kn * 7+4,Aa⟩=Ab (I U jk.2.1)/\y1.drew.cell? ⟨gt,ot+kn * 7+5,Aa⟩=Ab (I U jk.2.2.1)/\y1.drew.cell? ⟨gt,ot+kn * 7+6,Aa⟩=Ab (I U jk.2.2.2):=⟨g.out.out,az y1.drew (g.below.trans (br _ _).drew)⟩;refine p_pt 0 27 x1.heap.size 2 hS ?_;refine zD 1 28 (.agg #[I U p.high.1,I U p.high.2.1,I U p.high.2.2.1,I U p.high.2.2.2]) hS ?_ (hy:=by intro x hx;have d0:=zB hx.1 2 (I U p.high.1) rfl;have d1:=zB hx.1 3 (I U p.high.2.1) rfl;have d2:=zB hx.1 4 (I U p.high.2.2.1) rfl;have d3:=zB hx.1 5 (I U p.high.2.2.2) rfl;go_simp;try rfl);refine zD 2 29 (.slice (Ab ⟨gt,ot,Aa⟩) ps.length a9) hS ?_;refine zD 3 30 (I U (kn:Int)) hS ?_;refine p_pt 4 31 gt (ot+kn * 7) hS ?_;refine p_pt 5 32 gt (ot+kn * 7+3) hS ?_;refine zD 6 33 (.agg #[I U jk.1,I U jk.2.1,I U jk.2.2.1,I U jk.2.2.2]) hS ?_ (hy:=by intro x hx;have d0:=hx.2.1;have d1:=hx.2.2.1;have d2:=hx.2.2.2.1;have d3:=hx.2.2.2.2;go_simp;try rfl);refine kJ 7 34 34 #[.agg #[I U p.high.1,I U p.high.2.1,I U p.high.2.2.1,I U p.high.2.2.2],.agg #[I U jk.1,I U jk.2.1,I U jk.2.2.1,I U jk.2.2.2]] ((yAF (p.high) jk y1.drew).mono ?_);rintro e x2 ⟨rfl,al⟩;have hb:=(bw y1).trans al;have aj:Hid (Bx3 w x2 x1.heap.size (zA p s) zF (zA p s1)):=g.more hb;have a7:Hid (zO w.heap.size x2.heap.size x2 p s1):=(an.below hb).wide hb.size (nl _);have ad:Bx x2 x1.heap.size (zA p s1) 35/\x2.cell? ⟨gt,ot+kn * 7+3,Aa⟩=Ab (I U jk.1)/\x2.cell? ⟨gt,ot+kn * 7+4,Aa⟩=Ab (I U jk.2.1)/\x2.cell? ⟨gt,ot+kn * 7+5,Aa⟩=Ab (I U jk.2.2.1)/\x2.cell? ⟨gt,ot+kn * 7+6,Aa⟩=Ab (I U jk.2.2.2):=⟨aj.out.out,az x2 aj.below⟩;clear hb al hS g an;refine ⟨_,rfl,fun _=>ad,?_⟩;simp only [pz];refine zD 8 35 (.pointer (Ab ⟨x1.heap.size,2,Aa⟩)) ad ?_;refine p_pa 9 x1.heap.size 2 #[I U (yF (p.high) jk).1,I U (yF (p.high) jk).2.1,I U (yF (p.high) jk).2.2.1,I U (yF (p.high) jk).2.2.2] (zA p s1) (zA q1 s1) aj.out.out (by simp [zA]) (by simp [Ac]) (by rw [ap];rfl) ?_;intro y2 hg hk;have ar:Hid (Bx3 w y2 x1.heap.size (zA p s) zF (zA q1 s1)):=aj.put hg hk;have bf:Hid (zO w.heap.size y2.heap.size y2 q1 s1):=hid (by rw [ap];exact ((a7.boxed aj.out.out hg).wide hg.size (nl _)).other rfl rfl rfl rfl rfl rfl);clear hg hk ad aj a7;refine ⟨fun h=>absurd h (by decide),?_⟩;refine p_do ?_;go_wp2;refine p_rg (fun i=>decide (i < 9)) (fun x=>Bx x x1.heap.size (zA q1 s1) 35/\x.cell? ⟨gt,ot+bn * 7+3,Aa⟩=Ab (I U jb.1)/\x.cell? ⟨gt,ot+bn * 7+4,Aa⟩=Ab (I U jb.2.1)/\x.cell? ⟨gt,ot+bn * 7+5,Aa⟩=Ab (I U jb.2.2.1)/\x.cell? ⟨gt,ot+bn * 7+6,Aa⟩=Ab (I U jb.2.2.2)) ?_;show zX prog _ _ _ _ _ (9+1) (Array.replicate 10 false) _ _;have hS:Bx y2.drew x1.heap.size (zA q1 s1) 35/\y2.drew.cell? ⟨gt,ot+bn * 7+3,Aa⟩=Ab (I U jb.1)/\y2.drew.cell? ⟨gt,ot+bn * 7+4,Aa⟩=Ab (I U jb.2.1)/\y2.drew.cell? ⟨gt,ot+bn * 7+5,Aa⟩=Ab (I U jb.2.2.1)/\y2.drew.cell? ⟨gt,ot+bn * 7+6,Aa⟩=Ab (I U jb.2.2.2):=⟨ar.out.out,a3 y2.drew (ar.below.trans (br _ _).drew)⟩;refine p_pt 0 36 x1.heap.size 6 hS ?_;refine zD 1 37 (.agg #[I U q1.lock.1,I U q1.lock.2.1,I U q1.lock.2.2.1,I U q1.lock.2.2.2]) hS ?_ (hy:=by intro x hx;have d0:=zB hx.1 6 (I U q1.lock.1) rfl;have d1:=zB hx.1 7 (I U q1.lock.2.1) rfl;have d2:=zB hx.1 8 (I U q1.lock.2.2.1) rfl;have d3:=zB hx.1 9 (I U q1.lock.2.2.2) rfl;go_simp;try rfl);refine zD 2 38 (.slice (Ab ⟨gt,ot,Aa⟩) ps.length a9) hS ?_;refine zD 3 39 (I U (bn:Int)) hS ?_;refine p_pt 4 40 gt (ot+bn * 7) hS ?_;refine p_pt 5 41 gt (ot+bn * 7+3) hS ?_;refine zD 6 42 (.agg #[I U jb.1,I U jb.2.1,I U jb.2.2.1,I U jb.2.2.2]) hS ?_ (hy:=by intro x hx;have d0:=hx.2.1;have d1:=hx.2.2.1;have d2:=hx.2.2.2.1;have d3:=hx.2.2.2.2;go_simp;try rfl);refine kJ 7 43 34 #[.agg #[I U q1.lock.1,I U q1.lock.2.1,I U q1.lock.2.2.1,I U q1.lock.2.2.2],.agg #[I U jb.1,I U jb.2.1,I U jb.2.2.1,I U jb.2.2.2]] ((yAF (q1.lock) jb y2.drew).mono ?_);rintro e x3 ⟨rfl,al⟩;have hb:=(bw y2).trans al;have ah:Hid (Bx3 w x3 x1.heap.size (zA p s) zF (zA q1 s1)):=ar.more hb;have bd:Hid (zO w.heap.size x3.heap.size x3 q1 s1):=(bf.below hb).wide hb.size (nl _);have ad:Bx x3 x1.heap.size (zA q1 s1) 35/\x3.cell? ⟨gt,ot+bn * 7+3,Aa⟩=Ab (I U jb.1)/\x3.cell? ⟨gt,ot+bn * 7+4,Aa⟩=Ab (I U jb.2.1)/\x3.cell? ⟨gt,ot+bn * 7+5,Aa⟩=Ab (I U jb.2.2.1)/\x3.cell? ⟨gt,ot+bn * 7+6,Aa⟩=Ab (I U jb.2.2.2):=⟨ah.out.out,a3 x3 ah.below⟩;clear hb al hS ar bf;refine ⟨_,rfl,fun _=>ad,?_⟩;simp only [pz];refine zD 8 44 (.pointer (Ab ⟨x1.heap.size,6,Aa⟩)) ad ?_;refine p_pa 9 x1.heap.size 6 #[I U (yF (q1.lock) jb).1,I U (yF (q1.lock) jb).2.1,I U (yF (q1.lock) jb).2.2.1,I U (yF (q1.lock) jb).2.2.2] (zA q1 s1) (zA q2 s1) ah.out.out (by simp [zA]) (by simp [Ac]) (by rw [au];rfl) ?_;intro y3 hg hk;have a1:Hid (Bx3 w y3 x1.heap.size (zA p s) zF (zA q2 s1)):=ah.put hg hk;have be:Hid (zO w.heap.size y3.heap.size y3 q2 s1):=hid (by rw [au];exact ((bd.boxed ah.out.out hg).wide hg.size (nl _)).other rfl rfl rfl rfl rfl rfl);clear hg hk ad ah bd;refine ⟨fun h=>absurd h (by decide),?_⟩;refine p_do ?_;clear ap au az a3;go_wp2_with fail
  refine (threeRow_s ps _ (kn:Int) y3 (HT.below a1.below) a8).mono ?_;rintro e x4 ⟨rfl,hb⟩;have y:Hid (Bx3 w x4 x1.heap.size (zA p s) zF (zA q2 s1)):=a1.more hb;have ao:Hid (zO w.heap.size x4.heap.size x4 q2 s1):=(be.below hb).wide hb.size (nl _);clear hb a1 be
  cases hr:zCH (bks ps) (kn:Int) with
  | none=>
   have a5:Hid (zGC (bks ps) q2 (kn:Int)=q2):=hid (by unfold zGC;rw [hr]);rw [a5.out] at HE ak;unfold rowAns;clear hr;go_wp2_with fail
   refine (next_s ps _ (bn:Int) c x4 (HT.below y.below) aa.2.1 aa.2.2.1).mono ?_;rintro e x6 ⟨rfl,hb⟩;have a:Hid (Bx3 w x6 x1.heap.size (zA p s) zF (zA q2 s1)):=y.more hb;have j:Hid (zO w.heap.size x6.heap.size x6 q2 s1):=(ao.below hb).wide hb.size (nl _);clear hb y ao
   by_cases hn:zFB (bks ps) (bn:Int) c=true
   ·obtain ⟨q6,ag⟩:=nw (yDF (bks ps) q2 c);have HE:Hid (jN (bks ps) p (kn:Int)=q6):=hid (by rw [HE.out];unfold yDH;rw [if_pos hn,ag]);rw [hn];clear hn;go_wp2_with (refine w_ld x1.heap.size a.out.out underlying35 ?_)
    refine (tooEarly_s ps _ q2 s1 c x6 (HT.below a.below) HK j.reads ak.2.1).mono ?_;rw [<- ag];rintro e x7 ⟨s7,rfl,ho,hb⟩;have af:Hid (zO w.heap.size x7.heap.size x7 q6 s7):=ho.low a.below.size;have r:Hid (Bx3 w x7 x1.heap.size (zA p s) zF (zA q2 s1)):=a.more hb;clear ho hb a j ag
    go_wp2_with (first
     | (refine w_st x1.heap.size (zA q6 s7) r.out.out (zJ af.1) ?_;intro y7 hg hk hz;have f:Hid (Bx3 w y7 x1.heap.size (zA p s) zF (zA q6 s7)):=r.put hg hk;have ae:Hid (zO w.heap.size y7.heap.size y7 q6 s7):=(af.boxed r.out.out hg).wide hg.size (nl _);clear hg hk hz r af)
     | (refine w_ld x1.heap.size f.out.out underlying35 ?_)
     | (refine w_st (w.heap.size+1) (zA q6 s7) f.zero (zJ ae.1) ?_;intro z hg hk hz;have o:Hid (Be w z):=f.below.grown hg f.below.size (qkk (by omega));have n:Hid (Bx z (w.heap.size+1) (zA q6 s7) 35):=hk;have l:Hid (zO w.heap.size z.heap.size z q6 s7):=(ae.boxed f.zero hg).wide hg.size (nl _);clear hg hk hz f ae))
    refine b_cr (.agg (zA q6 s7)) results17 n underlying35 ?_;rw [HE.out];exact ⟨_,rfl,l,o⟩
   ·have hn:zFB (bks ps) (bn:Int) c=false:=Bool.eq_false_iff.2 hn;have HE:Hid (jN (bks ps) p (kn:Int)=q2):=hid (by rw [HE.out];unfold yDH;rw [if_neg (by rw [hn];decide)]);rw [hn];clear hn
    go_wp2_with (first
     | (refine w_ld x1.heap.size a.out.out underlying35 ?_)
     | (refine w_st (w.heap.size+1) (zA q2 s1) a.zero (zJ j.1) ?_;intro z hg hk hz;have o:Hid (Be w z):=a.below.grown hg a.below.size (qkk (by omega));have n:Hid (Bx z (w.heap.size+1) (zA q2 s1) 35):=hk;have l:Hid (zO w.heap.size z.heap.size z q2 s1):=(j.boxed a.zero hg).wide hg.size (nl _);clear hg hk hz a j))
    refine b_cr (.agg (zA q2 s1)) results17 n underlying35 ?_;rw [HE.out];exact ⟨_,rfl,l,o⟩
  | some dd=>
   obtain ⟨q5,av⟩:=nw (kO (bks ps) q2 dd);have a5:Hid (zGC (bks ps) q2 (kn:Int)=q5):=hid (by unfold zGC;rw [hr,av]);rw [a5.out] at HE ak;unfold rowAns;clear hr;go_wp2_with (refine w_ld x1.heap.size y.out.out underlying35 ?_)
   refine (through_s ps _ q2 s1 dd x4 (HT.below y.below) HK ao.reads ak.2.1).mono ?_;rw [<- av];rintro e x5 ⟨s5,rfl,ho,hb⟩;have a0:Hid (zO w.heap.size x5.heap.size x5 q5 s5):=ho.low y.below.size;have aq:Hid (Bx3 w x5 x1.heap.size (zA p s) zF (zA q2 s1)):=y.more hb;clear ho hb y ao av;go_wp2_with (refine w_st x1.heap.size (zA q5 s5) aq.out.out (zJ a0.1) ?_;intro y5 hg hk hz;have ax:Hid (Bx3 w y5 x1.heap.size (zA p s) zF (zA q5 s5)):=aq.put hg hk;have bc:Hid (zO w.heap.size y5.heap.size y5 q5 s5):=(a0.boxed aq.out.out hg).wide hg.size (nl _);clear hg hk hz aq a0)
   refine (next_s ps _ (bn:Int) c y5 (HT.below ax.below) aa.2.1 aa.2.2.1).mono ?_;rintro e x6 ⟨rfl,hb⟩;have a:Hid (Bx3 w x6 x1.heap.size (zA p s) zF (zA q5 s5)):=ax.more hb;have j:Hid (zO w.heap.size x6.heap.size x6 q5 s5):=(bc.below hb).wide hb.size (nl _);clear hb ax bc
   by_cases hn:zFB (bks ps) (bn:Int) c=true
   ·obtain ⟨q6,ag⟩:=nw (yDF (bks ps) q5 c);have HE:Hid (jN (bks ps) p (kn:Int)=q6):=hid (by rw [HE.out];unfold yDH;rw [if_pos hn,ag]);rw [hn];clear hn;go_wp2_with (refine w_ld x1.heap.size a.out.out underlying35 ?_)
    refine (tooEarly_s ps _ q5 s5 c x6 (HT.below a.below) HK j.reads ak.2.2).mono ?_;rw [<- ag];rintro e x7 ⟨s7,rfl,ho,hb⟩;have af:Hid (zO w.heap.size x7.heap.size x7 q6 s7):=ho.low a.below.size;have r:Hid (Bx3 w x7 x1.heap.size (zA p s) zF (zA q5 s5)):=a.more hb;clear ho hb a j ag
    go_wp2_with (first
     | (refine w_st x1.heap.size (zA q6 s7) r.out.out (zJ af.1) ?_;intro y7 hg hk hz;have f:Hid (Bx3 w y7 x1.heap.size (zA p s) zF (zA q6 s7)):=r.put hg hk;have ae:Hid (zO w.heap.size y7.heap.size y7 q6 s7):=(af.boxed r.out.out hg).wide hg.size (nl _);clear hg hk hz r af)
     | (refine w_ld x1.heap.size f.out.out underlying35 ?_)
     | (refine w_st (w.heap.size+1) (zA q6 s7) f.zero (zJ ae.1) ?_;intro z hg hk hz;have o:Hid (Be w z):=f.below.grown hg f.below.size (qkk (by omega));have n:Hid (Bx z (w.heap.size+1) (zA q6 s7) 35):=hk;have l:Hid (zO w.heap.size z.heap.size z q6 s7):=(ae.boxed f.zero hg).wide hg.size (nl _);clear hg hk hz f ae))
    refine b_cr (.agg (zA q6 s7)) results17 n underlying35 ?_;rw [HE.out];exact ⟨_,rfl,l,o⟩
   ·have hn:zFB (bks ps) (bn:Int) c=false:=Bool.eq_false_iff.2 hn;have HE:Hid (jN (bks ps) p (kn:Int)=q5):=hid (by rw [HE.out];unfold yDH;rw [if_neg (by rw [hn];decide)]);rw [hn];clear hn
    go_wp2_with (first
     | (refine w_ld x1.heap.size a.out.out underlying35 ?_)
     | (refine w_st (w.heap.size+1) (zA q5 s5) a.zero (zJ j.1) ?_;intro z hg hk hz;have o:Hid (Be w z):=a.below.grown hg a.below.size (qkk (by omega));have n:Hid (Bx z (w.heap.size+1) (zA q5 s5) 35):=hk;have l:Hid (zO w.heap.size z.heap.size z q5 s5):=(j.boxed a.zero hg).wide hg.size (nl _);clear hg hk hz a j))
    refine b_cr (.agg (zA q5 s5)) results17 n underlying35 ?_;rw [HE.out];exact ⟨_,rfl,l,o⟩
end Go.Proofs.YtfnneillakdopadGreat
