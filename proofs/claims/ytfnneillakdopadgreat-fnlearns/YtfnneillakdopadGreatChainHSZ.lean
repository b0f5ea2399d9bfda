/-
  A text of ours: ChainHS.
-/
import Derived.Test.YtfnneillakdopadGreatK1
import Derived.Test.YtfnneillakdopadGreatAskSZ
import Derived.Test.YtfnneillakdopadGreatChainLSZ
set_option maxRecDepth 100000
set_option maxHeartbeats 32000000
namespace Go.Proofs.YtfnneillakdopadGreat
open _root_.Go.Proofs.Tryz
open Go.Value renaming int->I
open Go.IntKind renaming i64->U
open Go.World.ownsRow renaming kept->Aa
open Go.RowKit Num
def mayH (t:List BK) (p:PE) (vw bl:Int):Bool:=zEG p 4 vw && (yDA t p.lock bl && decide (p.view<=vw))
def votesH (n:Int) (p:PE) (vw bl:Int):PE × List LT:=(yI (yP p 4 vw bl) (vw+1),[zEJ p 4 vw bl (xQ (vw+1) n)])
def yBD (t:List BK) (n:Int) (p:PE) (vw bl:Int):PE × List LT:=if mayH t p vw bl=true then votesH n (jN t p bl) vw bl else (jN t p bl,[])
def xI (t:List BK) (n:Int) (p:PE) (l:LT):PE × List LT:=
 if qI t n l=true/\l.1.2.2.1=p.id then
  (if l.1.1=2 then kZ t n p l
   else if l.1.1=4 then kZ t n { p with high:=yF p.high l.2.1 } l
   else if l.1.1=3 then (p,[])
   else if l.1.2.1=xQ l.1.2.2.2.1 n then yBD t n p l.1.2.2.2.1 l.1.2.2.2.2 else (p,[]))
 else (p,[])
theorem chainHear_s (ps:TL) (va:Value) (n:Int) (p:PE) (s:PV) (l:LT) (w:World) (hT:jB w va ps) (hl:(ps.length:Int)<=1048576) (hk:okT (bks ps)) (hln:jZ p+wtB (bks ps)<=1048576) (hR:jS w p s) (hs:yC p) (hvl:(p.votes.length:Int)+1<=1048576)
  (hn0:0<=n) (hn1:n<=7) (hq:fitQ l.2.1) (hp0:-9223372036854775808<=p.view) (hp1:p.view < 9223372036854775807) :
  Calls prog 9 #[va,I U n,yZ p s,.agg (zQ l)] w fun e w'=>∃ s' v',e=.returned (.tuple #[yZ (xI (bks ps) n p l).1 s',v'])/\zO w.heap.size w'.heap.size w' (xI (bks ps) n p l).1 s'/\w'.ownsRow w.heap.size 37 13 v' (xI (bks ps) n p l).2.length (zE yE (xI (bks ps) n p l).2)/\Be w w':=by
 have HT:=hid hT;have HR:=hid hR;have HS:=hid hs;have ca:=hid hq;have HK:=hid hk;have al:=hid hln;clear hk hln;clear hT hR hs hq;obtain ⟨W,hW⟩:=nw (((w.alloc (.cells (zA p s) 35)).alloc (.cells (zQ l) 37)).alloc (.cells zF 35))
 have HC:Hid (Be w W/\Bx W w.heap.size (zA p s) 35/\Bx W (w.heap.size+1) (zQ l) 37/\Bx W (w.heap.size+1+1) zF 35):=by
  rw [hW];exact ⟨ba (ba (ba (br _ _) _) _) _,zJH w _ _ _⟩
 have ai:Hid (W.heap.size=w.heap.size+1+1+1):=hid (by rw [hW];simp);unfold zF at hW;go_enter func9,ntmps9;go_wp2_with (rw [<- hW];clear hW;refine w_ld w.heap.size HC.2.1 underlying35 ?_)
 refine (zHJ p s W (HR.below HC.1) HS).mono ?_;rintro e x1 ⟨s1,rfl,ho,hb⟩;have b7:Hid (zO W.heap.size x1.heap.size x1 p s1):=ho.toD;have af:Hid (Be W x1):=hb;clear ho hb;obtain ⟨N,hN⟩:=nw x1.heap.size
 go_upto_region 3 with (first
  | (refine w_st x1.heap.size (zA p s1) (heap_alloc_new x1 _) (zJ b7.1) ?_;intro y1 hg hk hz;have av:Be x1 y1:=yB hg;have b8:Hid (Bx4 w y1 N (zA p s) (zQ l) zF (zA p s1)):=⟨bt HC.1 (bt af av),(av.block _ (by have:=af.size;have:=ai.out;omega)).trans ((af.block _ (by have:=ai.out;omega)).trans HC.2.1),(av.block _ (by have:=af.size;have:=ai.out;omega)).trans ((af.block _ (by have:=ai.out;omega)).trans HC.2.2.1),(av.block _ (by have:=af.size;have:=ai.out;omega)).trans ((af.block _ (by have:=ai.out;omega)).trans HC.2.2.2),(by rw [hN];exact hk),(by have:=af.size;have:=ai.out;omega)⟩;have cj:Hid (zO w.heap.size y1.heap.size y1 p s1):=((b7.below av).wide (Nat.le_of_lt (gl hk)) (nl _)).low HC.1.size;clear hg hk hz av b7 af))
 obtain ⟨y2,bb⟩:=nw (y1.alloc (.cells #[] 37));rw [<- bb];have be:Be y1 y2:=by rw [bb];exact (br _ _).alloc (nl _) _
 have bj:Hid (Bx4 w y2 N (zA p s) (zQ l) zF (zA p s1)):=b8.more be;have ci:Hid (zO w.heap.size y2.heap.size y2 p s1):=(cj.below be).wide be.size (nl _);have b0:Hid (y2.ownsRow w.heap.size 37 13 (.slice (some ⟨y1.heap.size,0,none⟩) 0 0) ([]:List LT).length (zE yE [])):=hid (by rw [bb];exact zN (yH y1 37 13) b8.below.size);obtain ⟨ov,ch⟩:=nw (Value.slice (some ⟨y1.heap.size,0,none⟩) 0 0);rw [<- ch] at b0 ⊢;clear be bb ch b8 cj HC ai;rw [<- hN];clear hN;go_wp2_with (refine w_ld (w.heap.size+1) bj.let' underlying37 ?_)
 refine (letterOk_s ps va n l y2 (HT.below bj.below) hl hn0 hn1 ca).mono ?_;rintro e y3 ⟨rfl,hb⟩;have b:Hid (Bx4 w y3 N (zA p s) (zQ l) zF (zA p s1)):=bj.more hb;have y:Hid (zO w.heap.size y3.heap.size y3 p s1):=(ci.below hb).wide hb.size (nl _);have m:Hid (y3.ownsRow w.heap.size 37 13 ov ([]:List LT).length (zE yE [])):=zS b0 hb;clear hb bj ci b0;have bi:=zB b.box 0 (I U p.id) rfl;have bo:=zB b.let' 2 (I U l.1.2.2.1) rfl;have bm:=zB b.let' 0 (I U l.1.1) rfl
 cases ae:qI (bks ps) n l with
 | false=>
  have HE:Hid (xI (bks ps) n p l=(p,[])):=(by unfold xI;rw [if_neg (fun h=>by rw [ae] at h;exact absurd h.1 (by decide))]:xI (bks ps) n p l=_);clear ae
  go_wp2_with (first
   | (refine w_ld N b.out.out underlying35 ?_)
   | (refine w_st (w.heap.size+1+1) (zA p s1) b.zero (zJ y.1) ?_;intro z hg hk hz;have HZ:Hid (Be w z/\Bx z (w.heap.size+1+1) (zA p s1) 35/\zO w.heap.size z.heap.size z p s1/\z.ownsRow w.heap.size 37 13 ov ([]).length (zE yE ([]))):=⟨b.fill hg,hk,(y.boxed b.zero hg).wide hg.size (nl _),Aa m hg (zH m b.zero (by decide))⟩;clear hg hk hz))
  refine b_pl (.tuple #[.agg (zA p s1),ov]) results9 HZ.2.1 underlying35 ?_;rw [HE.out];exact ⟨s1,ov,rfl,HZ.2.2.1,HZ.2.2.2,HZ.1⟩
 | true=>
  have b9:=lok_view ae
  by_cases hto:l.1.2.2.1=p.id
  ·have cp:(l.1.2.2.1 != p.id)=false:=by simpa using hto
   have aj:Hid (xI (bks ps) n p l=if l.1.1=2 then kZ (bks ps) n p l else if l.1.1=4 then kZ (bks ps) n { p with high:=yF p.high l.2.1 } l else if l.1.1=3 then (p,[]) else if l.1.2.1=xQ l.1.2.2.2.1 n then yBD (bks ps) n p l.1.2.2.2.1 l.1.2.2.2.2 else (p,[])):=(by unfold xI;rw [if_pos ⟨ae,hto⟩]:xI (bks ps) n p l=_);clear ae hto
   by_cases hk2:l.1.1=2
   ·have cl:(l.1.1 == 2)=true:=by simpa using hk2
    obtain ⟨R,hR⟩:=nw (kZ (bks ps) n p l);have HE:Hid (xI (bks ps) n p l=R):=hid (by rw [aj.out,if_pos hk2,hR]);clear hk2 aj;have az:=hvl;have a5:=hp0;have a:=hp1
    go_wp2_with (first
     | (refine w_ld w.heap.size b.box underlying35 ?_)
     | (refine w_ld (w.heap.size+1) b.let' underlying37 ?_))
    clear bi bo bm;refine (leadHear_s ps va n p s l y3 (HT.below b.below) hl (HR.below b.below) HS az hn0 hn1 ca a5 a).mono ?_;rw [<- hR];rintro e y4 ⟨s4,v4,rfl,ho,ag,hb⟩;have j:Hid (Bx4 w y4 N (zA p s) (zQ l) zF (zA p s1)):=b.more hb;have aa:Hid (zO w.heap.size y4.heap.size y4 R.1 s4):=ho.low b.below.size;have o:Hid (y4.ownsRow w.heap.size 37 13 v4 R.2.length (zE yE R.2)):=zN ag b.below.size;clear ho ag hb hR b
    go_wp2_with (first
     | (refine w_ld N j.out.out underlying35 ?_)
     | (refine w_st (w.heap.size+1+1) (zA R.1 s4) j.zero (zJ aa.1) ?_;intro z hg hk hz;have HZ:Hid (Be w z/\Bx z (w.heap.size+1+1) (zA R.1 s4) 35/\zO w.heap.size z.heap.size z R.1 s4/\z.ownsRow w.heap.size 37 13 v4 (R.2).length (zE yE (R.2))):=⟨j.fill hg,hk,(aa.boxed j.zero hg).wide hg.size (nl _),Aa o hg (zH o j.zero (by decide))⟩;clear hg hk hz))
    refine b_pl (.tuple #[.agg (zA R.1 s4),v4]) results9 HZ.2.1 underlying35 ?_;rw [HE.out];exact ⟨s4,v4,rfl,HZ.2.2.1,HZ.2.2.2,HZ.1⟩
   ·have cl:(l.1.1 == 2)=false:=by simpa using hk2
    by_cases hk4:l.1.1=4
    ·have cr:(l.1.1 == 4)=true:=by simpa using hk4
     obtain ⟨p1,a⟩:∃ p1:PE,p1={ p with high:=yF p.high l.2.1 }:=⟨_,rfl⟩;obtain ⟨R,hR⟩:=nw (kZ (bks ps) n p1 l);have HE:Hid (xI (bks ps) n p l=R):=hid (by rw [aj.out,if_neg hk2,if_pos hk4,hR,a]);have bg:Hid (yC p1/\(p1.votes.length:Int)+1<=1048576/\-9223372036854775808<=p1.view/\p1.view < 9223372036854775807):=hid (by rw [a];exact ⟨⟨HS.row,HS.cells,HS.early,HS.undos,HS.votes,HS.news,HS.kcells,HS.kundos⟩,hvl,hp0,hp1⟩);clear hk2 hk4 aj;have k0:=zB b.out.out 2 (I U p.high.1) rfl;have k1:=zB b.out.out 3 (I U p.high.2.1) rfl;have k2:=zB b.out.out 4 (I U p.high.2.2.1) rfl;have k3:=zB b.out.out 5 (I U p.high.2.2.2) rfl;have m0:=zB b.let' 5 (I U l.2.1.1) rfl;have m1:=zB b.let' 6 (I U l.2.1.2.1) rfl;have m2:=zB b.let' 7 (I U l.2.1.2.2.1) rfl;have m3:=zB b.let' 8 (I U l.2.1.2.2.2) rfl;go_wp2_with fail
     clear bi bo bm k0 k1 k2 k3 m0 m1 m2 m3;refine (yAF p.high l.2.1 y3).mono ?_;obtain ⟨bh,bw⟩:=nw (yF p.high l.2.1);rw [<- bw];have ce:=hid bw;have a6:=hid a;have cg:=hid hR;clear bw a hR;rintro e x4 ⟨rfl,hb⟩;have bd:Hid (Bx4 w x4 N (zA p s) (zQ l) zF (zA p s1)):=b.more hb;have cc:Hid (zO w.heap.size x4.heap.size x4 p s1):=(y.below hb).wide hb.size (nl _);clear hb b y m
     go_wp2_with (first
      | (refine yY rfl _ _ _ rfl N 2 #[I U bh.1,I U bh.2.1,I U bh.2.2.1,I U bh.2.2.2] rfl rfl 35 (zA p s1) bd.out.out (by kernel_rfl) (by simp [zA]) (by simp [Value.oneCell']) (zA p1 s1) (by rw [a6.out,ce.out];rfl) ?_;intro y5 hg hk;have k:Hid (Bx4 w y5 N (zA p s) (zQ l) zF (zA p1 s1)):=bd.put hg hk;have aw:Hid (zO w.heap.size y5.heap.size y5 p1 s1):=hid (by rw [a6.out];exact ((cc.boxed bd.out.out hg).wide hg.size (nl _)).other rfl rfl rfl rfl rfl rfl);clear hg hk bd cc)
      | (refine w_ld N k.out.out underlying35 ?_)
      | (refine w_ld (w.heap.size+1) k.let' underlying37 ?_))
     have az:=bg.2.1;have hR:=cg.out;clear cg a6 ce;have a5:=bg.2.2.1;have a:=bg.2.2.2;refine (leadHear_s ps va n p1 s1 l y5 (HT.below k.below) hl aw.reads bg.1 az hn0 hn1 ca a5 a).mono ?_;rw [<- hR];rintro e y4 ⟨s4,v4,rfl,ho,ag,hb⟩;have j:Hid (Bx4 w y4 N (zA p s) (zQ l) zF (zA p1 s1)):=k.more hb;have aa:Hid (zO w.heap.size y4.heap.size y4 R.1 s4):=ho.low k.below.size;have o:Hid (y4.ownsRow w.heap.size 37 13 v4 R.2.length (zE yE R.2)):=zN ag k.below.size;clear ho ag hb hR k
     go_wp2_with (first
      | (refine w_ld N j.out.out underlying35 ?_)
      | (refine w_st (w.heap.size+1+1) (zA R.1 s4) j.zero (zJ aa.1) ?_;intro z hg hk hz;have HZ:Hid (Be w z/\Bx z (w.heap.size+1+1) (zA R.1 s4) 35/\zO w.heap.size z.heap.size z R.1 s4/\z.ownsRow w.heap.size 37 13 v4 (R.2).length (zE yE (R.2))):=⟨j.fill hg,hk,(aa.boxed j.zero hg).wide hg.size (nl _),Aa o hg (zH o j.zero (by decide))⟩;clear hg hk hz))
     refine b_pl (.tuple #[.agg (zA R.1 s4),v4]) results9 HZ.2.1 underlying35 ?_;rw [HE.out];exact ⟨s4,v4,rfl,HZ.2.2.1,HZ.2.2.2,HZ.1⟩
    ·have cr:(l.1.1 == 4)=false:=by simpa using hk4
     by_cases hk3:l.1.1=3
     ·have cq:(l.1.1 == 3)=true:=by simpa using hk3
      have HE:Hid (xI (bks ps) n p l=(p,[])):=(by rw [aj.out,if_neg hk2,if_neg hk4,if_pos hk3]:xI (bks ps) n p l=_);clear hk2 hk4 hk3 aj
      go_wp2_with (first
       | (refine w_ld N b.out.out underlying35 ?_)
       | (refine w_st (w.heap.size+1+1) (zA p s1) b.zero (zJ y.1) ?_;intro z hg hk hz;have HZ:Hid (Be w z/\Bx z (w.heap.size+1+1) (zA p s1) 35/\zO w.heap.size z.heap.size z p s1/\z.ownsRow w.heap.size 37 13 ov ([]).length (zE yE ([]))):=⟨b.fill hg,hk,(y.boxed b.zero hg).wide hg.size (nl _),Aa m hg (zH m b.zero (by decide))⟩;clear hg hk hz))
      refine b_pl (.tuple #[.agg (zA p s1),ov]) results9 HZ.2.1 underlying35 ?_;rw [HE.out];exact ⟨s1,ov,rfl,HZ.2.2.1,HZ.2.2.2,HZ.1⟩
     ·have cq:(l.1.1 == 3)=false:=by simpa using hk3
      obtain ⟨fr,b6⟩:=nw l.1.2.1;obtain ⟨vw,am⟩:=nw l.1.2.2.2.1;obtain ⟨bl,b5⟩:=nw l.1.2.2.2.2;obtain ⟨ld,e1⟩:∃ ld,xQ vw n=ld:=⟨_,rfl⟩;rw [<- am] at b9;have ck:Hid (∀ x:World,Calls prog 13 #[I U vw,I U n] x fun e w'=>e=.returned (I U ld)/\w'=x):=fun x=>xR e1 (by omega) (by omega) (by omega) (by omega) x
      have b1:=hid b9;have bv:Hid (xI (bks ps) n p l=if fr=ld then yBD (bks ps) n p vw bl else (p,[])):=(by rw [aj.out,if_neg hk2,if_neg hk4,if_neg hk3,<- b6,<- am,<- b5,e1]:xI (bks ps) n p l=_);have cd:=yX y3;have z1:∀ x:Bw y3,x.to.cell? ⟨w.heap.size+1,1,none⟩=some (I U fr):=fun x=>by rw [b6];exact zB (b.more x.below).let' 1 _ rfl
      have z3:∀ x:Bw y3,x.to.cell? ⟨w.heap.size+1,3,none⟩=some (I U vw):=fun x=>by rw [am];exact zB (b.more x.below).let' 3 _ rfl
      have a7:=hid am;have ax:=hid b5;clear b9 b6 am b5 hk2 hk4 hk3 aj
      by_cases hfl:fr=ld
      ·have cn:(fr != ld)=false:=by simpa using hfl
       have bk:Hid (xI (bks ps) n p l=yBD (bks ps) n p vw bl):=(by rw [bv.out,if_pos hfl]:xI (bks ps) n p l=_);clear hfl bv;go_wp2;clear bm bi bo;refine rb ?_;repeat (go_big_quiet_step (first | (go_at_call 13;with_reducible refine zI (ck.out _))))
       refine qnn fun xq=>?_
       have hb:=xq.below;obtain ⟨y4,a9⟩:=nw xq.to;rw [<- a9] at hb ⊢;clear a9 z1 z3 cd;have j:Hid (Bx4 w y4 N (zA p s) (zQ l) zF (zA p s1)):=b.more hb;have aa:Hid (zO w.heap.size y4.heap.size y4 p s1):=(y.below hb).wide hb.size (nl _);have o:Hid (y4.ownsRow w.heap.size 37 13 ov ([]:List LT).length (zE yE [])):=zS m hb;clear hb b y m;have a3:=zB j.let' 3 (I U l.1.2.2.2.1) rfl;rw [<- a7.out] at a3;go_wp2_with (refine w_ld N j.out.out underlying35 ?_)
       obtain ⟨mb,b3⟩:=nw (zEG p 4 vw);refine (yFB p s1 4 vw y4).mono ?_;rw [<- b3];have ak:=hid b3;clear b3;rintro e y5 ⟨rfl,hb⟩;clear a3;have k:Hid (Bx4 w y5 N (zA p s) (zQ l) zF (zA p s1)):=j.more hb;have aw:Hid (zO w.heap.size y5.heap.size y5 p s1):=(aa.below hb).wide hb.size (nl _);have ap:Hid (y5.ownsRow w.heap.size 37 13 ov ([]:List LT).length (zE yE [])):=zS o hb;clear hb j aa o
       cases mb with
       | false=>
        have an:Hid (mayH (bks ps) p vw bl=false):=hid (by unfold mayH;rw [<- ak.out];rfl);have d:=k;have ad:=aw;have t:=ap;obtain ⟨y7,cb⟩:=nw y5;rw [<- cb] at d ad t ⊢;clear cb k aw ap ak;obtain ⟨p1,a⟩:=nw (jN (bks ps) p bl);have a8:Hid (yC p1):=hid (by rw [a];exact yCE HS HK al);have a4:=zB d.let' 4 (I U l.1.2.2.2.2) rfl;rw [<- ax.out] at a4;have ao:Hid (xI (bks ps) n p l=(p1,[])):=(by rw [bk.out,a];unfold yBD;rw [an.out];rfl:xI (bks ps) n p l=_);go_wp2_with (refine w_ld N d.out.out underlying35 ?_)
        refine (zII ps va p s1 bl y7 (HT.below d.below) HK ad.reads HS al).mono ?_;rw [<- a];rintro e x8 ⟨s8,rfl,ho,hb⟩;have g:Hid (Bx4 w x8 N (zA p s) (zQ l) zF (zA p s1)):=d.more hb;have v:Hid (zO w.heap.size x8.heap.size x8 p1 s8):=ho.low d.below.size;have i:Hid (x8.ownsRow w.heap.size 37 13 ov ([]:List LT).length (zE yE [])):=zS t hb;clear ho hb d ad t a4 a;have HE:=hid ao.out
        go_upto_region 17 with (refine w_st N (zA p1 s8) g.out.out (zJ v.1) ?_;intro y9 hg hk hz;have f:Hid (Bx4 w y9 N (zA p s) (zQ l) zF (zA p1 s8)):=g.put hg hk;have ab:Hid (zO w.heap.size y9.heap.size y9 p1 s8):=(v.boxed g.out.out hg).wide hg.size (nl _);have r:Hid (y9.ownsRow w.heap.size 37 13 ov ([]:List LT).length (zE yE [])):=Aa i hg (zH i g.out.out (by decide));clear hg hk hz g v i)
        go_wp2_with (first
         | (refine w_ld N f.out.out underlying35 ?_)
         | (refine w_st (w.heap.size+1+1) (zA p1 s8) f.zero (zJ ab.1) ?_;intro z hg hk hz;have HZ:Hid (Be w z/\Bx z (w.heap.size+1+1) (zA p1 s8) 35/\zO w.heap.size z.heap.size z p1 s8/\z.ownsRow w.heap.size 37 13 ov ([]).length (zE yE ([]))):=⟨f.fill hg,hk,(ab.boxed f.zero hg).wide hg.size (nl _),Aa r hg (zH r f.zero (by decide))⟩;clear hg hk hz))
        refine b_pl (.tuple #[.agg (zA p1 s8),ov]) results9 HZ.2.1 underlying35 ?_;rw [HE.out];exact ⟨s8,ov,rfl,HZ.2.2.1,HZ.2.2.2,HZ.1⟩
       | true=>
        have a4:=zB k.let' 4 (I U l.1.2.2.2.2) rfl;rw [<- ax.out] at a4;have k0:=zB k.out.out 6 (I U p.lock.1) rfl;have k1:=zB k.out.out 7 (I U p.lock.2.1) rfl;have k2:=zB k.out.out 8 (I U p.lock.2.2.1) rfl;have k3:=zB k.out.out 9 (I U p.lock.2.2.2) rfl;go_wp2_with fail
        obtain ⟨sb,bz⟩:=nw (yDA (bks ps) p.lock bl);refine (safeBlock_s ps va p.lock bl y5 (HT.below k.below) hl).mono ?_;rw [<- bz];have ar:=hid bz;clear bz;rintro e y7 ⟨rfl,hb⟩;clear a4 k0 k1 k2 k3;have d:Hid (Bx4 w y7 N (zA p s) (zQ l) zF (zA p s1)):=k.more hb;have ad:Hid (zO w.heap.size y7.heap.size y7 p s1):=(aw.below hb).wide hb.size (nl _);have t:Hid (y7.ownsRow w.heap.size 37 13 ov ([]:List LT).length (zE yE [])):=zS ap hb;clear hb k aw ap
        cases sb with
        | false=>
         have an:Hid (mayH (bks ps) p vw bl=false):=hid (by unfold mayH;rw [<- ak.out,<- ar.out];rfl);clear ak ar;obtain ⟨p1,a⟩:=nw (jN (bks ps) p bl);have a8:Hid (yC p1):=hid (by rw [a];exact yCE HS HK al);have a4:=zB d.let' 4 (I U l.1.2.2.2.2) rfl;rw [<- ax.out] at a4;have ao:Hid (xI (bks ps) n p l=(p1,[])):=(by rw [bk.out,a];unfold yBD;rw [an.out];rfl:xI (bks ps) n p l=_);go_wp2_with (refine w_ld N d.out.out underlying35 ?_)
         refine (zII ps va p s1 bl y7 (HT.below d.below) HK ad.reads HS al).mono ?_;rw [<- a];rintro e x8 ⟨s8,rfl,ho,hb⟩;have g:Hid (Bx4 w x8 N (zA p s) (zQ l) zF (zA p s1)):=d.more hb;have v:Hid (zO w.heap.size x8.heap.size x8 p1 s8):=ho.low d.below.size;have i:Hid (x8.ownsRow w.heap.size 37 13 ov ([]:List LT).length (zE yE [])):=zS t hb;clear ho hb d ad t a4 a;have HE:=hid ao.out
         go_upto_region 17 with (refine w_st N (zA p1 s8) g.out.out (zJ v.1) ?_;intro y9 hg hk hz;have f:Hid (Bx4 w y9 N (zA p s) (zQ l) zF (zA p1 s8)):=g.put hg hk;have ab:Hid (zO w.heap.size y9.heap.size y9 p1 s8):=(v.boxed g.out.out hg).wide hg.size (nl _);have r:Hid (y9.ownsRow w.heap.size 37 13 ov ([]:List LT).length (zE yE [])):=Aa i hg (zH i g.out.out (by decide));clear hg hk hz g v i)
         go_wp2_with (first
          | (refine w_ld N f.out.out underlying35 ?_)
          | (refine w_st (w.heap.size+1+1) (zA p1 s8) f.zero (zJ ab.1) ?_;intro z hg hk hz;have HZ:Hid (Be w z/\Bx z (w.heap.size+1+1) (zA p1 s8) 35/\zO w.heap.size z.heap.size z p1 s8/\z.ownsRow w.heap.size 37 13 ov ([]).length (zE yE ([]))):=⟨f.fill hg,hk,(ab.boxed f.zero hg).wide hg.size (nl _),Aa r hg (zH r f.zero (by decide))⟩;clear hg hk hz))
         refine b_pl (.tuple #[.agg (zA p1 s8),ov]) results9 HZ.2.1 underlying35 ?_;rw [HE.out];exact ⟨s8,ov,rfl,HZ.2.2.1,HZ.2.2.2,HZ.1⟩
        | true=>
         have a3:=zB d.let' 3 (I U l.1.2.2.2.1) rfl;rw [<- a7.out] at a3;have a1:=zB d.box 1 (I U p.view) rfl
         by_cases hpv:p.view<=vw
         ·have co:decide (vw ≥ p.view)=true:=decide_eq_true hpv;have an:Hid (mayH (bks ps) p vw bl=true):=hid (by unfold mayH;rw [<- ak.out,<- ar.out,decide_eq_true hpv];rfl);clear ak ar;obtain ⟨p1,a⟩:=nw (jN (bks ps) p bl);have a8:Hid (yC p1):=hid (by rw [a];exact yCE HS HK al);have a4:=zB d.let' 4 (I U l.1.2.2.2.2) rfl;rw [<- ax.out] at a4;have ao:Hid (xI (bks ps) n p l=votesH n p1 vw bl):=(by rw [bk.out,a];unfold yBD;rw [an.out];rfl:xI (bks ps) n p l=_);go_wp2_with (refine w_ld N d.out.out underlying35 ?_)
          refine (zII ps va p s1 bl y7 (HT.below d.below) HK ad.reads HS al).mono ?_;rw [<- a];rintro e x8 ⟨s8,rfl,ho,hb⟩;have g:Hid (Bx4 w x8 N (zA p s) (zQ l) zF (zA p s1)):=d.more hb;have v:Hid (zO w.heap.size x8.heap.size x8 p1 s8):=ho.low d.below.size;have i:Hid (x8.ownsRow w.heap.size 37 13 ov ([]:List LT).length (zE yE [])):=zS t hb;clear ho hb d ad t a4 a
          go_upto_region 19 with (refine w_st N (zA p1 s8) g.out.out (zJ v.1) ?_;intro y9 hg hk hz;have f:Hid (Bx4 w y9 N (zA p s) (zQ l) zF (zA p1 s8)):=g.put hg hk;have ab:Hid (zO w.heap.size y9.heap.size y9 p1 s8):=(v.boxed g.out.out hg).wide hg.size (nl _);have r:Hid (y9.ownsRow w.heap.size 37 13 ov ([]:List LT).length (zE yE [])):=Aa i hg (zH i g.out.out (by decide));clear hg hk hz g v i)
          obtain ⟨l2,e2⟩:∃ l2,xQ (vw+1) n=l2:=⟨_,rfl⟩;obtain ⟨p2,bn⟩:=nw (yP p1 4 vw bl);obtain ⟨p3,b4⟩:=nw (yI p2 (vw+1));obtain ⟨GL,bx⟩:=nw (zEJ p1 4 vw bl l2);have HE:Hid (xI (bks ps) n p l=(p3,[GL])):=(by rw [ao.out,b4,bn,bx,<- e2];rfl:xI (bks ps) n p l=_);have cm:Hid (yC p2):=hid (by rw [bn];exact voted_small a8 _ _ _);have cs:IntKind.i64.wrap (vw+1)=vw+1:=(by rw [IntKind.wrap_i64];have:=b1.out;omega);refine p_rg (fun _=>true) (fun x=>Bx x (w.heap.size+1) (zQ l) 37) ?_;show zX prog _ _ _ _ _ (10+1) (Array.replicate 11 false) _ _;have hS:Bx y9.drew (w.heap.size+1) (zQ l) 37:=f.let';refine p_pt 0 98 (w.heap.size+1) 3 hS ?_;refine zD 1 99 (I U vw) hS ?_ (hy:=by intro x hx;have c:=zB hx 3 (I U l.1.2.2.2.1) rfl;rw [<- a7.out] at c;go_simp;try rfl);refine p_pt 2 100 (w.heap.size+1) 4 hS ?_;refine zD 3 101 (I U bl) hS ?_ (hy:=by intro x hx;have c:=zB hx 4 (I U l.1.2.2.2.2) rfl;rw [<- ax.out] at c;go_simp;try rfl);refine p_pt 4 102 (w.heap.size+1) 3 hS ?_;refine zD 5 103 (I U vw) hS ?_ (hy:=by intro x hx;have c:=zB hx 3 (I U l.1.2.2.2.1) rfl;rw [<- a7.out] at c;go_simp;try rfl);refine zD 6 104 (I U (vw+1)) hS ?_;refine zD 7 105 (I U n) hS ?_;refine kJ 8 106 13 #[I U (vw+1),I U n] ((xR e2 (by omega) (by omega) (by have:=b1.out;omega) (by have:=b1.out;omega) y9.drew).mono ?_);rintro e x0 ⟨rfl,hw⟩;obtain rfl:=hw.symm;clear hw;refine ⟨_,rfl,fun _=>hS,?_⟩;simp only [pz];refine kJ 9 107 36 #[.pointer (some ⟨N,0,none⟩),I U 4,I U vw,I U bl,I U l2] ((give_s p1 s8 N w.heap.size y9.heap.size 4 vw bl l2 y9.drew (ab.below (br _ _).drew) f.out.out f.below.size a8).mono ?_);rw [<- bn,<- bx];rintro e ay ⟨au,rfl,cf,⟨bf,bu,ho⟩,ag⟩;have hg:y9.grownBy ay (some N):=zP (yG (br _ _).drew) cf;have ac:Hid (Bx4 w ay N (zA p s) (zQ l) zF (zA p2 bf)):=f.put hg bu;have bq:Hid (zO w.heap.size ay.heap.size ay p2 bf):=ho;have a0:Hid (ay.ownsRow w.heap.size 37 13 au [GL].length (zE yE [GL])):=hid (by have h:=zN ag f.below.size;simpa [zE] using h);clear ho ag hg cf bu bn bx hS f ab r;refine ⟨_,rfl,fun _=>ac.let',?_⟩;simp only [pz];refine zD 10 13 au ac.let' ?_;refine p_do ?_;have a3:=zB ac.let' 3 (I U l.1.2.2.2.1) rfl;rw [<- a7.out] at a3;go_wp2_with (refine w_ld N ac.out.out underlying35 ?_)
          refine (zCB p2 bf (vw+1) ay bq.reads cm).mono ?_;rw [<- b4];rintro e bc ⟨aq,rfl,ho,hb⟩;have ah:Hid (Bx4 w bc N (zA p s) (zQ l) zF (zA p2 bf)):=ac.more hb;have bp:Hid (zO w.heap.size bc.heap.size bc p3 aq):=ho.low ac.below.size;have a2:Hid (bc.ownsRow w.heap.size 37 13 au [GL].length (zE yE [GL])):=zS a0 hb;clear ho hb b4 ac bq a0 a3
          go_wp2_with (first
           | (refine w_ld N ah.out.out underlying35 ?_)
           | (refine w_st (w.heap.size+1+1) (zA p3 aq) ah.zero (zJ bp.1) ?_;intro z hg hk hz;have HZ:Hid (Be w z/\Bx z (w.heap.size+1+1) (zA p3 aq) 35/\zO w.heap.size z.heap.size z p3 aq/\z.ownsRow w.heap.size 37 13 au ([GL]).length (zE yE ([GL]))):=⟨ah.fill hg,hk,(bp.boxed ah.zero hg).wide hg.size (nl _),Aa a2 hg (zH a2 ah.zero (by decide))⟩;clear hg hk hz))
          refine b_pl (.tuple #[.agg (zA p3 aq),au]) results9 HZ.2.1 underlying35 ?_;rw [HE.out];exact ⟨aq,au,rfl,HZ.2.2.1,HZ.2.2.2,HZ.1⟩
         ·have co:decide (vw ≥ p.view)=false:=decide_eq_false hpv;have an:Hid (mayH (bks ps) p vw bl=false):=hid (by unfold mayH;rw [<- ak.out,<- ar.out,decide_eq_false hpv];rfl);clear ak ar;obtain ⟨p1,a⟩:=nw (jN (bks ps) p bl);have a8:Hid (yC p1):=hid (by rw [a];exact yCE HS HK al);have a4:=zB d.let' 4 (I U l.1.2.2.2.2) rfl;rw [<- ax.out] at a4;have ao:Hid (xI (bks ps) n p l=(p1,[])):=(by rw [bk.out,a];unfold yBD;rw [an.out];rfl:xI (bks ps) n p l=_);go_wp2_with (refine w_ld N d.out.out underlying35 ?_)
          refine (zII ps va p s1 bl y7 (HT.below d.below) HK ad.reads HS al).mono ?_;rw [<- a];rintro e x8 ⟨s8,rfl,ho,hb⟩;have g:Hid (Bx4 w x8 N (zA p s) (zQ l) zF (zA p s1)):=d.more hb;have v:Hid (zO w.heap.size x8.heap.size x8 p1 s8):=ho.low d.below.size;have i:Hid (x8.ownsRow w.heap.size 37 13 ov ([]:List LT).length (zE yE [])):=zS t hb;clear ho hb d ad t a4 a;have HE:=hid ao.out
          go_upto_region 17 with (refine w_st N (zA p1 s8) g.out.out (zJ v.1) ?_;intro y9 hg hk hz;have f:Hid (Bx4 w y9 N (zA p s) (zQ l) zF (zA p1 s8)):=g.put hg hk;have ab:Hid (zO w.heap.size y9.heap.size y9 p1 s8):=(v.boxed g.out.out hg).wide hg.size (nl _);have r:Hid (y9.ownsRow w.heap.size 37 13 ov ([]:List LT).length (zE yE [])):=Aa i hg (zH i g.out.out (by decide));clear hg hk hz g v i)
          go_wp2_with (first
           | (refine w_ld N f.out.out underlying35 ?_)
           | (refine w_st (w.heap.size+1+1) (zA p1 s8) f.zero (zJ ab.1) ?_;intro z hg hk hz;have HZ:Hid (Be w z/\Bx z (w.heap.size+1+1) (zA p1 s8) 35/\zO w.heap.size z.heap.size z p1 s8/\z.ownsRow w.heap.size 37 13 ov ([]).length (zE yE ([]))):=⟨f.fill hg,hk,(ab.boxed f.zero hg).wide hg.size (nl _),Aa r hg (zH r f.zero (by decide))⟩;clear hg hk hz))
          refine b_pl (.tuple #[.agg (zA p1 s8),ov]) results9 HZ.2.1 underlying35 ?_;rw [HE.out];exact ⟨s8,ov,rfl,HZ.2.2.1,HZ.2.2.2,HZ.1⟩
      ·have cn:(fr != ld)=true:=by simpa using hfl
       have HE:Hid (xI (bks ps) n p l=(p,[])):=(by rw [bv.out,if_neg hfl]:xI (bks ps) n p l=_);clear hfl;go_wp2;refine rb ?_;repeat (go_big_quiet_step (first | (go_at_call 13;with_reducible refine zI (ck.out _))))
       refine qnn fun xq=>?_
       have hb:=xq.below;obtain ⟨y4,a9⟩:=nw xq.to;rw [<- a9] at hb ⊢;clear a9 z1 z3 cd bm bi bo;have j:Hid (Bx4 w y4 N (zA p s) (zQ l) zF (zA p s1)):=b.more hb;have aa:Hid (zO w.heap.size y4.heap.size y4 p s1):=(y.below hb).wide hb.size (nl _);have o:Hid (y4.ownsRow w.heap.size 37 13 ov ([]:List LT).length (zE yE [])):=zS m hb;clear hb b y m
       go_wp2_with (first
        | (refine w_ld N j.out.out underlying35 ?_)
        | (refine w_st (w.heap.size+1+1) (zA p s1) j.zero (zJ aa.1) ?_;intro z hg hk hz;have HZ:Hid (Be w z/\Bx z (w.heap.size+1+1) (zA p s1) 35/\zO w.heap.size z.heap.size z p s1/\z.ownsRow w.heap.size 37 13 ov ([]).length (zE yE ([]))):=⟨j.fill hg,hk,(aa.boxed j.zero hg).wide hg.size (nl _),Aa o hg (zH o j.zero (by decide))⟩;clear hg hk hz))
       refine b_pl (.tuple #[.agg (zA p s1),ov]) results9 HZ.2.1 underlying35 ?_;rw [HE.out];exact ⟨s1,ov,rfl,HZ.2.2.1,HZ.2.2.2,HZ.1⟩
  ·have cp:(l.1.2.2.1 != p.id)=true:=by simpa using hto
   have HE:Hid (xI (bks ps) n p l=(p,[])):=(by unfold xI;rw [if_neg (fun h=>hto h.2)]:xI (bks ps) n p l=_);clear ae hto
   go_wp2_with (first
    | (refine w_ld N b.out.out underlying35 ?_)
    | (refine w_st (w.heap.size+1+1) (zA p s1) b.zero (zJ y.1) ?_;intro z hg hk hz;have HZ:Hid (Be w z/\Bx z (w.heap.size+1+1) (zA p s1) 35/\zO w.heap.size z.heap.size z p s1/\z.ownsRow w.heap.size 37 13 ov ([]).length (zE yE ([]))):=⟨b.fill hg,hk,(y.boxed b.zero hg).wide hg.size (nl _),Aa m hg (zH m b.zero (by decide))⟩;clear hg hk hz))
   refine b_pl (.tuple #[.agg (zA p s1),ov]) results9 HZ.2.1 underlying35 ?_;rw [HE.out];exact ⟨s1,ov,rfl,HZ.2.2.1,HZ.2.2.2,HZ.1⟩
end Go.Proofs.YtfnneillakdopadGreat
