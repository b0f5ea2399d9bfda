/-
  A text of ours: ChainHS.
-/
import Derived.Test.YtfnneillakdopacGreatRK1
import Derived.Test.YtfnneillakdopacGreatRAskSZ
import Derived.Test.YtfnneillakdopacGreatRChainLSZ
set_option maxRecDepth 100000
set_option maxHeartbeats 32000000
namespace Go.Proofs.YtfnneillakdopacGreatR
open _root_.Go.Proofs.Tryz
open Go.Value renaming int->I
open Go.IntKind renaming i64->U
open Go.World.ownsRow renaming kept->Aa
open Go.RowKit Num
def mayH (t:List BK) (p:PE) (vw bl:Int):Bool:=zEG p 4 vw && (yDA t p.lock bl && decide (p.view<=vw))
def votesH (n:Int) (p:PE) (vw bl:Int):PE × List LT:=(yI (yP p 4 vw bl) (vw+1),[zEJ p 4 vw bl (xQ (vw+1) n)])
def yBD (t:List BK) (n:Int) (p:PE) (vw bl:Int):PE × List LT:=if mayH t p vw bl=true then votesH n (jN t p bl) vw bl else (jN t p bl,[])
def xI (t:List BK) (n:Int) (p:PE) (l:LT):PE × List LT:=
 if qI t n l=true/\l.1.2.2.1=p.id then
  (if l.1.1=2 then kZ t n p l
   else if l.1.1=4 then kZ t n { p with high:=yF p.high l.2.1 } l
   else if l.1.1=3 then (p,[])
   else if l.1.2.1=xQ l.1.2.2.2.1 n then yBD t n p l.1.2.2.2.1 l.1.2.2.2.2 else (p,[]))
 else (p,[])
theorem chainHear_s (ps:TL) (va:Value) (n:Int) (p:PE) (s:PV) (l:LT) (w:World) (hT:jB w va ps) (hl:(ps.length:Int)<=1048576) (hk:okT (bks ps)) (hln:jZ p+wtB (bks ps)<=1048576) (hR:jS w p s) (hs:yC p) (hvl:(p.votes.length:Int)+1<=1048576)
  (hn0:0<=n) (hn1:n<=7) (hq:fitQ l.2.1) (hp0:-9223372036854775808<=p.view) (hp1:p.view < 9223372036854775807) :
  Calls prog 193 #[va,I U n,yZ p s,.agg (zQ l)] w fun e w'=>∃ s' v',e=.returned (.tuple #[yZ (xI (bks ps) n p l).1 s',v'])/\zO w.heap.size w'.heap.size w' (xI (bks ps) n p l).1 s'/\w'.ownsRow w.heap.size 61 13 v' (xI (bks ps) n p l).2.length (zE yE (xI (bks ps) n p l).2)/\Be w w':=by
 have HT:=hid hT;have HR:=hid hR;have HS:=hid hs;have b3:=hid hq;have HK:=hid hk;have ai:=hid hln;clear hk hln;clear hT hR hs hq;obtain ⟨W,hW⟩:=nw (((w.alloc (.cells (zA p s) 35)).alloc (.cells (zQ l) 61)).alloc (.cells zF 35))
 have HC:Hid (Be w W/\Bx W w.heap.size (zA p s) 35/\Bx W (w.heap.size+1) (zQ l) 61/\Bx W (w.heap.size+1+1) zF 35):=by
  rw [hW];exact ⟨ba (ba (ba (br _ _) _) _) _,zJH w _ _ _⟩
 have al:Hid (W.heap.size=w.heap.size+1+1+1):=hid (by rw [hW];simp);unfold zF at hW;go_enter func193,ntmps193;go_wp2_with (rw [<- hW];clear hW;refine w_ld w.heap.size HC.2.1 underlying35 ?_)
 refine (zHJ p s W (HR.below HC.1) HS).mono ?_;rintro e x1 ⟨s1,rfl,ho,hb⟩;have b8:Hid (zO W.heap.size x1.heap.size x1 p s1):=ho.toD;have af:Hid (Be W x1):=hb;clear ho hb;obtain ⟨N,hN⟩:=nw x1.heap.size
 go_upto_region 3 with (first
  | (refine w_st x1.heap.size (zA p s1) (heap_alloc_new x1 _) (zJ b8.1) ?_;intro y1 hg hk hz;have au:Be x1 y1:=yB hg;have b0:Hid (Bx4 w y1 N (zA p s) (zQ l) zF (zA p s1)):=⟨bt HC.1 (bt af au),(au.block _ (by have:=af.size;have:=al.out;omega)).trans ((af.block _ (by have:=al.out;omega)).trans HC.2.1),(au.block _ (by have:=af.size;have:=al.out;omega)).trans ((af.block _ (by have:=al.out;omega)).trans HC.2.2.1),(au.block _ (by have:=af.size;have:=al.out;omega)).trans ((af.block _ (by have:=al.out;omega)).trans HC.2.2.2),(by rw [hN];exact hk),(by have:=af.size;have:=al.out;omega)⟩;have ci:Hid (zO w.heap.size y1.heap.size y1 p s1):=((b8.below au).wide (Nat.le_of_lt (gl hk)) (nl _)).low HC.1.size;clear hg hk hz au b8 af))
 obtain ⟨y2,bc⟩:=nw (y1.alloc (.cells #[] 61));rw [<- bc];have bo:Be y1 y2:=by rw [bc];exact (br _ _).alloc (nl _) _
 have bi:Hid (Bx4 w y2 N (zA p s) (zQ l) zF (zA p s1)):=b0.more bo;have ce:Hid (zO w.heap.size y2.heap.size y2 p s1):=(ci.below bo).wide bo.size (nl _);have bw:Hid (y2.ownsRow w.heap.size 61 13 (.slice (some ⟨y1.heap.size,0,none⟩) 0 0) ([]:List LT).length (zE yE [])):=hid (by rw [bc];exact zN (yH y1 61 13) b0.below.size);obtain ⟨ov,cj⟩:=nw (Value.slice (some ⟨y1.heap.size,0,none⟩) 0 0);rw [<- cj] at bw ⊢;clear bo bc cj b0 ci HC al;rw [<- hN];clear hN;go_wp2_with (refine w_ld (w.heap.size+1) bi.let' underlying61 ?_)
 refine (letterOk_s ps va n l y2 (HT.below bi.below) hl hn0 hn1 b3).mono ?_;rintro e y3 ⟨rfl,hb⟩;have b:Hid (Bx4 w y3 N (zA p s) (zQ l) zF (zA p s1)):=bi.more hb;have y:Hid (zO w.heap.size y3.heap.size y3 p s1):=(ce.below hb).wide hb.size (nl _);have m:Hid (y3.ownsRow w.heap.size 61 13 ov ([]:List LT).length (zE yE [])):=zS bw hb;clear hb bi ce bw;have bj:=zB b.box 0 (I U p.id) rfl;have bd:=zB b.let' 2 (I U l.1.2.2.1) rfl;have bf:=zB b.let' 0 (I U l.1.1) rfl
 cases ae:qI (bks ps) n l with
 | false=>
  have HE:Hid (xI (bks ps) n p l=(p,[])):=(by unfold xI;rw [if_neg (fun h=>by rw [ae] at h;exact absurd h.1 (by decide))]:xI (bks ps) n p l=_);clear ae
  go_wp2_with (first
   | (refine w_ld N b.out.out underlying35 ?_)
   | (refine w_st (w.heap.size+1+1) (zA p s1) b.zero (zJ y.1) ?_;intro z hg hk hz;have HZ:Hid (Be w z/\Bx z (w.heap.size+1+1) (zA p s1) 35/\zO w.heap.size z.heap.size z p s1/\z.ownsRow w.heap.size 61 13 ov ([]).length (zE yE ([]))):=⟨b.fill hg,hk,(y.boxed b.zero hg).wide hg.size (nl _),Aa m hg (zH m b.zero (by decide))⟩;clear hg hk hz))
  refine b_pl (.tuple #[.agg (zA p s1),ov]) results193 HZ.2.1 underlying35 ?_;rw [HE.out];exact ⟨s1,ov,rfl,HZ.2.2.1,HZ.2.2.2,HZ.1⟩
 | true=>
  have b6:=lok_view ae
  by_cases hto:l.1.2.2.1=p.id
  ·have cm:(l.1.2.2.1 != p.id)=false:=by simpa using hto
   have ak:Hid (xI (bks ps) n p l=if l.1.1=2 then kZ (bks ps) n p l else if l.1.1=4 then kZ (bks ps) n { p with high:=yF p.high l.2.1 } l else if l.1.1=3 then (p,[]) else if l.1.2.1=xQ l.1.2.2.2.1 n then yBD (bks ps) n p l.1.2.2.2.1 l.1.2.2.2.2 else (p,[])):=(by unfold xI;rw [if_pos ⟨ae,hto⟩]:xI (bks ps) n p l=_);clear ae hto
   by_cases hk2:l.1.1=2
   ·have ck:(l.1.1 == 2)=true:=by simpa using hk2
    obtain ⟨R,hR⟩:=nw (kZ (bks ps) n p l);have HE:Hid (xI (bks ps) n p l=R):=hid (by rw [ak.out,if_pos hk2,hR]);clear hk2 ak;have a0:=hvl;have a8:=hp0;have a:=hp1
    go_wp2_with (first
     | (refine w_ld w.heap.size b.box underlying35 ?_)
     | (refine w_ld (w.heap.size+1) b.let' underlying61 ?_))
    clear bj bd bf;refine (leadHear_s ps va n p s l y3 (HT.below b.below) hl (HR.below b.below) HS a0 hn0 hn1 b3 a8 a).mono ?_;rw [<- hR];rintro e y4 ⟨s4,v4,rfl,ho,ag,hb⟩;have j:Hid (Bx4 w y4 N (zA p s) (zQ l) zF (zA p s1)):=b.more hb;have ab:Hid (zO w.heap.size y4.heap.size y4 R.1 s4):=ho.low b.below.size;have o:Hid (y4.ownsRow w.heap.size 61 13 v4 R.2.length (zE yE R.2)):=zN ag b.below.size;clear ho ag hb hR b
    go_wp2_with (first
     | (refine w_ld N j.out.out underlying35 ?_)
     | (refine w_st (w.heap.size+1+1) (zA R.1 s4) j.zero (zJ ab.1) ?_;intro z hg hk hz;have HZ:Hid (Be w z/\Bx z (w.heap.size+1+1) (zA R.1 s4) 35/\zO w.heap.size z.heap.size z R.1 s4/\z.ownsRow w.heap.size 61 13 v4 (R.2).length (zE yE (R.2))):=⟨j.fill hg,hk,(ab.boxed j.zero hg).wide hg.size (nl _),Aa o hg (zH o j.zero (by decide))⟩;clear hg hk hz))
    refine b_pl (.tuple #[.agg (zA R.1 s4),v4]) results193 HZ.2.1 underlying35 ?_;rw [HE.out];exact ⟨s4,v4,rfl,HZ.2.2.1,HZ.2.2.2,HZ.1⟩
   ·have ck:(l.1.1 == 2)=false:=by simpa using hk2
    by_cases hk4:l.1.1=4
    ·have co:(l.1.1 == 4)=true:=by simpa using hk4
     obtain ⟨p1,a⟩:∃ p1:PE,p1={ p with high:=yF p.high l.2.1 }:=⟨_,rfl⟩;obtain ⟨R,hR⟩:=nw (kZ (bks ps) n p1 l);have HE:Hid (xI (bks ps) n p l=R):=hid (by rw [ak.out,if_neg hk2,if_pos hk4,hR,a]);have bb:Hid (yC p1/\(p1.votes.length:Int)+1<=1048576/\-9223372036854775808<=p1.view/\p1.view < 9223372036854775807):=hid (by rw [a];exact ⟨⟨HS.row,HS.cells,HS.early,HS.undos,HS.votes,HS.news,HS.kcells,HS.kundos⟩,hvl,hp0,hp1⟩);clear hk2 hk4 ak;have k0:=zB b.out.out 2 (I U p.high.1) rfl;have k1:=zB b.out.out 3 (I U p.high.2.1) rfl;have k2:=zB b.out.out 4 (I U p.high.2.2.1) rfl;have k3:=zB b.out.out 5 (I U p.high.2.2.2) rfl;have m0:=zB b.let' 5 (I U l.2.1.1) rfl;have m1:=zB b.let' 6 (I U l.2.1.2.1) rfl;have m2:=zB b.let' 7 (I U l.2.1.2.2.1) rfl;have m3:=zB b.let' 8 (I U l.2.1.2.2.2) rfl;go_wp2_with fail
     clear bj bd bf k0 k1 k2 k3 m0 m1 m2 m3;refine (yAF p.high l.2.1 y3).mono ?_;obtain ⟨bk,bz⟩:=nw (yF p.high l.2.1);rw [<- bz];have cd:=hid bz;have az:=hid a;have cg:=hid hR;clear bz a hR;rintro e x4 ⟨rfl,hb⟩;have bh:Hid (Bx4 w x4 N (zA p s) (zQ l) zF (zA p s1)):=b.more hb;have cb:Hid (zO w.heap.size x4.heap.size x4 p s1):=(y.below hb).wide hb.size (nl _);clear hb b y m
     go_wp2_with (first
      | (refine yY rfl _ _ _ rfl N 2 #[I U bk.1,I U bk.2.1,I U bk.2.2.1,I U bk.2.2.2] rfl rfl 35 (zA p s1) bh.out.out (by kernel_rfl) (by simp [zA]) (by simp [Value.oneCell']) (zA p1 s1) (by rw [az.out,cd.out];rfl) ?_;intro y5 hg hk;have k:Hid (Bx4 w y5 N (zA p s) (zQ l) zF (zA p1 s1)):=bh.put hg hk;have ay:Hid (zO w.heap.size y5.heap.size y5 p1 s1):=hid (by rw [az.out];exact ((cb.boxed bh.out.out hg).wide hg.size (nl _)).other rfl rfl rfl rfl rfl rfl);clear hg hk bh cb)
      | (refine w_ld N k.out.out underlying35 ?_)
      | (refine w_ld (w.heap.size+1) k.let' underlying61 ?_))
     have a0:=bb.2.1;have hR:=cg.out;clear cg az cd;have a8:=bb.2.2.1;have a:=bb.2.2.2;refine (leadHear_s ps va n p1 s1 l y5 (HT.below k.below) hl ay.reads bb.1 a0 hn0 hn1 b3 a8 a).mono ?_;rw [<- hR];rintro e y4 ⟨s4,v4,rfl,ho,ag,hb⟩;have j:Hid (Bx4 w y4 N (zA p s) (zQ l) zF (zA p1 s1)):=k.more hb;have ab:Hid (zO w.heap.size y4.heap.size y4 R.1 s4):=ho.low k.below.size;have o:Hid (y4.ownsRow w.heap.size 61 13 v4 R.2.length (zE yE R.2)):=zN ag k.below.size;clear ho ag hb hR k
     go_wp2_with (first
      | (refine w_ld N j.out.out underlying35 ?_)
      | (refine w_st (w.heap.size+1+1) (zA R.1 s4) j.zero (zJ ab.1) ?_;intro z hg hk hz;have HZ:Hid (Be w z/\Bx z (w.heap.size+1+1) (zA R.1 s4) 35/\zO w.heap.size z.heap.size z R.1 s4/\z.ownsRow w.heap.size 61 13 v4 (R.2).length (zE yE (R.2))):=⟨j.fill hg,hk,(ab.boxed j.zero hg).wide hg.size (nl _),Aa o hg (zH o j.zero (by decide))⟩;clear hg hk hz))
     refine b_pl (.tuple #[.agg (zA R.1 s4),v4]) results193 HZ.2.1 underlying35 ?_;rw [HE.out];exact ⟨s4,v4,rfl,HZ.2.2.1,HZ.2.2.2,HZ.1⟩
    ·have co:(l.1.1 == 4)=false:=by simpa using hk4
     by_cases hk3:l.1.1=3
     ·have cn:(l.1.1 == 3)=true:=by simpa using hk3
      have HE:Hid (xI (bks ps) n p l=(p,[])):=(by rw [ak.out,if_neg hk2,if_neg hk4,if_pos hk3]:xI (bks ps) n p l=_);clear hk2 hk4 hk3 ak
      go_wp2_with (first
       | (refine w_ld N b.out.out underlying35 ?_)
       | (refine w_st (w.heap.size+1+1) (zA p s1) b.zero (zJ y.1) ?_;intro z hg hk hz;have HZ:Hid (Be w z/\Bx z (w.heap.size+1+1) (zA p s1) 35/\zO w.heap.size z.heap.size z p s1/\z.ownsRow w.heap.size 61 13 ov ([]).length (zE yE ([]))):=⟨b.fill hg,hk,(y.boxed b.zero hg).wide hg.size (nl _),Aa m hg (zH m b.zero (by decide))⟩;clear hg hk hz))
      refine b_pl (.tuple #[.agg (zA p s1),ov]) results193 HZ.2.1 underlying35 ?_;rw [HE.out];exact ⟨s1,ov,rfl,HZ.2.2.1,HZ.2.2.2,HZ.1⟩
     ·have cn:(l.1.1 == 3)=false:=by simpa using hk3
      obtain ⟨fr,b1⟩:=nw l.1.2.1;obtain ⟨vw,aj⟩:=nw l.1.2.2.2.1;obtain ⟨bl,b7⟩:=nw l.1.2.2.2.2;obtain ⟨ld,e1⟩:∃ ld,xQ vw n=ld:=⟨_,rfl⟩;rw [<- aj] at b6;have cc:Hid (∀ x:World,Calls prog 121 #[I U vw,I U n] x fun e w'=>e=.returned (I U ld)/\w'=x):=fun x=>xR e1 (by omega) (by omega) (by omega) (by omega) x
      have bx:=hid b6;have b4:Hid (xI (bks ps) n p l=if fr=ld then yBD (bks ps) n p vw bl else (p,[])):=(by rw [ak.out,if_neg hk2,if_neg hk4,if_neg hk3,<- b1,<- aj,<- b7,e1]:xI (bks ps) n p l=_);have ch:=yX y3;have z1:∀ x:Bw y3,x.to.cell? ⟨w.heap.size+1,1,none⟩=some (I U fr):=fun x=>by rw [b1];exact zB (b.more x.below).let' 1 _ rfl
      have z3:∀ x:Bw y3,x.to.cell? ⟨w.heap.size+1,3,none⟩=some (I U vw):=fun x=>by rw [aj];exact zB (b.more x.below).let' 3 _ rfl
      have a9:=hid aj;have aq:=hid b7;clear b6 b1 aj b7 hk2 hk4 hk3 ak
      by_cases hfl:fr=ld
      ·have cp:(fr != ld)=false:=by simpa using hfl
       have bm:Hid (xI (bks ps) n p l=yBD (bks ps) n p vw bl):=(by rw [b4.out,if_pos hfl]:xI (bks ps) n p l=_);clear hfl b4;go_wp2;clear bf bj bd;refine rb ?_;repeat (go_big_quiet_step (first | (go_at_call 121;with_reducible refine zI (cc.out _))))
       refine qnn fun xq=>?_
       have hb:=xq.below;obtain ⟨y4,a2⟩:=nw xq.to;rw [<- a2] at hb ⊢;clear a2 z1 z3 ch;have j:Hid (Bx4 w y4 N (zA p s) (zQ l) zF (zA p s1)):=b.more hb;have ab:Hid (zO w.heap.size y4.heap.size y4 p s1):=(y.below hb).wide hb.size (nl _);have o:Hid (y4.ownsRow w.heap.size 61 13 ov ([]:List LT).length (zE yE [])):=zS m hb;clear hb b y m;have a3:=zB j.let' 3 (I U l.1.2.2.2.1) rfl;rw [<- a9.out] at a3;go_wp2_with (refine w_ld N j.out.out underlying35 ?_)
       obtain ⟨mb,b2⟩:=nw (zEG p 4 vw);refine (yFB p s1 4 vw y4).mono ?_;rw [<- b2];have am:=hid b2;clear b2;rintro e y5 ⟨rfl,hb⟩;clear a3;have k:Hid (Bx4 w y5 N (zA p s) (zQ l) zF (zA p s1)):=j.more hb;have ay:Hid (zO w.heap.size y5.heap.size y5 p s1):=(ab.below hb).wide hb.size (nl _);have ap:Hid (y5.ownsRow w.heap.size 61 13 ov ([]:List LT).length (zE yE [])):=zS o hb;clear hb j ab o
       cases mb with
       | false=>
        have ao:Hid (mayH (bks ps) p vw bl=false):=hid (by unfold mayH;rw [<- am.out];rfl);have d:=k;have ad:=ay;have r:=ap;obtain ⟨y7,cf⟩:=nw y5;rw [<- cf] at d ad r ⊢;clear cf k ay ap am;obtain ⟨p1,a⟩:=nw (jN (bks ps) p bl);have a5:Hid (yC p1):=hid (by rw [a];exact yCE HS HK ai);have a4:=zB d.let' 4 (I U l.1.2.2.2.2) rfl;rw [<- aq.out] at a4;have an:Hid (xI (bks ps) n p l=(p1,[])):=(by rw [bm.out,a];unfold yBD;rw [ao.out];rfl:xI (bks ps) n p l=_);go_wp2_with (refine w_ld N d.out.out underlying35 ?_)
        refine (zII ps va p s1 bl y7 (HT.below d.below) HK ad.reads HS ai).mono ?_;rw [<- a];rintro e x8 ⟨s8,rfl,ho,hb⟩;have i:Hid (Bx4 w x8 N (zA p s) (zQ l) zF (zA p s1)):=d.more hb;have v:Hid (zO w.heap.size x8.heap.size x8 p1 s8):=ho.low d.below.size;have g:Hid (x8.ownsRow w.heap.size 61 13 ov ([]:List LT).length (zE yE [])):=zS r hb;clear ho hb d ad r a4 a;have HE:=hid an.out
        go_upto_region 17 with (refine w_st N (zA p1 s8) i.out.out (zJ v.1) ?_;intro y9 hg hk hz;have f:Hid (Bx4 w y9 N (zA p s) (zQ l) zF (zA p1 s8)):=i.put hg hk;have aa:Hid (zO w.heap.size y9.heap.size y9 p1 s8):=(v.boxed i.out.out hg).wide hg.size (nl _);have t:Hid (y9.ownsRow w.heap.size 61 13 ov ([]:List LT).length (zE yE [])):=Aa g hg (zH g i.out.out (by decide));clear hg hk hz i v g)
        go_wp2_with (first
         | (refine w_ld N f.out.out underlying35 ?_)
         | (refine w_st (w.heap.size+1+1) (zA p1 s8) f.zero (zJ aa.1) ?_;intro z hg hk hz;have HZ:Hid (Be w z/\Bx z (w.heap.size+1+1) (zA p1 s8) 35/\zO w.heap.size z.heap.size z p1 s8/\z.ownsRow w.heap.size 61 13 ov ([]).length (zE yE ([]))):=⟨f.fill hg,hk,(aa.boxed f.zero hg).wide hg.size (nl _),Aa t hg (zH t f.zero (by decide))⟩;clear hg hk hz))
        refine b_pl (.tuple #[.agg (zA p1 s8),ov]) results193 HZ.2.1 underlying35 ?_;rw [HE.out];exact ⟨s8,ov,rfl,HZ.2.2.1,HZ.2.2.2,HZ.1⟩
       | true=>
        have a4:=zB k.let' 4 (I U l.1.2.2.2.2) rfl;rw [<- aq.out] at a4;have k0:=zB k.out.out 6 (I U p.lock.1) rfl;have k1:=zB k.out.out 7 (I U p.lock.2.1) rfl;have k2:=zB k.out.out 8 (I U p.lock.2.2.1) rfl;have k3:=zB k.out.out 9 (I U p.lock.2.2.2) rfl;go_wp2_with fail
        obtain ⟨sb,bv⟩:=nw (yDA (bks ps) p.lock bl);refine (safeBlock_s ps va p.lock bl y5 (HT.below k.below) hl).mono ?_;rw [<- bv];have ax:=hid bv;clear bv;rintro e y7 ⟨rfl,hb⟩;clear a4 k0 k1 k2 k3;have d:Hid (Bx4 w y7 N (zA p s) (zQ l) zF (zA p s1)):=k.more hb;have ad:Hid (zO w.heap.size y7.heap.size y7 p s1):=(ay.below hb).wide hb.size (nl _);have r:Hid (y7.ownsRow w.heap.size 61 13 ov ([]:List LT).length (zE yE [])):=zS ap hb;clear hb k ay ap
        cases sb with
        | false=>
         have ao:Hid (mayH (bks ps) p vw bl=false):=hid (by unfold mayH;rw [<- am.out,<- ax.out];rfl);clear am ax;obtain ⟨p1,a⟩:=nw (jN (bks ps) p bl);have a5:Hid (yC p1):=hid (by rw [a];exact yCE HS HK ai);have a4:=zB d.let' 4 (I U l.1.2.2.2.2) rfl;rw [<- aq.out] at a4;have an:Hid (xI (bks ps) n p l=(p1,[])):=(by rw [bm.out,a];unfold yBD;rw [ao.out];rfl:xI (bks ps) n p l=_);go_wp2_with (refine w_ld N d.out.out underlying35 ?_)
         refine (zII ps va p s1 bl y7 (HT.below d.below) HK ad.reads HS ai).mono ?_;rw [<- a];rintro e x8 ⟨s8,rfl,ho,hb⟩;have i:Hid (Bx4 w x8 N (zA p s) (zQ l) zF (zA p s1)):=d.more hb;have v:Hid (zO w.heap.size x8.heap.size x8 p1 s8):=ho.low d.below.size;have g:Hid (x8.ownsRow w.heap.size 61 13 ov ([]:List LT).length (zE yE [])):=zS r hb;clear ho hb d ad r a4 a;have HE:=hid an.out
         go_upto_region 17 with (refine w_st N (zA p1 s8) i.out.out (zJ v.1) ?_;intro y9 hg hk hz;have f:Hid (Bx4 w y9 N (zA p s) (zQ l) zF (zA p1 s8)):=i.put hg hk;have aa:Hid (zO w.heap.size y9.heap.size y9 p1 s8):=(v.boxed i.out.out hg).wide hg.size (nl _);have t:Hid (y9.ownsRow w.heap.size 61 13 ov ([]:List LT).length (zE yE [])):=Aa g hg (zH g i.out.out (by decide));clear hg hk hz i v g)
         go_wp2_with (first
          | (refine w_ld N f.out.out underlying35 ?_)
          | (refine w_st (w.heap.size+1+1) (zA p1 s8) f.zero (zJ aa.1) ?_;intro z hg hk hz;have HZ:Hid (Be w z/\Bx z (w.heap.size+1+1) (zA p1 s8) 35/\zO w.heap.size z.heap.size z p1 s8/\z.ownsRow w.heap.size 61 13 ov ([]).length (zE yE ([]))):=⟨f.fill hg,hk,(aa.boxed f.zero hg).wide hg.size (nl _),Aa t hg (zH t f.zero (by decide))⟩;clear hg hk hz))
         refine b_pl (.tuple #[.agg (zA p1 s8),ov]) results193 HZ.2.1 underlying35 ?_;rw [HE.out];exact ⟨s8,ov,rfl,HZ.2.2.1,HZ.2.2.2,HZ.1⟩
        | true=>
         have a3:=zB d.let' 3 (I U l.1.2.2.2.1) rfl;rw [<- a9.out] at a3;have a1:=zB d.box 1 (I U p.view) rfl
         by_cases hpv:p.view<=vw
         ·have cl:decide (vw ≥ p.view)=true:=decide_eq_true hpv;have ao:Hid (mayH (bks ps) p vw bl=true):=hid (by unfold mayH;rw [<- am.out,<- ax.out,decide_eq_true hpv];rfl);clear am ax;obtain ⟨p1,a⟩:=nw (jN (bks ps) p bl);have a5:Hid (yC p1):=hid (by rw [a];exact yCE HS HK ai);have a4:=zB d.let' 4 (I U l.1.2.2.2.2) rfl;rw [<- aq.out] at a4;have an:Hid (xI (bks ps) n p l=votesH n p1 vw bl):=(by rw [bm.out,a];unfold yBD;rw [ao.out];rfl:xI (bks ps) n p l=_);go_wp2_with (refine w_ld N d.out.out underlying35 ?_)
          refine (zII ps va p s1 bl y7 (HT.below d.below) HK ad.reads HS ai).mono ?_;rw [<- a];rintro e x8 ⟨s8,rfl,ho,hb⟩;have i:Hid (Bx4 w x8 N (zA p s) (zQ l) zF (zA p s1)):=d.more hb;have v:Hid (zO w.heap.size x8.heap.size x8 p1 s8):=ho.low d.below.size;have g:Hid (x8.ownsRow w.heap.size 61 13 ov ([]:List LT).length (zE yE [])):=zS r hb;clear ho hb d ad r a4 a
          go_upto_region 19 with (refine w_st N (zA p1 s8) i.out.out (zJ v.1) ?_;intro y9 hg hk hz;have f:Hid (Bx4 w y9 N (zA p s) (zQ l) zF (zA p1 s8)):=i.put hg hk;have aa:Hid (zO w.heap.size y9.heap.size y9 p1 s8):=(v.boxed i.out.out hg).wide hg.size (nl _);have t:Hid (y9.ownsRow w.heap.size 61 13 ov ([]:List LT).length (zE yE [])):=Aa g hg (zH g i.out.out (by decide));clear hg hk hz i v g)
          obtain ⟨l2,e2⟩:∃ l2,xQ (vw+1) n=l2:=⟨_,rfl⟩;obtain ⟨p2,bg⟩:=nw (yP p1 4 vw bl);obtain ⟨p3,b9⟩:=nw (yI p2 (vw+1));obtain ⟨GL,b5⟩:=nw (zEJ p1 4 vw bl l2);have HE:Hid (xI (bks ps) n p l=(p3,[GL])):=(by rw [an.out,b9,bg,b5,<- e2];rfl:xI (bks ps) n p l=_);have cq:Hid (yC p2):=hid (by rw [bg];exact voted_small a5 _ _ _);have cr:IntKind.i64.wrap (vw+1)=vw+1:=(by rw [IntKind.wrap_i64];have:=bx.out;omega);refine p_rg (fun _=>true) (fun x=>Bx x (w.heap.size+1) (zQ l) 61) ?_;show zX prog _ _ _ _ _ (10+1) (Array.replicate 11 false) _ _;have hS:Bx y9.drew (w.heap.size+1) (zQ l) 61:=f.let';refine p_pt 0 98 (w.heap.size+1) 3 hS ?_;refine zD 1 99 (I U vw) hS ?_ (hy:=by intro x hx;have c:=zB hx 3 (I U l.1.2.2.2.1) rfl;rw [<- a9.out] at c;go_simp;try rfl);refine p_pt 2 100 (w.heap.size+1) 4 hS ?_;refine zD 3 101 (I U bl) hS ?_ (hy:=by intro x hx;have c:=zB hx 4 (I U l.1.2.2.2.2) rfl;rw [<- aq.out] at c;go_simp;try rfl);refine p_pt 4 102 (w.heap.size+1) 3 hS ?_;refine zD 5 103 (I U vw) hS ?_ (hy:=by intro x hx;have c:=zB hx 3 (I U l.1.2.2.2.1) rfl;rw [<- a9.out] at c;go_simp;try rfl);refine zD 6 104 (I U (vw+1)) hS ?_;refine zD 7 105 (I U n) hS ?_;refine kJ 8 106 121 #[I U (vw+1),I U n] ((xR e2 (by omega) (by omega) (by have:=bx.out;omega) (by have:=bx.out;omega) y9.drew).mono ?_);rintro e x0 ⟨rfl,hw⟩;obtain rfl:=hw.symm;clear hw;refine ⟨_,rfl,fun _=>hS,?_⟩;simp only [pz];refine kJ 9 107 213 #[.pointer (some ⟨N,0,none⟩),I U 4,I U vw,I U bl,I U l2] ((give_s p1 s8 N w.heap.size y9.heap.size 4 vw bl l2 y9.drew (aa.below (br _ _).drew) f.out.out f.below.size a5).mono ?_);rw [<- bg,<- b5];rintro e ar ⟨aw,rfl,ca,⟨be,bp,ho⟩,ag⟩;have hg:y9.grownBy ar (some N):=zP (yG (br _ _).drew) ca;have ac:Hid (Bx4 w ar N (zA p s) (zQ l) zF (zA p2 be)):=f.put hg bp;have bq:Hid (zO w.heap.size ar.heap.size ar p2 be):=ho;have a7:Hid (ar.ownsRow w.heap.size 61 13 aw [GL].length (zE yE [GL])):=hid (by have h:=zN ag f.below.size;simpa [zE] using h);clear ho ag hg ca bp bg b5 hS f aa t;refine ⟨_,rfl,fun _=>ac.let',?_⟩;simp only [pz];refine zD 10 13 aw ac.let' ?_;refine p_do ?_;have a3:=zB ac.let' 3 (I U l.1.2.2.2.1) rfl;rw [<- a9.out] at a3;go_wp2_with (refine w_ld N ac.out.out underlying35 ?_)
          refine (zCB p2 be (vw+1) ar bq.reads cq).mono ?_;rw [<- b9];rintro e bn ⟨av,rfl,ho,hb⟩;have ah:Hid (Bx4 w bn N (zA p s) (zQ l) zF (zA p2 be)):=ac.more hb;have bu:Hid (zO w.heap.size bn.heap.size bn p3 av):=ho.low ac.below.size;have a6:Hid (bn.ownsRow w.heap.size 61 13 aw [GL].length (zE yE [GL])):=zS a7 hb;clear ho hb b9 ac bq a7 a3
          go_wp2_with (first
           | (refine w_ld N ah.out.out underlying35 ?_)
           | (refine w_st (w.heap.size+1+1) (zA p3 av) ah.zero (zJ bu.1) ?_;intro z hg hk hz;have HZ:Hid (Be w z/\Bx z (w.heap.size+1+1) (zA p3 av) 35/\zO w.heap.size z.heap.size z p3 av/\z.ownsRow w.heap.size 61 13 aw ([GL]).length (zE yE ([GL]))):=⟨ah.fill hg,hk,(bu.boxed ah.zero hg).wide hg.size (nl _),Aa a6 hg (zH a6 ah.zero (by decide))⟩;clear hg hk hz))
          refine b_pl (.tuple #[.agg (zA p3 av),aw]) results193 HZ.2.1 underlying35 ?_;rw [HE.out];exact ⟨av,aw,rfl,HZ.2.2.1,HZ.2.2.2,HZ.1⟩
         ·have cl:decide (vw ≥ p.view)=false:=decide_eq_false hpv;have ao:Hid (mayH (bks ps) p vw bl=false):=hid (by unfold mayH;rw [<- am.out,<- ax.out,decide_eq_false hpv];rfl);clear am ax;obtain ⟨p1,a⟩:=nw (jN (bks ps) p bl);have a5:Hid (yC p1):=hid (by rw [a];exact yCE HS HK ai);have a4:=zB d.let' 4 (I U l.1.2.2.2.2) rfl;rw [<- aq.out] at a4;have an:Hid (xI (bks ps) n p l=(p1,[])):=(by rw [bm.out,a];unfold yBD;rw [ao.out];rfl:xI (bks ps) n p l=_);go_wp2_with (refine w_ld N d.out.out underlying35 ?_)
          refine (zII ps va p s1 bl y7 (HT.below d.below) HK ad.reads HS ai).mono ?_;rw [<- a];rintro e x8 ⟨s8,rfl,ho,hb⟩;have i:Hid (Bx4 w x8 N (zA p s) (zQ l) zF (zA p s1)):=d.more hb;have v:Hid (zO w.heap.size x8.heap.size x8 p1 s8):=ho.low d.below.size;have g:Hid (x8.ownsRow w.heap.size 61 13 ov ([]:List LT).length (zE yE [])):=zS r hb;clear ho hb d ad r a4 a;have HE:=hid an.out
          go_upto_region 17 with (refine w_st N (zA p1 s8) i.out.out (zJ v.1) ?_;intro y9 hg hk hz;have f:Hid (Bx4 w y9 N (zA p s) (zQ l) zF (zA p1 s8)):=i.put hg hk;have aa:Hid (zO w.heap.size y9.heap.size y9 p1 s8):=(v.boxed i.out.out hg).wide hg.size (nl _);have t:Hid (y9.ownsRow w.heap.size 61 13 ov ([]:List LT).length (zE yE [])):=Aa g hg (zH g i.out.out (by decide));clear hg hk hz i v g)
          go_wp2_with (first
           | (refine w_ld N f.out.out underlying35 ?_)
           | (refine w_st (w.heap.size+1+1) (zA p1 s8) f.zero (zJ aa.1) ?_;intro z hg hk hz;have HZ:Hid (Be w z/\Bx z (w.heap.size+1+1) (zA p1 s8) 35/\zO w.heap.size z.heap.size z p1 s8/\z.ownsRow w.heap.size 61 13 ov ([]).length (zE yE ([]))):=⟨f.fill hg,hk,(aa.boxed f.zero hg).wide hg.size (nl _),Aa t hg (zH t f.zero (by decide))⟩;clear hg hk hz))
          refine b_pl (.tuple #[.agg (zA p1 s8),ov]) results193 HZ.2.1 underlying35 ?_;rw [HE.out];exact ⟨s8,ov,rfl,HZ.2.2.1,HZ.2.2.2,HZ.1⟩
      ·have cp:(fr != ld)=true:=by simpa using hfl
       have HE:Hid (xI (bks ps) n p l=(p,[])):=(by rw [b4.out,if_neg hfl]:xI (bks ps) n p l=_);clear hfl;go_wp2;refine rb ?_;repeat (go_big_quiet_step (first | (go_at_call 121;with_reducible refine zI (cc.out _))))
       refine qnn fun xq=>?_
       have hb:=xq.below;obtain ⟨y4,a2⟩:=nw xq.to;rw [<- a2] at hb ⊢;clear a2 z1 z3 ch bf bj bd;have j:Hid (Bx4 w y4 N (zA p s) (zQ l) zF (zA p s1)):=b.more hb;have ab:Hid (zO w.heap.size y4.heap.size y4 p s1):=(y.below hb).wide hb.size (nl _);have o:Hid (y4.ownsRow w.heap.size 61 13 ov ([]:List LT).length (zE yE [])):=zS m hb;clear hb b y m
       go_wp2_with (first
        | (refine w_ld N j.out.out underlying35 ?_)
        | (refine w_st (w.heap.size+1+1) (zA p s1) j.zero (zJ ab.1) ?_;intro z hg hk hz;have HZ:Hid (Be w z/\Bx z (w.heap.size+1+1) (zA p s1) 35/\zO w.heap.size z.heap.size z p s1/\z.ownsRow w.heap.size 61 13 ov ([]).length (zE yE ([]))):=⟨j.fill hg,hk,(ab.boxed j.zero hg).wide hg.size (nl _),Aa o hg (zH o j.zero (by decide))⟩;clear hg hk hz))
       refine b_pl (.tuple #[.agg (zA p s1),ov]) results193 HZ.2.1 underlying35 ?_;rw [HE.out];exact ⟨s1,ov,rfl,HZ.2.2.1,HZ.2.2.2,HZ.1⟩
  ·have cm:(l.1.2.2.1 != p.id)=true:=by simpa using hto
   have HE:Hid (xI (bks ps) n p l=(p,[])):=(by unfold xI;rw [if_neg (fun h=>hto h.2)]:xI (bks ps) n p l=_);clear ae hto
   go_wp2_with (first
    | (refine w_ld N b.out.out underlying35 ?_)
    | (refine w_st (w.heap.size+1+1) (zA p s1) b.zero (zJ y.1) ?_;intro z hg hk hz;have HZ:Hid (Be w z/\Bx z (w.heap.size+1+1) (zA p s1) 35/\zO w.heap.size z.heap.size z p s1/\z.ownsRow w.heap.size 61 13 ov ([]).length (zE yE ([]))):=⟨b.fill hg,hk,(y.boxed b.zero hg).wide hg.size (nl _),Aa m hg (zH m b.zero (by decide))⟩;clear hg hk hz))
   refine b_pl (.tuple #[.agg (zA p s1),ov]) results193 HZ.2.1 underlying35 ?_;rw [HE.out];exact ⟨s1,ov,rfl,HZ.2.2.1,HZ.2.2.2,HZ.1⟩
end Go.Proofs.YtfnneillakdopacGreatR
