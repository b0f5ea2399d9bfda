/-
  A text of ours: ChainHS.
-/
import Derived.Test.YtfnneillakdopacGreatRK1
import Derived.Test.YtfnneillakdopacGreatRAskSZ
import Derived.Test.YtfnneillakdopacGreatRChainLSZ
set_option maxRecDepth 100000
set_option maxHeartbeats 32000000
namespace Go.Proofs.YtfnneillakdopacGreatR
open _root_.Go.Proofs.Tryz
open Go.Value renaming int->I
open Go.IntKind renaming i64->U
open Go.World.ownsRow renaming kept->Aa
open Go.RowKit Num
def mayH (t:List BK) (p:PE) (vw bl:Int):Bool:=zEG p 4 vw && (yDA t p.lock bl && decide (p.view<=vw))
def votesH (n:Int) (p:PE) (vw bl:Int):PE × List LT:=(yI (yP p 4 vw bl) (vw+1),[zEJ p 4 vw bl (xQ (vw+1) n)])
def yBD (t:List BK) (n:Int) (p:PE) (vw bl:Int):PE × List LT:=if mayH t p vw bl=true then votesH n (jN t p bl) vw bl else (jN t p bl,[])
def xI (t:List BK) (n:Int) (p:PE) (l:LT):PE × List LT:=
 if qI t n l=true/\l.1.2.2.1=p.id then
  (if l.1.1=2 then kZ t n p l
   else if l.1.1=4 then kZ t n { p with high:=yF p.high l.2.1 } l
   else if l.1.1=3 then (p,[])
   else if l.1.2.1=xQ l.1.2.2.2.1 n then yBD t n p l.1.2.2.2.1 l.1.2.2.2.2 else (p,[]))
 else (p,[])
theorem chainHear_s (ps:TL) (va:Value) (n:Int) (p:PE) (s:PV) (l:LT) (w:World) (hT:jB w va ps) (hl:(ps.length:Int)<=1048576) (hk:okT (bks ps)) (hln:jZ p+wtB (bks ps)<=1048576) (hR:jS w p s) (hs:yC p) (hvl:(p.votes.length:Int)+1<=1048576)
  (hn0:0<=n) (hn1:n<=7) (hq:fitQ l.2.1) (hp0:-9223372036854775808<=p.view) (hp1:p.view < 9223372036854775807) :
  Calls prog 193 #[va,I U n,yZ p s,.agg (zQ l)] w fun e w'=>∃ s' v',e=.returned (.tuple #[yZ (xI (bks ps) n p l).1 s',v'])/\zO w.heap.size w'.heap.size w' (xI (bks ps) n p l).1 s'/\w'.ownsRow w.heap.size 61 13 v' (xI (bks ps) n p l).2.length (zE yE (xI (bks ps) n p l).2)/\Be w w':=by
 have HT:=hid hT;have HR:=hid hR;have HS:=hid hs;have b0:=hid hq;have HK:=hid hk;have af:=hid hln;clear hk hln;clear hT hR hs hq;obtain ⟨W,hW⟩:=nw (((w.alloc (.cells (zA p s) 35)).alloc (.cells (zQ l) 61)).alloc (.cells zF 35))
 have HC:Hid (Be w W/\Bx W w.heap.size (zA p s) 35/\Bx W (w.heap.size+1) (zQ l) 61/\Bx W (w.heap.size+1+1) zF 35):=by
  rw [hW];exact ⟨ba (ba (ba (br _ _) _) _) _,zJH w _ _ _⟩
 have al:Hid (W.heap.size=w.heap.size+1+1+1):=hid (by rw [hW];simp);unfold zF at hW;go_enter func193,ntmps193;go_wp2_with (rw [<- hW];clear hW;refine w_ld w.heap.size HC.2.1 underlying35 ?_)
 refine (zHJ p s W (HR.below HC.1) HS).mono ?_;rintro e x1 ⟨s1,rfl,ho,hb⟩;have bu:Hid (zO W.heap.size x1.heap.size x1 p s1):=ho.toD;have ae:Hid (Be W x1):=hb;clear ho hb;obtain ⟨N,hN⟩:=nw x1.heap.size
 go_upto_region 3 with (first
  | (refine w_st x1.heap.size (zA p s1) (heap_alloc_new x1 _) (zJ bu.1) ?_;intro y1 hg hk hz;have av:Be x1 y1:=yB hg;have b1:Hid (Bx4 w y1 N (zA p s) (zQ l) zF (zA p s1)):=⟨bt HC.1 (bt ae av),(av.block _ (by have:=ae.size;have:=al.out;omega)).trans ((ae.block _ (by have:=al.out;omega)).trans HC.2.1),(av.block _ (by have:=ae.size;have:=al.out;omega)).trans ((ae.block _ (by have:=al.out;omega)).trans HC.2.2.1),(av.block _ (by have:=ae.size;have:=al.out;omega)).trans ((ae.block _ (by have:=al.out;omega)).trans HC.2.2.2),(by rw [hN];exact hk),(by have:=ae.size;have:=al.out;omega)⟩;have ch:Hid (zO w.heap.size y1.heap.size y1 p s1):=((bu.below av).wide (Nat.le_of_lt (gl hk)) (nl _)).low HC.1.size;clear hg hk hz av bu ae))
 obtain ⟨y2,bi⟩:=nw (y1.alloc (.cells #[] 61));rw [<- bi];have bf:Be y1 y2:=by rw [bi];exact (br _ _).alloc (nl _) _
 have bj:Hid (Bx4 w y2 N (zA p s) (zQ l) zF (zA p s1)):=b1.more bf;have b9:Hid (zO w.heap.size y2.heap.size y2 p s1):=(ch.below bf).wide bf.size (nl _);have bz:Hid (y2.ownsRow w.heap.size 61 13 (.slice (some ⟨y1.heap.size,0,none⟩) 0 0) ([]:List LT).length (zE yE [])):=hid (by rw [bi];exact zN (yH y1 61 13) b1.below.size);obtain ⟨ov,cd⟩:=nw (Value.slice (some ⟨y1.heap.size,0,none⟩) 0 0);rw [<- cd] at bz ⊢;clear bf bi cd b1 ch HC al;rw [<- hN];clear hN;go_wp2_with (refine w_ld (w.heap.size+1) bj.let' underlying61 ?_)
 refine (letterOk_s ps va n l y2 (HT.below bj.below) hl hn0 hn1 b0).mono ?_;rintro e y3 ⟨rfl,hb⟩;have b:Hid (Bx4 w y3 N (zA p s) (zQ l) zF (zA p s1)):=bj.more hb;have v:Hid (zO w.heap.size y3.heap.size y3 p s1):=(b9.below hb).wide hb.size (nl _);have o:Hid (y3.ownsRow w.heap.size 61 13 ov ([]:List LT).length (zE yE [])):=zS bz hb;clear hb bj b9 bz;have be:=zB b.box 0 (I U p.id) rfl;have bk:=zB b.let' 2 (I U l.1.2.2.1) rfl;have a9:=zB b.let' 0 (I U l.1.1) rfl
 cases ad:qI (bks ps) n l with
 | false=>
  have HE:Hid (xI (bks ps) n p l=(p,[])):=(by unfold xI;rw [if_neg (fun h=>by rw [ad] at h;exact absurd h.1 (by decide))]:xI (bks ps) n p l=_);clear ad
  go_wp2_with (first
   | (refine w_ld N b.out.out underlying35 ?_)
   | (refine w_st (w.heap.size+1+1) (zA p s1) b.zero (zJ v.1) ?_;intro z hg hk hz;have HZ:Hid (Be w z/\Bx z (w.heap.size+1+1) (zA p s1) 35/\zO w.heap.size z.heap.size z p s1/\z.ownsRow w.heap.size 61 13 ov ([]).length (zE yE ([]))):=⟨b.fill hg,hk,(v.boxed b.zero hg).wide hg.size (nl _),Aa o hg (zH o b.zero (by decide))⟩;clear hg hk hz))
  refine b_pl (.tuple #[.agg (zA p s1),ov]) results193 HZ.2.1 underlying35 ?_;rw [HE.out];exact ⟨s1,ov,rfl,HZ.2.2.1,HZ.2.2.2,HZ.1⟩
 | true=>
  have bw:=lok_view ad
  by_cases hto:l.1.2.2.1=p.id
  ·have cj:(l.1.2.2.1 != p.id)=false:=by simpa using hto
   have ah:Hid (xI (bks ps) n p l=if l.1.1=2 then kZ (bks ps) n p l else if l.1.1=4 then kZ (bks ps) n { p with high:=yF p.high l.2.1 } l else if l.1.1=3 then (p,[]) else if l.1.2.1=xQ l.1.2.2.2.1 n then yBD (bks ps) n p l.1.2.2.2.1 l.1.2.2.2.2 else (p,[])):=(by unfold xI;rw [if_pos ⟨ad,hto⟩]:xI (bks ps) n p l=_);clear ad hto
   by_cases hk2:l.1.1=2
   ·have co:(l.1.1 == 2)=true:=by simpa using hk2
    obtain ⟨R,hR⟩:=nw (kZ (bks ps) n p l);have HE:Hid (xI (bks ps) n p l=R):=hid (by rw [ah.out,if_pos hk2,hR]);clear hk2 ah;have a6:=hvl;have a2:=hp0;have a:=hp1
    go_wp2_with (first
     | (refine w_ld w.heap.size b.box underlying35 ?_)
     | (refine w_ld (w.heap.size+1) b.let' underlying61 ?_))
    clear be bk a9;refine (leadHear_s ps va n p s l y3 (HT.below b.below) hl (HR.below b.below) HS a6 hn0 hn1 b0 a2 a).mono ?_;rw [<- hR];rintro e y4 ⟨s4,v4,rfl,ho,ag,hb⟩;have j:Hid (Bx4 w y4 N (zA p s) (zQ l) zF (zA p s1)):=b.more hb;have ab:Hid (zO w.heap.size y4.heap.size y4 R.1 s4):=ho.low b.below.size;have m:Hid (y4.ownsRow w.heap.size 61 13 v4 R.2.length (zE yE R.2)):=zN ag b.below.size;clear ho ag hb hR b
    go_wp2_with (first
     | (refine w_ld N j.out.out underlying35 ?_)
     | (refine w_st (w.heap.size+1+1) (zA R.1 s4) j.zero (zJ ab.1) ?_;intro z hg hk hz;have HZ:Hid (Be w z/\Bx z (w.heap.size+1+1) (zA R.1 s4) 35/\zO w.heap.size z.heap.size z R.1 s4/\z.ownsRow w.heap.size 61 13 v4 (R.2).length (zE yE (R.2))):=⟨j.fill hg,hk,(ab.boxed j.zero hg).wide hg.size (nl _),Aa m hg (zH m j.zero (by decide))⟩;clear hg hk hz))
    refine b_pl (.tuple #[.agg (zA R.1 s4),v4]) results193 HZ.2.1 underlying35 ?_;rw [HE.out];exact ⟨s4,v4,rfl,HZ.2.2.1,HZ.2.2.2,HZ.1⟩
   ·have co:(l.1.1 == 2)=false:=by simpa using hk2
    by_cases hk4:l.1.1=4
    ·have cp:(l.1.1 == 4)=true:=by simpa using hk4
     obtain ⟨p1,a⟩:∃ p1:PE,p1={ p with high:=yF p.high l.2.1 }:=⟨_,rfl⟩;obtain ⟨R,hR⟩:=nw (kZ (bks ps) n p1 l);have HE:Hid (xI (bks ps) n p l=R):=hid (by rw [ah.out,if_neg hk2,if_pos hk4,hR,a]);have bg:Hid (yC p1/\(p1.votes.length:Int)+1<=1048576/\-9223372036854775808<=p1.view/\p1.view < 9223372036854775807):=hid (by rw [a];exact ⟨⟨HS.row,HS.cells,HS.early,HS.undos,HS.votes,HS.news,HS.kcells,HS.kundos⟩,hvl,hp0,hp1⟩);clear hk2 hk4 ah;have k0:=zB b.out.out 2 (I U p.high.1) rfl;have k1:=zB b.out.out 3 (I U p.high.2.1) rfl;have k2:=zB b.out.out 4 (I U p.high.2.2.1) rfl;have k3:=zB b.out.out 5 (I U p.high.2.2.2) rfl;have m0:=zB b.let' 5 (I U l.2.1.1) rfl;have m1:=zB b.let' 6 (I U l.2.1.2.1) rfl;have m2:=zB b.let' 7 (I U l.2.1.2.2.1) rfl;have m3:=zB b.let' 8 (I U l.2.1.2.2.2) rfl;go_wp2_with fail
     clear be bk a9 k0 k1 k2 k3 m0 m1 m2 m3;refine (yAF p.high l.2.1 y3).mono ?_;obtain ⟨bd,b5⟩:=nw (yF p.high l.2.1);rw [<- b5];have ci:=hid b5;have a8:=hid a;have cf:=hid hR;clear b5 a hR;rintro e x4 ⟨rfl,hb⟩;have bn:Hid (Bx4 w x4 N (zA p s) (zQ l) zF (zA p s1)):=b.more hb;have cb:Hid (zO w.heap.size x4.heap.size x4 p s1):=(v.below hb).wide hb.size (nl _);clear hb b v o
     go_wp2_with (first
      | (refine yY rfl _ _ _ rfl N 2 #[I U bd.1,I U bd.2.1,I U bd.2.2.1,I U bd.2.2.2] rfl rfl 35 (zA p s1) bn.out.out (by kernel_rfl) (by simp [zA]) (by simp [Value.oneCell']) (zA p1 s1) (by rw [a8.out,ci.out];rfl) ?_;intro y5 hg hk;have k:Hid (Bx4 w y5 N (zA p s) (zQ l) zF (zA p1 s1)):=bn.put hg hk;have au:Hid (zO w.heap.size y5.heap.size y5 p1 s1):=hid (by rw [a8.out];exact ((cb.boxed bn.out.out hg).wide hg.size (nl _)).other rfl rfl rfl rfl rfl rfl);clear hg hk bn cb)
      | (refine w_ld N k.out.out underlying35 ?_)
      | (refine w_ld (w.heap.size+1) k.let' underlying61 ?_))
     have a6:=bg.2.1;have hR:=cf.out;clear cf a8 ci;have a2:=bg.2.2.1;have a:=bg.2.2.2;refine (leadHear_s ps va n p1 s1 l y5 (HT.below k.below) hl au.reads bg.1 a6 hn0 hn1 b0 a2 a).mono ?_;rw [<- hR];rintro e y4 ⟨s4,v4,rfl,ho,ag,hb⟩;have j:Hid (Bx4 w y4 N (zA p s) (zQ l) zF (zA p1 s1)):=k.more hb;have ab:Hid (zO w.heap.size y4.heap.size y4 R.1 s4):=ho.low k.below.size;have m:Hid (y4.ownsRow w.heap.size 61 13 v4 R.2.length (zE yE R.2)):=zN ag k.below.size;clear ho ag hb hR k
     go_wp2_with (first
      | (refine w_ld N j.out.out underlying35 ?_)
      | (refine w_st (w.heap.size+1+1) (zA R.1 s4) j.zero (zJ ab.1) ?_;intro z hg hk hz;have HZ:Hid (Be w z/\Bx z (w.heap.size+1+1) (zA R.1 s4) 35/\zO w.heap.size z.heap.size z R.1 s4/\z.ownsRow w.heap.size 61 13 v4 (R.2).length (zE yE (R.2))):=⟨j.fill hg,hk,(ab.boxed j.zero hg).wide hg.size (nl _),Aa m hg (zH m j.zero (by decide))⟩;clear hg hk hz))
     refine b_pl (.tuple #[.agg (zA R.1 s4),v4]) results193 HZ.2.1 underlying35 ?_;rw [HE.out];exact ⟨s4,v4,rfl,HZ.2.2.1,HZ.2.2.2,HZ.1⟩
    ·have cp:(l.1.1 == 4)=false:=by simpa using hk4
     by_cases hk3:l.1.1=3
     ·have cm:(l.1.1 == 3)=true:=by simpa using hk3
      have HE:Hid (xI (bks ps) n p l=(p,[])):=(by rw [ah.out,if_neg hk2,if_neg hk4,if_pos hk3]:xI (bks ps) n p l=_);clear hk2 hk4 hk3 ah
      go_wp2_with (first
       | (refine w_ld N b.out.out underlying35 ?_)
       | (refine w_st (w.heap.size+1+1) (zA p s1) b.zero (zJ v.1) ?_;intro z hg hk hz;have HZ:Hid (Be w z/\Bx z (w.heap.size+1+1) (zA p s1) 35/\zO w.heap.size z.heap.size z p s1/\z.ownsRow w.heap.size 61 13 ov ([]).length (zE yE ([]))):=⟨b.fill hg,hk,(v.boxed b.zero hg).wide hg.size (nl _),Aa o hg (zH o b.zero (by decide))⟩;clear hg hk hz))
      refine b_pl (.tuple #[.agg (zA p s1),ov]) results193 HZ.2.1 underlying35 ?_;rw [HE.out];exact ⟨s1,ov,rfl,HZ.2.2.1,HZ.2.2.2,HZ.1⟩
     ·have cm:(l.1.1 == 3)=false:=by simpa using hk3
      obtain ⟨fr,b3⟩:=nw l.1.2.1;obtain ⟨vw,ai⟩:=nw l.1.2.2.2.1;obtain ⟨bl,b4⟩:=nw l.1.2.2.2.2;obtain ⟨ld,e1⟩:∃ ld,xQ vw n=ld:=⟨_,rfl⟩;rw [<- ai] at bw;have ca:Hid (∀ x:World,Calls prog 121 #[I U vw,I U n] x fun e w'=>e=.returned (I U ld)/\w'=x):=fun x=>xR e1 (by omega) (by omega) (by omega) (by omega) x
      have b8:=hid bw;have b6:Hid (xI (bks ps) n p l=if fr=ld then yBD (bks ps) n p vw bl else (p,[])):=(by rw [ah.out,if_neg hk2,if_neg hk4,if_neg hk3,<- b3,<- ai,<- b4,e1]:xI (bks ps) n p l=_);have cg:=yX y3;have z1:∀ x:Bw y3,x.to.cell? ⟨w.heap.size+1,1,none⟩=some (I U fr):=fun x=>by rw [b3];exact zB (b.more x.below).let' 1 _ rfl
      have z3:∀ x:Bw y3,x.to.cell? ⟨w.heap.size+1,3,none⟩=some (I U vw):=fun x=>by rw [ai];exact zB (b.more x.below).let' 3 _ rfl
      have ay:=hid ai;have aw:=hid b4;clear bw b3 ai b4 hk2 hk4 hk3 ah
      by_cases hfl:fr=ld
      ·have cl:(fr != ld)=false:=by simpa using hfl
       have bb:Hid (xI (bks ps) n p l=yBD (bks ps) n p vw bl):=(by rw [b6.out,if_pos hfl]:xI (bks ps) n p l=_);clear hfl b6;go_wp2;clear a9 be bk;refine rb ?_;repeat (go_big_quiet_step (first | (go_at_call 121;with_reducible refine zI (ca.out _))))
       refine qnn fun xq=>?_
       have hb:=xq.below;obtain ⟨y4,a7⟩:=nw xq.to;rw [<- a7] at hb ⊢;clear a7 z1 z3 cg;have j:Hid (Bx4 w y4 N (zA p s) (zQ l) zF (zA p s1)):=b.more hb;have ab:Hid (zO w.heap.size y4.heap.size y4 p s1):=(v.below hb).wide hb.size (nl _);have m:Hid (y4.ownsRow w.heap.size 61 13 ov ([]:List LT).length (zE yE [])):=zS o hb;clear hb b v o;have a3:=zB j.let' 3 (I U l.1.2.2.2.1) rfl;rw [<- ay.out] at a3;go_wp2_with (refine w_ld N j.out.out underlying35 ?_)
       obtain ⟨mb,bx⟩:=nw (zEG p 4 vw);refine (yFB p s1 4 vw y4).mono ?_;rw [<- bx];have aj:=hid bx;clear bx;rintro e y5 ⟨rfl,hb⟩;clear a3;have k:Hid (Bx4 w y5 N (zA p s) (zQ l) zF (zA p s1)):=j.more hb;have au:Hid (zO w.heap.size y5.heap.size y5 p s1):=(ab.below hb).wide hb.size (nl _);have ao:Hid (y5.ownsRow w.heap.size 61 13 ov ([]:List LT).length (zE yE [])):=zS m hb;clear hb j ab m
       cases mb with
       | false=>
        have an:Hid (mayH (bks ps) p vw bl=false):=hid (by unfold mayH;rw [<- aj.out];rfl);have d:=k;have ac:=au;have t:=ao;obtain ⟨y7,ce⟩:=nw y5;rw [<- ce] at d ac t ⊢;clear ce k au ao aj;obtain ⟨p1,a⟩:=nw (jN (bks ps) p bl);have az:Hid (yC p1):=hid (by rw [a];exact yCE HS HK af);have a4:=zB d.let' 4 (I U l.1.2.2.2.2) rfl;rw [<- aw.out] at a4;have am:Hid (xI (bks ps) n p l=(p1,[])):=(by rw [bb.out,a];unfold yBD;rw [an.out];rfl:xI (bks ps) n p l=_);go_wp2_with (refine w_ld N d.out.out underlying35 ?_)
        refine (zII ps va p s1 bl y7 (HT.below d.below) HK ac.reads HS af).mono ?_;rw [<- a];rintro e x8 ⟨s8,rfl,ho,hb⟩;have g:Hid (Bx4 w x8 N (zA p s) (zQ l) zF (zA p s1)):=d.more hb;have u:Hid (zO w.heap.size x8.heap.size x8 p1 s8):=ho.low d.below.size;have i:Hid (x8.ownsRow w.heap.size 61 13 ov ([]:List LT).length (zE yE [])):=zS t hb;clear ho hb d ac t a4 a;have HE:=hid am.out
        go_upto_region 17 with (refine w_st N (zA p1 s8) g.out.out (zJ u.1) ?_;intro y9 hg hk hz;have f:Hid (Bx4 w y9 N (zA p s) (zQ l) zF (zA p1 s8)):=g.put hg hk;have aa:Hid (zO w.heap.size y9.heap.size y9 p1 s8):=(u.boxed g.out.out hg).wide hg.size (nl _);have r:Hid (y9.ownsRow w.heap.size 61 13 ov ([]:List LT).length (zE yE [])):=Aa i hg (zH i g.out.out (by decide));clear hg hk hz g u i)
        go_wp2_with (first
         | (refine w_ld N f.out.out underlying35 ?_)
         | (refine w_st (w.heap.size+1+1) (zA p1 s8) f.zero (zJ aa.1) ?_;intro z hg hk hz;have HZ:Hid (Be w z/\Bx z (w.heap.size+1+1) (zA p1 s8) 35/\zO w.heap.size z.heap.size z p1 s8/\z.ownsRow w.heap.size 61 13 ov ([]).length (zE yE ([]))):=⟨f.fill hg,hk,(aa.boxed f.zero hg).wide hg.size (nl _),Aa r hg (zH r f.zero (by decide))⟩;clear hg hk hz))
        refine b_pl (.tuple #[.agg (zA p1 s8),ov]) results193 HZ.2.1 underlying35 ?_;rw [HE.out];exact ⟨s8,ov,rfl,HZ.2.2.1,HZ.2.2.2,HZ.1⟩
       | true=>
        have a4:=zB k.let' 4 (I U l.1.2.2.2.2) rfl;rw [<- aw.out] at a4;have k0:=zB k.out.out 6 (I U p.lock.1) rfl;have k1:=zB k.out.out 7 (I U p.lock.2.1) rfl;have k2:=zB k.out.out 8 (I U p.lock.2.2.1) rfl;have k3:=zB k.out.out 9 (I U p.lock.2.2.2) rfl;go_wp2_with fail
        obtain ⟨sb,b2⟩:=nw (yDA (bks ps) p.lock bl);refine (safeBlock_s ps va p.lock bl y5 (HT.below k.below) hl).mono ?_;rw [<- b2];have ar:=hid b2;clear b2;rintro e y7 ⟨rfl,hb⟩;clear a4 k0 k1 k2 k3;have d:Hid (Bx4 w y7 N (zA p s) (zQ l) zF (zA p s1)):=k.more hb;have ac:Hid (zO w.heap.size y7.heap.size y7 p s1):=(au.below hb).wide hb.size (nl _);have t:Hid (y7.ownsRow w.heap.size 61 13 ov ([]:List LT).length (zE yE [])):=zS ao hb;clear hb k au ao
        cases sb with
        | false=>
         have an:Hid (mayH (bks ps) p vw bl=false):=hid (by unfold mayH;rw [<- aj.out,<- ar.out];rfl);clear aj ar;obtain ⟨p1,a⟩:=nw (jN (bks ps) p bl);have az:Hid (yC p1):=hid (by rw [a];exact yCE HS HK af);have a4:=zB d.let' 4 (I U l.1.2.2.2.2) rfl;rw [<- aw.out] at a4;have am:Hid (xI (bks ps) n p l=(p1,[])):=(by rw [bb.out,a];unfold yBD;rw [an.out];rfl:xI (bks ps) n p l=_);go_wp2_with (refine w_ld N d.out.out underlying35 ?_)
         refine (zII ps va p s1 bl y7 (HT.below d.below) HK ac.reads HS af).mono ?_;rw [<- a];rintro e x8 ⟨s8,rfl,ho,hb⟩;have g:Hid (Bx4 w x8 N (zA p s) (zQ l) zF (zA p s1)):=d.more hb;have u:Hid (zO w.heap.size x8.heap.size x8 p1 s8):=ho.low d.below.size;have i:Hid (x8.ownsRow w.heap.size 61 13 ov ([]:List LT).length (zE yE [])):=zS t hb;clear ho hb d ac t a4 a;have HE:=hid am.out
         go_upto_region 17 with (refine w_st N (zA p1 s8) g.out.out (zJ u.1) ?_;intro y9 hg hk hz;have f:Hid (Bx4 w y9 N (zA p s) (zQ l) zF (zA p1 s8)):=g.put hg hk;have aa:Hid (zO w.heap.size y9.heap.size y9 p1 s8):=(u.boxed g.out.out hg).wide hg.size (nl _);have r:Hid (y9.ownsRow w.heap.size 61 13 ov ([]:List LT).length (zE yE [])):=Aa i hg (zH i g.out.out (by decide));clear hg hk hz g u i)
         go_wp2_with (first
          | (refine w_ld N f.out.out underlying35 ?_)
          | (refine w_st (w.heap.size+1+1) (zA p1 s8) f.zero (zJ aa.1) ?_;intro z hg hk hz;have HZ:Hid (Be w z/\Bx z (w.heap.size+1+1) (zA p1 s8) 35/\zO w.heap.size z.heap.size z p1 s8/\z.ownsRow w.heap.size 61 13 ov ([]).length (zE yE ([]))):=⟨f.fill hg,hk,(aa.boxed f.zero hg).wide hg.size (nl _),Aa r hg (zH r f.zero (by decide))⟩;clear hg hk hz))
         refine b_pl (.tuple #[.agg (zA p1 s8),ov]) results193 HZ.2.1 underlying35 ?_;rw [HE.out];exact ⟨s8,ov,rfl,HZ.2.2.1,HZ.2.2.2,HZ.1⟩
        | true=>
         have a3:=zB d.let' 3 (I U l.1.2.2.2.1) rfl;rw [<- ay.out] at a3;have a1:=zB d.box 1 (I U p.view) rfl
         by_cases hpv:p.view<=vw
         ·have cn:decide (vw ≥ p.view)=true:=decide_eq_true hpv;have an:Hid (mayH (bks ps) p vw bl=true):=hid (by unfold mayH;rw [<- aj.out,<- ar.out,decide_eq_true hpv];rfl);clear aj ar;obtain ⟨p1,a⟩:=nw (jN (bks ps) p bl);have az:Hid (yC p1):=hid (by rw [a];exact yCE HS HK af);have a4:=zB d.let' 4 (I U l.1.2.2.2.2) rfl;rw [<- aw.out] at a4;have am:Hid (xI (bks ps) n p l=votesH n p1 vw bl):=(by rw [bb.out,a];unfold yBD;rw [an.out];rfl:xI (bks ps) n p l=_);go_wp2_with (refine w_ld N d.out.out underlying35 ?_)
          refine (zII ps va p s1 bl y7 (HT.below d.below) HK ac.reads HS af).mono ?_;rw [<- a];rintro e x8 ⟨s8,rfl,ho,hb⟩;have g:Hid (Bx4 w x8 N (zA p s) (zQ l) zF (zA p s1)):=d.more hb;have u:Hid (zO w.heap.size x8.heap.size x8 p1 s8):=ho.low d.below.size;have i:Hid (x8.ownsRow w.heap.size 61 13 ov ([]:List LT).length (zE yE [])):=zS t hb;clear ho hb d ac t a4 a
          go_upto_region 19 with (refine w_st N (zA p1 s8) g.out.out (zJ u.1) ?_;intro y9 hg hk hz;have f:Hid (Bx4 w y9 N (zA p s) (zQ l) zF (zA p1 s8)):=g.put hg hk;have aa:Hid (zO w.heap.size y9.heap.size y9 p1 s8):=(u.boxed g.out.out hg).wide hg.size (nl _);have r:Hid (y9.ownsRow w.heap.size 61 13 ov ([]:List LT).length (zE yE [])):=Aa i hg (zH i g.out.out (by decide));clear hg hk hz g u i)
          obtain ⟨l2,e2⟩:∃ l2,xQ (vw+1) n=l2:=⟨_,rfl⟩;obtain ⟨p2,bh⟩:=nw (yP p1 4 vw bl);obtain ⟨p3,bv⟩:=nw (yI p2 (vw+1));obtain ⟨GL,b7⟩:=nw (zEJ p1 4 vw bl l2);have HE:Hid (xI (bks ps) n p l=(p3,[GL])):=(by rw [am.out,bv,bh,b7,<- e2];rfl:xI (bks ps) n p l=_);have ck:Hid (yC p2):=hid (by rw [bh];exact voted_small az _ _ _);have cq:IntKind.i64.wrap (vw+1)=vw+1:=(by rw [IntKind.wrap_i64];have:=b8.out;omega);refine p_rg (fun _=>true) (fun x=>Bx x (w.heap.size+1) (zQ l) 61) ?_;show zX prog _ _ _ _ _ (10+1) (Array.replicate 11 false) _ _;have hS:Bx y9.drew (w.heap.size+1) (zQ l) 61:=f.let';refine p_pt 0 98 (w.heap.size+1) 3 hS ?_;refine zD 1 99 (I U vw) hS ?_ (hy:=by intro x hx;have c:=zB hx 3 (I U l.1.2.2.2.1) rfl;rw [<- ay.out] at c;go_simp;try rfl);refine p_pt 2 100 (w.heap.size+1) 4 hS ?_;refine zD 3 101 (I U bl) hS ?_ (hy:=by intro x hx;have c:=zB hx 4 (I U l.1.2.2.2.2) rfl;rw [<- aw.out] at c;go_simp;try rfl);refine p_pt 4 102 (w.heap.size+1) 3 hS ?_;refine zD 5 103 (I U vw) hS ?_ (hy:=by intro x hx;have c:=zB hx 3 (I U l.1.2.2.2.1) rfl;rw [<- ay.out] at c;go_simp;try rfl);refine zD 6 104 (I U (vw+1)) hS ?_;refine zD 7 105 (I U n) hS ?_;refine kJ 8 106 121 #[I U (vw+1),I U n] ((xR e2 (by omega) (by omega) (by have:=b8.out;omega) (by have:=b8.out;omega) y9.drew).mono ?_);rintro e x0 ⟨rfl,hw⟩;obtain rfl:=hw.symm;clear hw;refine ⟨_,rfl,fun _=>hS,?_⟩;simp only [pz];refine kJ 9 107 213 #[.pointer (some ⟨N,0,none⟩),I U 4,I U vw,I U bl,I U l2] ((give_s p1 s8 N w.heap.size y9.heap.size 4 vw bl l2 y9.drew (aa.below (br _ _).drew) f.out.out f.below.size az).mono ?_);rw [<- bh,<- b7];rintro e aq ⟨ap,rfl,cc,⟨bm,bq,ho⟩,ag⟩;have hg:y9.grownBy aq (some N):=zP (yG (br _ _).drew) cc;have y:Hid (Bx4 w aq N (zA p s) (zQ l) zF (zA p2 bm)):=f.put hg bq;have bp:Hid (zO w.heap.size aq.heap.size aq p2 bm):=ho;have a0:Hid (aq.ownsRow w.heap.size 61 13 ap [GL].length (zE yE [GL])):=hid (by have h:=zN ag f.below.size;simpa [zE] using h);clear ho ag hg cc bq bh b7 hS f aa r;refine ⟨_,rfl,fun _=>y.let',?_⟩;simp only [pz];refine zD 10 13 ap y.let' ?_;refine p_do ?_;have a3:=zB y.let' 3 (I U l.1.2.2.2.1) rfl;rw [<- ay.out] at a3;go_wp2_with (refine w_ld N y.out.out underlying35 ?_)
          refine (zCB p2 bm (vw+1) aq bp.reads ck).mono ?_;rw [<- bv];rintro e bc ⟨ax,rfl,ho,hb⟩;have ak:Hid (Bx4 w bc N (zA p s) (zQ l) zF (zA p2 bm)):=y.more hb;have bo:Hid (zO w.heap.size bc.heap.size bc p3 ax):=ho.low y.below.size;have a5:Hid (bc.ownsRow w.heap.size 61 13 ap [GL].length (zE yE [GL])):=zS a0 hb;clear ho hb bv y bp a0 a3
          go_wp2_with (first
           | (refine w_ld N ak.out.out underlying35 ?_)
           | (refine w_st (w.heap.size+1+1) (zA p3 ax) ak.zero (zJ bo.1) ?_;intro z hg hk hz;have HZ:Hid (Be w z/\Bx z (w.heap.size+1+1) (zA p3 ax) 35/\zO w.heap.size z.heap.size z p3 ax/\z.ownsRow w.heap.size 61 13 ap ([GL]).length (zE yE ([GL]))):=⟨ak.fill hg,hk,(bo.boxed ak.zero hg).wide hg.size (nl _),Aa a5 hg (zH a5 ak.zero (by decide))⟩;clear hg hk hz))
          refine b_pl (.tuple #[.agg (zA p3 ax),ap]) results193 HZ.2.1 underlying35 ?_;rw [HE.out];exact ⟨ax,ap,rfl,HZ.2.2.1,HZ.2.2.2,HZ.1⟩
         ·have cn:decide (vw ≥ p.view)=false:=decide_eq_false hpv;have an:Hid (mayH (bks ps) p vw bl=false):=hid (by unfold mayH;rw [<- aj.out,<- ar.out,decide_eq_false hpv];rfl);clear aj ar;obtain ⟨p1,a⟩:=nw (jN (bks ps) p bl);have az:Hid (yC p1):=hid (by rw [a];exact yCE HS HK af);have a4:=zB d.let' 4 (I U l.1.2.2.2.2) rfl;rw [<- aw.out] at a4;have am:Hid (xI (bks ps) n p l=(p1,[])):=(by rw [bb.out,a];unfold yBD;rw [an.out];rfl:xI (bks ps) n p l=_);go_wp2_with (refine w_ld N d.out.out underlying35 ?_)
          refine (zII ps va p s1 bl y7 (HT.below d.below) HK ac.reads HS af).mono ?_;rw [<- a];rintro e x8 ⟨s8,rfl,ho,hb⟩;have g:Hid (Bx4 w x8 N (zA p s) (zQ l) zF (zA p s1)):=d.more hb;have u:Hid (zO w.heap.size x8.heap.size x8 p1 s8):=ho.low d.below.size;have i:Hid (x8.ownsRow w.heap.size 61 13 ov ([]:List LT).length (zE yE [])):=zS t hb;clear ho hb d ac t a4 a;have HE:=hid am.out
          go_upto_region 17 with (refine w_st N (zA p1 s8) g.out.out (zJ u.1) ?_;intro y9 hg hk hz;have f:Hid (Bx4 w y9 N (zA p s) (zQ l) zF (zA p1 s8)):=g.put hg hk;have aa:Hid (zO w.heap.size y9.heap.size y9 p1 s8):=(u.boxed g.out.out hg).wide hg.size (nl _);have r:Hid (y9.ownsRow w.heap.size 61 13 ov ([]:List LT).length (zE yE [])):=Aa i hg (zH i g.out.out (by decide));clear hg hk hz g u i)
          go_wp2_with (first
           | (refine w_ld N f.out.out underlying35 ?_)
           | (refine w_st (w.heap.size+1+1) (zA p1 s8) f.zero (zJ aa.1) ?_;intro z hg hk hz;have HZ:Hid (Be w z/\Bx z (w.heap.size+1+1) (zA p1 s8) 35/\zO w.heap.size z.heap.size z p1 s8/\z.ownsRow w.heap.size 61 13 ov ([]).length (zE yE ([]))):=⟨f.fill hg,hk,(aa.boxed f.zero hg).wide hg.size (nl _),Aa r hg (zH r f.zero (by decide))⟩;clear hg hk hz))
          refine b_pl (.tuple #[.agg (zA p1 s8),ov]) results193 HZ.2.1 underlying35 ?_;rw [HE.out];exact ⟨s8,ov,rfl,HZ.2.2.1,HZ.2.2.2,HZ.1⟩
      ·have cl:(fr != ld)=true:=by simpa using hfl
       have HE:Hid (xI (bks ps) n p l=(p,[])):=(by rw [b6.out,if_neg hfl]:xI (bks ps) n p l=_);clear hfl;go_wp2;refine rb ?_;repeat (go_big_quiet_step (first | (go_at_call 121;with_reducible refine zI (ca.out _))))
       refine qnn fun xq=>?_
       have hb:=xq.below;obtain ⟨y4,a7⟩:=nw xq.to;rw [<- a7] at hb ⊢;clear a7 z1 z3 cg a9 be bk;have j:Hid (Bx4 w y4 N (zA p s) (zQ l) zF (zA p s1)):=b.more hb;have ab:Hid (zO w.heap.size y4.heap.size y4 p s1):=(v.below hb).wide hb.size (nl _);have m:Hid (y4.ownsRow w.heap.size 61 13 ov ([]:List LT).length (zE yE [])):=zS o hb;clear hb b v o
       go_wp2_with (first
        | (refine w_ld N j.out.out underlying35 ?_)
        | (refine w_st (w.heap.size+1+1) (zA p s1) j.zero (zJ ab.1) ?_;intro z hg hk hz;have HZ:Hid (Be w z/\Bx z (w.heap.size+1+1) (zA p s1) 35/\zO w.heap.size z.heap.size z p s1/\z.ownsRow w.heap.size 61 13 ov ([]).length (zE yE ([]))):=⟨j.fill hg,hk,(ab.boxed j.zero hg).wide hg.size (nl _),Aa m hg (zH m j.zero (by decide))⟩;clear hg hk hz))
       refine b_pl (.tuple #[.agg (zA p s1),ov]) results193 HZ.2.1 underlying35 ?_;rw [HE.out];exact ⟨s1,ov,rfl,HZ.2.2.1,HZ.2.2.2,HZ.1⟩
  ·have cj:(l.1.2.2.1 != p.id)=true:=by simpa using hto
   have HE:Hid (xI (bks ps) n p l=(p,[])):=(by unfold xI;rw [if_neg (fun h=>hto h.2)]:xI (bks ps) n p l=_);clear ad hto
   go_wp2_with (first
    | (refine w_ld N b.out.out underlying35 ?_)
    | (refine w_st (w.heap.size+1+1) (zA p s1) b.zero (zJ v.1) ?_;intro z hg hk hz;have HZ:Hid (Be w z/\Bx z (w.heap.size+1+1) (zA p s1) 35/\zO w.heap.size z.heap.size z p s1/\z.ownsRow w.heap.size 61 13 ov ([]).length (zE yE ([]))):=⟨b.fill hg,hk,(v.boxed b.zero hg).wide hg.size (nl _),Aa o hg (zH o b.zero (by decide))⟩;clear hg hk hz))
   refine b_pl (.tuple #[.agg (zA p s1),ov]) results193 HZ.2.1 underlying35 ?_;rw [HE.out];exact ⟨s1,ov,rfl,HZ.2.2.1,HZ.2.2.2,HZ.1⟩
end Go.Proofs.YtfnneillakdopacGreatR
