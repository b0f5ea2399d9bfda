/-
  A text of ours: AskS.
-/
import Derived.Test.YtfnneillakdopacGreatRK1
import Derived.Test.YtfnneillakdopacGreatRAskQZ
import Derived.Test.YtfnneillakdopacGreatRK5
set_option maxRecDepth 100000
set_option maxHeartbeats 32000000
namespace Go.Proofs.YtfnneillakdopacGreatR
open _root_.Go.Proofs.Tryz
open Go.Value renaming int->I
open Go.IntKind renaming i64->U
open Go.World.ownsRow renaming kept->Aa
open Go.RowKit Num
def blockH (t:List BK) (p:PE) (l:LT):PE × List LT:=
 if zEG (yI p l.1.2.2.2.1) 1 l.1.2.2.2.1=true/\yDA t (yI p l.1.2.2.2.1).lock l.1.2.2.2.2=true then (yP (yI p l.1.2.2.2.1) 1 l.1.2.2.2.1 l.1.2.2.2.2,[zEJ (yI p l.1.2.2.2.1) 1 l.1.2.2.2.1 l.1.2.2.2.2 l.1.2.1]) else (yI p l.1.2.2.2.1,[])
def qC (t:List BK) (n:Int) (p:PE) (l:LT):PE × List LT:=
 if qI t n l=true/\l.1.2.2.1=p.id then
  (if l.1.1=2∨l.1.1=4 then kZ t n p l
   else if l.1.2.1=xQ l.1.2.2.2.1 n/\¬ l.1.2.2.2.1 < p.view then (if l.1.1=3 then qcH t n p l else blockH t p l) else (p,[]))
 else (p,[])
theorem askHear_s (ps:TL) (va:Value) (n:Int) (p:PE) (s:PV) (l:LT) (w:World) (hT:jB w va ps) (hl:(ps.length:Int)<=1048576) (hk:okT (bks ps)) (hln:jZ p+wtB (bks ps)<=1048576) (hR:jS w p s) (hs:yC p) (hvl:(p.votes.length:Int)+1<=1048576)
  (hn0:0<=n) (hn1:n<=7) (hq:fitQ l.2.1) (hp0:-9223372036854775808<=p.view) (hp1:p.view < 9223372036854775807) :
  Calls prog 194 #[va,I U n,yZ p s,.agg (zQ l)] w fun e w'=>∃ s' v',e=.returned (.tuple #[yZ (qC (bks ps) n p l).1 s',v'])/\zO w.heap.size w'.heap.size w' (qC (bks ps) n p l).1 s'/\w'.ownsRow w.heap.size 61 13 v' (qC (bks ps) n p l).2.length (zE yE (qC (bks ps) n p l).2)/\Be w w':=by
 have HT:=hid hT;have HR:=hid hR;have HS:=hid hs;have bb:=hid hq;have HK:=hid hk;have bx:=hid hln;clear hk hln;clear hT hR hs hq;obtain ⟨W,hW⟩:=nw (((w.alloc (.cells (zA p s) 35)).alloc (.cells (zQ l) 61)).alloc (.cells zF 35))
 have HC:Hid (Be w W/\Bx W w.heap.size (zA p s) 35/\Bx W (w.heap.size+1) (zQ l) 61/\Bx W (w.heap.size+1+1) zF 35):=by
  rw [hW];exact ⟨ba (ba (ba (br _ _) _) _) _,zJH w _ _ _⟩
 have v:Hid (W.heap.size=w.heap.size+1+1+1):=hid (by rw [hW];simp);unfold zF at hW;go_enter func194,ntmps194;go_wp2_with (rw [<- hW];clear hW;refine w_ld w.heap.size HC.2.1 underlying35 ?_)
 refine (zHJ p s W (HR.below HC.1) HS).mono ?_;rintro e x1 ⟨s1,rfl,ho,hb⟩;have a0:Hid (zO W.heap.size x1.heap.size x1 p s1):=ho.toD;have r:Hid (Be W x1):=hb;clear ho hb;obtain ⟨N,hN⟩:=nw x1.heap.size
 go_upto_region 3 with (first
  | (refine w_st x1.heap.size (zA p s1) (heap_alloc_new x1 _) (zJ a0.1) ?_;intro y1 hg hk hz;have ac:Be x1 y1:=yB hg;have bd:Hid (Bx4 w y1 N (zA p s) (zQ l) zF (zA p s1)):=⟨bt HC.1 (bt r ac),(ac.block _ (by have:=r.size;have:=v.out;omega)).trans ((r.block _ (by have:=v.out;omega)).trans HC.2.1),(ac.block _ (by have:=r.size;have:=v.out;omega)).trans ((r.block _ (by have:=v.out;omega)).trans HC.2.2.1),(ac.block _ (by have:=r.size;have:=v.out;omega)).trans ((r.block _ (by have:=v.out;omega)).trans HC.2.2.2),(by rw [hN];exact hk),(by have:=r.size;have:=v.out;omega)⟩;have bp:Hid (zO w.heap.size y1.heap.size y1 p s1):=((a0.below ac).wide (Nat.le_of_lt (gl hk)) (nl _)).low HC.1.size;clear hg hk hz ac a0 r))
 obtain ⟨y2,ao⟩:=nw (y1.alloc (.cells #[] 61));rw [<- ao];have an:Be y1 y2:=by rw [ao];exact (br _ _).alloc (nl _) _
 have ap:Hid (Bx4 w y2 N (zA p s) (zQ l) zF (zA p s1)):=bd.more an;have bg:Hid (zO w.heap.size y2.heap.size y2 p s1):=(bp.below an).wide an.size (nl _);have a8:Hid (y2.ownsRow w.heap.size 61 13 (.slice (some ⟨y1.heap.size,0,none⟩) 0 0) ([]:List LT).length (zE yE [])):=hid (by rw [ao];exact zN (yH y1 61 13) bd.below.size);obtain ⟨ov,bj⟩:=nw (Value.slice (some ⟨y1.heap.size,0,none⟩) 0 0);rw [<- bj] at a8 ⊢;clear an ao bj bd bp HC v;rw [<- hN];clear hN;go_wp2_with (refine w_ld (w.heap.size+1) ap.let' underlying61 ?_)
 refine (letterOk_s ps va n l y2 (HT.below ap.below) hl hn0 hn1 bb).mono ?_;rintro e y3 ⟨rfl,hb⟩;have b:Hid (Bx4 w y3 N (zA p s) (zQ l) zF (zA p s1)):=ap.more hb;have k:Hid (zO w.heap.size y3.heap.size y3 p s1):=(bg.below hb).wide hb.size (nl _);have d:Hid (y3.ownsRow w.heap.size 61 13 ov ([]:List LT).length (zE yE [])):=zS a8 hb;clear hb ap bg a8;have ae:=zB b.box 0 (I U p.id) rfl;have ai:=zB b.let' 2 (I U l.1.2.2.1) rfl;have t:=zB b.let' 0 (I U l.1.1) rfl
 cases g:qI (bks ps) n l with
 | false=>
  have HE:Hid (qC (bks ps) n p l=(p,[])):=(by unfold qC;rw [if_neg (fun h=>by rw [g] at h;exact absurd h.1 (by decide))]:qC (bks ps) n p l=_);clear g
  go_wp2_with (first
   | (refine w_ld N b.out.out underlying35 ?_)
   | (refine w_st (w.heap.size+1+1) (zA p s1) b.zero (zJ k.1) ?_;intro z hg hk hz;have HZ:Hid (Be w z/\Bx z (w.heap.size+1+1) (zA p s1) 35/\zO w.heap.size z.heap.size z p s1/\z.ownsRow w.heap.size 61 13 ov ([]).length (zE yE ([]))):=⟨b.fill hg,hk,(k.boxed b.zero hg).wide hg.size (nl _),Aa d hg (zH d b.zero (by decide))⟩;clear hg hk hz))
  refine b_pl (.tuple #[.agg (zA p s1),ov]) results194 HZ.2.1 underlying35 ?_;rw [HE.out];exact ⟨s1,ov,rfl,HZ.2.2.1,HZ.2.2.2,HZ.1⟩
 | true=>
  have a7:=lok_view g
  by_cases hto:l.1.2.2.1=p.id
  ·have bz:(l.1.2.2.1 != p.id)=false:=by simpa using hto
   by_cases hk2:l.1.1=2
   ·have b4:(l.1.1 == 2)=true:=by simpa using hk2
    have o:Hid (qC (bks ps) n p l=kZ (bks ps) n p l):=(by unfold qC;rw [if_pos ⟨g,hto⟩,if_pos (Or.inl hk2)]:qC (bks ps) n p l=_);clear g hto hk2;obtain ⟨R,hR⟩:=nw (kZ (bks ps) n p l);have HE:Hid (qC (bks ps) n p l=R):=hid (by rw [o.out,hR])
    go_wp2_with (first
     | (refine w_ld w.heap.size b.box underlying35 ?_)
     | (refine w_ld (w.heap.size+1) b.let' underlying61 ?_))
    refine (leadHear_s ps va n p s l y3 (HT.below b.below) hl (HR.below b.below) HS hvl hn0 hn1 bb hp0 hp1).mono ?_;rw [<- hR];rintro e y4 ⟨s4,v4,rfl,ho,m,hb⟩;have a:Hid (Bx4 w y4 N (zA p s) (zQ l) zF (zA p s1)):=b.more hb;have f:Hid (zO w.heap.size y4.heap.size y4 R.1 s4):=ho.low b.below.size;have c:Hid (y4.ownsRow w.heap.size 61 13 v4 R.2.length (zE yE R.2)):=zN m b.below.size;clear ho m hb hR b k d ae ai t o
    go_wp2_with (first
     | (refine w_ld N a.out.out underlying35 ?_)
     | (refine w_st (w.heap.size+1+1) (zA R.1 s4) a.zero (zJ f.1) ?_;intro z hg hk hz;have HZ:Hid (Be w z/\Bx z (w.heap.size+1+1) (zA R.1 s4) 35/\zO w.heap.size z.heap.size z R.1 s4/\z.ownsRow w.heap.size 61 13 v4 (R.2).length (zE yE (R.2))):=⟨a.fill hg,hk,(f.boxed a.zero hg).wide hg.size (nl _),Aa c hg (zH c a.zero (by decide))⟩;clear hg hk hz))
    refine b_pl (.tuple #[.agg (zA R.1 s4),v4]) results194 HZ.2.1 underlying35 ?_;rw [HE.out];exact ⟨s4,v4,rfl,HZ.2.2.1,HZ.2.2.2,HZ.1⟩
   ·have b4:(l.1.1 == 2)=false:=by simpa using hk2
    by_cases hk4:l.1.1=4
    ·have b5:(l.1.1 == 4)=true:=by simpa using hk4
     have o:Hid (qC (bks ps) n p l=kZ (bks ps) n p l):=(by unfold qC;rw [if_pos ⟨g,hto⟩,if_pos (Or.inr hk4)]:qC (bks ps) n p l=_);clear g hto hk2 hk4;obtain ⟨R,hR⟩:=nw (kZ (bks ps) n p l);have HE:Hid (qC (bks ps) n p l=R):=hid (by rw [o.out,hR])
     go_wp2_with (first
      | (refine w_ld w.heap.size b.box underlying35 ?_)
      | (refine w_ld (w.heap.size+1) b.let' underlying61 ?_))
     refine (leadHear_s ps va n p s l y3 (HT.below b.below) hl (HR.below b.below) HS hvl hn0 hn1 bb hp0 hp1).mono ?_;rw [<- hR];rintro e y4 ⟨s4,v4,rfl,ho,m,hb⟩;have a:Hid (Bx4 w y4 N (zA p s) (zQ l) zF (zA p s1)):=b.more hb;have f:Hid (zO w.heap.size y4.heap.size y4 R.1 s4):=ho.low b.below.size;have c:Hid (y4.ownsRow w.heap.size 61 13 v4 R.2.length (zE yE R.2)):=zN m b.below.size;clear ho m hb hR b k d ae ai t o
     go_wp2_with (first
      | (refine w_ld N a.out.out underlying35 ?_)
      | (refine w_st (w.heap.size+1+1) (zA R.1 s4) a.zero (zJ f.1) ?_;intro z hg hk hz;have HZ:Hid (Be w z/\Bx z (w.heap.size+1+1) (zA R.1 s4) 35/\zO w.heap.size z.heap.size z R.1 s4/\z.ownsRow w.heap.size 61 13 v4 (R.2).length (zE yE (R.2))):=⟨a.fill hg,hk,(f.boxed a.zero hg).wide hg.size (nl _),Aa c hg (zH c a.zero (by decide))⟩;clear hg hk hz))
     refine b_pl (.tuple #[.agg (zA R.1 s4),v4]) results194 HZ.2.1 underlying35 ?_;rw [HE.out];exact ⟨s4,v4,rfl,HZ.2.2.1,HZ.2.2.2,HZ.1⟩
    ·have b5:(l.1.1 == 4)=false:=by simpa using hk4
     have o:Hid (qC (bks ps) n p l=if l.1.2.1=xQ l.1.2.2.2.1 n/\¬ l.1.2.2.2.1 < p.view then (if l.1.1=3 then qcH (bks ps) n p l else blockH (bks ps) p l) else (p,[])):=(by unfold qC;rw [if_pos ⟨g,hto⟩,if_neg (fun h=>h.elim hk2 hk4)]:qC (bks ps) n p l=_);clear g hto hk2 hk4;obtain ⟨fr,ar⟩:=nw l.1.2.1;obtain ⟨vw,u⟩:=nw l.1.2.2.2.1;obtain ⟨ld,e1⟩:∃ ld,xQ vw n=ld:=⟨_,rfl⟩;rw [<- u] at a7;have a2:Hid (∀ x:World,Calls prog 121 #[I U vw,I U n] x fun e w'=>e=.returned (I U ld)/\w'=x):=fun x=>xR e1 (by omega) (by omega) (by omega) (by omega) x
     have bv:=hid a7;clear a7;rw [<- ar,<- u,e1] at o;have bf:=yX y3;have y1:∀ x:Bw y3,x.to.cell? ⟨w.heap.size,1,none⟩=some (I U p.view):=fun x=>zB (b.more x.below).box 1 _ rfl
     have z1:∀ x:Bw y3,x.to.cell? ⟨w.heap.size+1,1,none⟩=some (I U fr):=fun x=>by rw [ar];exact zB (b.more x.below).let' 1 _ rfl
     have z3:∀ x:Bw y3,x.to.cell? ⟨w.heap.size+1,3,none⟩=some (I U vw):=fun x=>by rw [u];exact zB (b.more x.below).let' 3 _ rfl
     have bu:=hid ar;have ab:=hid u;clear ar u
     by_cases hfl:fr=ld
     ·have b0:(fr != ld)=false:=by simpa using hfl
      have b2:decide (fr=ld)=true:=decide_eq_true hfl
      by_cases hvl2:vw < p.view
      ·have b3:decide (vw < p.view)=true:=decide_eq_true hvl2;have HE:Hid (qC (bks ps) n p l=(p,[])):=(by rw [o.out,if_neg (fun h=>h.2 hvl2)]:qC (bks ps) n p l=_);clear hfl;go_wp2;refine rb ?_;repeat (go_big_quiet_step (first | (go_at_call 121;with_reducible refine zI (a2.out _))))
       refine qnn fun xq=>?_
       have a:Hid (Bx4 w xq.to N (zA p s) (zQ l) zF (zA p s1)):=b.more xq.below;have f:Hid (zO w.heap.size xq.to.heap.size xq.to p s1):=(k.below xq.below).wide xq.below.size (nl _);have c:Hid (xq.to.ownsRow w.heap.size 61 13 ov ([]:List LT).length (zE yE [])):=zS d xq.below;clear y1 z1 z3 bf b k d ae ai t
       go_wp2_with (first
        | (refine w_ld N a.out.out underlying35 ?_)
        | (refine w_st (w.heap.size+1+1) (zA p s1) a.zero (zJ f.1) ?_;intro z hg hk hz;have HZ:Hid (Be w z/\Bx z (w.heap.size+1+1) (zA p s1) 35/\zO w.heap.size z.heap.size z p s1/\z.ownsRow w.heap.size 61 13 ov ([]).length (zE yE ([]))):=⟨a.fill hg,hk,(f.boxed a.zero hg).wide hg.size (nl _),Aa c hg (zH c a.zero (by decide))⟩;clear hg hk hz))
       refine b_pl (.tuple #[.agg (zA p s1),ov]) results194 HZ.2.1 underlying35 ?_;rw [HE.out];exact ⟨s1,ov,rfl,HZ.2.2.1,HZ.2.2.2,HZ.1⟩
      ·have b3:decide (vw < p.view)=false:=decide_eq_false hvl2;have au:Hid (qC (bks ps) n p l=if l.1.1=3 then qcH (bks ps) n p l else blockH (bks ps) p l):=(by rw [o.out,if_pos ⟨hfl,hvl2⟩]:qC (bks ps) n p l=_);clear hfl;go_wp2;clear t ae ai;refine rb ?_;repeat (go_big_quiet_step (first | (go_at_call 121;with_reducible refine zI (a2.out _))))
       refine qnn fun xq=>?_
       have a:Hid (Bx4 w xq.to N (zA p s) (zQ l) zF (zA p s1)):=b.more xq.below;have f:Hid (zO w.heap.size xq.to.heap.size xq.to p s1):=(k.below xq.below).wide xq.below.size (nl _);have c:Hid (xq.to.ownsRow w.heap.size 61 13 ov ([]:List LT).length (zE yE [])):=zS d xq.below;obtain ⟨y4,bq⟩:=nw xq.to;rw [<- bq] at a f c ⊢;clear bq y1 z1 z3 bf b k d o;have t:=zB a.let' 0 (I U l.1.1) rfl
       by_cases hk3:l.1.1=3
       ·have b1:(l.1.1 == 3)=true:=by simpa using hk3
        obtain ⟨R,hR⟩:=nw (qcH (bks ps) n p l);have HE:Hid (qC (bks ps) n p l=R):=hid (by rw [au.out,if_pos hk3,hR]);clear hk3 au;go_wp2_with (refine w_ld (w.heap.size+1) a.let' underlying61 ?_)
        refine (qc_p ps va p s1 N w.heap.size y4.heap.size n l y4 HK f a.out.out a.below.size HS bx (fun x hg=>HT.below (a.below.grown hg a.below.size (qkk (by have:=a.far;omega)))) hn0 hn1 (by rw [<- ab.out];have:=bv.out;omega) (by rw [<- ab.out];have:=bv.out;omega) hp0 (by omega)).mono ?_;rw [<- hR];rintro e y5 ⟨v5,rfl,hg,⟨s5,bm,ho⟩,m⟩;have aj:Hid (Bx4 w y5 N (zA p s) (zQ l) zF (zA R.1 s5)):=a.put hg bm;have bk:Hid (zO w.heap.size y5.heap.size y5 R.1 s5):=ho;have ay:Hid (y5.ownsRow w.heap.size 61 13 v5 R.2.length (zE yE R.2)):=zN m a.below.size;clear ho m hg bm hR a f c t
        go_wp2_with (first
         | (refine w_ld N aj.out.out underlying35 ?_)
         | (refine w_st (w.heap.size+1+1) (zA R.1 s5) aj.zero (zJ bk.1) ?_;intro z hg hk hz;have HZ:Hid (Be w z/\Bx z (w.heap.size+1+1) (zA R.1 s5) 35/\zO w.heap.size z.heap.size z R.1 s5/\z.ownsRow w.heap.size 61 13 v5 (R.2).length (zE yE (R.2))):=⟨aj.fill hg,hk,(bk.boxed aj.zero hg).wide hg.size (nl _),Aa ay hg (zH ay aj.zero (by decide))⟩;clear hg hk hz))
        refine b_pl (.tuple #[.agg (zA R.1 s5),v5]) results194 HZ.2.1 underlying35 ?_;rw [HE.out];exact ⟨s5,v5,rfl,HZ.2.2.1,HZ.2.2.2,HZ.1⟩
       ·have b1:(l.1.1 == 3)=false:=by simpa using hk3
        obtain ⟨bl,be⟩:=nw l.1.2.2.2.2;obtain ⟨p1,y⟩:=nw (yI p vw);have a5:Hid (qC (bks ps) n p l=if zEG p1 1 vw=true/\yDA (bks ps) p1.lock bl=true then (yP p1 1 vw bl,[zEJ p1 1 vw bl fr]) else (p1,[])):=(by rw [au.out,if_neg hk3,be,y,ab.out,bu.out];rfl:qC (bks ps) n p l=_);have bo:=hid be;clear be;have bw:Hid (yC p1):=hid (by rw [y];exact zHA HS _);have a3:=zB a.let' 3 (I U l.1.2.2.2.1) rfl;rw [<- ab.out] at a3;clear hk3 au;go_wp2_with (refine w_ld N a.out.out underlying35 ?_)
        refine (zCB p s1 vw y4 f.reads HS).mono ?_;rw [<- y];rintro e x5 ⟨s5,rfl,ho,hb⟩;have ak:Hid (Bx4 w x5 N (zA p s) (zQ l) zF (zA p s1)):=a.more hb;have a6:Hid (zO w.heap.size x5.heap.size x5 p1 s5):=ho.low a.below.size;have ag:Hid (x5.ownsRow w.heap.size 61 13 ov ([]:List LT).length (zE yE [])):=zS c hb;clear ho hb a f c a3 t y;obtain ⟨mb,ah⟩:=nw (zEG p1 1 vw)
        go_upto_region 13 with (refine w_st N (zA p1 s5) ak.out.out (zJ a6.1) ?_;intro y6 hg hk hz;have aq:Hid (Bx4 w y6 N (zA p s) (zQ l) zF (zA p1 s5)):=ak.put hg hk;have bn:Hid (zO w.heap.size y6.heap.size y6 p1 s5):=(a6.boxed ak.out.out hg).wide hg.size (nl _);have az:Hid (y6.ownsRow w.heap.size 61 13 ov ([]:List LT).length (zE yE [])):=Aa ag hg (zH ag ak.out.out (by decide));clear hg hk hz ak a6 ag)
        have a3:=zB aq.let' 3 (I U l.1.2.2.2.1) rfl;rw [<- ab.out] at a3;go_wp2_with (refine w_ld N aq.out.out underlying35 ?_)
        refine (yFB p1 s5 1 vw y6).mono ?_;rw [<- ah];rintro e y7 ⟨rfl,hb⟩;have j:Hid (Bx4 w y7 N (zA p s) (zQ l) zF (zA p1 s5)):=aq.more hb;have av:Hid (zO w.heap.size y7.heap.size y7 p1 s5):=(bn.below hb).wide hb.size (nl _);have aa:Hid (y7.ownsRow w.heap.size 61 13 ov ([]:List LT).length (zE yE [])):=zS az hb;clear hb aq bn az a3
        cases mb with
        | false=>
         have HE:Hid (qC (bks ps) n p l=(p1,[])):=(by rw [a5.out,if_neg (fun h=>by rw [<- ah] at h;exact absurd h.1 (by decide))]:qC (bks ps) n p l=_);clear ah
         go_wp2_with (first
          | (refine w_ld N j.out.out underlying35 ?_)
          | (refine w_st (w.heap.size+1+1) (zA p1 s5) j.zero (zJ av.1) ?_;intro z hg hk hz;have HZ:Hid (Be w z/\Bx z (w.heap.size+1+1) (zA p1 s5) 35/\zO w.heap.size z.heap.size z p1 s5/\z.ownsRow w.heap.size 61 13 ov ([]).length (zE yE ([]))):=⟨j.fill hg,hk,(av.boxed j.zero hg).wide hg.size (nl _),Aa aa hg (zH aa j.zero (by decide))⟩;clear hg hk hz))
         refine b_pl (.tuple #[.agg (zA p1 s5),ov]) results194 HZ.2.1 underlying35 ?_;rw [HE.out];exact ⟨s5,ov,rfl,HZ.2.2.1,HZ.2.2.2,HZ.1⟩
        | true=>
         obtain ⟨sb,aw⟩:=nw (yDA (bks ps) p1.lock bl);have af:=hid aw;have bc:=hid ah;clear ah aw;have a4:=zB j.let' 4 (I U l.1.2.2.2.2) rfl;rw [<- bo.out] at a4;have k0:=zB j.out.out 6 (I U p1.lock.1) rfl;have k1:=zB j.out.out 7 (I U p1.lock.2.1) rfl;have k2:=zB j.out.out 8 (I U p1.lock.2.2.1) rfl;have k3:=zB j.out.out 9 (I U p1.lock.2.2.2) rfl;go_wp2_with fail
         refine (safeBlock_s ps va p1.lock bl y7 (HT.below j.below) hl).mono ?_;rw [<- af.out];rintro e y8 ⟨rfl,hb⟩;have i:Hid (Bx4 w y8 N (zA p s) (zQ l) zF (zA p1 s5)):=j.more hb;have am:Hid (zO w.heap.size y8.heap.size y8 p1 s5):=(av.below hb).wide hb.size (nl _);have ad:Hid (y8.ownsRow w.heap.size 61 13 ov ([]:List LT).length (zE yE [])):=zS aa hb;clear hb j av aa a4 k0 k1 k2 k3
         cases sb with
         | false=>
          have HE:Hid (qC (bks ps) n p l=(p1,[])):=(by rw [a5.out,if_neg (fun h=>by rw [<- af.out] at h;exact absurd h.2 (by decide))]:qC (bks ps) n p l=_);clear bc af
          go_wp2_with (first
           | (refine w_ld N i.out.out underlying35 ?_)
           | (refine w_st (w.heap.size+1+1) (zA p1 s5) i.zero (zJ am.1) ?_;intro z hg hk hz;have HZ:Hid (Be w z/\Bx z (w.heap.size+1+1) (zA p1 s5) 35/\zO w.heap.size z.heap.size z p1 s5/\z.ownsRow w.heap.size 61 13 ov ([]).length (zE yE ([]))):=⟨i.fill hg,hk,(am.boxed i.zero hg).wide hg.size (nl _),Aa ad hg (zH ad i.zero (by decide))⟩;clear hg hk hz))
          refine b_pl (.tuple #[.agg (zA p1 s5),ov]) results194 HZ.2.1 underlying35 ?_;rw [HE.out];exact ⟨s5,ov,rfl,HZ.2.2.1,HZ.2.2.2,HZ.1⟩
         | true=>
          obtain ⟨p2,a9⟩:=nw (yP p1 1 vw bl);have HE:Hid (qC (bks ps) n p l=(p2,[zEJ p1 1 vw bl fr])):=(by rw [a5.out,if_pos ⟨bc.symm,af.symm⟩,a9]:qC (bks ps) n p l=_);clear bc af;have a3:=zB i.let' 3 (I U l.1.2.2.2.1) rfl;rw [<- ab.out] at a3;have a4:=zB i.let' 4 (I U l.1.2.2.2.2) rfl;rw [<- bo.out] at a4;have a1:=zB i.let' 1 (I U l.1.2.1) rfl;rw [<- bu.out] at a1;go_wp2_with fail
          refine (give_s p1 s5 N w.heap.size y8.heap.size 1 vw bl fr y8 am i.out.out i.below.size bw).mono ?_;rw [<- a9];rintro e y9 ⟨v9,rfl,hg,⟨s9,bh,ho⟩,m⟩;have al:Hid (Bx4 w y9 N (zA p s) (zQ l) zF (zA p2 s9)):=i.put hg bh;have bi:Hid (zO w.heap.size y9.heap.size y9 p2 s9):=ho;have ax:Hid (y9.ownsRow w.heap.size 61 13 v9 [zEJ p1 1 vw bl fr].length (zE yE [zEJ p1 1 vw bl fr])):=hid (by have h:=zN m i.below.size;simpa [zE] using h);clear ho m hg bh a9 i am ad a1 a3 a4
          go_wp2_with (first
           | (refine w_ld N al.out.out underlying35 ?_)
           | (refine w_st (w.heap.size+1+1) (zA p2 s9) al.zero (zJ bi.1) ?_;intro z hg hk hz;have HZ:Hid (Be w z/\Bx z (w.heap.size+1+1) (zA p2 s9) 35/\zO w.heap.size z.heap.size z p2 s9/\z.ownsRow w.heap.size 61 13 v9 ([zEJ p1 1 vw bl fr]).length (zE yE ([zEJ p1 1 vw bl fr]))):=⟨al.fill hg,hk,(bi.boxed al.zero hg).wide hg.size (nl _),Aa ax hg (zH ax al.zero (by decide))⟩;clear hg hk hz))
          refine b_pl (.tuple #[.agg (zA p2 s9),v9]) results194 HZ.2.1 underlying35 ?_;rw [HE.out];exact ⟨s9,v9,rfl,HZ.2.2.1,HZ.2.2.2,HZ.1⟩
     ·have b0:(fr != ld)=true:=by simpa using hfl
      have b2:decide (fr=ld)=false:=decide_eq_false hfl;have HE:Hid (qC (bks ps) n p l=(p,[])):=(by rw [o.out,if_neg (fun h=>hfl h.1)]:qC (bks ps) n p l=_);clear hfl;go_wp2;refine rb ?_;repeat (go_big_quiet_step (first | (go_at_call 121;with_reducible refine zI (a2.out _))))
      refine qnn fun xq=>?_
      have a:Hid (Bx4 w xq.to N (zA p s) (zQ l) zF (zA p s1)):=b.more xq.below;have f:Hid (zO w.heap.size xq.to.heap.size xq.to p s1):=(k.below xq.below).wide xq.below.size (nl _);have c:Hid (xq.to.ownsRow w.heap.size 61 13 ov ([]:List LT).length (zE yE [])):=zS d xq.below;clear y1 z1 z3 bf b k d ae ai t
      go_wp2_with (first
       | (refine w_ld N a.out.out underlying35 ?_)
       | (refine w_st (w.heap.size+1+1) (zA p s1) a.zero (zJ f.1) ?_;intro z hg hk hz;have HZ:Hid (Be w z/\Bx z (w.heap.size+1+1) (zA p s1) 35/\zO w.heap.size z.heap.size z p s1/\z.ownsRow w.heap.size 61 13 ov ([]).length (zE yE ([]))):=⟨a.fill hg,hk,(f.boxed a.zero hg).wide hg.size (nl _),Aa c hg (zH c a.zero (by decide))⟩;clear hg hk hz))
      refine b_pl (.tuple #[.agg (zA p s1),ov]) results194 HZ.2.1 underlying35 ?_;rw [HE.out];exact ⟨s1,ov,rfl,HZ.2.2.1,HZ.2.2.2,HZ.1⟩
  ·have bz:(l.1.2.2.1 != p.id)=true:=by simpa using hto
   have HE:Hid (qC (bks ps) n p l=(p,[])):=(by unfold qC;rw [if_neg (fun h=>hto h.2)]:qC (bks ps) n p l=_);clear g hto
   go_wp2_with (first
    | (refine w_ld N b.out.out underlying35 ?_)
    | (refine w_st (w.heap.size+1+1) (zA p s1) b.zero (zJ k.1) ?_;intro z hg hk hz;have HZ:Hid (Be w z/\Bx z (w.heap.size+1+1) (zA p s1) 35/\zO w.heap.size z.heap.size z p s1/\z.ownsRow w.heap.size 61 13 ov ([]).length (zE yE ([]))):=⟨b.fill hg,hk,(k.boxed b.zero hg).wide hg.size (nl _),Aa d hg (zH d b.zero (by decide))⟩;clear hg hk hz))
   refine b_pl (.tuple #[.agg (zA p s1),ov]) results194 HZ.2.1 underlying35 ?_;rw [HE.out];exact ⟨s1,ov,rfl,HZ.2.2.1,HZ.2.2.2,HZ.1⟩
end Go.Proofs.YtfnneillakdopacGreatR
