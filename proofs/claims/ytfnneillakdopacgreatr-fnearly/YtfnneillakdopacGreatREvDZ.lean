/-
  A text of ours: EvD.
-/
import Derived.Test.YtfnneillakdopacGreatRK1
import Derived.Test.YtfnneillakdopacGreatRK10
set_option maxRecDepth 100000
set_option maxHeartbeats 32000000
namespace Go.Proofs.YtfnneillakdopacGreatR
open _root_.Go.Proofs.Tryz
open Go.Value renaming int->I
open Go.IntKind renaming i64->U
open Go.RowKit Num
variable {c:CU} {s:CW} {B b cap hi len lo off:Nat} {ao:Option Addr} {w y z:World}
structure EvB (w y:World) (B lo hi:Nat) (ao:Option Addr) (len cap b off:Nat) (c:CU) (s:CW):Prop where
 st:St y B ao len cap b off
 box:Bx y w.heap.size (zR c s) 124
 out:Bx y (w.heap.size+1) (evA (⟨0,0,0,0,(0,(⟨#[]⟩:ByteArray),0)⟩:EV)) 172
 own:xG lo hi y c s
 gr:w.grownBy y (some B)
 hB:B < w.heap.size
 hlo:B < lo
 bl:0 < len->b < w.heap.size
theorem yAC {k a t n:Int} {cm:CM} (ha:0<=a/\a<=1000) (ht:0<=t/\t<=1000) (hn:0<=n/\n<=1000) (hk:k=1->zAF cm=true) (hs:(cm.2.1.size:Int)<=3):evFit ⟨k,a,t,n,cm⟩:=⟨ha,ht,hn,hk,hs⟩
theorem EvB.draw (h:EvB w y B lo hi ao len cap b off c s) (hs:St z B ao len cap b off) (hg:y.grownBy z (some B)):EvB w z B lo hi ao len cap b off c s:=
 ⟨hs,gk hg h.box (qsn (by have:=h.hB;omega)),gk hg h.out (qsn (by have:=h.hB;omega)),h.own.frs (FrS.of_grown hg (B:=fun k=>k=B) (fun k e=>by cases e;rfl)) (fun i g hi hp e=>by have:=h.own.lim i g hi hp;have:=h.hlo;omega),zP h.gr hg,h.hB,h.hlo,h.bl⟩
theorem EvB.more (h:EvB w y B lo hi ao len cap b off c s) (hb:Be y z):EvB w z B lo hi ao len cap b off c s:=
 ⟨h.st.below hb,bk hb h.box,bk hb h.out,h.own.below hb,zP h.gr (yG hb),h.hB,h.hlo,h.bl⟩
theorem EvB.last {A:Array Value} (h:EvB w y B lo hi ao len cap b off c s) (hg:y.grownBy z (some (w.heap.size+1))) (hk:Bx z (w.heap.size+1) A 172):Bx z (w.heap.size+1) A 172/\St z B ao len cap b off/\w.grownBy z (some B):=
 ⟨hk,h.st.other hg (by have:=h.hB;omega) (fun hl e=>by have:=h.bl hl;omega),yT h.gr (by omega) hg⟩
theorem event_st (c:CU) (s:CW) (h:St w B ao len cap b off) (hown:xG lo hi w c s) (hB:B < lo) (hbl:0 < len->b < w.heap.size) (hn:c.n=4) (hp:c.peers.length=4) (hnet:c.net.length<=60) (hg:∀ p∈c.peers,yDG p) :
  Calls prog 124 #[.pointer (some ⟨B,0,none⟩),clusV c s] w fun r w'=>∃ e:EV,r=.returned (.agg (evA e))/\evFit e/\St w' B ao len cap b off/\w.grownBy w' (some B):=by
 have a8:=hid hg;have bm:Hid (B < w.heap.size):=h.cur.lt;obtain ⟨W,hW⟩:=nw ((w.alloc (.cells (zR c s) 124)).alloc (.cells #[I U 0,I U 0,I U 0,I U 0,I U 0,.string ⟨#[]⟩,I U 0] 172))
 have HW:Hid (EvB w W B lo hi ao len cap b off c s):=(by
  have hb:Be w W:=by rw [hW];exact ba (ba (br _ _) _) _
  have h2:=qK w (.cells (zR c s) 124) (.cells #[I U 0,I U 0,I U 0,I U 0,I U 0,.string ⟨#[]⟩,I U 0] 172);rw [<- hW] at h2
  exact ⟨h.below hb,h2.1,h2.2,hown.below hb,yG hb,h.cur.lt,hB,hbl⟩:EvB w W B lo hi ao len cap b off c s)
 clear h hown hB hbl hg;have a7:(c.n:Int)=4:=hn;go_enter func124,ntmps124;go_wp2_with (rw [<- hW];clear hW)
 refine (xO 20 (by decide) (by decide) HW.st).mono ?_;rintro r X0 ⟨x,rfl,h0,h1,a,hg⟩;have a6:Hid (EvB w X0 B lo hi ao len cap b off c s):=HW.draw a hg;clear a hg;clear HW;go_wp2
 go_loopw [6,7] (fun q i wr=>∃ m l:Nat,m<=4/\l<=3/\q=I U (l:Int)/\i=I U (m:Int)/\Hid (EvB w wr B lo hi ao len cap b off c s)) (fun _ i _=>4 - (intOf i).toNat)
 case atStart=>exact ⟨0,0,by omega,by omega,rfl,rfl,a6⟩
 case round=>
  obtain ⟨m,l,hm,hl,rfl,rfl,HY⟩:=hrel;have c0:=zB HY.box 0 (I U c.n) rfl;rw [a7] at c0
  by_cases hlt:(m:Int) < 4
  ·go_wp2_with (refine w_ld w.heap.size HY.box underlying124 ?_)
   clear c0;refine (yAI c s (m:Int) wr).mono ?_;rintro r y1 ⟨rfl,a3⟩;have d:Hid (EvB w y1 B lo hi ao len cap b off c s):=HY.more a3;clear a3
   cases aw:qZ c (m:Int) with
   | true=>
    clear aw;go_wp2
    go_roundw
    case rel=>exact ⟨m+1,m,by omega,by omega,rfl,by go_num,d⟩
    case measure=>simp [intOf];omega
   | false=>
    clear aw;go_wp2
    go_roundw
    case rel=>exact ⟨m+1,l,by omega,by omega,rfl,by go_num,d⟩
    case measure=>simp [intOf];omega
  ·go_upto_region 8 with fail
   clear c0 hlt hm
   by_cases e0:x=0
   ·subst e0;go_wp2_with fail
    refine (cmd_st HY.st).mono ?_;rintro r Y1 ⟨cm,rfl,aq,bc,a,hg⟩;have d:Hid (EvB w Y1 B lo hi ao len cap b off c s):=HY.draw a hg;clear a hg;unfold cmdV
    go_wp2_with (first
     | (refine w_st (w.heap.size+1) (evA (⟨1,0,0,0,cm⟩:EV)) d.out.out (zDD _) ?_;intro z hg hk hz;have HZ:Hid (Bx z (w.heap.size+1) (evA (⟨1,0,0,0,cm⟩:EV)) 172/\St z B ao len cap b off/\w.grownBy z (some B)):=d.last hg hk;clear hg hk hz))
    refine b_cr (.agg (evA (⟨1,0,0,0,cm⟩:EV))) results124 HZ.1 underlying172 ?_;exact ⟨_,rfl,yAC ⟨by omega,by omega⟩ ⟨by omega,by omega⟩ ⟨by omega,by omega⟩ (fun h=>by exact aq) (by omega),HZ.2.1,HZ.2.2⟩
   ·have d0:(x == 0)=false:=by simpa using e0
    by_cases e4:x < 4
    ·clear e0;obtain ⟨ap,cp,ep,-⟩:=yL HY.own.peers.row;have ac:s.peers.length=c.peers.length:=by rw [<- HY.out.own.epeers,yCI]
     rw [ac] at ep;have bb:Hid (s.peersV=.slice ap c.peers.length cp):=ep;have ar:(c.peers.length:Int)<=1048576:=by omega
     have a9:(Lit.int U c.n).wf=true:=wf_in (by omega);clear ep ac;go_wp2
     go_loopw [8] (fun i wr=>∃ m:Nat,m<=c.peers.length/\i=I U (m:Int)/\Hid (EvB w wr B lo hi ao len cap b off c s)) (fun i _=>c.peers.length - (intOf i).toNat)
     case atStart=>exact ⟨0,Nat.zero_le _,rfl,HY⟩
     case round=>
      clear HY;obtain ⟨m,be,rfl,HY⟩:=hrel;have c4:=zB HY.box 4 s.peersV rfl;rw [bb.out] at c4
      by_cases hlt2:(m:Int) < (c.peers.length:Int)
      ·have af:m < c.peers.length:=by omega
       cases ab:xT c (m:Int) with
       | false=>
        go_upto_region 14 with fail
        clear c4;refine p_rg (fun _=>true) (fun x=>Bx x w.heap.size (zR c s) 124) ?_;show zX prog _ _ _ _ _ (14+1) (Array.replicate 15 false) _ _;have KP:∀ x,Be wr x->Bx x w.heap.size (zR c s) 124:=fun x hb=>(HY.more hb).box
        have n:=bw wr;have hS:=KP wr.drew n;refine zD 0 40 (.agg (zR c s)) hS ?_ (hy:=fun x hx=>ldb w.heap.size hx underlying124);refine zD 1 41 (I U (m:Int)) hS ?_;refine kJ 2 42 167 #[.agg (zR c s),I U (m:Int)] ((zHB c s (m:Int) wr.drew (HY.more n).own.reads ar).mono ?_);rintro r y1 ⟨rfl,u⟩;have j:Be wr y1:=bt n u;clear hS;have hS:=KP y1 j;refine ⟨_,rfl,fun _=>hS,?_⟩;simp only [pz];rw [ab];refine zD 3 43 (.bool false) hS ?_;refine xE 4 44 hS ?_;refine xE 5 45 hS ?_;refine xE 6 46 hS ?_;refine xE 7 47 hS ?_;refine xE 8 48 hS ?_;refine xE 9 49 hS ?_;refine xE 10 50 hS ?_;refine xE 11 51 hS ?_;refine xE 12 52 hS ?_;refine xE 13 53 hS ?_;refine zD 14 54 (.bool false) hS ?_;refine p_do ?_;have f:Hid (EvB w y1 B lo hi ao len cap b off c s):=HY.more j;clear hS KP n u j ab;go_wp2
        go_roundw
        case rel=>exact ⟨m+1,by omega,by go_num,f⟩
        case measure=>simp [intOf];omega
       | true=>
        obtain ⟨g,ad,p,t,a4,-,az,a0,aj,av,-,-,-⟩:=(HY.own).peerAt af;have a5:=hid a0;have al:=hid aj;have am:Hid (s.peersV=.slice (some ⟨g,0,none⟩) c.peers.length ad):=a4;have a2:Hid (g < wr.heap.size):=av;have ax:Hid (yDG p):=a8 p (by rw [<- az];unfold zCJ;rw [show ((m:Int)).toNat=m by omega,List.getElem?_eq_getElem af];exact List.getElem_mem af);have q0:(0:Int)<=(m:Int):=by omega
        clear a4 az a0 aj av
        go_upto_region 14 with fail
        clear c4;refine p_rg (fun _=>true) (fun x=>Bx x w.heap.size (zR c s) 124/\x.heap[g]?=wr.heap[g]?) ?_;show zX prog _ _ _ _ _ (14+1) (Array.replicate 15 false) _ _;have KP:∀ x,Be wr x->Bx x w.heap.size (zR c s) 124/\x.heap[g]?=wr.heap[g]?:=fun x hb=>⟨(HY.more hb).box,hb.block g a2⟩
        have n:=bw wr;have hS:=KP wr.drew n;refine zD 0 40 (.agg (zR c s)) hS ?_ (hy:=fun x hx=>ldb w.heap.size hx.1 underlying124);refine zD 1 41 (I U (m:Int)) hS ?_;refine kJ 2 42 167 #[.agg (zR c s),I U (m:Int)] ((zHB c s (m:Int) wr.drew (HY.more n).own.reads ar).mono ?_);rintro r y1 ⟨rfl,u⟩;have j:Be wr y1:=bt n u;clear hS;have hS:=KP y1 j;refine ⟨_,rfl,fun _=>hS,?_⟩;simp only [pz];rw [ab];refine zD 3 43 (.bool true) hS ?_;refine p_pt 4 44 w.heap.size 4 hS ?_;refine zD 5 45 (.slice (some ⟨g,0,none⟩) c.peers.length ad) hS ?_ (hy:=by intro x hx;have c4:=zB hx.1 4 s.peersV rfl;rw [am.out] at c4;go_simp;try rfl);refine zD 6 46 (I U (m:Int)) hS ?_;refine p_pt 7 47 g (m * 21) hS ?_;refine zD 8 48 (.agg (zA p t)) hS ?_ (hy:=fun x hx=>ldm g (m * 21) (peerL p t) (qW hx.2 al) underlying35);refine p_pt 9 49 w.heap.size 0 hS ?_;refine zD 10 50 (I U c.n) hS ?_ (hy:=by intro x hx;have c0:=zB hx.1 0 (I U c.n) rfl;go_simp;try rfl);refine p_pt 11 51 w.heap.size 1 hS ?_;refine zD 12 52 (.bool c.chain) hS ?_ (hy:=by intro x hx;have c1:=zB hx.1 1 (.bool c.chain) rfl;go_simp;try rfl);refine kJ 13 53 171 #[.agg (zA p t),I U c.n,.bool c.chain] ((ready_s p t c.n c.chain y1 ax a9 (a5.below j)).mono ?_);rintro r y2 ⟨rfl,ae⟩;have aa:Be wr y2:=bt j ae;clear hS;have hS:=KP y2 aa;refine ⟨_,rfl,fun _=>hS,?_⟩;simp only [pz];obtain ⟨RB,au⟩:=nw (readyB p c.n c.chain);rw [<- au];clear au;refine zD 14 54 (.bool RB) hS ?_;refine p_do ?_;have f:Hid (EvB w y2 B lo hi ao len cap b off c s):=HY.more aa;clear hS KP n u j ae aa ab a5 al am a2 ax
        cases RB with
        | true=>
         go_wp2_with (first
          | (refine w_st (w.heap.size+1) (evA (⟨2,(m:Int),0,0,(0,(⟨#[]⟩:ByteArray),0)⟩:EV)) f.out.out (zDD _) ?_;intro z hg hk hz;have HZ:Hid (Bx z (w.heap.size+1) (evA (⟨2,(m:Int),0,0,(0,(⟨#[]⟩:ByteArray),0)⟩:EV)) 172/\St z B ao len cap b off/\w.grownBy z (some B)):=f.last hg hk;clear hg hk hz))
         refine b_cr (.agg (evA (⟨2,(m:Int),0,0,(0,(⟨#[]⟩:ByteArray),0)⟩:EV))) results124 HZ.1 underlying172 ?_;exact ⟨_,rfl,yAC ⟨by omega,by omega⟩ ⟨by omega,by omega⟩ ⟨by omega,by omega⟩ (fun h=>by exact absurd h (by decide)) (by decide),HZ.2.1,HZ.2.2⟩
        | false=>
         go_wp2
         go_roundw
         case rel=>exact ⟨m+1,by omega,by go_num,f⟩
         case measure=>simp [intOf];omega
      ·have bd:¬ (m:Int) < (c.peers.length:Int):=hlt2
       go_wp2_with (first
        | (refine w_st (w.heap.size+1) (evA (⟨3,0,0,0,(0,(⟨#[]⟩:ByteArray),0)⟩:EV)) HY.out.out (zDD _) ?_;intro z hg hk hz;have HZ:Hid (Bx z (w.heap.size+1) (evA (⟨3,0,0,0,(0,(⟨#[]⟩:ByteArray),0)⟩:EV)) 172/\St z B ao len cap b off/\w.grownBy z (some B)):=HY.last hg hk;clear hg hk hz))
       refine b_cr (.agg (evA (⟨3,0,0,0,(0,(⟨#[]⟩:ByteArray),0)⟩:EV))) results124 HZ.1 underlying172 ?_;exact ⟨_,rfl,yAC ⟨by omega,by omega⟩ ⟨by omega,by omega⟩ ⟨by omega,by omega⟩ (fun h=>by exact absurd h (by decide)) (by decide),HZ.2.1,HZ.2.2⟩
    ·by_cases e14:x < 14
     ·clear e0;obtain ⟨an,cn,en,-⟩:=yL HY.own.net;have c5:=zB HY.box 5 s.net rfl;rw [en] at c5
      by_cases hl0:(0:Int) < (c.net.length:Int)
      ·go_wp2_with fail
       clear c5;refine (once_st 3 (by decide) (by decide) HY.st).mono ?_;rintro r Y1 ⟨xb,rfl,a,hg⟩;have d:Hid (EvB w Y1 B lo hi ao len cap b off c s):=HY.draw a hg;clear a hg;have c5:=zB d.box 5 s.net rfl;rw [en] at c5
       cases xb with
       | true=>
        go_wp2_with fail
        clear c5;refine (xO (c.net.length:Int) hl0 (by omega) d.st).mono ?_;rintro r Y2 ⟨a1,rfl,ai,ag,a,hg⟩;have f:Hid (EvB w Y2 B lo hi ao len cap b off c s):=d.draw a hg;clear a hg
        go_wp2_with (first
         | (refine w_st (w.heap.size+1) (evA (⟨3,a1,0,0,(0,(⟨#[]⟩:ByteArray),0)⟩:EV)) f.out.out (zDD _) ?_;intro z hg hk hz;have HZ:Hid (Bx z (w.heap.size+1) (evA (⟨3,a1,0,0,(0,(⟨#[]⟩:ByteArray),0)⟩:EV)) 172/\St z B ao len cap b off/\w.grownBy z (some B)):=f.last hg hk;clear hg hk hz))
        refine b_cr (.agg (evA (⟨3,a1,0,0,(0,(⟨#[]⟩:ByteArray),0)⟩:EV))) results124 HZ.1 underlying172 ?_;exact ⟨_,rfl,yAC ⟨by omega,by omega⟩ ⟨by omega,by omega⟩ ⟨by omega,by omega⟩ (fun h=>by exact absurd h (by decide)) (by decide),HZ.2.1,HZ.2.2⟩
       | false=>
        clear c5
        go_wp2_with (first
         | (refine w_st (w.heap.size+1) (evA (⟨3,0,0,0,(0,(⟨#[]⟩:ByteArray),0)⟩:EV)) d.out.out (zDD _) ?_;intro z hg hk hz;have HZ:Hid (Bx z (w.heap.size+1) (evA (⟨3,0,0,0,(0,(⟨#[]⟩:ByteArray),0)⟩:EV)) 172/\St z B ao len cap b off/\w.grownBy z (some B)):=d.last hg hk;clear hg hk hz))
        refine b_cr (.agg (evA (⟨3,0,0,0,(0,(⟨#[]⟩:ByteArray),0)⟩:EV))) results124 HZ.1 underlying172 ?_;exact ⟨_,rfl,yAC ⟨by omega,by omega⟩ ⟨by omega,by omega⟩ ⟨by omega,by omega⟩ (fun h=>by exact absurd h (by decide)) (by decide),HZ.2.1,HZ.2.2⟩
      ·have bi:¬ (0:Int) < (c.net.length:Int):=hl0
       go_wp2_with (first
        | (refine w_st (w.heap.size+1) (evA (⟨3,0,0,0,(0,(⟨#[]⟩:ByteArray),0)⟩:EV)) HY.out.out (zDD _) ?_;intro z hg hk hz;have HZ:Hid (Bx z (w.heap.size+1) (evA (⟨3,0,0,0,(0,(⟨#[]⟩:ByteArray),0)⟩:EV)) 172/\St z B ao len cap b off/\w.grownBy z (some B)):=HY.last hg hk;clear hg hk hz))
       refine b_cr (.agg (evA (⟨3,0,0,0,(0,(⟨#[]⟩:ByteArray),0)⟩:EV))) results124 HZ.1 underlying172 ?_;exact ⟨_,rfl,yAC ⟨by omega,by omega⟩ ⟨by omega,by omega⟩ ⟨by omega,by omega⟩ (fun h=>by exact absurd h (by decide)) (by decide),HZ.2.1,HZ.2.2⟩
     ·by_cases e5:x=14
      ·subst e5;obtain ⟨YA,o⟩:=nw (wr.alloc (.cells #[I U 4,I U 5] 3))
       have k:Hid (EvB w YA B lo hi ao len cap b off c s/\Bx YA wr.heap.size #[I U 4,I U 5] 3/\wr.heap.size ≠ B):=(by
        have hb:Be wr YA:=by rw [o];exact yA _ _
        refine ⟨HY.more hb,by rw [o];exact heap_alloc_new _ _,?_⟩;have:=HY.st.cur.lt
        omega:_/\_)
       go_wp2_with (rw [<- o];clear o)
       refine (pickL_st (L:=wr.heap.size) [4,5] (by decide) (by decide) k.1.st k.2.2 k.2.1).mono ?_;rintro r Yp ⟨kd,v,rfl,a,hg⟩;have y:Hid (EvB w Yp B lo hi ao len cap b off c s):=k.1.draw a hg
       have ah:kd ≠ 1:=by
        simp only [List.mem_cons,List.not_mem_nil,or_false] at v;omega
       clear a hg v k;go_wp2_with fail
       refine (xO 4 (by decide) (by decide) y.st).mono ?_;rintro r Yq ⟨a1,rfl,ai,ag,a,hg⟩;have ak:Hid (EvB w Yq B lo hi ao len cap b off c s):=y.draw a hg;clear a hg
       go_wp2_with (first
        | (refine w_st (w.heap.size+1) (evA (⟨kd,a1,0,0,(0,(⟨#[]⟩:ByteArray),0)⟩:EV)) ak.out.out (zDD _) ?_;intro z hg hk hz;have HZ:Hid (Bx z (w.heap.size+1) (evA (⟨kd,a1,0,0,(0,(⟨#[]⟩:ByteArray),0)⟩:EV)) 172/\St z B ao len cap b off/\w.grownBy z (some B)):=ak.last hg hk;clear hg hk hz))
       refine b_cr (.agg (evA (⟨kd,a1,0,0,(0,(⟨#[]⟩:ByteArray),0)⟩:EV))) results124 HZ.1 underlying172 ?_;exact ⟨_,rfl,yAC ⟨by omega,by omega⟩ ⟨by omega,by omega⟩ ⟨by omega,by omega⟩ (fun h=>by exact absurd h ah) (by decide),HZ.2.1,HZ.2.2⟩
      ·have bo:(x == 14)=false:=by simpa using e5
       by_cases e6:x=15
       ·subst e6;go_wp2_with fail
        refine (xO 4 (by decide) (by decide) HY.st).mono ?_;rintro r Y1 ⟨a1,rfl,ai,ag,a,hg⟩;have d:Hid (EvB w Y1 B lo hi ao len cap b off c s):=HY.draw a hg;clear a hg
        go_wp2_with (first
         | (refine w_st (w.heap.size+1) (evA (⟨6,a1,0,0,(0,(⟨#[]⟩:ByteArray),0)⟩:EV)) d.out.out (zDD _) ?_;intro z hg hk hz;have HZ:Hid (Bx z (w.heap.size+1) (evA (⟨6,a1,0,0,(0,(⟨#[]⟩:ByteArray),0)⟩:EV)) 172/\St z B ao len cap b off/\w.grownBy z (some B)):=d.last hg hk;clear hg hk hz))
        refine b_cr (.agg (evA (⟨6,a1,0,0,(0,(⟨#[]⟩:ByteArray),0)⟩:EV))) results124 HZ.1 underlying172 ?_;exact ⟨_,rfl,yAC ⟨by omega,by omega⟩ ⟨by omega,by omega⟩ ⟨by omega,by omega⟩ (fun h=>by exact absurd h (by decide)) (by decide),HZ.2.1,HZ.2.2⟩
       ·have bg:(x == 15)=false:=by simpa using e6
        by_cases e7:x=16
        ·subst e7;go_wp2_with fail
         refine (xO 4 (by decide) (by decide) HY.st).mono ?_;rintro r Y1 ⟨a1,rfl,ai,ag,a,hg⟩;have d:Hid (EvB w Y1 B lo hi ao len cap b off c s):=HY.draw a hg;clear a hg
         go_wp2_with (first
          | (refine w_st (w.heap.size+1) (evA (⟨7,a1,0,0,(0,(⟨#[]⟩:ByteArray),0)⟩:EV)) d.out.out (zDD _) ?_;intro z hg hk hz;have HZ:Hid (Bx z (w.heap.size+1) (evA (⟨7,a1,0,0,(0,(⟨#[]⟩:ByteArray),0)⟩:EV)) 172/\St z B ao len cap b off/\w.grownBy z (some B)):=d.last hg hk;clear hg hk hz))
         refine b_cr (.agg (evA (⟨7,a1,0,0,(0,(⟨#[]⟩:ByteArray),0)⟩:EV))) results124 HZ.1 underlying172 ?_;exact ⟨_,rfl,yAC ⟨by omega,by omega⟩ ⟨by omega,by omega⟩ ⟨by omega,by omega⟩ (fun h=>by exact absurd h (by decide)) (by decide),HZ.2.1,HZ.2.2⟩
        ·have bl:(x == 16)=false:=by simpa using e7
         clear e0 e5 e6 e7;go_wp2_with fail
         refine (xO 30 (by decide) (by decide) HY.st).mono ?_;rintro r Y1 ⟨nm,rfl,bf,bh,a,hg⟩;have d:Hid (EvB w Y1 B lo hi ao len cap b off c s):=HY.draw a hg;clear a hg;go_wp2_with fail
         refine (xO 4 (by decide) (by decide) d.st).mono ?_;rintro r Y2 ⟨tt,rfl,bj,bk,a,hg⟩;have f:Hid (EvB w Y2 B lo hi ao len cap b off c s):=d.draw a hg;clear a hg
         by_cases e8:x=17
         ·subst e8;go_wp2_with fail
          refine (cmd_st f.st).mono ?_;rintro r Y3 ⟨cm,rfl,aq,bc,a,hg⟩;have ay:Hid (EvB w Y3 B lo hi ao len cap b off c s):=f.draw a hg;clear a hg;unfold cmdV
          go_wp2_with (first
           | (refine w_st (w.heap.size+1) (evA (⟨10,(l:Int),tt,nm,cm⟩:EV)) ay.out.out (zDD _) ?_;intro z hg hk hz;have HZ:Hid (Bx z (w.heap.size+1) (evA (⟨10,(l:Int),tt,nm,cm⟩:EV)) 172/\St z B ao len cap b off/\w.grownBy z (some B)):=ay.last hg hk;clear hg hk hz))
          refine b_cr (.agg (evA (⟨10,(l:Int),tt,nm,cm⟩:EV))) results124 HZ.1 underlying172 ?_;exact ⟨_,rfl,yAC ⟨by omega,by omega⟩ ⟨by omega,by omega⟩ ⟨by omega,by omega⟩ (fun h=>by exact absurd h (by decide)) (by omega),HZ.2.1,HZ.2.2⟩
         ·have bn:(x == 17)=false:=by simpa using e8
          clear e8;obtain ⟨YA,o⟩:=nw (Y2.alloc (.cells #[I U 8,I U 9,I U 11,I U 8] 3))
          have k:Hid (EvB w YA B lo hi ao len cap b off c s/\Bx YA Y2.heap.size #[I U 8,I U 9,I U 11,I U 8] 3/\Y2.heap.size ≠ B):=(by
           have hb:Be Y2 YA:=by rw [o];exact yA _ _
           refine ⟨f.more hb,by rw [o];exact heap_alloc_new _ _,?_⟩;have:=f.st.cur.lt
           omega:_/\_)
          go_wp2_with (rw [<- o];clear o)
          refine (pickL_st (L:=Y2.heap.size) [8,9,11,8] (by decide) (by decide) k.1.st k.2.2 k.2.1).mono ?_;rintro r Yp ⟨kd,v,rfl,a,hg⟩;have y:Hid (EvB w Yp B lo hi ao len cap b off c s):=k.1.draw a hg
          have ah:kd ≠ 1:=by
           simp only [List.mem_cons,List.not_mem_nil,or_false] at v;omega
          clear a hg v k
          go_wp2_with (first
           | (refine w_st (w.heap.size+1) (evA (⟨kd,(l:Int),tt,nm,(0,(⟨#[]⟩:ByteArray),0)⟩:EV)) y.out.out (zDD _) ?_;intro z hg hk hz;have HZ:Hid (Bx z (w.heap.size+1) (evA (⟨kd,(l:Int),tt,nm,(0,(⟨#[]⟩:ByteArray),0)⟩:EV)) 172/\St z B ao len cap b off/\w.grownBy z (some B)):=y.last hg hk;clear hg hk hz))
          refine b_cr (.agg (evA (⟨kd,(l:Int),tt,nm,(0,(⟨#[]⟩:ByteArray),0)⟩:EV))) results124 HZ.1 underlying172 ?_;exact ⟨_,rfl,yAC ⟨by omega,by omega⟩ ⟨by omega,by omega⟩ ⟨by omega,by omega⟩ (fun h=>by exact absurd h ah) (by decide),HZ.2.1,HZ.2.2⟩
end Go.Proofs.YtfnneillakdopacGreatR
