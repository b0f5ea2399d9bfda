/-
  A text of ours: EvD.
-/
import Derived.Test.YtdopefimjabigadGreatK1
import Derived.Test.YtdopefimjabigadGreatK10
set_option maxRecDepth 100000
set_option maxHeartbeats 32000000
namespace Go.Proofs.YtdopefimjabigadGreat
open Go.RowKit Num
structure EvB (w y:World) (B lo hi:Nat) (ao:Option Addr) (len cap b off:Nat) (c:CU) (s:CW):Prop where
 st:St y B ao len cap b off
 box:Bx y w.heap.size (zR c s) 90
 out:Bx y (w.heap.size+1) (evA (⟨0,0,0,0,(0,(⟨#[]⟩:ByteArray),0)⟩:EV)) 132
 own:xG lo hi y c s
 gr:w.grownBy y (some B)
 hB:B < w.heap.size
 hlo:B < lo
 bl:0 < len->b < w.heap.size
theorem yAC {k a t n:Int} {cm:CM} (ha:0<=a/\a<=1000) (ht:0<=t/\t<=1000) (hn:0<=n/\n<=1000) (hk:k=1->zAF cm=true) (hs:(cm.2.1.size:Int)<=3):evFit ⟨k,a,t,n,cm⟩:=⟨ha,ht,hn,hk,hs⟩
theorem EvB.draw {w y z:World} {B lo hi:Nat} {ao:Option Addr} {len cap b off:Nat} {c:CU} {s:CW} (h:EvB w y B lo hi ao len cap b off c s) (hs:St z B ao len cap b off) (hg:y.grownBy z (some B)):EvB w z B lo hi ao len cap b off c s:=
 ⟨hs,(hg.block _ (gl h.box) (fun e=>by have:=Option.some.inj e;have:=h.hB;omega)).trans h.box,(hg.block _ (gl h.out) (fun e=>by have:=Option.some.inj e;have:=h.hB;omega)).trans h.out,h.own.frs (FrS.of_grown hg (B:=fun k=>k=B) (fun k e=>by cases e;rfl)) (fun i g hi hp e=>by have:=h.own.lim i g hi hp;have:=h.hlo;omega),zP h.gr hg,h.hB,h.hlo,h.bl⟩
theorem EvB.more {w y z:World} {B lo hi:Nat} {ao:Option Addr} {len cap b off:Nat} {c:CU} {s:CW} (h:EvB w y B lo hi ao len cap b off c s) (hb:Below y.heap.size y z):EvB w z B lo hi ao len cap b off c s:=
 ⟨h.st.below hb,(hb.block _ (gl h.box)).trans h.box,(hb.block _ (gl h.out)).trans h.out,h.own.below hb,zP h.gr (yG hb),h.hB,h.hlo,h.bl⟩
theorem EvB.last {w y z:World} {B lo hi:Nat} {ao:Option Addr} {len cap b off:Nat} {c:CU} {s:CW} {A:Array Value} (h:EvB w y B lo hi ao len cap b off c s) (hg:y.grownBy z (some (w.heap.size+1))) (hk:Bx z (w.heap.size+1) A 132):Bx z (w.heap.size+1) A 132/\St z B ao len cap b off/\w.grownBy z (some B):=
 ⟨hk,h.st.other hg (by have:=h.hB;omega) (fun hl e=>by have:=h.bl hl;omega),yT h.gr (by omega) hg⟩
theorem event_st {w:World} {B lo hi:Nat} {ao:Option Addr} {len cap b off:Nat} (c:CU) (s:CW) (h:St w B ao len cap b off) (hown:xG lo hi w c s) (hB:B < lo) (hbl:0 < len->b < w.heap.size) (hn:c.n=4) (hp:c.peers.length=4) (hnet:c.net.length<=60) (hg:∀ p∈c.peers,yDG p) :
  Calls Tryz.prog 103 #[.pointer (some ⟨B,0,none⟩),clusV c s] w fun r w'=>∃ e:EV,r=.returned (.agg (evA e))/\evFit e/\St w' B ao len cap b off/\w.grownBy w' (some B):=by
 have HGP:=hid hg;have HBW:Hid (B < w.heap.size):=h.cur.lt;obtain ⟨W,hW⟩:∃ W,W=(w.alloc (.cells (zR c s) 90)).alloc (.cells #[.int .i64 0,.int .i64 0,.int .i64 0,.int .i64 0,.int .i64 0,.string ⟨#[]⟩,.int .i64 0] 132):=⟨_,rfl⟩
 have HW:Hid (EvB w W B lo hi ao len cap b off c s):=(by
  have hb:Below w.heap.size w W:=by rw [hW];exact ba (ba (br _ _) _) _
  have h2:=qK w (.cells (zR c s) 90) (.cells #[.int .i64 0,.int .i64 0,.int .i64 0,.int .i64 0,.int .i64 0,.string ⟨#[]⟩,.int .i64 0] 132);rw [<- hW] at h2
  exact ⟨h.below hb,h2.1,h2.2,hown.below hb,yG hb,h.cur.lt,hB,hbl⟩:EvB w W B lo hi ao len cap b off c s)
 clear h hown hB hbl hg;have hn4:(c.n:Int)=4:=hn;go_enter Tryz.func103,Tryz.ntmps103;go_wp2_with (rw [<- hW];clear hW)
 refine (xO 20 (by decide) (by decide) HW.out.st).mono ?_;rintro r X0 ⟨x,rfl,h0,h1,hst,hg⟩;have HX0:Hid (EvB w X0 B lo hi ao len cap b off c s):=HW.out.draw hst hg;clear hst hg;clear HW;go_wp2
 go_loopw [6,7] (fun q i wr=>∃ m l:Nat,m<=4/\l<=3/\q=.int .i64 (l:Int)/\i=.int .i64 (m:Int)/\Hid (EvB w wr B lo hi ao len cap b off c s)) (fun _ i _=>4 - (intOf i).toNat)
 case atStart=>exact ⟨0,0,by omega,by omega,rfl,rfl,HX0.out⟩
 case round=>
  obtain ⟨m,l,hm,hl,rfl,rfl,HY⟩:=hrel;have c0:=zB HY.out.box 0 (.int .i64 c.n) rfl;rw [hn4] at c0
  by_cases hlt:(m:Int) < 4
  ·go_wp2_with (refine w_ld w.heap.size HY.out.box Tryz.underlying90 ?_)
   clear c0;refine (yAI c s (m:Int) wr).mono ?_;rintro r y1 ⟨rfl,hb1⟩;have HY1:Hid (EvB w y1 B lo hi ao len cap b off c s):=HY.out.more hb1;clear hb1
   cases hli:qZ c (m:Int) with
   | true=>
    clear hli;go_wp2
    go_roundw
    case rel=>exact ⟨m+1,m,by omega,by omega,rfl,by go_num,HY1.out⟩
    case measure=>simp [intOf];omega
   | false=>
    clear hli;go_wp2
    go_roundw
    case rel=>exact ⟨m+1,l,by omega,by omega,rfl,by go_num,HY1.out⟩
    case measure=>simp [intOf];omega
  ·go_upto_region 8 with fail
   clear c0 hlt hm
   by_cases e0:x=0
   ·subst e0;go_wp2_with fail
    refine (cmd_st HY.out.st).mono ?_;rintro r Y1 ⟨cm,rfl,hcm,hsz,hst,hg⟩;have HY1:Hid (EvB w Y1 B lo hi ao len cap b off c s):=HY.out.draw hst hg;clear hst hg;unfold cmdV
    go_wp2_with (first
     | (refine w_st (w.heap.size+1) (evA (⟨1,0,0,0,cm⟩:EV)) HY1.out.out (zDD _) ?_;intro z hg hk hz;have HZ:Hid (Bx z (w.heap.size+1) (evA (⟨1,0,0,0,cm⟩:EV)) 132/\St z B ao len cap b off/\w.grownBy z (some B)):=HY1.out.last hg hk;clear hg hk hz))
    refine bodyPost_ret (v:=.agg (evA (⟨1,0,0,0,cm⟩:EV))) (results_cell_row Tryz.results103 _ _ (w.heap.size+1) 132 _ (0,0) _ rfl HZ.out.1 Tryz.underlying132 rfl (by kernel_rfl)) rfl ?_;exact ⟨_,rfl,yAC ⟨by omega,by omega⟩ ⟨by omega,by omega⟩ ⟨by omega,by omega⟩ (fun h=>by exact hcm) (by omega),HZ.out.2.1,HZ.out.2.2⟩
   ·have d0:(x == 0)=false:=by simpa using e0
    by_cases e4:x < 4
    ·clear e0;obtain ⟨ap,cp,ep,-⟩:=yL HY.out.own.peers.row;have hpl0:s.peers.length=c.peers.length:=by rw [<- HY.out.own.epeers,yCI]
     rw [hpl0] at ep;have HEP:Hid (s.peersV=.slice ap c.peers.length cp):=ep;have hpl:(c.peers.length:Int)<=1048576:=by omega
     have hnw:(Lit.int .i64 c.n).wf=true:=wf_in (by omega);clear ep hpl0;go_wp2
     go_loopw [8] (fun i wr=>∃ m:Nat,m<=c.peers.length/\i=.int .i64 (m:Int)/\Hid (EvB w wr B lo hi ao len cap b off c s)) (fun i _=>c.peers.length - (intOf i).toNat)
     case atStart=>exact ⟨0,Nat.zero_le _,rfl,HY.out⟩
     case round=>
      clear HY;obtain ⟨m,hm2,rfl,HY⟩:=hrel;have c4:=zB HY.out.box 4 s.peersV rfl;rw [HEP.out] at c4
      by_cases hlt2:(m:Int) < (c.peers.length:Int)
      ·have hjn:m < c.peers.length:=by omega
       cases hho:xT c (m:Int) with
       | false=>
        go_upto_region 14 with fail
        clear c4;refine zT (fun _=>true) (fun x=>Bx x w.heap.size (zR c s) 90) (by kernel_rfl) ?_;show zX Tryz.prog _ _ _ _ _ (14+1) (Array.replicate 15 false) _ _;have KP:∀ x,Below wr.heap.size wr x->Bx x w.heap.size (zR c s) 90:=fun x hb=>(HY.out.more hb).box
        have hd0:Below wr.heap.size wr wr.drew:=(br _ _).drew;have hS:=KP wr.drew hd0;refine zD 0 40 (.agg (zR c s)) hS ?_ (hy:=fun x hx=>zM _ _ rfl w.heap.size rfl _ _ _ _ hx Tryz.underlying90 rfl (by kernel_rfl));refine zD 1 41 (.int .i64 (m:Int)) hS ?_;refine kJ 2 42 145 #[.agg (zR c s),.int .i64 (m:Int)] ((zHB c s (m:Int) wr.drew (HY.out.more hd0).own.reads hpl).mono ?_);rintro r y1 ⟨rfl,hsy1⟩;have hby1:Below wr.heap.size wr y1:=bt hd0 hsy1;clear hS;have hS:=KP y1 hby1;refine ⟨_,rfl,fun _=>hS,?_⟩;simp only [pz];rw [hho];refine zD 3 43 (.bool false) hS ?_;refine xE 4 44 hS ?_;refine xE 5 45 hS ?_;refine xE 6 46 hS ?_;refine xE 7 47 hS ?_;refine xE 8 48 hS ?_;refine xE 9 49 hS ?_;refine xE 10 50 hS ?_;refine xE 11 51 hS ?_;refine xE 12 52 hS ?_;refine xE 13 53 hS ?_;refine zD 14 54 (.bool false) hS ?_;refine zK (by kernel_rfl) ?_ _;have HY2:Hid (EvB w y1 B lo hi ao len cap b off c s):=HY.out.more hby1;clear hS KP hd0 hsy1 hby1 hho;go_wp2
        go_roundw
        case rel=>exact ⟨m+1,by omega,by go_num,HY2.out⟩
        case measure=>simp [intOf];omega
       | true=>
        obtain ⟨g,cap2,p,t,hpv,-,hpa,hpr,hrg,hgl,-,-,-⟩:=(HY.out.own).peerAt hjn;have HPR:=hid hpr;have HRG:=hid hrg;have HPV:Hid (s.peersV=.slice (some ⟨g,0,none⟩) c.peers.length cap2):=hpv;have HGL:Hid (g < wr.heap.size):=hgl;have HGO:Hid (yDG p):=HGP.out p (by rw [<- hpa];unfold zCJ;rw [show ((m:Int)).toNat=m by omega,List.getElem?_eq_getElem hjn];exact List.getElem_mem hjn);have q0:(0:Int)<=(m:Int):=by omega
        clear hpv hpa hpr hrg hgl
        go_upto_region 14 with fail
        clear c4;refine zT (fun _=>true) (fun x=>Bx x w.heap.size (zR c s) 90/\x.heap[g]?=wr.heap[g]?) (by kernel_rfl) ?_;show zX Tryz.prog _ _ _ _ _ (14+1) (Array.replicate 15 false) _ _;have KP:∀ x,Below wr.heap.size wr x->Bx x w.heap.size (zR c s) 90/\x.heap[g]?=wr.heap[g]?:=fun x hb=>⟨(HY.out.more hb).box,hb.block g HGL.out⟩
        have hd0:Below wr.heap.size wr wr.drew:=(br _ _).drew;have hS:=KP wr.drew hd0;refine zD 0 40 (.agg (zR c s)) hS ?_ (hy:=fun x hx=>zM _ _ rfl w.heap.size rfl _ _ _ _ hx.1 Tryz.underlying90 rfl (by kernel_rfl));refine zD 1 41 (.int .i64 (m:Int)) hS ?_;refine kJ 2 42 145 #[.agg (zR c s),.int .i64 (m:Int)] ((zHB c s (m:Int) wr.drew (HY.out.more hd0).own.reads hpl).mono ?_);rintro r y1 ⟨rfl,hsy1⟩;have hby1:Below wr.heap.size wr y1:=bt hd0 hsy1;clear hS;have hS:=KP y1 hby1;refine ⟨_,rfl,fun _=>hS,?_⟩;simp only [pz];rw [hho];refine zD 3 43 (.bool true) hS ?_;refine zD 4 44 (.pointer (some ⟨w.heap.size,4,none⟩)) hS ?_;refine zD 5 45 (.slice (some ⟨g,0,none⟩) c.peers.length cap2) hS ?_ (hy:=by intro x hx;have c4:=zB hx.1 4 s.peersV rfl;rw [HPV.out] at c4;go_simp;try with_reducible rfl);refine zD 6 46 (.int .i64 (m:Int)) hS ?_;refine zD 7 47 (.pointer (some ⟨g,m * 21,none⟩)) hS ?_;refine zD 8 48 (.agg (zA p t)) hS ?_ (hy:=fun x hx=>xB _ _ rfl g (m * 21) rfl (peerL p t) _ (qW hx.2 HRG.out) Tryz.underlying35 rfl (by kernel_rfl));refine zD 9 49 (.pointer (some ⟨w.heap.size,0,none⟩)) hS ?_;refine zD 10 50 (.int .i64 c.n) hS ?_ (hy:=by intro x hx;have c0:=zB hx.1 0 (.int .i64 c.n) rfl;go_simp;try with_reducible rfl);refine zD 11 51 (.pointer (some ⟨w.heap.size,1,none⟩)) hS ?_;refine zD 12 52 (.bool c.chain) hS ?_ (hy:=by intro x hx;have c1:=zB hx.1 1 (.bool c.chain) rfl;go_simp;try with_reducible rfl);refine kJ 13 53 150 #[.agg (zA p t),.int .i64 c.n,.bool c.chain] ((ready_s p t c.n c.chain y1 HGO.out hnw (HPR.out.below hby1)).mono ?_);rintro r y2 ⟨rfl,hsy2⟩;have hby2:Below wr.heap.size wr y2:=bt hby1 hsy2;clear hS;have hS:=KP y2 hby2;refine ⟨_,rfl,fun _=>hS,?_⟩;simp only [pz];obtain ⟨RB,hRB⟩:∃ RB,RB=readyB p c.n c.chain:=⟨_,rfl⟩;rw [<- hRB];clear hRB;refine zD 14 54 (.bool RB) hS ?_;refine zK (by kernel_rfl) ?_ _;have HY2:Hid (EvB w y2 B lo hi ao len cap b off c s):=HY.out.more hby2;clear hS KP hd0 hsy1 hby1 hsy2 hby2 hho HPR HRG HPV HGL HGO
        cases RB with
        | true=>
         go_wp2_with (first
          | (refine w_st (w.heap.size+1) (evA (⟨2,(m:Int),0,0,(0,(⟨#[]⟩:ByteArray),0)⟩:EV)) HY2.out.out (zDD _) ?_;intro z hg hk hz;have HZ:Hid (Bx z (w.heap.size+1) (evA (⟨2,(m:Int),0,0,(0,(⟨#[]⟩:ByteArray),0)⟩:EV)) 132/\St z B ao len cap b off/\w.grownBy z (some B)):=HY2.out.last hg hk;clear hg hk hz))
         refine bodyPost_ret (v:=.agg (evA (⟨2,(m:Int),0,0,(0,(⟨#[]⟩:ByteArray),0)⟩:EV))) (results_cell_row Tryz.results103 _ _ (w.heap.size+1) 132 _ (0,0) _ rfl HZ.out.1 Tryz.underlying132 rfl (by kernel_rfl)) rfl ?_;exact ⟨_,rfl,yAC ⟨by omega,by omega⟩ ⟨by omega,by omega⟩ ⟨by omega,by omega⟩ (fun h=>by exact absurd h (by decide)) (by decide),HZ.out.2.1,HZ.out.2.2⟩
        | false=>
         go_wp2
         go_roundw
         case rel=>exact ⟨m+1,by omega,by go_num,HY2.out⟩
         case measure=>simp [intOf];omega
      ·have hlt3:¬ (m:Int) < (c.peers.length:Int):=hlt2
       go_wp2_with (first
        | (refine w_st (w.heap.size+1) (evA (⟨3,0,0,0,(0,(⟨#[]⟩:ByteArray),0)⟩:EV)) HY.out.out (zDD _) ?_;intro z hg hk hz;have HZ:Hid (Bx z (w.heap.size+1) (evA (⟨3,0,0,0,(0,(⟨#[]⟩:ByteArray),0)⟩:EV)) 132/\St z B ao len cap b off/\w.grownBy z (some B)):=HY.out.last hg hk;clear hg hk hz))
       refine bodyPost_ret (v:=.agg (evA (⟨3,0,0,0,(0,(⟨#[]⟩:ByteArray),0)⟩:EV))) (results_cell_row Tryz.results103 _ _ (w.heap.size+1) 132 _ (0,0) _ rfl HZ.out.1 Tryz.underlying132 rfl (by kernel_rfl)) rfl ?_;exact ⟨_,rfl,yAC ⟨by omega,by omega⟩ ⟨by omega,by omega⟩ ⟨by omega,by omega⟩ (fun h=>by exact absurd h (by decide)) (by decide),HZ.out.2.1,HZ.out.2.2⟩
    ·by_cases e14:x < 14
     ·clear e0;obtain ⟨an,cn,en,-⟩:=yL HY.out.own.net;have c5:=zB HY.out.box 5 s.net rfl;rw [en] at c5
      by_cases hl0:(0:Int) < (c.net.length:Int)
      ·go_wp2_with fail
       clear c5;refine (once_st 3 (by decide) (by decide) HY.out.st).mono ?_;rintro r Y1 ⟨xb,rfl,hst,hg⟩;have HY1:Hid (EvB w Y1 B lo hi ao len cap b off c s):=HY.out.draw hst hg;clear hst hg;have c5:=zB HY1.out.box 5 s.net rfl;rw [en] at c5
       cases xb with
       | true=>
        go_wp2_with fail
        clear c5;refine (xO (c.net.length:Int) hl0 (by omega) HY1.out.st).mono ?_;rintro r Y2 ⟨a1,rfl,ha0,ha1,hst,hg⟩;have HY2:Hid (EvB w Y2 B lo hi ao len cap b off c s):=HY1.out.draw hst hg;clear hst hg
        go_wp2_with (first
         | (refine w_st (w.heap.size+1) (evA (⟨3,a1,0,0,(0,(⟨#[]⟩:ByteArray),0)⟩:EV)) HY2.out.out (zDD _) ?_;intro z hg hk hz;have HZ:Hid (Bx z (w.heap.size+1) (evA (⟨3,a1,0,0,(0,(⟨#[]⟩:ByteArray),0)⟩:EV)) 132/\St z B ao len cap b off/\w.grownBy z (some B)):=HY2.out.last hg hk;clear hg hk hz))
        refine bodyPost_ret (v:=.agg (evA (⟨3,a1,0,0,(0,(⟨#[]⟩:ByteArray),0)⟩:EV))) (results_cell_row Tryz.results103 _ _ (w.heap.size+1) 132 _ (0,0) _ rfl HZ.out.1 Tryz.underlying132 rfl (by kernel_rfl)) rfl ?_;exact ⟨_,rfl,yAC ⟨by omega,by omega⟩ ⟨by omega,by omega⟩ ⟨by omega,by omega⟩ (fun h=>by exact absurd h (by decide)) (by decide),HZ.out.2.1,HZ.out.2.2⟩
       | false=>
        clear c5
        go_wp2_with (first
         | (refine w_st (w.heap.size+1) (evA (⟨3,0,0,0,(0,(⟨#[]⟩:ByteArray),0)⟩:EV)) HY1.out.out (zDD _) ?_;intro z hg hk hz;have HZ:Hid (Bx z (w.heap.size+1) (evA (⟨3,0,0,0,(0,(⟨#[]⟩:ByteArray),0)⟩:EV)) 132/\St z B ao len cap b off/\w.grownBy z (some B)):=HY1.out.last hg hk;clear hg hk hz))
        refine bodyPost_ret (v:=.agg (evA (⟨3,0,0,0,(0,(⟨#[]⟩:ByteArray),0)⟩:EV))) (results_cell_row Tryz.results103 _ _ (w.heap.size+1) 132 _ (0,0) _ rfl HZ.out.1 Tryz.underlying132 rfl (by kernel_rfl)) rfl ?_;exact ⟨_,rfl,yAC ⟨by omega,by omega⟩ ⟨by omega,by omega⟩ ⟨by omega,by omega⟩ (fun h=>by exact absurd h (by decide)) (by decide),HZ.out.2.1,HZ.out.2.2⟩
      ·have hl1:¬ (0:Int) < (c.net.length:Int):=hl0
       go_wp2_with (first
        | (refine w_st (w.heap.size+1) (evA (⟨3,0,0,0,(0,(⟨#[]⟩:ByteArray),0)⟩:EV)) HY.out.out (zDD _) ?_;intro z hg hk hz;have HZ:Hid (Bx z (w.heap.size+1) (evA (⟨3,0,0,0,(0,(⟨#[]⟩:ByteArray),0)⟩:EV)) 132/\St z B ao len cap b off/\w.grownBy z (some B)):=HY.out.last hg hk;clear hg hk hz))
       refine bodyPost_ret (v:=.agg (evA (⟨3,0,0,0,(0,(⟨#[]⟩:ByteArray),0)⟩:EV))) (results_cell_row Tryz.results103 _ _ (w.heap.size+1) 132 _ (0,0) _ rfl HZ.out.1 Tryz.underlying132 rfl (by kernel_rfl)) rfl ?_;exact ⟨_,rfl,yAC ⟨by omega,by omega⟩ ⟨by omega,by omega⟩ ⟨by omega,by omega⟩ (fun h=>by exact absurd h (by decide)) (by decide),HZ.out.2.1,HZ.out.2.2⟩
     ·by_cases e5:x=14
      ·subst e5;obtain ⟨YA,hYA⟩:∃ YA,YA=wr.alloc (.cells #[.int .i64 4,.int .i64 5] 3):=⟨_,rfl⟩
       have HYA:Hid (EvB w YA B lo hi ao len cap b off c s/\Bx YA wr.heap.size #[.int .i64 4,.int .i64 5] 3/\wr.heap.size ≠ B):=(by
        have hb:Below wr.heap.size wr YA:=by rw [hYA];exact yA _ _
        refine ⟨HY.out.more hb,by rw [hYA];exact heap_alloc_new _ _,?_⟩;have:=HY.out.st.cur.lt
        omega:_/\_)
       go_wp2_with (rw [<- hYA];clear hYA)
       refine (pickL_st (L:=wr.heap.size) [4,5] (by decide) (by decide) HYA.out.1.st HYA.out.2.2 HYA.out.2.1).mono ?_;rintro r Yp ⟨kd,hkd,rfl,hst,hg⟩;have HYp:Hid (EvB w Yp B lo hi ao len cap b off c s):=HYA.out.1.draw hst hg
       have hk1:kd ≠ 1:=by
        simp only [List.mem_cons,List.not_mem_nil,or_false] at hkd;omega
       clear hst hg hkd HYA;go_wp2_with fail
       refine (xO 4 (by decide) (by decide) HYp.out.st).mono ?_;rintro r Yq ⟨a1,rfl,ha0,ha1,hst,hg⟩;have HYq:Hid (EvB w Yq B lo hi ao len cap b off c s):=HYp.out.draw hst hg;clear hst hg
       go_wp2_with (first
        | (refine w_st (w.heap.size+1) (evA (⟨kd,a1,0,0,(0,(⟨#[]⟩:ByteArray),0)⟩:EV)) HYq.out.out (zDD _) ?_;intro z hg hk hz;have HZ:Hid (Bx z (w.heap.size+1) (evA (⟨kd,a1,0,0,(0,(⟨#[]⟩:ByteArray),0)⟩:EV)) 132/\St z B ao len cap b off/\w.grownBy z (some B)):=HYq.out.last hg hk;clear hg hk hz))
       refine bodyPost_ret (v:=.agg (evA (⟨kd,a1,0,0,(0,(⟨#[]⟩:ByteArray),0)⟩:EV))) (results_cell_row Tryz.results103 _ _ (w.heap.size+1) 132 _ (0,0) _ rfl HZ.out.1 Tryz.underlying132 rfl (by kernel_rfl)) rfl ?_;exact ⟨_,rfl,yAC ⟨by omega,by omega⟩ ⟨by omega,by omega⟩ ⟨by omega,by omega⟩ (fun h=>by exact absurd h hk1) (by decide),HZ.out.2.1,HZ.out.2.2⟩
      ·have d14:(x == 14)=false:=by simpa using e5
       by_cases e6:x=15
       ·subst e6;go_wp2_with fail
        refine (xO 4 (by decide) (by decide) HY.out.st).mono ?_;rintro r Y1 ⟨a1,rfl,ha0,ha1,hst,hg⟩;have HY1:Hid (EvB w Y1 B lo hi ao len cap b off c s):=HY.out.draw hst hg;clear hst hg
        go_wp2_with (first
         | (refine w_st (w.heap.size+1) (evA (⟨6,a1,0,0,(0,(⟨#[]⟩:ByteArray),0)⟩:EV)) HY1.out.out (zDD _) ?_;intro z hg hk hz;have HZ:Hid (Bx z (w.heap.size+1) (evA (⟨6,a1,0,0,(0,(⟨#[]⟩:ByteArray),0)⟩:EV)) 132/\St z B ao len cap b off/\w.grownBy z (some B)):=HY1.out.last hg hk;clear hg hk hz))
        refine bodyPost_ret (v:=.agg (evA (⟨6,a1,0,0,(0,(⟨#[]⟩:ByteArray),0)⟩:EV))) (results_cell_row Tryz.results103 _ _ (w.heap.size+1) 132 _ (0,0) _ rfl HZ.out.1 Tryz.underlying132 rfl (by kernel_rfl)) rfl ?_;exact ⟨_,rfl,yAC ⟨by omega,by omega⟩ ⟨by omega,by omega⟩ ⟨by omega,by omega⟩ (fun h=>by exact absurd h (by decide)) (by decide),HZ.out.2.1,HZ.out.2.2⟩
       ·have d15:(x == 15)=false:=by simpa using e6
        by_cases e7:x=16
        ·subst e7;go_wp2_with fail
         refine (xO 4 (by decide) (by decide) HY.out.st).mono ?_;rintro r Y1 ⟨a1,rfl,ha0,ha1,hst,hg⟩;have HY1:Hid (EvB w Y1 B lo hi ao len cap b off c s):=HY.out.draw hst hg;clear hst hg
         go_wp2_with (first
          | (refine w_st (w.heap.size+1) (evA (⟨7,a1,0,0,(0,(⟨#[]⟩:ByteArray),0)⟩:EV)) HY1.out.out (zDD _) ?_;intro z hg hk hz;have HZ:Hid (Bx z (w.heap.size+1) (evA (⟨7,a1,0,0,(0,(⟨#[]⟩:ByteArray),0)⟩:EV)) 132/\St z B ao len cap b off/\w.grownBy z (some B)):=HY1.out.last hg hk;clear hg hk hz))
         refine bodyPost_ret (v:=.agg (evA (⟨7,a1,0,0,(0,(⟨#[]⟩:ByteArray),0)⟩:EV))) (results_cell_row Tryz.results103 _ _ (w.heap.size+1) 132 _ (0,0) _ rfl HZ.out.1 Tryz.underlying132 rfl (by kernel_rfl)) rfl ?_;exact ⟨_,rfl,yAC ⟨by omega,by omega⟩ ⟨by omega,by omega⟩ ⟨by omega,by omega⟩ (fun h=>by exact absurd h (by decide)) (by decide),HZ.out.2.1,HZ.out.2.2⟩
        ·have d16:(x == 16)=false:=by simpa using e7
         clear e0 e5 e6 e7;go_wp2_with fail
         refine (xO 30 (by decide) (by decide) HY.out.st).mono ?_;rintro r Y1 ⟨nm,rfl,hn0,hn1,hst,hg⟩;have HY1:Hid (EvB w Y1 B lo hi ao len cap b off c s):=HY.out.draw hst hg;clear hst hg;go_wp2_with fail
         refine (xO 4 (by decide) (by decide) HY1.out.st).mono ?_;rintro r Y2 ⟨tt,rfl,ht0,ht1,hst,hg⟩;have HY2:Hid (EvB w Y2 B lo hi ao len cap b off c s):=HY1.out.draw hst hg;clear hst hg
         by_cases e8:x=17
         ·subst e8;go_wp2_with fail
          refine (cmd_st HY2.out.st).mono ?_;rintro r Y3 ⟨cm,rfl,hcm,hsz,hst,hg⟩;have HY3:Hid (EvB w Y3 B lo hi ao len cap b off c s):=HY2.out.draw hst hg;clear hst hg;unfold cmdV
          go_wp2_with (first
           | (refine w_st (w.heap.size+1) (evA (⟨10,(l:Int),tt,nm,cm⟩:EV)) HY3.out.out (zDD _) ?_;intro z hg hk hz;have HZ:Hid (Bx z (w.heap.size+1) (evA (⟨10,(l:Int),tt,nm,cm⟩:EV)) 132/\St z B ao len cap b off/\w.grownBy z (some B)):=HY3.out.last hg hk;clear hg hk hz))
          refine bodyPost_ret (v:=.agg (evA (⟨10,(l:Int),tt,nm,cm⟩:EV))) (results_cell_row Tryz.results103 _ _ (w.heap.size+1) 132 _ (0,0) _ rfl HZ.out.1 Tryz.underlying132 rfl (by kernel_rfl)) rfl ?_;exact ⟨_,rfl,yAC ⟨by omega,by omega⟩ ⟨by omega,by omega⟩ ⟨by omega,by omega⟩ (fun h=>by exact absurd h (by decide)) (by omega),HZ.out.2.1,HZ.out.2.2⟩
         ·have d17:(x == 17)=false:=by simpa using e8
          clear e8;obtain ⟨YA,hYA⟩:∃ YA,YA=Y2.alloc (.cells #[.int .i64 8,.int .i64 9,.int .i64 11,.int .i64 8] 3):=⟨_,rfl⟩
          have HYA:Hid (EvB w YA B lo hi ao len cap b off c s/\Bx YA Y2.heap.size #[.int .i64 8,.int .i64 9,.int .i64 11,.int .i64 8] 3/\Y2.heap.size ≠ B):=(by
           have hb:Below Y2.heap.size Y2 YA:=by rw [hYA];exact yA _ _
           refine ⟨HY2.out.more hb,by rw [hYA];exact heap_alloc_new _ _,?_⟩;have:=HY2.out.st.cur.lt
           omega:_/\_)
          go_wp2_with (rw [<- hYA];clear hYA)
          refine (pickL_st (L:=Y2.heap.size) [8,9,11,8] (by decide) (by decide) HYA.out.1.st HYA.out.2.2 HYA.out.2.1).mono ?_;rintro r Yp ⟨kd,hkd,rfl,hst,hg⟩;have HYp:Hid (EvB w Yp B lo hi ao len cap b off c s):=HYA.out.1.draw hst hg
          have hk1:kd ≠ 1:=by
           simp only [List.mem_cons,List.not_mem_nil,or_false] at hkd;omega
          clear hst hg hkd HYA
          go_wp2_with (first
           | (refine w_st (w.heap.size+1) (evA (⟨kd,(l:Int),tt,nm,(0,(⟨#[]⟩:ByteArray),0)⟩:EV)) HYp.out.out (zDD _) ?_;intro z hg hk hz;have HZ:Hid (Bx z (w.heap.size+1) (evA (⟨kd,(l:Int),tt,nm,(0,(⟨#[]⟩:ByteArray),0)⟩:EV)) 132/\St z B ao len cap b off/\w.grownBy z (some B)):=HYp.out.last hg hk;clear hg hk hz))
          refine bodyPost_ret (v:=.agg (evA (⟨kd,(l:Int),tt,nm,(0,(⟨#[]⟩:ByteArray),0)⟩:EV))) (results_cell_row Tryz.results103 _ _ (w.heap.size+1) 132 _ (0,0) _ rfl HZ.out.1 Tryz.underlying132 rfl (by kernel_rfl)) rfl ?_;exact ⟨_,rfl,yAC ⟨by omega,by omega⟩ ⟨by omega,by omega⟩ ⟨by omega,by omega⟩ (fun h=>by exact absurd h hk1) (by decide),HZ.out.2.1,HZ.out.2.2⟩
end Go.Proofs.YtdopefimjabigadGreat
