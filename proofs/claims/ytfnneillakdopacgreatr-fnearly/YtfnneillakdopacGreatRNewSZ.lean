/-
  A text of ours: NewS.
-/
import Derived.Test.YtfnneillakdopacGreatRK1
import Derived.Test.YtfnneillakdopacGreatRK4
import Derived.Test.YtfnneillakdopacGreatRReadySZ
set_option maxRecDepth 100000
set_option maxHeartbeats 32000000
namespace Go.Proofs.YtfnneillakdopacGreatR
open _root_.Go.Proofs.Tryz
open Option renaming none->Aa,some->Ab
open Nat renaming le_trans->Ac,lt_of_lt_of_le->Ad
open List renaming length_append->Ae
open Go.World.ownsRow renaming kept->Af
open Go.RowKit Num
def zBI (l:List LT) (fr:Int):Bool:=l.any fun x=>decide (x.1.2.1=fr)
theorem heard_snoc {l:List LT} {fr:Int} {m:Nat} (h:m < l.length):zBI (l.take (m+1)) fr=(zBI (l.take m) fr || decide (l[m].1.2.1=fr)):=by
 unfold zBI;rw [List.take_succ_eq_append_getElem h,List.any_append];simp
theorem heard_hit {l:List LT} {fr:Int} {m:Nat} (h:m < l.length) (hs:l[m].1.2.1=fr):zBI l fr=true:=List.any_eq_true.2 ⟨l[m],List.getElem_mem h,by simpa using hs⟩
def newsP (p:PE) (n:Int) (l:LT):PE:=
 if xQ l.1.2.2.2.1 n=p.id/\(l.1.2.2.2.1=p.view∨l.1.2.2.2.1=p.view+1) then
  (if zBI (yI p l.1.2.2.2.1).news l.1.2.1=true then yI p l.1.2.2.2.1 else { yI p l.1.2.2.2.1 with news:=(yI p l.1.2.2.2.1).news ++ [l] })
 else p
structure PtL (w y:World) (N lo:Nat) (p:PE) (s:PV) (l:LT):Prop where
 ptr:Bx y N (zA p s) 35
 box:Bx y w.heap.size (zQ l) 61
 own:zO lo y.heap.size y p s
 grown:w.grownBy y (some N)
theorem PtL.more {w y x:World} {N lo:Nat} {p:PE} {s:PV} {l:LT} (h:PtL w y N lo p s l) (hb:Be y x):PtL w x N lo p s l:=
 ⟨bk hb h.ptr,bk hb h.box,(h.own.below hb).wide hb.size (nl _),zP h.grown (yG hb)⟩
theorem new_s (p:PE) (s:PV) (N lo hi:Nat) (n:Int) (l:LT) (w:World) (hD:zO lo hi w p s) (hN:Bx w N (zA p s) 35) (hlo:lo<=w.heap.size) (hs:yC p)
  (hn0:-9223372036854775808<=n) (hn1:n<=9223372036854775807) (hv0:-9223372036854775808<=l.1.2.2.2.1) (hv1:l.1.2.2.2.1<=9223372036854775807) (hp0:-9223372036854775808<=p.view) (hp1:p.view < 9223372036854775807) :
  Calls prog 80 #[.pointer (Ab ⟨N,0,Aa⟩),.int .i64 n,.agg (zQ l)] w fun e w'=>(∃ u,e=.returned u)/\w.grownBy w' (some N)/\∃ s',Bx w' N (zA (newsP p n l) s') 35/\zO lo w'.heap.size w' (newsP p n l) s':=by
 have HS:=hid hs;have bi:N < w.heap.size:=(gl hN);obtain ⟨li,ak,ab,ad,ac⟩:=info_parts zBJ;obtain ⟨W,hW⟩:=nw (w.alloc (.cells (zQ l) 61))
 have HW:Hid (PtL w W N lo p s l):=(by
  have hb:Be w W:=by rw [hW];exact (br _ _).alloc (nl _) _
  exact ⟨(hb.block _ bi).trans hN,by rw [hW];exact heap_alloc_new w _,((hD.below hb).wide (Ac hD.2.2 hb.size) (nl _)),yG hb⟩:PtL w W N lo p s l)
 clear hD hN hs;obtain ⟨vw,aj⟩:=nw l.1.2.2.2.1;obtain ⟨fr,a4⟩:=nw l.1.2.1;rw [<- aj] at hv0 hv1;obtain ⟨ld,e1⟩:∃ ld,xQ vw n=ld:=⟨_,rfl⟩;have aq:Hid (newsP p n l=if ld=p.id/\(vw=p.view∨vw=p.view+1) then (if zBI (yI p vw).news fr=true then yI p vw else { yI p vw with news:=(yI p vw).news ++ [l] }) else p):=(by rw [aj,a4,<- e1,aj];rfl:newsP p n l=_);obtain ⟨R,hR⟩:=nw (newsP p n l);rw [<- hR] at aq ⊢;clear hR;have HX:Hid (∀ x,Be W x->Bx x N (zA p s) 35/\Bx x w.heap.size (zQ l) 61):=fun x hx=>⟨(HW.more hx).ptr,(HW.more hx).box⟩
 have bd:=yX W;have y3:∀ x:Bw W,x.to.cell? ⟨w.heap.size,3,Aa⟩=Ab (.int .i64 vw):=fun x=>by rw [aj];exact zB (HX _ x.below).2 3 _ rfl
 have y0:∀ x:Bw W,x.to.cell? ⟨N,0,Aa⟩=Ab (.int .i64 p.id):=fun x=>zB (HX _ x.below).1 0 _ rfl
 have y1:∀ x:Bw W,x.to.cell? ⟨N,1,Aa⟩=Ab (.int .i64 p.view):=fun x=>zB (HX _ x.below).1 1 _ rfl
 have bu:IntKind.i64.wrap (p.view+1)=p.view+1:=(by rw [IntKind.wrap_i64];omega);have bf:=hid aj;have bn:=hid a4;clear aj a4
 by_cases h1:ld=p.id
 ·have b1:(ld != p.id)=false:=by simpa using h1
  by_cases h4:vw=p.view∨vw=p.view+1
  ·have HR:Hid (R=if zBI (yI p vw).news fr=true then yI p vw else { yI p vw with news:=(yI p vw).news ++ [l] }):=(by rw [aq.out,if_pos ⟨h1,h4⟩]:R=_)
   have hb:(vw != p.view)=false∨((vw != p.view)=true/\(vw != p.view+1)=false):=by
    by_cases h2:vw=p.view
    ·exact Or.inl (by simpa using h2)
    ·exact Or.inr ⟨by simpa using h2,by simpa using h4.resolve_left h2⟩
   clear h1 h4 aq
   rcases hb with b2 | ⟨b2,b3⟩
   all_goals
    go_enter func80,ntmps80;go_wp2;rw [<- hW];clear hW;refine rb ?_;repeat (go_big_quiet_step (first | (with_reducible refine zI (xR e1 hn0 hn1 hv0 hv1 _))))
    refine qnn fun xq=>?_
    have ah:Hid (PtL w xq.to N lo p s l):=HW.more xq.below;obtain ⟨y,hy⟩:=nw xq.to;rw [<- hy] at ah ⊢;clear hy y3 y0 y1 bd HX HW;go_wp2;refine p_rg (fun i=>decide (i < 8)) (fun x=>Bx x N (zA p s) 35/\Bx x w.heap.size (zQ l) 61) ?_;show zX prog _ _ _ _ _ (8+1) (Array.replicate 9 false) _ _;have hS:Bx y.drew N (zA p s) 35/\Bx y.drew w.heap.size (zQ l) 61:=⟨ah.ptr,ah.box⟩;refine p_pt 0 35 N 0 hS ?_;refine p_pt 1 36 N 0 hS ?_;refine p_pt 2 37 N 0 hS ?_;refine zD 3 38 (.agg (zA p s)) hS ?_ (hy:=fun x hx=>ldb N hx.1 underlying35);refine p_pt 4 39 w.heap.size 3 hS ?_;refine zD 5 40 (.int .i64 vw) hS ?_ (hy:=by intro x hx;have c:=zB hx.2 3 (.int .i64 l.1.2.2.2.1) rfl;rw [<- bf.out] at c;go_simp;try rfl);refine kJ 6 41 30 #[.agg (zA p s),.int .i64 vw] ((zCB p s vw y.drew (ah.own.reads.below (br _ _).drew) HS).mono ?_);obtain ⟨q,hq⟩:=nw (yI p vw);have bl:Hid (yC q):=hid (by rw [hq];exact zHA HS vw);rw [<- hq] at HR ⊢;clear hq;rintro e x2 ⟨s1,rfl,ho,bb⟩;have hb:=(bw y).trans bb;have az:Hid (PtL w x2 N lo p s l):=ah.more hb;have a5:Hid (zO lo x2.heap.size x2 q s1):=ho.low (Ac hlo ah.grown.size);have al:Bx x2 N (zA p s) 35/\Bx x2 w.heap.size (zQ l) 61:=⟨az.ptr,az.box⟩;clear ho hb bb hS ah;refine ⟨_,rfl,fun _=>al,?_⟩;simp only [pz];refine zD 7 42 (.pointer (Ab ⟨N,0,Aa⟩)) al ?_;refine p_pa 8 N 0 (zA q s1) (zA p s) (zA q s1) al.1 (by simp [zA]) (zJ a5.1) rfl ?_;intro y2 hg hk;have bc:Hid (PtL w y2 N lo q s1 l):=⟨hk,gk hg al.2 (qsn (by omega)),(a5.boxed al.1 hg).wide hg.size (nl _),zP az.grown hg⟩;clear hg hk al az a5;refine ⟨fun h=>absurd h (by decide),?_⟩;refine p_do ?_;obtain ⟨nv,bz⟩:=nw s1.news;obtain ⟨a,cap,er,-⟩:=bc.own.reads.news;go_wp2
    go_loopw [6] (fun i wr=>∃ m:Nat,m<=q.news.length/\i=.int .i64 (m:Int)/\Hid (zBI (q.news.take m) fr=false)/\Hid (PtL w wr N lo q s1 l)) (fun i _=>q.news.length - (intOf i).toNat)
    case atStart=>exact ⟨0,Nat.zero_le _,rfl,rfl,bc⟩
    case round=>
     obtain ⟨m,hm,rfl,HF,HY⟩:=hrel;have ax:=zB HY.ptr 19 s1.news rfl;rw [er] at ax;have bo:=bl.news
     by_cases hlt:(m:Int) < q.news.length
     ·have a2:m < q.news.length:=by omega
      obtain ⟨a',bp,a8,bj⟩:=HY.own.reads.news;rw [er] at a8;injection a8 with ea _ ec
      subst ea ec;obtain ⟨g,a7,rfl,hg,hc⟩:=bj (by omega);have q0:(0:Int)<=(m:Int):=by omega
      obtain ⟨xf,ao⟩:=nw (q.news[m].1.2.1);have bd:=yX wr;have z1:∀ z:Bw wr,z.to.cell? ⟨g,a7+m * 13+1,Aa⟩=Ab (.int .i64 xf):=fun z=>by rw [z.below.cell (by exact hg),ao];exact hc m a2 1 (by omega)
      have bx:∀ z:Bw wr,z.to.cell? ⟨N,19,Aa⟩=Ab (.slice (Ab ⟨g,a7,Aa⟩) q.news.length cap):=fun z=>by rw [<- er];exact zB (HY.more z.below).ptr 19 s1.news rfl
      have zf:∀ z:Bw wr,z.to.cell? ⟨w.heap.size,1,Aa⟩=Ab (.int .i64 fr):=fun z=>by rw [bn.out];exact zB (HY.more z.below).box 1 _ rfl
      by_cases hh:xf=fr
      ·have bh:(xf == fr)=true:=by simpa using hh
       have dh:decide (xf=fr)=true:=decide_eq_true hh;have HE:Hid (R=q):=hid (by rw [HR.out,if_pos (heard_hit a2 (by rw [<- ao];exact hh))]);clear hh hc hg ao;go_wp2;clear ax;refine rb ?_;repeat (go_big_quiet_step (fail))
       refine qnn fun xq=>?_
       go_wp2;refine bodyPost_ret (results_none results80 _ _ _) rfl ?_;rw [HE.out];exact ⟨⟨_,rfl⟩,(HY.more xq.below).grown,_,(HY.more xq.below).ptr,(HY.more xq.below).own⟩
      ·have bh:(xf == fr)=false:=by simpa using hh
       have dh:decide (xf=fr)=false:=decide_eq_false hh;have HN:Hid (zBI (q.news.take (m+1)) fr=false):=hid (by rw [heard_snoc a2,HF.out,<- ao,dh];rfl);clear hh hc hg ao;go_wp2;clear ax;refine rb ?_;repeat (go_big_quiet_step (fail))
       refine qnn fun xq=>?_
       go_wp2
       go_roundw
       case rel=>exact ⟨m+1,by omega,by go_num,HN,HY.more xq.below⟩
       case measure=>simp [intOf];omega
     ·have bg:m=q.news.length:=by omega
      subst bg;rw [List.take_length] at HF;obtain ⟨q2,ai⟩:∃ q2:PE,q2={ q with news:=q.news ++ [l] }:=⟨_,rfl⟩;have HE:Hid (R=q2):=hid (by rw [HR.out,if_neg (by rw [HF.out];decide),ai]);go_wp2;clear ax;have bv:w.heap.size < wr.heap.size:=(gl HY.box);refine p_rg (fun i=>decide (i < 12)) (fun x=>Bx x N (zA q s1) 35/\Bx x w.heap.size (zQ l) 61) ?_;show zX prog _ _ _ _ _ (12+1) (Array.replicate 13 false) _ _;have hS:Bx wr.drew N (zA q s1) 35/\Bx wr.drew w.heap.size (zQ l) 61:=⟨HY.ptr,HY.box⟩;refine p_pt 0 63 N 0 hS ?_;refine p_pt 2 65 N 0 hS ?_;refine p_pt 3 66 N 0 hS ?_;refine p_pt 4 67 N 19 hS ?_;refine zD 5 68 (.slice a q.news.length cap) hS ?_ (hy:=by intro x hx;have c:=zB hx.1 19 s1.news rfl;rw [er] at c;go_simp;try rfl);refine zD 7 70 (.agg (zQ l)) hS ?_ (hy:=fun x hx=>ldb w.heap.size hx.2 underlying61);have K:∀ x,Be wr x->Bx x N (zA q s1) 35/\Bx x w.heap.size (zQ l) 61:=fun x hb=>⟨(HY.more hb).ptr,(HY.more hb).box⟩
      have RD:∀ x,Be wr x->yM x (.slice a q.news.length cap) 13 yE q.news:=fun x hb=>by rw [<- er];exact (HY.more hb).own.reads.news
      have bq:(q.news.length:Int)<=1048576:=bo;have ap:=bw wr;refine zFC (i:=1) (j:=8) (by kernel_rfl) ?_ ?_
      ·obtain ⟨y1,ae⟩:=nw (wr.drew.alloc (.cells #[] 61));have t:Be wr y1:=by rw [ae];exact ap.alloc ap.size _
       have a3:y1.ownsRow wr.heap.size 61 13 (.slice (Ab ⟨wr.drew.heap.size,0,Aa⟩) 0 0) ([]:List LT).length (zE yE []):=by rw [ae];exact zN (yH wr.drew _ _) ap.size
       refine xU (s:=1) (e':=some 64) rfl rfl rfl (.slice (Ab ⟨wr.drew.heap.size,0,Aa⟩) 0 0) y1 ?_ ⟨fun _=>K y1 t,?_⟩
       ·rw [ae];unfold zQ;go_simp
        try rfl
       simp only [pz];refine zFC (i:=6) (j:=8) (by kernel_rfl) ?_ ?_
       ·refine xS (s:=6) (e':=some 69) rfl rfl rfl (.tmp 64) (.tmp 68) 33 rfl wr.heap.size 61 li _ 104 underlying33 ak ab ad ac rfl (by decide) xP kF (.slice (Ab ⟨wr.drew.heap.size,0,Aa⟩) 0 0) [] rfl a3 _ q.news rfl (RD y1 t) (by simp;unfold maxLen;omega) (by simp;omega) t.size ?_;intro am y2 a0 be bk;simp only [List.nil_append] at a0;have f:Be wr y2:=t.grown be t.size (fun k hk=>(a3.lt k hk).1);refine ⟨fun _=>K y2 f,?_⟩;simp only [pz];obtain ⟨y3,ay⟩:=nw (y2.alloc (.cells (zQ l) 61));have o:Be wr y3:=by rw [ay];exact f.alloc f.size _
        have aw:Bx y3 y2.heap.size (zQ l) 61:=by rw [ay];exact heap_alloc_new y2 _
        refine p_on 8 ?_;refine xU (s:=8) (e':=some 71) rfl rfl rfl (.slice (Ab ⟨y2.heap.size,0,Aa⟩) 1 1) y3 ?_ ⟨fun _=>K y3 o,?_⟩
        ·rw [ay];unfold zQ;go_simp
         try rfl
        simp only [pz];have r:=zS a0 (show Be y2 y3 by rw [ay];exact (br _ _).alloc (nl _) _);refine qO (s:=9) (e':=some 72) rfl rfl rfl (.tmp 69) (.tmp 71) 33 rfl (by kernel_rfl) wr.heap.size 61 li _ 13 104 underlying33 ak ab ad ac rfl (by decide) am _ _ rfl r ⟨y2.heap.size,0,Aa⟩ 1 1 (yE l) rfl rfl (World.news_of_block aw) (kF l) (by decide) (by unfold maxLen;omega) (by omega) o.size _ rfl ?_;intro g2 d z an av a9 af;have b:Be wr z:=o.grown av o.size (fun k hk=>(r.lt k hk).1);refine ⟨fun _=>K z b,?_⟩;simp only [pz];refine zD 10 73 (.pointer (Ab ⟨N,0,Aa⟩)) (K z b) ?_;refine zD 11 74 (.pointer (Ab ⟨N,19,Aa⟩)) (K z b) ?_;refine p_ce 12 N 19 (.slice (Ab ⟨g2,0,Aa⟩) (q.news.length+1) d) (zA q s1) (zA q2 { s1 with news:=.slice (Ab ⟨g2,0,Aa⟩) (q.news.length+1) d }) ((K z b).1) (by simp [zA]) rfl (by rw [ai];rfl) ?_;intro z2 hg hk
        have HZ:Hid (w.grownBy z2 (some N)/\zO lo z2.heap.size z2 q2 { s1 with news:=.slice (Ab ⟨g2,0,Aa⟩) (q.news.length+1) d }):=(by
         have r:z.ownsRow wr.heap.size 61 13 (.slice (Ab ⟨g2,0,Aa⟩) (q.news.length+1) d) (q.news ++ [l]).length (zE yE (q.news ++ [l])):=by rw [Ae,zY];simpa [zE] using an
         have au:=Af r hg (zH r (K z b).1 (by decide));refine ⟨zP (HY.more b).grown hg,?_⟩;rw [ai]
         exact (HY.own.below b).boxed (K z b).1 hg |>.setNews (Ac b.size hg.size) (nl _) (zN au (Ac hlo HY.grown.size)) (fun g e=>by cases e;exact Ad af hg.size) (fun g e=>Or.inr (r.lt g e).1):_/\_)
        refine ⟨fun h=>absurd h (by decide),?_⟩;refine p_do ?_;go_wp2;refine bodyPost_end (results_none results80 _ _ _) rfl ?_;rw [HE.out];exact ⟨⟨_,rfl⟩,HZ.1,_,hk,HZ.2⟩
       ·obtain ⟨y2,aa⟩:=nw (y1.alloc (.cells (zQ l) 61));have f:Be wr y2:=by rw [aa];exact t.alloc t.size _
        have bm:Bx y2 y1.heap.size (zQ l) 61:=by rw [aa];exact heap_alloc_new y1 _
        refine xU (s:=8) (e':=some 71) rfl rfl rfl (.slice (Ab ⟨y1.heap.size,0,Aa⟩) 1 1) y2 ?_ ⟨fun _=>K y2 f,?_⟩
        ·rw [aa];unfold zQ;go_simp
         try rfl
        simp only [pz];have ar:=zS a3 (show Be y1 y2 by rw [aa];exact (br _ _).alloc (nl _) _);refine p_on 6 ?_;refine xS (s:=6) (e':=some 69) rfl rfl rfl (.tmp 64) (.tmp 68) 33 rfl wr.heap.size 61 li _ 104 underlying33 ak ab ad ac rfl (by decide) xP kF (.slice (Ab ⟨wr.drew.heap.size,0,Aa⟩) 0 0) [] rfl ar _ q.news rfl (RD y2 f) (by simp;unfold maxLen;omega) (by simp;omega) f.size ?_;intro am y3 v ag a1;simp only [List.nil_append] at v;have o:Be wr y3:=f.grown ag f.size (fun k hk=>(ar.lt k hk).1);refine ⟨fun _=>K y3 o,?_⟩;simp only [pz];have aw:Bx y3 y1.heap.size (zQ l) 61:=gk ag bm (fun e=>by have e:=Option.some.inj e;rw [ae] at e;simp at e);refine qO (s:=9) (e':=some 72) rfl rfl rfl (.tmp 69) (.tmp 71) 33 rfl (by kernel_rfl) wr.heap.size 61 li _ 13 104 underlying33 ak ab ad ac rfl (by decide) am _ _ rfl v ⟨y1.heap.size,0,Aa⟩ 1 1 (yE l) rfl rfl (World.news_of_block aw) (kF l) (by decide) (by unfold maxLen;omega) (by omega) o.size _ rfl ?_;intro g2 d z an av a9 af;have b:Be wr z:=o.grown av o.size (fun k hk=>(v.lt k hk).1);refine ⟨fun _=>K z b,?_⟩;simp only [pz];refine zD 10 73 (.pointer (Ab ⟨N,0,Aa⟩)) (K z b) ?_;refine zD 11 74 (.pointer (Ab ⟨N,19,Aa⟩)) (K z b) ?_;refine p_ce 12 N 19 (.slice (Ab ⟨g2,0,Aa⟩) (q.news.length+1) d) (zA q s1) (zA q2 { s1 with news:=.slice (Ab ⟨g2,0,Aa⟩) (q.news.length+1) d }) ((K z b).1) (by simp [zA]) rfl (by rw [ai];rfl) ?_;intro z2 hg hk
        have HZ:Hid (w.grownBy z2 (some N)/\zO lo z2.heap.size z2 q2 { s1 with news:=.slice (Ab ⟨g2,0,Aa⟩) (q.news.length+1) d }):=(by
         have r:z.ownsRow wr.heap.size 61 13 (.slice (Ab ⟨g2,0,Aa⟩) (q.news.length+1) d) (q.news ++ [l]).length (zE yE (q.news ++ [l])):=by rw [Ae,zY];simpa [zE] using an
         have au:=Af r hg (zH r (K z b).1 (by decide));refine ⟨zP (HY.more b).grown hg,?_⟩;rw [ai]
         exact (HY.own.below b).boxed (K z b).1 hg |>.setNews (Ac b.size hg.size) (nl _) (zN au (Ac hlo HY.grown.size)) (fun g e=>by cases e;exact Ad af hg.size) (fun g e=>Or.inr (r.lt g e).1):_/\_)
        refine ⟨fun h=>absurd h (by decide),?_⟩;refine p_do ?_;go_wp2;refine bodyPost_end (results_none results80 _ _ _) rfl ?_;rw [HE.out];exact ⟨⟨_,rfl⟩,HZ.1,_,hk,HZ.2⟩
      ·obtain ⟨y1,ae⟩:=nw (wr.drew.alloc (.cells (zQ l) 61));have t:Be wr y1:=by rw [ae];exact ap.alloc ap.size _
       have a6:Bx y1 wr.drew.heap.size (zQ l) 61:=by rw [ae];exact heap_alloc_new wr.drew _
       refine xU (s:=8) (e':=some 71) rfl rfl rfl (.slice (Ab ⟨wr.drew.heap.size,0,Aa⟩) 1 1) y1 ?_ ⟨fun _=>K y1 t,?_⟩
       ·rw [ae];unfold zQ;go_simp
        try rfl
       simp only [pz];obtain ⟨y2,aa⟩:=nw (y1.alloc (.cells #[] 61));have f:Be wr y2:=by rw [aa];exact t.alloc t.size _
       have ar:y2.ownsRow wr.heap.size 61 13 (.slice (Ab ⟨y1.heap.size,0,Aa⟩) 0 0) ([]:List LT).length (zE yE []):=by rw [aa];exact zN (yH y1 _ _) t.size
       refine p_on 1 ?_;refine xU (s:=1) (e':=some 64) rfl rfl rfl (.slice (Ab ⟨y1.heap.size,0,Aa⟩) 0 0) y2 ?_ ⟨fun _=>K y2 f,?_⟩
       ·rw [aa];unfold zQ;go_simp
        try rfl
       simp only [pz];refine p_on 6 ?_;refine xS (s:=6) (e':=some 69) rfl rfl rfl (.tmp 64) (.tmp 68) 33 rfl wr.heap.size 61 li _ 104 underlying33 ak ab ad ac rfl (by decide) xP kF (.slice (Ab ⟨y1.heap.size,0,Aa⟩) 0 0) [] rfl ar _ q.news rfl (RD y2 f) (by simp;unfold maxLen;omega) (by simp;omega) f.size ?_;intro am y3 v ag a1;simp only [List.nil_append] at v;have o:Be wr y3:=f.grown ag f.size (fun k hk=>(ar.lt k hk).1);refine ⟨fun _=>K y3 o,?_⟩;simp only [pz];have aw:Bx y3 wr.drew.heap.size (zQ l) 61:=(ag.block _ (Ad (gl a6) (by rw [aa];simp)) (fun e=>by have e:=Option.some.inj e;rw [ae] at e;simp at e)).trans (((show Be y1 y2 by rw [aa];exact (br _ _).alloc (nl _) _).block _ (gl a6)).trans a6);refine qO (s:=9) (e':=some 72) rfl rfl rfl (.tmp 69) (.tmp 71) 33 rfl (by kernel_rfl) wr.heap.size 61 li _ 13 104 underlying33 ak ab ad ac rfl (by decide) am _ _ rfl v ⟨wr.drew.heap.size,0,Aa⟩ 1 1 (yE l) rfl rfl (World.news_of_block aw) (kF l) (by decide) (by unfold maxLen;omega) (by omega) o.size _ rfl ?_;intro g2 d z an av a9 af;have b:Be wr z:=o.grown av o.size (fun k hk=>(v.lt k hk).1);refine ⟨fun _=>K z b,?_⟩;simp only [pz];refine zD 10 73 (.pointer (Ab ⟨N,0,Aa⟩)) (K z b) ?_;refine zD 11 74 (.pointer (Ab ⟨N,19,Aa⟩)) (K z b) ?_;refine p_ce 12 N 19 (.slice (Ab ⟨g2,0,Aa⟩) (q.news.length+1) d) (zA q s1) (zA q2 { s1 with news:=.slice (Ab ⟨g2,0,Aa⟩) (q.news.length+1) d }) ((K z b).1) (by simp [zA]) rfl (by rw [ai];rfl) ?_;intro z2 hg hk
       have HZ:Hid (w.grownBy z2 (some N)/\zO lo z2.heap.size z2 q2 { s1 with news:=.slice (Ab ⟨g2,0,Aa⟩) (q.news.length+1) d }):=(by
        have r:z.ownsRow wr.heap.size 61 13 (.slice (Ab ⟨g2,0,Aa⟩) (q.news.length+1) d) (q.news ++ [l]).length (zE yE (q.news ++ [l])):=by rw [Ae,zY];simpa [zE] using an
        have au:=Af r hg (zH r (K z b).1 (by decide));refine ⟨zP (HY.more b).grown hg,?_⟩;rw [ai]
        exact (HY.own.below b).boxed (K z b).1 hg |>.setNews (Ac b.size hg.size) (nl _) (zN au (Ac hlo HY.grown.size)) (fun g e=>by cases e;exact Ad af hg.size) (fun g e=>Or.inr (r.lt g e).1):_/\_)
       refine ⟨fun h=>absurd h (by decide),?_⟩;refine p_do ?_;go_wp2;refine bodyPost_end (results_none results80 _ _ _) rfl ?_;rw [HE.out];exact ⟨⟨_,rfl⟩,HZ.1,_,hk,HZ.2⟩
  ·have b2:(vw != p.view)=true:=by simpa using fun h=>h4 (Or.inl h)
   have b3:(vw != p.view+1)=true:=by simpa using fun h=>h4 (Or.inr h)
   have HE:Hid (R=p):=hid (by rw [aq.out,if_neg (fun h=>h4 h.2)]);clear h1 h4;go_enter func80,ntmps80;go_wp2;rw [<- hW];clear hW;refine rb ?_;repeat (go_big_quiet_step (first | (with_reducible refine zI (xR e1 hn0 hn1 hv0 hv1 _))))
   refine qnn fun xq=>?_
   go_wp2;refine bodyPost_ret (results_none results80 _ _ _) rfl ?_;rw [HE.out];exact ⟨⟨_,rfl⟩,(HW.more xq.below).grown,_,(HW.more xq.below).ptr,(HW.more xq.below).own⟩
 ·have b1:(ld != p.id)=true:=by simpa using h1
  have HE:Hid (R=p):=hid (by rw [aq.out,if_neg (fun h=>h1 h.1)]);go_enter func80,ntmps80;go_wp2;rw [<- hW];clear hW;refine rb ?_;repeat (go_big_quiet_step (first | (with_reducible refine zI (xR e1 hn0 hn1 hv0 hv1 _))))
  refine qnn fun xq=>?_
  go_wp2;refine bodyPost_ret (results_none results80 _ _ _) rfl ?_;rw [HE.out];exact ⟨⟨_,rfl⟩,(HW.more xq.below).grown,_,(HW.more xq.below).ptr,(HW.more xq.below).own⟩
end Go.Proofs.YtfnneillakdopacGreatR
