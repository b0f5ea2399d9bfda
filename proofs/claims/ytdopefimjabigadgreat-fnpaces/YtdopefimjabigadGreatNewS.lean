/-
  A text of ours: NewS.
-/
import Derived.Test.YtdopefimjabigadGreatK1
import Derived.Test.YtdopefimjabigadGreatK4
import Derived.Test.YtdopefimjabigadGreatReadyS
set_option maxRecDepth 100000
set_option maxHeartbeats 32000000
namespace Go.Proofs.YtdopefimjabigadGreat
open Go.RowKit Num
def zBI (l:List LT) (fr:Int):Bool:=l.any fun x=>decide (x.1.2.1=fr)
theorem heard_snoc {l:List LT} {fr:Int} {m:Nat} (h:m < l.length):zBI (l.take (m+1)) fr=(zBI (l.take m) fr || decide (l[m].1.2.1=fr)):=by
 unfold zBI;rw [List.take_succ_eq_append_getElem h,List.any_append];simp
theorem heard_hit {l:List LT} {fr:Int} {m:Nat} (h:m < l.length) (hs:l[m].1.2.1=fr):zBI l fr=true:=List.any_eq_true.2 ⟨l[m],List.getElem_mem h,by simpa using hs⟩
def newsP (p:PE) (n:Int) (l:LT):PE:=
 if xQ l.1.2.2.2.1 n=p.id∧(l.1.2.2.2.1=p.view∨l.1.2.2.2.1=p.view+1) then
  (if zBI (yI p l.1.2.2.2.1).news l.1.2.1=true then yI p l.1.2.2.2.1 else { yI p l.1.2.2.2.1 with news:=(yI p l.1.2.2.2.1).news ++ [l] })
 else p
structure PtL (w y:World) (N lo:Nat) (p:PE) (s:PV) (l:LT):Prop where
 ptr:Bx y N (zA p s) 35
 box:Bx y w.heap.size (zQ l) 37
 own:zO lo y.heap.size y p s
 grown:w.grownBy y (some N)
theorem PtL.more {w y x:World} {N lo:Nat} {p:PE} {s:PV} {l:LT} (h:PtL w y N lo p s l) (hb:Below y.heap.size y x):PtL w x N lo p s l:=
 ⟨(hb.block _ (gl h.ptr)).trans h.ptr,(hb.block _ (gl h.box)).trans h.box,(h.own.below hb).wide hb.size (nl _),zP h.grown (yG hb)⟩
theorem new_s (p:PE) (s:PV) (N lo hi:Nat) (n:Int) (l:LT) (w:World) (hD:zO lo hi w p s) (hN:Bx w N (zA p s) 35) (hlo:lo≤w.heap.size) (hs:yC p)
  (hn0:-9223372036854775808≤n) (hn1:n≤9223372036854775807) (hv0:-9223372036854775808≤l.1.2.2.2.1) (hv1:l.1.2.2.2.1≤9223372036854775807) (hp0:-9223372036854775808≤p.view) (hp1:p.view < 9223372036854775807) :
  Calls Tryz.prog 82 #[.pointer (some ⟨N,0,none⟩),.int .i64 n,.agg (zQ l)] w fun e w'=>(∃ u,e=.returned u)∧w.grownBy w' (some N)∧∃ s',Bx w' N (zA (newsP p n l) s') 35∧zO lo w'.heap.size w' (newsP p n l) s':=by
 have HS:=hid hs;have hNl:N < w.heap.size:=(gl hN);obtain ⟨li,lhi,lhz0,lhz1,lhz2⟩:=info_parts zBJ;obtain ⟨W,hW⟩:∃ W,W=w.alloc (.cells (zQ l) 37):=⟨_,rfl⟩
 have HW:Hid (PtL w W N lo p s l):=(by
  have hb:Below w.heap.size w W:=by rw [hW];exact (br _ _).alloc (nl _) _
  exact ⟨(hb.block _ hNl).trans hN,by rw [hW];exact heap_alloc_new w _,((hD.below hb).wide (Nat.le_trans hD.2.2 hb.size) (nl _)),yG hb⟩:PtL w W N lo p s l)
 clear hD hN hs;obtain ⟨vw,hvw⟩:∃ vw,vw=l.1.2.2.2.1:=⟨_,rfl⟩;obtain ⟨fr,hfr⟩:∃ fr,fr=l.1.2.1:=⟨_,rfl⟩;rw [← hvw] at hv0 hv1;obtain ⟨ld,e1⟩:∃ ld,xQ vw n=ld:=⟨_,rfl⟩;have HNP:Hid (newsP p n l=if ld=p.id∧(vw=p.view∨vw=p.view+1) then (if zBI (yI p vw).news fr=true then yI p vw else { yI p vw with news:=(yI p vw).news ++ [l] }) else p):=(by rw [hvw,hfr,← e1,hvw];rfl:newsP p n l=_);obtain ⟨R,hR⟩:∃ R,R=newsP p n l:=⟨_,rfl⟩;rw [← hR] at HNP ⊢;clear hR;have HX:Hid (∀ x,Below W.heap.size W x→Bx x N (zA p s) 35∧Bx x w.heap.size (zQ l) 37):=fun x hx=>⟨(HW.out.more hx).ptr,(HW.out.more hx).box⟩
 have hne:=yX W;have y3:∀ x:Bw W,x.to.cell? ⟨w.heap.size,3,none⟩=some (.int .i64 vw):=fun x=>by rw [hvw];exact zB (HX.out _ x.below).2 3 _ rfl
 have y0:∀ x:Bw W,x.to.cell? ⟨N,0,none⟩=some (.int .i64 p.id):=fun x=>zB (HX.out _ x.below).1 0 _ rfl
 have y1:∀ x:Bw W,x.to.cell? ⟨N,1,none⟩=some (.int .i64 p.view):=fun x=>zB (HX.out _ x.below).1 1 _ rfl
 have hadd:IntKind.i64.wrap (p.view+1)=p.view+1:=(by rw [IntKind.wrap_i64];omega);have HVW:=hid hvw;have HFR:=hid hfr;clear hvw hfr
 by_cases h1:ld=p.id
 ·have b1:(ld != p.id)=false:=by simpa using h1
  by_cases h2:vw=p.view
  ·have b2:(vw != p.view)=false:=by simpa using h2
   have HR:Hid (R=if zBI (yI p vw).news fr=true then yI p vw else { yI p vw with news:=(yI p vw).news ++ [l] }):=(by rw [HNP.out,if_pos ⟨h1,Or.inl h2⟩]:R=_);clear h1 h2 HNP;go_enter Tryz.func82,Tryz.ntmps82;go_wp2;rw [← hW];clear hW;refine rb ?_;repeat (go_big_quiet_step (first | (with_reducible refine zI (xR e1 hn0 hn1 hv0 hv1 _))))
   refine wpQuiet_nil ?_;intro _ hw';obtain ⟨xq,rfl⟩:=hw';have HX1:Hid (PtL w xq.to N lo p s l):=HW.out.more xq.below;obtain ⟨y,hy⟩:∃ y,y=xq.to:=⟨_,rfl⟩;rw [← hy] at HX1 ⊢;clear hy y3 y0 y1 hne HX HW;go_wp2;refine zT (fun i=>decide (i < 8)) (fun x=>Bx x N (zA p s) 35∧Bx x w.heap.size (zQ l) 37) (by kernel_rfl) ?_;show zX Tryz.prog _ _ _ _ _ (8+1) (Array.replicate 9 false) _ _;have hS:Bx y.drew N (zA p s) 35∧Bx y.drew w.heap.size (zQ l) 37:=⟨HX1.out.ptr,HX1.out.box⟩;refine zD 0 35 (.pointer (some ⟨N,0,none⟩)) hS ?_;refine zD 1 36 (.pointer (some ⟨N,0,none⟩)) hS ?_;refine zD 2 37 (.pointer (some ⟨N,0,none⟩)) hS ?_;refine zD 3 38 (.agg (zA p s)) hS ?_ (hy:=fun x hx=>zM _ _ rfl N rfl _ _ _ _ hx.1 Tryz.underlying35 rfl (by kernel_rfl));refine zD 4 39 (.pointer (some ⟨w.heap.size,3,none⟩)) hS ?_;refine zD 5 40 (.int .i64 vw) hS ?_ (hy:=by intro x hx;have c:=zB hx.2 3 (.int .i64 l.1.2.2.2.1) rfl;rw [← HVW.out] at c;go_simp;try with_reducible rfl);refine kJ 6 41 37 #[.agg (zA p s),.int .i64 vw] ((zCB p s vw y.drew (HX1.out.own.reads.below (br _ _).drew) HS.out).mono ?_);obtain ⟨q,hq⟩:∃ q,q=yI p vw:=⟨_,rfl⟩;have HSQ:Hid (yC q):=hid (by rw [hq];exact zHA HS.out vw);rw [← hq] at HR ⊢;clear hq;rintro e x2 ⟨s1,rfl,ho,hb0⟩;have hb:Below y.heap.size y x2:=((br _ _).drew).trans hb0;have HX2:Hid (PtL w x2 N lo p s l):=HX1.out.more hb;have HO2:Hid (zO lo x2.heap.size x2 q s1):=ho.low (Nat.le_trans hlo HX1.out.grown.size);have hS1:Bx x2 N (zA p s) 35∧Bx x2 w.heap.size (zQ l) 37:=⟨HX2.out.ptr,HX2.out.box⟩;clear ho hb hb0 hS HX1;refine ⟨_,rfl,fun _=>hS1,?_⟩;simp only [pz];refine zD 7 42 (.pointer (some ⟨N,0,none⟩)) hS1 ?_;refine xW (s:=8) (N:=N) (o:=0) (cells:=zA q s1) (old:=zA p s) (new:=zA q s1) rfl rfl rfl rfl (by kernel_rfl) rfl rfl hS1.1 (by kernel_rfl) (by simp [zA]) (zJ HO2.out.1) rfl ?_;intro y2 hg hk;have HY2:Hid (PtL w y2 N lo q s1 l):=⟨hk,(hg.block _ (gl hS1.2) (fun e=>by have:=Option.some.inj e;omega)).trans hS1.2,(HO2.out.boxed hS1.1 hg).wide hg.size (nl _),zP HX2.out.grown hg⟩;clear hg hk hS1 HX2 HO2;refine ⟨fun h=>absurd h (by decide),?_⟩;refine zK (by kernel_rfl) ?_ _;obtain ⟨nv,hnv⟩:∃ nv,nv=s1.news:=⟨_,rfl⟩;obtain ⟨a,cap,er,-⟩:=HY2.out.own.reads.news;go_wp2
   go_loopw [6] (fun i wr=>∃ m:Nat,m≤q.news.length∧i=.int .i64 (m:Int)∧Hid (zBI (q.news.take m) fr=false)∧Hid (PtL w wr N lo q s1 l)) (fun i _=>q.news.length - (intOf i).toNat)
   case atStart=>exact ⟨0,Nat.zero_le _,rfl,rfl,HY2.out⟩
   case round=>
    obtain ⟨m,hm,rfl,HF,HY⟩:=hrel;have c19:=zB HY.out.ptr 19 s1.news rfl;rw [er] at c19;have hsz:=HSQ.out.news
    by_cases hlt:(m:Int) < q.news.length
    ·have hmn:m < q.news.length:=by omega
     obtain ⟨a',cap',er',hr'⟩:=HY.out.own.reads.news;rw [er] at er';injection er' with ea _ ec
     subst ea ec;obtain ⟨g,off,rfl,hg,hc⟩:=hr' (by omega);have q0:(0:Int)≤(m:Int):=by omega
     obtain ⟨xf,hxf⟩:∃ xf,xf=q.news[m].1.2.1:=⟨_,rfl⟩;have hne:=yX wr;have z1:∀ z:Bw wr,z.to.cell? ⟨g,off+m * 13+1,none⟩=some (.int .i64 xf):=fun z=>by rw [z.below.cell (by exact hg),hxf];exact hc m hmn 1 (by omega)
     have z19:∀ z:Bw wr,z.to.cell? ⟨N,19,none⟩=some (.slice (some ⟨g,off,none⟩) q.news.length cap):=fun z=>by rw [← er];exact zB (HY.out.more z.below).ptr 19 s1.news rfl
     have zf:∀ z:Bw wr,z.to.cell? ⟨w.heap.size,1,none⟩=some (.int .i64 fr):=fun z=>by rw [HFR.out];exact zB (HY.out.more z.below).box 1 _ rfl
     by_cases hh:xf=fr
     ·have bh:(xf == fr)=true:=by simpa using hh
      have dh:decide (xf=fr)=true:=decide_eq_true hh;have HE:Hid (R=q):=hid (by rw [HR.out,if_pos (heard_hit hmn (by rw [← hxf];exact hh))]);clear hh hc hg hxf;go_wp2;clear c19;refine rb ?_;repeat (go_big_quiet_step (fail))
      refine wpQuiet_nil ?_;intro _ hw';obtain ⟨xq,rfl⟩:=hw';go_wp2;refine bodyPost_ret (results_none Tryz.results82 _ _ _) rfl ?_;rw [HE.out];exact ⟨⟨_,rfl⟩,(HY.out.more xq.below).grown,_,(HY.out.more xq.below).ptr,(HY.out.more xq.below).own⟩
     ·have bh:(xf == fr)=false:=by simpa using hh
      have dh:decide (xf=fr)=false:=decide_eq_false hh;have HN:Hid (zBI (q.news.take (m+1)) fr=false):=hid (by rw [heard_snoc hmn,HF.out,← hxf,dh];rfl);clear hh hc hg hxf;go_wp2;clear c19;refine rb ?_;repeat (go_big_quiet_step (fail))
      refine wpQuiet_nil ?_;intro _ hw';obtain ⟨xq,rfl⟩:=hw';go_wp2
      go_roundw
      case rel=>exact ⟨m+1,by omega,by go_num,HN.out,HY.out.more xq.below⟩
      case measure=>simp [intOf];omega
    ·have hml:m=q.news.length:=by omega
     subst hml;rw [List.take_length] at HF;obtain ⟨q2,hq2⟩:∃ q2:PE,q2={ q with news:=q.news ++ [l] }:=⟨_,rfl⟩;have HE:Hid (R=q2):=hid (by rw [HR.out,if_neg (by rw [HF.out];decide),hq2]);go_wp2;clear c19;have hww:w.heap.size < wr.heap.size:=(gl HY.out.box);refine zT (fun i=>decide (i < 12)) (fun x=>Bx x N (zA q s1) 35∧Bx x w.heap.size (zQ l) 37) (by kernel_rfl) ?_;show zX Tryz.prog _ _ _ _ _ (12+1) (Array.replicate 13 false) _ _;have hS:Bx wr.drew N (zA q s1) 35∧Bx wr.drew w.heap.size (zQ l) 37:=⟨HY.out.ptr,HY.out.box⟩;refine zD 0 63 (.pointer (some ⟨N,0,none⟩)) hS ?_;refine zD 2 65 (.pointer (some ⟨N,0,none⟩)) hS ?_;refine zD 3 66 (.pointer (some ⟨N,0,none⟩)) hS ?_;refine zD 4 67 (.pointer (some ⟨N,19,none⟩)) hS ?_;refine zD 5 68 (.slice a q.news.length cap) hS ?_ (hy:=by intro x hx;have c:=zB hx.1 19 s1.news rfl;rw [er] at c;go_simp;try with_reducible rfl);refine zD 7 70 (.agg (zQ l)) hS ?_ (hy:=fun x hx=>zM _ _ rfl w.heap.size rfl _ _ _ _ hx.2 Tryz.underlying37 rfl (by kernel_rfl));have K:∀ x,Below wr.heap.size wr x→Bx x N (zA q s1) 35∧Bx x w.heap.size (zQ l) 37:=fun x hb=>⟨(HY.out.more hb).ptr,(HY.out.more hb).box⟩
     have RD:∀ x,Below wr.heap.size wr x→yM x (.slice a q.news.length cap) 13 yE q.news:=fun x hb=>by rw [← er];exact (HY.out.more hb).own.reads.news
     have hlen:(q.news.length:Int)≤1048576:=hsz;have hd0:Below wr.heap.size wr wr.drew:=(br _ _).drew;refine zFC (i:=1) (j:=8) (by kernel_rfl) ?_ ?_
     ·obtain ⟨y1,hy1⟩:∃ y1,y1=wr.drew.alloc (.cells #[] 37):=⟨_,rfl⟩;have hb1:Below wr.heap.size wr y1:=by rw [hy1];exact hd0.alloc hd0.size _
      have oy1:y1.ownsRow wr.heap.size 37 13 (.slice (some ⟨wr.drew.heap.size,0,none⟩) 0 0) ([]:List LT).length (zE yE []):=by rw [hy1];exact zN (yH wr.drew _ _) hd0.size
      refine xU (s:=1) (e':=some 64) rfl rfl rfl (.slice (some ⟨wr.drew.heap.size,0,none⟩) 0 0) y1 ?_ ⟨fun _=>K y1 hb1,?_⟩
      ·rw [hy1];unfold zQ;go_simp
       try with_reducible rfl
      simp only [pz];refine zFC (i:=6) (j:=8) (by kernel_rfl) ?_ ?_
      ·refine xS (s:=6) (e':=some 69) rfl rfl rfl (.tmp 64) (.tmp 68) 33 rfl wr.heap.size 37 li _ 104 Tryz.underlying33 lhi lhz0 lhz1 lhz2 rfl (by decide) xP kF (.slice (some ⟨wr.drew.heap.size,0,none⟩) 0 0) [] rfl oy1 _ q.news rfl (RD y1 hb1) (by simp;unfold maxLen;omega) (by simp;omega) hb1.size ?_;intro v69 y2 hoy2 hgy2 haty2;simp only [List.nil_append] at hoy2;have hb2:Below wr.heap.size wr y2:=hb1.grown hgy2 hb1.size (fun k hk=>(oy1.lt k hk).1);refine ⟨fun _=>K y2 hb2,?_⟩;simp only [pz];obtain ⟨y3,hy3⟩:∃ y3,y3=y2.alloc (.cells (zQ l) 37):=⟨_,rfl⟩;have hb3:Below wr.heap.size wr y3:=by rw [hy3];exact hb2.alloc hb2.size _
       have by3:Bx y3 y2.heap.size (zQ l) 37:=by rw [hy3];exact heap_alloc_new y2 _
       refine kG (i:=8) (by kernel_rfl) ?_;refine xU (s:=8) (e':=some 71) rfl rfl rfl (.slice (some ⟨y2.heap.size,0,none⟩) 1 1) y3 ?_ ⟨fun _=>K y3 hb3,?_⟩
       ·rw [hy3];unfold zQ;go_simp
        try with_reducible rfl
       simp only [pz];have ho3:=zS hoy2 (show Below y2.heap.size y2 y3 by rw [hy3];exact (br _ _).alloc (nl _) _);refine qO (s:=9) (e':=some 72) rfl rfl rfl (.tmp 69) (.tmp 71) 33 rfl (by kernel_rfl) wr.heap.size 37 li _ 13 104 Tryz.underlying33 lhi lhz0 lhz1 lhz2 rfl (by decide) v69 _ _ rfl ho3 ⟨y2.heap.size,0,none⟩ 1 1 (yE l) rfl rfl (World.news_of_block by3) (kF l) (by decide) (by unfold maxLen;omega) (by omega) hb3.size _ rfl ?_;intro g2 cap2 z ho2 hg2 hwh hlt2;have hbz:Below wr.heap.size wr z:=hb3.grown hg2 hb3.size (fun k hk=>(ho3.lt k hk).1);refine ⟨fun _=>K z hbz,?_⟩;simp only [pz];refine zD 10 73 (.pointer (some ⟨N,0,none⟩)) (K z hbz) ?_;refine zD 11 74 (.pointer (some ⟨N,19,none⟩)) (K z hbz) ?_;refine kT (s:=12) (N:=N) (o:=19) (u:=.slice (some ⟨g2,0,none⟩) (q.news.length+1) cap2) (old:=zA q s1) (new:=zA q2 { s1 with news:=.slice (some ⟨g2,0,none⟩) (q.news.length+1) cap2 }) rfl rfl rfl rfl (by kernel_rfl) rfl rfl (K z hbz).1 (by kernel_rfl) (by simp [zA]) rfl (by rw [hq2];rfl) ?_;intro z2 hg hk
       have HZ:Hid (w.grownBy z2 (some N)∧zO lo z2.heap.size z2 q2 { s1 with news:=.slice (some ⟨g2,0,none⟩) (q.news.length+1) cap2 }):=(by
        have ho3:z.ownsRow wr.heap.size 37 13 (.slice (some ⟨g2,0,none⟩) (q.news.length+1) cap2) (q.news ++ [l]).length (zE yE (q.news ++ [l])):=by rw [List.length_append,zY];simpa [zE] using ho2
        have ho4:=World.ownsRow.kept ho3 hg (zH ho3 (K z hbz).1 (by decide));refine ⟨zP (HY.out.more hbz).grown hg,?_⟩;rw [hq2]
        exact (HY.out.own.below hbz).boxed (K z hbz).1 hg |>.setNews (Nat.le_trans hbz.size hg.size) (nl _) (zN ho4 (Nat.le_trans hlo HY.out.grown.size)) (fun g e=>by cases e;exact Nat.lt_of_lt_of_le hlt2 hg.size) (fun g e=>Or.inr (ho3.lt g e).1):_∧_)
       refine ⟨fun h=>absurd h (by decide),?_⟩;refine zK (by kernel_rfl) ?_ _;go_wp2;refine bodyPost_end (results_none Tryz.results82 _ _ _) rfl ?_;rw [HE.out];exact ⟨⟨_,rfl⟩,HZ.out.1,_,hk,HZ.out.2⟩
      ·obtain ⟨y2,hy2⟩:∃ y2,y2=y1.alloc (.cells (zQ l) 37):=⟨_,rfl⟩;have hb2:Below wr.heap.size wr y2:=by rw [hy2];exact hb1.alloc hb1.size _
       have by2:Bx y2 y1.heap.size (zQ l) 37:=by rw [hy2];exact heap_alloc_new y1 _
       refine xU (s:=8) (e':=some 71) rfl rfl rfl (.slice (some ⟨y1.heap.size,0,none⟩) 1 1) y2 ?_ ⟨fun _=>K y2 hb2,?_⟩
       ·rw [hy2];unfold zQ;go_simp
        try with_reducible rfl
       simp only [pz];have oy2:=zS oy1 (show Below y1.heap.size y1 y2 by rw [hy2];exact (br _ _).alloc (nl _) _);refine kG (i:=6) (by kernel_rfl) ?_;refine xS (s:=6) (e':=some 69) rfl rfl rfl (.tmp 64) (.tmp 68) 33 rfl wr.heap.size 37 li _ 104 Tryz.underlying33 lhi lhz0 lhz1 lhz2 rfl (by decide) xP kF (.slice (some ⟨wr.drew.heap.size,0,none⟩) 0 0) [] rfl oy2 _ q.news rfl (RD y2 hb2) (by simp;unfold maxLen;omega) (by simp;omega) hb2.size ?_;intro v69 y3 hoy3 hgy3 haty3;simp only [List.nil_append] at hoy3;have hb3:Below wr.heap.size wr y3:=hb2.grown hgy3 hb2.size (fun k hk=>(oy2.lt k hk).1);refine ⟨fun _=>K y3 hb3,?_⟩;simp only [pz];have by3:Bx y3 y1.heap.size (zQ l) 37:=(hgy3.block _ (gl by2) (fun e=>by have e:=Option.some.inj e;rw [hy1] at e;simp at e)).trans by2;refine qO (s:=9) (e':=some 72) rfl rfl rfl (.tmp 69) (.tmp 71) 33 rfl (by kernel_rfl) wr.heap.size 37 li _ 13 104 Tryz.underlying33 lhi lhz0 lhz1 lhz2 rfl (by decide) v69 _ _ rfl hoy3 ⟨y1.heap.size,0,none⟩ 1 1 (yE l) rfl rfl (World.news_of_block by3) (kF l) (by decide) (by unfold maxLen;omega) (by omega) hb3.size _ rfl ?_;intro g2 cap2 z ho2 hg2 hwh hlt2;have hbz:Below wr.heap.size wr z:=hb3.grown hg2 hb3.size (fun k hk=>(hoy3.lt k hk).1);refine ⟨fun _=>K z hbz,?_⟩;simp only [pz];refine zD 10 73 (.pointer (some ⟨N,0,none⟩)) (K z hbz) ?_;refine zD 11 74 (.pointer (some ⟨N,19,none⟩)) (K z hbz) ?_;refine kT (s:=12) (N:=N) (o:=19) (u:=.slice (some ⟨g2,0,none⟩) (q.news.length+1) cap2) (old:=zA q s1) (new:=zA q2 { s1 with news:=.slice (some ⟨g2,0,none⟩) (q.news.length+1) cap2 }) rfl rfl rfl rfl (by kernel_rfl) rfl rfl (K z hbz).1 (by kernel_rfl) (by simp [zA]) rfl (by rw [hq2];rfl) ?_;intro z2 hg hk
       have HZ:Hid (w.grownBy z2 (some N)∧zO lo z2.heap.size z2 q2 { s1 with news:=.slice (some ⟨g2,0,none⟩) (q.news.length+1) cap2 }):=(by
        have ho3:z.ownsRow wr.heap.size 37 13 (.slice (some ⟨g2,0,none⟩) (q.news.length+1) cap2) (q.news ++ [l]).length (zE yE (q.news ++ [l])):=by rw [List.length_append,zY];simpa [zE] using ho2
        have ho4:=World.ownsRow.kept ho3 hg (zH ho3 (K z hbz).1 (by decide));refine ⟨zP (HY.out.more hbz).grown hg,?_⟩;rw [hq2]
        exact (HY.out.own.below hbz).boxed (K z hbz).1 hg |>.setNews (Nat.le_trans hbz.size hg.size) (nl _) (zN ho4 (Nat.le_trans hlo HY.out.grown.size)) (fun g e=>by cases e;exact Nat.lt_of_lt_of_le hlt2 hg.size) (fun g e=>Or.inr (ho3.lt g e).1):_∧_)
       refine ⟨fun h=>absurd h (by decide),?_⟩;refine zK (by kernel_rfl) ?_ _;go_wp2;refine bodyPost_end (results_none Tryz.results82 _ _ _) rfl ?_;rw [HE.out];exact ⟨⟨_,rfl⟩,HZ.out.1,_,hk,HZ.out.2⟩
     ·obtain ⟨y1,hy1⟩:∃ y1,y1=wr.drew.alloc (.cells (zQ l) 37):=⟨_,rfl⟩;have hb1:Below wr.heap.size wr y1:=by rw [hy1];exact hd0.alloc hd0.size _
      have by1:Bx y1 wr.drew.heap.size (zQ l) 37:=by rw [hy1];exact heap_alloc_new wr.drew _
      refine xU (s:=8) (e':=some 71) rfl rfl rfl (.slice (some ⟨wr.drew.heap.size,0,none⟩) 1 1) y1 ?_ ⟨fun _=>K y1 hb1,?_⟩
      ·rw [hy1];unfold zQ;go_simp
       try with_reducible rfl
      simp only [pz];obtain ⟨y2,hy2⟩:∃ y2,y2=y1.alloc (.cells #[] 37):=⟨_,rfl⟩;have hb2:Below wr.heap.size wr y2:=by rw [hy2];exact hb1.alloc hb1.size _
      have oy2:y2.ownsRow wr.heap.size 37 13 (.slice (some ⟨y1.heap.size,0,none⟩) 0 0) ([]:List LT).length (zE yE []):=by rw [hy2];exact zN (yH y1 _ _) hb1.size
      refine kG (i:=1) (by kernel_rfl) ?_;refine xU (s:=1) (e':=some 64) rfl rfl rfl (.slice (some ⟨y1.heap.size,0,none⟩) 0 0) y2 ?_ ⟨fun _=>K y2 hb2,?_⟩
      ·rw [hy2];unfold zQ;go_simp
       try with_reducible rfl
      simp only [pz];refine kG (i:=6) (by kernel_rfl) ?_;refine xS (s:=6) (e':=some 69) rfl rfl rfl (.tmp 64) (.tmp 68) 33 rfl wr.heap.size 37 li _ 104 Tryz.underlying33 lhi lhz0 lhz1 lhz2 rfl (by decide) xP kF (.slice (some ⟨y1.heap.size,0,none⟩) 0 0) [] rfl oy2 _ q.news rfl (RD y2 hb2) (by simp;unfold maxLen;omega) (by simp;omega) hb2.size ?_;intro v69 y3 hoy3 hgy3 haty3;simp only [List.nil_append] at hoy3;have hb3:Below wr.heap.size wr y3:=hb2.grown hgy3 hb2.size (fun k hk=>(oy2.lt k hk).1);refine ⟨fun _=>K y3 hb3,?_⟩;simp only [pz];have by3:Bx y3 wr.drew.heap.size (zQ l) 37:=(hgy3.block _ (Nat.lt_of_lt_of_le (gl by1) (by rw [hy2];simp)) (fun e=>by have e:=Option.some.inj e;rw [hy1] at e;simp at e)).trans (((show Below y1.heap.size y1 y2 by rw [hy2];exact (br _ _).alloc (nl _) _).block _ (gl by1)).trans by1);refine qO (s:=9) (e':=some 72) rfl rfl rfl (.tmp 69) (.tmp 71) 33 rfl (by kernel_rfl) wr.heap.size 37 li _ 13 104 Tryz.underlying33 lhi lhz0 lhz1 lhz2 rfl (by decide) v69 _ _ rfl hoy3 ⟨wr.drew.heap.size,0,none⟩ 1 1 (yE l) rfl rfl (World.news_of_block by3) (kF l) (by decide) (by unfold maxLen;omega) (by omega) hb3.size _ rfl ?_;intro g2 cap2 z ho2 hg2 hwh hlt2;have hbz:Below wr.heap.size wr z:=hb3.grown hg2 hb3.size (fun k hk=>(hoy3.lt k hk).1);refine ⟨fun _=>K z hbz,?_⟩;simp only [pz];refine zD 10 73 (.pointer (some ⟨N,0,none⟩)) (K z hbz) ?_;refine zD 11 74 (.pointer (some ⟨N,19,none⟩)) (K z hbz) ?_;refine kT (s:=12) (N:=N) (o:=19) (u:=.slice (some ⟨g2,0,none⟩) (q.news.length+1) cap2) (old:=zA q s1) (new:=zA q2 { s1 with news:=.slice (some ⟨g2,0,none⟩) (q.news.length+1) cap2 }) rfl rfl rfl rfl (by kernel_rfl) rfl rfl (K z hbz).1 (by kernel_rfl) (by simp [zA]) rfl (by rw [hq2];rfl) ?_;intro z2 hg hk
      have HZ:Hid (w.grownBy z2 (some N)∧zO lo z2.heap.size z2 q2 { s1 with news:=.slice (some ⟨g2,0,none⟩) (q.news.length+1) cap2 }):=(by
       have ho3:z.ownsRow wr.heap.size 37 13 (.slice (some ⟨g2,0,none⟩) (q.news.length+1) cap2) (q.news ++ [l]).length (zE yE (q.news ++ [l])):=by rw [List.length_append,zY];simpa [zE] using ho2
       have ho4:=World.ownsRow.kept ho3 hg (zH ho3 (K z hbz).1 (by decide));refine ⟨zP (HY.out.more hbz).grown hg,?_⟩;rw [hq2]
       exact (HY.out.own.below hbz).boxed (K z hbz).1 hg |>.setNews (Nat.le_trans hbz.size hg.size) (nl _) (zN ho4 (Nat.le_trans hlo HY.out.grown.size)) (fun g e=>by cases e;exact Nat.lt_of_lt_of_le hlt2 hg.size) (fun g e=>Or.inr (ho3.lt g e).1):_∧_)
      refine ⟨fun h=>absurd h (by decide),?_⟩;refine zK (by kernel_rfl) ?_ _;go_wp2;refine bodyPost_end (results_none Tryz.results82 _ _ _) rfl ?_;rw [HE.out];exact ⟨⟨_,rfl⟩,HZ.out.1,_,hk,HZ.out.2⟩
  ·have b2:(vw != p.view)=true:=by simpa using h2
   by_cases h3:vw=p.view+1
   ·have b3:(vw != p.view+1)=false:=by simpa using h3
    have HR:Hid (R=if zBI (yI p vw).news fr=true then yI p vw else { yI p vw with news:=(yI p vw).news ++ [l] }):=(by rw [HNP.out,if_pos ⟨h1,Or.inr h3⟩]:R=_);clear h1 h2 h3 HNP;go_enter Tryz.func82,Tryz.ntmps82;go_wp2;rw [← hW];clear hW;refine rb ?_;repeat (go_big_quiet_step (first | (with_reducible refine zI (xR e1 hn0 hn1 hv0 hv1 _))))
    refine wpQuiet_nil ?_;intro _ hw';obtain ⟨xq,rfl⟩:=hw';have HX1:Hid (PtL w xq.to N lo p s l):=HW.out.more xq.below;obtain ⟨y,hy⟩:∃ y,y=xq.to:=⟨_,rfl⟩;rw [← hy] at HX1 ⊢;clear hy y3 y0 y1 hne HX HW;go_wp2;refine zT (fun i=>decide (i < 8)) (fun x=>Bx x N (zA p s) 35∧Bx x w.heap.size (zQ l) 37) (by kernel_rfl) ?_;show zX Tryz.prog _ _ _ _ _ (8+1) (Array.replicate 9 false) _ _;have hS:Bx y.drew N (zA p s) 35∧Bx y.drew w.heap.size (zQ l) 37:=⟨HX1.out.ptr,HX1.out.box⟩;refine zD 0 35 (.pointer (some ⟨N,0,none⟩)) hS ?_;refine zD 1 36 (.pointer (some ⟨N,0,none⟩)) hS ?_;refine zD 2 37 (.pointer (some ⟨N,0,none⟩)) hS ?_;refine zD 3 38 (.agg (zA p s)) hS ?_ (hy:=fun x hx=>zM _ _ rfl N rfl _ _ _ _ hx.1 Tryz.underlying35 rfl (by kernel_rfl));refine zD 4 39 (.pointer (some ⟨w.heap.size,3,none⟩)) hS ?_;refine zD 5 40 (.int .i64 vw) hS ?_ (hy:=by intro x hx;have c:=zB hx.2 3 (.int .i64 l.1.2.2.2.1) rfl;rw [← HVW.out] at c;go_simp;try with_reducible rfl);refine kJ 6 41 37 #[.agg (zA p s),.int .i64 vw] ((zCB p s vw y.drew (HX1.out.own.reads.below (br _ _).drew) HS.out).mono ?_);obtain ⟨q,hq⟩:∃ q,q=yI p vw:=⟨_,rfl⟩;have HSQ:Hid (yC q):=hid (by rw [hq];exact zHA HS.out vw);rw [← hq] at HR ⊢;clear hq;rintro e x2 ⟨s1,rfl,ho,hb0⟩;have hb:Below y.heap.size y x2:=((br _ _).drew).trans hb0;have HX2:Hid (PtL w x2 N lo p s l):=HX1.out.more hb;have HO2:Hid (zO lo x2.heap.size x2 q s1):=ho.low (Nat.le_trans hlo HX1.out.grown.size);have hS1:Bx x2 N (zA p s) 35∧Bx x2 w.heap.size (zQ l) 37:=⟨HX2.out.ptr,HX2.out.box⟩;clear ho hb hb0 hS HX1;refine ⟨_,rfl,fun _=>hS1,?_⟩;simp only [pz];refine zD 7 42 (.pointer (some ⟨N,0,none⟩)) hS1 ?_;refine xW (s:=8) (N:=N) (o:=0) (cells:=zA q s1) (old:=zA p s) (new:=zA q s1) rfl rfl rfl rfl (by kernel_rfl) rfl rfl hS1.1 (by kernel_rfl) (by simp [zA]) (zJ HO2.out.1) rfl ?_;intro y2 hg hk;have HY2:Hid (PtL w y2 N lo q s1 l):=⟨hk,(hg.block _ (gl hS1.2) (fun e=>by have:=Option.some.inj e;omega)).trans hS1.2,(HO2.out.boxed hS1.1 hg).wide hg.size (nl _),zP HX2.out.grown hg⟩;clear hg hk hS1 HX2 HO2;refine ⟨fun h=>absurd h (by decide),?_⟩;refine zK (by kernel_rfl) ?_ _;obtain ⟨nv,hnv⟩:∃ nv,nv=s1.news:=⟨_,rfl⟩;obtain ⟨a,cap,er,-⟩:=HY2.out.own.reads.news;go_wp2
    go_loopw [6] (fun i wr=>∃ m:Nat,m≤q.news.length∧i=.int .i64 (m:Int)∧Hid (zBI (q.news.take m) fr=false)∧Hid (PtL w wr N lo q s1 l)) (fun i _=>q.news.length - (intOf i).toNat)
    case atStart=>exact ⟨0,Nat.zero_le _,rfl,rfl,HY2.out⟩
    case round=>
     obtain ⟨m,hm,rfl,HF,HY⟩:=hrel;have c19:=zB HY.out.ptr 19 s1.news rfl;rw [er] at c19;have hsz:=HSQ.out.news
     by_cases hlt:(m:Int) < q.news.length
     ·have hmn:m < q.news.length:=by omega
      obtain ⟨a',cap',er',hr'⟩:=HY.out.own.reads.news;rw [er] at er';injection er' with ea _ ec
      subst ea ec;obtain ⟨g,off,rfl,hg,hc⟩:=hr' (by omega);have q0:(0:Int)≤(m:Int):=by omega
      obtain ⟨xf,hxf⟩:∃ xf,xf=q.news[m].1.2.1:=⟨_,rfl⟩;have hne:=yX wr;have z1:∀ z:Bw wr,z.to.cell? ⟨g,off+m * 13+1,none⟩=some (.int .i64 xf):=fun z=>by rw [z.below.cell (by exact hg),hxf];exact hc m hmn 1 (by omega)
      have z19:∀ z:Bw wr,z.to.cell? ⟨N,19,none⟩=some (.slice (some ⟨g,off,none⟩) q.news.length cap):=fun z=>by rw [← er];exact zB (HY.out.more z.below).ptr 19 s1.news rfl
      have zf:∀ z:Bw wr,z.to.cell? ⟨w.heap.size,1,none⟩=some (.int .i64 fr):=fun z=>by rw [HFR.out];exact zB (HY.out.more z.below).box 1 _ rfl
      by_cases hh:xf=fr
      ·have bh:(xf == fr)=true:=by simpa using hh
       have dh:decide (xf=fr)=true:=decide_eq_true hh;have HE:Hid (R=q):=hid (by rw [HR.out,if_pos (heard_hit hmn (by rw [← hxf];exact hh))]);clear hh hc hg hxf;go_wp2;clear c19;refine rb ?_;repeat (go_big_quiet_step (fail))
       refine wpQuiet_nil ?_;intro _ hw';obtain ⟨xq,rfl⟩:=hw';go_wp2;refine bodyPost_ret (results_none Tryz.results82 _ _ _) rfl ?_;rw [HE.out];exact ⟨⟨_,rfl⟩,(HY.out.more xq.below).grown,_,(HY.out.more xq.below).ptr,(HY.out.more xq.below).own⟩
      ·have bh:(xf == fr)=false:=by simpa using hh
       have dh:decide (xf=fr)=false:=decide_eq_false hh;have HN:Hid (zBI (q.news.take (m+1)) fr=false):=hid (by rw [heard_snoc hmn,HF.out,← hxf,dh];rfl);clear hh hc hg hxf;go_wp2;clear c19;refine rb ?_;repeat (go_big_quiet_step (fail))
       refine wpQuiet_nil ?_;intro _ hw';obtain ⟨xq,rfl⟩:=hw';go_wp2
       go_roundw
       case rel=>exact ⟨m+1,by omega,by go_num,HN.out,HY.out.more xq.below⟩
       case measure=>simp [intOf];omega
     ·have hml:m=q.news.length:=by omega
      subst hml;rw [List.take_length] at HF;obtain ⟨q2,hq2⟩:∃ q2:PE,q2={ q with news:=q.news ++ [l] }:=⟨_,rfl⟩;have HE:Hid (R=q2):=hid (by rw [HR.out,if_neg (by rw [HF.out];decide),hq2]);go_wp2;clear c19;have hww:w.heap.size < wr.heap.size:=(gl HY.out.box);refine zT (fun i=>decide (i < 12)) (fun x=>Bx x N (zA q s1) 35∧Bx x w.heap.size (zQ l) 37) (by kernel_rfl) ?_;show zX Tryz.prog _ _ _ _ _ (12+1) (Array.replicate 13 false) _ _;have hS:Bx wr.drew N (zA q s1) 35∧Bx wr.drew w.heap.size (zQ l) 37:=⟨HY.out.ptr,HY.out.box⟩;refine zD 0 63 (.pointer (some ⟨N,0,none⟩)) hS ?_;refine zD 2 65 (.pointer (some ⟨N,0,none⟩)) hS ?_;refine zD 3 66 (.pointer (some ⟨N,0,none⟩)) hS ?_;refine zD 4 67 (.pointer (some ⟨N,19,none⟩)) hS ?_;refine zD 5 68 (.slice a q.news.length cap) hS ?_ (hy:=by intro x hx;have c:=zB hx.1 19 s1.news rfl;rw [er] at c;go_simp;try with_reducible rfl);refine zD 7 70 (.agg (zQ l)) hS ?_ (hy:=fun x hx=>zM _ _ rfl w.heap.size rfl _ _ _ _ hx.2 Tryz.underlying37 rfl (by kernel_rfl));have K:∀ x,Below wr.heap.size wr x→Bx x N (zA q s1) 35∧Bx x w.heap.size (zQ l) 37:=fun x hb=>⟨(HY.out.more hb).ptr,(HY.out.more hb).box⟩
      have RD:∀ x,Below wr.heap.size wr x→yM x (.slice a q.news.length cap) 13 yE q.news:=fun x hb=>by rw [← er];exact (HY.out.more hb).own.reads.news
      have hlen:(q.news.length:Int)≤1048576:=hsz;have hd0:Below wr.heap.size wr wr.drew:=(br _ _).drew;refine zFC (i:=1) (j:=8) (by kernel_rfl) ?_ ?_
      ·obtain ⟨y1,hy1⟩:∃ y1,y1=wr.drew.alloc (.cells #[] 37):=⟨_,rfl⟩;have hb1:Below wr.heap.size wr y1:=by rw [hy1];exact hd0.alloc hd0.size _
       have oy1:y1.ownsRow wr.heap.size 37 13 (.slice (some ⟨wr.drew.heap.size,0,none⟩) 0 0) ([]:List LT).length (zE yE []):=by rw [hy1];exact zN (yH wr.drew _ _) hd0.size
       refine xU (s:=1) (e':=some 64) rfl rfl rfl (.slice (some ⟨wr.drew.heap.size,0,none⟩) 0 0) y1 ?_ ⟨fun _=>K y1 hb1,?_⟩
       ·rw [hy1];unfold zQ;go_simp
        try with_reducible rfl
       simp only [pz];refine zFC (i:=6) (j:=8) (by kernel_rfl) ?_ ?_
       ·refine xS (s:=6) (e':=some 69) rfl rfl rfl (.tmp 64) (.tmp 68) 33 rfl wr.heap.size 37 li _ 104 Tryz.underlying33 lhi lhz0 lhz1 lhz2 rfl (by decide) xP kF (.slice (some ⟨wr.drew.heap.size,0,none⟩) 0 0) [] rfl oy1 _ q.news rfl (RD y1 hb1) (by simp;unfold maxLen;omega) (by simp;omega) hb1.size ?_;intro v69 y2 hoy2 hgy2 haty2;simp only [List.nil_append] at hoy2;have hb2:Below wr.heap.size wr y2:=hb1.grown hgy2 hb1.size (fun k hk=>(oy1.lt k hk).1);refine ⟨fun _=>K y2 hb2,?_⟩;simp only [pz];obtain ⟨y3,hy3⟩:∃ y3,y3=y2.alloc (.cells (zQ l) 37):=⟨_,rfl⟩;have hb3:Below wr.heap.size wr y3:=by rw [hy3];exact hb2.alloc hb2.size _
        have by3:Bx y3 y2.heap.size (zQ l) 37:=by rw [hy3];exact heap_alloc_new y2 _
        refine kG (i:=8) (by kernel_rfl) ?_;refine xU (s:=8) (e':=some 71) rfl rfl rfl (.slice (some ⟨y2.heap.size,0,none⟩) 1 1) y3 ?_ ⟨fun _=>K y3 hb3,?_⟩
        ·rw [hy3];unfold zQ;go_simp
         try with_reducible rfl
        simp only [pz];have ho3:=zS hoy2 (show Below y2.heap.size y2 y3 by rw [hy3];exact (br _ _).alloc (nl _) _);refine qO (s:=9) (e':=some 72) rfl rfl rfl (.tmp 69) (.tmp 71) 33 rfl (by kernel_rfl) wr.heap.size 37 li _ 13 104 Tryz.underlying33 lhi lhz0 lhz1 lhz2 rfl (by decide) v69 _ _ rfl ho3 ⟨y2.heap.size,0,none⟩ 1 1 (yE l) rfl rfl (World.news_of_block by3) (kF l) (by decide) (by unfold maxLen;omega) (by omega) hb3.size _ rfl ?_;intro g2 cap2 z ho2 hg2 hwh hlt2;have hbz:Below wr.heap.size wr z:=hb3.grown hg2 hb3.size (fun k hk=>(ho3.lt k hk).1);refine ⟨fun _=>K z hbz,?_⟩;simp only [pz];refine zD 10 73 (.pointer (some ⟨N,0,none⟩)) (K z hbz) ?_;refine zD 11 74 (.pointer (some ⟨N,19,none⟩)) (K z hbz) ?_;refine kT (s:=12) (N:=N) (o:=19) (u:=.slice (some ⟨g2,0,none⟩) (q.news.length+1) cap2) (old:=zA q s1) (new:=zA q2 { s1 with news:=.slice (some ⟨g2,0,none⟩) (q.news.length+1) cap2 }) rfl rfl rfl rfl (by kernel_rfl) rfl rfl (K z hbz).1 (by kernel_rfl) (by simp [zA]) rfl (by rw [hq2];rfl) ?_;intro z2 hg hk
        have HZ:Hid (w.grownBy z2 (some N)∧zO lo z2.heap.size z2 q2 { s1 with news:=.slice (some ⟨g2,0,none⟩) (q.news.length+1) cap2 }):=(by
         have ho3:z.ownsRow wr.heap.size 37 13 (.slice (some ⟨g2,0,none⟩) (q.news.length+1) cap2) (q.news ++ [l]).length (zE yE (q.news ++ [l])):=by rw [List.length_append,zY];simpa [zE] using ho2
         have ho4:=World.ownsRow.kept ho3 hg (zH ho3 (K z hbz).1 (by decide));refine ⟨zP (HY.out.more hbz).grown hg,?_⟩;rw [hq2]
         exact (HY.out.own.below hbz).boxed (K z hbz).1 hg |>.setNews (Nat.le_trans hbz.size hg.size) (nl _) (zN ho4 (Nat.le_trans hlo HY.out.grown.size)) (fun g e=>by cases e;exact Nat.lt_of_lt_of_le hlt2 hg.size) (fun g e=>Or.inr (ho3.lt g e).1):_∧_)
        refine ⟨fun h=>absurd h (by decide),?_⟩;refine zK (by kernel_rfl) ?_ _;go_wp2;refine bodyPost_end (results_none Tryz.results82 _ _ _) rfl ?_;rw [HE.out];exact ⟨⟨_,rfl⟩,HZ.out.1,_,hk,HZ.out.2⟩
       ·obtain ⟨y2,hy2⟩:∃ y2,y2=y1.alloc (.cells (zQ l) 37):=⟨_,rfl⟩;have hb2:Below wr.heap.size wr y2:=by rw [hy2];exact hb1.alloc hb1.size _
        have by2:Bx y2 y1.heap.size (zQ l) 37:=by rw [hy2];exact heap_alloc_new y1 _
        refine xU (s:=8) (e':=some 71) rfl rfl rfl (.slice (some ⟨y1.heap.size,0,none⟩) 1 1) y2 ?_ ⟨fun _=>K y2 hb2,?_⟩
        ·rw [hy2];unfold zQ;go_simp
         try with_reducible rfl
        simp only [pz];have oy2:=zS oy1 (show Below y1.heap.size y1 y2 by rw [hy2];exact (br _ _).alloc (nl _) _);refine kG (i:=6) (by kernel_rfl) ?_;refine xS (s:=6) (e':=some 69) rfl rfl rfl (.tmp 64) (.tmp 68) 33 rfl wr.heap.size 37 li _ 104 Tryz.underlying33 lhi lhz0 lhz1 lhz2 rfl (by decide) xP kF (.slice (some ⟨wr.drew.heap.size,0,none⟩) 0 0) [] rfl oy2 _ q.news rfl (RD y2 hb2) (by simp;unfold maxLen;omega) (by simp;omega) hb2.size ?_;intro v69 y3 hoy3 hgy3 haty3;simp only [List.nil_append] at hoy3;have hb3:Below wr.heap.size wr y3:=hb2.grown hgy3 hb2.size (fun k hk=>(oy2.lt k hk).1);refine ⟨fun _=>K y3 hb3,?_⟩;simp only [pz];have by3:Bx y3 y1.heap.size (zQ l) 37:=(hgy3.block _ (gl by2) (fun e=>by have e:=Option.some.inj e;rw [hy1] at e;simp at e)).trans by2;refine qO (s:=9) (e':=some 72) rfl rfl rfl (.tmp 69) (.tmp 71) 33 rfl (by kernel_rfl) wr.heap.size 37 li _ 13 104 Tryz.underlying33 lhi lhz0 lhz1 lhz2 rfl (by decide) v69 _ _ rfl hoy3 ⟨y1.heap.size,0,none⟩ 1 1 (yE l) rfl rfl (World.news_of_block by3) (kF l) (by decide) (by unfold maxLen;omega) (by omega) hb3.size _ rfl ?_;intro g2 cap2 z ho2 hg2 hwh hlt2;have hbz:Below wr.heap.size wr z:=hb3.grown hg2 hb3.size (fun k hk=>(hoy3.lt k hk).1);refine ⟨fun _=>K z hbz,?_⟩;simp only [pz];refine zD 10 73 (.pointer (some ⟨N,0,none⟩)) (K z hbz) ?_;refine zD 11 74 (.pointer (some ⟨N,19,none⟩)) (K z hbz) ?_;refine kT (s:=12) (N:=N) (o:=19) (u:=.slice (some ⟨g2,0,none⟩) (q.news.length+1) cap2) (old:=zA q s1) (new:=zA q2 { s1 with news:=.slice (some ⟨g2,0,none⟩) (q.news.length+1) cap2 }) rfl rfl rfl rfl (by kernel_rfl) rfl rfl (K z hbz).1 (by kernel_rfl) (by simp [zA]) rfl (by rw [hq2];rfl) ?_;intro z2 hg hk
        have HZ:Hid (w.grownBy z2 (some N)∧zO lo z2.heap.size z2 q2 { s1 with news:=.slice (some ⟨g2,0,none⟩) (q.news.length+1) cap2 }):=(by
         have ho3:z.ownsRow wr.heap.size 37 13 (.slice (some ⟨g2,0,none⟩) (q.news.length+1) cap2) (q.news ++ [l]).length (zE yE (q.news ++ [l])):=by rw [List.length_append,zY];simpa [zE] using ho2
         have ho4:=World.ownsRow.kept ho3 hg (zH ho3 (K z hbz).1 (by decide));refine ⟨zP (HY.out.more hbz).grown hg,?_⟩;rw [hq2]
         exact (HY.out.own.below hbz).boxed (K z hbz).1 hg |>.setNews (Nat.le_trans hbz.size hg.size) (nl _) (zN ho4 (Nat.le_trans hlo HY.out.grown.size)) (fun g e=>by cases e;exact Nat.lt_of_lt_of_le hlt2 hg.size) (fun g e=>Or.inr (ho3.lt g e).1):_∧_)
        refine ⟨fun h=>absurd h (by decide),?_⟩;refine zK (by kernel_rfl) ?_ _;go_wp2;refine bodyPost_end (results_none Tryz.results82 _ _ _) rfl ?_;rw [HE.out];exact ⟨⟨_,rfl⟩,HZ.out.1,_,hk,HZ.out.2⟩
      ·obtain ⟨y1,hy1⟩:∃ y1,y1=wr.drew.alloc (.cells (zQ l) 37):=⟨_,rfl⟩;have hb1:Below wr.heap.size wr y1:=by rw [hy1];exact hd0.alloc hd0.size _
       have by1:Bx y1 wr.drew.heap.size (zQ l) 37:=by rw [hy1];exact heap_alloc_new wr.drew _
       refine xU (s:=8) (e':=some 71) rfl rfl rfl (.slice (some ⟨wr.drew.heap.size,0,none⟩) 1 1) y1 ?_ ⟨fun _=>K y1 hb1,?_⟩
       ·rw [hy1];unfold zQ;go_simp
        try with_reducible rfl
       simp only [pz];obtain ⟨y2,hy2⟩:∃ y2,y2=y1.alloc (.cells #[] 37):=⟨_,rfl⟩;have hb2:Below wr.heap.size wr y2:=by rw [hy2];exact hb1.alloc hb1.size _
       have oy2:y2.ownsRow wr.heap.size 37 13 (.slice (some ⟨y1.heap.size,0,none⟩) 0 0) ([]:List LT).length (zE yE []):=by rw [hy2];exact zN (yH y1 _ _) hb1.size
       refine kG (i:=1) (by kernel_rfl) ?_;refine xU (s:=1) (e':=some 64) rfl rfl rfl (.slice (some ⟨y1.heap.size,0,none⟩) 0 0) y2 ?_ ⟨fun _=>K y2 hb2,?_⟩
       ·rw [hy2];unfold zQ;go_simp
        try with_reducible rfl
       simp only [pz];refine kG (i:=6) (by kernel_rfl) ?_;refine xS (s:=6) (e':=some 69) rfl rfl rfl (.tmp 64) (.tmp 68) 33 rfl wr.heap.size 37 li _ 104 Tryz.underlying33 lhi lhz0 lhz1 lhz2 rfl (by decide) xP kF (.slice (some ⟨y1.heap.size,0,none⟩) 0 0) [] rfl oy2 _ q.news rfl (RD y2 hb2) (by simp;unfold maxLen;omega) (by simp;omega) hb2.size ?_;intro v69 y3 hoy3 hgy3 haty3;simp only [List.nil_append] at hoy3;have hb3:Below wr.heap.size wr y3:=hb2.grown hgy3 hb2.size (fun k hk=>(oy2.lt k hk).1);refine ⟨fun _=>K y3 hb3,?_⟩;simp only [pz];have by3:Bx y3 wr.drew.heap.size (zQ l) 37:=(hgy3.block _ (Nat.lt_of_lt_of_le (gl by1) (by rw [hy2];simp)) (fun e=>by have e:=Option.some.inj e;rw [hy1] at e;simp at e)).trans (((show Below y1.heap.size y1 y2 by rw [hy2];exact (br _ _).alloc (nl _) _).block _ (gl by1)).trans by1);refine qO (s:=9) (e':=some 72) rfl rfl rfl (.tmp 69) (.tmp 71) 33 rfl (by kernel_rfl) wr.heap.size 37 li _ 13 104 Tryz.underlying33 lhi lhz0 lhz1 lhz2 rfl (by decide) v69 _ _ rfl hoy3 ⟨wr.drew.heap.size,0,none⟩ 1 1 (yE l) rfl rfl (World.news_of_block by3) (kF l) (by decide) (by unfold maxLen;omega) (by omega) hb3.size _ rfl ?_;intro g2 cap2 z ho2 hg2 hwh hlt2;have hbz:Below wr.heap.size wr z:=hb3.grown hg2 hb3.size (fun k hk=>(hoy3.lt k hk).1);refine ⟨fun _=>K z hbz,?_⟩;simp only [pz];refine zD 10 73 (.pointer (some ⟨N,0,none⟩)) (K z hbz) ?_;refine zD 11 74 (.pointer (some ⟨N,19,none⟩)) (K z hbz) ?_;refine kT (s:=12) (N:=N) (o:=19) (u:=.slice (some ⟨g2,0,none⟩) (q.news.length+1) cap2) (old:=zA q s1) (new:=zA q2 { s1 with news:=.slice (some ⟨g2,0,none⟩) (q.news.length+1) cap2 }) rfl rfl rfl rfl (by kernel_rfl) rfl rfl (K z hbz).1 (by kernel_rfl) (by simp [zA]) rfl (by rw [hq2];rfl) ?_;intro z2 hg hk
       have HZ:Hid (w.grownBy z2 (some N)∧zO lo z2.heap.size z2 q2 { s1 with news:=.slice (some ⟨g2,0,none⟩) (q.news.length+1) cap2 }):=(by
        have ho3:z.ownsRow wr.heap.size 37 13 (.slice (some ⟨g2,0,none⟩) (q.news.length+1) cap2) (q.news ++ [l]).length (zE yE (q.news ++ [l])):=by rw [List.length_append,zY];simpa [zE] using ho2
        have ho4:=World.ownsRow.kept ho3 hg (zH ho3 (K z hbz).1 (by decide));refine ⟨zP (HY.out.more hbz).grown hg,?_⟩;rw [hq2]
        exact (HY.out.own.below hbz).boxed (K z hbz).1 hg |>.setNews (Nat.le_trans hbz.size hg.size) (nl _) (zN ho4 (Nat.le_trans hlo HY.out.grown.size)) (fun g e=>by cases e;exact Nat.lt_of_lt_of_le hlt2 hg.size) (fun g e=>Or.inr (ho3.lt g e).1):_∧_)
       refine ⟨fun h=>absurd h (by decide),?_⟩;refine zK (by kernel_rfl) ?_ _;go_wp2;refine bodyPost_end (results_none Tryz.results82 _ _ _) rfl ?_;rw [HE.out];exact ⟨⟨_,rfl⟩,HZ.out.1,_,hk,HZ.out.2⟩
   ·have b3:(vw != p.view+1)=true:=by simpa using h3
    have HE:Hid (R=p):=hid (by rw [HNP.out,if_neg (fun h=>h.2.elim h2 h3)]);clear h1;go_enter Tryz.func82,Tryz.ntmps82;go_wp2;rw [← hW];clear hW;refine rb ?_;repeat (go_big_quiet_step (first | (with_reducible refine zI (xR e1 hn0 hn1 hv0 hv1 _))))
    refine wpQuiet_nil ?_;intro _ hw';obtain ⟨xq,rfl⟩:=hw';go_wp2;refine bodyPost_ret (results_none Tryz.results82 _ _ _) rfl ?_;rw [HE.out];exact ⟨⟨_,rfl⟩,(HW.out.more xq.below).grown,_,(HW.out.more xq.below).ptr,(HW.out.more xq.below).own⟩
 ·have b1:(ld != p.id)=true:=by simpa using h1
  have HE:Hid (R=p):=hid (by rw [HNP.out,if_neg (fun h=>h1 h.1)]);go_enter Tryz.func82,Tryz.ntmps82;go_wp2;rw [← hW];clear hW;refine rb ?_;repeat (go_big_quiet_step (first | (with_reducible refine zI (xR e1 hn0 hn1 hv0 hv1 _))))
  refine wpQuiet_nil ?_;intro _ hw';obtain ⟨xq,rfl⟩:=hw';go_wp2;refine bodyPost_ret (results_none Tryz.results82 _ _ _) rfl ?_;rw [HE.out];exact ⟨⟨_,rfl⟩,(HW.out.more xq.below).grown,_,(HW.out.more xq.below).ptr,(HW.out.more xq.below).own⟩
end Go.Proofs.YtdopefimjabigadGreat
