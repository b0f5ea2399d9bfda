/-
  A text of ours: ThrS.
-/
import Derived.Test.YtfnneillakdopacGreatRK1
import Derived.Test.YtfnneillakdopacGreatRK4
set_option maxRecDepth 100000
set_option maxHeartbeats 32000000
namespace Go.Proofs.YtfnneillakdopacGreatR
open _root_.Go.Proofs.Tryz
open Go.Value renaming int->I
open Go.IntKind renaming i64->U
open Option renaming none->Aa,some->Ab
open Nat renaming le_trans->Ac
open Go.World.ownsRow renaming kept->Ad
open Go.RowKit Num
theorem downN_mem (t:List BK):∀ (n k:Nat) (l:List Nat),zAD t n k=some l->∀ x∈l,x < t.length
 | n,0,l,h=>by cases n <;> (simp [zAD] at h;subst h;intro x hx;cases hx)
 | 0,k+1,l,h=>by simp [zAD] at h
 | n+1,k+1,l,h=>by
  unfold zAD at h
  split at h
  ·rename_i hc
   rw [Option.map_eq_some_iff] at h;obtain ⟨l',h1,rfl⟩:=h;intro x hx
   rcases List.mem_cons.1 hx with rfl | hx
   ·exact hc.1
   ·exact downN_mem t n _ l' h1 x hx
  ·cases h
theorem row_mem {t:List BK} {k x:Int} (h:x∈rowI t k):∃ j:Nat,x=(j:Int)/\j < t.length:=by
 cases hd:qH t k with
 | none=>rw [zJE hd] at h;cases h
 | some l=>
  rw [zJF hd] at h;unfold qG at h;obtain ⟨j,hj,rfl⟩:=List.mem_map.1 h;refine ⟨j,rfl,?_⟩;unfold qH at hd
  split at hd
  ·exact downN_mem t _ _ l hd j (List.mem_reverse.1 hj)
  ·cases hd
theorem after_mem {t:List BK} {k u x:Int} (h:x∈kB t k u):∃ j:Nat,x=(j:Int)/\j < t.length:=by
 unfold kB at h
 split at h
 ·exact row_mem (List.mem_filter.1 h).1
 ·cases h
theorem zDA (t:List BK) (k u:Int):(kB t k u).length<=t.length:=by
 unfold kB
 split
 ·refine Ac (List.length_filter_le _ _) ?_
  cases hd:qH t k with
  | none=>rw [zJE hd];simp
  | some l=>rw [zJF hd];unfold qG;simpa using down_len hd
 ·simp
theorem ne_own {v:Value} {N:Nat} (h:v.ownBlock=none∨v.ownBlock ≠ some N):some N ≠ v.ownBlock:=fun e=>by
 rcases h with h | h
 ·rw [h] at e;cases e
 ·exact h e.symm
theorem Bx3.grow {w y x:World} {N base n m:Nat} {A Z O:Array Value} {e:TypeId} {v:Value} {xs:List Value} (h:Bx3 w y N A Z O) (ho:y.ownsRow base e m v n xs) (hne:e ≠ 35) (hb:w.heap.size<=base) (hg:y.grownBy x v.ownBlock):Bx3 w x N A Z O:=by
 have:=h.lt;have:=h.far;exact ⟨h.below.grown hg h.below.size (fun k hk=>Ac hb (ho.lt k hk).1),(hg.block _ (by omega) (ne_own (zH ho h.box hne))).trans h.box,(hg.block _ (by omega) (ne_own (zH ho h.zero hne))).trans h.zero,(hg.block _ (by omega) (ne_own (zH ho h.out hne))).trans h.out,h.far⟩
theorem zO.addRow {lo hi:Nat} {y x:World} {p:PE} {s:PV} {j:Int} {g cap:Nat} (h:zO lo hi y p s) (hg:y.grownBy x s.row.ownBlock) (ho:x.ownsRow lo 3 1 (.slice (Ab ⟨g,0,Aa⟩) (p.row.length+1) cap) (p.row.length+1) (zE xJ p.row ++ [I U j])) (hw:s.row.ownBlock=some g∨hi<=g) (hl:g < x.heap.size) :
  zO lo x.heap.size x { p with row:=p.row ++ [j] } { s with row:=.slice (Ab ⟨g,0,Aa⟩) (p.row.length+1) cap }:=by
 have ha:=h.2.1;refine ⟨⟨?_,Ad h.1.cells hg ha.a10.ne,Ad h.1.early hg ha.a20.ne,Ad h.1.undos hg ha.a30.ne,Ad h.1.votes hg ha.a40.ne,Ad h.1.news hg ha.a50.ne⟩,ha.setRow (Ac h.2.2 hg.size) (fun g' e=>⟨(ho.lt g' e).1,by cases e;exact hl⟩) (fun g' e=>by cases e;exact hw),nl _⟩;rw [zY]
 simpa [xJ,zE] using ho
def jW (t:List BK) (p:PE) (l:List Int):PE:={ p with row:=p.row ++ l,cells:=zGF t p.cells l }
theorem thr_own {lo hi:Nat} {w:World} {q:PE} {s:PV} (t:List BK) (L:List Int) (h:zO lo hi w q s):zO lo hi w (jW t q (L.take 0)) s:=h.other (by simp [jW]) (by simp [jW,zGF]) rfl rfl rfl rfl
theorem thr_step {ps:TL} {q:PE} {L:List Int} {m j:Nat} (hm:m < L.length) (hj:L[m]=(j:Int)) (hjn:j < ps.length) :
  { ({ jW (bks ps) q (L.take m) with row:=(jW (bks ps) q (L.take m)).row ++ [(j:Int)] }:PE) with cells:=yD (jW (bks ps) q (L.take m)).cells ps[j].1.2.1 }=jW (bks ps) q (L.take (m+1)):=by
 have hc:kN (bks ps) (j:Int)=ps[j].1.2.1:=by unfold kN;rw [if_pos ⟨by omega,by rw [yO];omega⟩];simp [bks,hjn]
 have hr:=rowC_take (bks ps) L q.cells m hm;rw [hj,hc] at hr;have ht:L.take (m+1)=L.take m ++ [(j:Int)]:=by rw [List.take_add_one,List.getElem?_eq_getElem hm,hj];rfl
 unfold jW;simp only [hr];rw [ht,List.append_assoc]
def kO (t:List BK) (p:PE) (k:Int):PE:=if yBI t k (qS p.row)=true then jW t (jC p) (kB t k (qS p.row)) else p
theorem through_s (ps:TL) (v:Value) (p:PE) (s:PV) (k:Int) (w:World) (hT:jB w v ps) (hk:okT (bks ps)) (hR:jS w p s) (hs:yC p) :
  Calls prog 31 #[v,yZ p s,I U k] w fun e w'=>∃ s',e=.returned (yZ (kO (bks ps) p k) s')/\zO w.heap.size w'.heap.size w' (kO (bks ps) p k) s'/\Be w w':=by
 have HT:=hid hT;have HK:=hid hk;have HR:=hid hR;have HS:=hid hs;have bu:(ps.length:Int)<=1048576:=by have:=hk.1;rw [yO] at this;exact this
 have b3:=hs.row;have b8:Hid ((bks ps).length=ps.length):=yO ps;obtain ⟨ii,cc,b5,bv,b9⟩:=info_parts infoIntL;obtain ⟨cp,ci,rfl,-⟩:=HT.1;clear hT hk hR hs;obtain ⟨W,hW⟩:=nw ((w.alloc (.cells (zA p s) 35)).alloc (.cells zF 35))
 have HC:Hid (Be w W/\Bx W w.heap.size (zA p s) 35/\Bx W (w.heap.size+1) zF 35):=by
  rw [hW];exact ⟨ba (ba (br _ _) _) _,qK w _ _⟩
 have an:Hid (W.heap.size=w.heap.size+1+1):=hid (by rw [hW];simp);unfold zF at hW;go_enter func31,ntmps31;go_wp2_with (rw [<- hW];clear hW;refine w_ld w.heap.size HC.2.1 underlying35 ?_)
 refine (zHJ p s W (HR.below HC.1) HS).mono ?_;rintro e x1 ⟨s1,rfl,ho,hb⟩;have a2:Hid (zO W.heap.size x1.heap.size x1 p s1):=ho.toD;have n:Hid (Be W x1):=hb;clear ho hb
 go_wp2_with (first
  | (refine w_st x1.heap.size (zA p s1) (heap_alloc_new x1 _) (zJ a2.1) ?_;intro y1 hg hk hz;have al:Be x1 y1:=yB hg;have r:Hid (Bx3 w y1 x1.heap.size (zA p s) zF (zA p s1)):=⟨bt HC.1 (bt n al),(al.block _ (by have:=n.size;have:=an.out;omega)).trans ((n.block _ (by have:=an.out;omega)).trans HC.2.1),(al.block _ (by have:=n.size;have:=an.out;omega)).trans ((n.block _ (by have:=an.out;omega)).trans HC.2.2),hk,(by have:=n.size;have:=an.out;omega)⟩;have ac:Hid (zO W.heap.size x1.heap.size y1 p s1):=a2.below al;clear hg hk hz al a2)
  | (refine w_ld w.heap.size r.box underlying35 ?_))
 refine (last_s p s y1 (HR.below r.below) b3).mono ?_;rintro e x2 ⟨rfl,hb⟩;have a:Hid (Bx3 w x2 x1.heap.size (zA p s) zF (zA p s1)):=r.more hb;have l:Hid (zO W.heap.size x1.heap.size x2 p s1):=ac.below hb;clear hb r ac;obtain ⟨u,hu⟩:=nw (qS p.row);have HU:Hid (qS p.row=u):=hu.symm;rw [<- hu];clear hu;go_wp2_with fail
 refine (extends_s ps _ k u x2 (HT.below a.below) bu).mono ?_;rintro e cs ⟨rfl,hw⟩;obtain rfl:=hw.symm;clear hw
 by_cases hx:yBI (bks ps) k u=true
 ·have HE:Hid (kO (bks ps) p k=jW (bks ps) (jC p) (kB (bks ps) k u)):=(by unfold kO;rw [HU.out,if_pos hx]:kO (bks ps) p k=_);rw [hx];clear hx;go_wp2_with fail
  refine (back_s p s1 x1.heap.size W.heap.size x1.heap.size x2 l a.out.out (by have:=n.size;have:=a.lt;omega) HS).mono ?_;rintro e x3 ⟨⟨r0,rfl⟩,hg,s3,bq,b6⟩;have b4:=hid (qad3 n.out.size a.out.lt hg.size);have b:Hid (Bx3 w x3 x1.heap.size (zA p s) zF (zA (jC p) s3)):=a.put hg bq;have aa:Hid (zO W.heap.size x3.heap.size x3 (jC p) s3):=b6;clear hg bq b6 a l;go_wp2_with (refine w_ld w.heap.size b.box underlying35 ?_)
  refine (last_s p s x3 (HR.below b.below) b3).mono ?_;rintro e x4 ⟨rfl,hb⟩;rw [HU.out];have ad:Hid (Bx3 w x4 x1.heap.size (zA p s) zF (zA (jC p) s3)):=b.more hb;have ak:Hid (zO W.heap.size x3.heap.size x4 (jC p) s3):=aa.below hb;have az:Hid (x3.heap.size<=x4.heap.size):=hb.size;clear hb b aa;go_wp2_with fail
  refine (rowAfter_s ps _ k u x4 (HT.below ad.below) bu).mono ?_;rintro e x5 ⟨v5,rfl,ho,hb⟩;obtain ⟨L,hL⟩:=nw (kB (bks ps) k u);have cf:Hid (∀ x∈L,∃ j:Nat,x=(j:Int)/\j < ps.length):=hid (by rw [hL];intro x hx;have:=after_mem hx;rw [b8.out] at this;exact this);have cq:(L.length:Int)<=1048576:=by have:=zDA (bks ps) k u;rw [<- hL,b8.out] at this;omega
  rw [<- hL] at HE ho;have ai:Hid (x5.ownsRow x4.heap.size 3 1 v5 L.length (zE xJ L)):=ho;have am:Hid (Bx3 w x5 x1.heap.size (zA p s) zF (zA (jC p) s3)):=ad.more hb;have ag:Hid (zO W.heap.size x3.heap.size x5 (jC p) s3):=ak.below hb;have bd:Hid (x4.heap.size<=x5.heap.size):=hb.size;obtain ⟨a5,c5,rfl,ay⟩:=zW jG ho;clear ay;clear hL ho hb ad ak;obtain ⟨q,hq⟩:=nw (jC p);have bk:Hid (q.row=p.row/\okL q.cells):=hid (by rw [hq];exact ⟨rfl,okL_back HS⟩);rw [<- hq] at HE am ag;clear hq;go_wp2
  go_loopw [9] (fun i wr=>∃ (m:Nat) (tm:PV),m<=L.length/\i=I U (m:Int)/\Hid (Bx3 w wr x1.heap.size (zA p s) zF (zA (jW (bks ps) q (L.take m)) tm))/\Hid (zO W.heap.size wr.heap.size wr (jW (bks ps) q (L.take m)) tm)/\Hid (wr.ownsRow x4.heap.size 3 1 (.slice a5 L.length c5) L.length (zE xJ L))/\Hid (apart tm.row (.slice a5 L.length c5))/\Hid (x5.heap.size<=wr.heap.size)) (fun i _=>L.length - (intOf i).toNat)
  case atStart=>exact ⟨0,s3,Nat.zero_le _,rfl,am,thr_own _ _ (ag.wide (by have:=az.out;have:=bd.out;omega) (nl _)),ai,yQ ag.2.1.l0 (fun g e=>⟨(ai.lt g e).1,(ai.lt g e).2⟩) (Or.inl az),nl _⟩
  case round=>
   obtain ⟨m,tm,hm,rfl,d,ab,bf,aq,bb⟩:=hrel
   by_cases hlt:(m:Int) < L.length
   ·have a8:m < L.length:=by omega
    obtain ⟨j,hj,ao⟩:=cf L[m] (List.getElem_mem a8);have HJ:=hid hj;have q0:(0:Int)<=(m:Int):=by omega
    have j0:(0:Int)<=(j:Int):=by omega
    have j1:(j:Int) < ps.length:=by omega
    obtain ⟨co,cn,e5,ay⟩:=zW jG bf;injection e5 with cm _ ck
    subst cm ck;obtain ⟨g5,o5,rfl,bj,bx⟩:=ay (by omega);have o:Hid (g5 < wr.heap.size/\wr.cell? ⟨g5,o5+m,Aa⟩=Ab (I U (j:Int))):=⟨bj,by have:=bx m a8 0 (by omega);rw [HJ.out] at this;simpa [xJ] using this⟩;clear bx bj ay hj;have a3:Hid ((jW (bks ps) q (L.take m)).row.length=p.row.length+m):=hid (by unfold jW;simp [bk.out.1];omega);go_wp2;refine p_rg (fun i=>i != 9) (fun x=>Bx x x1.heap.size (zA (jW (bks ps) q (L.take m)) tm) 35/\x.cell? ⟨g5,o5+m,Aa⟩=Ab (I U (j:Int))) ?_;show zX prog _ _ _ _ _ (9+1) (Array.replicate 10 false) _ _;have hS:Bx wr.drew x1.heap.size (zA (jW (bks ps) q (L.take m)) tm) 35/\wr.drew.cell? ⟨g5,o5+m,Aa⟩=Ab (I U (j:Int)):=⟨d.out.out,o.2⟩;refine p_pt 0 31 x1.heap.size 14 hS ?_;refine zD 1 32 tm.row hS ?_ (hy:=by intro x hx;have c:=zB hx.1 14 tm.row rfl;go_simp;try rfl);refine zD 2 33 (.slice (Ab ⟨g5,o5,Aa⟩) L.length c5) hS ?_;refine zD 3 34 (I U (m:Int)) hS ?_;refine p_pt 4 35 g5 (o5+m) hS ?_;refine zD 5 36 (I U (j:Int)) hS ?_ (hy:=by intro x hx;have c:=hx.2;go_simp;try rfl);obtain ⟨y1,av⟩:=nw (wr.drew.alloc (.cells #[I U (j:Int)] 3));have aj:Be wr y1:=(by rw [av];exact ((Below.refl wr.heap.size wr).drew).alloc (show wr.heap.size<=wr.drew.heap.size from nl _) _:Be wr y1);have r:Hid (Bx3 w y1 x1.heap.size (zA p s) zF (zA (jW (bks ps) q (L.take m)) tm)):=d.more aj;have ac:Hid (zO W.heap.size wr.heap.size y1 (jW (bks ps) q (L.take m)) tm):=ab.below aj;have cb:Hid (y1.ownsRow x4.heap.size 3 1 (.slice (Ab ⟨g5,o5,Aa⟩) L.length c5) L.length (zE xJ L)):=zS bf aj;have y:Hid (y1.heap.size=wr.heap.size+1/\Bx y1 wr.heap.size #[I U (j:Int)] 3):=(by rw [av];exact ⟨by simp,heap_alloc_new wr.drew _⟩:y1.heap.size=wr.heap.size+1/\_);have bi:Bx y1 x1.heap.size (zA (jW (bks ps) q (L.take m)) tm) 35/\y1.cell? ⟨g5,o5+m,Aa⟩=Ab (I U (j:Int)):=⟨r.out.out,by rw [aj.cell (by exact o.out.1)];exact o.out.2⟩;refine p_run (s:=6) (e':=some 37) rfl rfl rfl (by kernel_rfl) (.slice (Ab ⟨wr.heap.size,0,Aa⟩) 1 1) y1 ?_ ⟨fun _=>bi,?_⟩
    ·rw [av];go_simp
     try rfl
    clear av hS aj;simp only [pz];refine qO (s:=7) (e':=some 38) rfl rfl rfl (.tmp 32) (.tmp 37) 29 rfl (by kernel_rfl) W.heap.size 3 ii _ 1 8 underlying29 cc b5 bv b9 rfl (by decide) tm.row _ _ rfl ac.1.row ⟨wr.heap.size,0,Aa⟩ 1 1 [I U (j:Int)] rfl rfl (World.news_of_block y.2) (by intro x hx;simp at hx;subst hx;rfl) (by decide) (by rw [a3.out];unfold maxLen;omega) (by rw [a3.out];omega) (by have:=b4.out;have:=y.1;have:=bb.out;have:=az.out;have:=bd.out;omega) _ y.1 ?_;intro g2 f y2 bn ah a9 a0;have a1:some g5 ≠ tm.row.ownBlock:=fun e=>aq g5 e.symm rfl
    have a:Hid (Bx3 w y2 x1.heap.size (zA p s) zF (zA (jW (bks ps) q (L.take m)) tm)):=r.grow ac.1.row (by decide) HC.1.size ah;have ar:Hid (y2.ownsRow x4.heap.size 3 1 (.slice (Ab ⟨g5,o5,Aa⟩) L.length c5) L.length (zE xJ L)):=Ad cb ah aq.symm.ne;have l:Hid (zO W.heap.size y2.heap.size y2 { jW (bks ps) q (L.take m) with row:=(jW (bks ps) q (L.take m)).row ++ [(j:Int)] } { tm with row:=.slice (Ab ⟨g2,0,Aa⟩) ((jW (bks ps) q (L.take m)).row.length+1) f }):=ac.addRow ah bn (a9.imp id (fun e=>by omega)) a0
    have b7:Hid (apart (.slice (Ab ⟨g2,0,Aa⟩) ((jW (bks ps) q (L.take m)).row.length+1) f) (.slice (Ab ⟨g5,o5,Aa⟩) L.length c5)):=(by
     intro g e e2
     cases e
     rcases a9 with h | h
     ·exact aq.out _ h e2
     ·have e2:=Option.some.inj e2;have:=o.1;simp at e2;omega:apart _ _)
    have au:Hid (y1.heap.size<=y2.heap.size):=ah.size;have t:Bx y2 x1.heap.size (zA (jW (bks ps) q (L.take m)) tm) 35/\y2.cell? ⟨g5,o5+m,Aa⟩=Ab (I U (j:Int)):=⟨a.out.out,by rw [ah.cell_far ⟨g5,o5+m,Aa⟩ (by show g5 < y1.heap.size;have:=o.1;have:=y.1;omega) a1];exact bi.2⟩;clear bn ah a9 a0 a1 bi r ac cb;refine ⟨fun _=>t,?_⟩;simp only [pz];refine zD 8 39 (.pointer (Ab ⟨x1.heap.size,14,Aa⟩)) t ?_;refine p_ce 9 x1.heap.size 14 (.slice (Ab ⟨g2,0,Aa⟩) ((jW (bks ps) q (L.take m)).row.length+1) f) (zA (jW (bks ps) q (L.take m)) tm) (zA { jW (bks ps) q (L.take m) with row:=(jW (bks ps) q (L.take m)).row ++ [(j:Int)] } { tm with row:=.slice (Ab ⟨g2,0,Aa⟩) ((jW (bks ps) q (L.take m)).row.length+1) f }) t.1 (by simp [zA]) rfl rfl ?_;intro y3 hg hk;have b:Hid (Bx3 w y3 x1.heap.size (zA p s) zF (zA { jW (bks ps) q (L.take m) with row:=(jW (bks ps) q (L.take m)).row ++ [(j:Int)] } { tm with row:=.slice (Ab ⟨g2,0,Aa⟩) ((jW (bks ps) q (L.take m)).row.length+1) f })):=a.put hg hk;have aa:Hid (zO W.heap.size y3.heap.size y3 { jW (bks ps) q (L.take m) with row:=(jW (bks ps) q (L.take m)).row ++ [(j:Int)] } { tm with row:=.slice (Ab ⟨g2,0,Aa⟩) ((jW (bks ps) q (L.take m)).row.length+1) f }):=(l.boxed t.1 hg).wide hg.size (nl _);have bp:Hid (y3.ownsRow x4.heap.size 3 1 (.slice (Ab ⟨g5,o5,Aa⟩) L.length c5) L.length (zE xJ L)):=Ad ar hg (zH ar t.1 (by decide));have aw:Hid (g5 < y3.heap.size/\y3.cell? ⟨g5,o5+m,Aa⟩=Ab (I U (j:Int))):=⟨by have:=o.1;have:=y.1;have:=au.out;have:=hg.size;omega,by rw [hg.cell_far ⟨g5,o5+m,Aa⟩ (by show g5 < y2.heap.size;have:=o.1;have:=y.1;have:=au.out;omega) (fun e=>(zH ar t.1 (by decide)).elim (fun h=>by cases h) (fun h=>h e))];exact t.2⟩;have bl:Hid (x5.heap.size<=y3.heap.size):=hid (by have:=bb.out;have:=y.1;have:=au.out;have:=hg.size;omega);clear hg hk t a l ar d ab bf aq bb o y au;refine ⟨fun h=>(by cases h),?_⟩;refine p_do ?_;obtain ⟨q1,a4⟩:∃ q1:PE,q1={ jW (bks ps) q (L.take m) with row:=(jW (bks ps) q (L.take m)).row ++ [(j:Int)] }:=⟨_,rfl⟩;obtain ⟨t1,bc⟩:∃ t1:PV,t1={ tm with row:=.slice (Ab ⟨g2,0,Aa⟩) ((jW (bks ps) q (L.take m)).row.length+1) f }:=⟨_,rfl⟩;have ch:Hid (apart t1.row (.slice (Ab ⟨g5,o5,Aa⟩) L.length c5)):=(by rw [bc];exact b7.out:apart t1.row _);have ca:Hid ({ q1 with cells:=yD q1.cells ps[j].1.2.1 }=jW (bks ps) q (L.take (m+1))/\okL q1.cells):=(by rw [a4];exact ⟨thr_step a8 HJ ao,rowC_ok HK _ _ bk.2⟩:_/\okL q1.cells);rw [<- a4,<- bc] at b aa;clear a4 bc b7 a3;obtain ⟨ct,cr,et,bm⟩:=(HT.below b.below).1;injection et with cl _ ce
    subst cl ce;obtain ⟨gt,ot,rfl,b1,b2⟩:=bm (by omega);obtain ⟨cv,a7⟩:=nw (ps[j].2);have ap:Hid (yM y3 cv 3 kL ps[j].1.2.1/\okB ps[j].1):=hid (by rw [a7];exact ⟨(HT.below b.below).2 ps[j] (List.getElem_mem ao),okT_at HK ao⟩);have ax:Hid (gt < y3.heap.size/\y3.cell? ⟨gt,ot+j * 7+2,Aa⟩=some cv):=⟨b1,by rw [a7];exact b2 j ao 2 (by omega)⟩;clear b1 b2 a7 bm;go_wp2;refine p_rg (fun i=>decide (i < 11)) (fun x=>Bx x x1.heap.size (zA q1 t1) 35/\x.cell? ⟨g5,o5+m,Aa⟩=Ab (I U (j:Int))/\x.cell? ⟨gt,ot+j * 7+2,Aa⟩=some cv) ?_;show zX prog _ _ _ _ _ (15+1) (Array.replicate 16 false) _ _;have hS:Bx y3.drew x1.heap.size (zA q1 t1) 35/\y3.drew.cell? ⟨g5,o5+m,Aa⟩=Ab (I U (j:Int))/\y3.drew.cell? ⟨gt,ot+j * 7+2,Aa⟩=some cv:=⟨b.out.out,aw.2,ax.2⟩;refine p_pt 0 41 x1.heap.size 15 hS ?_;refine zD 1 42 t1.cells hS ?_ (hy:=by intro x hx;have c:=zB hx.1 15 t1.cells rfl;go_simp;try rfl);refine zD 2 43 (.slice (Ab ⟨gt,ot,Aa⟩) ps.length ci) hS ?_;refine zD 3 44 (.slice (Ab ⟨g5,o5,Aa⟩) L.length c5) hS ?_;refine zD 4 45 (I U (m:Int)) hS ?_;refine p_pt 5 46 g5 (o5+m) hS ?_;refine zD 6 47 (I U (j:Int)) hS ?_ (hy:=by intro x hx;have c:=hx.2.1;go_simp;try rfl);refine p_pt 7 48 gt (ot+j * 7) hS ?_;refine p_pt 8 49 gt (ot+j * 7+2) hS ?_;refine zD 9 50 cv hS ?_ (hy:=by intro x hx;have c:=hx.2.2;go_simp;try rfl);refine kJ 10 51 58 #[t1.cells,cv] ((doneAll_s q1.cells ps[j].1.2.1 t1.cells cv y3.drew (aa.reads.cells.below (br _ _).drew) (ap.1.below (br _ _).drew) ca.2 ap.2.1 ap.2.2).mono ?_);rintro e y4 ⟨w1,w2,rfl,ho,-,b0⟩;have hb:=(bw y3).trans b0;have ae:Hid (y4.ownsRow y3.heap.size 92 2 w1 (yD q1.cells ps[j].1.2.1).length (kM (yD q1.cells ps[j].1.2.1))):=ho;have ad:Hid (Bx3 w y4 x1.heap.size (zA p s) zF (zA q1 t1)):=b.more hb;have ak:Hid (zO W.heap.size y3.heap.size y4 q1 t1):=aa.below hb;have bh:Hid (y4.ownsRow x4.heap.size 3 1 (.slice (Ab ⟨g5,o5,Aa⟩) L.length c5) L.length (zE xJ L)):=zS bp hb;have bo:Hid (y3.heap.size<=y4.heap.size):=hb.size;have af:Bx y4 x1.heap.size (zA q1 t1) 35/\y4.cell? ⟨g5,o5+m,Aa⟩=Ab (I U (j:Int))/\y4.cell? ⟨gt,ot+j * 7+2,Aa⟩=some cv:=⟨ad.out.out,by rw [hb.cell (by exact aw.out.1)];exact aw.out.2,by rw [hb.cell (by exact ax.out.1)];exact ax.out.2⟩;clear ho hb b0 hS b aa bp aw ax ap;refine ⟨_,rfl,fun _=>af,?_⟩;simp only [pz];refine p_pu 11 40 (.tuple #[w1,w2]) ?_ ?_
    ·intro x hx;go_simp
     try rfl
    simp only [pz];refine p_pu 12 52 w1 ?_ ?_
    ·intro x hx;go_simp
     try rfl
    simp only [pz];refine p_pu 13 53 w2 ?_ ?_
    ·intro x hx;go_simp
     try rfl
    simp only [pz];refine p_pu 14 54 (.pointer (Ab ⟨x1.heap.size,15,Aa⟩)) ?_ ?_
    ·intro x hx;go_simp
     try rfl
    simp only [pz];refine p_ce 15 x1.heap.size 15 w1 (zA q1 t1) (zA { q1 with cells:=yD q1.cells ps[j].1.2.1 } { t1 with cells:=w1 }) af.1 (by simp [zA]) (zDH ae) rfl ?_;intro y5 hg hk;have am:Hid (Bx3 w y5 x1.heap.size (zA p s) zF (zA { q1 with cells:=yD q1.cells ps[j].1.2.1 } { t1 with cells:=w1 })):=ad.put hg hk;have ag:Hid (zO W.heap.size y5.heap.size y5 { q1 with cells:=yD q1.cells ps[j].1.2.1 } { t1 with cells:=w1 }):=(ak.boxed af.1 hg).setCells (Ac bo hg.size) (nl _) (zN (Ad ae hg (zH ae af.1 (by decide))) (by have:=b4.out;have:=az.out;have:=bd.out;have:=bl.out;omega)) (fun g e=>Nat.lt_of_lt_of_le (ae.lt g e).2 hg.size) (fun g e=>Or.inr (ae.lt g e).1);have ai:Hid (y5.ownsRow x4.heap.size 3 1 (.slice (Ab ⟨g5,o5,Aa⟩) L.length c5) L.length (zE xJ L)):=Ad bh hg (zH bh af.1 (by decide));have cg:Hid (x5.heap.size<=y5.heap.size):=Ac bl (Ac bo hg.size);rw [ca.out.1] at am ag;clear hg hk af ad ak bh ae;refine ⟨fun h=>absurd h (by decide),?_⟩;refine p_do ?_;go_wp2
    go_roundw
    case rel=>exact ⟨m+1,{ t1 with cells:=w1 },by omega,by go_num,am,ag,ai,ch,cg⟩
    case measure=>simp [intOf];omega
   ·have cd:m=L.length:=by omega
    subst cd;rw [List.take_length] at d ab;obtain ⟨QQ,bz⟩:=nw (jW (bks ps) q L);rw [<- bz] at d ab HE;clear bz
    go_wp2_with (first
     | (refine w_ld x1.heap.size d.out.out underlying35 ?_)
     | (refine w_st (w.heap.size+1) (zA QQ tm) d.zero (zJ ab.1) ?_;intro z hg hk hz;have a6:Hid (Be w z):=d.below.grown hg d.below.size (qkk (by omega));have be:Hid (Bx z (w.heap.size+1) (zA QQ tm) 35):=hk;have bg:Hid (zO W.heap.size z.heap.size z QQ tm):=(ab.boxed d.zero hg).wide hg.size (nl _);clear hg hk hz d ab))
    refine b_cr (.agg (zA QQ tm)) results31 be underlying35 ?_;rw [HE.out];exact ⟨_,rfl,bg.low HC.1.size,a6⟩
 ·have hx:yBI (bks ps) k u=false:=by simpa using hx
  have HE:Hid (kO (bks ps) p k=p):=hid (by unfold kO;rw [HU.out,if_neg (by rw [hx];decide)]);rw [hx];clear hx
  go_wp2_with (first
   | (refine w_ld x1.heap.size a.out.out underlying35 ?_)
   | (refine w_st (w.heap.size+1) (zA p s1) a.zero (zJ l.1) ?_;intro z hg hk hz;have a6:Hid (Be w z):=a.below.grown hg a.below.size (qkk (by omega));have be:Hid (Bx z (w.heap.size+1) (zA p s1) 35):=hk;have bg:Hid (zO W.heap.size x1.heap.size z p s1):=l.boxed a.zero hg;have cj:Hid (x1.heap.size<=z.heap.size):=Ac (Nat.le_of_lt a.lt) hg.size;clear hg hk hz a l))
  refine b_cr (.agg (zA p s1)) results31 be underlying35 ?_;rw [HE.out];exact ⟨_,rfl,(bg.wide cj (nl _)).low HC.1.size,a6⟩
end Go.Proofs.YtfnneillakdopacGreatR
