/-
  Texts of ours that later ones lean on, in one: ThrN, SafeB, BackS.
-/
import Derived.Test.YtfnneillakdopacGreatRThrSZ
import Derived.Test.YtfnneillakdopacGreatRK1
import Derived.Test.YtfnneillakdopacGreatRK4
import Derived.Test.YtfnneillakdopacGreatRK3
set_option maxRecDepth 100000
set_option maxHeartbeats 32000000
namespace Go.Proofs.YtfnneillakdopacGreatR
open _root_.Go.Proofs.Tryz
open Go.Value renaming int->I
open Go.IntKind renaming i64->U
open Go.RowKit Num
theorem through_small {t:List BK} {p:PE} {k:Int} (hs:yC p) (hk:okT t) (hl:jZ p+wtB t<=1048576):yC (kO t p k):=by
 unfold kO
 split
 ·have ha:=zDA t k (qS p.row);have hc:=rowC_ok hk (kB t k (qS p.row)) _ (okL_back hs);have hw:t.length<=wtB t:=by unfold wtB;omega
  have hr:p.row.length<=jZ p:=by unfold jZ;omega
  refine ⟨?_,hc.1,?_,?_,hs.votes,hs.news,hc.2,?_⟩
  ·show (((jC p).row ++ _).length:Int)<=1048576;rw [List.length_append];show ((p.row.length+_:Nat):Int)<=1048576;omega
  ·simp [jW,jC]
  ·simp [jW,jC]
  ·intro c hc;simp [jW,jC] at hc
 ·exact hs
def yDA (t:List BK) (lock:QC) (k:Int):Bool:=if 0<=k/\k<=(t.length:Int) - 1 then yBI t k lock.2.2.1 || decide ((t[k.toNat]?.getD kE).2.2.2.1 > lock.2.1) else false
theorem ext_is {ps:TL} {v:Value} {k under:Int} {r:Bool} (h:yBI (bks ps) k under=r) (w:World) (hT:jB w v ps) (hl:(ps.length:Int)<=1048576) :
  Calls prog 21 #[v,I U k,I U under] w fun e w'=>e=.returned (.bool r)/\w'=w:=by rw [<- h];exact extends_s ps v k under w hT hl
theorem safeBlock_s (ps:TL) (v:Value) (q:QC) (k:Int) (w:World) (hT:jB w v ps) (hl:(ps.length:Int)<=1048576) :
  Calls prog 29 #[v,zBF q,I U k] w fun e w'=>e=.returned (.bool (yDA (bks ps) q k))/\Be w w':=by
 have HT:=hid hT;obtain ⟨a,cap,rfl,hr⟩:=zAI hT;have HR:=hid hr;have l:=yO ps;obtain ⟨q0,q1,q2,q3⟩:=q;unfold zBF;simp only;obtain ⟨W1,b⟩:=nw (w.alloc (.cells #[I U q0,I U q1,I U q2,I U q3] 26))
 have HW:Hid (Bx W1 w.heap.size #[I U q0,I U q1,I U q2,I U q3] 26/\Be w W1):=by
  rw [b];exact ⟨heap_alloc_new w _,ba (br _ _) _⟩
 have l0:w.heap.size < W1.heap.size:=(gl HW.1);have HX:Hid (∀ w',Be W1 w'->Bx w' w.heap.size #[I U q0,I U q1,I U q2,I U q3] 26):=fun w' h'=>(h'.block _ l0).trans HW.1
 have r:=yX W1;have y1:∀ x:Bw W1,x.to.cell? ⟨w.heap.size,1,none⟩=some (I U q1):=fun x=>(zZ (HX _ x.below)).2.1
 have y2:∀ x:Bw W1,x.to.cell? ⟨w.heap.size,2,none⟩=some (I U q2):=fun x=>(zZ (HX _ x.below)).2.2.1
 clear hr hT
 by_cases hin:0<=k/\k<=(ps.length:Int) - 1
 ·have e0:=kY hin;obtain ⟨j,rfl⟩:∃ j:Nat,k=(j:Int):=⟨k.toNat,by omega⟩;have i:j < ps.length:=by omega
  have j0:(0:Int)<=(j:Int):=by omega
  have j1:(j:Int) < ps.length:=by omega
  have HV:Hid (yDA (bks ps) (q0,q1,q2,q3) (j:Int)=(yBI (bks ps) (j:Int) q2 || decide (ps[j].1.2.2.2.1 > q1))):=(by unfold yDA;rw [if_pos (by rw [l];exact hin)];simp [bks,i]:yDA (bks ps) (q0,q1,q2,q3) (j:Int)=_);obtain ⟨g,d,rfl,hg,hc⟩:=HR (by omega);have f:Hid (∀ x:Bw W1,jB x.to (.slice (some ⟨g,d,none⟩) ps.length cap) ps):=fun x=>HT.below (bt HW.2 x.below)
  have HQ:=hid HT.out.1
  have c:w.cell? ⟨g,d+j * 7+4,none⟩=some (I U ps[j].1.2.2.2.1):=by
   obtain ⟨a',c',e',o⟩:=HQ.out;injection e' with e1 _ e3
   subst e1 e3;obtain ⟨g',p,e2,_,n⟩:=o (by omega);injection e2 with e2
   injection e2 with e4 e5
   subst e4 e5;exact n j i 4 (by omega)
  have y7:∀ x:Bw W1,x.to.cell? ⟨g,d+j * 7+4,none⟩=some (I U ps[j].1.2.2.2.1):=fun x=>by rw [(bt HW.2 x.below).cell (by exact hg)];exact c
  clear hc hg c;obtain ⟨jv,h⟩:=nw (ps[j].1.2.2.2.1);rw [<- h] at y7 HV;clear h hin
  by_cases hx:yBI (bks ps) (j:Int) q2=true
  ·have HE:Hid (yDA (bks ps) (q0,q1,q2,q3) (j:Int)=true):=(by rw [HV.out,hx];rfl:_=true);go_enter func29,ntmps29;go_wp2_with fail
   rw [<- b];clear b;refine (jU e0 _).mono ?_;rintro e w' ⟨rfl,hw⟩;obtain rfl:=hw.symm;clear hw;go_wp2;refine rb ?_;repeat (go_big_quiet_step (first | (refine zI (ext_is hx _ (f _) hl))))
   refine qnn fun x=>?_
   go_wp2;go_ret;exact ⟨zL HE.symm,bt HW.2 x.below⟩
  ·have hx:yBI (bks ps) (j:Int) q2=false:=by simpa using hx
   by_cases hv:jv > q1
   ·have m:q1 < jv:=hv;have HE:Hid (yDA (bks ps) (q0,q1,q2,q3) (j:Int)=true):=(by rw [HV.out,decide_eq_true hv];simp:_=true);go_enter func29,ntmps29;go_wp2_with fail
    rw [<- b];clear b;refine (jU e0 _).mono ?_;rintro e w' ⟨rfl,hw⟩;obtain rfl:=hw.symm;clear hw;go_wp2;refine rb ?_;repeat (go_big_quiet_step (first | (refine zI (ext_is hx _ (f _) hl))))
    refine qnn fun x=>?_
    go_wp2;go_ret;exact ⟨zL HE.symm,bt HW.2 x.below⟩
   ·have m:¬ q1 < jv:=hv;have HE:Hid (yDA (bks ps) (q0,q1,q2,q3) (j:Int)=false):=(by rw [HV.out,hx,decide_eq_false hv];rfl:_=false);go_enter func29,ntmps29;go_wp2_with fail
    rw [<- b];clear b;refine (jU e0 _).mono ?_;rintro e w' ⟨rfl,hw⟩;obtain rfl:=hw.symm;clear hw;go_wp2;refine rb ?_;repeat (go_big_quiet_step (first | (refine zI (ext_is hx _ (f _) hl))))
    refine qnn fun x=>?_
    go_wp2;go_ret;exact ⟨zL ((decide_eq_false (show ¬ q1 < jv by omega)).trans HE.symm),bt HW.2 x.below⟩
 ·have e0:=zAB hin;have HE:Hid (yDA (bks ps) (q0,q1,q2,q3) k=false):=(by unfold yDA;rw [if_neg (by rw [l];exact hin)]:_=false);go_enter func29,ntmps29;go_wp2_with fail
  rw [<- b];clear b;refine (jU e0 _).mono ?_;rintro e w' ⟨rfl,hw⟩;obtain rfl:=hw.symm;clear hw;go_wp2;go_ret;exact ⟨zL HE.symm,HW.2⟩
theorem newsU (W:World) (u:UN) (t:TypeId):∀ j x,(kK u)[j]?=some x->(W.alloc (.cells #[.string u.1,.bool u.2.1,I U u.2.2] t)).cell? ((⟨W.heap.size,0,none⟩:Addr).add j)=some x:=by
 intro j x hj;unfold kK at hj
 match j,hj with
 | 0,hj=>simp at hj;subst hj;simp [Addr.add]
 | 1,hj=>simp at hj;subst hj;simp [Addr.add]
 | 2,hj=>simp at hj;subst hj;simp [Addr.add]
theorem onesU (u:UN):∀ x∈kK u,x.oneCell'=true:=by
 intro x hx;unfold kK at hx;simp at hx;rcases hx with h | h | h <;> subst h <;> rfl
theorem flatU_one (u:UN):zE kK [u]=kK u:=by simp [zE]
theorem doneBack_s (cs:CL) (l:List CM) (v u:Value) (w:World) (hv:qQ w v cs) (hu:yM w u 3 kL l) (hok:okL cs) (hl:(l.length:Int)<=1048576) (hall:∀ c∈l,(c.2.1.size:Int)<=1048576) :
  Calls prog 73 #[v,u] w fun e w'=>∃ v1 v2,e=.returned (.tuple #[v1,v2])/\w'.ownsRow w.heap.size 92 2 v1 (yD cs l).length (kM (yD cs l))/\w'.ownsRow w.heap.size 95 3 v2 (jQ cs l).length (zE kK (jQ cs l))/\(v1.ownBlock=none∨v1.ownBlock ≠ v2.ownBlock)/\Be w w':=by
 have HV:=hid hv;have HL:=hid hok;have HA:=hid hall;have h1:=hok.1;have ag:Hid (qQ (w.alloc (.cells #[] 92)) v cs):=hv.below (ba (br _ _) _);have ac:Hid ((w.alloc (.cells #[] 92)).ownsRow w.heap.size 92 2 (.slice (some ⟨w.heap.size,0,none⟩) 0 0) ([]:CL).length (kM [])):=yH w 92 2;obtain ⟨a,cap,rfl,_⟩:=hv;obtain ⟨b,a1,rfl,hr⟩:=hu;have HR:=hid hr;clear hall hr hok;go_enter func73,ntmps73;go_wp2_with (at_builtin;refine yV _ rfl _ _ rfl w.heap.size _ [] rfl ac _ cs rfl ag (by simp;omega) (by simp) ?_;intro v0 w0 n h)
 have B0:Be w w0:=(ba (br _ _) _).grown h (by simp) fun b hb=>(ac.lt b hb).1
 have ar:=B0.size;have ae:Hid (w0.ownsRow w.heap.size 92 2 v0 cs.length (kM cs)):=hid (by simpa using n);have am:Hid (Be w w0):=B0;clear n h ac ag B0;obtain ⟨i0,hi,ap,au,aw⟩:=info_parts infoUndo
 go_loopw [6,7,8] (fun o q i wr=>∃ k:Nat,k<=l.length/\i=I U (k:Int)/\wr.ownsRow w.heap.size 92 2 o (yD cs (l.take k)).length (kM (yD cs (l.take k)))/\wr.ownsRow w.heap.size 95 3 q k (zE kK (jQ cs (l.take k)))/\(o.ownBlock=none∨o.ownBlock ≠ q.ownBlock)/\Be w wr) (fun _ _ i _=>l.length - (intOf i).toNat)
 case atStart=>
  exact ⟨0,Nat.zero_le _,rfl,zS ae (ba (br _ _) _),zN (yH w0 95 3) ar,own_ne' ae (yH w0 95 3) (nl _),ba am _⟩
 case round=>
  obtain ⟨k,hk,rfl,t,y,aj,r⟩:=hrel;have HO:Hid (wr.ownsRow w.heap.size 92 2 u6 (yD cs (l.take k)).length (kM (yD cs (l.take k)))):=t;have HQ:Hid (wr.ownsRow w.heap.size 95 3 u7 k (zE kK (jQ cs (l.take k)))):=y;have HN:=hid aj;have HB:Hid (Be w wr):=r;have a2:=r.size;clear t y r aj
  by_cases hlt:(k:Int) < l.length
  ·have j:k < l.length:=by omega
   obtain ⟨g,s,rfl,hg,hc⟩:=HR (by omega);have q0:(0:Int)<=(k:Int):=by omega
   have c1:wr.cell? ⟨g,s+k * 3+1,none⟩=some (.string l[k].2.1):=by rw [HB.out.cell (by exact hg)];exact hc k j 1 (by omega)
   have HC:Hid (∀ w',Be w w'->w'.cell? ⟨g,s+k * 3,none⟩=some (I U l[k].1)/\w'.cell? ⟨g,s+k * 3+1,none⟩=some (.string l[k].2.1)/\w'.cell? ⟨g,s+k * 3+2,none⟩=some (I U l[k].2.2)):=fun w' hb=>by
    refine ⟨?_,?_,?_⟩
    ·rw [hb.cell (by exact hg)];exact hc k j 0 (by omega)
    ·rw [hb.cell (by exact hg)];exact hc k j 1 (by omega)
    ·rw [hb.cell (by exact hg)];exact hc k j 2 (by omega)
   have x:okL (yD cs (l.take k)):=okL_all _ HL fun c hc=>HA c (List.mem_of_mem_take hc)
   have ab:=hid x;have HS:Hid (l.take (k+1)=l.take k ++ [l[k]]):=take_snoc j;clear hc x;go_wp2_with fail
   refine (undoOf_s (yD cs (l.take k)) _ l[k].2.1 wr (qT HO) ab.1).mono ?_;rintro e w2 ⟨rfl,p⟩;unfold undoV;have ak:Hid (w2.ownsRow w.heap.size 95 3 u7 k (zE kK (jQ cs (l.take k)))):=zS HQ p;have az:Hid (w2.ownsRow w.heap.size 92 2 u6 (yD cs (l.take k)).length (kM (yD cs (l.take k)))):=zS HO p;have al:Hid (Be w w2):=bt HB p;have a0:=p.size;clear p c1 HO HQ;obtain ⟨uu,aa⟩:=nw (yDB (yD cs (l.take k)) l[k].2.1);rw [<- aa];have an:=hid aa;clear aa
   go_wp2_with (first
    | (at_builtin;refine wpList_append_own _ rfl _ _ 31 rfl w.heap.size 95 i0 _ 3 32 underlying31 hi ap au aw rfl (by decide) _ _ _ rfl (World.ownsRow.alloc ak _) ⟨World.heap _ |>.size,0,none⟩ 1 1 (kK uu) rfl rfl (newsU _ uu _) (onesU uu) (by unfold maxLen;omega) (by omega) (by simp;omega) ?_;intro v3 w3 m d _;have av:Hid (w3.ownsRow w.heap.size 92 2 u6 (yD cs (l.take k)).length (kM (yD cs (l.take k)))):=World.ownsRow.kept (World.ownsRow.alloc az _) d HN;have ai:Hid (w3.ownsRow w.heap.size 95 3 v3 (k+1) _):=m;have ad:Hid (Be w w3):=(ba al _).grown d (by simp;omega) (fun b hb=>(ak.lt b hb).1);obtain ⟨c0,c1,c2⟩:=HC w3 ad;clear m d))
   refine (done_s (yD cs (l.take k)) _ l[k] w3 (qT av) ab.1 ab.2 (HA _ (List.getElem_mem j))).mono ?_;rintro e w4 ⟨v4,rfl,f,z⟩;have ah:=ad.size;have ao:Hid (w4.ownsRow w3.heap.size 92 2 v4 _ _):=f;have ax:Hid (w4.ownsRow w.heap.size 95 3 v3 (k+1) _):=zS ai z;have aq:Hid (v4.ownBlock=none∨v4.ownBlock ≠ v3.ownBlock):=own_ne ai f (nl _);have ay:Hid (Be w w4):=bt ad z;clear f z c0 c1 c2;go_wp2
   go_roundw
   case rel=>exact ⟨k+1,by omega,by go_num,by rw [HS.out,doneAll_snoc];exact zN ao ah,by rw [HS.out,undos_snoc,zY,flatU_one,<- an.out];exact ax.out,aq,ay⟩
   case measure=>simp [intOf];omega
  ·have af:k=l.length:=by omega
   have HK:=hid af;clear af;go_wp2
   go_ret2
   have e1:=HO.out;have e2:=HQ.out;rw [HK.out,List.take_length] at e1 e2;exact ⟨u6,u7,rfl,e1,by rw [zGI];exact e2,HN,HB⟩
end Go.Proofs.YtfnneillakdopacGreatR
