/-
  Texts of ours that later ones lean on, in one: ThrN, SafeB, BackS.
-/
import Derived.Test.YtdopefimjabigadGreatThrS
import Derived.Test.YtdopefimjabigadGreatK1
import Derived.Test.YtdopefimjabigadGreatK4
import Derived.Test.YtdopefimjabigadGreatK3
set_option maxRecDepth 100000
set_option maxHeartbeats 32000000
namespace Go.Proofs.YtdopefimjabigadGreat
open Go.RowKit Num
theorem through_small {t:List BK} {p:PE} {k:Int} (hs:yC p) (hk:okT t) (hl:jZ p+wtB t≤1048576):yC (kO t p k):=by
 unfold kO
 split
 ·have ha:=zDA t k (qS p.row);have hc:=rowC_ok hk (kB t k (qS p.row)) _ (okL_back hs);have hw:t.length≤wtB t:=by unfold wtB;omega
  have hr:p.row.length≤jZ p:=by unfold jZ;omega
  refine ⟨?_,hc.1,?_,?_,hs.votes,hs.news,hc.2,?_⟩
  ·show (((jC p).row ++ _).length:Int)≤1048576;rw [List.length_append];show ((p.row.length+_:Nat):Int)≤1048576;omega
  ·simp [jW,jC]
  ·simp [jW,jC]
  ·intro c hc;simp [jW,jC] at hc
 ·exact hs
def yDA (t:List BK) (lock:QC) (k:Int):Bool:=if 0≤k∧k≤(t.length:Int) - 1 then yBI t k lock.2.2.1 || decide ((t[k.toNat]?.getD kE).2.2.2.1 > lock.2.1) else false
theorem ext_is {ps:TL} {v:Value} {k under:Int} {r:Bool} (h:yBI (bks ps) k under=r) (w:World) (hT:jB w v ps) (hl:(ps.length:Int)≤1048576) :
  Calls Tryz.prog 43 #[v,.int .i64 k,.int .i64 under] w fun e w'=>e=.returned (.bool r)∧w'=w:=by rw [← h];exact extends_s ps v k under w hT hl
theorem safeBlock_s (ps:TL) (v:Value) (q:QC) (k:Int) (w:World) (hT:jB w v ps) (hl:(ps.length:Int)≤1048576) :
  Calls Tryz.prog 12 #[v,zBF q,.int .i64 k] w fun e w'=>e=.returned (.bool (yDA (bks ps) q k))∧Below w.heap.size w w':=by
 have HT:=hid hT;obtain ⟨a,cap,rfl,hr⟩:=zAI hT;have HR:=hid hr;have hbl:=yO ps;obtain ⟨q0,q1,q2,q3⟩:=q;unfold zBF;simp only;obtain ⟨W1,hW1⟩:∃ W1,W1=w.alloc (.cells #[.int .i64 q0,.int .i64 q1,.int .i64 q2,.int .i64 q3] 26):=⟨_,rfl⟩
 have HW:Hid (Bx W1 w.heap.size #[.int .i64 q0,.int .i64 q1,.int .i64 q2,.int .i64 q3] 26∧Below w.heap.size w W1):=by
  rw [hW1];exact ⟨heap_alloc_new w _,ba (br _ _) _⟩
 have l0:w.heap.size < W1.heap.size:=(gl HW.out.1);have HX:Hid (∀ w',Below W1.heap.size W1 w'→Bx w' w.heap.size #[.int .i64 q0,.int .i64 q1,.int .i64 q2,.int .i64 q3] 26):=fun w' h'=>(h'.block _ l0).trans HW.out.1
 have hne:=yX W1;have y1:∀ x:Bw W1,x.to.cell? ⟨w.heap.size,1,none⟩=some (.int .i64 q1):=fun x=>(zZ (HX.out _ x.below)).2.1
 have y2:∀ x:Bw W1,x.to.cell? ⟨w.heap.size,2,none⟩=some (.int .i64 q2):=fun x=>(zZ (HX.out _ x.below)).2.2.1
 clear hr hT
 by_cases hin:0≤k∧k≤(ps.length:Int) - 1
 ·have e0:=kY hin;obtain ⟨j,rfl⟩:∃ j:Nat,k=(j:Int):=⟨k.toNat,by omega⟩;have hjn:j < ps.length:=by omega
  have j0:(0:Int)≤(j:Int):=by omega
  have j1:(j:Int) < ps.length:=by omega
  have HV:Hid (yDA (bks ps) (q0,q1,q2,q3) (j:Int)=(yBI (bks ps) (j:Int) q2 || decide (ps[j].1.2.2.2.1 > q1))):=(by unfold yDA;rw [if_pos (by rw [hbl];exact hin)];simp [bks,hjn]:yDA (bks ps) (q0,q1,q2,q3) (j:Int)=_);obtain ⟨g,off,rfl,hg,hc⟩:=HR.out (by omega);have HTW:Hid (∀ x:Bw W1,jB x.to (.slice (some ⟨g,off,none⟩) ps.length cap) ps):=fun x=>HT.out.below (bt HW.out.2 x.below)
  have HQ:=hid HT.out.1
  have hcell:w.cell? ⟨g,off+j * 7+4,none⟩=some (.int .i64 ps[j].1.2.2.2.1):=by
   obtain ⟨a',c',e',hr'⟩:=HQ.out;injection e' with e1 _ e3
   subst e1 e3;obtain ⟨g',off',e2,_,hc'⟩:=hr' (by omega);injection e2 with e2
   injection e2 with e4 e5
   subst e4 e5;exact hc' j hjn 4 (by omega)
  have y7:∀ x:Bw W1,x.to.cell? ⟨g,off+j * 7+4,none⟩=some (.int .i64 ps[j].1.2.2.2.1):=fun x=>by rw [(bt HW.out.2 x.below).cell (by exact hg)];exact hcell
  clear hc hg hcell;obtain ⟨jv,hjv⟩:∃ jv,jv=ps[j].1.2.2.2.1:=⟨_,rfl⟩;rw [← hjv] at y7 HV;clear hjv hin
  by_cases hx:yBI (bks ps) (j:Int) q2=true
  ·have HE:Hid (yDA (bks ps) (q0,q1,q2,q3) (j:Int)=true):=(by rw [HV.out,hx];rfl:_=true);go_enter Tryz.func12,Tryz.ntmps12;go_wp2_with fail
   rw [← hW1];clear hW1;refine (jU e0 _).mono ?_;rintro e w' ⟨rfl,hw⟩;obtain rfl:=hw.symm;clear hw;go_wp2;refine rb ?_;repeat (go_big_quiet_step (first | (refine zI (ext_is hx _ (HTW.out _) hl))))
   refine wpQuiet_nil ?_;intro _ hw';obtain ⟨x,rfl⟩:=hw';go_wp2;go_ret;exact ⟨zL HE.out.symm,bt HW.out.2 x.below⟩
  ·have hx:yBI (bks ps) (j:Int) q2=false:=by simpa using hx
   by_cases hv:jv > q1
   ·have hv':q1 < jv:=hv;have HE:Hid (yDA (bks ps) (q0,q1,q2,q3) (j:Int)=true):=(by rw [HV.out,decide_eq_true hv];simp:_=true);go_enter Tryz.func12,Tryz.ntmps12;go_wp2_with fail
    rw [← hW1];clear hW1;refine (jU e0 _).mono ?_;rintro e w' ⟨rfl,hw⟩;obtain rfl:=hw.symm;clear hw;go_wp2;refine rb ?_;repeat (go_big_quiet_step (first | (refine zI (ext_is hx _ (HTW.out _) hl))))
    refine wpQuiet_nil ?_;intro _ hw';obtain ⟨x,rfl⟩:=hw';go_wp2;go_ret;exact ⟨zL HE.out.symm,bt HW.out.2 x.below⟩
   ·have hv':¬ q1 < jv:=hv;have HE:Hid (yDA (bks ps) (q0,q1,q2,q3) (j:Int)=false):=(by rw [HV.out,hx,decide_eq_false hv];rfl:_=false);go_enter Tryz.func12,Tryz.ntmps12;go_wp2_with fail
    rw [← hW1];clear hW1;refine (jU e0 _).mono ?_;rintro e w' ⟨rfl,hw⟩;obtain rfl:=hw.symm;clear hw;go_wp2;refine rb ?_;repeat (go_big_quiet_step (first | (refine zI (ext_is hx _ (HTW.out _) hl))))
    refine wpQuiet_nil ?_;intro _ hw';obtain ⟨x,rfl⟩:=hw';go_wp2;go_ret;exact ⟨zL ((decide_eq_false (show ¬ q1 < jv by omega)).trans HE.out.symm),bt HW.out.2 x.below⟩
 ·have e0:=zAB hin;have HE:Hid (yDA (bks ps) (q0,q1,q2,q3) k=false):=(by unfold yDA;rw [if_neg (by rw [hbl];exact hin)]:_=false);go_enter Tryz.func12,Tryz.ntmps12;go_wp2_with fail
  rw [← hW1];clear hW1;refine (jU e0 _).mono ?_;rintro e w' ⟨rfl,hw⟩;obtain rfl:=hw.symm;clear hw;go_wp2;go_ret;exact ⟨zL HE.out.symm,HW.out.2⟩
theorem newsU (W:World) (u:UN) (t:TypeId):∀ j x,(kK u)[j]?=some x→(W.alloc (.cells #[.string u.1,.bool u.2.1,.int .i64 u.2.2] t)).cell? ((⟨W.heap.size,0,none⟩:Addr).add j)=some x:=by
 intro j x hj;unfold kK at hj
 match j,hj with
 | 0,hj=>simp at hj;subst hj;simp [Addr.add]
 | 1,hj=>simp at hj;subst hj;simp [Addr.add]
 | 2,hj=>simp at hj;subst hj;simp [Addr.add]
theorem onesU (u:UN):∀ x∈kK u,x.oneCell'=true:=by
 intro x hx;unfold kK at hx;simp at hx;rcases hx with h | h | h <;> subst h <;> rfl
theorem flatU_one (u:UN):zE kK [u]=kK u:=by simp [zE]
theorem doneBack_s (cs:CL) (l:List CM) (v u:Value) (w:World) (hv:qQ w v cs) (hu:yM w u 3 kL l) (hok:okL cs) (hl:(l.length:Int)≤1048576) (hall:∀ c∈l,(c.2.1.size:Int)≤1048576) :
  Calls Tryz.prog 97 #[v,u] w fun e w'=>∃ v1 v2,e=.returned (.tuple #[v1,v2])∧w'.ownsRow w.heap.size 108 2 v1 (yD cs l).length (kM (yD cs l))∧w'.ownsRow w.heap.size 110 3 v2 (jQ cs l).length (zE kK (jQ cs l))∧(v1.ownBlock=none∨v1.ownBlock ≠ v2.ownBlock)∧Below w.heap.size w w':=by
 have HV:=hid hv;have HL:=hid hok;have HA:=hid hall;have h1:=hok.1;have HV0:Hid (qQ (w.alloc (.cells #[] 108)) v cs):=hv.below (ba (br _ _) _);have HO0:Hid ((w.alloc (.cells #[] 108)).ownsRow w.heap.size 108 2 (.slice (some ⟨w.heap.size,0,none⟩) 0 0) ([]:CL).length (kM [])):=yH w 108 2;obtain ⟨a,cap,rfl,_⟩:=hv;obtain ⟨b,bcap,rfl,hr⟩:=hu;have HR:=hid hr;clear hall hr hok;go_enter Tryz.func97,Tryz.ntmps97;go_wp2_with (at_builtin;refine yV _ rfl _ _ rfl w.heap.size _ [] rfl HO0.out _ cs rfl HV0.out (by simp;omega) (by simp) ?_;intro v0 w0 hown0 hgrow0)
 have B0:Below w.heap.size w w0:=(ba (br _ _) _).grown hgrow0 (by simp) fun b hb=>(HO0.out.lt b hb).1
 have hs0:=B0.size;have HO1:Hid (w0.ownsRow w.heap.size 108 2 v0 cs.length (kM cs)):=hid (by simpa using hown0);have HB0:Hid (Below w.heap.size w w0):=B0;clear hown0 hgrow0 HO0 HV0 B0;obtain ⟨i0,hi,hz0,hz1,hz2⟩:=info_parts infoUndo
 go_loopw [6,7,8] (fun o q i wr=>∃ k:Nat,k≤l.length∧i=.int .i64 (k:Int)∧wr.ownsRow w.heap.size 108 2 o (yD cs (l.take k)).length (kM (yD cs (l.take k)))∧wr.ownsRow w.heap.size 110 3 q k (zE kK (jQ cs (l.take k)))∧(o.ownBlock=none∨o.ownBlock ≠ q.ownBlock)∧Below w.heap.size w wr) (fun _ _ i _=>l.length - (intOf i).toNat)
 case atStart=>
  exact ⟨0,Nat.zero_le _,rfl,zS HO1.out (ba (br _ _) _),zN (yH w0 110 3) hs0,own_ne' HO1.out (yH w0 110 3) (nl _),ba HB0.out _⟩
 case round=>
  obtain ⟨k,hk,rfl,hown,hcod,hne,hbel⟩:=hrel;have HO:Hid (wr.ownsRow w.heap.size 108 2 u6 (yD cs (l.take k)).length (kM (yD cs (l.take k)))):=hown;have HQ:Hid (wr.ownsRow w.heap.size 110 3 u7 k (zE kK (jQ cs (l.take k)))):=hcod;have HN:=hid hne;have HB:Hid (Below w.heap.size w wr):=hbel;have hbs:=hbel.size;clear hown hcod hbel hne
  by_cases hlt:(k:Int) < l.length
  ·have hkn:k < l.length:=by omega
   obtain ⟨g,off,rfl,hg,hc⟩:=HR.out (by omega);have q0:(0:Int)≤(k:Int):=by omega
   have c1:wr.cell? ⟨g,off+k * 3+1,none⟩=some (.string l[k].2.1):=by rw [HB.out.cell (by exact hg)];exact hc k hkn 1 (by omega)
   have HC:Hid (∀ w',Below w.heap.size w w'→w'.cell? ⟨g,off+k * 3,none⟩=some (.int .i64 l[k].1)∧w'.cell? ⟨g,off+k * 3+1,none⟩=some (.string l[k].2.1)∧w'.cell? ⟨g,off+k * 3+2,none⟩=some (.int .i64 l[k].2.2)):=fun w' hb=>by
    refine ⟨?_,?_,?_⟩
    ·rw [hb.cell (by exact hg)];exact hc k hkn 0 (by omega)
    ·rw [hb.cell (by exact hg)];exact hc k hkn 1 (by omega)
    ·rw [hb.cell (by exact hg)];exact hc k hkn 2 (by omega)
   have hok2:okL (yD cs (l.take k)):=okL_all _ HL.out fun c hc=>HA.out c (List.mem_of_mem_take hc)
   have HK2:=hid hok2;have HS:Hid (l.take (k+1)=l.take k ++ [l[k]]):=take_snoc hkn;clear hc hok2;go_wp2_with fail
   refine (undoOf_s (yD cs (l.take k)) _ l[k].2.1 wr (qT HO.out) HK2.out.1).mono ?_;rintro e w2 ⟨rfl,hb2⟩;unfold undoV;have HQ2:Hid (w2.ownsRow w.heap.size 110 3 u7 k (zE kK (jQ cs (l.take k)))):=zS HQ.out hb2;have HO2:Hid (w2.ownsRow w.heap.size 108 2 u6 (yD cs (l.take k)).length (kM (yD cs (l.take k)))):=zS HO.out hb2;have HB2:Hid (Below w.heap.size w w2):=bt HB.out hb2;have hbs2:=hb2.size;clear hb2 c1 HO HQ;obtain ⟨uu,huu⟩:∃ uu,uu=yDB (yD cs (l.take k)) l[k].2.1:=⟨_,rfl⟩;rw [← huu];have HUU:=hid huu;clear huu
   go_wp2_with (first
    | (at_builtin;refine wpList_append_own _ rfl _ _ 31 rfl w.heap.size 110 i0 _ 3 32 Tryz.underlying31 hi hz0 hz1 hz2 rfl (by decide) _ _ _ rfl (World.ownsRow.alloc HQ2.out _) ⟨World.heap _ |>.size,0,none⟩ 1 1 (kK uu) rfl rfl (newsU _ uu _) (onesU uu) (by unfold maxLen;omega) (by omega) (by simp;omega) ?_;intro v3 w3 hown3 hgrow3 _;have HO3:Hid (w3.ownsRow w.heap.size 108 2 u6 (yD cs (l.take k)).length (kM (yD cs (l.take k)))):=World.ownsRow.kept (World.ownsRow.alloc HO2.out _) hgrow3 HN.out;have HQ3:Hid (w3.ownsRow w.heap.size 110 3 v3 (k+1) _):=hown3;have HB3:Hid (Below w.heap.size w w3):=(ba HB2.out _).grown hgrow3 (by simp;omega) (fun b hb=>(HQ2.out.lt b hb).1);obtain ⟨c0,c1,c2⟩:=HC.out w3 HB3.out;clear hown3 hgrow3))
   refine (done_s (yD cs (l.take k)) _ l[k] w3 (qT HO3.out) HK2.out.1 HK2.out.2 (HA.out _ (List.getElem_mem hkn))).mono ?_;rintro e w4 ⟨v4,rfl,hown4,hb4⟩;have hbs3:=HB3.out.size;have HO4:Hid (w4.ownsRow w3.heap.size 108 2 v4 _ _):=hown4;have HQ4:Hid (w4.ownsRow w.heap.size 110 3 v3 (k+1) _):=zS HQ3.out hb4;have HN4:Hid (v4.ownBlock=none∨v4.ownBlock ≠ v3.ownBlock):=own_ne HQ3.out hown4 (nl _);have HB4:Hid (Below w.heap.size w w4):=bt HB3.out hb4;clear hown4 hb4 c0 c1 c2;go_wp2
   go_roundw
   case rel=>exact ⟨k+1,by omega,by go_num,by rw [HS.out,doneAll_snoc];exact zN HO4.out hbs3,by rw [HS.out,undos_snoc,zY,flatU_one,← HUU.out];exact HQ4.out,HN4.out,HB4.out⟩
   case measure=>simp [intOf];omega
  ·have hkl:k=l.length:=by omega
   have HK:=hid hkl;clear hkl;go_wp2
   go_ret2
   have e1:=HO.out;have e2:=HQ.out;rw [HK.out,List.take_length] at e1 e2;exact ⟨u6,u7,rfl,e1,by rw [zGI];exact e2,HN.out,HB.out⟩
end Go.Proofs.YtdopefimjabigadGreat
