/-
  A text of ours: LeadH.
-/
import Derived.Test.YtdopefimjabigadGreatK1
import Derived.Test.YtdopefimjabigadGreatLeadS
import Derived.Test.YtdopefimjabigadGreatLokS
import Derived.Test.YtdopefimjabigadGreatPeerC
import Derived.Deep.DeepCutAuto
set_option maxRecDepth 100000
set_option maxHeartbeats 32000000
namespace Go.Proofs.YtdopefimjabigadGreat
open Go.RowKit Num
theorem yN {P:Program} {fn:Func} {p q:Tmp} {ty:TypeId} (h:fn.results=#[.cell p ty,.tmp q]) (tmps:Array Value) (w:World) (g:Nat) (t:TypeId) (cs:Array Value) (fr:Nat × Nat) (d:TypeDesc) (v:Value)
  (hp:tmps.getD p undef=.pointer (some ⟨g,0,none⟩)) (hg:w.heap[g]?=some (.cells cs t fr)) (hu:P.underlying ty=some d) (hd:(match d with | .struct _ | .array _ _=>true | _=>false)=true) (hi:(P.info? ty).map (·.size)=some cs.size)
  (hq:tmps.getD q undef=v) :
  (results fn tmps).run P w=.ok (.tuple #[.agg cs,v]) w:=by
 have hp':tmps[p]?.getD undef=.pointer (some ⟨g,0,none⟩):=by simpa using hp
 have hq':tmps[q]?.getD undef=v:=by simpa using hq
 simp [results,h,hp',hq',asAddr,run_loadVar_row w g t ty cs fr d hg hu hd hi]
def kZ (t:List BK) (n:Int) (p:PE) (l:LT):PE × List LT:=
 if qI t n l=true∧l.1.2.2.1=p.id then (if l.1.1=2 then zCF p n l.2.2 else if l.1.1=4 then (newsP p n l,[]) else (p,[])) else (p,[])
theorem lok_view {t:List BK} {n:Int} {l:LT} (h:qI t n l=true):1≤l.1.2.2.2.1∧l.1.2.2.2.1≤900:=by
 unfold qI at h;simp only [Bool.and_eq_true] at h;have:=h.2.2.2.1;unfold inB at this
 simpa using this
theorem lok_vote {t:List BK} {n:Int} {l:LT} (h:qI t n l=true) (hk:l.1.1=2):l.2.2.2.1=l.1.2.2.2.1:=by
 unfold qI yCA at h;rw [hk] at h;simp only [Bool.and_eq_true,show ¬ ((2:Int)=1) by decide,if_true,if_false,decide_eq_true_eq] at h;exact h.2.2.2.2.2.2.2.2
structure Bx4 (w y:World) (N:Nat) (A L Z O:Array Value):Prop where
 below:Below w.heap.size w y
 box:Bx y w.heap.size A 35
 let':Bx y (w.heap.size+1) L 37
 zero:Bx y (w.heap.size+1+1) Z 35
 out:Bx y N O 35
 far:w.heap.size+1+1 < N
theorem Bx4.lt {w y:World} {N:Nat} {A L Z O:Array Value} (h:Bx4 w y N A L Z O):N < y.heap.size:=(gl h.out)
theorem Bx4.more {w y x:World} {N:Nat} {A L Z O:Array Value} (h:Bx4 w y N A L Z O) (hb:Below y.heap.size y x):Bx4 w x N A L Z O:=by
 have:=h.lt;have:=h.far;exact ⟨bt h.below hb,(hb.block _ (by omega)).trans h.box,(hb.block _ (by omega)).trans h.let',(hb.block _ (by omega)).trans h.zero,(hb.block _ (by omega)).trans h.out,h.far⟩
theorem Bx4.put {w y x:World} {N:Nat} {A L Z O O':Array Value} (h:Bx4 w y N A L Z O) (hg:y.grownBy x (some N)) (hk:Bx x N O' 35):Bx4 w x N A L Z O':=by
 have:=h.lt;have:=h.far;exact ⟨h.below.grown hg h.below.size (fun k hk=>by cases hk;omega),(hg.block _ (by omega) (fun e=>by have:=Option.some.inj e;omega)).trans h.box,(hg.block _ (by omega) (fun e=>by have:=Option.some.inj e;omega)).trans h.let',(hg.block _ (by omega) (fun e=>by have:=Option.some.inj e;omega)).trans h.zero,hk,h.far⟩
theorem voted2_s (p:PE) (s:PV) (lo hi:Nat) (n:Int) (v:VT) (w:World) (hD:zO lo hi w p s) (hlo:lo≤w.heap.size) (hs:yC p) (hvl:(p.votes.length:Int)+1≤1048576)
  (hn0:0≤n) (hn1:n≤7) (hv0:-9223372036854775808≤v.2.1) (hv1:v.2.1 < 9223372036854775807) (hp0:-9223372036854775808≤p.view) (hp1:p.view < 9223372036854775807) :
  Calls Tryz.prog 81 #[yZ p s,.int .i64 n,.agg #[.int .i64 v.1,.int .i64 v.2.1,.int .i64 v.2.2.1,.int .i64 v.2.2.2]] w fun e w'=>∃ s' v',e=.returned (.tuple #[yZ (zCF p n v).1 s',v'])∧zO lo w'.heap.size w' (zCF p n v).1 s'∧w'.ownsRow w.heap.size 37 13 v' (zCF p n v).2.length (zE yE (zCF p n v).2)∧Below w.heap.size w w':=by
 have HD:=hid hD;have HS:=hid hs;obtain ⟨W,hW⟩:∃ W,W=((w.alloc (.cells (zA p s) 35)).alloc (.cells #[.int .i64 v.1,.int .i64 v.2.1,.int .i64 v.2.2.1,.int .i64 v.2.2.2] 28)).alloc (.cells zF 35):=⟨_,rfl⟩
 have HC:Hid (Below w.heap.size w W∧Bx W w.heap.size (zA p s) 35∧Bx W (w.heap.size+1) #[.int .i64 v.1,.int .i64 v.2.1,.int .i64 v.2.2.1,.int .i64 v.2.2.2] 28∧Bx W (w.heap.size+1+1) zF 35):=by
  rw [hW];exact ⟨ba (ba (ba (br _ _) _) _) _,zJH w _ _ _⟩
 have HWS:Hid (W.heap.size=w.heap.size+1+1+1):=hid (by rw [hW];simp);unfold zF at hW;clear hD hs;go_enter Tryz.func81,Tryz.ntmps81;go_wp2_with (rw [← hW];clear hW;refine w_ld (w.heap.size+1) HC.out.2.2.1 Tryz.underlying28 ?_)
 refine (vote_p p s w.heap.size lo W.heap.size n v W ((HD.out.below HC.out.1).wide (Nat.le_trans HD.out.2.2 HC.out.1.size) (nl _)) HC.out.2.1 (Nat.le_trans hlo HC.out.1.size) HS.out hvl hn0 hn1 hv0 hv1 hp0 hp1).mono ?_;obtain ⟨R,hR⟩:∃ R,R=zCF p n v:=⟨_,rfl⟩;have HRE:Hid (zCF p n v=R):=hR.symm;rw [← hR];clear hR;rintro e x1 ⟨lv,rfl,hg1,⟨s1,hk1,ho1⟩,hl1⟩;have HX1:Hid (Bx x1 w.heap.size (zA R.1 s1) 35∧zO lo x1.heap.size x1 R.1 s1∧x1.ownsRow w.heap.size 37 13 lv R.2.length (zE yE R.2)∧Below w.heap.size w x1∧Bx x1 (w.heap.size+1+1) zF 35):=⟨hk1,ho1,zN hl1 HC.out.1.size,HC.out.1.grown hg1 HC.out.1.size (fun k hk=>by cases hk;exact nl _),(hg1.block _ (by rw [HWS.out];omega) (fun e=>by have:=Option.some.inj e;omega)).trans HC.out.2.2.2⟩;clear hg1 hk1 ho1 hl1 HC
 go_wp2_with (first
  | (refine w_ld w.heap.size HX1.out.1 Tryz.underlying35 ?_)
  | (refine w_st (w.heap.size+1+1) (zA R.1 s1) HX1.out.2.2.2.2 (zJ HX1.out.2.1.1) ?_;intro z hg hk hz;have HZ:Hid (Below w.heap.size w z∧Bx z (w.heap.size+1+1) (zA R.1 s1) 35∧zO lo z.heap.size z R.1 s1∧z.ownsRow w.heap.size 37 13 lv R.2.length (zE yE R.2)):=⟨HX1.out.2.2.2.1.grown hg HX1.out.2.2.2.1.size (fun k hk=>by cases hk;omega),hk,(HX1.out.2.1.boxed HX1.out.2.2.2.2 hg).wide hg.size (nl _),World.ownsRow.kept HX1.out.2.2.1 hg (zH HX1.out.2.2.1 HX1.out.2.2.2.2 (by decide))⟩;clear hg hk hz HX1))
 refine bodyPost_ret (v:=.tuple #[.agg (zA R.1 s1),lv]) (yN Tryz.results81 _ _ (w.heap.size+1+1) 35 _ (0,0) _ _ rfl HZ.out.2.1 Tryz.underlying35 rfl (by kernel_rfl) rfl) rfl ?_;rw [HRE.out];exact ⟨s1,lv,rfl,HZ.out.2.2.1,HZ.out.2.2.2,HZ.out.1⟩
theorem Bx4.fill {w y z:World} {N:Nat} {A L Z O:Array Value} (h:Bx4 w y N A L Z O) (hg:y.grownBy z (some (w.heap.size+1+1))):Below w.heap.size w z:=h.below.grown hg h.below.size (fun k hk=>by cases hk;omega)
theorem leadHear_s (ps:TL) (va:Value) (n:Int) (p:PE) (s:PV) (l:LT) (w:World) (hT:jB w va ps) (hl:(ps.length:Int)≤1048576) (hR:jS w p s) (hs:yC p) (hvl:(p.votes.length:Int)+1≤1048576)
  (hn0:0≤n) (hn1:n≤7) (hq:fitQ l.2.1) (hp0:-9223372036854775808≤p.view) (hp1:p.view < 9223372036854775807) :
  Calls Tryz.prog 33 #[va,.int .i64 n,yZ p s,.agg (zQ l)] w fun e w'=>∃ s' v',e=.returned (.tuple #[yZ (kZ (bks ps) n p l).1 s',v'])∧zO w.heap.size w'.heap.size w' (kZ (bks ps) n p l).1 s'∧w'.ownsRow w.heap.size 37 13 v' (kZ (bks ps) n p l).2.length (zE yE (kZ (bks ps) n p l).2)∧Below w.heap.size w w':=by
 have HT:=hid hT;have HR:=hid hR;have HS:=hid hs;have HFQ:=hid hq;clear hT hR hs hq;obtain ⟨W,hW⟩:∃ W,W=((w.alloc (.cells (zA p s) 35)).alloc (.cells (zQ l) 37)).alloc (.cells zF 35):=⟨_,rfl⟩
 have HC:Hid (Below w.heap.size w W∧Bx W w.heap.size (zA p s) 35∧Bx W (w.heap.size+1) (zQ l) 37∧Bx W (w.heap.size+1+1) zF 35):=by
  rw [hW];exact ⟨ba (ba (ba (br _ _) _) _) _,zJH w _ _ _⟩
 have HWS:Hid (W.heap.size=w.heap.size+1+1+1):=hid (by rw [hW];simp);unfold zF at hW;go_enter Tryz.func33,Tryz.ntmps33;go_wp2_with (rw [← hW];clear hW;refine w_ld w.heap.size HC.out.2.1 Tryz.underlying35 ?_)
 refine (zHJ p s W (HR.out.below HC.out.1) HS.out).mono ?_;rintro e x1 ⟨s1,rfl,ho,hb⟩;have HO1:Hid (zO W.heap.size x1.heap.size x1 p s1):=ho.toD;have HB1:Hid (Below W.heap.size W x1):=hb;clear ho hb;obtain ⟨N,hN⟩:∃ N,N=x1.heap.size:=⟨_,rfl⟩
 go_upto_region 3 with (first
  | (refine w_st x1.heap.size (zA p s1) (heap_alloc_new x1 _) (zJ HO1.out.1) ?_;intro y1 hg hk hz;have hb1:Below x1.heap.size x1 y1:=yB hg;have HY1:Hid (Bx4 w y1 N (zA p s) (zQ l) zF (zA p s1)):=⟨bt HC.out.1 (bt HB1.out hb1),(hb1.block _ (by have:=HB1.out.size;have:=HWS.out;omega)).trans ((HB1.out.block _ (by have:=HWS.out;omega)).trans HC.out.2.1),(hb1.block _ (by have:=HB1.out.size;have:=HWS.out;omega)).trans ((HB1.out.block _ (by have:=HWS.out;omega)).trans HC.out.2.2.1),(hb1.block _ (by have:=HB1.out.size;have:=HWS.out;omega)).trans ((HB1.out.block _ (by have:=HWS.out;omega)).trans HC.out.2.2.2),(by rw [hN];exact hk),(by have:=HB1.out.size;have:=HWS.out;omega)⟩;have HD1:Hid (zO w.heap.size y1.heap.size y1 p s1):=((HO1.out.below hb1).wide (Nat.le_of_lt (gl hk)) (nl _)).low HC.out.1.size;clear hg hk hz hb1 HO1 HB1))
 obtain ⟨y2,hy2⟩:∃ y2,y2=y1.alloc (.cells #[] 37):=⟨_,rfl⟩;rw [← hy2];have hb2:Below y1.heap.size y1 y2:=by rw [hy2];exact (br _ _).alloc (nl _) _
 have HY2:Hid (Bx4 w y2 N (zA p s) (zQ l) zF (zA p s1)):=HY1.out.more hb2;have HD2:Hid (zO w.heap.size y2.heap.size y2 p s1):=(HD1.out.below hb2).wide hb2.size (nl _);have HLV:Hid (y2.ownsRow w.heap.size 37 13 (.slice (some ⟨y1.heap.size,0,none⟩) 0 0) ([]:List LT).length (zE yE [])):=hid (by rw [hy2];exact zN (yH y1 37 13) HY1.out.below.size);obtain ⟨ov,hov⟩:∃ ov,ov=Value.slice (some ⟨y1.heap.size,0,none⟩) 0 0:=⟨_,rfl⟩;rw [← hov] at HLV ⊢;clear hb2 hy2 hov HY1 HD1 HC HWS;rw [← hN];clear hN;go_wp2_with (refine w_ld (w.heap.size+1) HY2.out.let' Tryz.underlying37 ?_)
 refine (letterOk_s ps va n l y2 (HT.out.below HY2.out.below) hl hn0 hn1 HFQ.out).mono ?_;rintro e y3 ⟨rfl,hb⟩;have HY3:Hid (Bx4 w y3 N (zA p s) (zQ l) zF (zA p s1)):=HY2.out.more hb;have HD3:Hid (zO w.heap.size y3.heap.size y3 p s1):=(HD2.out.below hb).wide hb.size (nl _);have HLV3:Hid (y3.ownsRow w.heap.size 37 13 ov ([]:List LT).length (zE yE [])):=zS HLV.out hb;clear hb HY2 HD2 HLV;have cid:=zB HY3.out.box 0 (.int .i64 p.id) rfl;have cto:=zB HY3.out.let' 2 (.int .i64 l.1.2.2.1) rfl;have ckd:=zB HY3.out.let' 0 (.int .i64 l.1.1) rfl
 cases hlok:qI (bks ps) n l with
 | false=>
  have HE:Hid (kZ (bks ps) n p l=(p,[])):=(by unfold kZ;rw [if_neg (fun h=>by rw [hlok] at h;exact absurd h.1 (by decide))]:kZ (bks ps) n p l=_);clear hlok
  go_wp2_with (first
   | (refine w_ld N HY3.out.out Tryz.underlying35 ?_)
   | (refine w_st (w.heap.size+1+1) (zA p s1) HY3.out.zero (zJ HD3.out.1) ?_;intro z hg hk hz;have HZ:Hid (Below w.heap.size w z∧Bx z (w.heap.size+1+1) (zA p s1) 35∧zO w.heap.size z.heap.size z p s1∧z.ownsRow w.heap.size 37 13 ov ([]).length (zE yE ([]))):=⟨HY3.out.fill hg,hk,(HD3.out.boxed HY3.out.zero hg).wide hg.size (nl _),World.ownsRow.kept HLV3.out hg (zH HLV3.out HY3.out.zero (by decide))⟩;clear hg hk hz))
  refine bodyPost_ret (v:=.tuple #[.agg (zA p s1),ov]) (yN Tryz.results33 _ _ (w.heap.size+1+1) 35 _ (0,0) _ _ rfl HZ.out.2.1 Tryz.underlying35 rfl (by kernel_rfl) rfl) rfl ?_;rw [HE.out];exact ⟨s1,ov,rfl,HZ.out.2.2.1,HZ.out.2.2.2,HZ.out.1⟩
 | true=>
  have hvw:=lok_view hlok
  by_cases hto:l.1.2.2.1=p.id
  ·have bto:(l.1.2.2.1 != p.id)=false:=by simpa using hto
   by_cases hk2:l.1.1=2
   ·have bk2:(l.1.1 == 2)=true:=by simpa using hk2
    have HV1:=hid (lok_vote hlok hk2);obtain ⟨R,hR⟩:∃ R,R=zCF p n l.2.2:=⟨_,rfl⟩;have HE:Hid (kZ (bks ps) n p l=R):=hid (by unfold kZ;rw [if_pos ⟨hlok,hto⟩,if_pos hk2,hR]);have c9:=zB HY3.out.let' 9 (.int .i64 l.2.2.1) rfl;have c10:=zB HY3.out.let' 10 (.int .i64 l.2.2.2.1) rfl;have c11:=zB HY3.out.let' 11 (.int .i64 l.2.2.2.2.1) rfl;have c12:=zB HY3.out.let' 12 (.int .i64 l.2.2.2.2.2) rfl;clear hlok hto hk2;go_wp2_with (refine w_ld N HY3.out.out Tryz.underlying35 ?_)
    refine (voted2_s p s1 w.heap.size y3.heap.size n l.2.2 y3 HD3.out HY3.out.below.size HS.out hvl hn0 hn1 (by rw [HV1.out];omega) (by rw [HV1.out];omega) hp0 hp1).mono ?_;rw [← hR];rintro e y4 ⟨s4,v4,rfl,ho,hlv,hb⟩;have HY4:Hid (Bx4 w y4 N (zA p s) (zQ l) zF (zA p s1)):=HY3.out.more hb;have HD4:Hid (zO w.heap.size y4.heap.size y4 R.1 s4):=ho;have HLV4:Hid (y4.ownsRow w.heap.size 37 13 v4 R.2.length (zE yE R.2)):=zN hlv HY3.out.below.size;clear ho hlv hb hR HY3 HD3 HLV3 cid cto ckd c9 c10 c11 c12
    go_wp2_with (first
     | (refine w_ld N HY4.out.out Tryz.underlying35 ?_)
     | (refine w_st (w.heap.size+1+1) (zA R.1 s4) HY4.out.zero (zJ HD4.out.1) ?_;intro z hg hk hz;have HZ:Hid (Below w.heap.size w z∧Bx z (w.heap.size+1+1) (zA R.1 s4) 35∧zO w.heap.size z.heap.size z R.1 s4∧z.ownsRow w.heap.size 37 13 v4 (R.2).length (zE yE (R.2))):=⟨HY4.out.fill hg,hk,(HD4.out.boxed HY4.out.zero hg).wide hg.size (nl _),World.ownsRow.kept HLV4.out hg (zH HLV4.out HY4.out.zero (by decide))⟩;clear hg hk hz))
    refine bodyPost_ret (v:=.tuple #[.agg (zA R.1 s4),v4]) (yN Tryz.results33 _ _ (w.heap.size+1+1) 35 _ (0,0) _ _ rfl HZ.out.2.1 Tryz.underlying35 rfl (by kernel_rfl) rfl) rfl ?_;rw [HE.out];exact ⟨s4,v4,rfl,HZ.out.2.2.1,HZ.out.2.2.2,HZ.out.1⟩
   ·have bk2:(l.1.1 == 2)=false:=by simpa using hk2
    by_cases hk4:l.1.1=4
    ·have bk4:(l.1.1 == 4)=true:=by simpa using hk4
     obtain ⟨R,hR⟩:∃ R,R=newsP p n l:=⟨_,rfl⟩;have HE:Hid (kZ (bks ps) n p l=(R,[])):=(by unfold kZ;rw [if_pos ⟨hlok,hto⟩,if_neg hk2,if_pos hk4,hR]:kZ (bks ps) n p l=_);clear hlok hto hk2 hk4;go_wp2_with (refine w_ld (w.heap.size+1) HY3.out.let' Tryz.underlying37 ?_)
     refine (new_s p s1 N w.heap.size y3.heap.size n l y3 HD3.out HY3.out.out HY3.out.below.size HS.out (by omega) (by omega) (by omega) (by omega) hp0 hp1).mono ?_;rw [← hR];rintro e y4 ⟨⟨u,rfl⟩,hg,s4,hk,ho⟩;have HY4:Hid (Bx4 w y4 N (zA p s) (zQ l) zF (zA R s4)):=HY3.out.put hg hk;have HD4:Hid (zO w.heap.size y4.heap.size y4 R s4):=ho;have HLV4:Hid (y4.ownsRow w.heap.size 37 13 ov ([]:List LT).length (zE yE [])):=World.ownsRow.kept HLV3.out hg (zH HLV3.out HY3.out.out (by decide));clear ho hg hk hR HY3 HD3 HLV3 cid cto ckd
     go_wp2_with (first
      | (refine w_ld N HY4.out.out Tryz.underlying35 ?_)
      | (refine w_st (w.heap.size+1+1) (zA R s4) HY4.out.zero (zJ HD4.out.1) ?_;intro z hg hk hz;have HZ:Hid (Below w.heap.size w z∧Bx z (w.heap.size+1+1) (zA R s4) 35∧zO w.heap.size z.heap.size z R s4∧z.ownsRow w.heap.size 37 13 ov ([]).length (zE yE ([]))):=⟨HY4.out.fill hg,hk,(HD4.out.boxed HY4.out.zero hg).wide hg.size (nl _),World.ownsRow.kept HLV4.out hg (zH HLV4.out HY4.out.zero (by decide))⟩;clear hg hk hz))
     refine bodyPost_ret (v:=.tuple #[.agg (zA R s4),ov]) (yN Tryz.results33 _ _ (w.heap.size+1+1) 35 _ (0,0) _ _ rfl HZ.out.2.1 Tryz.underlying35 rfl (by kernel_rfl) rfl) rfl ?_;rw [HE.out];exact ⟨s4,ov,rfl,HZ.out.2.2.1,HZ.out.2.2.2,HZ.out.1⟩
    ·have bk4:(l.1.1 == 4)=false:=by simpa using hk4
     have HE:Hid (kZ (bks ps) n p l=(p,[])):=(by unfold kZ;rw [if_pos ⟨hlok,hto⟩,if_neg hk2,if_neg hk4]:kZ (bks ps) n p l=_);clear hlok hto hk2 hk4
     go_wp2_with (first
      | (refine w_ld N HY3.out.out Tryz.underlying35 ?_)
      | (refine w_st (w.heap.size+1+1) (zA p s1) HY3.out.zero (zJ HD3.out.1) ?_;intro z hg hk hz;have HZ:Hid (Below w.heap.size w z∧Bx z (w.heap.size+1+1) (zA p s1) 35∧zO w.heap.size z.heap.size z p s1∧z.ownsRow w.heap.size 37 13 ov ([]).length (zE yE ([]))):=⟨HY3.out.fill hg,hk,(HD3.out.boxed HY3.out.zero hg).wide hg.size (nl _),World.ownsRow.kept HLV3.out hg (zH HLV3.out HY3.out.zero (by decide))⟩;clear hg hk hz))
     refine bodyPost_ret (v:=.tuple #[.agg (zA p s1),ov]) (yN Tryz.results33 _ _ (w.heap.size+1+1) 35 _ (0,0) _ _ rfl HZ.out.2.1 Tryz.underlying35 rfl (by kernel_rfl) rfl) rfl ?_;rw [HE.out];exact ⟨s1,ov,rfl,HZ.out.2.2.1,HZ.out.2.2.2,HZ.out.1⟩
  ·have bto:(l.1.2.2.1 != p.id)=true:=by simpa using hto
   have HE:Hid (kZ (bks ps) n p l=(p,[])):=(by unfold kZ;rw [if_neg (fun h=>hto h.2)]:kZ (bks ps) n p l=_);clear hlok hto
   go_wp2_with (first
    | (refine w_ld N HY3.out.out Tryz.underlying35 ?_)
    | (refine w_st (w.heap.size+1+1) (zA p s1) HY3.out.zero (zJ HD3.out.1) ?_;intro z hg hk hz;have HZ:Hid (Below w.heap.size w z∧Bx z (w.heap.size+1+1) (zA p s1) 35∧zO w.heap.size z.heap.size z p s1∧z.ownsRow w.heap.size 37 13 ov ([]).length (zE yE ([]))):=⟨HY3.out.fill hg,hk,(HD3.out.boxed HY3.out.zero hg).wide hg.size (nl _),World.ownsRow.kept HLV3.out hg (zH HLV3.out HY3.out.zero (by decide))⟩;clear hg hk hz))
   refine bodyPost_ret (v:=.tuple #[.agg (zA p s1),ov]) (yN Tryz.results33 _ _ (w.heap.size+1+1) 35 _ (0,0) _ _ rfl HZ.out.2.1 Tryz.underlying35 rfl (by kernel_rfl) rfl) rfl ?_;rw [HE.out];exact ⟨s1,ov,rfl,HZ.out.2.2.1,HZ.out.2.2.2,HZ.out.1⟩
end Go.Proofs.YtdopefimjabigadGreat
