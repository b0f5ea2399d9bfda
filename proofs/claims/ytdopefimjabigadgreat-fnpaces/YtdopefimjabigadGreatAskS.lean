/-
  A text of ours: AskS.
-/
import Derived.Test.YtdopefimjabigadGreatK1
import Derived.Test.YtdopefimjabigadGreatAskQ
import Derived.Test.YtdopefimjabigadGreatK5
set_option maxRecDepth 100000
set_option maxHeartbeats 32000000
namespace Go.Proofs.YtdopefimjabigadGreat
open Go.RowKit Num
def blockH (t:List BK) (p:PE) (l:LT):PE × List LT:=
 if zEG (yI p l.1.2.2.2.1) 1 l.1.2.2.2.1=true∧yDA t (yI p l.1.2.2.2.1).lock l.1.2.2.2.2=true then (yP (yI p l.1.2.2.2.1) 1 l.1.2.2.2.1 l.1.2.2.2.2,[zEJ (yI p l.1.2.2.2.1) 1 l.1.2.2.2.1 l.1.2.2.2.2 l.1.2.1]) else (yI p l.1.2.2.2.1,[])
def qC (t:List BK) (n:Int) (p:PE) (l:LT):PE × List LT:=
 if qI t n l=true∧l.1.2.2.1=p.id then
  (if l.1.1=2∨l.1.1=4 then kZ t n p l
   else if l.1.2.1=xQ l.1.2.2.2.1 n∧¬ l.1.2.2.2.1 < p.view then (if l.1.1=3 then qcH t n p l else blockH t p l) else (p,[]))
 else (p,[])
theorem askHear_s (ps:TL) (va:Value) (n:Int) (p:PE) (s:PV) (l:LT) (w:World) (hT:jB w va ps) (hl:(ps.length:Int)≤1048576) (hk:okT (bks ps)) (hln:jZ p+wtB (bks ps)≤1048576) (hR:jS w p s) (hs:yC p) (hvl:(p.votes.length:Int)+1≤1048576)
  (hn0:0≤n) (hn1:n≤7) (hq:fitQ l.2.1) (hp0:-9223372036854775808≤p.view) (hp1:p.view < 9223372036854775807) :
  Calls Tryz.prog 183 #[va,.int .i64 n,yZ p s,.agg (zQ l)] w fun e w'=>∃ s' v',e=.returned (.tuple #[yZ (qC (bks ps) n p l).1 s',v'])∧zO w.heap.size w'.heap.size w' (qC (bks ps) n p l).1 s'∧w'.ownsRow w.heap.size 37 13 v' (qC (bks ps) n p l).2.length (zE yE (qC (bks ps) n p l).2)∧Below w.heap.size w w':=by
 have HT:=hid hT;have HR:=hid hR;have HS:=hid hs;have HFQ:=hid hq;have HK:=hid hk;have HLN:=hid hln;clear hk hln;clear hT hR hs hq;obtain ⟨W,hW⟩:∃ W,W=((w.alloc (.cells (zA p s) 35)).alloc (.cells (zQ l) 37)).alloc (.cells zF 35):=⟨_,rfl⟩
 have HC:Hid (Below w.heap.size w W∧Bx W w.heap.size (zA p s) 35∧Bx W (w.heap.size+1) (zQ l) 37∧Bx W (w.heap.size+1+1) zF 35):=by
  rw [hW];exact ⟨ba (ba (ba (br _ _) _) _) _,zJH w _ _ _⟩
 have HWS:Hid (W.heap.size=w.heap.size+1+1+1):=hid (by rw [hW];simp);unfold zF at hW;go_enter Tryz.func183,Tryz.ntmps183;go_wp2_with (rw [← hW];clear hW;refine w_ld w.heap.size HC.out.2.1 Tryz.underlying35 ?_)
 refine (zHJ p s W (HR.out.below HC.out.1) HS.out).mono ?_;rintro e x1 ⟨s1,rfl,ho,hb⟩;have HO1:Hid (zO W.heap.size x1.heap.size x1 p s1):=ho.toD;have HB1:Hid (Below W.heap.size W x1):=hb;clear ho hb;obtain ⟨N,hN⟩:∃ N,N=x1.heap.size:=⟨_,rfl⟩
 go_upto_region 3 with (first
  | (refine w_st x1.heap.size (zA p s1) (heap_alloc_new x1 _) (zJ HO1.out.1) ?_;intro y1 hg hk hz;have hb1:Below x1.heap.size x1 y1:=yB hg;have HY1:Hid (Bx4 w y1 N (zA p s) (zQ l) zF (zA p s1)):=⟨bt HC.out.1 (bt HB1.out hb1),(hb1.block _ (by have:=HB1.out.size;have:=HWS.out;omega)).trans ((HB1.out.block _ (by have:=HWS.out;omega)).trans HC.out.2.1),(hb1.block _ (by have:=HB1.out.size;have:=HWS.out;omega)).trans ((HB1.out.block _ (by have:=HWS.out;omega)).trans HC.out.2.2.1),(hb1.block _ (by have:=HB1.out.size;have:=HWS.out;omega)).trans ((HB1.out.block _ (by have:=HWS.out;omega)).trans HC.out.2.2.2),(by rw [hN];exact hk),(by have:=HB1.out.size;have:=HWS.out;omega)⟩;have HD1:Hid (zO w.heap.size y1.heap.size y1 p s1):=((HO1.out.below hb1).wide (Nat.le_of_lt (gl hk)) (nl _)).low HC.out.1.size;clear hg hk hz hb1 HO1 HB1))
 obtain ⟨y2,hy2⟩:∃ y2,y2=y1.alloc (.cells #[] 37):=⟨_,rfl⟩;rw [← hy2];have hb2:Below y1.heap.size y1 y2:=by rw [hy2];exact (br _ _).alloc (nl _) _
 have HY2:Hid (Bx4 w y2 N (zA p s) (zQ l) zF (zA p s1)):=HY1.out.more hb2;have HD2:Hid (zO w.heap.size y2.heap.size y2 p s1):=(HD1.out.below hb2).wide hb2.size (nl _);have HLV:Hid (y2.ownsRow w.heap.size 37 13 (.slice (some ⟨y1.heap.size,0,none⟩) 0 0) ([]:List LT).length (zE yE [])):=hid (by rw [hy2];exact zN (yH y1 37 13) HY1.out.below.size);obtain ⟨ov,hov⟩:∃ ov,ov=Value.slice (some ⟨y1.heap.size,0,none⟩) 0 0:=⟨_,rfl⟩;rw [← hov] at HLV ⊢;clear hb2 hy2 hov HY1 HD1 HC HWS;rw [← hN];clear hN;go_wp2_with (refine w_ld (w.heap.size+1) HY2.out.let' Tryz.underlying37 ?_)
 refine (letterOk_s ps va n l y2 (HT.out.below HY2.out.below) hl hn0 hn1 HFQ.out).mono ?_;rintro e y3 ⟨rfl,hb⟩;have HY3:Hid (Bx4 w y3 N (zA p s) (zQ l) zF (zA p s1)):=HY2.out.more hb;have HD3:Hid (zO w.heap.size y3.heap.size y3 p s1):=(HD2.out.below hb).wide hb.size (nl _);have HLV3:Hid (y3.ownsRow w.heap.size 37 13 ov ([]:List LT).length (zE yE [])):=zS HLV.out hb;clear hb HY2 HD2 HLV;have cid:=zB HY3.out.box 0 (.int .i64 p.id) rfl;have cto:=zB HY3.out.let' 2 (.int .i64 l.1.2.2.1) rfl;have ckd:=zB HY3.out.let' 0 (.int .i64 l.1.1) rfl
 cases hlok:qI (bks ps) n l with
 | false=>
  have HE:Hid (qC (bks ps) n p l=(p,[])):=(by unfold qC;rw [if_neg (fun h=>by rw [hlok] at h;exact absurd h.1 (by decide))]:qC (bks ps) n p l=_);clear hlok
  go_wp2_with (first
   | (refine w_ld N HY3.out.out Tryz.underlying35 ?_)
   | (refine w_st (w.heap.size+1+1) (zA p s1) HY3.out.zero (zJ HD3.out.1) ?_;intro z hg hk hz;have HZ:Hid (Below w.heap.size w z∧Bx z (w.heap.size+1+1) (zA p s1) 35∧zO w.heap.size z.heap.size z p s1∧z.ownsRow w.heap.size 37 13 ov ([]).length (zE yE ([]))):=⟨HY3.out.fill hg,hk,(HD3.out.boxed HY3.out.zero hg).wide hg.size (nl _),World.ownsRow.kept HLV3.out hg (zH HLV3.out HY3.out.zero (by decide))⟩;clear hg hk hz))
  refine bodyPost_ret (v:=.tuple #[.agg (zA p s1),ov]) (yN Tryz.results183 _ _ (w.heap.size+1+1) 35 _ (0,0) _ _ rfl HZ.out.2.1 Tryz.underlying35 rfl (by kernel_rfl) rfl) rfl ?_;rw [HE.out];exact ⟨s1,ov,rfl,HZ.out.2.2.1,HZ.out.2.2.2,HZ.out.1⟩
 | true=>
  have hvw:=lok_view hlok
  by_cases hto:l.1.2.2.1=p.id
  ·have bto:(l.1.2.2.1 != p.id)=false:=by simpa using hto
   by_cases hk2:l.1.1=2
   ·have bk2:(l.1.1 == 2)=true:=by simpa using hk2
    have HE0:Hid (qC (bks ps) n p l=kZ (bks ps) n p l):=(by unfold qC;rw [if_pos ⟨hlok,hto⟩,if_pos (Or.inl hk2)]:qC (bks ps) n p l=_);clear hlok hto hk2;obtain ⟨R,hR⟩:∃ R,R=kZ (bks ps) n p l:=⟨_,rfl⟩;have HE:Hid (qC (bks ps) n p l=R):=hid (by rw [HE0.out,hR])
    go_wp2_with (first
     | (refine w_ld w.heap.size HY3.out.box Tryz.underlying35 ?_)
     | (refine w_ld (w.heap.size+1) HY3.out.let' Tryz.underlying37 ?_))
    refine (leadHear_s ps va n p s l y3 (HT.out.below HY3.out.below) hl (HR.out.below HY3.out.below) HS.out hvl hn0 hn1 HFQ.out hp0 hp1).mono ?_;rw [← hR];rintro e y4 ⟨s4,v4,rfl,ho,hlv,hb⟩;have HY4:Hid (Bx4 w y4 N (zA p s) (zQ l) zF (zA p s1)):=HY3.out.more hb;have HD4:Hid (zO w.heap.size y4.heap.size y4 R.1 s4):=ho.low HY3.out.below.size;have HLV4:Hid (y4.ownsRow w.heap.size 37 13 v4 R.2.length (zE yE R.2)):=zN hlv HY3.out.below.size;clear ho hlv hb hR HY3 HD3 HLV3 cid cto ckd HE0
    go_wp2_with (first
     | (refine w_ld N HY4.out.out Tryz.underlying35 ?_)
     | (refine w_st (w.heap.size+1+1) (zA R.1 s4) HY4.out.zero (zJ HD4.out.1) ?_;intro z hg hk hz;have HZ:Hid (Below w.heap.size w z∧Bx z (w.heap.size+1+1) (zA R.1 s4) 35∧zO w.heap.size z.heap.size z R.1 s4∧z.ownsRow w.heap.size 37 13 v4 (R.2).length (zE yE (R.2))):=⟨HY4.out.fill hg,hk,(HD4.out.boxed HY4.out.zero hg).wide hg.size (nl _),World.ownsRow.kept HLV4.out hg (zH HLV4.out HY4.out.zero (by decide))⟩;clear hg hk hz))
    refine bodyPost_ret (v:=.tuple #[.agg (zA R.1 s4),v4]) (yN Tryz.results183 _ _ (w.heap.size+1+1) 35 _ (0,0) _ _ rfl HZ.out.2.1 Tryz.underlying35 rfl (by kernel_rfl) rfl) rfl ?_;rw [HE.out];exact ⟨s4,v4,rfl,HZ.out.2.2.1,HZ.out.2.2.2,HZ.out.1⟩
   ·have bk2:(l.1.1 == 2)=false:=by simpa using hk2
    by_cases hk4:l.1.1=4
    ·have bk4:(l.1.1 == 4)=true:=by simpa using hk4
     have HE0:Hid (qC (bks ps) n p l=kZ (bks ps) n p l):=(by unfold qC;rw [if_pos ⟨hlok,hto⟩,if_pos (Or.inr hk4)]:qC (bks ps) n p l=_);clear hlok hto hk2 hk4;obtain ⟨R,hR⟩:∃ R,R=kZ (bks ps) n p l:=⟨_,rfl⟩;have HE:Hid (qC (bks ps) n p l=R):=hid (by rw [HE0.out,hR])
     go_wp2_with (first
      | (refine w_ld w.heap.size HY3.out.box Tryz.underlying35 ?_)
      | (refine w_ld (w.heap.size+1) HY3.out.let' Tryz.underlying37 ?_))
     refine (leadHear_s ps va n p s l y3 (HT.out.below HY3.out.below) hl (HR.out.below HY3.out.below) HS.out hvl hn0 hn1 HFQ.out hp0 hp1).mono ?_;rw [← hR];rintro e y4 ⟨s4,v4,rfl,ho,hlv,hb⟩;have HY4:Hid (Bx4 w y4 N (zA p s) (zQ l) zF (zA p s1)):=HY3.out.more hb;have HD4:Hid (zO w.heap.size y4.heap.size y4 R.1 s4):=ho.low HY3.out.below.size;have HLV4:Hid (y4.ownsRow w.heap.size 37 13 v4 R.2.length (zE yE R.2)):=zN hlv HY3.out.below.size;clear ho hlv hb hR HY3 HD3 HLV3 cid cto ckd HE0
     go_wp2_with (first
      | (refine w_ld N HY4.out.out Tryz.underlying35 ?_)
      | (refine w_st (w.heap.size+1+1) (zA R.1 s4) HY4.out.zero (zJ HD4.out.1) ?_;intro z hg hk hz;have HZ:Hid (Below w.heap.size w z∧Bx z (w.heap.size+1+1) (zA R.1 s4) 35∧zO w.heap.size z.heap.size z R.1 s4∧z.ownsRow w.heap.size 37 13 v4 (R.2).length (zE yE (R.2))):=⟨HY4.out.fill hg,hk,(HD4.out.boxed HY4.out.zero hg).wide hg.size (nl _),World.ownsRow.kept HLV4.out hg (zH HLV4.out HY4.out.zero (by decide))⟩;clear hg hk hz))
     refine bodyPost_ret (v:=.tuple #[.agg (zA R.1 s4),v4]) (yN Tryz.results183 _ _ (w.heap.size+1+1) 35 _ (0,0) _ _ rfl HZ.out.2.1 Tryz.underlying35 rfl (by kernel_rfl) rfl) rfl ?_;rw [HE.out];exact ⟨s4,v4,rfl,HZ.out.2.2.1,HZ.out.2.2.2,HZ.out.1⟩
    ·have bk4:(l.1.1 == 4)=false:=by simpa using hk4
     have HE0:Hid (qC (bks ps) n p l=if l.1.2.1=xQ l.1.2.2.2.1 n∧¬ l.1.2.2.2.1 < p.view then (if l.1.1=3 then qcH (bks ps) n p l else blockH (bks ps) p l) else (p,[])):=(by unfold qC;rw [if_pos ⟨hlok,hto⟩,if_neg (fun h=>h.elim hk2 hk4)]:qC (bks ps) n p l=_);clear hlok hto hk2 hk4;obtain ⟨fr,hfr⟩:∃ fr,fr=l.1.2.1:=⟨_,rfl⟩;obtain ⟨vw,hvw'⟩:∃ vw,vw=l.1.2.2.2.1:=⟨_,rfl⟩;obtain ⟨ld,e1⟩:∃ ld,xQ vw n=ld:=⟨_,rfl⟩;rw [← hvw'] at hvw;have HLD:Hid (∀ x:World,Calls Tryz.prog 13 #[.int .i64 vw,.int .i64 n] x fun e w'=>e=.returned (.int .i64 ld)∧w'=x):=fun x=>xR e1 (by omega) (by omega) (by omega) (by omega) x
     have HVB:=hid hvw;clear hvw;rw [← hfr,← hvw',e1] at HE0;have hne:=yX y3;have y1:∀ x:Bw y3,x.to.cell? ⟨w.heap.size,1,none⟩=some (.int .i64 p.view):=fun x=>zB (HY3.out.more x.below).box 1 _ rfl
     have z1:∀ x:Bw y3,x.to.cell? ⟨w.heap.size+1,1,none⟩=some (.int .i64 fr):=fun x=>by rw [hfr];exact zB (HY3.out.more x.below).let' 1 _ rfl
     have z3:∀ x:Bw y3,x.to.cell? ⟨w.heap.size+1,3,none⟩=some (.int .i64 vw):=fun x=>by rw [hvw'];exact zB (HY3.out.more x.below).let' 3 _ rfl
     have HFR:=hid hfr;have HVW:=hid hvw';clear hfr hvw'
     by_cases hfl:fr=ld
     ·have bfl:(fr != ld)=false:=by simpa using hfl
      have dfl:decide (fr=ld)=true:=decide_eq_true hfl
      by_cases hvl2:vw < p.view
      ·have dvl:decide (vw < p.view)=true:=decide_eq_true hvl2;have HE:Hid (qC (bks ps) n p l=(p,[])):=(by rw [HE0.out,if_neg (fun h=>h.2 hvl2)]:qC (bks ps) n p l=_);clear hfl;go_wp2;refine rb ?_;repeat (go_big_quiet_step (first | (go_at_call 13;with_reducible refine zI (HLD.out _))))
       refine wpQuiet_nil ?_;intro _ hw';obtain ⟨xq,rfl⟩:=hw';have HY4:Hid (Bx4 w xq.to N (zA p s) (zQ l) zF (zA p s1)):=HY3.out.more xq.below;have HD4:Hid (zO w.heap.size xq.to.heap.size xq.to p s1):=(HD3.out.below xq.below).wide xq.below.size (nl _);have HLV4:Hid (xq.to.ownsRow w.heap.size 37 13 ov ([]:List LT).length (zE yE [])):=zS HLV3.out xq.below;clear y1 z1 z3 hne HY3 HD3 HLV3 cid cto ckd
       go_wp2_with (first
        | (refine w_ld N HY4.out.out Tryz.underlying35 ?_)
        | (refine w_st (w.heap.size+1+1) (zA p s1) HY4.out.zero (zJ HD4.out.1) ?_;intro z hg hk hz;have HZ:Hid (Below w.heap.size w z∧Bx z (w.heap.size+1+1) (zA p s1) 35∧zO w.heap.size z.heap.size z p s1∧z.ownsRow w.heap.size 37 13 ov ([]).length (zE yE ([]))):=⟨HY4.out.fill hg,hk,(HD4.out.boxed HY4.out.zero hg).wide hg.size (nl _),World.ownsRow.kept HLV4.out hg (zH HLV4.out HY4.out.zero (by decide))⟩;clear hg hk hz))
       refine bodyPost_ret (v:=.tuple #[.agg (zA p s1),ov]) (yN Tryz.results183 _ _ (w.heap.size+1+1) 35 _ (0,0) _ _ rfl HZ.out.2.1 Tryz.underlying35 rfl (by kernel_rfl) rfl) rfl ?_;rw [HE.out];exact ⟨s1,ov,rfl,HZ.out.2.2.1,HZ.out.2.2.2,HZ.out.1⟩
      ·have dvl:decide (vw < p.view)=false:=decide_eq_false hvl2;have HE1:Hid (qC (bks ps) n p l=if l.1.1=3 then qcH (bks ps) n p l else blockH (bks ps) p l):=(by rw [HE0.out,if_pos ⟨hfl,hvl2⟩]:qC (bks ps) n p l=_);clear hfl;go_wp2;clear ckd cid cto;refine rb ?_;repeat (go_big_quiet_step (first | (go_at_call 13;with_reducible refine zI (HLD.out _))))
       refine wpQuiet_nil ?_;intro _ hw';obtain ⟨xq,rfl⟩:=hw';have HY4:Hid (Bx4 w xq.to N (zA p s) (zQ l) zF (zA p s1)):=HY3.out.more xq.below;have HD4:Hid (zO w.heap.size xq.to.heap.size xq.to p s1):=(HD3.out.below xq.below).wide xq.below.size (nl _);have HLV4:Hid (xq.to.ownsRow w.heap.size 37 13 ov ([]:List LT).length (zE yE [])):=zS HLV3.out xq.below;obtain ⟨y4,hy4⟩:∃ y4,y4=xq.to:=⟨_,rfl⟩;rw [← hy4] at HY4 HD4 HLV4 ⊢;clear hy4 y1 z1 z3 hne HY3 HD3 HLV3 HE0;have ckd:=zB HY4.out.let' 0 (.int .i64 l.1.1) rfl
       by_cases hk3:l.1.1=3
       ·have bk3:(l.1.1 == 3)=true:=by simpa using hk3
        obtain ⟨R,hR⟩:∃ R,R=qcH (bks ps) n p l:=⟨_,rfl⟩;have HE:Hid (qC (bks ps) n p l=R):=hid (by rw [HE1.out,if_pos hk3,hR]);clear hk3 HE1;go_wp2_with (refine w_ld (w.heap.size+1) HY4.out.let' Tryz.underlying37 ?_)
        refine (qc_p ps va p s1 N w.heap.size y4.heap.size n l y4 HK.out HD4.out HY4.out.out HY4.out.below.size HS.out HLN.out (fun x hg=>HT.out.below (HY4.out.below.grown hg HY4.out.below.size (fun k hk=>by cases hk;have:=HY4.out.far;omega))) hn0 hn1 (by rw [← HVW.out];have:=HVB.out;omega) (by rw [← HVW.out];have:=HVB.out;omega) hp0 (by omega)).mono ?_;rw [← hR];rintro e y5 ⟨v5,rfl,hg,⟨s5,hk5,ho⟩,hlv⟩;have HY5:Hid (Bx4 w y5 N (zA p s) (zQ l) zF (zA R.1 s5)):=HY4.out.put hg hk5;have HD5:Hid (zO w.heap.size y5.heap.size y5 R.1 s5):=ho;have HLV5:Hid (y5.ownsRow w.heap.size 37 13 v5 R.2.length (zE yE R.2)):=zN hlv HY4.out.below.size;clear ho hlv hg hk5 hR HY4 HD4 HLV4 ckd
        go_wp2_with (first
         | (refine w_ld N HY5.out.out Tryz.underlying35 ?_)
         | (refine w_st (w.heap.size+1+1) (zA R.1 s5) HY5.out.zero (zJ HD5.out.1) ?_;intro z hg hk hz;have HZ:Hid (Below w.heap.size w z∧Bx z (w.heap.size+1+1) (zA R.1 s5) 35∧zO w.heap.size z.heap.size z R.1 s5∧z.ownsRow w.heap.size 37 13 v5 (R.2).length (zE yE (R.2))):=⟨HY5.out.fill hg,hk,(HD5.out.boxed HY5.out.zero hg).wide hg.size (nl _),World.ownsRow.kept HLV5.out hg (zH HLV5.out HY5.out.zero (by decide))⟩;clear hg hk hz))
        refine bodyPost_ret (v:=.tuple #[.agg (zA R.1 s5),v5]) (yN Tryz.results183 _ _ (w.heap.size+1+1) 35 _ (0,0) _ _ rfl HZ.out.2.1 Tryz.underlying35 rfl (by kernel_rfl) rfl) rfl ?_;rw [HE.out];exact ⟨s5,v5,rfl,HZ.out.2.2.1,HZ.out.2.2.2,HZ.out.1⟩
       ·have bk3:(l.1.1 == 3)=false:=by simpa using hk3
        obtain ⟨bl,hbl⟩:∃ bl,bl=l.1.2.2.2.2:=⟨_,rfl⟩;obtain ⟨p1,hp1'⟩:∃ p1,p1=yI p vw:=⟨_,rfl⟩;have HE2:Hid (qC (bks ps) n p l=if zEG p1 1 vw=true∧yDA (bks ps) p1.lock bl=true then (yP p1 1 vw bl,[zEJ p1 1 vw bl fr]) else (p1,[])):=(by rw [HE1.out,if_neg hk3,hbl,hp1',HVW.out,HFR.out];rfl:qC (bks ps) n p l=_);have HBL:=hid hbl;clear hbl;have HS1:Hid (yC p1):=hid (by rw [hp1'];exact zHA HS.out _);have a3:=zB HY4.out.let' 3 (.int .i64 l.1.2.2.2.1) rfl;rw [← HVW.out] at a3;clear hk3 HE1;go_wp2_with (refine w_ld N HY4.out.out Tryz.underlying35 ?_)
        refine (zCB p s1 vw y4 HD4.out.reads HS.out).mono ?_;rw [← hp1'];rintro e x5 ⟨s5,rfl,ho,hb⟩;have HX5:Hid (Bx4 w x5 N (zA p s) (zQ l) zF (zA p s1)):=HY4.out.more hb;have HO5:Hid (zO w.heap.size x5.heap.size x5 p1 s5):=ho.low HY4.out.below.size;have HLX5:Hid (x5.ownsRow w.heap.size 37 13 ov ([]:List LT).length (zE yE [])):=zS HLV4.out hb;clear ho hb HY4 HD4 HLV4 a3 ckd hp1';obtain ⟨mb,hmb⟩:∃ mb,mb=zEG p1 1 vw:=⟨_,rfl⟩
        go_upto_region 13 with (refine w_st N (zA p1 s5) HX5.out.out (zJ HO5.out.1) ?_;intro y6 hg hk hz;have HY6:Hid (Bx4 w y6 N (zA p s) (zQ l) zF (zA p1 s5)):=HX5.out.put hg hk;have HD6:Hid (zO w.heap.size y6.heap.size y6 p1 s5):=(HO5.out.boxed HX5.out.out hg).wide hg.size (nl _);have HLV6:Hid (y6.ownsRow w.heap.size 37 13 ov ([]:List LT).length (zE yE [])):=World.ownsRow.kept HLX5.out hg (zH HLX5.out HX5.out.out (by decide));clear hg hk hz HX5 HO5 HLX5)
        have a3:=zB HY6.out.let' 3 (.int .i64 l.1.2.2.2.1) rfl;rw [← HVW.out] at a3;go_wp2_with (refine w_ld N HY6.out.out Tryz.underlying35 ?_)
        refine (yFB p1 s5 1 vw y6).mono ?_;rw [← hmb];rintro e y7 ⟨rfl,hb⟩;have HY7:Hid (Bx4 w y7 N (zA p s) (zQ l) zF (zA p1 s5)):=HY6.out.more hb;have HD7:Hid (zO w.heap.size y7.heap.size y7 p1 s5):=(HD6.out.below hb).wide hb.size (nl _);have HLV7:Hid (y7.ownsRow w.heap.size 37 13 ov ([]:List LT).length (zE yE [])):=zS HLV6.out hb;clear hb HY6 HD6 HLV6 a3
        cases mb with
        | false=>
         have HE:Hid (qC (bks ps) n p l=(p1,[])):=(by rw [HE2.out,if_neg (fun h=>by rw [← hmb] at h;exact absurd h.1 (by decide))]:qC (bks ps) n p l=_);clear hmb
         go_wp2_with (first
          | (refine w_ld N HY7.out.out Tryz.underlying35 ?_)
          | (refine w_st (w.heap.size+1+1) (zA p1 s5) HY7.out.zero (zJ HD7.out.1) ?_;intro z hg hk hz;have HZ:Hid (Below w.heap.size w z∧Bx z (w.heap.size+1+1) (zA p1 s5) 35∧zO w.heap.size z.heap.size z p1 s5∧z.ownsRow w.heap.size 37 13 ov ([]).length (zE yE ([]))):=⟨HY7.out.fill hg,hk,(HD7.out.boxed HY7.out.zero hg).wide hg.size (nl _),World.ownsRow.kept HLV7.out hg (zH HLV7.out HY7.out.zero (by decide))⟩;clear hg hk hz))
         refine bodyPost_ret (v:=.tuple #[.agg (zA p1 s5),ov]) (yN Tryz.results183 _ _ (w.heap.size+1+1) 35 _ (0,0) _ _ rfl HZ.out.2.1 Tryz.underlying35 rfl (by kernel_rfl) rfl) rfl ?_;rw [HE.out];exact ⟨s5,ov,rfl,HZ.out.2.2.1,HZ.out.2.2.2,HZ.out.1⟩
        | true=>
         obtain ⟨sb,hsb'⟩:∃ sb,sb=yDA (bks ps) p1.lock bl:=⟨_,rfl⟩;have HSB:=hid hsb';have HMB:=hid hmb;clear hmb hsb';have a4:=zB HY7.out.let' 4 (.int .i64 l.1.2.2.2.2) rfl;rw [← HBL.out] at a4;have k0:=zB HY7.out.out 6 (.int .i64 p1.lock.1) rfl;have k1:=zB HY7.out.out 7 (.int .i64 p1.lock.2.1) rfl;have k2:=zB HY7.out.out 8 (.int .i64 p1.lock.2.2.1) rfl;have k3:=zB HY7.out.out 9 (.int .i64 p1.lock.2.2.2) rfl;go_wp2_with fail
         refine (safeBlock_s ps va p1.lock bl y7 (HT.out.below HY7.out.below) hl).mono ?_;rw [← HSB.out];rintro e y8 ⟨rfl,hb⟩;have HY8:Hid (Bx4 w y8 N (zA p s) (zQ l) zF (zA p1 s5)):=HY7.out.more hb;have HD8:Hid (zO w.heap.size y8.heap.size y8 p1 s5):=(HD7.out.below hb).wide hb.size (nl _);have HLV8:Hid (y8.ownsRow w.heap.size 37 13 ov ([]:List LT).length (zE yE [])):=zS HLV7.out hb;clear hb HY7 HD7 HLV7 a4 k0 k1 k2 k3
         cases sb with
         | false=>
          have HE:Hid (qC (bks ps) n p l=(p1,[])):=(by rw [HE2.out,if_neg (fun h=>by rw [← HSB.out] at h;exact absurd h.2 (by decide))]:qC (bks ps) n p l=_);clear HMB HSB
          go_wp2_with (first
           | (refine w_ld N HY8.out.out Tryz.underlying35 ?_)
           | (refine w_st (w.heap.size+1+1) (zA p1 s5) HY8.out.zero (zJ HD8.out.1) ?_;intro z hg hk hz;have HZ:Hid (Below w.heap.size w z∧Bx z (w.heap.size+1+1) (zA p1 s5) 35∧zO w.heap.size z.heap.size z p1 s5∧z.ownsRow w.heap.size 37 13 ov ([]).length (zE yE ([]))):=⟨HY8.out.fill hg,hk,(HD8.out.boxed HY8.out.zero hg).wide hg.size (nl _),World.ownsRow.kept HLV8.out hg (zH HLV8.out HY8.out.zero (by decide))⟩;clear hg hk hz))
          refine bodyPost_ret (v:=.tuple #[.agg (zA p1 s5),ov]) (yN Tryz.results183 _ _ (w.heap.size+1+1) 35 _ (0,0) _ _ rfl HZ.out.2.1 Tryz.underlying35 rfl (by kernel_rfl) rfl) rfl ?_;rw [HE.out];exact ⟨s5,ov,rfl,HZ.out.2.2.1,HZ.out.2.2.2,HZ.out.1⟩
         | true=>
          obtain ⟨p2,hp2⟩:∃ p2,p2=yP p1 1 vw bl:=⟨_,rfl⟩;have HE:Hid (qC (bks ps) n p l=(p2,[zEJ p1 1 vw bl fr])):=(by rw [HE2.out,if_pos ⟨HMB.out.symm,HSB.out.symm⟩,hp2]:qC (bks ps) n p l=_);clear HMB HSB;have a3:=zB HY8.out.let' 3 (.int .i64 l.1.2.2.2.1) rfl;rw [← HVW.out] at a3;have a4:=zB HY8.out.let' 4 (.int .i64 l.1.2.2.2.2) rfl;rw [← HBL.out] at a4;have a1:=zB HY8.out.let' 1 (.int .i64 l.1.2.1) rfl;rw [← HFR.out] at a1;go_wp2_with fail
          refine (give_s p1 s5 N w.heap.size y8.heap.size 1 vw bl fr y8 HD8.out HY8.out.out HY8.out.below.size HS1.out).mono ?_;rw [← hp2];rintro e y9 ⟨v9,rfl,hg,⟨s9,hk9,ho⟩,hlv⟩;have HY9:Hid (Bx4 w y9 N (zA p s) (zQ l) zF (zA p2 s9)):=HY8.out.put hg hk9;have HD9:Hid (zO w.heap.size y9.heap.size y9 p2 s9):=ho;have HLV9:Hid (y9.ownsRow w.heap.size 37 13 v9 [zEJ p1 1 vw bl fr].length (zE yE [zEJ p1 1 vw bl fr])):=hid (by have h:=zN hlv HY8.out.below.size;simpa [zE] using h);clear ho hlv hg hk9 hp2 HY8 HD8 HLV8 a1 a3 a4
          go_wp2_with (first
           | (refine w_ld N HY9.out.out Tryz.underlying35 ?_)
           | (refine w_st (w.heap.size+1+1) (zA p2 s9) HY9.out.zero (zJ HD9.out.1) ?_;intro z hg hk hz;have HZ:Hid (Below w.heap.size w z∧Bx z (w.heap.size+1+1) (zA p2 s9) 35∧zO w.heap.size z.heap.size z p2 s9∧z.ownsRow w.heap.size 37 13 v9 ([zEJ p1 1 vw bl fr]).length (zE yE ([zEJ p1 1 vw bl fr]))):=⟨HY9.out.fill hg,hk,(HD9.out.boxed HY9.out.zero hg).wide hg.size (nl _),World.ownsRow.kept HLV9.out hg (zH HLV9.out HY9.out.zero (by decide))⟩;clear hg hk hz))
          refine bodyPost_ret (v:=.tuple #[.agg (zA p2 s9),v9]) (yN Tryz.results183 _ _ (w.heap.size+1+1) 35 _ (0,0) _ _ rfl HZ.out.2.1 Tryz.underlying35 rfl (by kernel_rfl) rfl) rfl ?_;rw [HE.out];exact ⟨s9,v9,rfl,HZ.out.2.2.1,HZ.out.2.2.2,HZ.out.1⟩
     ·have bfl:(fr != ld)=true:=by simpa using hfl
      have dfl:decide (fr=ld)=false:=decide_eq_false hfl;have HE:Hid (qC (bks ps) n p l=(p,[])):=(by rw [HE0.out,if_neg (fun h=>hfl h.1)]:qC (bks ps) n p l=_);clear hfl;go_wp2;refine rb ?_;repeat (go_big_quiet_step (first | (go_at_call 13;with_reducible refine zI (HLD.out _))))
      refine wpQuiet_nil ?_;intro _ hw';obtain ⟨xq,rfl⟩:=hw';have HY4:Hid (Bx4 w xq.to N (zA p s) (zQ l) zF (zA p s1)):=HY3.out.more xq.below;have HD4:Hid (zO w.heap.size xq.to.heap.size xq.to p s1):=(HD3.out.below xq.below).wide xq.below.size (nl _);have HLV4:Hid (xq.to.ownsRow w.heap.size 37 13 ov ([]:List LT).length (zE yE [])):=zS HLV3.out xq.below;clear y1 z1 z3 hne HY3 HD3 HLV3 cid cto ckd
      go_wp2_with (first
       | (refine w_ld N HY4.out.out Tryz.underlying35 ?_)
       | (refine w_st (w.heap.size+1+1) (zA p s1) HY4.out.zero (zJ HD4.out.1) ?_;intro z hg hk hz;have HZ:Hid (Below w.heap.size w z∧Bx z (w.heap.size+1+1) (zA p s1) 35∧zO w.heap.size z.heap.size z p s1∧z.ownsRow w.heap.size 37 13 ov ([]).length (zE yE ([]))):=⟨HY4.out.fill hg,hk,(HD4.out.boxed HY4.out.zero hg).wide hg.size (nl _),World.ownsRow.kept HLV4.out hg (zH HLV4.out HY4.out.zero (by decide))⟩;clear hg hk hz))
      refine bodyPost_ret (v:=.tuple #[.agg (zA p s1),ov]) (yN Tryz.results183 _ _ (w.heap.size+1+1) 35 _ (0,0) _ _ rfl HZ.out.2.1 Tryz.underlying35 rfl (by kernel_rfl) rfl) rfl ?_;rw [HE.out];exact ⟨s1,ov,rfl,HZ.out.2.2.1,HZ.out.2.2.2,HZ.out.1⟩
  ·have bto:(l.1.2.2.1 != p.id)=true:=by simpa using hto
   have HE:Hid (qC (bks ps) n p l=(p,[])):=(by unfold qC;rw [if_neg (fun h=>hto h.2)]:qC (bks ps) n p l=_);clear hlok hto
   go_wp2_with (first
    | (refine w_ld N HY3.out.out Tryz.underlying35 ?_)
    | (refine w_st (w.heap.size+1+1) (zA p s1) HY3.out.zero (zJ HD3.out.1) ?_;intro z hg hk hz;have HZ:Hid (Below w.heap.size w z∧Bx z (w.heap.size+1+1) (zA p s1) 35∧zO w.heap.size z.heap.size z p s1∧z.ownsRow w.heap.size 37 13 ov ([]).length (zE yE ([]))):=⟨HY3.out.fill hg,hk,(HD3.out.boxed HY3.out.zero hg).wide hg.size (nl _),World.ownsRow.kept HLV3.out hg (zH HLV3.out HY3.out.zero (by decide))⟩;clear hg hk hz))
   refine bodyPost_ret (v:=.tuple #[.agg (zA p s1),ov]) (yN Tryz.results183 _ _ (w.heap.size+1+1) 35 _ (0,0) _ _ rfl HZ.out.2.1 Tryz.underlying35 rfl (by kernel_rfl) rfl) rfl ?_;rw [HE.out];exact ⟨s1,ov,rfl,HZ.out.2.2.1,HZ.out.2.2.2,HZ.out.1⟩
end Go.Proofs.YtdopefimjabigadGreat
