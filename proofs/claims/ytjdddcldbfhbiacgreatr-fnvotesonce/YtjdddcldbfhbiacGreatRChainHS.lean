/-
  A text of ours: ChainHS.
-/
import Derived.Test.YtjdddcldbfhbiacGreatRK1
import Derived.Test.YtjdddcldbfhbiacGreatRAskS
import Derived.Test.YtjdddcldbfhbiacGreatRChainLS
set_option maxRecDepth 100000
set_option maxHeartbeats 32000000
namespace Go.Proofs.YtjdddcldbfhbiacGreatR
open Go.RowKit Num
def mayH (t:List BK) (p:PE) (vw bl:Int):Bool:=zEG p 4 vw && (yDA t p.lock bl && decide (p.view≤vw))
def votesH (n:Int) (p:PE) (vw bl:Int):PE × List LT:=(yI (yP p 4 vw bl) (vw+1),[zEJ p 4 vw bl (xQ (vw+1) n)])
def yBD (t:List BK) (n:Int) (p:PE) (vw bl:Int):PE × List LT:=if mayH t p vw bl=true then votesH n (jN t p bl) vw bl else (jN t p bl,[])
def xI (t:List BK) (n:Int) (p:PE) (l:LT):PE × List LT:=
 if qI t n l=true∧l.1.2.2.1=p.id then
  (if l.1.1=2 then kZ t n p l
   else if l.1.1=4 then kZ t n { p with high:=yF p.high l.2.1 } l
   else if l.1.1=3 then (p,[])
   else if l.1.2.1=xQ l.1.2.2.2.1 n then yBD t n p l.1.2.2.2.1 l.1.2.2.2.2 else (p,[]))
 else (p,[])
theorem chainHear_s (ps:TL) (va:Value) (n:Int) (p:PE) (s:PV) (l:LT) (w:World) (hT:jB w va ps) (hl:(ps.length:Int)≤1048576) (hk:okT (bks ps)) (hln:jZ p+wtB (bks ps)≤1048576) (hR:jS w p s) (hs:yC p) (hvl:(p.votes.length:Int)+1≤1048576)
  (hn0:0≤n) (hn1:n≤7) (hq:fitQ l.2.1) (hp0:-9223372036854775808≤p.view) (hp1:p.view < 9223372036854775807) :
  Calls Tryz.prog 193 #[va,.int .i64 n,yZ p s,.agg (zQ l)] w fun e w'=>∃ s' v',e=.returned (.tuple #[yZ (xI (bks ps) n p l).1 s',v'])∧zO w.heap.size w'.heap.size w' (xI (bks ps) n p l).1 s'∧w'.ownsRow w.heap.size 61 13 v' (xI (bks ps) n p l).2.length (zE yE (xI (bks ps) n p l).2)∧Below w.heap.size w w':=by
 have HT:=hid hT
 have HR:=hid hR
 have HS:=hid hs
 have HFQ:=hid hq
 have HK:=hid hk
 have HLN:=hid hln
 clear hk hln
 clear hT hR hs hq
 obtain ⟨W,hW⟩:∃ W,W=((w.alloc (.cells (zA p s) 35)).alloc (.cells (zQ l) 61)).alloc (.cells zF 35):=⟨_,rfl⟩
 have HC:Hid (Below w.heap.size w W∧Bx W w.heap.size (zA p s) 35∧Bx W (w.heap.size+1) (zQ l) 61∧Bx W (w.heap.size+1+1) zF 35):=by
  rw [hW];exact ⟨ba (ba (ba (br _ _) _) _) _,zJH w _ _ _⟩
 have HWS:Hid (W.heap.size=w.heap.size+1+1+1):=hid (by rw [hW];simp)
 unfold zF at hW
 go_enter Tryz.func193,Tryz.ntmps193
 go_wp2_with (rw [← hW];clear hW;refine wpList_load_row rfl _ _ rfl w.heap.size rfl 35 _ (0,0) _ HC.out.2.1 Tryz.underlying35 rfl (by kernel_rfl) ?_)
 refine (zHJ p s W (HR.out.below HC.out.1) HS.out).mono ?_
 rintro e x1 ⟨s1,rfl,ho,hb⟩
 have HO1:Hid (zO W.heap.size x1.heap.size x1 p s1):=ho.toD
 have HB1:Hid (Below W.heap.size W x1):=hb
 clear ho hb
 obtain ⟨N,hN⟩:∃ N,N=x1.heap.size:=⟨_,rfl⟩
 go_upto_region 3 with (first
  | (refine zC rfl _ _ _ rfl x1.heap.size (zA p s1) rfl rfl 35 zF (heap_alloc_new x1 _) (by kernel_rfl) rfl (zJ HO1.out.1) ?_;intro y1 hg hk hz;have hb1:Below x1.heap.size x1 y1:=yB hg;have HY1:Hid (Bx4 w y1 N (zA p s) (zQ l) zF (zA p s1)):=⟨bt HC.out.1 (bt HB1.out hb1),(hb1.block _ (by have:=HB1.out.size;have:=HWS.out;omega)).trans ((HB1.out.block _ (by have:=HWS.out;omega)).trans HC.out.2.1),(hb1.block _ (by have:=HB1.out.size;have:=HWS.out;omega)).trans ((HB1.out.block _ (by have:=HWS.out;omega)).trans HC.out.2.2.1),(hb1.block _ (by have:=HB1.out.size;have:=HWS.out;omega)).trans ((HB1.out.block _ (by have:=HWS.out;omega)).trans HC.out.2.2.2),(by rw [hN];exact hk),(by have:=HB1.out.size;have:=HWS.out;omega)⟩;have HD1:Hid (zO w.heap.size y1.heap.size y1 p s1):=((HO1.out.below hb1).wide (Nat.le_of_lt (gl hk)) (nl _)).low HC.out.1.size;clear hg hk hz hb1 HO1 HB1))
 obtain ⟨y2,hy2⟩:∃ y2,y2=y1.alloc (.cells #[] 61):=⟨_,rfl⟩
 rw [← hy2]
 have hb2:Below y1.heap.size y1 y2:=by rw [hy2];exact (br _ _).alloc (nl _) _
 have HY2:Hid (Bx4 w y2 N (zA p s) (zQ l) zF (zA p s1)):=HY1.out.more hb2
 have HD2:Hid (zO w.heap.size y2.heap.size y2 p s1):=(HD1.out.below hb2).wide hb2.size (nl _)
 have HLV:Hid (y2.ownsRow w.heap.size 61 13 (.slice (some ⟨y1.heap.size,0,none⟩) 0 0) ([]:List LT).length (zE yE [])):=hid (by rw [hy2];exact zN (yH y1 61 13) HY1.out.below.size)
 obtain ⟨ov,hov⟩:∃ ov,ov=Value.slice (some ⟨y1.heap.size,0,none⟩) 0 0:=⟨_,rfl⟩
 rw [← hov] at HLV ⊢
 clear hb2 hy2 hov HY1 HD1 HC HWS
 rw [← hN]
 clear hN
 go_wp2_with (refine wpList_load_row rfl _ _ rfl (w.heap.size+1) rfl 61 _ (0,0) _ HY2.out.let' Tryz.underlying61 rfl (by kernel_rfl) ?_)
 refine (letterOk_s ps va n l y2 (HT.out.below HY2.out.below) hl hn0 hn1 HFQ.out).mono ?_
 rintro e y3 ⟨rfl,hb⟩
 have HY3:Hid (Bx4 w y3 N (zA p s) (zQ l) zF (zA p s1)):=HY2.out.more hb
 have HD3:Hid (zO w.heap.size y3.heap.size y3 p s1):=(HD2.out.below hb).wide hb.size (nl _)
 have HLV3:Hid (y3.ownsRow w.heap.size 61 13 ov ([]:List LT).length (zE yE [])):=zS HLV.out hb
 clear hb HY2 HD2 HLV
 have cid:=zB HY3.out.box 0 (.int .i64 p.id) rfl
 have cto:=zB HY3.out.let' 2 (.int .i64 l.1.2.2.1) rfl
 have ckd:=zB HY3.out.let' 0 (.int .i64 l.1.1) rfl
 cases hlok:qI (bks ps) n l with
 | false=>
  have HE:Hid (xI (bks ps) n p l=(p,[])):=(by unfold xI;rw [if_neg (fun h=>by rw [hlok] at h;exact absurd h.1 (by decide))]:xI (bks ps) n p l=_)
  clear hlok
  go_wp2_with (first
   | (refine wpList_load_row rfl _ _ rfl N rfl 35 _ (0,0) _ HY3.out.out Tryz.underlying35 rfl (by kernel_rfl) ?_)
   | (refine zC rfl _ _ _ rfl (w.heap.size+1+1) (zA p s1) rfl rfl 35 zF HY3.out.zero (by kernel_rfl) rfl (zJ HD3.out.1) ?_;intro z hg hk hz;have HZ:Hid (Below w.heap.size w z∧Bx z (w.heap.size+1+1) (zA p s1) 35∧zO w.heap.size z.heap.size z p s1∧z.ownsRow w.heap.size 61 13 ov ([]).length (zE yE ([]))):=⟨HY3.out.fill hg,hk,(HD3.out.boxed HY3.out.zero hg).wide hg.size (nl _),World.ownsRow.kept HLV3.out hg (zH HLV3.out HY3.out.zero (by decide))⟩;clear hg hk hz))
  refine bodyPost_ret (v:=.tuple #[.agg (zA p s1),ov]) (yN Tryz.results193 _ _ (w.heap.size+1+1) 35 _ (0,0) _ _ rfl HZ.out.2.1 Tryz.underlying35 rfl (by kernel_rfl) rfl) rfl ?_
  rw [HE.out]
  exact ⟨s1,ov,rfl,HZ.out.2.2.1,HZ.out.2.2.2,HZ.out.1⟩
 | true=>
  have hvw:=lok_view hlok
  by_cases hto:l.1.2.2.1=p.id
  ·have bto:(l.1.2.2.1 != p.id)=false:=by simpa using hto
   have HE0:Hid (xI (bks ps) n p l=if l.1.1=2 then kZ (bks ps) n p l else if l.1.1=4 then kZ (bks ps) n { p with high:=yF p.high l.2.1 } l else if l.1.1=3 then (p,[]) else if l.1.2.1=xQ l.1.2.2.2.1 n then yBD (bks ps) n p l.1.2.2.2.1 l.1.2.2.2.2 else (p,[])):=(by unfold xI;rw [if_pos ⟨hlok,hto⟩]:xI (bks ps) n p l=_)
   clear hlok hto
   by_cases hk2:l.1.1=2
   ·have bk2:(l.1.1 == 2)=true:=by simpa using hk2
    obtain ⟨R,hR⟩:∃ R,R=kZ (bks ps) n p l:=⟨_,rfl⟩
    have HE:Hid (xI (bks ps) n p l=R):=hid (by rw [HE0.out,if_pos hk2,hR])
    clear hk2 HE0
    have hvl':=hvl
    have hp0':=hp0
    have hp1':=hp1
    go_wp2_with (first
     | (refine wpList_load_row rfl _ _ rfl w.heap.size rfl 35 _ (0,0) _ HY3.out.box Tryz.underlying35 rfl (by kernel_rfl) ?_)
     | (refine wpList_load_row rfl _ _ rfl (w.heap.size+1) rfl 61 _ (0,0) _ HY3.out.let' Tryz.underlying61 rfl (by kernel_rfl) ?_))
    clear cid cto ckd
    refine (leadHear_s ps va n p s l y3 (HT.out.below HY3.out.below) hl (HR.out.below HY3.out.below) HS.out hvl' hn0 hn1 HFQ.out hp0' hp1').mono ?_
    rw [← hR]
    rintro e y4 ⟨s4,v4,rfl,ho,hlv,hb⟩
    have HY4:Hid (Bx4 w y4 N (zA p s) (zQ l) zF (zA p s1)):=HY3.out.more hb
    have HD4:Hid (zO w.heap.size y4.heap.size y4 R.1 s4):=ho.low HY3.out.below.size
    have HLV4:Hid (y4.ownsRow w.heap.size 61 13 v4 R.2.length (zE yE R.2)):=zN hlv HY3.out.below.size
    clear ho hlv hb hR HY3
    go_wp2_with (first
     | (refine wpList_load_row rfl _ _ rfl N rfl 35 _ (0,0) _ HY4.out.out Tryz.underlying35 rfl (by kernel_rfl) ?_)
     | (refine zC rfl _ _ _ rfl (w.heap.size+1+1) (zA R.1 s4) rfl rfl 35 zF HY4.out.zero (by kernel_rfl) rfl (zJ HD4.out.1) ?_;intro z hg hk hz;have HZ:Hid (Below w.heap.size w z∧Bx z (w.heap.size+1+1) (zA R.1 s4) 35∧zO w.heap.size z.heap.size z R.1 s4∧z.ownsRow w.heap.size 61 13 v4 (R.2).length (zE yE (R.2))):=⟨HY4.out.fill hg,hk,(HD4.out.boxed HY4.out.zero hg).wide hg.size (nl _),World.ownsRow.kept HLV4.out hg (zH HLV4.out HY4.out.zero (by decide))⟩;clear hg hk hz))
    refine bodyPost_ret (v:=.tuple #[.agg (zA R.1 s4),v4]) (yN Tryz.results193 _ _ (w.heap.size+1+1) 35 _ (0,0) _ _ rfl HZ.out.2.1 Tryz.underlying35 rfl (by kernel_rfl) rfl) rfl ?_
    rw [HE.out]
    exact ⟨s4,v4,rfl,HZ.out.2.2.1,HZ.out.2.2.2,HZ.out.1⟩
   ·have bk2:(l.1.1 == 2)=false:=by simpa using hk2
    by_cases hk4:l.1.1=4
    ·have bk4:(l.1.1 == 4)=true:=by simpa using hk4
     obtain ⟨p1,hp1'⟩:∃ p1:PE,p1={ p with high:=yF p.high l.2.1 }:=⟨_,rfl⟩
     obtain ⟨R,hR⟩:∃ R,R=kZ (bks ps) n p1 l:=⟨_,rfl⟩
     have HE:Hid (xI (bks ps) n p l=R):=hid (by rw [HE0.out,if_neg hk2,if_pos hk4,hR,hp1'])
     have HP1:Hid (yC p1∧(p1.votes.length:Int)+1≤1048576∧-9223372036854775808≤p1.view∧p1.view < 9223372036854775807):=hid (by rw [hp1'];exact ⟨⟨HS.out.row,HS.out.cells,HS.out.early,HS.out.undos,HS.out.votes,HS.out.news,HS.out.kcells,HS.out.kundos⟩,hvl,hp0,hp1⟩)
     clear hk2 hk4 HE0
     have k0:=zB HY3.out.out 2 (.int .i64 p.high.1) rfl
     have k1:=zB HY3.out.out 3 (.int .i64 p.high.2.1) rfl
     have k2:=zB HY3.out.out 4 (.int .i64 p.high.2.2.1) rfl
     have k3:=zB HY3.out.out 5 (.int .i64 p.high.2.2.2) rfl
     have m0:=zB HY3.out.let' 5 (.int .i64 l.2.1.1) rfl
     have m1:=zB HY3.out.let' 6 (.int .i64 l.2.1.2.1) rfl
     have m2:=zB HY3.out.let' 7 (.int .i64 l.2.1.2.2.1) rfl
     have m3:=zB HY3.out.let' 8 (.int .i64 l.2.1.2.2.2) rfl
     go_wp2_with fail
     clear cid cto ckd k0 k1 k2 k3 m0 m1 m2 m3
     refine (yAF p.high l.2.1 y3).mono ?_
     obtain ⟨hq4,hhq⟩:∃ hq4,hq4=yF p.high l.2.1:=⟨_,rfl⟩
     rw [← hhq]
     have HHQ:=hid hhq
     have HP1E:=hid hp1'
     have HRR:=hid hR
     clear hhq hp1' hR
     rintro e x4 ⟨rfl,hb⟩
     have HX4:Hid (Bx4 w x4 N (zA p s) (zQ l) zF (zA p s1)):=HY3.out.more hb
     have HO4:Hid (zO w.heap.size x4.heap.size x4 p s1):=(HD3.out.below hb).wide hb.size (nl _)
     clear hb HY3 HD3 HLV3
     go_wp2_with (first
      | (refine yY rfl _ _ _ rfl N 2 #[.int .i64 hq4.1,.int .i64 hq4.2.1,.int .i64 hq4.2.2.1,.int .i64 hq4.2.2.2] rfl rfl 35 (zA p s1) HX4.out.out (by kernel_rfl) (by simp [zA]) (by simp [Value.oneCell']) (zA p1 s1) (by rw [HP1E.out,HHQ.out];rfl) ?_;intro y5 hg hk;have HY5:Hid (Bx4 w y5 N (zA p s) (zQ l) zF (zA p1 s1)):=HX4.out.put hg hk;have HD5:Hid (zO w.heap.size y5.heap.size y5 p1 s1):=hid (by rw [HP1E.out];exact ((HO4.out.boxed HX4.out.out hg).wide hg.size (nl _)).other rfl rfl rfl rfl rfl rfl);clear hg hk HX4 HO4)
      | (refine wpList_load_row rfl _ _ rfl N rfl 35 _ (0,0) _ HY5.out.out Tryz.underlying35 rfl (by kernel_rfl) ?_)
      | (refine wpList_load_row rfl _ _ rfl (w.heap.size+1) rfl 61 _ (0,0) _ HY5.out.let' Tryz.underlying61 rfl (by kernel_rfl) ?_))
     have hvl':=HP1.out.2.1
     have hR:=HRR.out
     clear HRR HP1E HHQ
     have hp0':=HP1.out.2.2.1
     have hp1':=HP1.out.2.2.2
     refine (leadHear_s ps va n p1 s1 l y5 (HT.out.below HY5.out.below) hl HD5.out.reads HP1.out.1 hvl' hn0 hn1 HFQ.out hp0' hp1').mono ?_
     rw [← hR]
     rintro e y4 ⟨s4,v4,rfl,ho,hlv,hb⟩
     have HY4:Hid (Bx4 w y4 N (zA p s) (zQ l) zF (zA p1 s1)):=HY5.out.more hb
     have HD4:Hid (zO w.heap.size y4.heap.size y4 R.1 s4):=ho.low HY5.out.below.size
     have HLV4:Hid (y4.ownsRow w.heap.size 61 13 v4 R.2.length (zE yE R.2)):=zN hlv HY5.out.below.size
     clear ho hlv hb hR HY5
     go_wp2_with (first
      | (refine wpList_load_row rfl _ _ rfl N rfl 35 _ (0,0) _ HY4.out.out Tryz.underlying35 rfl (by kernel_rfl) ?_)
      | (refine zC rfl _ _ _ rfl (w.heap.size+1+1) (zA R.1 s4) rfl rfl 35 zF HY4.out.zero (by kernel_rfl) rfl (zJ HD4.out.1) ?_;intro z hg hk hz;have HZ:Hid (Below w.heap.size w z∧Bx z (w.heap.size+1+1) (zA R.1 s4) 35∧zO w.heap.size z.heap.size z R.1 s4∧z.ownsRow w.heap.size 61 13 v4 (R.2).length (zE yE (R.2))):=⟨HY4.out.fill hg,hk,(HD4.out.boxed HY4.out.zero hg).wide hg.size (nl _),World.ownsRow.kept HLV4.out hg (zH HLV4.out HY4.out.zero (by decide))⟩;clear hg hk hz))
     refine bodyPost_ret (v:=.tuple #[.agg (zA R.1 s4),v4]) (yN Tryz.results193 _ _ (w.heap.size+1+1) 35 _ (0,0) _ _ rfl HZ.out.2.1 Tryz.underlying35 rfl (by kernel_rfl) rfl) rfl ?_
     rw [HE.out]
     exact ⟨s4,v4,rfl,HZ.out.2.2.1,HZ.out.2.2.2,HZ.out.1⟩
    ·have bk4:(l.1.1 == 4)=false:=by simpa using hk4
     by_cases hk3:l.1.1=3
     ·have bk3:(l.1.1 == 3)=true:=by simpa using hk3
      have HE:Hid (xI (bks ps) n p l=(p,[])):=(by rw [HE0.out,if_neg hk2,if_neg hk4,if_pos hk3]:xI (bks ps) n p l=_)
      clear hk2 hk4 hk3 HE0
      go_wp2_with (first
       | (refine wpList_load_row rfl _ _ rfl N rfl 35 _ (0,0) _ HY3.out.out Tryz.underlying35 rfl (by kernel_rfl) ?_)
       | (refine zC rfl _ _ _ rfl (w.heap.size+1+1) (zA p s1) rfl rfl 35 zF HY3.out.zero (by kernel_rfl) rfl (zJ HD3.out.1) ?_;intro z hg hk hz;have HZ:Hid (Below w.heap.size w z∧Bx z (w.heap.size+1+1) (zA p s1) 35∧zO w.heap.size z.heap.size z p s1∧z.ownsRow w.heap.size 61 13 ov ([]).length (zE yE ([]))):=⟨HY3.out.fill hg,hk,(HD3.out.boxed HY3.out.zero hg).wide hg.size (nl _),World.ownsRow.kept HLV3.out hg (zH HLV3.out HY3.out.zero (by decide))⟩;clear hg hk hz))
      refine bodyPost_ret (v:=.tuple #[.agg (zA p s1),ov]) (yN Tryz.results193 _ _ (w.heap.size+1+1) 35 _ (0,0) _ _ rfl HZ.out.2.1 Tryz.underlying35 rfl (by kernel_rfl) rfl) rfl ?_
      rw [HE.out]
      exact ⟨s1,ov,rfl,HZ.out.2.2.1,HZ.out.2.2.2,HZ.out.1⟩
     ·have bk3:(l.1.1 == 3)=false:=by simpa using hk3
      obtain ⟨fr,hfr⟩:∃ fr,fr=l.1.2.1:=⟨_,rfl⟩
      obtain ⟨vw,hvw'⟩:∃ vw,vw=l.1.2.2.2.1:=⟨_,rfl⟩
      obtain ⟨bl,hbl⟩:∃ bl,bl=l.1.2.2.2.2:=⟨_,rfl⟩
      obtain ⟨ld,e1⟩:∃ ld,xQ vw n=ld:=⟨_,rfl⟩
      rw [← hvw'] at hvw
      have HLD:Hid (∀ x:World,Calls Tryz.prog 121 #[.int .i64 vw,.int .i64 n] x fun e w'=>e=.returned (.int .i64 ld)∧w'=x):=fun x=>xR e1 (by omega) (by omega) (by omega) (by omega) x
      have HVB:=hid hvw
      have HE1:Hid (xI (bks ps) n p l=if fr=ld then yBD (bks ps) n p vw bl else (p,[])):=(by rw [HE0.out,if_neg hk2,if_neg hk4,if_neg hk3,← hfr,← hvw',← hbl,e1]:xI (bks ps) n p l=_)
      have hne:=yX y3
      have z1:∀ x:Bw y3,x.to.cell? ⟨w.heap.size+1,1,none⟩=some (.int .i64 fr):=fun x=>by rw [hfr];exact zB (HY3.out.more x.below).let' 1 _ rfl
      have z3:∀ x:Bw y3,x.to.cell? ⟨w.heap.size+1,3,none⟩=some (.int .i64 vw):=fun x=>by rw [hvw'];exact zB (HY3.out.more x.below).let' 3 _ rfl
      have HVW:=hid hvw'
      have HBL:=hid hbl
      clear hvw hfr hvw' hbl hk2 hk4 hk3 HE0
      by_cases hfl:fr=ld
      ·have bfl:(fr != ld)=false:=by simpa using hfl
       have HE2:Hid (xI (bks ps) n p l=yBD (bks ps) n p vw bl):=(by rw [HE1.out,if_pos hfl]:xI (bks ps) n p l=_)
       clear hfl HE1
       go_wp2
       clear ckd cid cto
       refine zG (by kernel_rfl) (by kernel_rfl) ?_
       repeat (go_big_quiet_step (first | (go_at_call 121;with_reducible refine zI (HLD.out _))))
       refine wpQuiet_nil ?_
       intro _ hw'
       obtain ⟨xq,rfl⟩:=hw'
       have hb:=xq.below
       obtain ⟨y4,hy4⟩:∃ y4,y4=xq.to:=⟨_,rfl⟩
       rw [← hy4] at hb ⊢
       clear hy4 z1 z3 hne
       have HY4:Hid (Bx4 w y4 N (zA p s) (zQ l) zF (zA p s1)):=HY3.out.more hb
       have HD4:Hid (zO w.heap.size y4.heap.size y4 p s1):=(HD3.out.below hb).wide hb.size (nl _)
       have HLV4:Hid (y4.ownsRow w.heap.size 61 13 ov ([]:List LT).length (zE yE [])):=zS HLV3.out hb
       clear hb HY3 HD3 HLV3
       have a3:=zB HY4.out.let' 3 (.int .i64 l.1.2.2.2.1) rfl
       rw [← HVW.out] at a3
       go_wp2_with (refine wpList_load_row rfl _ _ rfl N rfl 35 _ (0,0) _ HY4.out.out Tryz.underlying35 rfl (by kernel_rfl) ?_)
       obtain ⟨mb,hmb⟩:∃ mb,mb=zEG p 4 vw:=⟨_,rfl⟩
       refine (yFB p s1 4 vw y4).mono ?_
       rw [← hmb]
       have HMB:=hid hmb
       clear hmb
       rintro e y5 ⟨rfl,hb⟩
       clear a3
       have HY5:Hid (Bx4 w y5 N (zA p s) (zQ l) zF (zA p s1)):=HY4.out.more hb
       have HD5:Hid (zO w.heap.size y5.heap.size y5 p s1):=(HD4.out.below hb).wide hb.size (nl _)
       have HLV5:Hid (y5.ownsRow w.heap.size 61 13 ov ([]:List LT).length (zE yE [])):=zS HLV4.out hb
       clear hb HY4 HD4 HLV4
       cases mb with
       | false=>
        have HMY:Hid (mayH (bks ps) p vw bl=false):=hid (by unfold mayH;rw [← HMB.out];rfl)
        have HY7:=HY5
        have HD7:=HD5
        have HLV7:=HLV5
        obtain ⟨y7,hy7⟩:∃ y7,y7=y5:=⟨_,rfl⟩
        rw [← hy7] at HY7 HD7 HLV7 ⊢
        clear hy7 HY5 HD5 HLV5 HMB
        obtain ⟨p1,hp1'⟩:∃ p1,p1=jN (bks ps) p bl:=⟨_,rfl⟩
        have HS1:Hid (yC p1):=hid (by rw [hp1'];exact yCE HS.out HK.out HLN.out)
        have a4:=zB HY7.out.let' 4 (.int .i64 l.1.2.2.2.2) rfl
        rw [← HBL.out] at a4
        have HE3:Hid (xI (bks ps) n p l=(p1,[])):=(by rw [HE2.out,hp1'];unfold yBD;rw [HMY.out];rfl:xI (bks ps) n p l=_)
        go_wp2_with (refine wpList_load_row rfl _ _ rfl N rfl 35 _ (0,0) _ HY7.out.out Tryz.underlying35 rfl (by kernel_rfl) ?_)
        refine (zII ps va p s1 bl y7 (HT.out.below HY7.out.below) HK.out HD7.out.reads HS.out HLN.out).mono ?_
        rw [← hp1']
        rintro e x8 ⟨s8,rfl,ho,hb⟩
        have HX8:Hid (Bx4 w x8 N (zA p s) (zQ l) zF (zA p s1)):=HY7.out.more hb
        have HO8:Hid (zO w.heap.size x8.heap.size x8 p1 s8):=ho.low HY7.out.below.size
        have HLX8:Hid (x8.ownsRow w.heap.size 61 13 ov ([]:List LT).length (zE yE [])):=zS HLV7.out hb
        clear ho hb HY7 HD7 HLV7 a4 hp1'
        have HE:=hid HE3.out
        go_upto_region 17 with (refine zC rfl _ _ _ rfl N (zA p1 s8) rfl rfl 35 (zA p s1) HX8.out.out (by kernel_rfl) rfl (zJ HO8.out.1) ?_;intro y9 hg hk hz;have HY9:Hid (Bx4 w y9 N (zA p s) (zQ l) zF (zA p1 s8)):=HX8.out.put hg hk;have HD9:Hid (zO w.heap.size y9.heap.size y9 p1 s8):=(HO8.out.boxed HX8.out.out hg).wide hg.size (nl _);have HLV9:Hid (y9.ownsRow w.heap.size 61 13 ov ([]:List LT).length (zE yE [])):=World.ownsRow.kept HLX8.out hg (zH HLX8.out HX8.out.out (by decide));clear hg hk hz HX8 HO8 HLX8)
        go_wp2_with (first
         | (refine wpList_load_row rfl _ _ rfl N rfl 35 _ (0,0) _ HY9.out.out Tryz.underlying35 rfl (by kernel_rfl) ?_)
         | (refine zC rfl _ _ _ rfl (w.heap.size+1+1) (zA p1 s8) rfl rfl 35 zF HY9.out.zero (by kernel_rfl) rfl (zJ HD9.out.1) ?_;intro z hg hk hz;have HZ:Hid (Below w.heap.size w z∧Bx z (w.heap.size+1+1) (zA p1 s8) 35∧zO w.heap.size z.heap.size z p1 s8∧z.ownsRow w.heap.size 61 13 ov ([]).length (zE yE ([]))):=⟨HY9.out.fill hg,hk,(HD9.out.boxed HY9.out.zero hg).wide hg.size (nl _),World.ownsRow.kept HLV9.out hg (zH HLV9.out HY9.out.zero (by decide))⟩;clear hg hk hz))
        refine bodyPost_ret (v:=.tuple #[.agg (zA p1 s8),ov]) (yN Tryz.results193 _ _ (w.heap.size+1+1) 35 _ (0,0) _ _ rfl HZ.out.2.1 Tryz.underlying35 rfl (by kernel_rfl) rfl) rfl ?_
        rw [HE.out]
        exact ⟨s8,ov,rfl,HZ.out.2.2.1,HZ.out.2.2.2,HZ.out.1⟩
       | true=>
        have a4:=zB HY5.out.let' 4 (.int .i64 l.1.2.2.2.2) rfl
        rw [← HBL.out] at a4
        have k0:=zB HY5.out.out 6 (.int .i64 p.lock.1) rfl
        have k1:=zB HY5.out.out 7 (.int .i64 p.lock.2.1) rfl
        have k2:=zB HY5.out.out 8 (.int .i64 p.lock.2.2.1) rfl
        have k3:=zB HY5.out.out 9 (.int .i64 p.lock.2.2.2) rfl
        go_wp2_with fail
        obtain ⟨sb,hsb⟩:∃ sb,sb=yDA (bks ps) p.lock bl:=⟨_,rfl⟩
        refine (safeBlock_s ps va p.lock bl y5 (HT.out.below HY5.out.below) hl).mono ?_
        rw [← hsb]
        have HSB:=hid hsb
        clear hsb
        rintro e y7 ⟨rfl,hb⟩
        clear a4 k0 k1 k2 k3
        have HY7:Hid (Bx4 w y7 N (zA p s) (zQ l) zF (zA p s1)):=HY5.out.more hb
        have HD7:Hid (zO w.heap.size y7.heap.size y7 p s1):=(HD5.out.below hb).wide hb.size (nl _)
        have HLV7:Hid (y7.ownsRow w.heap.size 61 13 ov ([]:List LT).length (zE yE [])):=zS HLV5.out hb
        clear hb HY5 HD5 HLV5
        cases sb with
        | false=>
         have HMY:Hid (mayH (bks ps) p vw bl=false):=hid (by unfold mayH;rw [← HMB.out,← HSB.out];rfl)
         clear HMB HSB
         obtain ⟨p1,hp1'⟩:∃ p1,p1=jN (bks ps) p bl:=⟨_,rfl⟩
         have HS1:Hid (yC p1):=hid (by rw [hp1'];exact yCE HS.out HK.out HLN.out)
         have a4:=zB HY7.out.let' 4 (.int .i64 l.1.2.2.2.2) rfl
         rw [← HBL.out] at a4
         have HE3:Hid (xI (bks ps) n p l=(p1,[])):=(by rw [HE2.out,hp1'];unfold yBD;rw [HMY.out];rfl:xI (bks ps) n p l=_)
         go_wp2_with (refine wpList_load_row rfl _ _ rfl N rfl 35 _ (0,0) _ HY7.out.out Tryz.underlying35 rfl (by kernel_rfl) ?_)
         refine (zII ps va p s1 bl y7 (HT.out.below HY7.out.below) HK.out HD7.out.reads HS.out HLN.out).mono ?_
         rw [← hp1']
         rintro e x8 ⟨s8,rfl,ho,hb⟩
         have HX8:Hid (Bx4 w x8 N (zA p s) (zQ l) zF (zA p s1)):=HY7.out.more hb
         have HO8:Hid (zO w.heap.size x8.heap.size x8 p1 s8):=ho.low HY7.out.below.size
         have HLX8:Hid (x8.ownsRow w.heap.size 61 13 ov ([]:List LT).length (zE yE [])):=zS HLV7.out hb
         clear ho hb HY7 HD7 HLV7 a4 hp1'
         have HE:=hid HE3.out
         go_upto_region 17 with (refine zC rfl _ _ _ rfl N (zA p1 s8) rfl rfl 35 (zA p s1) HX8.out.out (by kernel_rfl) rfl (zJ HO8.out.1) ?_;intro y9 hg hk hz;have HY9:Hid (Bx4 w y9 N (zA p s) (zQ l) zF (zA p1 s8)):=HX8.out.put hg hk;have HD9:Hid (zO w.heap.size y9.heap.size y9 p1 s8):=(HO8.out.boxed HX8.out.out hg).wide hg.size (nl _);have HLV9:Hid (y9.ownsRow w.heap.size 61 13 ov ([]:List LT).length (zE yE [])):=World.ownsRow.kept HLX8.out hg (zH HLX8.out HX8.out.out (by decide));clear hg hk hz HX8 HO8 HLX8)
         go_wp2_with (first
          | (refine wpList_load_row rfl _ _ rfl N rfl 35 _ (0,0) _ HY9.out.out Tryz.underlying35 rfl (by kernel_rfl) ?_)
          | (refine zC rfl _ _ _ rfl (w.heap.size+1+1) (zA p1 s8) rfl rfl 35 zF HY9.out.zero (by kernel_rfl) rfl (zJ HD9.out.1) ?_;intro z hg hk hz;have HZ:Hid (Below w.heap.size w z∧Bx z (w.heap.size+1+1) (zA p1 s8) 35∧zO w.heap.size z.heap.size z p1 s8∧z.ownsRow w.heap.size 61 13 ov ([]).length (zE yE ([]))):=⟨HY9.out.fill hg,hk,(HD9.out.boxed HY9.out.zero hg).wide hg.size (nl _),World.ownsRow.kept HLV9.out hg (zH HLV9.out HY9.out.zero (by decide))⟩;clear hg hk hz))
         refine bodyPost_ret (v:=.tuple #[.agg (zA p1 s8),ov]) (yN Tryz.results193 _ _ (w.heap.size+1+1) 35 _ (0,0) _ _ rfl HZ.out.2.1 Tryz.underlying35 rfl (by kernel_rfl) rfl) rfl ?_
         rw [HE.out]
         exact ⟨s8,ov,rfl,HZ.out.2.2.1,HZ.out.2.2.2,HZ.out.1⟩
        | true=>
         have a3:=zB HY7.out.let' 3 (.int .i64 l.1.2.2.2.1) rfl
         rw [← HVW.out] at a3
         have a1:=zB HY7.out.box 1 (.int .i64 p.view) rfl
         by_cases hpv:p.view≤vw
         ·have dpv:decide (vw ≥ p.view)=true:=decide_eq_true hpv
          have HMY:Hid (mayH (bks ps) p vw bl=true):=hid (by unfold mayH;rw [← HMB.out,← HSB.out,decide_eq_true hpv];rfl)
          clear HMB HSB
          obtain ⟨p1,hp1'⟩:∃ p1,p1=jN (bks ps) p bl:=⟨_,rfl⟩
          have HS1:Hid (yC p1):=hid (by rw [hp1'];exact yCE HS.out HK.out HLN.out)
          have a4:=zB HY7.out.let' 4 (.int .i64 l.1.2.2.2.2) rfl
          rw [← HBL.out] at a4
          have HE3:Hid (xI (bks ps) n p l=votesH n p1 vw bl):=(by rw [HE2.out,hp1'];unfold yBD;rw [HMY.out];rfl:xI (bks ps) n p l=_)
          go_wp2_with (refine wpList_load_row rfl _ _ rfl N rfl 35 _ (0,0) _ HY7.out.out Tryz.underlying35 rfl (by kernel_rfl) ?_)
          refine (zII ps va p s1 bl y7 (HT.out.below HY7.out.below) HK.out HD7.out.reads HS.out HLN.out).mono ?_
          rw [← hp1']
          rintro e x8 ⟨s8,rfl,ho,hb⟩
          have HX8:Hid (Bx4 w x8 N (zA p s) (zQ l) zF (zA p s1)):=HY7.out.more hb
          have HO8:Hid (zO w.heap.size x8.heap.size x8 p1 s8):=ho.low HY7.out.below.size
          have HLX8:Hid (x8.ownsRow w.heap.size 61 13 ov ([]:List LT).length (zE yE [])):=zS HLV7.out hb
          clear ho hb HY7 HD7 HLV7 a4 hp1'
          go_upto_region 19 with (refine zC rfl _ _ _ rfl N (zA p1 s8) rfl rfl 35 (zA p s1) HX8.out.out (by kernel_rfl) rfl (zJ HO8.out.1) ?_;intro y9 hg hk hz;have HY9:Hid (Bx4 w y9 N (zA p s) (zQ l) zF (zA p1 s8)):=HX8.out.put hg hk;have HD9:Hid (zO w.heap.size y9.heap.size y9 p1 s8):=(HO8.out.boxed HX8.out.out hg).wide hg.size (nl _);have HLV9:Hid (y9.ownsRow w.heap.size 61 13 ov ([]:List LT).length (zE yE [])):=World.ownsRow.kept HLX8.out hg (zH HLX8.out HX8.out.out (by decide));clear hg hk hz HX8 HO8 HLX8)
          obtain ⟨l2,e2⟩:∃ l2,xQ (vw+1) n=l2:=⟨_,rfl⟩
          obtain ⟨p2,hp2⟩:∃ p2,p2=yP p1 4 vw bl:=⟨_,rfl⟩
          obtain ⟨p3,hp3⟩:∃ p3,p3=yI p2 (vw+1):=⟨_,rfl⟩
          obtain ⟨GL,hGL⟩:∃ GL,GL=zEJ p1 4 vw bl l2:=⟨_,rfl⟩
          have HE:Hid (xI (bks ps) n p l=(p3,[GL])):=(by rw [HE3.out,hp3,hp2,hGL,← e2];rfl:xI (bks ps) n p l=_)
          have HS2:Hid (yC p2):=hid (by rw [hp2];exact voted_small HS1.out _ _ _)
          have hadd:IntKind.i64.wrap (vw+1)=vw+1:=(by rw [IntKind.wrap_i64];have:=HVB.out;omega)
          refine zT (fun _=>true) (fun x=>Bx x (w.heap.size+1) (zQ l) 61) (by kernel_rfl) ?_
          show zX Tryz.prog _ _ _ _ _ (10+1) (Array.replicate 11 false) _ _
          have hS:Bx y9.drew (w.heap.size+1) (zQ l) 61:=HY9.out.let'
          refine zD 0 98 (.pointer (some ⟨w.heap.size+1,3,none⟩)) hS ?_
          refine zD 1 99 (.int .i64 vw) hS ?_ (hy:=by intro x hx;have c:=zB hx 3 (.int .i64 l.1.2.2.2.1) rfl;rw [← HVW.out] at c;go_simp;try with_reducible rfl)
          refine zD 2 100 (.pointer (some ⟨w.heap.size+1,4,none⟩)) hS ?_
          refine zD 3 101 (.int .i64 bl) hS ?_ (hy:=by intro x hx;have c:=zB hx 4 (.int .i64 l.1.2.2.2.2) rfl;rw [← HBL.out] at c;go_simp;try with_reducible rfl)
          refine zD 4 102 (.pointer (some ⟨w.heap.size+1,3,none⟩)) hS ?_
          refine zD 5 103 (.int .i64 vw) hS ?_ (hy:=by intro x hx;have c:=zB hx 3 (.int .i64 l.1.2.2.2.1) rfl;rw [← HVW.out] at c;go_simp;try with_reducible rfl)
          refine zD 6 104 (.int .i64 (vw+1)) hS ?_
          refine zD 7 105 (.int .i64 n) hS ?_
          refine kJ 8 106 121 #[.int .i64 (vw+1),.int .i64 n] ((xR e2 (by omega) (by omega) (by have:=HVB.out;omega) (by have:=HVB.out;omega) y9.drew).mono ?_)
          rintro e x0 ⟨rfl,hw⟩
          obtain rfl:=hw.symm
          clear hw
          refine ⟨_,rfl,fun _=>hS,?_⟩
          simp only [pz]
          refine kJ 9 107 213 #[.pointer (some ⟨N,0,none⟩),.int .i64 4,.int .i64 vw,.int .i64 bl,.int .i64 l2] ((give_s p1 s8 N w.heap.size y9.heap.size 4 vw bl l2 y9.drew (HD9.out.below (br _ _).drew) HY9.out.out HY9.out.below.size HS1.out).mono ?_)
          rw [← hp2,← hGL]
          rintro e y10 ⟨v10,rfl,hg0,⟨s10,hk10,ho⟩,hlv⟩
          have hg:y9.grownBy y10 (some N):=zP (yG (br _ _).drew) hg0
          have HY10:Hid (Bx4 w y10 N (zA p s) (zQ l) zF (zA p2 s10)):=HY9.out.put hg hk10
          have HD10:Hid (zO w.heap.size y10.heap.size y10 p2 s10):=ho
          have HLV10:Hid (y10.ownsRow w.heap.size 61 13 v10 [GL].length (zE yE [GL])):=hid (by have h:=zN hlv HY9.out.below.size;simpa [zE] using h)
          clear ho hlv hg hg0 hk10 hp2 hGL hS HY9 HD9 HLV9
          refine ⟨_,rfl,fun _=>HY10.out.let',?_⟩
          simp only [pz]
          refine zD 10 13 v10 HY10.out.let' ?_
          refine zK (by kernel_rfl) ?_ _
          have a3:=zB HY10.out.let' 3 (.int .i64 l.1.2.2.2.1) rfl
          rw [← HVW.out] at a3
          go_wp2_with (refine wpList_load_row rfl _ _ rfl N rfl 35 _ (0,0) _ HY10.out.out Tryz.underlying35 rfl (by kernel_rfl) ?_)
          refine (zCB p2 s10 (vw+1) y10 HD10.out.reads HS2.out).mono ?_
          rw [← hp3]
          rintro e y11 ⟨s11,rfl,ho,hb⟩
          have HY11:Hid (Bx4 w y11 N (zA p s) (zQ l) zF (zA p2 s10)):=HY10.out.more hb
          have HD11:Hid (zO w.heap.size y11.heap.size y11 p3 s11):=ho.low HY10.out.below.size
          have HLV11:Hid (y11.ownsRow w.heap.size 61 13 v10 [GL].length (zE yE [GL])):=zS HLV10.out hb
          clear ho hb hp3 HY10 HD10 HLV10 a3
          go_wp2_with (first
           | (refine wpList_load_row rfl _ _ rfl N rfl 35 _ (0,0) _ HY11.out.out Tryz.underlying35 rfl (by kernel_rfl) ?_)
           | (refine zC rfl _ _ _ rfl (w.heap.size+1+1) (zA p3 s11) rfl rfl 35 zF HY11.out.zero (by kernel_rfl) rfl (zJ HD11.out.1) ?_;intro z hg hk hz;have HZ:Hid (Below w.heap.size w z∧Bx z (w.heap.size+1+1) (zA p3 s11) 35∧zO w.heap.size z.heap.size z p3 s11∧z.ownsRow w.heap.size 61 13 v10 ([GL]).length (zE yE ([GL]))):=⟨HY11.out.fill hg,hk,(HD11.out.boxed HY11.out.zero hg).wide hg.size (nl _),World.ownsRow.kept HLV11.out hg (zH HLV11.out HY11.out.zero (by decide))⟩;clear hg hk hz))
          refine bodyPost_ret (v:=.tuple #[.agg (zA p3 s11),v10]) (yN Tryz.results193 _ _ (w.heap.size+1+1) 35 _ (0,0) _ _ rfl HZ.out.2.1 Tryz.underlying35 rfl (by kernel_rfl) rfl) rfl ?_
          rw [HE.out]
          exact ⟨s11,v10,rfl,HZ.out.2.2.1,HZ.out.2.2.2,HZ.out.1⟩
         ·have dpv:decide (vw ≥ p.view)=false:=decide_eq_false hpv
          have HMY:Hid (mayH (bks ps) p vw bl=false):=hid (by unfold mayH;rw [← HMB.out,← HSB.out,decide_eq_false hpv];rfl)
          clear HMB HSB
          obtain ⟨p1,hp1'⟩:∃ p1,p1=jN (bks ps) p bl:=⟨_,rfl⟩
          have HS1:Hid (yC p1):=hid (by rw [hp1'];exact yCE HS.out HK.out HLN.out)
          have a4:=zB HY7.out.let' 4 (.int .i64 l.1.2.2.2.2) rfl
          rw [← HBL.out] at a4
          have HE3:Hid (xI (bks ps) n p l=(p1,[])):=(by rw [HE2.out,hp1'];unfold yBD;rw [HMY.out];rfl:xI (bks ps) n p l=_)
          go_wp2_with (refine wpList_load_row rfl _ _ rfl N rfl 35 _ (0,0) _ HY7.out.out Tryz.underlying35 rfl (by kernel_rfl) ?_)
          refine (zII ps va p s1 bl y7 (HT.out.below HY7.out.below) HK.out HD7.out.reads HS.out HLN.out).mono ?_
          rw [← hp1']
          rintro e x8 ⟨s8,rfl,ho,hb⟩
          have HX8:Hid (Bx4 w x8 N (zA p s) (zQ l) zF (zA p s1)):=HY7.out.more hb
          have HO8:Hid (zO w.heap.size x8.heap.size x8 p1 s8):=ho.low HY7.out.below.size
          have HLX8:Hid (x8.ownsRow w.heap.size 61 13 ov ([]:List LT).length (zE yE [])):=zS HLV7.out hb
          clear ho hb HY7 HD7 HLV7 a4 hp1'
          have HE:=hid HE3.out
          go_upto_region 17 with (refine zC rfl _ _ _ rfl N (zA p1 s8) rfl rfl 35 (zA p s1) HX8.out.out (by kernel_rfl) rfl (zJ HO8.out.1) ?_;intro y9 hg hk hz;have HY9:Hid (Bx4 w y9 N (zA p s) (zQ l) zF (zA p1 s8)):=HX8.out.put hg hk;have HD9:Hid (zO w.heap.size y9.heap.size y9 p1 s8):=(HO8.out.boxed HX8.out.out hg).wide hg.size (nl _);have HLV9:Hid (y9.ownsRow w.heap.size 61 13 ov ([]:List LT).length (zE yE [])):=World.ownsRow.kept HLX8.out hg (zH HLX8.out HX8.out.out (by decide));clear hg hk hz HX8 HO8 HLX8)
          go_wp2_with (first
           | (refine wpList_load_row rfl _ _ rfl N rfl 35 _ (0,0) _ HY9.out.out Tryz.underlying35 rfl (by kernel_rfl) ?_)
           | (refine zC rfl _ _ _ rfl (w.heap.size+1+1) (zA p1 s8) rfl rfl 35 zF HY9.out.zero (by kernel_rfl) rfl (zJ HD9.out.1) ?_;intro z hg hk hz;have HZ:Hid (Below w.heap.size w z∧Bx z (w.heap.size+1+1) (zA p1 s8) 35∧zO w.heap.size z.heap.size z p1 s8∧z.ownsRow w.heap.size 61 13 ov ([]).length (zE yE ([]))):=⟨HY9.out.fill hg,hk,(HD9.out.boxed HY9.out.zero hg).wide hg.size (nl _),World.ownsRow.kept HLV9.out hg (zH HLV9.out HY9.out.zero (by decide))⟩;clear hg hk hz))
          refine bodyPost_ret (v:=.tuple #[.agg (zA p1 s8),ov]) (yN Tryz.results193 _ _ (w.heap.size+1+1) 35 _ (0,0) _ _ rfl HZ.out.2.1 Tryz.underlying35 rfl (by kernel_rfl) rfl) rfl ?_
          rw [HE.out]
          exact ⟨s8,ov,rfl,HZ.out.2.2.1,HZ.out.2.2.2,HZ.out.1⟩
      ·have bfl:(fr != ld)=true:=by simpa using hfl
       have HE:Hid (xI (bks ps) n p l=(p,[])):=(by rw [HE1.out,if_neg hfl]:xI (bks ps) n p l=_)
       clear hfl
       go_wp2
       refine zG (by kernel_rfl) (by kernel_rfl) ?_
       repeat (go_big_quiet_step (first | (go_at_call 121;with_reducible refine zI (HLD.out _))))
       refine wpQuiet_nil ?_
       intro _ hw'
       obtain ⟨xq,rfl⟩:=hw'
       have hb:=xq.below
       obtain ⟨y4,hy4⟩:∃ y4,y4=xq.to:=⟨_,rfl⟩
       rw [← hy4] at hb ⊢
       clear hy4 z1 z3 hne ckd cid cto
       have HY4:Hid (Bx4 w y4 N (zA p s) (zQ l) zF (zA p s1)):=HY3.out.more hb
       have HD4:Hid (zO w.heap.size y4.heap.size y4 p s1):=(HD3.out.below hb).wide hb.size (nl _)
       have HLV4:Hid (y4.ownsRow w.heap.size 61 13 ov ([]:List LT).length (zE yE [])):=zS HLV3.out hb
       clear hb HY3 HD3 HLV3
       go_wp2_with (first
        | (refine wpList_load_row rfl _ _ rfl N rfl 35 _ (0,0) _ HY4.out.out Tryz.underlying35 rfl (by kernel_rfl) ?_)
        | (refine zC rfl _ _ _ rfl (w.heap.size+1+1) (zA p s1) rfl rfl 35 zF HY4.out.zero (by kernel_rfl) rfl (zJ HD4.out.1) ?_;intro z hg hk hz;have HZ:Hid (Below w.heap.size w z∧Bx z (w.heap.size+1+1) (zA p s1) 35∧zO w.heap.size z.heap.size z p s1∧z.ownsRow w.heap.size 61 13 ov ([]).length (zE yE ([]))):=⟨HY4.out.fill hg,hk,(HD4.out.boxed HY4.out.zero hg).wide hg.size (nl _),World.ownsRow.kept HLV4.out hg (zH HLV4.out HY4.out.zero (by decide))⟩;clear hg hk hz))
       refine bodyPost_ret (v:=.tuple #[.agg (zA p s1),ov]) (yN Tryz.results193 _ _ (w.heap.size+1+1) 35 _ (0,0) _ _ rfl HZ.out.2.1 Tryz.underlying35 rfl (by kernel_rfl) rfl) rfl ?_
       rw [HE.out]
       exact ⟨s1,ov,rfl,HZ.out.2.2.1,HZ.out.2.2.2,HZ.out.1⟩
  ·have bto:(l.1.2.2.1 != p.id)=true:=by simpa using hto
   have HE:Hid (xI (bks ps) n p l=(p,[])):=(by unfold xI;rw [if_neg (fun h=>hto h.2)]:xI (bks ps) n p l=_)
   clear hlok hto
   go_wp2_with (first
    | (refine wpList_load_row rfl _ _ rfl N rfl 35 _ (0,0) _ HY3.out.out Tryz.underlying35 rfl (by kernel_rfl) ?_)
    | (refine zC rfl _ _ _ rfl (w.heap.size+1+1) (zA p s1) rfl rfl 35 zF HY3.out.zero (by kernel_rfl) rfl (zJ HD3.out.1) ?_;intro z hg hk hz;have HZ:Hid (Below w.heap.size w z∧Bx z (w.heap.size+1+1) (zA p s1) 35∧zO w.heap.size z.heap.size z p s1∧z.ownsRow w.heap.size 61 13 ov ([]).length (zE yE ([]))):=⟨HY3.out.fill hg,hk,(HD3.out.boxed HY3.out.zero hg).wide hg.size (nl _),World.ownsRow.kept HLV3.out hg (zH HLV3.out HY3.out.zero (by decide))⟩;clear hg hk hz))
   refine bodyPost_ret (v:=.tuple #[.agg (zA p s1),ov]) (yN Tryz.results193 _ _ (w.heap.size+1+1) 35 _ (0,0) _ _ rfl HZ.out.2.1 Tryz.underlying35 rfl (by kernel_rfl) rfl) rfl ?_
   rw [HE.out]
   exact ⟨s1,ov,rfl,HZ.out.2.2.1,HZ.out.2.2.2,HZ.out.1⟩
end Go.Proofs.YtjdddcldbfhbiacGreatR
