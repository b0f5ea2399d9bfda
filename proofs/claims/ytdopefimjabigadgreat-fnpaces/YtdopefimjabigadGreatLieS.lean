/-
  A text of ours: LieS.
-/
import Derived.Test.YtdopefimjabigadGreatK1
import Derived.Test.YtdopefimjabigadGreatHandC
import Derived.Deep.AppendLies
set_option maxRecDepth 100000
set_option maxHeartbeats 32000000
namespace Go.Proofs.YtdopefimjabigadGreat
open Go.RowKit Num
def jA (c:CU) (ph vw k:Int):Nat->List VT
 | 0=>[]
 | i+1=>jA c ph vw k i ++ (if qZ c (i:Int)=true then [(ph,vw,k,(i:Int))] else [])
theorem lieAdd_len (c:CU) (ph vw k:Int):∀ i,(jA c ph vw k i).length<=i
 | 0=>by simp [jA]
 | i+1=>by
  unfold jA;rw [List.length_append];have:=lieAdd_len c ph vw k i
  split
  ·simp;omega
  ·simp;omega
def lieVotes (c:CU) (ph k:Int) (i:Nat):List VT:=c.said ++ jA c ph (yR c.tree k) k i
def qM (c:CU) (ph k:Int):QC × Bool:=if 1<=k/\k<=(c.tree.length:Int) - 1 then zHE (lieVotes c ph k (qN c.n)) ph (yR c.tree k) k c.n else ((0,0,0,0),false)
theorem ClusR.viewCell {w:World} {c:CU} {s:CW} (h:ClusR w c s):∃ a cap,s.treeV=.slice a c.tree.length cap/\∀ j (_:j < c.tree.length),∃ g off,a=some ⟨g,off,none⟩/\g < w.heap.size/\w.cell? ⟨g,off+j * 7+1,none⟩=some (.int .i64 (yR c.tree (j:Int))):=by
 obtain ⟨a,cap,e,hr⟩:=zAI h.tree;have hl:s.tree.length=c.tree.length:=by rw [<- h.etree,yO]
 refine ⟨a,cap,by rw [e,hl],fun j hj=>?_⟩;obtain ⟨g,off,e2,hg,hc⟩:=hr (by omega);refine ⟨g,off,e2,hg,?_⟩;have hj2:j < s.tree.length:=by omega
 rw [(hc j hj2).2.1,viewAt_at hj]
 congr 2
 have:c.tree[j]?=some s.tree[j].1:=by rw [<- h.etree];simp [bks,hj2]
 rw [List.getElem?_eq_getElem hj] at this;rw [Option.some.inj this]
theorem lieVote_s (c:CU) (s:CW) (i to' ph k:Int) (w:World) (hR:ClusR w c s) (hl:(c.tree.length:Int)<=1048576) :
  Calls Tryz.prog 189 #[clusV c s,.int .i64 i,.int .i64 to',.int .i64 ph,.int .i64 k] w fun e w'=>e=.returned (.agg (zQ (yAH c i to' ph k)))/\Below w.heap.size w w':=by
 obtain ⟨at',ct,et,hvc⟩:=hR.viewCell;have HVC:=hid hvc;clear hR hvc;obtain ⟨W,hW⟩:∃ W,W=(w.alloc (.cells (zR c s) 90)).alloc (.cells (zQ ((0,0,0,0,0),(0,0,0,0),(0,0,0,0))) 37):=⟨_,rfl⟩;have HW:Hid (Below w.heap.size w W/\Bx W w.heap.size (zR c s) 90/\Bx W (w.heap.size+1) (zQ ((0,0,0,0,0),(0,0,0,0),(0,0,0,0))) 37):=hid (by rw [hW];exact ⟨ba (ba (br _ _) _) _,qK w _ _⟩);have c3:=zB HW.out.2.1 3 s.treeV rfl;rw [et] at c3;clear et;unfold zQ at hW;obtain ⟨V,hV⟩:∃ V,V=lieView c k:=⟨_,rfl⟩;obtain ⟨LL,hLL⟩:∃ LL,LL=yAH c i to' ph k:=⟨_,rfl⟩;have HLL:Hid (LL=((2,i,to',V,0),(0,0,0,0),(ph,V,k,i))):=(by rw [hLL,hV];rfl:LL=_);have HV:Hid (V=lieView c k):=hV;rw [<- hLL];clear hLL hV;go_enter Tryz.func189,Tryz.ntmps189;go_wp2_with (rw [<- hW];clear hW)
 refine (yS k 0 ((c.tree.length:Int) - 1) W).mono ?_;rintro e w1 ⟨rfl,hw⟩;obtain rfl:=hw.symm;clear hw
 by_cases hin:0<=k/\k<=(c.tree.length:Int) - 1
 ·rw [kY hin];obtain ⟨j,hj⟩:∃ j:Nat,k=(j:Int):=⟨k.toNat,by omega⟩;subst hj;have hjn:j < c.tree.length:=by omega
  obtain ⟨g,off,rfl,hg,hc⟩:=HVC.out j hjn;have hvw:W.cell? ⟨g,off+j * 7+1,none⟩=some (.int .i64 V):=by rw [HW.out.1.cell (by exact hg),hc,HV.out];unfold lieView;rw [if_pos hin]
  have q0:(0:Int)<=(j:Int):=by omega
  have q1:(j:Int) < (c.tree.length:Int):=by omega
  clear hin hc hg
  go_wp2_with (first
   | (refine w_st W.heap.size #[.int .i64 ph,.int .i64 V,.int .i64 (j:Int),.int .i64 i] (heap_alloc_new W _) (by simp [Value.oneCell']) ?_;intro y hg hk hz;have hby:Below W.heap.size W y:=yB hg;have HY:Hid (Below w.heap.size w y/\Bx y (w.heap.size+1) (zQ ((0,0,0,0,0),(0,0,0,0),(0,0,0,0))) 37/\Bx y W.heap.size #[.int .i64 ph,.int .i64 V,.int .i64 (j:Int),.int .i64 i] 28):=⟨bt HW.out.1 hby,(hby.block _ (gl HW.out.2.2)).trans HW.out.2.2,hk⟩;clear hg hk hz hby)
   | (refine w_ld W.heap.size HY.out.2.2 Tryz.underlying28 ?_)
   | (refine zC rfl _ _ _ rfl (w.heap.size+1) (zQ LL) rfl (by rw [HLL.out];rfl) 37 (zQ ((0,0,0,0,0),(0,0,0,0),(0,0,0,0))) HY.out.2.1 (by kernel_rfl) rfl (kD _) ?_;intro z hg hk hz;have HZ:Hid (Bx z (w.heap.size+1) (zQ LL) 37/\Below w.heap.size w z):=⟨hk,HY.out.1.grown hg HY.out.1.size (fun k e=>by cases e;omega)⟩;clear hg hk hz))
  refine bodyPost_ret (v:=.agg (zQ LL)) (results_cell_row Tryz.results189 _ _ (w.heap.size+1) 37 _ (0,0) _ rfl HZ.out.1 Tryz.underlying37 rfl (by kernel_rfl)) rfl ?_;exact ⟨rfl,HZ.out.2⟩
 ·rw [zAB hin];have hV0:V=0:=by rw [HV.out];exact if_neg hin
  subst hV0;clear hin
  go_wp2_with (first
   | (refine w_st W.heap.size #[.int .i64 ph,.int .i64 0,.int .i64 k,.int .i64 i] (heap_alloc_new W _) (by simp [Value.oneCell']) ?_;intro y hg hk hz;have hby:Below W.heap.size W y:=yB hg;have HY:Hid (Below w.heap.size w y/\Bx y (w.heap.size+1) (zQ ((0,0,0,0,0),(0,0,0,0),(0,0,0,0))) 37/\Bx y W.heap.size #[.int .i64 ph,.int .i64 0,.int .i64 k,.int .i64 i] 28):=⟨bt HW.out.1 hby,(hby.block _ (gl HW.out.2.2)).trans HW.out.2.2,hk⟩;clear hg hk hz hby)
   | (refine w_ld W.heap.size HY.out.2.2 Tryz.underlying28 ?_)
   | (refine zC rfl _ _ _ rfl (w.heap.size+1) (zQ LL) rfl (by rw [HLL.out];rfl) 37 (zQ ((0,0,0,0,0),(0,0,0,0),(0,0,0,0))) HY.out.2.1 (by kernel_rfl) rfl (kD _) ?_;intro z hg hk hz;have HZ:Hid (Bx z (w.heap.size+1) (zQ LL) 37/\Below w.heap.size w z):=⟨hk,HY.out.1.grown hg HY.out.1.size (fun k e=>by cases e;omega)⟩;clear hg hk hz))
  refine bodyPost_ret (v:=.agg (zQ LL)) (results_cell_row Tryz.results189 _ _ (w.heap.size+1) 37 _ (0,0) _ rfl HZ.out.1 Tryz.underlying37 rfl (by kernel_rfl)) rfl ?_;exact ⟨rfl,HZ.out.2⟩
theorem lieQc_s (c:CU) (s:CW) (ph k:Int) (w:World) (hR:ClusR w c s) (hl:(c.tree.length:Int)<=1048576) (hs:(c.said.length:Int)+7<=1048576) (hn0:0<=c.n) (hn1:c.n<=9223372036854775807) :
  Calls Tryz.prog 191 #[clusV c s,.int .i64 ph,.int .i64 k] w fun e w'=>e=.returned (.tuple #[zBF (qM c ph k).1,.bool (qM c ph k).2])/\Below w.heap.size w w':=by
 obtain ⟨at',ct,et,hvc⟩:=hR.viewCell;have HVC:=hid hvc;have HSR:=hid hR.said;obtain ⟨as',cs',es,-⟩:=hR.said;have HES:Hid (s.said=.slice as' c.said.length cs'):=es;clear hR hvc;obtain ⟨W,hW⟩:∃ W,W=(w.alloc (.cells (zR c s) 90)).alloc (.cells #[.int .i64 0,.int .i64 0,.int .i64 0,.int .i64 0] 26):=⟨_,rfl⟩;have HW:Hid (Below w.heap.size w W/\Bx W w.heap.size (zR c s) 90/\Bx W (w.heap.size+1) #[.int .i64 0,.int .i64 0,.int .i64 0,.int .i64 0] 26):=hid (by rw [hW];exact ⟨ba (ba (br _ _) _) _,qK w _ _⟩);have c3:=zB HW.out.2.1 3 s.treeV rfl;rw [et] at c3;clear et es;obtain ⟨R,hR⟩:∃ R,R=qM c ph k:=⟨_,rfl⟩;have HR:Hid (R=if 1<=k/\k<=(c.tree.length:Int) - 1 then zHE (lieVotes c ph k (qN c.n)) ph (yR c.tree k) k c.n else ((0,0,0,0),false)):=hR;rw [<- hR];clear hR;unfold zBF;obtain ⟨li,lhi,lhz0,lhz1,lhz2⟩:=info_parts infoVote;go_enter Tryz.func191,Tryz.ntmps191;go_wp2_with (rw [<- hW];clear hW)
 refine (yS k 1 ((c.tree.length:Int) - 1) W).mono ?_;rintro e w1 ⟨rfl,hw⟩;obtain rfl:=hw.symm;clear hw
 by_cases hin:1<=k/\k<=(c.tree.length:Int) - 1
 ·rw [kY hin];have HE:Hid (R=zHE (lieVotes c ph k (qN c.n)) ph (yR c.tree k) k c.n):=(by rw [HR.out,if_pos hin]:R=_);obtain ⟨j,hj⟩:∃ j:Nat,k=(j:Int):=⟨k.toNat,by omega⟩;subst hj;have hjn:j < c.tree.length:=by omega
  obtain ⟨g,off,rfl,hg,hc⟩:=HVC.out j hjn;obtain ⟨V,hV⟩:∃ V,V=yR c.tree (j:Int):=⟨_,rfl⟩;have hvw:W.cell? ⟨g,off+j * 7+1,none⟩=some (.int .i64 V):=by rw [HW.out.1.cell (by exact hg),hc,hV]
  have q0:(0:Int)<=(j:Int):=by omega
  have q1:(j:Int) < (c.tree.length:Int):=by omega
  have HLV:Hid (∀ i,lieVotes c ph (j:Int) i=c.said ++ jA c ph V (j:Int) i):=(by rw [hV];exact fun _=>rfl:∀ i,_);rw [<- hV] at HE;have hsl:=hs;have HNE:Hid (w.heap.size+1 < W.heap.size):=(gl HW.out.2.2);clear hin hc hg hV HR;obtain ⟨Y,hY⟩:∃ Y,Y=W.alloc (.cells #[] 28):=⟨_,rfl⟩;have HYW:Hid (Below W.heap.size W Y/\Y.ownsRow W.heap.size 28 4 (.slice (some ⟨W.heap.size,0,none⟩) 0 0) ([]:List VT).length (zE xD [])):=hid (by rw [hY];exact ⟨yA _ _,yH W _ _⟩);have c6:Y.cell? ⟨w.heap.size,6,none⟩=some (.slice as' c.said.length cs'):=by rw [<- HES.out];exact zB ((HYW.out.1.block _ (gl HW.out.2.1)).trans HW.out.2.1) 6 s.said rfl
  go_wp2_with (first
   | (rw [<- hY];clear hY)
   | (at_builtin;refine yU _ rfl _ _ 32 rfl W.heap.size 28 li _ 32 Tryz.underlying32 lhi lhz0 lhz1 lhz2 rfl (by decide) kW kP _ [] rfl HYW.out.2 _ c.said rfl (by rw [<- HES.out];exact HSR.out.below (bt HW.out.1 HYW.out.1)) (by simp;unfold maxLen;omega) (by simp;omega) HYW.out.1.size ?_;intro v1 x1 ho hg;have HX1:Hid ((Below w.heap.size w x1/\Bx x1 w.heap.size (zR c s) 90/\Bx x1 (w.heap.size+1) #[.int .i64 0,.int .i64 0,.int .i64 0,.int .i64 0] 26)/\x1.ownsRow W.heap.size 28 4 v1 (c.said ++ jA c ph V (j:Int) 0).length (zE xD (c.said ++ jA c ph V (j:Int) 0))/\W.heap.size<=x1.heap.size):=(by
     have hb:Below W.heap.size W x1:=HYW.out.1.grown hg HYW.out.1.size (fun k hk=>(HYW.out.2.lt k hk).1)
     exact ⟨⟨bt HW.out.1 hb,(hb.block _ (gl HW.out.2.1)).trans HW.out.2.1,(hb.block _ (gl HW.out.2.2)).trans HW.out.2.2⟩,by simpa [jA] using ho,hb.size⟩:_/\_);clear ho hg))
  clear c3 hvw c6
  go_loopw [9,10] (fun v9 i wr=>∃ (m:Nat) (vv:Value),m<=qN c.n/\v9=vv/\i=.int .i64 (m:Int)/\Hid ((Below w.heap.size w wr/\Bx wr w.heap.size (zR c s) 90/\Bx wr (w.heap.size+1) #[.int .i64 0,.int .i64 0,.int .i64 0,.int .i64 0] 26)/\wr.ownsRow W.heap.size 28 4 vv (c.said ++ jA c ph V (j:Int) m).length (zE xD (c.said ++ jA c ph V (j:Int) m))/\W.heap.size<=wr.heap.size)) (fun _ i _=>qN c.n - (intOf i).toNat)
  case atStart=>exact ⟨0,_,Nat.zero_le _,rfl,rfl,HX1.out⟩
  case round=>
   obtain ⟨m,vv,hm,hvv,rfl,HY⟩:=hrel;obtain rfl:=hvv.symm;clear hvv;have c0:=zB HY.out.1.2.1 0 (.int .i64 c.n) rfl;have hm7:=many_le c.n;have hal:=lieAdd_len c ph V (j:Int) m
   by_cases hlt:m < qN c.n
   ·have h1:(m:Int) < c.n:=by unfold qN at hlt;split at hlt <;> omega
    have h2:(m:Int) < 7:=by omega
    go_wp2_with (refine w_ld w.heap.size HY.out.1.2.1 Tryz.underlying90 ?_)
    clear c0;refine (yAI c s (m:Int) wr).mono ?_;rintro e y1 ⟨rfl,hb1⟩;have HY1:Hid ((Below w.heap.size w y1/\Bx y1 w.heap.size (zR c s) 90/\Bx y1 (w.heap.size+1) #[.int .i64 0,.int .i64 0,.int .i64 0,.int .i64 0] 26)/\y1.ownsRow W.heap.size 28 4 vv (c.said ++ jA c ph V (j:Int) m).length (zE xD (c.said ++ jA c ph V (j:Int) m))/\W.heap.size<=y1.heap.size):=⟨⟨bt HY.out.1.1 hb1,(hb1.block _ (gl HY.out.1.2.1)).trans HY.out.1.2.1,(hb1.block _ (gl HY.out.1.2.2)).trans HY.out.1.2.2⟩,zS HY.out.2.1 hb1,Nat.le_trans HY.out.2.2 hb1.size⟩;clear hb1
    cases hli:qZ c (m:Int) with
    | true=>
     have HAD:Hid (c.said ++ jA c ph V (j:Int) (m+1)=(c.said ++ jA c ph V (j:Int) m) ++ [(ph,V,(j:Int),(m:Int))]):=hid (by rw [show jA c ph V (j:Int) (m+1)=jA c ph V (j:Int) m ++ (if qZ c (m:Int)=true then [(ph,V,(j:Int),(m:Int))] else []) from rfl,if_pos hli,List.append_assoc]);obtain ⟨AL,hAL⟩:∃ AL,AL=c.said ++ jA c ph V (j:Int) m:=⟨_,rfl⟩;have hlal:(AL.length:Int)<=1048576:=by rw [hAL,List.length_append];omega
     rw [<- hAL] at HY1 HAD;clear hli hAL
     go_wp2_with (first
      | (at_builtin;refine wpList_append_lies _ rfl (.tmp 42) (.tmp 48) 32 rfl W.heap.size 28 li _ 4 32 Tryz.underlying32 lhi lhz0 lhz1 lhz2 rfl (by decide) _ _ _ rfl (zS HY1.out.2.1 (yA y1 _)) ⟨y1.heap.size,0,none⟩ 1 1 (xD (ph,V,(j:Int),(m:Int))) rfl rfl (World.news_of_block (heap_alloc_new y1 _)) (kP _) (by decide) (by unfold maxLen;omega) (by omega) (by have:=HY1.out.2.2;simp;omega) _ rfl ?_;intro g2 cap2 y3 ho2 hg2 hwh hlt2;have HY3:Hid ((Below w.heap.size w y3/\Bx y3 w.heap.size (zR c s) 90/\Bx y3 (w.heap.size+1) #[.int .i64 0,.int .i64 0,.int .i64 0,.int .i64 0] 26)/\y3.ownsRow W.heap.size 28 4 (.slice (some ⟨g2,0,none⟩) (AL.length+1) cap2) (AL ++ [(ph,V,(j:Int),(m:Int))]).length (zE xD (AL ++ [(ph,V,(j:Int),(m:Int))]))/\W.heap.size<=y3.heap.size):=(by
        have hob:=zS HY1.out.2.1 (yA y1 (.cells #[.int .i64 ph,.int .i64 V,.int .i64 (j:Int),.int .i64 (m:Int)] 28));have hyb:=yA y1 (.cells #[.int .i64 ph,.int .i64 V,.int .i64 (j:Int),.int .i64 (m:Int)] 28);have hq:Below w.heap.size w (y1.alloc (.cells #[.int .i64 ph,.int .i64 V,.int .i64 (j:Int),.int .i64 (m:Int)] 28))/\(y1.alloc (.cells #[.int .i64 ph,.int .i64 V,.int .i64 (j:Int),.int .i64 (m:Int)] 28)).heap[w.heap.size]?=some (.cells (zR c s) 90 (0,0))/\(y1.alloc (.cells #[.int .i64 ph,.int .i64 V,.int .i64 (j:Int),.int .i64 (m:Int)] 28)).heap[w.heap.size+1]?=some (.cells #[.int .i64 0,.int .i64 0,.int .i64 0,.int .i64 0] 26 (0,0)):=⟨bt HY1.out.1.1 hyb,(hyb.block _ (gl HY1.out.1.2.1)).trans HY1.out.1.2.1,(hyb.block _ (gl HY1.out.1.2.2)).trans HY1.out.1.2.2⟩;have K:∀ k,k < W.heap.size->k < y3.heap.size->y3.heap[k]?=(y1.alloc (.cells #[.int .i64 ph,.int .i64 V,.int .i64 (j:Int),.int .i64 (m:Int)] 28)).heap[k]?:=fun k hk _=>hg2.block k (Nat.lt_of_lt_of_le hk (Nat.le_trans HY1.out.2.2 hyb.size)) (fun e=>by have:=(hob.lt k e.symm).1;omega)
        have hne:=HNE.out;have hsz:=hg2.size;have hws:W.heap.size<=y3.heap.size:=Nat.le_trans HY1.out.2.2 (Nat.le_trans hyb.size hsz)
        refine ⟨⟨hq.1.grown hg2 hq.1.size (fun k hk=>by have:=(hob.lt k hk).1;omega),(K _ (by omega) (by omega)).trans hq.2.1,(K _ (by omega) (by omega)).trans hq.2.2⟩,by rw [List.length_append,zY];simpa [zE] using ho2,hws⟩:_/\_);clear ho2 hg2 hwh hlt2))
     go_roundw
     case rel=>exact ⟨m+1,_,by omega,rfl,by go_num,by rw [HAD.out];exact HY3.out⟩
     case measure=>simp [intOf];omega
    | false=>
     have HAD:Hid (c.said ++ jA c ph V (j:Int) (m+1)=c.said ++ jA c ph V (j:Int) m):=hid (by rw [show jA c ph V (j:Int) (m+1)=jA c ph V (j:Int) m ++ (if qZ c (m:Int)=true then [(ph,V,(j:Int),(m:Int))] else []) from rfl,if_neg (by rw [hli];decide),List.append_nil]);clear hli;go_wp2
     go_roundw
     case rel=>exact ⟨m+1,_,by omega,rfl,by go_num,by rw [HAD.out];exact HY1.out⟩
     case measure=>simp [intOf];omega
   ·have hme:m=qN c.n:=by omega
    have HLL:Hid (lieVotes c ph (j:Int) (qN c.n)=c.said ++ jA c ph V (j:Int) m):=hid (by rw [HLV.out,hme]);have hq8:((c.said ++ jA c ph V (j:Int) m).length:Int)<=1048576:=by rw [List.length_append];omega
    obtain ⟨Q,hQ⟩:∃ Q,Q=zHE (c.said ++ jA c ph V (j:Int) m) ph V (j:Int) c.n:=⟨_,rfl⟩;have HEQ:Hid (R=Q):=hid (by rw [HE.out,HLL.out,hQ]);have hcon:=qcOf_s (c.said ++ jA c ph V (j:Int) m) vv ph V (j:Int) c.n wr (zW kW HY.out.2.1) hq8 (by omega) hn1;rw [<- hQ] at hcon;unfold zBF at hcon;clear hQ HLL hq8 HE;have HEXI:Hid (c.n<=(m:Int)∨(7:Int)<=(m:Int)):=(by rw [hme];unfold qN;split <;> omega:_∨_)
    rcases HEXI.out with hx | hx
    ·have h1:¬ (m:Int) < c.n:=by omega
     clear hx hlt hme;go_wp2_with fail
     clear c0;refine hcon.mono ?_;clear hcon;rintro e y1 ⟨rfl,hb1⟩;have HY1:Hid (Below w.heap.size w y1/\Bx y1 w.heap.size (zR c s) 90/\Bx y1 (w.heap.size+1) #[.int .i64 0,.int .i64 0,.int .i64 0,.int .i64 0] 26):=⟨bt HY.out.1.1 hb1,(hb1.block _ (gl HY.out.1.2.1)).trans HY.out.1.2.1,(hb1.block _ (gl HY.out.1.2.2)).trans HY.out.1.2.2⟩;clear hb1
     go_wp2_with (first
      | (refine w_st (w.heap.size+1) #[.int .i64 Q.1.1,.int .i64 Q.1.2.1,.int .i64 Q.1.2.2.1,.int .i64 Q.1.2.2.2] HY1.out.2.2 (by simp [Value.oneCell']) ?_;intro z hg hk hz;have HZ:Hid (Bx z (w.heap.size+1) #[.int .i64 Q.1.1,.int .i64 Q.1.2.1,.int .i64 Q.1.2.2.1,.int .i64 Q.1.2.2.2] 26/\Below w.heap.size w z):=⟨hk,HY1.out.1.grown hg HY1.out.1.size (fun k e=>by cases e;omega)⟩;clear hg hk hz))
     refine bodyPost_ret (v:=.tuple #[.agg #[.int .i64 Q.1.1,.int .i64 Q.1.2.1,.int .i64 Q.1.2.2.1,.int .i64 Q.1.2.2.2],.bool Q.2]) (qE Tryz.results191 _ _ (w.heap.size+1) 26 _ (0,0) _ _ rfl HZ.out.1 Tryz.underlying26 rfl (by kernel_rfl) rfl) rfl ?_;rw [HEQ.out];exact ⟨rfl,HZ.out.2⟩
    ·have h2:¬ (m:Int) < 7:=by omega
     by_cases h1:(m:Int) < c.n
     ·clear hx hlt hme;go_wp2_with fail
      clear c0;refine hcon.mono ?_;clear hcon;rintro e y1 ⟨rfl,hb1⟩;have HY1:Hid (Below w.heap.size w y1/\Bx y1 w.heap.size (zR c s) 90/\Bx y1 (w.heap.size+1) #[.int .i64 0,.int .i64 0,.int .i64 0,.int .i64 0] 26):=⟨bt HY.out.1.1 hb1,(hb1.block _ (gl HY.out.1.2.1)).trans HY.out.1.2.1,(hb1.block _ (gl HY.out.1.2.2)).trans HY.out.1.2.2⟩;clear hb1
      go_wp2_with (first
       | (refine w_st (w.heap.size+1) #[.int .i64 Q.1.1,.int .i64 Q.1.2.1,.int .i64 Q.1.2.2.1,.int .i64 Q.1.2.2.2] HY1.out.2.2 (by simp [Value.oneCell']) ?_;intro z hg hk hz;have HZ:Hid (Bx z (w.heap.size+1) #[.int .i64 Q.1.1,.int .i64 Q.1.2.1,.int .i64 Q.1.2.2.1,.int .i64 Q.1.2.2.2] 26/\Below w.heap.size w z):=⟨hk,HY1.out.1.grown hg HY1.out.1.size (fun k e=>by cases e;omega)⟩;clear hg hk hz))
      refine bodyPost_ret (v:=.tuple #[.agg #[.int .i64 Q.1.1,.int .i64 Q.1.2.1,.int .i64 Q.1.2.2.1,.int .i64 Q.1.2.2.2],.bool Q.2]) (qE Tryz.results191 _ _ (w.heap.size+1) 26 _ (0,0) _ _ rfl HZ.out.1 Tryz.underlying26 rfl (by kernel_rfl) rfl) rfl ?_;rw [HEQ.out];exact ⟨rfl,HZ.out.2⟩
     ·clear hx hlt hme;go_wp2_with fail
      clear c0;refine hcon.mono ?_;clear hcon;rintro e y1 ⟨rfl,hb1⟩;have HY1:Hid (Below w.heap.size w y1/\Bx y1 w.heap.size (zR c s) 90/\Bx y1 (w.heap.size+1) #[.int .i64 0,.int .i64 0,.int .i64 0,.int .i64 0] 26):=⟨bt HY.out.1.1 hb1,(hb1.block _ (gl HY.out.1.2.1)).trans HY.out.1.2.1,(hb1.block _ (gl HY.out.1.2.2)).trans HY.out.1.2.2⟩;clear hb1
      go_wp2_with (first
       | (refine w_st (w.heap.size+1) #[.int .i64 Q.1.1,.int .i64 Q.1.2.1,.int .i64 Q.1.2.2.1,.int .i64 Q.1.2.2.2] HY1.out.2.2 (by simp [Value.oneCell']) ?_;intro z hg hk hz;have HZ:Hid (Bx z (w.heap.size+1) #[.int .i64 Q.1.1,.int .i64 Q.1.2.1,.int .i64 Q.1.2.2.1,.int .i64 Q.1.2.2.2] 26/\Below w.heap.size w z):=⟨hk,HY1.out.1.grown hg HY1.out.1.size (fun k e=>by cases e;omega)⟩;clear hg hk hz))
      refine bodyPost_ret (v:=.tuple #[.agg #[.int .i64 Q.1.1,.int .i64 Q.1.2.1,.int .i64 Q.1.2.2.1,.int .i64 Q.1.2.2.2],.bool Q.2]) (qE Tryz.results191 _ _ (w.heap.size+1) 26 _ (0,0) _ _ rfl HZ.out.1 Tryz.underlying26 rfl (by kernel_rfl) rfl) rfl ?_;rw [HEQ.out];exact ⟨rfl,HZ.out.2⟩
 ·rw [zAB hin];have HE:Hid (R=((0,0,0,0),false)):=(by rw [HR.out,if_neg hin]:R=_);clear hin
  go_wp2_with (first
   | (refine w_st (w.heap.size+1) #[.int .i64 0,.int .i64 0,.int .i64 0,.int .i64 0] HW.out.2.2 (by simp [Value.oneCell']) ?_;intro z hg hk hz;have HZ:Hid (Bx z (w.heap.size+1) #[.int .i64 0,.int .i64 0,.int .i64 0,.int .i64 0] 26/\Below w.heap.size w z):=⟨hk,HW.out.1.grown hg HW.out.1.size (fun k e=>by cases e;omega)⟩;clear hg hk hz))
  refine bodyPost_ret (v:=.tuple #[.agg #[.int .i64 0,.int .i64 0,.int .i64 0,.int .i64 0],.bool false]) (qE Tryz.results191 _ _ (w.heap.size+1) 26 _ (0,0) _ _ rfl HZ.out.1 Tryz.underlying26 rfl (by kernel_rfl) rfl) rfl ?_;rw [HE.out];exact ⟨rfl,HZ.out.2⟩
end Go.Proofs.YtdopefimjabigadGreat
