/-
  A text of ours: LieS.
-/
import Derived.Test.YtfnneillakdopacGreatRK1
import Derived.Test.YtfnneillakdopacGreatRHandCZ
import Derived.Deep.AppendLies
set_option maxRecDepth 100000
set_option maxHeartbeats 32000000
namespace Go.Proofs.YtfnneillakdopacGreatR
open _root_.Go.Proofs.Tryz
open Go.Value renaming int->I,oneCell'->Ac
open Go.IntKind renaming i64->U
open Nat renaming le_trans->Aa
open List renaming length_append->Ab
open Go.RowKit Num
def jA (c:CU) (ph vw k:Int):Nat->List VT
 | 0=>[]
 | i+1=>jA c ph vw k i ++ (if qZ c (i:Int)=true then [(ph,vw,k,(i:Int))] else [])
theorem lieAdd_len (c:CU) (ph vw k:Int):∀ i,(jA c ph vw k i).length<=i
 | 0=>by simp [jA]
 | i+1=>by
  unfold jA;rw [Ab];have:=lieAdd_len c ph vw k i
  split
  ·simp;omega
  ·simp;omega
def lieVotes (c:CU) (ph k:Int) (i:Nat):List VT:=c.said ++ jA c ph (yR c.tree k) k i
def qM (c:CU) (ph k:Int):QC × Bool:=if 1<=k/\k<=(c.tree.length:Int) - 1 then zHE (lieVotes c ph k (qN c.n)) ph (yR c.tree k) k c.n else ((0,0,0,0),false)
theorem lieQc_s (c:CU) (s:CW) (ph k:Int) (w:World) (hR:ClusR w c s) (hl:(c.tree.length:Int)<=1048576) (hs:(c.said.length:Int)+7<=1048576) (hn0:0<=c.n) (hn1:c.n<=9223372036854775807) :
  Calls prog 202 #[clusV c s,I U ph,I U k] w fun e w'=>e=.returned (.tuple #[zBF (qM c ph k).1,.bool (qM c ph k).2])/\Be w w':=by
 obtain ⟨a5,ct,et,ad⟩:=hR.viewCell;have az:=hid ad;have ao:=hid hR.said;obtain ⟨af,ac,es,-⟩:=hR.said;have ak:Hid (s.said=.slice af c.said.length ac):=es;clear hR ad;obtain ⟨W,hW⟩:=nw ((w.alloc (.cells (zR c s) 124)).alloc (.cells #[I U 0,I U 0,I U 0,I U 0] 26));have HW:Hid (Be w W/\Bx W w.heap.size (zR c s) 124/\Bx W (w.heap.size+1) #[I U 0,I U 0,I U 0,I U 0] 26):=hid (by rw [hW];exact ⟨ba (ba (br _ _) _) _,qK w _ _⟩);have c3:=zB HW.2.1 3 s.treeV rfl;rw [et] at c3;clear et es;obtain ⟨R,hR⟩:=nw (qM c ph k);have HR:Hid (R=if 1<=k/\k<=(c.tree.length:Int) - 1 then zHE (lieVotes c ph k (qN c.n)) ph (yR c.tree k) k c.n else ((0,0,0,0),false)):=hR;rw [<- hR];clear hR;unfold zBF;obtain ⟨li,ah,r,u,t⟩:=info_parts infoVote;go_enter func202,ntmps202;go_wp2_with (rw [<- hW];clear hW)
 refine (yS k 1 ((c.tree.length:Int) - 1) W).mono ?_;rintro e w1 ⟨rfl,hw⟩;obtain rfl:=hw.symm;clear hw
 by_cases hin:1<=k/\k<=(c.tree.length:Int) - 1
 ·rw [kY hin];have HE:Hid (R=zHE (lieVotes c ph k (qN c.n)) ph (yR c.tree k) k c.n):=(by rw [HR.out,if_pos hin]:R=_);obtain ⟨j,hj⟩:∃ j:Nat,k=(j:Int):=⟨k.toNat,by omega⟩;subst hj;have an:j < c.tree.length:=by omega
  obtain ⟨g,am,rfl,hg,hc⟩:=az j an;obtain ⟨V,hV⟩:=nw (yR c.tree (j:Int));have au:W.cell? ⟨g,am+j * 7+1,none⟩=some (I U V):=by rw [HW.out.1.cell (by exact hg),hc,hV]
  have q0:(0:Int)<=(j:Int):=by omega
  have q1:(j:Int) < (c.tree.length:Int):=by omega
  have av:Hid (∀ i,lieVotes c ph (j:Int) i=c.said ++ jA c ph V (j:Int) i):=(by rw [hV];exact fun _=>rfl:∀ i,_);rw [<- hV] at HE;have a1:=hs;have ap:Hid (w.heap.size+1 < W.heap.size):=(gl HW.2.2);clear hin hc hg hV HR;obtain ⟨Y,hY⟩:=nw (W.alloc (.cells #[] 28));have f:Hid (Be W Y/\Y.ownsRow W.heap.size 28 4 (.slice (some ⟨W.heap.size,0,none⟩) 0 0) ([]:List VT).length (zE xD [])):=hid (by rw [hY];exact ⟨yA _ _,yH W _ _⟩);have c6:Y.cell? ⟨w.heap.size,6,none⟩=some (.slice af c.said.length ac):=by rw [<- ak.out];exact zB (bk f.1 HW.2.1) 6 s.said rfl
  go_wp2_with (first
   | (rw [<- hY];clear hY)
   | (at_builtin;refine yU _ rfl _ _ 32 rfl W.heap.size 28 li _ 32 underlying32 ah r u t rfl (by decide) kW kP _ [] rfl f.2 _ c.said rfl (by rw [<- ak.out];exact ao.out.below (bt HW.1 f.1)) (by simp;unfold maxLen;omega) (by simp;omega) f.1.size ?_;intro v1 x1 ho hg;have ay:Hid ((Be w x1/\Bx x1 w.heap.size (zR c s) 124/\Bx x1 (w.heap.size+1) #[I U 0,I U 0,I U 0,I U 0] 26)/\x1.ownsRow W.heap.size 28 4 v1 (c.said ++ jA c ph V (j:Int) 0).length (zE xD (c.said ++ jA c ph V (j:Int) 0))/\W.heap.size<=x1.heap.size):=(by
     have hb:Be W x1:=f.1.grown hg f.1.size (fun k hk=>(f.2.lt k hk).1)
     exact ⟨⟨bt HW.1 hb,bk hb HW.2.1,bk hb HW.2.2⟩,by simpa [jA] using ho,hb.size⟩:_/\_);clear ho hg))
  clear c3 au c6
  go_loopw [9,10] (fun v9 i wr=>∃ (m:Nat) (vv:Value),m<=qN c.n/\v9=vv/\i=I U (m:Int)/\Hid ((Be w wr/\Bx wr w.heap.size (zR c s) 124/\Bx wr (w.heap.size+1) #[I U 0,I U 0,I U 0,I U 0] 26)/\wr.ownsRow W.heap.size 28 4 vv (c.said ++ jA c ph V (j:Int) m).length (zE xD (c.said ++ jA c ph V (j:Int) m))/\W.heap.size<=wr.heap.size)) (fun _ i _=>qN c.n - (intOf i).toNat)
  case atStart=>exact ⟨0,_,Nat.zero_le _,rfl,rfl,ay⟩
  case round=>
   obtain ⟨m,vv,hm,ae,rfl,HY⟩:=hrel;obtain rfl:=ae.symm;clear ae;have c0:=zB HY.1.2.1 0 (I U c.n) rfl;have a3:=many_le c.n;have a2:=lieAdd_len c ph V (j:Int) m
   by_cases hlt:m < qN c.n
   ·have h1:(m:Int) < c.n:=by unfold qN at hlt;split at hlt <;> omega
    have h2:(m:Int) < 7:=by omega
    go_wp2_with (refine w_ld w.heap.size HY.1.2.1 underlying124 ?_)
    clear c0;refine (yAI c s (m:Int) wr).mono ?_;rintro e y1 ⟨rfl,b⟩;have a:Hid ((Be w y1/\Bx y1 w.heap.size (zR c s) 124/\Bx y1 (w.heap.size+1) #[I U 0,I U 0,I U 0,I U 0] 26)/\y1.ownsRow W.heap.size 28 4 vv (c.said ++ jA c ph V (j:Int) m).length (zE xD (c.said ++ jA c ph V (j:Int) m))/\W.heap.size<=y1.heap.size):=⟨⟨bt HY.1.1 b,bk b HY.1.2.1,bk b HY.1.2.2⟩,zS HY.2.1 b,Aa HY.2.2 b.size⟩;clear b
    cases n:qZ c (m:Int) with
    | true=>
     have p:Hid (c.said ++ jA c ph V (j:Int) (m+1)=(c.said ++ jA c ph V (j:Int) m) ++ [(ph,V,(j:Int),(m:Int))]):=hid (by rw [show jA c ph V (j:Int) (m+1)=jA c ph V (j:Int) m ++ (if qZ c (m:Int)=true then [(ph,V,(j:Int),(m:Int))] else []) from rfl,if_pos n,List.append_assoc]);obtain ⟨AL,x⟩:=nw (c.said ++ jA c ph V (j:Int) m);have a0:(AL.length:Int)<=1048576:=by rw [x,Ab];omega
     rw [<- x] at a p;clear n x
     go_wp2_with (first
      | (at_builtin;refine wpList_append_lies _ rfl (.tmp 42) (.tmp 48) 32 rfl W.heap.size 28 li _ 4 32 underlying32 ah r u t rfl (by decide) _ _ _ rfl (zS a.2.1 (yA y1 _)) ⟨y1.heap.size,0,none⟩ 1 1 (xD (ph,V,(j:Int),(m:Int))) rfl rfl (World.news_of_block (heap_alloc_new y1 _)) (kP _) (by decide) (by unfold maxLen;omega) (by omega) (by have:=a.2.2;simp;omega) _ rfl ?_;intro g2 ai y3 aa o ar ag;have aq:Hid ((Be w y3/\Bx y3 w.heap.size (zR c s) 124/\Bx y3 (w.heap.size+1) #[I U 0,I U 0,I U 0,I U 0] 26)/\y3.ownsRow W.heap.size 28 4 (.slice (some ⟨g2,0,none⟩) (AL.length+1) ai) (AL ++ [(ph,V,(j:Int),(m:Int))]).length (zE xD (AL ++ [(ph,V,(j:Int),(m:Int))]))/\W.heap.size<=y3.heap.size):=(by
        have al:=zS a.2.1 (yA y1 (.cells #[I U ph,I U V,I U (j:Int),I U (m:Int)] 28));have h:=yA y1 (.cells #[I U ph,I U V,I U (j:Int),I U (m:Int)] 28);have hq:Be w (y1.alloc (.cells #[I U ph,I U V,I U (j:Int),I U (m:Int)] 28))/\(y1.alloc (.cells #[I U ph,I U V,I U (j:Int),I U (m:Int)] 28)).heap[w.heap.size]?=some (.cells (zR c s) 124 (0,0))/\(y1.alloc (.cells #[I U ph,I U V,I U (j:Int),I U (m:Int)] 28)).heap[w.heap.size+1]?=some (.cells #[I U 0,I U 0,I U 0,I U 0] 26 (0,0)):=⟨bt a.1.1 h,bk h a.1.2.1,bk h a.1.2.2⟩;have K:∀ k,k < W.heap.size->k < y3.heap.size->y3.heap[k]?=(y1.alloc (.cells #[I U ph,I U V,I U (j:Int),I U (m:Int)] 28)).heap[k]?:=fun k hk _=>o.block k (Nat.lt_of_lt_of_le hk (Aa a.2.2 h.size)) (fun e=>by have:=(al.lt k e.symm).1;omega)
        have a4:=ap.out;have aw:=o.size;have ax:W.heap.size<=y3.heap.size:=Aa a.2.2 (Aa h.size aw)
        refine ⟨⟨hq.1.grown o hq.1.size (fun k hk=>by have:=(al.lt k hk).1;omega),(K _ (by omega) (by omega)).trans hq.2.1,(K _ (by omega) (by omega)).trans hq.2.2⟩,by rw [Ab,zY];simpa [zE] using aa,ax⟩:_/\_);clear aa o ar ag))
     go_roundw
     case rel=>exact ⟨m+1,_,by omega,rfl,by go_num,by rw [p.out];exact aq.out⟩
     case measure=>simp [intOf];omega
    | false=>
     have p:Hid (c.said ++ jA c ph V (j:Int) (m+1)=c.said ++ jA c ph V (j:Int) m):=hid (by rw [show jA c ph V (j:Int) (m+1)=jA c ph V (j:Int) m ++ (if qZ c (m:Int)=true then [(ph,V,(j:Int),(m:Int))] else []) from rfl,if_neg (by rw [n];decide),List.append_nil]);clear n;go_wp2
     go_roundw
     case rel=>exact ⟨m+1,_,by omega,rfl,by go_num,by rw [p.out];exact a.out⟩
     case measure=>simp [intOf];omega
   ·have l:m=qN c.n:=by omega
    have ab:Hid (lieVotes c ph (j:Int) (qN c.n)=c.said ++ jA c ph V (j:Int) m):=hid (by rw [av.out,l]);have aj:((c.said ++ jA c ph V (j:Int) m).length:Int)<=1048576:=by rw [Ab];omega
    obtain ⟨Q,hQ⟩:=nw (zHE (c.said ++ jA c ph V (j:Int) m) ph V (j:Int) c.n);have v:Hid (R=Q):=hid (by rw [HE.out,ab.out,hQ]);have d:=qcOf_s (c.said ++ jA c ph V (j:Int) m) vv ph V (j:Int) c.n wr (zW kW HY.2.1) aj (by omega) hn1;rw [<- hQ] at d;unfold zBF at d;clear hQ ab aj HE;have y:Hid (c.n<=(m:Int)∨(7:Int)<=(m:Int)):=(by rw [l];unfold qN;split <;> omega:_∨_)
    rcases y.out with hx | hx
    ·have h1:¬ (m:Int) < c.n:=by omega
     clear hx hlt l;go_wp2_with fail
     clear c0;refine d.mono ?_;clear d;rintro e y1 ⟨rfl,b⟩;have a:=hid (qad3 (bt HY.1.1 b) (bk b HY.1.2.1) (bk b HY.1.2.2));clear b
     go_wp2_with (first
      | (refine w_st (w.heap.size+1) #[I U Q.1.1,I U Q.1.2.1,I U Q.1.2.2.1,I U Q.1.2.2.2] a.2.2 (by simp [Ac]) ?_;intro z hg hk hz;have HZ:Hid (Bx z (w.heap.size+1) #[I U Q.1.1,I U Q.1.2.1,I U Q.1.2.2.1,I U Q.1.2.2.2] 26/\Be w z):=⟨hk,a.1.grown hg a.1.size (fun k e=>by cases e;omega)⟩;clear hg hk hz))
     refine b_ct (.tuple #[.agg #[I U Q.1.1,I U Q.1.2.1,I U Q.1.2.2.1,I U Q.1.2.2.2],.bool Q.2]) results202 HZ.1 underlying26 ?_;rw [v.out];exact ⟨rfl,HZ.2⟩
    ·have h2:¬ (m:Int) < 7:=by omega
     by_cases h1:(m:Int) < c.n
     ·clear hx hlt l;go_wp2_with fail
      clear c0;refine d.mono ?_;clear d;rintro e y1 ⟨rfl,b⟩;have a:=hid (qad3 (bt HY.1.1 b) (bk b HY.1.2.1) (bk b HY.1.2.2));clear b
      go_wp2_with (first
       | (refine w_st (w.heap.size+1) #[I U Q.1.1,I U Q.1.2.1,I U Q.1.2.2.1,I U Q.1.2.2.2] a.2.2 (by simp [Ac]) ?_;intro z hg hk hz;have HZ:Hid (Bx z (w.heap.size+1) #[I U Q.1.1,I U Q.1.2.1,I U Q.1.2.2.1,I U Q.1.2.2.2] 26/\Be w z):=⟨hk,a.1.grown hg a.1.size (fun k e=>by cases e;omega)⟩;clear hg hk hz))
      refine b_ct (.tuple #[.agg #[I U Q.1.1,I U Q.1.2.1,I U Q.1.2.2.1,I U Q.1.2.2.2],.bool Q.2]) results202 HZ.1 underlying26 ?_;rw [v.out];exact ⟨rfl,HZ.2⟩
     ·clear hx hlt l;go_wp2_with fail
      clear c0;refine d.mono ?_;clear d;rintro e y1 ⟨rfl,b⟩;have a:=hid (qad3 (bt HY.1.1 b) (bk b HY.1.2.1) (bk b HY.1.2.2));clear b
      go_wp2_with (first
       | (refine w_st (w.heap.size+1) #[I U Q.1.1,I U Q.1.2.1,I U Q.1.2.2.1,I U Q.1.2.2.2] a.2.2 (by simp [Ac]) ?_;intro z hg hk hz;have HZ:Hid (Bx z (w.heap.size+1) #[I U Q.1.1,I U Q.1.2.1,I U Q.1.2.2.1,I U Q.1.2.2.2] 26/\Be w z):=⟨hk,a.1.grown hg a.1.size (fun k e=>by cases e;omega)⟩;clear hg hk hz))
      refine b_ct (.tuple #[.agg #[I U Q.1.1,I U Q.1.2.1,I U Q.1.2.2.1,I U Q.1.2.2.2],.bool Q.2]) results202 HZ.1 underlying26 ?_;rw [v.out];exact ⟨rfl,HZ.2⟩
 ·rw [zAB hin];have HE:Hid (R=((0,0,0,0),false)):=(by rw [HR.out,if_neg hin]:R=_);clear hin
  go_wp2_with (first
   | (refine w_st (w.heap.size+1) #[I U 0,I U 0,I U 0,I U 0] HW.2.2 (by simp [Ac]) ?_;intro z hg hk hz;have HZ:Hid (Bx z (w.heap.size+1) #[I U 0,I U 0,I U 0,I U 0] 26/\Be w z):=⟨hk,HW.1.grown hg HW.1.size (fun k e=>by cases e;omega)⟩;clear hg hk hz))
  refine b_ct (.tuple #[.agg #[I U 0,I U 0,I U 0,I U 0],.bool false]) results202 HZ.1 underlying26 ?_;rw [HE.out];exact ⟨rfl,HZ.2⟩
end Go.Proofs.YtfnneillakdopacGreatR
