/-
  A text of ours: EarS.
-/
import Derived.Test.YtdopefimjabigadGreatK1
import Derived.Test.YtdopefimjabigadGreatThrS
import Derived.Test.YtdopefimjabigadGreatK5
import Derived.Maps.AppendAt
set_option maxRecDepth 100000
set_option maxHeartbeats 32000000
namespace Go.Proofs.YtdopefimjabigadGreat
open Go.RowKit Num
def yDE (t:List BK):CL→List Int→List UN
 | _,[]=>[]
 | cs,k :: l=>jQ cs (kN t k) ++ yDE t (yD cs (kN t k)) l
theorem earU_take (t:List BK) (row:List Int):∀ (cs:CL) (m:Nat) (h:m < row.length),yDE t cs (row.take (m+1))=yDE t cs (row.take m) ++ jQ (zGF t cs (row.take m)) (kN t row[m]):=by
 induction row with
 | nil=>intro cs m h;simp at h
 | cons k row ih=>
  intro cs m h
  cases m with
  | zero=>simp [yDE,zGF]
  | succ m=>
   have:=ih (yD cs (kN t k)) m (by simpa using h);simp only [List.take_succ_cons,yDE,zGF,List.getElem_cons_succ,List.append_assoc];rw [this]
theorem earU_len {t:List BK} (ht:okT t):∀ (l:List Int) (cs:CL),(yDE t cs l).length≤l.length * 1048576
 | [],_=>by simp [yDE]
 | k :: l,cs=>by
  have h1:=earU_len ht l (yD cs (kN t k));have h2:=(cmdsAt_ok ht k).2;simp only [yDE,List.length_append,zGI,List.length_cons];omega
def yBH (t:List BK) (p:PE) (l:List Int):PE:={ p with cells:=zGF t p.cells l,early:=l,undos:=yDE t p.cells l }
def yDF (t:List BK) (p:PE) (k:Int):PE:=yBH t (jC p) (kB t k (qS p.row))
theorem ear_own {lo hi:Nat} {w:World} {q:PE} {s:PV} (t:List BK) (L:List Int) (he:q.early=[]) (hu:q.undos=[]) (h:zO lo hi w q s):zO lo hi w (yBH t q (L.take 0)) s:=h.other rfl (by simp [yBH,zGF]) (by simp [yBH,he]) (by simp [yBH,yDE,hu]) rfl rfl
theorem ear_step {ps:TL} {q:PE} {L:List Int} {m j:Nat} (hm:m < L.length) (hj:L[m]=(j:Int)) (hjn:j < ps.length) :
  ({ yBH (bks ps) q (L.take m) with cells:=yD (yBH (bks ps) q (L.take m)).cells ps[j].1.2.1,early:=(yBH (bks ps) q (L.take m)).early ++ [(j:Int)],undos:=(yBH (bks ps) q (L.take m)).undos ++ jQ (yBH (bks ps) q (L.take m)).cells ps[j].1.2.1 }:PE)=yBH (bks ps) q (L.take (m+1)):=by
 have hc:kN (bks ps) (j:Int)=ps[j].1.2.1:=by unfold kN;rw [if_pos ⟨by omega,by rw [yO];omega⟩];simp [bks,hjn]
 have hr:=rowC_take (bks ps) L q.cells m hm;have hu:=earU_take (bks ps) L q.cells m hm;rw [hj,hc] at hr hu;have ht:L.take (m+1)=L.take m ++ [(j:Int)]:=by rw [List.take_add_one,List.getElem?_eq_getElem hm,hj];rfl
 unfold yBH;simp only [hr,hu];rw [ht]
theorem row_kind {w:World} {b1 b2 m1 m2 n1 n2:Nat} {e1 e2:TypeId} {v1 v2:Value} {xs1 xs2:List Value} (h1:w.ownsRow b1 e1 m1 v1 n1 xs1) (h2:w.ownsRow b2 e2 m2 v2 n2 xs2) (he:e1 ≠ e2):v1.ownBlock=none∨v1.ownBlock ≠ v2.ownBlock:=by
 obtain ⟨_,⟨rfl,_⟩ | ⟨g1,cap1,cur1,rfl,_,hh1,_⟩⟩:=h1
 ·exact Or.inl rfl
 ·refine Or.inr fun e=>?_
  obtain ⟨_,⟨rfl,_⟩ | ⟨g2,cap2,cur2,rfl,_,hh2,_⟩⟩:=h2
  ·simp [Value.ownBlock] at e
  ·have:g1=g2:=by simpa [Value.ownBlock] using e
   subst this;rw [hh1] at hh2;injection hh2 with hh2
   injection hh2 with _ hh3
   exact he hh3
theorem zO.addEarly {lo hi:Nat} {y x:World} {p:PE} {s:PV} {j:Int} {g cap:Nat} (h:zO lo hi y p s) (hg:y.grownBy x s.early.ownBlock) (ho:x.ownsRow lo 3 1 (.slice (some ⟨g,0,none⟩) (p.early.length+1) cap) (p.early.length+1) (zE xJ p.early ++ [.int .i64 j])) (hw:s.early.ownBlock=some g∨hi≤g) (hl:g < x.heap.size) :
  zO lo x.heap.size x { p with early:=p.early ++ [j] } { s with early:=.slice (some ⟨g,0,none⟩) (p.early.length+1) cap }:=by
 have ha:=h.2.1;refine ⟨⟨World.ownsRow.kept h.1.row hg ha.a02.ne,World.ownsRow.kept h.1.cells hg ha.a12.ne,?_,World.ownsRow.kept h.1.undos hg ha.a32.ne,World.ownsRow.kept h.1.votes hg ha.a42.ne,World.ownsRow.kept h.1.news hg ha.a52.ne⟩,ha.setEarly (Nat.le_trans h.2.2 hg.size) (fun g' e=>⟨(ho.lt g' e).1,by cases e;exact hl⟩) (fun g' e=>by cases e;exact hw),nl _⟩;rw [zY]
 simpa [xJ,zE] using ho
theorem zO.addUndos {lo hi:Nat} {y x:World} {p:PE} {s:PV} {us:List UN} {v:Value} (h:zO lo hi y p s) (hg:y.grownBy x s.undos.ownBlock) (ho:x.ownsRow lo 110 3 v (p.undos ++ us).length (zE kK (p.undos ++ us))) (hw:v.ownBlock=s.undos.ownBlock∨v.ownBlock=some y.heap.size) :
  zO lo x.heap.size x { p with undos:=p.undos ++ us } { s with undos:=v }:=by
 have ha:=h.2.1
 exact ⟨⟨World.ownsRow.kept h.1.row hg ha.a03.ne,World.ownsRow.kept h.1.cells hg ha.a13.ne,World.ownsRow.kept h.1.early hg ha.a23.ne,ho,World.ownsRow.kept h.1.votes hg ha.a43.ne,World.ownsRow.kept h.1.news hg ha.a53.ne⟩,ha.setUndos (Nat.le_trans h.2.2 hg.size) (fun g e=>⟨(ho.lt g e).1,(ho.lt g e).2⟩) (fun g e=>by
  rcases hw with h1 | h1
  ·exact Or.inl (h1.symm.trans e)
  ·rw [h1] at e;have e:=Option.some.inj e;exact Or.inr (by have:=h.2.2;omega)),nl _⟩
theorem wpList_append_w {α:Type} {f:α→List Value} {m:Nat} (w:World) {ops:Array Oper} {rest:List Oper} {o:Oper} {a:Act} {Q:Exit→Act→World→Prop} (hgd:o.guard=none) (s x:Operand) (t:TypeId)
  (ho:o.op=.call { callee:=.builtin .append,args:=#[s,x],argTypes:=#[t,t] })
  (base:Nat) (e:TypeId) (i:TypeInfo) (z:Value) (bytes:Nat) (ht:Tryz.prog.underlying t=some (.slice e)) (hi:Tryz.prog.info? e=some i) (hz:i.zero=some z) (hsize:i.size=m) (hby:i.bytes=bytes) (hzs:z.cells.size=m) (hsz:0 < m)
  (hm:∀ y,(f y).length=m) (hone:∀ y,∀ u∈f y,u.oneCell'=true)
  (v:Value) (xs:List α) (hs:a.eval s=v) (hown:w.ownsRow base e m v xs.length (zE f xs))
  (src:Value) (cs:List α) (hx:a.eval x=src) (hsrc:yM w src m f cs) (h63:xs.length+cs.length≤maxLen) (hbytes:(xs.length+cs.length) * bytes≤140737488355328) (hbase:base≤w.heap.size)
  (h:∀ v' w',w'.ownsRow base e m v' (xs ++ cs).length (zE f (xs ++ cs))→w.grownBy w' v.ownBlock→(v'.ownBlock=v.ownBlock∨v'.ownBlock=some w.heap.size)→wpList Tryz.prog ops Q rest (a.put o.dst v') w'):wpList Tryz.prog ops Q (o :: rest) a w:=by
 obtain ⟨ad,cap,rfl,hr⟩:=hsrc
 cases ad with
 | none=>
  have h0:cs.length=0:=by
   rcases Nat.eq_zero_or_pos cs.length with h | h
   ·exact h
   ·obtain ⟨_,_,e,_⟩:=hr h;cases e
  obtain rfl:cs=[]:=List.eq_nil_of_length_eq_zero h0;refine wpList_plain hgd fun K' hK'=>?_
  have hrun:=yBC (ty:=o.type) ht hi w hown cap;unfold Oper.wp execOp;simp only [ho,resolve,invoke,builtin,Sem.run_bind,Sem.run_pure,Result.andThen_ok,List.map_toArray,List.map_cons,List.map_nil,hs,hx,List.length_nil,hrun];exact hK' _ _ (h v w (by simpa using hown) ⟨rfl,rfl,rfl,nl _,fun _ _ _=>rfl⟩ (Or.inl rfl))
 | some ad=>
  refine wpList_append_own_at _ hgd s x t ho base e i z m bytes ht hi hz hsize hby hzs hsz v _ _ hs hown ad cs.length cap (zE f cs) hx (jX hm cs) ?_ (fun u hu=>?_) h63 hbytes hbase fun v' w' h1 h2 _ h4=>h v' w' (by rw [List.length_append,zY];exact h1) h2 h4
  ·intro j u hj
   have hjl:j < cs.length * m:=by
    rw [← jX hm];exact (List.getElem?_eq_some_iff.1 hj).1
   have h0:0 < cs.length:=by
    rcases Nat.eq_zero_or_pos cs.length with h | h
    ·rw [h] at hjl;omega
    ·exact h
   obtain ⟨g,off,rfl0,hg,hc⟩:=hr h0
   cases rfl0
   have hp:(⟨g,off,none⟩:Addr).add j=⟨g,off+j,none⟩:=by unfold Addr.add;split <;> simp_all
   have hd:j / m < cs.length:=Nat.div_lt_of_lt_mul (by rw [Nat.mul_comm];exact hjl);have hr:j % m < m:=Nat.mod_lt _ hsz;have e:j=j / m * m+j % m:=by rw [Nat.mul_comm];exact (Nat.div_add_mod j m).symm
   have hf:=jY hm cs (j / m) hd (j % m) hr;rw [← e] at hf;rw [hp,show off+j=off+j / m * m+j % m by omega,hc (j / m) hd (j % m) hr,← hf,hj]
  ·obtain ⟨y,_,hy⟩:=List.mem_flatMap.1 hu;exact hone y u hy
theorem tooEarly_s (ps:TL) (v:Value) (p:PE) (s:PV) (k:Int) (w:World) (hT:jB w v ps) (hk:okT (bks ps)) (hR:jS w p s) (hs:yC p) :
  Calls Tryz.prog 54 #[v,yZ p s,.int .i64 k] w fun e w'=>∃ s',e=.returned (yZ (yDF (bks ps) p k) s')∧zO w.heap.size w'.heap.size w' (yDF (bks ps) p k) s'∧Below w.heap.size w w':=by
 have HT:=hid hT;have HK:=hid hk;have HR:=hid hR;have HS:=hid hs;have hpl:(ps.length:Int)≤1048576:=by have:=hk.1;rw [yO] at this;exact this
 have hrl:=hs.row;have HBL:Hid ((bks ps).length=ps.length):=yO ps;obtain ⟨ii,ihi,ihz0,ihz1,ihz2⟩:=info_parts infoIntL;obtain ⟨ui,uhi,uhz0,uhz1,uhz2⟩:=info_parts infoUndo;obtain ⟨at0,ct0,rfl,-⟩:=HT.out.1;clear hT hk hR hs;obtain ⟨W,hW⟩:∃ W,W=(w.alloc (.cells (zA p s) 35)).alloc (.cells zF 35):=⟨_,rfl⟩
 have HC:Hid (Below w.heap.size w W∧Bx W w.heap.size (zA p s) 35∧Bx W (w.heap.size+1) zF 35):=by
  rw [hW];exact ⟨ba (ba (br _ _) _) _,qK w _ _⟩
 have HWS:Hid (W.heap.size=w.heap.size+1+1):=hid (by rw [hW];simp);unfold zF at hW;go_enter Tryz.func54,Tryz.ntmps54;go_wp2_with (rw [← hW];clear hW;refine w_ld w.heap.size HC.out.2.1 Tryz.underlying35 ?_)
 refine (zHJ p s W (HR.out.below HC.out.1) HS.out).mono ?_;rintro e x1 ⟨s1,rfl,ho,hb⟩;have HO1:Hid (zO W.heap.size x1.heap.size x1 p s1):=ho.toD;have HB1:Hid (Below W.heap.size W x1):=hb;clear ho hb
 go_wp2_with (first
  | (refine w_st x1.heap.size (zA p s1) (heap_alloc_new x1 _) (zJ HO1.out.1) ?_;intro y1 hg hk hz;have hb1:Below x1.heap.size x1 y1:=yB hg;have HY1:Hid (Bx3 w y1 x1.heap.size (zA p s) zF (zA p s1)):=⟨bt HC.out.1 (bt HB1.out hb1),(hb1.block _ (by have:=HB1.out.size;have:=HWS.out;omega)).trans ((HB1.out.block _ (by have:=HWS.out;omega)).trans HC.out.2.1),(hb1.block _ (by have:=HB1.out.size;have:=HWS.out;omega)).trans ((HB1.out.block _ (by have:=HWS.out;omega)).trans HC.out.2.2),hk,(by have:=HB1.out.size;have:=HWS.out;omega)⟩;have HD1:Hid (zO W.heap.size x1.heap.size y1 p s1):=HO1.out.below hb1;clear hg hk hz hb1 HO1)
  | (refine w_ld w.heap.size HY1.out.box Tryz.underlying35 ?_))
 refine (back_s p s1 x1.heap.size W.heap.size x1.heap.size y1 HD1.out HY1.out.out (by have:=HB1.out.size;have:=HY1.out.lt;omega) HS.out).mono ?_;rintro e x3 ⟨⟨r0,rfl⟩,hg,s3,hk3,hd3⟩;have HL3:Hid (W.heap.size≤x1.heap.size∧x1.heap.size < y1.heap.size∧y1.heap.size≤x3.heap.size):=⟨HB1.out.size,HY1.out.lt,hg.size⟩;have HY3:Hid (Bx3 w x3 x1.heap.size (zA p s) zF (zA (jC p) s3)):=HY1.out.put hg hk3;have HD3:Hid (zO W.heap.size x3.heap.size x3 (jC p) s3):=hd3;clear hg hk3 hd3 HY1 HD1;go_wp2_with (refine w_ld w.heap.size HY3.out.box Tryz.underlying35 ?_)
 refine (last_s p s x3 (HR.out.below HY3.out.below) hrl).mono ?_;rintro e x4 ⟨rfl,hb⟩;obtain ⟨u,hu⟩:∃ u,u=qS p.row:=⟨_,rfl⟩;have HE:Hid (yDF (bks ps) p k=yBH (bks ps) (jC p) (kB (bks ps) k u)):=(by unfold yDF;rw [hu]:yDF (bks ps) p k=_);rw [← hu];clear hu;have HY4:Hid (Bx3 w x4 x1.heap.size (zA p s) zF (zA (jC p) s3)):=HY3.out.more hb;have HD4:Hid (zO W.heap.size x3.heap.size x4 (jC p) s3):=HD3.out.below hb;have HL4:Hid (x3.heap.size≤x4.heap.size):=hb.size;clear hb HY3 HD3;go_wp2_with fail
 refine (rowAfter_s ps _ k u x4 (HT.out.below HY4.out.below) hpl).mono ?_;rintro e x5 ⟨v5,rfl,ho,hb⟩;obtain ⟨L,hL⟩:∃ L,L=kB (bks ps) k u:=⟨_,rfl⟩;have HLM:Hid (∀ x∈L,∃ j:Nat,x=(j:Int)∧j < ps.length):=hid (by rw [hL];intro x hx;have:=after_mem hx;rw [HBL.out] at this;exact this);have hll:(L.length:Int)≤1048576:=by have:=zDA (bks ps) k u;rw [← hL,HBL.out] at this;omega
 rw [← hL] at HE ho;have HM5:Hid (x5.ownsRow x4.heap.size 3 1 v5 L.length (zE xJ L)):=ho;have HY5:Hid (Bx3 w x5 x1.heap.size (zA p s) zF (zA (jC p) s3)):=HY4.out.more hb;have HD5:Hid (zO W.heap.size x3.heap.size x5 (jC p) s3):=HD4.out.below hb;have HL5:Hid (x4.heap.size≤x5.heap.size):=hb.size;obtain ⟨a5,c5,rfl,hr5⟩:=zW jG ho;clear hr5;clear hL ho hb HY4 HD4;obtain ⟨q,hq⟩:∃ q,q=jC p:=⟨_,rfl⟩;have HQR:Hid (q.early=[]∧q.undos=[]∧okL q.cells):=hid (by rw [hq];exact ⟨rfl,rfl,okL_back HS.out⟩);rw [← hq] at HE HY5 HD5;clear hq;go_wp2
 go_loopw [9,10,11] (fun i _ _ wr=>∃ (m:Nat) (tm:PV),m≤L.length∧i=.int .i64 (m:Int)∧Hid (Bx3 w wr x1.heap.size (zA p s) zF (zA (yBH (bks ps) q (L.take m)) tm))∧Hid (zO W.heap.size wr.heap.size wr (yBH (bks ps) q (L.take m)) tm)∧Hid (wr.ownsRow x4.heap.size 3 1 (.slice a5 L.length c5) L.length (zE xJ L))∧Hid (apart tm.early (.slice a5 L.length c5))∧Hid (x5.heap.size≤wr.heap.size)) (fun i _ _ _=>L.length - (intOf i).toNat)
 case atStart=>exact ⟨0,s3,Nat.zero_le _,rfl,HY5.out,ear_own _ _ HQR.out.1 HQR.out.2.1 (HD5.out.wide (by have:=HL4.out;have:=HL5.out;omega) (nl _)),HM5.out,yQ HD5.out.2.1.l2 (fun g e=>⟨(HM5.out.lt g e).1,(HM5.out.lt g e).2⟩) (Or.inl HL4.out),nl _⟩
 case round=>
  obtain ⟨m,tm,hm,rfl,HYm,HDm,HMm,HAm,HSm⟩:=hrel
  by_cases hlt:(m:Int) < L.length
  ·have hmn:m < L.length:=by omega
   obtain ⟨j,hj,hjn⟩:=HLM.out L[m] (List.getElem_mem hmn);have HJ:=hid hj;have q0:(0:Int)≤(m:Int):=by omega
   have j0:(0:Int)≤(j:Int):=by omega
   have j1:(j:Int) < ps.length:=by omega
   obtain ⟨a5',c5',e5,hr5⟩:=zW jG HMm.out;injection e5 with e51 _ e53
   subst e51 e53;obtain ⟨g5,o5,rfl,hg5,hc5⟩:=hr5 (by omega);have HC5:Hid (g5 < wr.heap.size∧wr.cell? ⟨g5,o5+m,none⟩=some (.int .i64 (j:Int))):=⟨hg5,by have:=hc5 m hmn 0 (by omega);rw [HJ.out] at this;simpa [xJ] using this⟩;clear hc5 hg5 hr5 hj;obtain ⟨at1,ct1,et,htr⟩:=(HT.out.below HYm.out.below).1;injection et with et1 _ et3
   subst et1 et3;obtain ⟨gt,ot,rfl,hgt,hct⟩:=htr (by omega);obtain ⟨cv,hcv⟩:∃ cv,cv=ps[j].2:=⟨_,rfl⟩;have HCV:Hid (yM wr cv 3 kL ps[j].1.2.1∧okB ps[j].1):=hid (by rw [hcv];exact ⟨(HT.out.below HYm.out.below).2 ps[j] (List.getElem_mem hjn),okT_at HK.out hjn⟩);have HTC:Hid (gt < wr.heap.size∧wr.cell? ⟨gt,ot+j * 7+2,none⟩=some cv):=⟨hgt,by rw [hcv];exact hct j hjn 2 (by omega)⟩;clear hgt hct hcv htr;obtain ⟨qm,hqm⟩:∃ qm:PE,qm=yBH (bks ps) q (L.take m):=⟨_,rfl⟩
   have HST:Hid (({ qm with cells:=yD qm.cells ps[j].1.2.1,early:=qm.early ++ [(j:Int)],undos:=qm.undos ++ jQ qm.cells ps[j].1.2.1 }:PE)=yBH (bks ps) q (L.take (m+1))∧okL qm.cells∧qm.early.length=m∧qm.undos.length≤m * 1048576∧(jQ qm.cells ps[j].1.2.1).length≤1048576):=(by
    rw [hqm];refine ⟨ear_step hmn HJ.out hjn,rowC_ok HK.out _ _ HQR.out.2.2,by unfold yBH;simp;omega,?_,?_⟩
    ·have:=earU_len HK.out (L.take m) q.cells;rw [List.length_take,Nat.min_eq_left hm] at this;exact this
    ·rw [zGI];have:=HCV.out.2.1;omega:_∧_∧_∧_∧_)
   rw [← hqm] at HYm HDm;clear hqm;go_wp2;refine zT (fun i=>decide (i < 11)) (fun x=>Bx x x1.heap.size (zA qm tm) 35∧x.cell? ⟨g5,o5+m,none⟩=some (.int .i64 (j:Int))∧x.cell? ⟨gt,ot+j * 7+2,none⟩=some cv) (by kernel_rfl) ?_;show zX Tryz.prog _ _ _ _ _ (15+1) (Array.replicate 16 false) _ _;have hS:Bx wr.drew x1.heap.size (zA qm tm) 35∧wr.drew.cell? ⟨g5,o5+m,none⟩=some (.int .i64 (j:Int))∧wr.drew.cell? ⟨gt,ot+j * 7+2,none⟩=some cv:=⟨HYm.out.out,HC5.out.2,HTC.out.2⟩;refine zD 0 27 (.pointer (some ⟨x1.heap.size,15,none⟩)) hS ?_;refine zD 1 28 tm.cells hS ?_ (hy:=by intro x hx;have c:=zB hx.1 15 tm.cells rfl;go_simp;try with_reducible rfl);refine zD 2 29 (.slice (some ⟨gt,ot,none⟩) ps.length ct0) hS ?_;refine zD 3 30 (.slice (some ⟨g5,o5,none⟩) L.length c5) hS ?_;refine zD 4 31 (.int .i64 (m:Int)) hS ?_;refine zD 5 32 (.pointer (some ⟨g5,o5+m,none⟩)) hS ?_;refine zD 6 33 (.int .i64 (j:Int)) hS ?_ (hy:=by intro x hx;have c:=hx.2.1;go_simp;try with_reducible rfl);refine zD 7 34 (.pointer (some ⟨gt,ot+j * 7,none⟩)) hS ?_;refine zD 8 35 (.pointer (some ⟨gt,ot+j * 7+2,none⟩)) hS ?_;refine zD 9 36 cv hS ?_ (hy:=by intro x hx;have c:=hx.2.2;go_simp;try with_reducible rfl);refine kJ 10 37 97 #[tm.cells,cv] ((doneBack_s qm.cells ps[j].1.2.1 tm.cells cv wr.drew (HDm.out.reads.cells.below (br _ _).drew) (HCV.out.1.below (br _ _).drew) HST.out.2.1 HCV.out.2.1 HCV.out.2.2).mono ?_);rintro e y1 ⟨w1,w2,rfl,ho,ho2,-,hb0⟩;have hb:Below wr.heap.size wr y1:=((br _ _).drew).trans hb0;have HO1:Hid (y1.ownsRow wr.heap.size 108 2 w1 (yD qm.cells ps[j].1.2.1).length (kM (yD qm.cells ps[j].1.2.1))):=ho;have HU1:Hid (y1.ownsRow wr.heap.size 110 3 w2 (jQ qm.cells ps[j].1.2.1).length (zE kK (jQ qm.cells ps[j].1.2.1))):=ho2;have HY1:Hid (Bx3 w y1 x1.heap.size (zA p s) zF (zA qm tm)):=HYm.out.more hb;have HD1:Hid (zO W.heap.size wr.heap.size y1 qm tm):=HDm.out.below hb;have HM1:Hid (y1.ownsRow x4.heap.size 3 1 (.slice (some ⟨g5,o5,none⟩) L.length c5) L.length (zE xJ L)):=zS HMm.out hb;have HZ1:Hid (wr.heap.size≤y1.heap.size):=hb.size;have HG1:Hid (y1.cell? ⟨g5,o5+m,none⟩=some (.int .i64 (j:Int))):=(by rw [hb.cell (by exact HC5.out.1)];exact HC5.out.2:y1.cell? ⟨g5,o5+m,none⟩=_);have hS1:Bx y1 x1.heap.size (zA qm tm) 35∧y1.cell? ⟨g5,o5+m,none⟩=some (.int .i64 (j:Int))∧y1.cell? ⟨gt,ot+j * 7+2,none⟩=some cv:=⟨HY1.out.out,HG1.out,by rw [hb.cell (by exact HTC.out.1)];exact HTC.out.2⟩;clear ho ho2 hb hb0 hS HTC HCV HYm HDm HMm;refine ⟨_,rfl,fun _=>hS1,?_⟩;simp only [pz];refine xM (j:=11) (e':=some 26) (v:=.tuple #[w1,w2]) rfl rfl (by kernel_rfl) (by kernel_rfl) (by kernel_rfl) (by rfl) (fun _ _ _ h=>h) (Or.inl ⟨by rfl,?_⟩) ?_
   ·intro x hx;go_simp
    try with_reducible rfl
   simp only [pz];refine xM (j:=12) (e':=some 38) (v:=w1) rfl rfl (by kernel_rfl) (by kernel_rfl) (by kernel_rfl) (by rfl) (fun _ _ _ h=>h) (Or.inl ⟨by rfl,?_⟩) ?_
   ·intro x hx;go_simp
    try with_reducible rfl
   simp only [pz];refine xM (j:=13) (e':=some 39) (v:=w2) rfl rfl (by kernel_rfl) (by kernel_rfl) (by kernel_rfl) (by rfl) (fun _ _ _ h=>h) (Or.inl ⟨by rfl,?_⟩) ?_
   ·intro x hx;go_simp
    try with_reducible rfl
   simp only [pz];refine xM (j:=14) (e':=some 10) (v:=w1) rfl rfl (by kernel_rfl) (by kernel_rfl) (by kernel_rfl) (by rfl) (fun _ _ _ h=>h) (Or.inl ⟨by rfl,?_⟩) ?_
   ·intro x hx;go_simp
    try with_reducible rfl
   simp only [pz];refine xM (j:=15) (e':=some 11) (v:=w2) rfl rfl (by kernel_rfl) (by kernel_rfl) (by kernel_rfl) (by rfl) (fun _ _ _ h=>h) (Or.inl ⟨by rfl,?_⟩) ?_
   ·intro x hx;go_simp
    try with_reducible rfl
   simp only [pz];refine zK (by kernel_rfl) ?_ _;clear hS1;go_wp2_with (refine zU rfl _ _ _ rfl x1.heap.size 15 w1 rfl rfl _ _ HY1.out.out (by kernel_rfl) (by simp [zA]) (zDH HO1.out) (zA { qm with cells:=yD qm.cells ps[j].1.2.1 } { tm with cells:=w1 }) rfl ?_;intro y2 hg hk;have HY2:Hid (Bx3 w y2 x1.heap.size (zA p s) zF (zA { qm with cells:=yD qm.cells ps[j].1.2.1 } { tm with cells:=w1 })):=HY1.out.put hg hk;have HD2:Hid (zO W.heap.size y2.heap.size y2 { qm with cells:=yD qm.cells ps[j].1.2.1 } { tm with cells:=w1 }):=(HD1.out.boxed HY1.out.out hg).setCells (Nat.le_trans HZ1.out hg.size) (nl _) (zN (World.ownsRow.kept HO1.out hg (zH HO1.out HY1.out.out (by decide))) (by have:=HL3.out;have:=HL4.out;have:=HL5.out;have:=HSm.out;omega)) (fun g e=>Nat.lt_of_lt_of_le (HO1.out.lt g e).2 hg.size) (fun g e=>Or.inr (HO1.out.lt g e).1);have HM2:Hid (y2.ownsRow x4.heap.size 3 1 (.slice (Option.some ⟨g5,o5,none⟩) L.length c5) L.length (zE xJ L)):=World.ownsRow.kept HM1.out hg (zH HM1.out HY1.out.out (by decide));have HU2:Hid (y2.ownsRow wr.heap.size 110 3 w2 (jQ qm.cells ps[j].1.2.1).length (zE kK (jQ qm.cells ps[j].1.2.1))):=World.ownsRow.kept HU1.out hg (zH HU1.out HY1.out.out (by decide));have HG2:Hid (y2.cell? ⟨g5,o5+m,none⟩=Option.some (.int .i64 (j:Int))):=(by rw [hg.cell_far ⟨g5,o5+m,none⟩ (by show g5 < y1.heap.size;have:=HC5.out.1;have:=HZ1.out;omega) (fun e=>(zH HM1.out HY1.out.out (by decide)).elim (fun h=>by cases h) (fun h=>h e))];exact HG1.out:y2.cell? ⟨g5,o5+m,none⟩=_);have HZ2:Hid (wr.heap.size≤y2.heap.size):=Nat.le_trans HZ1.out hg.size;clear hg hk HY1 HD1 HM1 HU1 HG1 HZ1 HO1)
   obtain ⟨q1,hq1⟩:∃ q1:PE,q1={ qm with cells:=yD qm.cells ps[j].1.2.1 }:=⟨_,rfl⟩;obtain ⟨t1,ht1⟩:∃ t1:PV,t1={ tm with cells:=w1 }:=⟨_,rfl⟩;have HS1:Hid (({ q1 with early:=q1.early ++ [(j:Int)],undos:=q1.undos ++ jQ qm.cells ps[j].1.2.1 }:PE)=yBH (bks ps) q (L.take (m+1))∧q1.early.length=m∧q1.undos.length≤m * 1048576):=hid (by rw [hq1];exact ⟨HST.out.1,HST.out.2.2.1,HST.out.2.2.2.1⟩);have HA1:Hid (apart t1.early (.slice (some ⟨g5,o5,none⟩) L.length c5)):=(by rw [ht1];exact HAm.out:apart t1.early _);have HUL:=hid HST.out.2.2.2.2;obtain ⟨us,hus⟩:∃ us,us=jQ qm.cells ps[j].1.2.1:=⟨_,rfl⟩;rw [← hq1,← ht1] at HY2 HD2;rw [← hus] at HS1 HUL HU2;clear hq1 ht1 hus HST HAm;refine zT (fun i=>i != 9) (fun x=>Bx x x1.heap.size (zA q1 t1) 35∧x.cell? ⟨g5,o5+m,none⟩=some (.int .i64 (j:Int))) (by kernel_rfl) ?_;show zX Tryz.prog _ _ _ _ _ (9+1) (Array.replicate 10 false) _ _;have hS:Bx y2.drew x1.heap.size (zA q1 t1) 35∧y2.drew.cell? ⟨g5,o5+m,none⟩=some (.int .i64 (j:Int)):=⟨HY2.out.out,HG2.out⟩;refine zD 0 42 (.pointer (some ⟨x1.heap.size,16,none⟩)) hS ?_;refine zD 1 43 t1.early hS ?_ (hy:=by intro x hx;have c:=zB hx.1 16 t1.early rfl;go_simp;try with_reducible rfl);refine zD 2 44 (.slice (some ⟨g5,o5,none⟩) L.length c5) hS ?_;refine zD 3 45 (.int .i64 (m:Int)) hS ?_;refine zD 4 46 (.pointer (some ⟨g5,o5+m,none⟩)) hS ?_;refine zD 5 47 (.int .i64 (j:Int)) hS ?_ (hy:=by intro x hx;have c:=hx.2;go_simp;try with_reducible rfl);obtain ⟨y3,hy3⟩:∃ y3,y3=y2.drew.alloc (.cells #[.int .i64 (j:Int)] 3):=⟨_,rfl⟩;have hby:Below y2.heap.size y2 y3:=(by rw [hy3];exact ((Below.refl y2.heap.size y2).drew).alloc (show y2.heap.size≤y2.drew.heap.size from nl _) _:Below y2.heap.size y2 y3);have HY3:Hid (Bx3 w y3 x1.heap.size (zA p s) zF (zA q1 t1)):=HY2.out.more hby;have HD3:Hid (zO W.heap.size y2.heap.size y3 q1 t1):=HD2.out.below hby;have HM3:Hid (y3.ownsRow x4.heap.size 3 1 (.slice (some ⟨g5,o5,none⟩) L.length c5) L.length (zE xJ L)):=zS HM2.out hby;have HU3:Hid (y3.ownsRow wr.heap.size 110 3 w2 us.length (zE kK us)):=zS HU2.out hby;have HZ3:Hid (y3.heap.size=y2.heap.size+1∧Bx y3 y2.heap.size #[.int .i64 (j:Int)] 3):=(by rw [hy3];exact ⟨by simp,heap_alloc_new y2.drew _⟩:y3.heap.size=y2.heap.size+1∧_);have hS3:Bx y3 x1.heap.size (zA q1 t1) 35∧y3.cell? ⟨g5,o5+m,none⟩=some (.int .i64 (j:Int)):=⟨HY3.out.out,by rw [hby.cell (by have:=HC5.out.1;have:=HZ2.out;show g5 < y2.heap.size;omega)];exact HG2.out⟩;refine p_run (s:=6) (e':=some 48) rfl rfl rfl (by kernel_rfl) (.slice (some ⟨y2.heap.size,0,none⟩) 1 1) y3 ?_ ⟨fun _=>hS3,?_⟩
   ·rw [hy3];go_simp
    try with_reducible rfl
   clear hy3 hS hby;simp only [pz];refine qO (s:=7) (e':=some 49) rfl rfl rfl (.tmp 43) (.tmp 48) 29 rfl (by kernel_rfl) W.heap.size 3 ii _ 1 8 Tryz.underlying29 ihi ihz0 ihz1 ihz2 rfl (by decide) t1.early _ _ rfl HD3.out.1.early ⟨y2.heap.size,0,none⟩ 1 1 [.int .i64 (j:Int)] rfl rfl (World.news_of_block HZ3.out.2) (by intro x hx;simp at hx;subst hx;rfl) (by decide) (by rw [HS1.out.2.1];unfold maxLen;omega) (by rw [HS1.out.2.1];omega) (by have:=HL3.out;have:=HZ3.out.1;have:=HSm.out;have:=HL4.out;have:=HL5.out;have:=HZ2.out;omega) _ HZ3.out.1 ?_;intro g2 cap2 y4 hoe hg4 hwh hlt4;have hne5:some g5 ≠ t1.early.ownBlock:=fun e=>HA1.out g5 e.symm rfl
   have HY4:Hid (Bx3 w y4 x1.heap.size (zA p s) zF (zA q1 t1)):=HY3.out.grow HD3.out.1.early (by decide) HC.out.1.size hg4;have HM4:Hid (y4.ownsRow x4.heap.size 3 1 (.slice (some ⟨g5,o5,none⟩) L.length c5) L.length (zE xJ L)):=World.ownsRow.kept HM3.out hg4 HA1.out.symm.ne;have HU4:Hid (y4.ownsRow wr.heap.size 110 3 w2 us.length (zE kK us)):=World.ownsRow.kept HU3.out hg4 (row_kind HU3.out HD3.out.1.early (by decide));have HD4:Hid (zO W.heap.size y4.heap.size y4 { q1 with early:=q1.early ++ [(j:Int)] } { t1 with early:=.slice (some ⟨g2,0,none⟩) (q1.early.length+1) cap2 }):=HD3.out.addEarly hg4 hoe (hwh.imp id (fun e=>by omega)) hlt4
   have HA4:Hid (apart (.slice (some ⟨g2,0,none⟩) (q1.early.length+1) cap2) (.slice (some ⟨g5,o5,none⟩) L.length c5)):=(by
    intro g e e2
    cases e
    rcases hwh with h | h
    ·exact HA1.out _ h e2
    ·have e2:=Option.some.inj e2;have:=HC5.out.1;have:=HZ2.out;simp at e2;omega:apart _ _)
   have HZ4:Hid (y3.heap.size≤y4.heap.size):=hg4.size;have hS4:Bx y4 x1.heap.size (zA q1 t1) 35∧y4.cell? ⟨g5,o5+m,none⟩=some (.int .i64 (j:Int)):=⟨HY4.out.out,by rw [hg4.cell_far ⟨g5,o5+m,none⟩ (by show g5 < y3.heap.size;have:=HC5.out.1;have:=HZ3.out.1;have:=HZ2.out;omega) hne5];exact hS3.2⟩;clear hoe hg4 hwh hlt4 hne5 hS3 HY3 HD3 HM3 HU3;refine ⟨fun _=>hS4,?_⟩;simp only [pz];refine zD 8 50 (.pointer (some ⟨x1.heap.size,16,none⟩)) hS4 ?_;refine kT (s:=9) (N:=x1.heap.size) (o:=16) (u:=.slice (some ⟨g2,0,none⟩) (q1.early.length+1) cap2) (old:=zA q1 t1) (new:=zA { q1 with early:=q1.early ++ [(j:Int)] } { t1 with early:=.slice (some ⟨g2,0,none⟩) (q1.early.length+1) cap2 }) rfl rfl rfl rfl (by kernel_rfl) rfl rfl hS4.1 (by kernel_rfl) (by simp [zA]) rfl rfl ?_;intro y5 hg hk;have HY5:Hid (Bx3 w y5 x1.heap.size (zA p s) zF (zA { q1 with early:=q1.early ++ [(j:Int)] } { t1 with early:=.slice (some ⟨g2,0,none⟩) (q1.early.length+1) cap2 })):=HY4.out.put hg hk;have HD5:Hid (zO W.heap.size y5.heap.size y5 { q1 with early:=q1.early ++ [(j:Int)] } { t1 with early:=.slice (some ⟨g2,0,none⟩) (q1.early.length+1) cap2 }):=(HD4.out.boxed hS4.1 hg).wide hg.size (nl _);have HM5:Hid (y5.ownsRow x4.heap.size 3 1 (.slice (some ⟨g5,o5,none⟩) L.length c5) L.length (zE xJ L)):=World.ownsRow.kept HM4.out hg (zH HM4.out hS4.1 (by decide));have HU5:Hid (y5.ownsRow wr.heap.size 110 3 w2 us.length (zE kK us)):=World.ownsRow.kept HU4.out hg (zH HU4.out hS4.1 (by decide));have HZ5:Hid (x5.heap.size≤y5.heap.size∧wr.heap.size≤y5.heap.size):=hid (by have:=HSm.out;have:=HZ2.out;have:=HZ3.out.1;have:=HZ4.out;have:=hg.size;omega);clear hg hk hS4 HY4 HD4 HM4 HU4 HY2 HD2 HM2 HU2 HG2 HZ2 HZ3 HZ4 HC5;refine ⟨fun h=>(by cases h),?_⟩;refine zK (by kernel_rfl) ?_ _;obtain ⟨q2,hq2⟩:∃ q2:PE,q2={ q1 with early:=q1.early ++ [(j:Int)] }:=⟨_,rfl⟩;obtain ⟨t2,ht2⟩:∃ t2:PV,t2={ t1 with early:=.slice (some ⟨g2,0,none⟩) (q1.early.length+1) cap2 }:=⟨_,rfl⟩;have HS2:Hid (({ q2 with undos:=q2.undos ++ us }:PE)=yBH (bks ps) q (L.take (m+1))∧q2.undos.length≤m * 1048576):=hid (by rw [hq2];exact ⟨HS1.out.1,HS1.out.2.2⟩);have HA5:Hid (apart t2.early (.slice (some ⟨g5,o5,none⟩) L.length c5)):=(by rw [ht2];exact HA4.out:apart t2.early _);rw [← hq2,← ht2] at HY5 HD5;clear hq2 ht2 HA4 HA1 HS1;have c17:=zB HY5.out.out 17 t2.undos rfl;have hb1:=HS2.out.2;have hb2:=HUL.out
   go_wp2_with (first
    | (at_builtin;refine wpList_append_w _ rfl _ _ 31 rfl W.heap.size 110 ui _ 32 Tryz.underlying31 uhi uhz0 uhz1 uhz2 rfl (by decide) yFF undoF_one t2.undos q2.undos rfl HD5.out.1.undos w2 us rfl (zW yFF HU5.out) (by unfold maxLen;omega) (by omega) (by have:=HL3.out;have:=HL4.out;have:=HL5.out;have:=HZ5.out;omega) ?_;intro v6 y6 ho6 hg6 hat6;have HY6:Hid (Bx3 w y6 x1.heap.size (zA p s) zF (zA q2 t2)):=HY5.out.grow HD5.out.1.undos (by decide) HC.out.1.size hg6;have HM6:Hid (y6.ownsRow x4.heap.size 3 1 (.slice (Option.some ⟨g5,o5,none⟩) L.length c5) L.length (zE xJ L)):=World.ownsRow.kept HM5.out hg6 (row_kind HM5.out HD5.out.1.undos (by decide));have HD6:Hid (zO W.heap.size y6.heap.size y6 { q2 with undos:=q2.undos ++ us } { t2 with undos:=v6 }):=HD5.out.addUndos hg6 ho6 hat6;have HV6:Hid (v6.oneCell'=true):=zDH ho6;have HZ6:Hid (x5.heap.size≤y6.heap.size):=Nat.le_trans HZ5.out.1 hg6.size;clear ho6 hg6 hat6 HY5 HD5 HM5 HU5 c17)
    | (refine zU rfl _ _ _ rfl x1.heap.size 17 v6 rfl rfl _ _ HY6.out.out (by kernel_rfl) (by simp [zA]) HV6.out (zA { q2 with undos:=q2.undos ++ us } { t2 with undos:=v6 }) rfl ?_;intro y7 hg hk;have HY7:Hid (Bx3 w y7 x1.heap.size (zA p s) zF (zA { q2 with undos:=q2.undos ++ us } { t2 with undos:=v6 })):=HY6.out.put hg hk;have HD7:Hid (zO W.heap.size y7.heap.size y7 { q2 with undos:=q2.undos ++ us } { t2 with undos:=v6 }):=(HD6.out.boxed HY6.out.out hg).wide hg.size (nl _);have HM7:Hid (y7.ownsRow x4.heap.size 3 1 (.slice (Option.some ⟨g5,o5,none⟩) L.length c5) L.length (zE xJ L)):=World.ownsRow.kept HM6.out hg (zH HM6.out HY6.out.out (by decide));have HZ7:Hid (x5.heap.size≤y7.heap.size):=Nat.le_trans HZ6.out hg.size;clear hg hk HY6 HD6 HM6 HZ6))
   rw [HS2.out.1] at HY7 HD7
   go_roundw
   case rel=>exact ⟨m+1,{ t2 with undos:=v6 },by omega,by go_num,HY7.out,HD7.out,HM7.out,HA5.out,HZ7.out⟩
   case measure=>simp [intOf];omega
  ·have hml:m=L.length:=by omega
   subst hml;rw [List.take_length] at HYm HDm;obtain ⟨QQ,hQQ⟩:∃ QQ,QQ=yBH (bks ps) q L:=⟨_,rfl⟩;rw [← hQQ] at HYm HDm HE;clear hQQ
   go_wp2_with (first
    | (refine w_ld x1.heap.size HYm.out.out Tryz.underlying35 ?_)
    | (refine w_st (w.heap.size+1) (zA QQ tm) HYm.out.zero (zJ HDm.out.1) ?_;intro z hg hk hz;have HBz:Hid (Below w.heap.size w z):=HYm.out.below.grown hg HYm.out.below.size (fun k hk=>by cases hk;omega);have HKz:Hid (Bx z (w.heap.size+1) (zA QQ tm) 35):=hk;have HFz:Hid (zO W.heap.size z.heap.size z QQ tm):=(HDm.out.boxed HYm.out.zero hg).wide hg.size (nl _);clear hg hk hz HYm HDm))
   refine bodyPost_ret (v:=.agg (zA QQ tm)) (results_cell_row Tryz.results54 _ _ (w.heap.size+1) 35 _ (0,0) _ rfl HKz.out Tryz.underlying35 rfl (by kernel_rfl)) rfl ?_;rw [HE.out];exact ⟨_,rfl,HFz.out.low HC.out.1.size,HBz.out⟩
end Go.Proofs.YtdopefimjabigadGreat
