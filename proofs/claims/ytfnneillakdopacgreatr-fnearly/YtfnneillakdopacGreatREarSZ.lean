/-
  A text of ours: EarS.
-/
import Derived.Test.YtfnneillakdopacGreatRK1
import Derived.Test.YtfnneillakdopacGreatRThrSZ
import Derived.Test.YtfnneillakdopacGreatRK5
import Derived.Maps.AppendAt
set_option maxRecDepth 100000
set_option maxHeartbeats 32000000
namespace Go.Proofs.YtfnneillakdopacGreatR
open _root_.Go.Proofs.Tryz
open Go.Value renaming int->I,ownBlock->Ae
open Go.IntKind renaming i64->U
open Option renaming none->Aa,some->Ab
open Nat renaming le_trans->Ac
open Go.World.ownsRow renaming kept->Ad
open Go.RowKit Num
variable {hi lo:Nat} {s:PV}
def yDE (t:List BK):CL->List Int->List UN
 | _,[]=>[]
 | cs,k :: l=>jQ cs (kN t k) ++ yDE t (yD cs (kN t k)) l
theorem earU_take (t:List BK) (row:List Int):∀ (cs:CL) (m:Nat) (h:m < row.length),yDE t cs (row.take (m+1))=yDE t cs (row.take m) ++ jQ (zGF t cs (row.take m)) (kN t row[m]):=by
 induction row with
 | nil=>intro cs m h;simp at h
 | cons k row ih=>
  intro cs m h
  cases m with
  | zero=>simp [yDE,zGF]
  | succ m=>
   have:=ih (yD cs (kN t k)) m (by simpa using h);simp only [List.take_succ_cons,yDE,zGF,List.getElem_cons_succ,List.append_assoc];rw [this]
theorem earU_len {t:List BK} (ht:okT t):∀ (l:List Int) (cs:CL),(yDE t cs l).length<=l.length * 1048576
 | [],_=>by simp [yDE]
 | k :: l,cs=>by
  have h1:=earU_len ht l (yD cs (kN t k));have h2:=(cmdsAt_ok ht k).2;simp only [yDE,List.length_append,zGI,List.length_cons];omega
def yBH (t:List BK) (p:PE) (l:List Int):PE:={ p with cells:=zGF t p.cells l,early:=l,undos:=yDE t p.cells l }
def yDF (t:List BK) (p:PE) (k:Int):PE:=yBH t (jC p) (kB t k (qS p.row))
theorem ear_own {w:World} {q:PE} (t:List BK) (L:List Int) (he:q.early=[]) (hu:q.undos=[]) (h:zO lo hi w q s):zO lo hi w (yBH t q (L.take 0)) s:=h.other rfl (by simp [yBH,zGF]) (by simp [yBH,he]) (by simp [yBH,yDE,hu]) rfl rfl
theorem ear_step {ps:TL} {q:PE} {L:List Int} {m j:Nat} (hm:m < L.length) (hj:L[m]=(j:Int)) (hjn:j < ps.length) :
  ({ yBH (bks ps) q (L.take m) with cells:=yD (yBH (bks ps) q (L.take m)).cells ps[j].1.2.1,early:=(yBH (bks ps) q (L.take m)).early ++ [(j:Int)],undos:=(yBH (bks ps) q (L.take m)).undos ++ jQ (yBH (bks ps) q (L.take m)).cells ps[j].1.2.1 }:PE)=yBH (bks ps) q (L.take (m+1)):=by
 have hc:kN (bks ps) (j:Int)=ps[j].1.2.1:=by unfold kN;rw [if_pos ⟨by omega,by rw [yO];omega⟩];simp [bks,hjn]
 have hr:=rowC_take (bks ps) L q.cells m hm;have hu:=earU_take (bks ps) L q.cells m hm;rw [hj,hc] at hr hu;have ht:L.take (m+1)=L.take m ++ [(j:Int)]:=by rw [List.take_add_one,List.getElem?_eq_getElem hm,hj];rfl
 unfold yBH;simp only [hr,hu];rw [ht]
theorem row_kind {w:World} {b1 b2 m1 m2 n1 n2:Nat} {e1 e2:TypeId} {v1 v2:Value} {xs1 xs2:List Value} (h1:w.ownsRow b1 e1 m1 v1 n1 xs1) (h2:w.ownsRow b2 e2 m2 v2 n2 xs2) (he:e1 ≠ e2):v1.ownBlock=none∨v1.ownBlock ≠ v2.ownBlock:=by
 obtain ⟨_,⟨rfl,_⟩ | ⟨g1,h,g,rfl,_,c,_⟩⟩:=h1
 ·exact Or.inl rfl
 ·refine Or.inr fun e=>?_
  obtain ⟨_,⟨rfl,_⟩ | ⟨g2,f,d,rfl,_,a,_⟩⟩:=h2
  ·simp [Ae] at e
  ·have:g1=g2:=by simpa [Ae] using e
   subst this;rw [c] at a;injection a with a
   injection a with _ b
   exact he b
theorem zO.addEarly {y x:World} {p:PE} {j:Int} {g cap:Nat} (h:zO lo hi y p s) (hg:y.grownBy x s.early.ownBlock) (ho:x.ownsRow lo 3 1 (.slice (Ab ⟨g,0,Aa⟩) (p.early.length+1) cap) (p.early.length+1) (zE xJ p.early ++ [I U j])) (hw:s.early.ownBlock=some g∨hi<=g) (hl:g < x.heap.size) :
  zO lo x.heap.size x { p with early:=p.early ++ [j] } { s with early:=.slice (Ab ⟨g,0,Aa⟩) (p.early.length+1) cap }:=by
 have ha:=h.2.1;refine ⟨⟨Ad h.1.row hg ha.a02.ne,Ad h.1.cells hg ha.a12.ne,?_,Ad h.1.undos hg ha.a32.ne,Ad h.1.votes hg ha.a42.ne,Ad h.1.news hg ha.a52.ne⟩,ha.setEarly (Ac h.2.2 hg.size) (fun g' e=>⟨(ho.lt g' e).1,by cases e;exact hl⟩) (fun g' e=>by cases e;exact hw),nl _⟩;rw [zY]
 simpa [xJ,zE] using ho
theorem zO.addUndos {y x:World} {p:PE} {us:List UN} {v:Value} (h:zO lo hi y p s) (hg:y.grownBy x s.undos.ownBlock) (ho:x.ownsRow lo 95 3 v (p.undos ++ us).length (zE kK (p.undos ++ us))) (hw:v.ownBlock=s.undos.ownBlock∨v.ownBlock=some y.heap.size) :
  zO lo x.heap.size x { p with undos:=p.undos ++ us } { s with undos:=v }:=by
 have ha:=h.2.1
 exact ⟨⟨Ad h.1.row hg ha.a03.ne,Ad h.1.cells hg ha.a13.ne,Ad h.1.early hg ha.a23.ne,ho,Ad h.1.votes hg ha.a43.ne,Ad h.1.news hg ha.a53.ne⟩,ha.setUndos (Ac h.2.2 hg.size) (fun g e=>⟨(ho.lt g e).1,(ho.lt g e).2⟩) (fun g e=>by
  rcases hw with h1 | h1
  ·exact Or.inl (h1.symm.trans e)
  ·rw [h1] at e;have e:=Option.some.inj e;exact Or.inr (by have:=h.2.2;omega)),nl _⟩
theorem wpList_append_w {α:Type} {f:α->List Value} {m:Nat} (w:World) {ops:Array Oper} {rest:List Oper} {o:Oper} {a:Act} {Q:Exit->Act->World->Prop} (hgd:o.guard=none) (s x:Operand) (t:TypeId)
  (ho:o.op=.call { callee:=.builtin .append,args:=#[s,x],argTypes:=#[t,t] })
  (base:Nat) (e:TypeId) (i:TypeInfo) (z:Value) (bytes:Nat) (ht:prog.underlying t=Ab (.slice e)) (hi:prog.info? e=some i) (hz:i.zero=some z) (hsize:i.size=m) (hby:i.bytes=bytes) (hzs:z.cells.size=m) (hsz:0 < m)
  (hm:∀ y,(f y).length=m) (hone:∀ y,∀ u∈f y,u.oneCell'=true)
  (v:Value) (xs:List α) (hs:a.eval s=v) (hown:w.ownsRow base e m v xs.length (zE f xs))
  (src:Value) (cs:List α) (hx:a.eval x=src) (hsrc:yM w src m f cs) (h63:xs.length+cs.length<=maxLen) (hbytes:(xs.length+cs.length) * bytes<=140737488355328) (hbase:base<=w.heap.size)
  (h:∀ v' w',w'.ownsRow base e m v' (xs ++ cs).length (zE f (xs ++ cs))->w.grownBy w' v.ownBlock->(v'.ownBlock=v.ownBlock∨v'.ownBlock=some w.heap.size)->wpList prog ops Q rest (a.put o.dst v') w'):wpList prog ops Q (o :: rest) a w:=by
 obtain ⟨ad,cap,rfl,hr⟩:=hsrc
 cases ad with
 | none=>
  have h0:cs.length=0:=by
   rcases Nat.eq_zero_or_pos cs.length with h | h
   ·exact h
   ·obtain ⟨_,_,e,_⟩:=hr h;cases e
  obtain rfl:cs=[]:=List.eq_nil_of_length_eq_zero h0;refine wpList_plain hgd fun K' l=>?_
  have d:=yBC (ty:=o.type) ht hi w hown cap;unfold Oper.wp execOp;simp only [ho,resolve,invoke,builtin,Sem.run_bind,Sem.run_pure,Result.andThen_ok,List.map_toArray,List.map_cons,List.map_nil,hs,hx,List.length_nil,d];exact l _ _ (h v w (by simpa using hown) ⟨rfl,rfl,rfl,nl _,fun _ _ _=>rfl⟩ (Or.inl rfl))
 | some ad=>
  refine wpList_append_own_at _ hgd s x t ho base e i z m bytes ht hi hz hsize hby hzs hsz v _ _ hs hown ad cs.length cap (zE f cs) hx (jX hm cs) ?_ (fun u hu=>?_) h63 hbytes hbase fun v' w' h1 h2 _ h4=>h v' w' (by rw [List.length_append,zY];exact h1) h2 h4
  ·intro j u hj
   have c:j < cs.length * m:=by
    rw [<- jX hm];exact (List.getElem?_eq_some_iff.1 hj).1
   have h0:0 < cs.length:=by
    rcases Nat.eq_zero_or_pos cs.length with h | h
    ·rw [h] at c;omega
    ·exact h
   obtain ⟨g,b,k,hg,hc⟩:=hr h0
   cases k
   have hp:(⟨g,b,Aa⟩:Addr).add j=⟨g,b+j,Aa⟩:=by unfold Addr.add;split <;> simp_all
   have hd:j / m < cs.length:=Nat.div_lt_of_lt_mul (by rw [Nat.mul_comm];exact c);have hr:j % m < m:=Nat.mod_lt _ hsz;have e:j=j / m * m+j % m:=by rw [Nat.mul_comm];exact (Nat.div_add_mod j m).symm
   have hf:=jY hm cs (j / m) hd (j % m) hr;rw [<- e] at hf;rw [hp,show b+j=b+j / m * m+j % m by omega,hc (j / m) hd (j % m) hr,<- hf,hj]
  ·obtain ⟨y,_,hy⟩:=List.mem_flatMap.1 hu;exact hone y u hy
theorem tooEarly_s (ps:TL) (v:Value) (p:PE) (s:PV) (k:Int) (w:World) (hT:jB w v ps) (hk:okT (bks ps)) (hR:jS w p s) (hs:yC p) :
  Calls prog 32 #[v,yZ p s,I U k] w fun e w'=>∃ s',e=.returned (yZ (yDF (bks ps) p k) s')/\zO w.heap.size w'.heap.size w' (yDF (bks ps) p k) s'/\Be w w':=by
 have HT:=hid hT;have HK:=hid hk;have HR:=hid hR;have HS:=hid hs;have c0:(ps.length:Int)<=1048576:=by have:=hk.1;rw [yO] at this;exact this
 have db:=hs.row;have cs:Hid ((bks ps).length=ps.length):=yO ps;obtain ⟨ii,cy,cp,cg,cw⟩:=info_parts infoIntL;obtain ⟨ui,c4,b9,cl,cj⟩:=info_parts infoUndo;obtain ⟨dl,c6,rfl,-⟩:=HT.1;clear hT hk hR hs;obtain ⟨W,hW⟩:=nw ((w.alloc (.cells (zA p s) 35)).alloc (.cells zF 35))
 have HC:Hid (Be w W/\Bx W w.heap.size (zA p s) 35/\Bx W (w.heap.size+1) zF 35):=by
  rw [hW];exact ⟨ba (ba (br _ _) _) _,qK w _ _⟩
 have aq:Hid (W.heap.size=w.heap.size+1+1):=hid (by rw [hW];simp);unfold zF at hW;go_enter func32,ntmps32;go_wp2_with (rw [<- hW];clear hW;refine w_ld w.heap.size HC.2.1 underlying35 ?_)
 refine (zHJ p s W (HR.below HC.1) HS).mono ?_;rintro e x1 ⟨s1,rfl,ho,hb⟩;have f:Hid (zO W.heap.size x1.heap.size x1 p s1):=ho.toD;have o:Hid (Be W x1):=hb;clear ho hb
 go_wp2_with (first
  | (refine w_st x1.heap.size (zA p s1) (heap_alloc_new x1 _) (zJ f.1) ?_;intro y1 hg hk hz;have aj:Be x1 y1:=yB hg;have a:Hid (Bx3 w y1 x1.heap.size (zA p s) zF (zA p s1)):=⟨bt HC.1 (bt o aj),(aj.block _ (by have:=o.size;have:=aq.out;omega)).trans ((o.block _ (by have:=aq.out;omega)).trans HC.2.1),(aj.block _ (by have:=o.size;have:=aq.out;omega)).trans ((o.block _ (by have:=aq.out;omega)).trans HC.2.2),hk,(by have:=o.size;have:=aq.out;omega)⟩;have ar:Hid (zO W.heap.size x1.heap.size y1 p s1):=f.below aj;clear hg hk hz aj f)
  | (refine w_ld w.heap.size a.box underlying35 ?_))
 refine (back_s p s1 x1.heap.size W.heap.size x1.heap.size y1 ar a.out.out (by have:=o.size;have:=a.lt;omega) HS).mono ?_;rintro e x3 ⟨⟨r0,rfl⟩,hg,s3,ca,cq⟩;have bo:=hid (qad3 o.out.size a.out.lt hg.size);have r:Hid (Bx3 w x3 x1.heap.size (zA p s) zF (zA (jC p) s3)):=a.put hg ca;have y:Hid (zO W.heap.size x3.heap.size x3 (jC p) s3):=cq;clear hg ca cq a ar;go_wp2_with (refine w_ld w.heap.size r.box underlying35 ?_)
 refine (last_s p s x3 (HR.below r.below) db).mono ?_;rintro e x4 ⟨rfl,hb⟩;obtain ⟨u,hu⟩:=nw (qS p.row);have HE:Hid (yDF (bks ps) p k=yBH (bks ps) (jC p) (kB (bks ps) k u)):=(by unfold yDF;rw [hu]:yDF (bks ps) p k=_);rw [<- hu];clear hu;have ae:Hid (Bx3 w x4 x1.heap.size (zA p s) zF (zA (jC p) s3)):=r.more hb;have am:Hid (zO W.heap.size x3.heap.size x4 (jC p) s3):=y.below hb;have ap:Hid (x3.heap.size<=x4.heap.size):=hb.size;clear hb r y;go_wp2_with fail
 refine (rowAfter_s ps _ k u x4 (HT.below ae.below) c0).mono ?_;rintro e x5 ⟨v5,rfl,ho,hb⟩;obtain ⟨L,hL⟩:=nw (kB (bks ps) k u);have c2:Hid (∀ x∈L,∃ j:Nat,x=(j:Int)/\j < ps.length):=hid (by rw [hL];intro x hx;have:=after_mem hx;rw [cs.out] at this;exact this);have dm:(L.length:Int)<=1048576:=by have:=zDA (bks ps) k u;rw [<- hL,cs.out] at this;omega
 rw [<- hL] at HE ho;have aa:Hid (x5.ownsRow x4.heap.size 3 1 v5 L.length (zE xJ L)):=ho;have ad:Hid (Bx3 w x5 x1.heap.size (zA p s) zF (zA (jC p) s3)):=ae.more hb;have l:Hid (zO W.heap.size x3.heap.size x5 (jC p) s3):=am.below hb;have az:Hid (x4.heap.size<=x5.heap.size):=hb.size;obtain ⟨a5,c5,rfl,a0⟩:=zW jG ho;clear a0;clear hL ho hb ae am;obtain ⟨q,hq⟩:=nw (jC p);have a7:Hid (q.early=[]/\q.undos=[]/\okL q.cells):=hid (by rw [hq];exact ⟨rfl,rfl,okL_back HS⟩);rw [<- hq] at HE ad l;clear hq;go_wp2
 go_loopw [9,10,11] (fun i _ _ wr=>∃ (m:Nat) (tm:PV),m<=L.length/\i=I U (m:Int)/\Hid (Bx3 w wr x1.heap.size (zA p s) zF (zA (yBH (bks ps) q (L.take m)) tm))/\Hid (zO W.heap.size wr.heap.size wr (yBH (bks ps) q (L.take m)) tm)/\Hid (wr.ownsRow x4.heap.size 3 1 (.slice a5 L.length c5) L.length (zE xJ L))/\Hid (apart tm.early (.slice a5 L.length c5))/\Hid (x5.heap.size<=wr.heap.size)) (fun i _ _ _=>L.length - (intOf i).toNat)
 case atStart=>exact ⟨0,s3,Nat.zero_le _,rfl,ad,ear_own _ _ a7.1 a7.2.1 (l.wide (by have:=ap.out;have:=az.out;omega) (nl _)),aa,yQ l.2.1.l2 (fun g e=>⟨(aa.lt g e).1,(aa.lt g e).2⟩) (Or.inl ap),nl _⟩
 case round=>
  obtain ⟨m,tm,hm,rfl,b,n,bu,cc,bk⟩:=hrel
  by_cases hlt:(m:Int) < L.length
  ·have bg:m < L.length:=by omega
   obtain ⟨j,hj,av⟩:=c2 L[m] (List.getElem_mem bg);have HJ:=hid hj;have q0:(0:Int)<=(m:Int):=by omega
   have j0:(0:Int)<=(j:Int):=by omega
   have j1:(j:Int) < ps.length:=by omega
   obtain ⟨dk,dj,e5,a0⟩:=zW jG bu;injection e5 with di _ da
   subst di da;obtain ⟨g5,o5,rfl,b0,ch⟩:=a0 (by omega);have t:Hid (g5 < wr.heap.size/\wr.cell? ⟨g5,o5+m,Aa⟩=Ab (I U (j:Int))):=⟨b0,by have:=ch m bg 0 (by omega);rw [HJ.out] at this;simpa [xJ] using this⟩;clear ch b0 a0 hj;obtain ⟨dq,dn,et,b5⟩:=(HT.below b.below).1;injection et with df _ c1
   subst df c1;obtain ⟨gt,ot,rfl,cm,cn⟩:=b5 (by omega);obtain ⟨cv,bf⟩:=nw (ps[j].2);have al:Hid (yM wr cv 3 kL ps[j].1.2.1/\okB ps[j].1):=hid (by rw [bf];exact ⟨(HT.below b.below).2 ps[j] (List.getElem_mem av),okT_at HK av⟩);have ay:Hid (gt < wr.heap.size/\wr.cell? ⟨gt,ot+j * 7+2,Aa⟩=some cv):=⟨cm,by rw [bf];exact cn j av 2 (by omega)⟩;clear cm cn bf b5;obtain ⟨qm,bl⟩:∃ qm:PE,qm=yBH (bks ps) q (L.take m):=⟨_,rfl⟩
   have ak:Hid (({ qm with cells:=yD qm.cells ps[j].1.2.1,early:=qm.early ++ [(j:Int)],undos:=qm.undos ++ jQ qm.cells ps[j].1.2.1 }:PE)=yBH (bks ps) q (L.take (m+1))/\okL qm.cells/\qm.early.length=m/\qm.undos.length<=m * 1048576/\(jQ qm.cells ps[j].1.2.1).length<=1048576):=(by
    rw [bl];refine ⟨ear_step bg HJ av,rowC_ok HK _ _ a7.2.2,by unfold yBH;simp;omega,?_,?_⟩
    ·have:=earU_len HK (L.take m) q.cells;rw [List.length_take,Nat.min_eq_left hm] at this;exact this
    ·rw [zGI];have:=al.2.1;omega:_/\_/\_/\_/\_)
   rw [<- bl] at b n;clear bl;go_wp2;refine p_rg (fun i=>decide (i < 11)) (fun x=>Bx x x1.heap.size (zA qm tm) 35/\x.cell? ⟨g5,o5+m,Aa⟩=Ab (I U (j:Int))/\x.cell? ⟨gt,ot+j * 7+2,Aa⟩=some cv) ?_;show zX prog _ _ _ _ _ (15+1) (Array.replicate 16 false) _ _;have hS:Bx wr.drew x1.heap.size (zA qm tm) 35/\wr.drew.cell? ⟨g5,o5+m,Aa⟩=Ab (I U (j:Int))/\wr.drew.cell? ⟨gt,ot+j * 7+2,Aa⟩=some cv:=⟨b.out.out,t.2,ay.2⟩;refine p_pt 0 27 x1.heap.size 15 hS ?_;refine zD 1 28 tm.cells hS ?_ (hy:=by intro x hx;have c:=zB hx.1 15 tm.cells rfl;go_simp;try rfl);refine zD 2 29 (.slice (Ab ⟨gt,ot,Aa⟩) ps.length c6) hS ?_;refine zD 3 30 (.slice (Ab ⟨g5,o5,Aa⟩) L.length c5) hS ?_;refine zD 4 31 (I U (m:Int)) hS ?_;refine p_pt 5 32 g5 (o5+m) hS ?_;refine zD 6 33 (I U (j:Int)) hS ?_ (hy:=by intro x hx;have c:=hx.2.1;go_simp;try rfl);refine p_pt 7 34 gt (ot+j * 7) hS ?_;refine p_pt 8 35 gt (ot+j * 7+2) hS ?_;refine zD 9 36 cv hS ?_ (hy:=by intro x hx;have c:=hx.2.2;go_simp;try rfl);refine kJ 10 37 73 #[tm.cells,cv] ((doneBack_s qm.cells ps[j].1.2.1 tm.cells cv wr.drew (n.reads.cells.below (br _ _).drew) (al.1.below (br _ _).drew) ak.2.1 al.2.1 al.2.2).mono ?_);rintro e y1 ⟨w1,w2,rfl,ho,b6,-,ck⟩;have hb:=(bw wr).trans ck;have f:Hid (y1.ownsRow wr.heap.size 92 2 w1 (yD qm.cells ps[j].1.2.1).length (kM (yD qm.cells ps[j].1.2.1))):=ho;have bb:Hid (y1.ownsRow wr.heap.size 95 3 w2 (jQ qm.cells ps[j].1.2.1).length (zE kK (jQ qm.cells ps[j].1.2.1))):=b6;have a:Hid (Bx3 w y1 x1.heap.size (zA p s) zF (zA qm tm)):=b.more hb;have ar:Hid (zO W.heap.size wr.heap.size y1 qm tm):=n.below hb;have a2:Hid (y1.ownsRow x4.heap.size 3 1 (.slice (Ab ⟨g5,o5,Aa⟩) L.length c5) L.length (zE xJ L)):=zS bu hb;have a1:Hid (wr.heap.size<=y1.heap.size):=hb.size;have bd:Hid (y1.cell? ⟨g5,o5+m,Aa⟩=Ab (I U (j:Int))):=(by rw [hb.cell (by exact t.out.1)];exact t.out.2:y1.cell? ⟨g5,o5+m,Aa⟩=_);have cx:Bx y1 x1.heap.size (zA qm tm) 35/\y1.cell? ⟨g5,o5+m,Aa⟩=Ab (I U (j:Int))/\y1.cell? ⟨gt,ot+j * 7+2,Aa⟩=some cv:=⟨a.out.out,bd,by rw [hb.cell (by exact ay.out.1)];exact ay.out.2⟩;clear ho b6 hb ck hS ay al b n bu;refine ⟨_,rfl,fun _=>cx,?_⟩;simp only [pz];refine p_pu 11 26 (.tuple #[w1,w2]) ?_ ?_
   ·intro x hx;go_simp
    try rfl
   simp only [pz];refine p_pu 12 38 w1 ?_ ?_
   ·intro x hx;go_simp
    try rfl
   simp only [pz];refine p_pu 13 39 w2 ?_ ?_
   ·intro x hx;go_simp
    try rfl
   simp only [pz];refine p_pu 14 10 w1 ?_ ?_
   ·intro x hx;go_simp
    try rfl
   simp only [pz];refine p_pu 15 11 w2 ?_ ?_
   ·intro x hx;go_simp
    try rfl
   simp only [pz];refine p_do ?_;clear cx;go_wp2_with (refine w_sc x1.heap.size 15 w1 a.out.out (by simp [zA]) (zDH f) (zA { qm with cells:=yD qm.cells ps[j].1.2.1 } { tm with cells:=w1 }) rfl ?_;intro y2 hg hk;have aw:Hid (Bx3 w y2 x1.heap.size (zA p s) zF (zA { qm with cells:=yD qm.cells ps[j].1.2.1 } { tm with cells:=w1 })):=a.put hg hk;have a8:Hid (zO W.heap.size y2.heap.size y2 { qm with cells:=yD qm.cells ps[j].1.2.1 } { tm with cells:=w1 }):=(ar.boxed a.out.out hg).setCells (Ac a1 hg.size) (nl _) (zN (Ad f hg (zH f a.out.out (by decide))) (by have:=bo.out;have:=ap.out;have:=az.out;have:=bk.out;omega)) (fun g e=>Nat.lt_of_lt_of_le (f.lt g e).2 hg.size) (fun g e=>Or.inr (f.lt g e).1);have cd:Hid (y2.ownsRow x4.heap.size 3 1 (.slice (Option.some ⟨g5,o5,Aa⟩) L.length c5) L.length (zE xJ L)):=Ad a2 hg (zH a2 a.out.out (by decide));have a9:Hid (y2.ownsRow wr.heap.size 95 3 w2 (jQ qm.cells ps[j].1.2.1).length (zE kK (jQ qm.cells ps[j].1.2.1))):=Ad bb hg (zH bb a.out.out (by decide));have bq:Hid (y2.cell? ⟨g5,o5+m,Aa⟩=Option.some (I U (j:Int))):=(by rw [hg.cell_far ⟨g5,o5+m,Aa⟩ (by show g5 < y1.heap.size;have:=t.1;have:=a1.out;omega) (fun e=>(zH a2 a.out.out (by decide)).elim (fun h=>by cases h) (fun h=>h e))];exact bd.out:y2.cell? ⟨g5,o5+m,Aa⟩=_);have ai:Hid (wr.heap.size<=y2.heap.size):=Ac a1 hg.size;clear hg hk a ar a2 bb bd a1 f)
   obtain ⟨q1,bc⟩:∃ q1:PE,q1={ qm with cells:=yD qm.cells ps[j].1.2.1 }:=⟨_,rfl⟩;obtain ⟨t1,bn⟩:∃ t1:PV,t1={ tm with cells:=w1 }:=⟨_,rfl⟩;have af:Hid (({ q1 with early:=q1.early ++ [(j:Int)],undos:=q1.undos ++ jQ qm.cells ps[j].1.2.1 }:PE)=yBH (bks ps) q (L.take (m+1))/\q1.early.length=m/\q1.undos.length<=m * 1048576):=hid (by rw [bc];exact ⟨ak.1,ak.2.2.1,ak.2.2.2.1⟩);have au:Hid (apart t1.early (.slice (Ab ⟨g5,o5,Aa⟩) L.length c5)):=(by rw [bn];exact cc.out:apart t1.early _);have b2:=hid ak.out.2.2.2.2;obtain ⟨us,b1⟩:=nw (jQ qm.cells ps[j].1.2.1);rw [<- bc,<- bn] at aw a8;rw [<- b1] at af b2 a9;clear bc bn b1 ak cc;refine p_rg (fun i=>i != 9) (fun x=>Bx x x1.heap.size (zA q1 t1) 35/\x.cell? ⟨g5,o5+m,Aa⟩=Ab (I U (j:Int))) ?_;show zX prog _ _ _ _ _ (9+1) (Array.replicate 10 false) _ _;have hS:Bx y2.drew x1.heap.size (zA q1 t1) 35/\y2.drew.cell? ⟨g5,o5+m,Aa⟩=Ab (I U (j:Int)):=⟨aw.out.out,bq⟩;refine p_pt 0 42 x1.heap.size 16 hS ?_;refine zD 1 43 t1.early hS ?_ (hy:=by intro x hx;have c:=zB hx.1 16 t1.early rfl;go_simp;try rfl);refine zD 2 44 (.slice (Ab ⟨g5,o5,Aa⟩) L.length c5) hS ?_;refine zD 3 45 (I U (m:Int)) hS ?_;refine p_pt 4 46 g5 (o5+m) hS ?_;refine zD 5 47 (I U (j:Int)) hS ?_ (hy:=by intro x hx;have c:=hx.2;go_simp;try rfl);obtain ⟨y3,ax⟩:=nw (y2.drew.alloc (.cells #[I U (j:Int)] 3));have ah:Be y2 y3:=(by rw [ax];exact ((Below.refl y2.heap.size y2).drew).alloc (show y2.heap.size<=y2.drew.heap.size from nl _) _:Be y2 y3);have r:Hid (Bx3 w y3 x1.heap.size (zA p s) zF (zA q1 t1)):=aw.more ah;have y:Hid (zO W.heap.size y2.heap.size y3 q1 t1):=a8.below ah;have b8:Hid (y3.ownsRow x4.heap.size 3 1 (.slice (Ab ⟨g5,o5,Aa⟩) L.length c5) L.length (zE xJ L)):=zS cd ah;have bm:Hid (y3.ownsRow wr.heap.size 95 3 w2 us.length (zE kK us)):=zS a9 ah;have ag:Hid (y3.heap.size=y2.heap.size+1/\Bx y3 y2.heap.size #[I U (j:Int)] 3):=(by rw [ax];exact ⟨by simp,heap_alloc_new y2.drew _⟩:y3.heap.size=y2.heap.size+1/\_);have bi:Bx y3 x1.heap.size (zA q1 t1) 35/\y3.cell? ⟨g5,o5+m,Aa⟩=Ab (I U (j:Int)):=⟨r.out.out,by rw [ah.cell (by have:=t.1;have:=ai.out;show g5 < y2.heap.size;omega)];exact bq.out⟩;refine p_run (s:=6) (e':=some 48) rfl rfl rfl (by kernel_rfl) (.slice (Ab ⟨y2.heap.size,0,Aa⟩) 1 1) y3 ?_ ⟨fun _=>bi,?_⟩
   ·rw [ax];go_simp
    try rfl
   clear ax hS ah;simp only [pz];refine qO (s:=7) (e':=some 49) rfl rfl rfl (.tmp 43) (.tmp 48) 29 rfl (by kernel_rfl) W.heap.size 3 ii _ 1 8 underlying29 cy cp cg cw rfl (by decide) t1.early _ _ rfl y.1.early ⟨y2.heap.size,0,Aa⟩ 1 1 [I U (j:Int)] rfl rfl (World.news_of_block ag.2) (by intro x hx;simp at hx;subst hx;rfl) (by decide) (by rw [af.out.2.1];unfold maxLen;omega) (by rw [af.out.2.1];omega) (by have:=bo.out;have:=ag.1;have:=bk.out;have:=ap.out;have:=az.out;have:=ai.out;omega) _ ag.1 ?_;intro g2 d y4 ct ac bh a3;have a6:some g5 ≠ t1.early.ownBlock:=fun e=>au g5 e.symm rfl
   have ae:Hid (Bx3 w y4 x1.heap.size (zA p s) zF (zA q1 t1)):=r.grow y.1.early (by decide) HC.1.size ac;have bz:Hid (y4.ownsRow x4.heap.size 3 1 (.slice (Ab ⟨g5,o5,Aa⟩) L.length c5) L.length (zE xJ L)):=Ad b8 ac au.symm.ne;have be:Hid (y4.ownsRow wr.heap.size 95 3 w2 us.length (zE kK us)):=Ad bm ac (row_kind bm y.1.early (by decide));have am:Hid (zO W.heap.size y4.heap.size y4 { q1 with early:=q1.early ++ [(j:Int)] } { t1 with early:=.slice (Ab ⟨g2,0,Aa⟩) (q1.early.length+1) d }):=y.addEarly ac ct (bh.imp id (fun e=>by omega)) a3
   have co:Hid (apart (.slice (Ab ⟨g2,0,Aa⟩) (q1.early.length+1) d) (.slice (Ab ⟨g5,o5,Aa⟩) L.length c5)):=(by
    intro g e e2
    cases e
    rcases bh with h | h
    ·exact au.out _ h e2
    ·have e2:=Option.some.inj e2;have:=t.1;have:=ai.out;simp at e2;omega:apart _ _)
   have b7:Hid (y3.heap.size<=y4.heap.size):=ac.size;have ab:Bx y4 x1.heap.size (zA q1 t1) 35/\y4.cell? ⟨g5,o5+m,Aa⟩=Ab (I U (j:Int)):=⟨ae.out.out,by rw [ac.cell_far ⟨g5,o5+m,Aa⟩ (by show g5 < y3.heap.size;have:=t.1;have:=ag.1;have:=ai.out;omega) a6];exact bi.2⟩;clear ct ac bh a3 a6 bi r y b8 bm;refine ⟨fun _=>ab,?_⟩;simp only [pz];refine zD 8 50 (.pointer (Ab ⟨x1.heap.size,16,Aa⟩)) ab ?_;refine p_ce 9 x1.heap.size 16 (.slice (Ab ⟨g2,0,Aa⟩) (q1.early.length+1) d) (zA q1 t1) (zA { q1 with early:=q1.early ++ [(j:Int)] } { t1 with early:=.slice (Ab ⟨g2,0,Aa⟩) (q1.early.length+1) d }) ab.1 (by simp [zA]) rfl rfl ?_;intro y5 hg hk;have ad:Hid (Bx3 w y5 x1.heap.size (zA p s) zF (zA { q1 with early:=q1.early ++ [(j:Int)] } { t1 with early:=.slice (Ab ⟨g2,0,Aa⟩) (q1.early.length+1) d })):=ae.put hg hk;have l:Hid (zO W.heap.size y5.heap.size y5 { q1 with early:=q1.early ++ [(j:Int)] } { t1 with early:=.slice (Ab ⟨g2,0,Aa⟩) (q1.early.length+1) d }):=(am.boxed ab.1 hg).wide hg.size (nl _);have aa:Hid (y5.ownsRow x4.heap.size 3 1 (.slice (Ab ⟨g5,o5,Aa⟩) L.length c5) L.length (zE xJ L)):=Ad bz hg (zH bz ab.1 (by decide));have b3:Hid (y5.ownsRow wr.heap.size 95 3 w2 us.length (zE kK us)):=Ad be hg (zH be ab.1 (by decide));have cf:Hid (x5.heap.size<=y5.heap.size/\wr.heap.size<=y5.heap.size):=hid (by have:=bk.out;have:=ai.out;have:=ag.1;have:=b7.out;have:=hg.size;omega);clear hg hk ab ae am bz be aw a8 cd a9 bq ai ag b7 t;refine ⟨fun h=>(by cases h),?_⟩;refine p_do ?_;obtain ⟨q2,bx⟩:∃ q2:PE,q2={ q1 with early:=q1.early ++ [(j:Int)] }:=⟨_,rfl⟩;obtain ⟨t2,bj⟩:∃ t2:PV,t2={ t1 with early:=.slice (Ab ⟨g2,0,Aa⟩) (q1.early.length+1) d }:=⟨_,rfl⟩;have cb:Hid (({ q2 with undos:=q2.undos ++ us }:PE)=yBH (bks ps) q (L.take (m+1))/\q2.undos.length<=m * 1048576):=hid (by rw [bx];exact ⟨af.1,af.2.2⟩);have dh:Hid (apart t2.early (.slice (Ab ⟨g5,o5,Aa⟩) L.length c5)):=(by rw [bj];exact co.out:apart t2.early _);rw [<- bx,<- bj] at ad l;clear bx bj co au af;have dg:=zB ad.out.out 17 t2.undos rfl;have aj:=cb.2;have dp:=b2.out
   go_wp2_with (first
    | (at_builtin;refine wpList_append_w _ rfl _ _ 31 rfl W.heap.size 95 ui _ 32 underlying31 c4 b9 cl cj rfl (by decide) yFF undoF_one t2.undos q2.undos rfl l.1.undos w2 us rfl (zW yFF b3) (by unfold maxLen;omega) (by omega) (by have:=bo.out;have:=ap.out;have:=az.out;have:=cf.out;omega) ?_;intro v6 y6 bp ao a4;have an:Hid (Bx3 w y6 x1.heap.size (zA p s) zF (zA q2 t2)):=ad.grow l.1.undos (by decide) HC.1.size ao;have bv:Hid (y6.ownsRow x4.heap.size 3 1 (.slice (Option.some ⟨g5,o5,Aa⟩) L.length c5) L.length (zE xJ L)):=Ad aa ao (row_kind aa l.1.undos (by decide));have cr:Hid (zO W.heap.size y6.heap.size y6 { q2 with undos:=q2.undos ++ us } { t2 with undos:=v6 }):=l.addUndos ao bp a4;have c7:Hid (v6.oneCell'=true):=zDH bp;have b4:Hid (x5.heap.size<=y6.heap.size):=Ac cf.1 ao.size;clear bp ao a4 ad l aa b3 dg)
    | (refine w_sc x1.heap.size 17 v6 an.out.out (by simp [zA]) c7 (zA { q2 with undos:=q2.undos ++ us } { t2 with undos:=v6 }) rfl ?_;intro y7 hg hk;have ce:Hid (Bx3 w y7 x1.heap.size (zA p s) zF (zA { q2 with undos:=q2.undos ++ us } { t2 with undos:=v6 })):=an.put hg hk;have cu:Hid (zO W.heap.size y7.heap.size y7 { q2 with undos:=q2.undos ++ us } { t2 with undos:=v6 }):=(cr.boxed an.out.out hg).wide hg.size (nl _);have c9:Hid (y7.ownsRow x4.heap.size 3 1 (.slice (Option.some ⟨g5,o5,Aa⟩) L.length c5) L.length (zE xJ L)):=Ad bv hg (zH bv an.out.out (by decide));have c8:Hid (x5.heap.size<=y7.heap.size):=Ac b4 hg.size;clear hg hk an cr bv b4))
   rw [cb.out.1] at ce cu
   go_roundw
   case rel=>exact ⟨m+1,{ t2 with undos:=v6 },by omega,by go_num,ce,cu,c9,dh,c8⟩
   case measure=>simp [intOf];omega
  ·have cz:m=L.length:=by omega
   subst cz;rw [List.take_length] at b n;obtain ⟨QQ,ci⟩:=nw (yBH (bks ps) q L);rw [<- ci] at b n HE;clear ci
   go_wp2_with (first
    | (refine w_ld x1.heap.size b.out.out underlying35 ?_)
    | (refine w_st (w.heap.size+1) (zA QQ tm) b.zero (zJ n.1) ?_;intro z hg hk hz;have c3:Hid (Be w z):=b.below.grown hg b.below.size (qkk (by omega));have dc:Hid (Bx z (w.heap.size+1) (zA QQ tm) 35):=hk;have de:Hid (zO W.heap.size z.heap.size z QQ tm):=(n.boxed b.zero hg).wide hg.size (nl _);clear hg hk hz b n))
   refine b_cr (.agg (zA QQ tm)) results32 dc underlying35 ?_;rw [HE.out];exact ⟨_,rfl,de.low HC.1.size,c3⟩
end Go.Proofs.YtfnneillakdopacGreatR
