/-
  A text of ours: ReadKS.
-/
import Derived.Test.YtdopefimjabigadGreatK1
import Derived.Test.YtdopefimjabigadGreatK8
import Derived.Test.YtdopefimjabigadGreatK4
import Derived.Test.YtdopefimjabigadGreatLeadH
set_option maxRecDepth 100000
set_option maxHeartbeats 32000000
namespace Go.Proofs.YtdopefimjabigadGreat
open Go.RowKit Num
structure RK (w y:World) (C N:Nat) (t:ByteArray) (r:RD) (q:PE) (sr:Value):Prop where
 out:Bx y w.heap.size zF 35
 cur:zFF C t r y
 box:Bx y N (zA q { zHD with row:=sr }) 35
 row:y.ownsRow w.heap.size 3 1 sr q.row.length (zE xJ q.row)
 below:Below w.heap.size w y
 hC:w.heap.size < C
 hN:C < N
theorem RK.read {w y z:World} {C N:Nat} {t:ByteArray} {r r':RD} {q:PE} {sr:Value} (h:RK w y C N t r q sr) (hg:y.grownBy z (some C)) (hc:zFF C t r' z):RK w z C N t r' q sr:=
 ⟨(hg.block _ (gl h.out) (fun e=>by have:=Option.some.inj e;have:=h.hC;omega)).trans h.out,hc,(hg.block _ (gl h.box) (fun e=>by have:=Option.some.inj e;have:=h.hN;omega)).trans h.box,World.ownsRow.kept h.row hg (zH h.row h.cur (by decide)),h.below.grown hg h.below.size (fun k e=>by cases e;have:=h.hC;omega),h.hC,h.hN⟩
theorem RK.put {w y z:World} {C N:Nat} {t:ByteArray} {r:RD} {q q':PE} {sr:Value} (h:RK w y C N t r q sr) (hg:y.grownBy z (some N)) (hk:Bx z N (zA q' { zHD with row:=sr }) 35) (e:q'.row=q.row):RK w z C N t r q' sr:=
 ⟨(hg.block _ (gl h.out) (fun e=>by have:=Option.some.inj e;have:=h.hC;have:=h.hN;omega)).trans h.out,(hg.block _ (gl h.cur) (fun e=>by have:=Option.some.inj e;have:=h.hN;omega)).trans h.cur,hk,by rw [e];exact World.ownsRow.kept h.row hg (zH h.row h.box (by decide)),h.below.grown hg h.below.size (fun k e=>by cases e;have:=h.hC;have:=h.hN;omega),h.hC,h.hN⟩
theorem RK.more {w y z:World} {C N:Nat} {t:ByteArray} {r:RD} {q:PE} {sr:Value} (h:RK w y C N t r q sr) (hb:Below y.heap.size y z):RK w z C N t r q sr:=
 ⟨(hb.block _ (gl h.out)).trans h.out,h.cur.below hb,(hb.block _ (gl h.box)).trans h.box,zS h.row hb,bt h.below hb,h.hC,h.hN⟩
theorem RK.grow {w y z:World} {C N:Nat} {t:ByteArray} {r:RD} {q:PE} {sr:Value} (h:RK w y C N t r q sr) (hg:y.grownBy z sr.ownBlock):Bx z w.heap.size zF 35∧zFF C t r z∧Bx z N (zA q { zHD with row:=sr }) 35∧Below w.heap.size w z:=by
 have K:∀ (k:Nat) (A:Array Value) (T:TypeId),y.heap[k]?=some (.cells A T (0,0))→3 ≠ T→z.heap[k]?=some (.cells A T (0,0)):=fun k A T hk hT=>(hg.block _ (gl hk) (fun e=>(zH h.row hk hT).elim (fun h=>by rw [h] at e;cases e) (fun h=>h e.symm))).trans hk
 exact ⟨K _ _ _ h.out (by decide),K _ _ _ h.cur (by decide),K _ _ _ h.box (by decide),h.below.grown hg h.below.size (fun k e=>(h.row.lt k e).1)⟩
theorem kept_len (p:PE):(xK p).length=15+p.row.length:=by unfold xK;simp;omega
theorem kept_row {p:PE} {m:Nat} (h:m < p.row.length):(xK p)[15+m]'(by rw [kept_len];omega)=p.row[m]:=by
 unfold xK;rw [List.getElem_append_right (by simp)];simp
theorem readKept_s (p:PE) (w:World) (hp:yAG p) :
  Calls Tryz.prog 185 #[.string (sealT (zGB p))] w fun e w'=>∃ s',e=.returned (.tuple #[yZ (jO p) s',.bool true])∧zO w.heap.size w'.heap.size w' (jO p) s'∧Below w.heap.size w w':=by
 have HP:=hid hp;obtain ⟨ns,hns⟩:∃ ns,ns=xK p:=⟨_,rfl⟩;obtain ⟨tx,htx⟩:∃ tx,tx=zGB p:=⟨_,rfl⟩;obtain ⟨T,hT⟩:∃ T,T=sealT (zGB p):=⟨_,rfl⟩
 have HTX:Hid (tx=zEF ns∧T=sealedT tx∧tx.size≤20000∧zGB p=tx∧sealT tx=T):=(by
  refine ⟨by rw [htx,hns];exact kept_is hp.nums,?_,by rw [htx];exact hp.small,htx.symm,by rw [htx,hT]⟩;rw [hT,htx,sealT_is hp.small]
  rfl:_∧_)
 have HNO:Hid (numsOk ns):=hid (by rw [hns];exact hp.nums);have HNL:Hid (ns.length=15+p.row.length):=hid (by rw [hns];exact kept_len p);have hts:(tx.size:Int)≤1048576:=by have:=HTX.out.2.2.1;omega
 have RV:∀ k (hk:k < ns.length),rdV tx (qA ns k,false)=(ns[k],(qA ns (k+1),false)):=fun k hk=>by rw [HTX.out.1];exact rd_at HNO.out hk
 have R4:∀ k (hk:k+3 < ns.length),rd4 tx (qA ns k,false)=((ns[k],ns[k+1],ns[k+2],ns[k+3]),(qA ns (k+4),false)):=fun k hk=>by rw [HTX.out.1];exact rd4_at HNO.out hk
 have HRV:Hid (rdV tx (qA ns 0,false)=(p.id,(qA ns 1,false))∧rdV tx (qA ns 1,false)=(p.view,(qA ns 2,false))∧rd4 tx (qA ns 2,false)=(p.high,(qA ns 6,false))∧rd4 tx (qA ns 6,false)=(p.lock,(qA ns 10,false))∧rd4 tx (qA ns 10,false)=(p.last,(qA ns 14,false))∧rdV tx (qA ns 14,false)=((p.row.length:Int),(qA ns 15,false))):=(by
  have hl:=HNL.out;refine ⟨?_,?_,?_,?_,?_,?_⟩
  ·rw [RV 0 (by omega)];subst hns;rfl
  ·rw [RV 1 (by omega)];subst hns;rfl
  ·rw [R4 2 (by omega)];subst hns;rfl
  ·rw [R4 6 (by omega)];subst hns;rfl
  ·rw [R4 10 (by omega)];subst hns;rfl
  ·rw [RV 14 (by omega)];subst hns;rfl:_∧_)
 have HRR:Hid (∀ m (h:m < p.row.length),rdV tx (qA ns (15+m),false)=(p.row[m],(qA ns (15+(m+1)),false))):=(by
  intro m h;have hl:=HNL.out;rw [RV (15+m) (by omega)];subst hns;rw [kept_row h]
  rfl:∀ m,_)
 have hpl:(p.row.length:Int)≤1900:=by have:=hp.len;omega
 rw [← hT];clear hp hns htx hT RV R4;obtain ⟨W,hW⟩:∃ W,W=w.alloc (.cells zF 35):=⟨_,rfl⟩;have HW:Hid (Below w.heap.size w W∧Bx W w.heap.size zF 35):=hid (by rw [hW];exact ⟨ba (br _ _) _,heap_alloc_new w _⟩);unfold zF at hW;go_enter Tryz.func185,Tryz.ntmps185;go_wp2_with (rw [← hW];clear hW)
 refine (unsealed_good_s T W tx.size (by rw [HTX.out.2.1,sealedT_size];omega) (by have:=HTX.out.2.2.1;omega) (by rw [HTX.out.2.1];exact sealedT_right tx)).mono ?_;rintro e w1 ⟨rfl,hb1⟩;have hex:T.extract 0 tx.size=tx:=by rw [HTX.out.2.1];exact sealedT_back tx
 rw [hex];have HW1:Hid (Below w.heap.size w w1∧Bx w1 w.heap.size zF 35):=⟨bt HW.out.1 hb1,(hb1.block _ (gl HW.out.2)).trans HW.out.2⟩;clear hex hb1 HW;obtain ⟨W2,hW2⟩:∃ W2,W2=w1.alloc (.cells #[.string tx,.int .i64 0,.bool false] 249):=⟨_,rfl⟩;obtain ⟨C,hC⟩:∃ C,C=w1.heap.size:=⟨_,rfl⟩
 have HW2:Hid (Below w.heap.size w W2∧Bx W2 w.heap.size zF 35∧zFF C tx (qA ns 0,false) W2∧w.heap.size < C∧C < W2.heap.size):=(by
  have hb:Below w1.heap.size w1 W2:=by rw [hW2];exact yA _ _
  refine ⟨bt HW1.out.1 hb,(hb.block _ (gl HW1.out.2)).trans HW1.out.2,?_,by rw [hC];exact (gl HW1.out.2),by rw [hC,hW2];simp⟩;rw [hC,hW2]
  exact heap_alloc_new w1 _:_∧_)
 go_wp2_with (rw [← hW2];clear hW2)
 rw [← hC];clear hC;refine (rdV_s HW2.out.2.2.1 hts).mono ?_;rintro e x1 ⟨rfl,hr1,hg1⟩;rw [HRV.out.1] at hr1 ⊢;simp only at hr1 ⊢;have HX1:Hid (Below w.heap.size w x1∧Bx x1 w.heap.size zF 35∧zFF C tx (qA ns 1,false) x1∧w.heap.size < C∧C < x1.heap.size):=⟨HW2.out.1.grown hg1 HW2.out.1.size (fun k e=>by cases e;have:=HW2.out.2.2.2.1;omega),(hg1.block _ (gl HW2.out.2.1) (fun e=>by have:=Option.some.inj e;have:=HW2.out.2.2.2.1;omega)).trans HW2.out.2.1,hr1,HW2.out.2.2.2.1,hr1.lt⟩;clear hr1 hg1 HW2
 go_wp2_with (first
  | (refine w_st x1.heap.size (zA (⟨p.id,0,(0,0,0,0),(0,0,0,0),(0,0,0,0),[],[],[],[],[],[],0⟩:PE) zHD) (heap_alloc_new x1 _) (by simp [zA,zHD,Value.oneCell']) ?_;intro x2 hg hk hz;have hb:Below x1.heap.size x1 x2:=yB hg;have HX2:Hid (RK w x2 C x1.heap.size tx (qA ns 1,false) (⟨p.id,0,(0,0,0,0),(0,0,0,0),(0,0,0,0),[],[],[],[],[],[],0⟩:PE) (.slice none 0 0)):=⟨(hb.block _ (gl HX1.out.2.1)).trans HX1.out.2.1,HX1.out.2.2.1.below hb,hk,World.ownsRow_nil _ _ _ _,bt HX1.out.1 hb,HX1.out.2.2.2.1,HX1.out.2.2.2.2⟩;clear hg hk hz hb))
 obtain ⟨N,hN⟩:∃ N,N=x1.heap.size:=⟨_,rfl⟩;rw [← hN] at HX2 ⊢;clear hN HX1;refine (rdV_s HX2.out.cur hts).mono ?_;rintro e x3 ⟨rfl,hr,hg⟩;rw [HRV.out.2.1] at hr ⊢;simp only at hr ⊢;have HX3:Hid (RK w x3 C N tx (qA ns 2,false) (⟨p.id,0,(0,0,0,0),(0,0,0,0),(0,0,0,0),[],[],[],[],[],[],0⟩:PE) (.slice none 0 0)):=HX2.out.read hg hr;clear hr hg HX2
 go_wp2_with (first
  | (refine zU rfl _ _ _ rfl N 1 (.int .i64 p.view) rfl rfl _ _ HX3.out.box (by kernel_rfl) (by simp [zA]) rfl (zA (⟨p.id,p.view,(0,0,0,0),(0,0,0,0),(0,0,0,0),[],[],[],[],[],[],0⟩:PE) { zHD with row:=.slice none 0 0 }) rfl ?_;intro x4 hg hk;have HX4:Hid (RK w x4 C N tx (qA ns 2,false) (⟨p.id,p.view,(0,0,0,0),(0,0,0,0),(0,0,0,0),[],[],[],[],[],[],0⟩:PE) (.slice none 0 0)):=HX3.out.put hg hk rfl;clear hg hk))
 refine (rdQ_s HX4.out.cur hts).mono ?_;rintro e x5 ⟨rfl,hr,hg⟩;rw [HRV.out.2.2.1] at hr ⊢;simp only at hr ⊢;have HX5:Hid (RK w x5 C N tx (qA ns 6,false) (⟨p.id,p.view,(0,0,0,0),(0,0,0,0),(0,0,0,0),[],[],[],[],[],[],0⟩:PE) (.slice none 0 0)):=HX4.out.read hg hr;clear hr hg HX4
 go_wp2_with (first
  | (refine yY rfl _ _ _ rfl N 2 #[.int .i64 p.high.1,.int .i64 p.high.2.1,.int .i64 p.high.2.2.1,.int .i64 p.high.2.2.2] rfl rfl _ _ HX5.out.box (by kernel_rfl) (by simp [zA]) (by simp [Value.oneCell']) (zA (⟨p.id,p.view,p.high,(0,0,0,0),(0,0,0,0),[],[],[],[],[],[],0⟩:PE) { zHD with row:=.slice none 0 0 }) rfl ?_;intro x6 hg hk;have HX6:Hid (RK w x6 C N tx (qA ns 6,false) (⟨p.id,p.view,p.high,(0,0,0,0),(0,0,0,0),[],[],[],[],[],[],0⟩:PE) (.slice none 0 0)):=HX5.out.put hg hk rfl;clear hg hk))
 refine (rdQ_s HX6.out.cur hts).mono ?_;rintro e x7 ⟨rfl,hr,hg⟩;rw [HRV.out.2.2.2.1] at hr ⊢;simp only at hr ⊢;have HX7:Hid (RK w x7 C N tx (qA ns 10,false) (⟨p.id,p.view,p.high,(0,0,0,0),(0,0,0,0),[],[],[],[],[],[],0⟩:PE) (.slice none 0 0)):=HX6.out.read hg hr;clear hr hg HX6
 go_wp2_with (first
  | (refine yY rfl _ _ _ rfl N 6 #[.int .i64 p.lock.1,.int .i64 p.lock.2.1,.int .i64 p.lock.2.2.1,.int .i64 p.lock.2.2.2] rfl rfl _ _ HX7.out.box (by kernel_rfl) (by simp [zA]) (by simp [Value.oneCell']) (zA (⟨p.id,p.view,p.high,p.lock,(0,0,0,0),[],[],[],[],[],[],0⟩:PE) { zHD with row:=.slice none 0 0 }) rfl ?_;intro x8 hg hk;have HX8:Hid (RK w x8 C N tx (qA ns 10,false) (⟨p.id,p.view,p.high,p.lock,(0,0,0,0),[],[],[],[],[],[],0⟩:PE) (.slice none 0 0)):=HX7.out.put hg hk rfl;clear hg hk))
 refine (rdVote_s HX8.out.cur hts).mono ?_;rintro e x9 ⟨rfl,hr,hg⟩;rw [HRV.out.2.2.2.2.1] at hr ⊢;simp only at hr ⊢;have HX9:Hid (RK w x9 C N tx (qA ns 14,false) (⟨p.id,p.view,p.high,p.lock,(0,0,0,0),[],[],[],[],[],[],0⟩:PE) (.slice none 0 0)):=HX8.out.read hg hr;clear hr hg HX8
 go_wp2_with (first
  | (refine yY rfl _ _ _ rfl N 10 #[.int .i64 p.last.1,.int .i64 p.last.2.1,.int .i64 p.last.2.2.1,.int .i64 p.last.2.2.2] rfl rfl _ _ HX9.out.box (by kernel_rfl) (by simp [zA]) (by simp [Value.oneCell']) (zA (⟨p.id,p.view,p.high,p.lock,p.last,[],[],[],[],[],[],0⟩:PE) { zHD with row:=.slice none 0 0 }) rfl ?_;intro x10 hg hk;have HX10:Hid (RK w x10 C N tx (qA ns 14,false) (⟨p.id,p.view,p.high,p.lock,p.last,[],[],[],[],[],[],0⟩:PE) (.slice none 0 0)):=HX9.out.put hg hk rfl;clear hg hk))
 refine (rdV_s HX10.out.cur hts).mono ?_;rintro e x11 ⟨rfl,hr,hg⟩;rw [HRV.out.2.2.2.2.2] at hr ⊢;simp only at hr ⊢;have HX11:Hid (RK w x11 C N tx (qA ns (15+0),false) { (⟨p.id,p.view,p.high,p.lock,p.last,[],[],[],[],[],[],0⟩:PE) with row:=p.row.take 0 } (.slice none 0 0)):=HX10.out.read hg hr;clear hr hg HX10;obtain ⟨li,lhi,lhz0,lhz1,lhz2⟩:=info_parts infoInt;go_wp2
 go_loopw [9] (fun i wr=>∃ m:Nat,m≤p.row.length∧i=.int .i64 (m:Int)∧∃ sr,Hid (RK w wr C N tx (qA ns (15+m),false) { (⟨p.id,p.view,p.high,p.lock,p.last,[],[],[],[],[],[],0⟩:PE) with row:=p.row.take m } sr)) (fun i _=>p.row.length - (intOf i).toNat)
 case atStart=>exact ⟨0,Nat.zero_le _,rfl,_,HX11.out⟩
 case round=>
  obtain ⟨m,hm,rfl,sr,HY⟩:=hrel;have c2:=HY.out.cur.cells.2.2
  by_cases hlt:(m:Int) < p.row.length
  ·have hmn:m < p.row.length:=by omega
   have hb0:decide ((m:Int) < (p.row.length:Int))=true:=decide_eq_true hlt;obtain ⟨Q,hQ⟩:∃ Q:PE,Q={ (⟨p.id,p.view,p.high,p.lock,p.last,[],[],[],[],[],[],0⟩:PE) with row:=p.row.take m }:=⟨_,rfl⟩
   have HQ:Hid ({ (⟨p.id,p.view,p.high,p.lock,p.last,[],[],[],[],[],[],0⟩:PE) with row:=p.row.take (m+1) }=({ Q with row:=Q.row ++ [p.row[m]] }:PE)∧Q.row.length=m):=(by
    rw [hQ];refine ⟨?_,by show (p.row.take m).length=m;rw [List.length_take];omega⟩
    rw [List.take_succ_eq_append_getElem hmn]:_∧_)
   rw [← hQ] at HY;clear hQ;obtain ⟨x,hx⟩:∃ x,x=p.row[m]:=⟨_,rfl⟩;have HRM:Hid (rdV tx (qA ns (15+m),false)=(x,(qA ns (15+(m+1)),false))):=hid (by rw [hx];exact HRR.out m hmn);rw [← hx] at HQ;clear hx
   go_upto_region 12 with fail
   clear c2;refine zT (fun i=>decide (i < 7)) (fun x=>Bx x N (zA Q { zHD with row:=sr }) 35) (by kernel_rfl) ?_;show zX Tryz.prog _ _ _ _ _ (7+1) (Array.replicate 8 false) _ _;have hS:Bx wr.drew N (zA Q { zHD with row:=sr }) 35:=HY.out.box;refine zD 0 49 (.pointer (some ⟨N,14,none⟩)) hS ?_;refine zD 1 50 sr hS ?_ (hy:=by intro x hx;have c14:=zB hx 14 sr rfl;go_simp;try with_reducible rfl);refine zD 2 51 (.pointer (some ⟨C,0,none⟩)) hS ?_;have HYD:=HY.out.more (show Below wr.heap.size wr wr.drew from (br _ _).drew);refine kJ 3 52 211 #[.pointer (some ⟨C,0,none⟩)] ((rdV_s HYD.cur hts).mono ?_);rintro e y1 ⟨rfl,hr,hg⟩;rw [HRM.out] at hr ⊢;simp only at hr ⊢;have HY1:=HYD.read hg hr;clear hr hg hS;refine ⟨_,rfl,fun _=>HY1.box,?_⟩;simp only [pz];obtain ⟨y2,hy2⟩:∃ y2,y2=y1.alloc (.cells #[.int .i64 x] 3):=⟨_,rfl⟩;have hb2:Below y1.heap.size y1 y2:=by rw [hy2];exact yA _ _
   have b2:Bx y2 y1.heap.size #[.int .i64 x] 3:=by rw [hy2];exact heap_alloc_new y1 _
   have HY2:=HY1.more hb2;refine kG (i:=4) (by kernel_rfl) ?_;refine xU (s:=4) (e':=some 53) rfl rfl rfl (.slice (some ⟨y1.heap.size,0,none⟩) 1 1) y2 ?_ ⟨fun _=>HY2.box,?_⟩
   ·rw [hy2];go_simp
    try with_reducible rfl
   simp only [pz];clear hy2;have hql:=HQ.out.2;refine qO (s:=5) (e':=some 54) rfl rfl rfl (.tmp 50) (.tmp 53) 29 rfl (by kernel_rfl) w.heap.size 3 li _ 1 8 Tryz.underlying29 lhi lhz0 lhz1 lhz2 rfl (by decide) sr _ _ rfl HY2.row ⟨y1.heap.size,0,none⟩ 1 1 [.int .i64 x] rfl rfl (World.news_of_block b2) (one_int x) (by decide) (by unfold maxLen;omega) (by omega) HY2.below.size _ rfl ?_;intro g2 cap2 z ho2 hg2 hwh hlt2;obtain ⟨z0,z1,z2,z3⟩:=HY2.grow hg2;refine ⟨fun _=>z2,?_⟩;simp only [pz];refine zD 6 55 (.pointer (some ⟨N,14,none⟩)) z2 ?_;refine kT (s:=7) (N:=N) (o:=14) (u:=.slice (some ⟨g2,0,none⟩) (Q.row.length+1) cap2) (old:=zA Q { zHD with row:=sr }) (new:=zA { Q with row:=Q.row ++ [x] } { zHD with row:=.slice (some ⟨g2,0,none⟩) (Q.row.length+1) cap2 }) rfl rfl rfl rfl (by kernel_rfl) rfl rfl z2 (by kernel_rfl) (by simp [zA]) rfl rfl ?_;intro y5 hg hk
   have HY5:Hid (RK w y5 C N tx (qA ns (15+(m+1)),false) { Q with row:=Q.row ++ [x] } (.slice (some ⟨g2,0,none⟩) (Q.row.length+1) cap2)):=(by
    have ho3:z.ownsRow w.heap.size 3 1 (.slice (some ⟨g2,0,none⟩) (Q.row.length+1) cap2) (Q.row ++ [x]).length (zE xJ (Q.row ++ [x])):=by rw [List.length_append,zY];simpa [zE,xJ] using ho2
    exact ⟨(hg.block _ (gl z0) (fun e=>by have:=Option.some.inj e;have:=HY1.hC;have:=HY1.hN;omega)).trans z0,(hg.block _ (gl z1) (fun e=>by have:=Option.some.inj e;have:=HY1.hN;omega)).trans z1,hk,World.ownsRow.kept ho3 hg (zH ho3 z2 (by decide)),z3.grown hg z3.size (fun k e=>by cases e;have:=HY1.hC;have:=HY1.hN;omega),HY1.hC,HY1.hN⟩:RK _ _ _ _ _ _ _ _)
   refine ⟨fun h=>absurd h (by decide),?_⟩;refine zK (by kernel_rfl) ?_ _;go_wp2
   go_roundw
   case rel=>exact ⟨m+1,by omega,by go_num,_,by rw [HQ.out.1];exact HY5.out⟩
   case measure=>simp [intOf];omega
  ·have hml:m=p.row.length:=by omega
   subst hml;have HQ:Hid (RK w wr C N tx (qA ns (15+p.row.length),false) (jO p) sr):=(by have h:=HY.out;rw [List.take_length] at h;exact h:RK _ _ _ _ _ _ _ _);clear HY
   have HOD:Hid (zO w.heap.size wr.heap.size wr (jO p) { zHD with row:=sr }):=(by
    have hn:zO w.heap.size w.heap.size wr { jO p with row:=[] } zHD:=zO.other ⟨(nil_own w.heap.size wr p.id).1,({ (nil_own w.heap.size wr p.id).2.1 with l0:=(fun g e=>by cases e),l1:=(fun g e=>by cases e),l2:=(fun g e=>by cases e),l3:=(fun g e=>by cases e),l4:=(fun g e=>by cases e),l5:=(fun g e=>by cases e) }:kR _ _ _),HQ.out.below.size⟩ rfl rfl rfl rfl rfl rfl
    exact hn.setRow (l:=p.row) (v:=sr) HQ.out.below.size (nl _) HQ.out.row (fun g e=>(HQ.out.row.lt g e).2) (fun g e=>Or.inr (HQ.out.row.lt g e).1):zO _ _ _ _ _)
   have HTT:Hid (sealT (zGB (jO p))=T):=hid (by rw [keptP_tx,HTX.out.2.2.2.1];exact HTX.out.2.2.2.2);go_wp2_with (refine qB (by first | rfl | simp [Region.wanted,yielded]) _ _ rfl N rfl 35 _ (0,0) _ HQ.out.box Tryz.underlying35 rfl (by kernel_rfl) ?_)
   refine (keptText_s (jO p) { zHD with row:=sr } wr HOD.out.reads (keptP_ok HP.out).fit).mono ?_;rintro e wk ⟨rfl,hbk⟩;rw [HTT.out];have HK:Hid (RK w wk C N tx (qA ns (15+p.row.length),false) (jO p) sr∧zO w.heap.size wk.heap.size wk (jO p) { zHD with row:=sr }):=⟨HQ.out.more hbk,(HOD.out.below hbk).wide hbk.size (nl _)⟩;clear hbk HQ HOD HTT;have hTT:(T.toList == T.toList)=true:=by simp
   have hTN:(T.toList != T.toList)=false:=by simp
   go_wp2_with (first
    | (refine w_ld N HK.out.1.box Tryz.underlying35 ?_)
    | (refine w_st w.heap.size (zA (jO p) { zHD with row:=sr }) HK.out.1.out (zJ HK.out.2.1) ?_;intro z hg hk hz;have HZ:Hid (Bx z w.heap.size (zA (jO p) { zHD with row:=sr }) 35∧zO w.heap.size z.heap.size z (jO p) { zHD with row:=sr }∧Below w.heap.size w z):=⟨hk,(HK.out.2.boxed HK.out.1.out hg).wide hg.size (nl _),HK.out.1.below.grown hg HK.out.1.below.size (fun k e=>by cases e;exact nl _)⟩;clear hg hk hz))
   refine bodyPost_ret (v:=.tuple #[.agg (zA (jO p) { zHD with row:=sr }),.bool true]) (yN Tryz.results185 _ _ w.heap.size 35 _ (0,0) _ _ rfl HZ.out.1 Tryz.underlying35 rfl (by kernel_rfl) rfl) rfl ?_;exact ⟨_,rfl,HZ.out.2.1,HZ.out.2.2⟩
end Go.Proofs.YtdopefimjabigadGreat
