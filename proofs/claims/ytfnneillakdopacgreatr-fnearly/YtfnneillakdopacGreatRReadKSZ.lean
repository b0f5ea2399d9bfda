/-
  A text of ours: ReadKS.
-/
import Derived.Test.YtfnneillakdopacGreatRK1
import Derived.Test.YtfnneillakdopacGreatRK8
import Derived.Test.YtfnneillakdopacGreatRK7
import Derived.Test.YtfnneillakdopacGreatRK4
import Derived.Test.YtfnneillakdopacGreatRLeadHZ
set_option maxRecDepth 100000
set_option maxHeartbeats 32000000
namespace Go.Proofs.YtfnneillakdopacGreatR
open _root_.Go.Proofs.Tryz
open Go.Value renaming int->I,oneCell'->Ab
open Go.IntKind renaming i64->U
open Go.World.ownsRow renaming kept->Aa
open Go.RowKit Num
variable {t:ByteArray} {C N:Nat} {q:PE} {r:RD} {sr:Value} {w y z:World}
structure RK (w y:World) (C N:Nat) (t:ByteArray) (r:RD) (q:PE) (sr:Value):Prop where
 out:Bx y w.heap.size zF 35
 cur:zFF C t r y
 box:Bx y N (zA q { zHD with row:=sr }) 35
 row:y.ownsRow w.heap.size 3 1 sr q.row.length (zE xJ q.row)
 below:Be w y
 hC:w.heap.size < C
 hN:C < N
theorem RK.read {r':RD} (h:RK w y C N t r q sr) (hg:y.grownBy z (some C)) (hc:zFF C t r' z):RK w z C N t r' q sr:=
 ⟨gk hg h.out (qsn (by have:=h.hC;omega)),hc,gk hg h.box (qsn (by have:=h.hN;omega)),Aa h.row hg (zH h.row h.cur (by decide)),h.below.grown hg h.below.size (fun k e=>by cases e;have:=h.hC;omega),h.hC,h.hN⟩
theorem RK.put {q':PE} (h:RK w y C N t r q sr) (hg:y.grownBy z (some N)) (hk:Bx z N (zA q' {zHD with row:=sr }) 35) (e:q'.row=q.row):RK w z C N t r q' sr:=
 ⟨gk hg h.out (qsn (by have:=h.hC;have:=h.hN;omega)),gk hg h.cur (qsn (by have:=h.hN;omega)),hk,by rw [e];exact Aa h.row hg (zH h.row h.box (by decide)),h.below.grown hg h.below.size (fun k e=>by cases e;have:=h.hC;have:=h.hN;omega),h.hC,h.hN⟩
theorem RK.more (h:RK w y C N t r q sr) (hb:Be y z):RK w z C N t r q sr:=
 ⟨bk hb h.out,h.cur.below hb,bk hb h.box,zS h.row hb,bt h.below hb,h.hC,h.hN⟩
theorem RK.grow (h:RK w y C N t r q sr) (hg:y.grownBy z sr.ownBlock):Bx z w.heap.size zF 35/\zFF C t r z/\Bx z N (zA q { zHD with row:=sr }) 35/\Be w z:=by
 have K:∀ (k:Nat) (A:Array Value) (T:TypeId),y.heap[k]?=some (.cells A T (0,0))->3 ≠ T->z.heap[k]?=some (.cells A T (0,0)):=fun k A T hk hT=>gk hg hk (fun e=>(zH h.row hk hT).elim (fun h=>by rw [h] at e;cases e) (fun h=>h e.symm))
 exact ⟨K _ _ _ h.out (by decide),K _ _ _ h.cur (by decide),K _ _ _ h.box (by decide),h.below.grown hg h.below.size (fun k e=>(h.row.lt k e).1)⟩
theorem kept_len (p:PE):(xK p).length=15+p.row.length:=by unfold xK;simp;omega
theorem kept_row {p:PE} {m:Nat} (h:m < p.row.length):(xK p)[15+m]'(by rw [kept_len];omega)=p.row[m]:=by
 unfold xK;rw [List.getElem_append_right (by simp)];simp
theorem readKept_s (p:PE) (w:World) (hp:yAG p) :
  Calls prog 197 #[.string (sealT (zGB p))] w fun e w'=>∃ s',e=.returned (.tuple #[yZ (jO p) s',.bool true])/\zO w.heap.size w'.heap.size w' (jO p) s'/\Be w w':=by
 have HP:=hid hp;obtain ⟨ns,a⟩:=nw (xK p);obtain ⟨tx,o⟩:=nw (zGB p);obtain ⟨T,hT⟩:=nw (sealT (zGB p))
 have b:Hid (tx=zEF ns/\T=sealedT tx/\tx.size<=20000/\zGB p=tx/\sealT tx=T):=(by
  refine ⟨by rw [o,a];exact kept_is hp.nums,?_,by rw [o];exact hp.small,o.symm,by rw [o,hT]⟩;rw [hT,o,sealT_is hp.small]
  rfl:_/\_)
 have an:Hid (numsOk ns):=hid (by rw [a];exact hp.nums);have a0:Hid (ns.length=15+p.row.length):=hid (by rw [a];exact kept_len p);have f:(tx.size:Int)<=1048576:=by have:=b.2.2.1;omega
 have RV:∀ k (hk:k < ns.length),rdV tx (qA ns k,false)=(ns[k],(qA ns (k+1),false)):=fun k hk=>by rw [b.out.1];exact rd_at an hk
 have R4:∀ k (hk:k+3 < ns.length),rd4 tx (qA ns k,false)=((ns[k],ns[k+1],ns[k+2],ns[k+3]),(qA ns (k+4),false)):=fun k hk=>by rw [b.out.1];exact rd4_at an hk
 have n:Hid (rdV tx (qA ns 0,false)=(p.id,(qA ns 1,false))/\rdV tx (qA ns 1,false)=(p.view,(qA ns 2,false))/\rd4 tx (qA ns 2,false)=(p.high,(qA ns 6,false))/\rd4 tx (qA ns 6,false)=(p.lock,(qA ns 10,false))/\rd4 tx (qA ns 10,false)=(p.last,(qA ns 14,false))/\rdV tx (qA ns 14,false)=((p.row.length:Int),(qA ns 15,false))):=(by
  have hl:=a0.out;refine ⟨?_,?_,?_,?_,?_,?_⟩
  ·rw [RV 0 (by omega)];subst a;rfl
  ·rw [RV 1 (by omega)];subst a;rfl
  ·rw [R4 2 (by omega)];subst a;rfl
  ·rw [R4 6 (by omega)];subst a;rfl
  ·rw [R4 10 (by omega)];subst a;rfl
  ·rw [RV 14 (by omega)];subst a;rfl:_/\_)
 have a9:Hid (∀ m (h:m < p.row.length),rdV tx (qA ns (15+m),false)=(p.row[m],(qA ns (15+(m+1)),false))):=(by
  intro m h;have hl:=a0.out;rw [RV (15+m) (by omega)];subst a;rw [kept_row h]
  rfl:∀ m,_)
 have be:(p.row.length:Int)<=1900:=by have:=hp.len;omega
 rw [<- hT];clear hp a o hT RV R4;obtain ⟨W,hW⟩:=nw (w.alloc (.cells zF 35));have HW:Hid (Be w W/\Bx W w.heap.size zF 35):=hid (by rw [hW];exact ⟨ba (br _ _) _,heap_alloc_new w _⟩);unfold zF at hW;go_enter func197,ntmps197;go_wp2_with (rw [<- hW];clear hW)
 refine (unsealed_good_s T W tx.size (by rw [b.out.2.1,sealedT_size];omega) (by have:=b.2.2.1;omega) (by rw [b.out.2.1];exact sealedT_right tx)).mono ?_;rintro e w1 ⟨rfl,aj⟩;have al:T.extract 0 tx.size=tx:=by rw [b.out.2.1];exact sealedT_back tx
 rw [al];have af:=hid (qad2 (bt HW.1 aj) (bk aj HW.2));clear al aj HW;obtain ⟨W2,t⟩:=nw (w1.alloc (.cells #[.string tx,I U 0,.bool false] 264));obtain ⟨C,hC⟩:=nw w1.heap.size
 have d:Hid (Be w W2/\Bx W2 w.heap.size zF 35/\zFF C tx (qA ns 0,false) W2/\w.heap.size < C/\C < W2.heap.size):=(by
  have hb:Be w1 W2:=by rw [t];exact yA _ _
  refine ⟨bt af.1 hb,bk hb af.2,?_,by rw [hC];exact (gl af.2),by rw [hC,t];simp⟩;rw [hC,t]
  exact heap_alloc_new w1 _:_/\_)
 go_wp2_with (rw [<- t];clear t)
 rw [<- hC];clear hC;refine (rdV_s d.2.2.1 f).mono ?_;rintro e x1 ⟨rfl,u,ak⟩;rw [n.out.1] at u ⊢;simp only at u ⊢;have r:Hid (Be w x1/\Bx x1 w.heap.size zF 35/\zFF C tx (qA ns 1,false) x1/\w.heap.size < C/\C < x1.heap.size):=⟨d.1.grown ak d.1.size (fun k e=>by cases e;have:=d.2.2.2.1;omega),gk ak d.2.1 (qsn (by have:=d.2.2.2.1;omega)),u,d.2.2.2.1,u.lt⟩;clear u ak d
 go_wp2_with (first
  | (refine w_st x1.heap.size (zA (⟨p.id,0,(0,0,0,0),(0,0,0,0),(0,0,0,0),[],[],[],[],[],[],0⟩:PE) zHD) (heap_alloc_new x1 _) (by simp [zA,zHD,Ab]) ?_;intro x2 hg hk hz;have hb:Be x1 x2:=yB hg;have ad:Hid (RK w x2 C x1.heap.size tx (qA ns 1,false) (⟨p.id,0,(0,0,0,0),(0,0,0,0),(0,0,0,0),[],[],[],[],[],[],0⟩:PE) (.slice none 0 0)):=⟨bk hb r.2.1,r.2.2.1.below hb,hk,World.ownsRow_nil _ _ _ _,bt r.1 hb,r.2.2.2.1,r.2.2.2.2⟩;clear hg hk hz hb))
 obtain ⟨N,hN⟩:=nw x1.heap.size;rw [<- hN] at ad ⊢;clear hN r;refine (rdV_s ad.cur f).mono ?_;rintro e x3 ⟨rfl,hr,hg⟩;rw [n.out.2.1] at hr ⊢;simp only at hr ⊢;have ap:Hid (RK w x3 C N tx (qA ns 2,false) (⟨p.id,0,(0,0,0,0),(0,0,0,0),(0,0,0,0),[],[],[],[],[],[],0⟩:PE) (.slice none 0 0)):=ad.read hg hr;clear hr hg ad
 go_wp2_with (first
  | (refine w_sc N 1 (I U p.view) ap.box (by simp [zA]) rfl (zA (⟨p.id,p.view,(0,0,0,0),(0,0,0,0),(0,0,0,0),[],[],[],[],[],[],0⟩:PE) { zHD with row:=.slice none 0 0 }) rfl ?_;intro x4 hg hk;have ai:Hid (RK w x4 C N tx (qA ns 2,false) (⟨p.id,p.view,(0,0,0,0),(0,0,0,0),(0,0,0,0),[],[],[],[],[],[],0⟩:PE) (.slice none 0 0)):=ap.put hg hk rfl;clear hg hk))
 refine (rdQ_s ai.cur f).mono ?_;rintro e x5 ⟨rfl,hr,hg⟩;rw [n.out.2.2.1] at hr ⊢;simp only at hr ⊢;have a1:Hid (RK w x5 C N tx (qA ns 6,false) (⟨p.id,p.view,(0,0,0,0),(0,0,0,0),(0,0,0,0),[],[],[],[],[],[],0⟩:PE) (.slice none 0 0)):=ai.read hg hr;clear hr hg ai
 go_wp2_with (first
  | (refine yY rfl _ _ _ rfl N 2 #[I U p.high.1,I U p.high.2.1,I U p.high.2.2.1,I U p.high.2.2.2] rfl rfl _ _ a1.box (by kernel_rfl) (by simp [zA]) (by simp [Ab]) (zA (⟨p.id,p.view,p.high,(0,0,0,0),(0,0,0,0),[],[],[],[],[],[],0⟩:PE) { zHD with row:=.slice none 0 0 }) rfl ?_;intro x6 hg hk;have ah:Hid (RK w x6 C N tx (qA ns 6,false) (⟨p.id,p.view,p.high,(0,0,0,0),(0,0,0,0),[],[],[],[],[],[],0⟩:PE) (.slice none 0 0)):=a1.put hg hk rfl;clear hg hk))
 refine (rdQ_s ah.cur f).mono ?_;rintro e x7 ⟨rfl,hr,hg⟩;rw [n.out.2.2.2.1] at hr ⊢;simp only at hr ⊢;have au:Hid (RK w x7 C N tx (qA ns 10,false) (⟨p.id,p.view,p.high,(0,0,0,0),(0,0,0,0),[],[],[],[],[],[],0⟩:PE) (.slice none 0 0)):=ah.read hg hr;clear hr hg ah
 go_wp2_with (first
  | (refine yY rfl _ _ _ rfl N 6 #[I U p.lock.1,I U p.lock.2.1,I U p.lock.2.2.1,I U p.lock.2.2.2] rfl rfl _ _ au.box (by kernel_rfl) (by simp [zA]) (by simp [Ab]) (zA (⟨p.id,p.view,p.high,p.lock,(0,0,0,0),[],[],[],[],[],[],0⟩:PE) { zHD with row:=.slice none 0 0 }) rfl ?_;intro x8 hg hk;have ag:Hid (RK w x8 C N tx (qA ns 10,false) (⟨p.id,p.view,p.high,p.lock,(0,0,0,0),[],[],[],[],[],[],0⟩:PE) (.slice none 0 0)):=au.put hg hk rfl;clear hg hk))
 refine (rdVote_s ag.cur f).mono ?_;rintro e x9 ⟨rfl,hr,hg⟩;rw [n.out.2.2.2.2.1] at hr ⊢;simp only at hr ⊢;have ay:Hid (RK w x9 C N tx (qA ns 14,false) (⟨p.id,p.view,p.high,p.lock,(0,0,0,0),[],[],[],[],[],[],0⟩:PE) (.slice none 0 0)):=ag.read hg hr;clear hr hg ag
 go_wp2_with (first
  | (refine yY rfl _ _ _ rfl N 10 #[I U p.last.1,I U p.last.2.1,I U p.last.2.2.1,I U p.last.2.2.2] rfl rfl _ _ ay.box (by kernel_rfl) (by simp [zA]) (by simp [Ab]) (zA (⟨p.id,p.view,p.high,p.lock,p.last,[],[],[],[],[],[],0⟩:PE) { zHD with row:=.slice none 0 0 }) rfl ?_;intro a5 hg hk;have y:Hid (RK w a5 C N tx (qA ns 14,false) (⟨p.id,p.view,p.high,p.lock,p.last,[],[],[],[],[],[],0⟩:PE) (.slice none 0 0)):=ay.put hg hk rfl;clear hg hk))
 refine (rdV_s y.cur f).mono ?_;rintro e a2 ⟨rfl,hr,hg⟩;rw [n.out.2.2.2.2.2] at hr ⊢;simp only at hr ⊢;have az:Hid (RK w a2 C N tx (qA ns (15+0),false) { (⟨p.id,p.view,p.high,p.lock,p.last,[],[],[],[],[],[],0⟩:PE) with row:=p.row.take 0 } (.slice none 0 0)):=y.read hg hr;clear hr hg y;obtain ⟨li,a7,am,ax,ao⟩:=info_parts infoInt;go_wp2
 go_loopw [9] (fun i wr=>∃ m:Nat,m<=p.row.length/\i=I U (m:Int)/\∃ sr,Hid (RK w wr C N tx (qA ns (15+m),false) { (⟨p.id,p.view,p.high,p.lock,p.last,[],[],[],[],[],[],0⟩:PE) with row:=p.row.take m } sr)) (fun i _=>p.row.length - (intOf i).toNat)
 case atStart=>exact ⟨0,Nat.zero_le _,rfl,_,az⟩
 case round=>
  obtain ⟨m,hm,rfl,sr,HY⟩:=hrel;have c2:=HY.cur.cells.2.2
  by_cases hlt:(m:Int) < p.row.length
  ·have ar:m < p.row.length:=by omega
   have bh:decide ((m:Int) < (p.row.length:Int))=true:=decide_eq_true hlt;obtain ⟨Q,hQ⟩:∃ Q:PE,Q={ (⟨p.id,p.view,p.high,p.lock,p.last,[],[],[],[],[],[],0⟩:PE) with row:=p.row.take m }:=⟨_,rfl⟩
   have HQ:Hid ({ (⟨p.id,p.view,p.high,p.lock,p.last,[],[],[],[],[],[],0⟩:PE) with row:=p.row.take (m+1) }=({ Q with row:=Q.row ++ [p.row[m]] }:PE)/\Q.row.length=m):=(by
    rw [hQ];refine ⟨?_,by show (p.row.take m).length=m;rw [List.length_take];omega⟩
    rw [List.take_succ_eq_append_getElem ar]:_/\_)
   rw [<- hQ] at HY;clear hQ;obtain ⟨x,hx⟩:=nw (p.row[m]);have bc:Hid (rdV tx (qA ns (15+m),false)=(x,(qA ns (15+(m+1)),false))):=hid (by rw [hx];exact a9.out m ar);rw [<- hx] at HQ;clear hx
   go_upto_region 12 with fail
   clear c2;refine p_rg (fun i=>decide (i < 7)) (fun x=>Bx x N (zA Q { zHD with row:=sr }) 35) ?_;show zX prog _ _ _ _ _ (7+1) (Array.replicate 8 false) _ _;have hS:Bx wr.drew N (zA Q { zHD with row:=sr }) 35:=HY.box;refine p_pt 0 49 N 14 hS ?_;refine zD 1 50 sr hS ?_ (hy:=by intro x hx;have bi:=zB hx 14 sr rfl;go_simp;try rfl);refine p_pt 2 51 C 0 hS ?_;have aw:=HY.more (show Be wr wr.drew from (br _ _).drew);refine kJ 3 52 216 #[.pointer (some ⟨C,0,none⟩)] ((rdV_s aw.cur f).mono ?_);rintro e y1 ⟨rfl,hr,hg⟩;rw [bc.out] at hr ⊢;simp only at hr ⊢;have c:=aw.read hg hr;clear hr hg hS;refine ⟨_,rfl,fun _=>c.box,?_⟩;simp only [pz];obtain ⟨y2,aa⟩:=nw (y1.alloc (.cells #[I U x] 3));have a6:Be y1 y2:=by rw [aa];exact yA _ _
   have b2:Bx y2 y1.heap.size #[I U x] 3:=by rw [aa];exact heap_alloc_new y1 _
   have ab:=c.more a6;refine p_on 4 ?_;refine xU (s:=4) (e':=some 53) rfl rfl rfl (.slice (some ⟨y1.heap.size,0,none⟩) 1 1) y2 ?_ ⟨fun _=>ab.box,?_⟩
   ·rw [aa];go_simp
    try rfl
   simp only [pz];clear aa;have bj:=HQ.2;refine qO (s:=5) (e':=some 54) rfl rfl rfl (.tmp 50) (.tmp 53) 29 rfl (by kernel_rfl) w.heap.size 3 li _ 1 8 underlying29 a7 am ax ao rfl (by decide) sr _ _ rfl ab.row ⟨y1.heap.size,0,none⟩ 1 1 [I U x] rfl rfl (World.news_of_block b2) (one_int x) (by decide) (by unfold maxLen;omega) (by omega) ab.below.size _ rfl ?_;intro g2 j z a3 a8 bg bd;obtain ⟨z0,z1,z2,z3⟩:=ab.grow a8;refine ⟨fun _=>z2,?_⟩;simp only [pz];refine zD 6 55 (.pointer (some ⟨N,14,none⟩)) z2 ?_;refine p_ce 7 N 14 (.slice (some ⟨g2,0,none⟩) (Q.row.length+1) j) (zA Q { zHD with row:=sr }) (zA { Q with row:=Q.row ++ [x] } { zHD with row:=.slice (some ⟨g2,0,none⟩) (Q.row.length+1) j }) z2 (by simp [zA]) rfl rfl ?_;intro y5 hg hk
   have bb:Hid (RK w y5 C N tx (qA ns (15+(m+1)),false) { Q with row:=Q.row ++ [x] } (.slice (some ⟨g2,0,none⟩) (Q.row.length+1) j)):=(by
    have aq:z.ownsRow w.heap.size 3 1 (.slice (some ⟨g2,0,none⟩) (Q.row.length+1) j) (Q.row ++ [x]).length (zE xJ (Q.row ++ [x])):=by rw [List.length_append,zY];simpa [zE,xJ] using a3
    exact ⟨gk hg z0 (qsn (by have:=c.hC;have:=c.hN;omega)),gk hg z1 (qsn (by have:=c.hN;omega)),hk,Aa aq hg (zH aq z2 (by decide)),z3.grown hg z3.size (fun k e=>by cases e;have:=c.hC;have:=c.hN;omega),c.hC,c.hN⟩:RK _ _ _ _ _ _ _ _)
   refine ⟨fun h=>absurd h (by decide),?_⟩;refine p_do ?_;go_wp2
   go_roundw
   case rel=>exact ⟨m+1,by omega,by go_num,_,by rw [HQ.out.1];exact bb.out⟩
   case measure=>simp [intOf];omega
  ·have a4:m=p.row.length:=by omega
   subst a4;have HQ:Hid (RK w wr C N tx (qA ns (15+p.row.length),false) (jO p) sr):=(by have h:=HY.out;rw [List.take_length] at h;exact h:RK _ _ _ _ _ _ _ _);clear HY
   have ae:Hid (zO w.heap.size wr.heap.size wr (jO p) { zHD with row:=sr }):=(by
    have hn:zO w.heap.size w.heap.size wr { jO p with row:=[] } zHD:=zO.other ⟨(nil_own w.heap.size wr p.id).1,({ (nil_own w.heap.size wr p.id).2.1 with l0:=(fun g e=>by cases e),l1:=(fun g e=>by cases e),l2:=(fun g e=>by cases e),l3:=(fun g e=>by cases e),l4:=(fun g e=>by cases e),l5:=(fun g e=>by cases e) }:kR _ _ _),HQ.below.size⟩ rfl rfl rfl rfl rfl rfl
    exact hn.setRow (l:=p.row) (v:=sr) HQ.below.size (nl _) HQ.row (fun g e=>(HQ.row.lt g e).2) (fun g e=>Or.inr (HQ.row.lt g e).1):zO _ _ _ _ _)
   have av:Hid (sealT (zGB (jO p))=T):=hid (by rw [keptP_tx,b.out.2.2.2.1];exact b.out.2.2.2.2);go_wp2_with (refine qB (by first | rfl | simp [Region.wanted,yielded]) _ _ rfl N rfl 35 _ (0,0) _ HQ.box underlying35 rfl (by kernel_rfl) ?_)
   refine (keptText_s (jO p) { zHD with row:=sr } wr ae.reads (keptP_ok HP).fit).mono ?_;rintro e wk ⟨rfl,ac⟩;rw [av.out];have HK:=hid (qad2 (HQ.more ac) ((ae.below ac).wide ac.size (nl _)));clear ac HQ ae av;have bl:(T.toList == T.toList)=true:=by simp
   have bf:(T.toList != T.toList)=false:=by simp
   go_wp2_with (first
    | (refine w_ld N HK.1.box underlying35 ?_)
    | (refine w_st w.heap.size (zA (jO p) { zHD with row:=sr }) HK.1.out (zJ HK.2.1) ?_;intro z hg hk hz;have HZ:Hid (Bx z w.heap.size (zA (jO p) { zHD with row:=sr }) 35/\zO w.heap.size z.heap.size z (jO p) { zHD with row:=sr }/\Be w z):=⟨hk,(HK.2.boxed HK.1.out hg).wide hg.size (nl _),HK.1.below.grown hg HK.1.below.size (fun k e=>by cases e;exact nl _)⟩;clear hg hk hz))
   refine b_pl (.tuple #[.agg (zA (jO p) { zHD with row:=sr }),.bool true]) results197 HZ.1 underlying35 ?_;exact ⟨_,rfl,HZ.2.1,HZ.2.2⟩
end Go.Proofs.YtfnneillakdopacGreatR
