/-
  Texts of ours that later ones lean on, in one: DrawP, EarK, Clone, CopyI, BackwI, MapN, MapI, TakeI, ToldI, CellsI, UndoAllI.
-/
import Derived.Test.YtfnneillakdopacGreatRK1
import Derived.Test.YtfnneillakdopacGreatRAnyPZ
import Derived.Test.YtfnneillakdopacGreatRK10
import Derived.Shelf.LaysM
import Derived.Shelf.Strconv.Clone
import Derived.Test.YtfnneillakdopacGreatRRows
import Derived.WalkKit
import Derived.Test.YtfnneillakdopacGreatRK4
import Derived.Deep.RegionHeld3
import Derived.Deep.AppendLies
import Derived.RangeFuncNested
import Derived.RangeFuncBound
import Derived.RangeFuncCalls
import Derived.RangeFuncLeaves
import Derived.Shelf.Abstract
import Derived.Shelf.RegionOpen
import Derived.OwnWalkIn
import Derived.TacticsInMore
import Derived.LoopNIn
import Derived.LoopIn
import Derived.Maps.OwnSet
import Derived.Sort.KeysCollected
import Derived.Test.YtfnneillakdopacGreatRIter
import Derived.Maps.OwnIn
import Derived.Sort.MapsRangeIn
set_option maxRecDepth 100000
set_option maxHeartbeats 32000000
namespace Go.Proofs.YtfnneillakdopacGreatR
open _root_.Go.Proofs.Tryz
open Go.Value renaming int->I,string->Aj,ownBlock->Ak
open Go.IntKind renaming i64->U
open Option renaming none->Aa,some->Ab
open Nat renaming zero_le->Ac
open Option.some renaming inj->Ad
open List renaming getElem_mem->Ae,getElem?_eq_getElem->Ah,length_take->Al,take_length->Am,length_cons->An
open Go.World.ownsRow renaming kept->Af,alloc->Ag
open Go.Obj renaming cells->Ai
open Go.RowKit Num
variable {cs:CL} {D:DataW Unit} {k:Int} {t:List BK} {b n:Nat} {p:PE} {w:World}
theorem drawPeer_any {ao:Option Addr} {len cap off:Nat} (hc:Code w ao len b off) :
  Calls prog 8 #[.slice ao len cap] w fun e w'=>∃ ps v p t,e=.returned (.tuple #[v,yZ p t])/\smT (bks ps)/\(smP 30 p/\p.view<=31/\KA (bks ps) p)/\xH w' w.heap.size v ps/\zO w.heap.size w'.heap.size w' p t/\Be w w':=by
 obtain ⟨W,hW⟩:=nw (w.alloc (.cells zF 35))
 have HW:Hid (Code W ao len b off/\Bx W w.heap.size zF 35/\Be w W):=(by
  have hb:Be w W:=by rw [hW];exact yA _ _
  exact ⟨hc.below hb,by rw [hW];exact heap_alloc_new _ _,hb⟩:_/\_)
 clear hc;unfold zF at hW;go_enter func8,ntmps8;go_wp2_with (rw [<- hW];clear hW)
 refine (new_any HW.1).mono ?_;rintro e w1 ⟨N,rfl,hN,hS,hb⟩;have H1:Hid (St w1 N ao len cap b off/\Bx w1 w.heap.size zF 35/\Be w w1/\w.heap.size < N):=⟨hS,bk hb HW.2.1,bt HW.2.2 hb,Nat.lt_of_lt_of_le (gl HW.2.1) hN⟩;clear hN hS hb HW;go_wp2_with fail
 refine (some_st H1.1).mono ?_;rintro e w2 ⟨ps,v,p,t,rfl,d,f,hT,hD,-,hg⟩;have HT:=hid d;have HP:=hid f;have H2:=hid (qad4 (gk hg H1.2.1 (qsn (by have:=H1.2.2.2;omega))) (H1.2.2.1.grown hg H1.2.2.1.size (qkk (by have:=H1.2.2.2;omega))) (hT.base H1.2.2.1.size) (hD.low H1.2.2.1.size));clear d f hT hD hg H1;obtain ⟨gt,ct,g⟩:∃ gt ct,v=.slice gt ps.length ct:=(by obtain ⟨a,c,e,-⟩:=H2.2.2.1.read.q.1;exact ⟨a,c,e⟩:∃ gt ct,v=.slice gt ps.length ct);subst g;go_wp2_with (refine w_st w.heap.size (zA p t) H2.1 (zJ H2.2.2.2.1) ?_;intro z hg hk hz;have HZ:=hid (qad4 hk (H2.2.1.grown hg H2.2.1.size (qkk (by omega))) (H2.2.2.1.boxed H2.1 hg) ((H2.2.2.2.boxed H2.1 hg).wide hg.size (nl _)));clear hg hk hz H2)
 refine bodyPost_ret (v:=.tuple #[.slice gt ps.length ct,.agg (zA p t)]) (qF results8 _ _ w.heap.size 35 _ (0,0) _ _ rfl rfl HZ.1 underlying35 rfl (by kernel_rfl)) rfl ?_;exact ⟨ps,_,p,t,rfl,HT,HP,HZ.2.2.1,HZ.2.2.2,HZ.2.1⟩
theorem ear_back (h:KA t p) (k:Int):xY (yDF t p k).cells (yDF t p k).undos=zGF t [] p.row:=(early_ka h k).base
theorem ear_thr (h:KA t p) (hx:yBI t k (qS p.row)=true) :
  (kO t (yDF t p k) k).row=(kO t p k).row/\(kO t (yDF t p k) k).cells=(kO t p k).cells/\(kO t (yDF t p k) k).cells=zGF t [] (kO t (yDF t p k) k).row/\(kO t (yDF t p k) k).early=[]/\(kO t p k).row=p.row ++ kB t k (qS p.row):=by
 have e1:kO t (yDF t p k) k=jW t (jC (yDF t p k)) (kB t k (qS p.row)):=if_pos hx;have e2:kO t p k=jW t (jC p) (kB t k (qS p.row)):=if_pos hx;rw [e1,e2];refine ⟨rfl,?_,?_,rfl,rfl⟩
 ·show zGF t (xY (yDF t p k).cells (yDF t p k).undos) _=zGF t (xY p.cells p.undos) _;rw [ear_back h,h.base]
 ·show zGF t (xY (yDF t p k).cells (yDF t p k).undos) _=zGF t [] (p.row ++ _);rw [ear_back h,rowC_app]
theorem thr_no (hx:yBI t k (qS p.row)=false):kO t p k=p:=if_neg (by rw [hx];decide)
theorem row_pos (hx:yBI t k (qS p.row)=true) (hk:0 < k):0 < (p.row ++ kB t k (qS p.row)).length:=by
 by_cases h0:p.row=[]
 ·rw [h0] at hx ⊢;have el:qS []=0:=rfl;rw [el] at hx ⊢
  cases hd:qH t k with
  | none=>unfold yBI at hx;rw [hd] at hx;cases hx
  | some l=>
   have hm:k∈rowI t k:=by
    rw [zJF hd];unfold qH at hd
    split at hd
    ·rename_i hc
     obtain ⟨m,hm⟩:∃ m,k.toNat=m+1:=⟨k.toNat - 1,by omega⟩;rw [hm] at hd
     cases hn:t.length with
     | zero=>omega
     | succ n=>
      rw [hn] at hd;unfold zAD at hd
      split at hd
      ·cases he:zAD t n (zDI t (m+1)).toNat with
       | none=>rw [he] at hd;cases hd
       | some r=>
        rw [he] at hd;injection hd with hd
        subst hd;unfold qG;refine List.mem_map.2 ⟨m+1,?_,by omega⟩;simp
      ·cases hd
    ·cases hd
   have ha:k∈kB t k 0:=by
    unfold kB;rw [if_pos hx];exact List.mem_filter.2 ⟨hm,by simpa using hk⟩
   exact List.length_pos_of_mem ha
 ·rw [List.length_append];have:0 < p.row.length:=List.length_pos_iff.2 h0;omega
open Go.Shelf
def lays316_ren:Go.Shelf.Ren:=⟨fun | 316=>172 | n=>n,fun | 9=>9 | 3=>3 | 4=>4 | 37=>22 | 0=>0 | 127=>250 | 5=>5 | n=>n,fun | n=>n⟩
theorem lays316:Go.Proofs.LaysM.n316 prog lays316_ren:={
 mixed:=by kernel_rfl
 f316:=func172.trans (congrArg some (by kernel_rfl))
 t0:=underlying0
 a0:=Tryz.isAgg0
 z0:=Tryz.sizeOf0
 v0:=Tryz.zeroValue0
 t3:=underlying3
 a3:=Tryz.isAgg3
 z3:=Tryz.sizeOf3
 v3:=Tryz.zeroValue3
 t4:=underlying4
 a4:=Tryz.isAgg4
 z4:=Tryz.sizeOf4
 v4:=Tryz.zeroValue4
 t9:=underlying9
 a9:=Tryz.isAgg9
 z9:=Tryz.sizeOf9
 v9:=Tryz.zeroValue9
 t37:=underlying22
 a37:=Tryz.isAgg22
 z37:=Tryz.sizeOf22
 v37:=Tryz.zeroValue22
 t127:=underlying250
 a127:=Tryz.isAgg250
 z127:=Tryz.sizeOf250
 v127:=Tryz.zeroValue250
 t5:=underlying5
 a5:=Tryz.isAgg5
 z5:=Tryz.sizeOf5
 v5:=Tryz.zeroValue5
 i0:=by kernel_rfl
 i3:=by kernel_rfl
 i4:=by kernel_rfl
 i5:=by kernel_rfl
 i9:=by kernel_rfl
 i37:=by kernel_rfl
 i127:=by kernel_rfl }
theorem slclone (s:ByteArray) (w:World) (hlim:s.size<=281474976710656) :
  Calls prog 172 #[.string s] w fun e w'=>e=.returned (.string s)/\Be w w':=Any.stringslite_Clone lays316 s w hlim
theorem clone (s:ByteArray) (w:World) (hlim:s.size<=281474976710656) :
  Calls prog 125 #[.string s] w fun e w'=>e=.returned (.string s)/\Be w w':=by
 go_enter func125,ntmps125;go_wp2_with (go_at_call 172;refine (slclone _ _ hlim).mono ?_;rintro e w' ⟨rfl,hb⟩)
 go_ret;exact ⟨rfl,hb⟩
theorem newsC (W:World) (k:ByteArray) (n:Int) (t:TypeId):∀ j u,([.string k,I U n]:List Value)[j]?=some u->(W.alloc (.cells #[.string k,I U n] t)).cell? ((⟨W.heap.size,0,Aa⟩:Addr).add j)=some u:=by
 intro j u hj
 match j,hj with
 | 0,hj=>simp at hj;subst hj;simp [Addr.add]
 | 1,hj=>simp at hj;subst hj;simp [Addr.add]
theorem onesC (k:ByteArray) (n:Int):∀ u∈([.string k,I U n]:List Value),u.oneCell'=true:=by
 intro u hu;simp at hu;rcases hu with h | h <;> subst h <;> rfl
theorem take_snoc' {k:Nat} (h:k < cs.length):cs.take (k+1)=cs.take k ++ [cs[k]]:=by
 rw [List.take_add_one,Ah h];rfl
theorem copy_i (cs:CL) (v:Value) (w:World) (hv:qQ w v cs) (hl:(cs.length:Int)<=1048576) (hall:∀ c∈cs,(c.1.size:Int)<=1048576) :
  Calls prog 84 #[v] w fun e w'=>∃ v',e=.returned v'/\w'.ownsRow w.heap.size 92 2 v' cs.length (kM cs)/\Be w w':=by
 have HZ:=hid hall;obtain ⟨a,cap,rfl,hr⟩:=hv;have HR:=hid hr;obtain ⟨i0,hi,ad,ab,ae⟩:=info_parts infoC;clear hall hr;go_enter func84,ntmps84;go_wp2_with (at_make;refine wpList_make_own _ rfl _ _ 30 rfl w.heap.size 92 i0 _ 2 underlying30 hi ad ab _ _ _ cs.length rfl rfl rfl (by rw [ae];omega) (by unfold maxLen;omega) (nl _) ?_;intro w0 n d)
 have B0:Be w w0:=(br _ _).grown d (nl _) (fun k h=>by cases h);have ai:Hid (w0.ownsRow w.heap.size 92 2 (.slice (Ab ⟨w.heap.size,0,Aa⟩) 0 cs.length) 0 []):=n;have ag:Hid (Be w w0):=B0;clear n d B0
 go_loopw [3,11] (fun o i wr=>∃ k:Nat,k<=cs.length/\i=I U (k:Int)/\wr.ownsRow w.heap.size 92 2 o k (kM (cs.take k))/\Be w wr) (fun _ i _=>cs.length - (intOf i).toNat)
 case atStart=>exact ⟨0,Ac _,rfl,ai,ag⟩
 case round=>
  obtain ⟨k,hk,rfl,r,l⟩:=hrel;have HO:Hid (wr.ownsRow w.heap.size 92 2 u3 k (kM (cs.take k))):=r;have HB:Hid (Be w wr):=l;have ao:=l.size;clear r l
  by_cases hlt:(k:Int) < cs.length
  ·have p:k < cs.length:=by omega
   obtain ⟨g,t,rfl,hg,hc⟩:=HR (by omega);have q0:(0:Int)<=(k:Int):=by omega
   have c0:wr.cell? ⟨g,t+k * 2,Aa⟩=Ab (.string cs[k].1):=by rw [HB.out.cell (by exact hg)];exact (hc k p).1
   have c1:wr.cell? ⟨g,t+k * 2+1,Aa⟩=Ab (I U cs[k].2):=by rw [HB.out.cell (by exact hg)];exact (hc k p).2
   have y:cs[k].1.size<=281474976710656:=by have:=HZ cs[k] (Ae p);omega
   obtain ⟨ws,f⟩:=nw (wr.alloc (Ai #[Aj cs[k].1,I U cs[k].2] 92));have z:ws.heap.size=wr.heap.size+1:=by rw [f];simp
   have HS:Hid (∀ w',Be ws w'->w'.cell? ⟨wr.heap.size,0,Aa⟩=Ab (.string cs[k].1)/\w'.cell? ⟨wr.heap.size,1,Aa⟩=Ab (I U cs[k].2)):=fun w' hb=>by
    constructor <;> rw [hb.cell (by simp [z]),f] <;> simp
   have ap:Hid (ws=wr.alloc (Ai #[Aj cs[k].1,I U cs[k].2] 92)):=f;have BS:Hid (Be wr ws):=by rw [f];exact ba (br _ _) _
   have af:Hid (ws.ownsRow w.heap.size 92 2 u3 k (kM (cs.take k))):=zS HO BS.out;clear hc;go_wp2;rw [<- f];clear f
   go_region_held3 (fun w'=>w'.cell? ⟨wr.heap.size,0,Aa⟩=Ab (.string cs[k].1)/\w'.cell? ⟨wr.heap.size,1,Aa⟩=Ab (I U cs[k].2)) (first | exact HS _ (br _ _).drew | exact HS _ j | exact HS _ (ba j _) | exact ac) (first | (refine step_append_lies _ (by rfl) (.tmp 15) (.tmp 22) 30 (by rfl) w.heap.size 92 i0 _ 2 24 underlying30 hi ad ab ae rfl (by decide) _ _ _ (by rfl) (Ag aa _) ⟨World.heap _ |>.size,0,Aa⟩ 1 1 [.string cs[k].1,I U cs[k].2] (by rfl) rfl (newsC _ _ _ _) (onesC _ _) (by decide) (by unfold maxLen;omega) (by omega) (by simp;omega) _ rfl ?_;intro g2 s w3 m b ah ak;clear ah ak;have aj:Be w w3:=(ba (bt (bt HB BS.out) j) _).grown b (by simp;omega) (fun x hx=>(aa.lt x hx).1);have ac:w3.cell? ⟨wr.heap.size,0,Aa⟩=Ab (.string cs[k].1)/\w3.cell? ⟨wr.heap.size,1,Aa⟩=Ab (I U cs[k].2):=(by have h2:=HS _ (ba j (Ai #[Aj cs[k].1,I U cs[k].2] 92));rw [<- h2.1,<- h2.2];exact ⟨yAD b (by simp;omega) (fun e=>by have:=(HO.lt _ e).2;omega),yAD b (by simp;omega) (fun e=>by have:=(HO.lt _ e).2;omega)⟩)) | (go_at_call 125;refine (clone _ _ y).mono ?_;rintro e w2 ⟨rfl,al⟩;have j:Be ws w2:=(br _ _).drew.trans al;have aa:Hid (w2.ownsRow w.heap.size 92 2 u3 k (kM (cs.take k))):=zS af j;have an:=j.size))
   all_goals
    have am:Hid (w3.ownsRow w.heap.size 92 2 (.slice (Ab ⟨g2,0,Aa⟩) (k+1) s) (k+1) (kM (cs.take k) ++ [.string cs[k].1,I U cs[k].2])):=m;clear m b ac;go_wp2
    go_roundw
    case rel=>exact ⟨k+1,by omega,by go_num,by rw [take_snoc' p,flat_append];exact am.out,aj⟩
    case measure=>simp [intOf];omega
  ·have u:k=cs.length:=by omega
   have HK:Hid (k=cs.length):=u;clear u;go_wp2;go_ret;have:=HO.out;rw [HK.out,Am] at this;exact ⟨_,rfl,this,HB⟩
attribute [local go_sem] Oper.semAt_some
abbrev US:={ u:UN // (u.1.size:Int)<=1048576 }
abbrev BI:=Nat × US
def us0:US:=⟨(ByteArray.empty,false,0),by decide⟩
def encB (x:BI):Array Value:=#[I U (x.1:Int),undoV x.2.1]
def backAt (us:List US) (k:Nat):BI:=(us.length - 1 - k,us[us.length - 1 - k]?.getD us0)
def backTo (us:List US) (k:Nat):List BI:=(List.range k).map (backAt us)
theorem backTo_succ (us:List US) (k:Nat):backTo us (k+1)=backTo us k ++ [backAt us k]:=by simp [backTo,List.range_succ]
theorem backTo_len (us:List US) (k:Nat):(backTo us k).length=k:=by simp [backTo]
def KpB (n₀ Bs:Nat) (A B:World):Prop:=Below n₀ A B/\B.heap[Bs]?=A.heap[Bs]?
theorem kpB_refl (n₀ Bs:Nat) (A:World):KpB n₀ Bs A A:=⟨br _ _,rfl⟩
theorem kpB_t {n₀ Bs:Nat} {A B C:World} (h:KpB n₀ Bs A B) (k:KpB n₀ Bs B C):KpB n₀ Bs A C:=⟨h.1.trans k.1,k.2.trans h.2⟩
theorem kpB_b {n₀ Bs:Nat} (hn:n₀<=w.heap.size) (hB:Bs < w.heap.size) (W:World) (l:Nat) (o o':Obj) (hl:w.heap.size<=l) (h:W.heap[l]?=some o) (h1:o.isCells=false) (h2:o.isWalk=false):KpB n₀ Bs W (W.putObj l o'):=
 ⟨belowK_b hn W l o o' hl h h1 h2,World.putObj_heap_other (by omega)⟩
theorem back1_in (F:Fence) (n:Nat) (hf:F.fn 173) (hro:F.round=none) (hn:1<=n) (l Bs n₀ b off cap:Nat) (us:List US) (hlen:(us.length:Int)<=1048576) (hb:b < n₀) (J Jx:List BI->World->Prop)
  (hY:∀ pre x W,J pre W->pre.length < us.length->YieldAt F (n - 1) prog l (encB x) W fun e W'=>
   (e=.returned (.bool true)/\J (pre ++ [x]) W'/\KpB n₀ Bs W W')∨(e=.returned (.bool false)/\Jx (pre ++ [x]) W'))
  (W:World) (hBs:W.cell? ⟨Bs,0,Aa⟩=Ab (.slice (Ab ⟨b,off,Aa⟩) us.length cap)) (hc:∀ j (h:j < us.length) i,i < 3->W.cell? ⟨b,off+j * 3+i,Aa⟩=(kK us[j].1)[i]?) (h0:J [] W) :
  CallsIn F n prog 173 #[.func (.yield l) #[] #[],.pointer (Ab ⟨Bs,0,Aa⟩)] W fun e W'=>(∃ v,e=.returned v)/\
   ((∃ ys,ys=backTo us us.length/\J ys W')∨(∃ pre,(∃ k,k<=us.length/\pre=backTo us k)/\Jx pre W')):=by
 refine callsIn_of_wp func173 rfl hf ?_ hro;simp only [ntmps173,List.size_toArray,An,List.length_nil,Nat.reduceAdd,Nat.reduceSub,Array.replicate_succ,Array.replicate_zero,List.push_toArray,List.append_toArray,List.nil_append,List.cons_append];have HC:Hid (∀ j (h:j < us.length) i,i < 3->W.cell? ⟨b,off+j * 3+i,Aa⟩=(kK us[j].1)[i]?):=hc;have HB:Hid (W.cell? ⟨Bs,0,Aa⟩=Ab (.slice (Ab ⟨b,off,Aa⟩) us.length cap)):=hBs;clear hc
 gi_wp2
 clear hBs
 gi_loopw [3] (fun i wr=>∃ k:Nat,k<=us.length/\i=I U ((k:Int) - 1)/\J (backTo us (us.length - k)) wr/\KpB n₀ Bs W wr)
  (fun i _=>(intOf i+1).toNat)
 case atStart=>exact ⟨us.length,nl _,rfl,by rw [Nat.sub_self];exact h0,kpB_refl _ _ _⟩
 case round=>
  obtain ⟨k,hk,rfl,c,a⟩:=hrel
  cases k with
  | zero=>
   rw [show (((0:Nat):Int) - 1)=-1 from rfl]
   gi_wp2
   go_end0
   exact ⟨⟨_,rfl⟩,.inl ⟨_,rfl,c⟩⟩
  | succ j=>
   have hj:j < us.length:=by omega
   have s:wr.cell? ⟨Bs,0,Aa⟩=Ab (.slice (Ab ⟨b,off,Aa⟩) us.length cap):=by rw [World.cell?_of_block (w:=W) a.2];exact HB.out
   have c0:wr.cell? ⟨b,off+j * 3,Aa⟩=Ab (.string us[j].1.1):=by rw [a.1.cell (by exact hb)];exact HC.out j hj 0 (by omega)
   have c1:wr.cell? ⟨b,off+j * 3+1,Aa⟩=Ab (.bool us[j].1.2.1):=by rw [a.1.cell (by exact hb)];exact HC.out j hj 1 (by omega)
   have c2:wr.cell? ⟨b,off+j * 3+2,Aa⟩=Ab (I U us[j].1.2.2):=by rw [a.1.cell (by exact hb)];exact HC.out j hj 2 (by omega)
   have d:backAt us (us.length - (j+1))=(j,us[j]):=by
    unfold backAt;rw [show us.length - 1 - (us.length - (j+1))=j by omega,Ah hj];rfl
   obtain ⟨fn,r,m,t,hy,hR⟩:=hY _ (j,us[j]) wr c (by rw [backTo_len];omega);unfold encB undoV at hy
   dsimp only at hy
   rw [show (((j+1:Nat):Int) - 1)=(j:Int) by omega];have q0:(0:Int)<=(j:Int):=by omega
   have q1:(j:Int) < us.length:=by omega
   have HN:=hid a;have g:Hid (backAt us (us.length - (j+1))=(j,us[j])):=d;clear a d
   gi_wp2
   refine hR.mono ?_;rintro e W3 (⟨rfl,p,o⟩ | ⟨rfl,f⟩)
   ·gi_wp2
    go_roundw
    case rel=>exact ⟨j,by omega,rfl,by rw [show us.length - j=us.length - (j+1)+1 by omega,backTo_succ,g.out];exact p,kpB_t HN o⟩
    case measure=>simp [intOf]
   ·gi_wp2
    refine bodyPost_ret (results_none rfl _ _ _) rfl ?_;exact ⟨⟨_,rfl⟩,.inr ⟨_,⟨us.length - (j+1)+1,by omega,by rw [backTo_succ,g.out]⟩,f⟩⟩
theorem back1_nil_in (F:Fence) (n:Nat) (hf:F.fn 173) (hro:F.round=none) (l Bs:Nat) (a:Option Addr) (cap:Nat) (J:List BI->World->Prop) (W:World) (hBs:W.cell? ⟨Bs,0,Aa⟩=Ab (.slice a 0 cap)) (h0:J [] W) :
  CallsIn F n prog 173 #[.func (.yield l) #[] #[],.pointer (Ab ⟨Bs,0,Aa⟩)] W fun e W'=>(∃ v,e=.returned v)/\J [] W':=by
 refine callsIn_of_wp func173 rfl hf ?_ hro;simp only [ntmps173,List.size_toArray,An,List.length_nil,Nat.reduceAdd,Nat.reduceSub,Array.replicate_succ,Array.replicate_zero,List.push_toArray,List.append_toArray,List.nil_append,List.cons_append]
 gi_wp2
 gi_loopw [3] (fun i wr=>i=I U (-1)/\J [] wr) (fun _ _=>0)
 case atStart=>exact ⟨rfl,h0⟩
 case round=>
  obtain ⟨rfl,b⟩:=hrel
  gi_wp2
  go_end0
  exact ⟨⟨_,rfl⟩,b⟩
theorem backward_in (F:Fence) (n:Nat) (hf:F.fn 126) (hro:F.round=none) (a:Option Addr) (len cap:Nat) (w:World) :
  CallsIn F n prog 126 #[.slice a len cap] w fun e w'=>e=.returned (.func (.func 173) #[] #[.pointer (Ab ⟨w.heap.size,0,Aa⟩)])/\w'=w.alloc (.cells #[.slice a len cap] 31):=by
 refine callsIn_of_wp func126 rfl hf ?_ hro;simp only [ntmps126,List.size_toArray,An,List.length_nil,Nat.reduceAdd,Nat.reduceSub,Array.replicate_succ,Array.replicate_zero,List.push_toArray,List.append_toArray,List.nil_append,List.cons_append]
 gi_wp2
 go_ret;exact ⟨rfl,rfl⟩
theorem backward_stops (F:Fence) (n:Nat) (hf:F.fn 173) (hro:F.round=none) (hn:1<=n) (Bs n₀:Nat) (a:Option Addr) (cap:Nat) (us:List US) (hlen:(us.length:Int)<=1048576) (w:World) (hBs:Bs < w.heap.size) (hn₀:n₀<=w.heap.size)
  (hc:w.cell? ⟨Bs,0,Aa⟩=Ab (.slice a us.length cap)) (hI:0 < us.length->∃ g off,a=Ab ⟨g,off,Aa⟩/\g < n₀/\∀ j (h:j < us.length) i,i < 3->w.cell? ⟨g,off+j * 3+i,Aa⟩=(kK us[j].1)[i]?) :
  SeqStopsK F n prog 173 #[.pointer (Ab ⟨Bs,0,Aa⟩)] encB (KpB n₀ Bs) (fun ys=>ys=backTo us us.length) (fun pre=>∃ k,k<=us.length/\pre=backTo us k) us.length w:=fun l J Jx W hW _ _ hY h0=>by
 have b:=(hW.cell (p:=⟨Bs,0,Aa⟩) hBs).trans hc
 by_cases h:0 < us.length
 ·obtain ⟨g,off,rfl,hg,c⟩:=hI h;exact back1_in F n hf hro hn l Bs n₀ g off cap us hlen hg J Jx hY W b (fun j hj i hi=>((hW.mono hn₀).cell (p:=⟨g,off+j * 3+i,Aa⟩) hg).trans (c j hj i hi)) h0
 ·have e:us.length=0:=by omega
  rw [e] at b;exact (back1_nil_in F n hf hro l Bs a cap J W b h0).mono fun e' W' ⟨he,hj⟩=>⟨he,.inl ⟨_,rfl,by rw [e];exact hj⟩⟩
open Go.Maps
theorem keyedS:Keyed prog 9:=string_keyed underlying9
def lk (k:ByteArray):Lit:=.string k.data.toList
theorem lk_inj {a b:ByteArray} (h:lk a=lk b):a=b:=by
 apply ByteArray.ext;apply Array.ext';unfold lk at h;injection h
theorem lk_key (k:ByteArray):WideAt.IsKeyLit (lk k):=trivial
def i64D (n:Int):DataW Unit:=.lit (.int U n)
def Rep (D:DataW Unit) (cs:CL):Prop:=Maps.size D=cs.length/\(∀ k,Maps.has D (lk k)=zBB cs k)/\∀ c∈cs,D.atKey (lk c.1) (i64D 0)=i64D c.2
theorem rep_nil:Rep (.map []) []:=⟨rfl,fun _=>rfl,fun c h=>by cases h⟩
theorem rep_put (hD:Tidy D) (h:Rep D cs) (hA:Asc cs) (x:ByteArray × Int):Rep (D.put (lk x.1) (i64D x.2)) (putC cs x):=by
 obtain ⟨hs,hh,ha⟩:=h;refine ⟨?_,fun k=>?_,fun c hc=>?_⟩
 ·rw [size_put hD,hh,hs];have:=len_putC (x:=x) hA
  cases hb:zBB cs x.1 with
  | true=>rw [hb] at this;simp at this ⊢;omega
  | false=>rw [hb] at this;simp at this ⊢;omega
 ·rw [hasK_putC]
  by_cases e:x.1=k
  ·subst e;rw [has_put_same hD.isMap (lk_key _)];simp
  ·rw [has_put_other (fun e'=>e (lk_inj e').symm),hh];simp [e]
 ·rcases mem_putC.1 hc with rfl | ⟨hc,hn⟩
  ·exact atKey_put_same hD.isMap (lk_key _) _ _
  ·rw [atKey_put_other (fun e'=>hn (lk_inj e'))];exact ha c hc
theorem rep_undo (hD:Tidy D) (h:Rep D cs) {k:ByteArray} (hn:zBB cs k=false) (d:DataW Unit):Rep ((D.put (lk k) d).del (lk k)) cs:=by
 obtain ⟨hs,hh,ha⟩:=h;have hT:=hD.put (k:=lk k) (lk_key _) d;refine ⟨?_,fun j=>?_,fun c hc=>?_⟩
 ·have h1:=size_del (k:=lk k) hT;have h2:=size_put (k:=lk k) hD d;rw [has_put_same hD.isMap (lk_key _)] at h1;rw [hh,hn] at h2;simp at h1 h2;omega
 ·by_cases e:j=k
  ·subst e;rw [has_del_same,hn]
  ·rw [has_del_other (fun e'=>e (lk_inj e')),has_put_other (fun e'=>e (lk_inj e')),hh]
 ·have e:c.1 ≠ k:=hasK_no.1 hn c hc;rw [atKey_del_other (fun e'=>e (lk_inj e')),atKey_put_other (fun e'=>e (lk_inj e'))];exact ha c hc
theorem rep_same (h:Rep D cs) {j:Nat} (hj:j < cs.length):D.atKey (lk cs[j].1) (i64D 0)=i64D cs[j].2:=h.2.2 _ (Ae hj)
def MapIs (w:World) (b:Nat) (cs:CL):Prop:=∃ D:DataW Unit,w.ownsMap prog 9 (plainElem prog 3) b cs.length D/\Rep D cs
theorem tight (h:w.ownsMap prog 9 (plainElem prog 3) b n D) (hr:Rep D cs):MapIs w b cs:=by
 refine ⟨D,?_,hr⟩;have hs:=hr.1;obtain ⟨es,a,hb,F,_,rfl⟩:=h;refine ⟨es,a,hb,F,?_,rfl⟩;rw [size_eq,length_sorted] at hs;simp at hs;omega
theorem MapIs.kept {w':World} {r:Option Nat} (h:MapIs w b cs) (hg:w.grownBy w' r) (hne:some b ≠ r):MapIs w' b cs:=by
 obtain ⟨D,hD,hr⟩:=h;exact ⟨D,hD.kept hg hne,hr⟩
theorem MapIs.below {w':World} (h:MapIs w b cs) (hb:Be w w'):MapIs w' b cs:=h.kept (qR hb) (by simp)
theorem MapIs.lt (h:MapIs w b cs):b < w.heap.size:=by obtain ⟨D,hD,_⟩:=h;exact hD.lt
theorem row_not_map {base m:Nat} {e:TypeId} {v:Value} {xs:List Value} (h:w.ownsRow base e m v n xs) (hm:MapIs w b cs):some b ≠ v.ownBlock:=by
 intro he;obtain ⟨D,⟨es,a,hb,_⟩,_⟩:=hm;obtain ⟨_,⟨rfl,_⟩ | ⟨g,cap,c,rfl,_,hh,_⟩⟩:=h
 ·simp [Ak] at he
 ·have:b=g:=by simpa [Ak] using he
  subst this;rw [hb] at hh;cases hh
theorem rep_del (hD:Tidy D) (h:Rep D cs) (hA:Asc cs) (k:ByteArray):Rep (D.del (lk k)) (cs.filter fun c=>decide (c.1 ≠ k)):=by
 obtain ⟨hs,hh,ha⟩:=h
 have a:∀ j,zBB (cs.filter fun c=>decide (c.1 ≠ k)) j=(decide (j ≠ k) && zBB cs j):=fun j=>by
  rw [Bool.eq_iff_iff,yEI,Bool.and_eq_true,yEI]
  constructor
  ·rintro ⟨c,hc,rfl⟩;have:=List.mem_filter.1 hc;exact ⟨this.2,c,this.1,rfl⟩
  ·rintro ⟨hj,c,hc,rfl⟩;exact ⟨c,List.mem_filter.2 ⟨hc,hj⟩,rfl⟩
 refine ⟨?_,fun j=>?_,fun c hc=>?_⟩
 ·have h1:=size_del (k:=lk k) hD;rw [hh,hs] at h1;have h2:=len_drop (k:=k) hA
  split at h1
  ·rename_i hy;rw [hy] at h2;simp only [if_true] at h2;omega
  ·rename_i hy;rw [if_neg hy] at h2;omega
 ·rw [a]
  by_cases e:j=k
  ·subst e;rw [has_del_same];simp
  ·rw [has_del_other (fun e'=>e (lk_inj e')),hh];simp [e]
 ·have:=List.mem_filter.1 hc;have e:c.1 ≠ k:=by simpa using this.2
  rw [atKey_del_other (fun e'=>e (lk_inj e'))];exact ha c this.1
theorem map_made (w:World):MapIs (w.alloc (.map #[] 0)) w.heap.size []:=⟨.map [],World.ownsMap_made w _ _ _,rep_nil⟩
theorem putC_last {xs:CL} {x:ByteArray × Int} (h:∀ c∈xs,kLt c.1 x.1=true):putC xs x=xs ++ [x]:=by
 unfold putC;rw [List.filter_eq_self.2 h,List.filter_eq_nil_iff.2 fun c hc=>by rw [kLt_asym (h c hc)];simp]
theorem putC_take (hA:Asc cs) {k:Nat} (hk:k < cs.length):putC (cs.take k) cs[k]=cs.take (k+1):=by
 rw [putC_last,List.take_add_one,Ah hk]
 ·rfl
 intro c hc;obtain ⟨i,hi,rfl⟩:=List.mem_iff_getElem.1 hc;rw [Al] at hi;rw [List.getElem_take];exact List.pairwise_iff_getElem.1 hA i k (by omega) hk (by omega)
theorem asc_take (hA:Asc cs) (k:Nat):Asc (cs.take k):=List.Pairwise.sublist (List.take_sublist _ _) hA
theorem keys_sorted (h:w.ownsMap prog 9 (plainElem prog 3) b n D) (hr:Rep D cs) (hA:Asc cs) {ss:List (List UInt8)} (hp:ss.Perm (strKeys D)) :
  ss.mergeSort (fun x y=>decide (x<=y))=cs.map fun c=>c.1.data.toList:=by
 have g:(cs.map fun c=>c.1.data.toList).Nodup:=by
  refine List.pairwise_map.2 (hA.imp fun {a b} d e=>?_);have:=kLt_iff.1 d;rw [e] at this;exact List.lt_irrefl _ this
 have hc:Collected D (fun _=>false) (cs.map fun c=>c.1.data.toList):=by
  refine ⟨g,fun x=>?_⟩;have e:Maps.has D (.string x)=zBB cs ⟨x.toArray⟩:=hr.2.1 ⟨x.toArray⟩;rw [e,yEI]
  constructor
  ·intro hx;obtain ⟨c,hc,rfl⟩:=List.mem_map.1 hx;exact ⟨⟨c,hc,by apply ByteArray.ext;apply Array.ext';simp⟩,rfl⟩
  ·rintro ⟨⟨c,hc,f⟩,_⟩;exact List.mem_map.2 ⟨c,hc,by rw [f]⟩
 have i:=hc.perm h keyedS underlying9 fun _=>rfl
 rw [show (ss.mergeSort fun x y=>decide (x<=y))=ss.mergeSort leB from rfl,mergeSort_of_perm (hp.trans i.symm)];refine List.mergeSort_of_pairwise (List.pairwise_map.2 (hA.imp fun {a b} d=>?_));simp only [leB,decide_eq_true_eq];exact List.le_of_lt (kLt_iff.1 d)
theorem zeroI (w:World):(zeroValue 3).run prog w=.ok (I U 0) w:=by kernel_rfl
theorem mapT:prog.underlying 142=Ab (.map 9 3):=underlying142
theorem makeM (t:TypeId) (n:Int) (w:World) (ht:prog.underlying t=Ab (.map 9 3)):(Instr.makeMap t (Ab (I U n))).run prog w=.ok (.map (some w.heap.size)) (w.alloc (.map #[] 0)):=by
 simp [Instr.makeMap,run_underlying ht,asInt,Result.andThen]
 rfl
theorem keyS {k:ByteArray} (h:(k.size:Int)<=1048576):keyOf prog 9 (.string k)=Ab (lk k):=WideMaps.keyOf_string_mk underlying9 (by unfold maxLen;omega)
theorem elemI {n:Int} (h:0<=n/\n<=1000000000):plainElem (H:=Unit) prog 3 (I U n)=Ab (i64D n,[]):=plainElem_int underlying3 (WalkArith.wf_i64 ⟨by omega,by omega⟩)
theorem accounts_i (cs:CL) (v:Value) (w:World) (hv:qQ w v cs) (hcb:kS cs=true) (hall:∀ c∈cs,(c.1.size:Int)<=1048576) :
  Calls prog 93 #[v] w fun e w'=>e=.returned (.map (some w.heap.size))/\MapIs w' w.heap.size cs/\Be w w':=by
 obtain ⟨t,hA,hl⟩:=zFG.1 hcb;have x:Hid (∀ c∈cs,zIJ c.1=true/\zEH c.2=true):=t;have HA:=hid hA;have HZ:=hid hall;obtain ⟨a,cap,rfl,hr⟩:=hv;have HR:=hid hr;have ab:=makeM 142 (cs.length:Int);clear hr t hA hall hcb;go_enter func93,ntmps93;go_wp2
 go_loopw [11] (fun i wr=>∃ k:Nat,k<=cs.length/\i=I U (k:Int)/\MapIs wr w.heap.size (cs.take k)/\Be w wr) (fun i _=>cs.length - (intOf i).toNat)
 case atStart=>exact ⟨0,Ac _,rfl,map_made w,ba (br _ _) _⟩
 case round=>
  obtain ⟨k,hk,rfl,f,d⟩:=hrel
  by_cases hlt:(k:Int) < cs.length
  ·have h:k < cs.length:=by omega
   obtain ⟨g,r,rfl,hg,hc⟩:=HR (by omega);have q0:(0:Int)<=(k:Int):=by omega
   have c0:wr.cell? ⟨g,r+k * 2,Aa⟩=Ab (.string cs[k].1):=by rw [d.cell (by exact hg)];exact (hc k h).1
   have c1:wr.cell? ⟨g,r+k * 2+1,Aa⟩=Ab (I U cs[k].2):=by rw [d.cell (by exact hg)];exact (hc k h).2
   have y:=HZ cs[k] (Ae h);have u:=numB_bd (x cs[k] (Ae h)).2;have m:keyOf prog 9 (.string cs[k].1)=Ab (lk cs[k].1):=keyS y;have p:plainElem (H:=Unit) prog 3 (I U cs[k].2)=Ab (i64D cs[k].2,[]):=elemI u;have aa:=d.size;have z:=f.lt;obtain ⟨D,hD,l⟩:=f;have o:(cs.take k).length < maxLen:=by rw [Al];unfold maxLen;omega
   have HD:Hid (wr.ownsMap prog 9 (plainElem prog 3) w.heap.size (cs.take k).length D):=hD;have HP:Hid (Rep (D.put (lk cs[k].1) (i64D cs[k].2)) (cs.take (k+1))):=hid (by have:=rep_put (hD.tidy keyedS) l (asc_take HA k) cs[k];rw [putC_take HA.out h] at this;exact this);have HK:Hid (keyOf prog 9 (.string cs[k].1)=Ab (lk cs[k].1)):=m;have HW:Hid (plainElem (H:=Unit) prog 3 (I U cs[k].2)=Ab (i64D cs[k].2,[])):=p;clear hc hD l m p;go_wp2_with (at_mapUpdate;refine wpList_mapUpdate_own _ rfl _ _ _ 142 rfl 9 3 keyedS mapT _ w.heap.size (cs.take k).length D rfl (HD.alloc _) o _ _ _ rfl rfl HK _ [] HW ?_;intro w1 n j)
   go_roundw
   case rel=>exact ⟨k+1,by omega,by go_num,tight n HP,(ba d _).grown j (by simp;omega) fun b hb=>by cases hb;exact nl _⟩
   case measure=>simp [intOf];omega
  ·have s:k=cs.length:=by omega
   have HK:Hid (k=cs.length):=s;have HM:Hid (MapIs wr w.heap.size (cs.take k)):=f;clear s f;go_wp2;go_ret;have:=HM.out;rw [HK.out,Am] at this;exact ⟨rfl,this,d⟩
def putCode (cs:CL) (key:ByteArray) (num:Int):Int:=if zEH num=false∨(zBB cs key=false/\12<=cs.length) then 2 else 0
def putRest (cs:CL) (key:ByteArray) (num:Int):CL:=if putCode cs key num=0 then putC cs (key,num) else cs
theorem put_i (cs:CL) (b:Nat) (key:ByteArray) (num:Int) (w:World) (hm:MapIs w b cs) (hA:Asc cs) (hl:cs.length<=12) (hk:(key.size:Int)<=1048576) :
  Calls prog 133 #[.map (some b),.string key,I U num] w fun e w'=>e=.returned (I U (putCode cs key num))/\MapIs w' b (putRest cs key num)/\w.grownBy w' (some b):=by
 cases j:zEH num with
 | false=>
  have HM:=hid hm;have a:putCode cs key num=2:=by unfold putCode;rw [if_pos (Or.inl j)]
  have c:putRest cs key num=cs:=by unfold putRest;rw [a,if_neg (by decide)]
  rw [a,c];clear hm;go_enter func133,ntmps133;go_wp2_with (go_at_call 130;refine (numOk_i _ _).mono ?_;rintro e w' ⟨rfl,rfl⟩;rw [j])
  go_ret;exact ⟨rfl,HM,⟨rfl,rfl,rfl,nl _,fun _ _ _=>rfl⟩⟩
 | true=>
  obtain ⟨D,hD,i⟩:=hm;have HD:=hid hD;have k:=keyS hk;have p:=elemI (numB_bd j);have HK:Hid (keyOf prog 9 (.string key)=Ab (lk key)):=k;have HW:Hid (plainElem (H:=Unit) prog 3 (I U num)=Ab (i64D num,[])):=p;have HP:Hid (Rep (D.put (lk key) (i64D num)) (putC cs (key,num))):=rep_put (hD.tidy keyedS) i hA (key,num);have n:cs.length < maxLen:=by unfold maxLen;omega
  have l:Maps.size (D.put (lk key) (i64D num))=(putC cs (key,num)).length:=HP.1;have g:=len_putC (x:=(key,num)) hA
  by_cases hc:zBB cs key=false/\12<=cs.length
  ·have a:putCode cs key num=2:=by unfold putCode;rw [if_pos (Or.inr hc)]
   have c:putRest cs key num=cs:=by unfold putRest;rw [a,if_neg (by decide)]
   have HU:Hid (Rep ((D.put (lk key) (i64D num)).del (lk key)) cs):=rep_undo (hD.tidy keyedS) i hc.1 _;have r:(12:Int) < (Maps.size (D.put (lk key) (i64D num)):Int):=by rw [l];rw [hc.1] at g;simp at g;omega
   rw [a,c];clear hD i k p l g;go_enter func133,ntmps133
   go_wp2_with (first
    | (go_at_call 130;refine (numOk_i _ _).mono ?_;rintro e w' ⟨rfl,rfl⟩;rw [j])
    | (at_mapUpdate;refine wpList_mapUpdate_own _ rfl _ _ _ 142 rfl 9 3 keyedS mapT _ b cs.length D rfl HD n _ _ _ rfl rfl HK _ [] HW ?_;intro w1 d f)
    | (at_len;refine wpList_len_own _ rfl _ 142 rfl 9 3 mapT _ b _ _ rfl d ?_)
    | (at_delete;refine wpList_delete_own _ rfl _ _ 142 9 rfl 3 keyedS mapT _ b _ _ rfl d _ _ rfl HK ?_;intro w2 o m))
   go_ret;exact ⟨rfl,tight o HU,zP f m.grown⟩
  ·have a:putCode cs key num=0:=by unfold putCode;rw [if_neg (fun h=>h.elim (fun h=>by rw [j] at h;cases h) hc)]
   have c:putRest cs key num=putC cs (key,num):=by unfold putRest;rw [a,if_pos rfl]
   have r:(Maps.size (D.put (lk key) (i64D num)):Int)<=12:=by
    rw [l]
    cases hh:zBB cs key with
    | true=>rw [hh] at g;simp at g;omega
    | false=>
     rw [hh] at g;simp at g;have:¬ 12<=cs.length:=fun h=>hc ⟨hh,h⟩
     omega
   rw [a,c];clear hD i k p l g;go_enter func133,ntmps133
   go_wp2_with (first
    | (go_at_call 130;refine (numOk_i _ _).mono ?_;rintro e w' ⟨rfl,rfl⟩;rw [j])
    | (at_mapUpdate;refine wpList_mapUpdate_own _ rfl _ _ _ 142 rfl 9 3 keyedS mapT _ b cs.length D rfl HD n _ _ _ rfl rfl HK _ [] HW ?_;intro w1 d f)
    | (at_len;refine wpList_len_own _ rfl _ 142 rfl 9 3 mapT _ b _ _ rfl d ?_))
   go_ret;exact ⟨rfl,tight d HP,f⟩
def takeF (u:UN):Nat:=if zHH u=false then 174 else if u.2.1=true then 175 else 176
def takeL (u:UN) (n:Nat):Array Value:=if zHH u=false then #[] else #[.pointer (Ab ⟨n,0,Aa⟩)]
theorem takes_i (u:UN) (w:World) (hk:(u.1.size:Int)<=1048576) :
  Calls prog 127 #[undoV u] w fun e w'=>e=.returned (.func (.func (takeF u)) #[] (takeL u w.heap.size))/\w'=w.alloc (.cells #[.string u.1,.bool u.2.1,I U u.2.2] 95):=by
 obtain ⟨b,c,num⟩:=u;have g:∀ (fn:Fn) (first cap:Array Value) (w:World),(Instr.makeFunc fn first cap).run prog w=.ok (.func fn first cap) w:=fun _ _ _ _=>rfl
 simp only at hk;unfold undoV
 cases d:zIJ b with
 | false=>
  have a:zHH (b,c,num)=false:=by unfold zHH;simp only;rw [d];rfl
  have HF:Hid (takeF (b,c,num)=174):=if_pos a;have HL:Hid (takeL (b,c,num) w.heap.size=#[]):=if_pos a;clear a;go_enter func127,ntmps127
  go_wp2_with (first
   | (go_at_call 129;refine (key_i _ _ hk).mono ?_;rintro e w' ⟨rfl,rfl⟩;rw [d])
   | (go_at_call 130;refine (numOk_i _ _).mono ?_;rintro e w' ⟨rfl,rfl⟩))
  go_ret;exact ⟨by rw [HF.out,HL.out];rfl,rfl⟩
 | true=>
  cases f:zEH num with
  | false=>
   have a:zHH (b,c,num)=false:=by unfold zHH;simp only;rw [d,f];rfl
   have HF:Hid (takeF (b,c,num)=174):=if_pos a;have HL:Hid (takeL (b,c,num) w.heap.size=#[]):=if_pos a;clear a;go_enter func127,ntmps127
   go_wp2_with (first
    | (go_at_call 129;refine (key_i _ _ hk).mono ?_;rintro e w' ⟨rfl,rfl⟩;rw [d])
    | (go_at_call 130;refine (numOk_i _ _).mono ?_;rintro e w' ⟨rfl,rfl⟩;rw [f]))
   go_ret;exact ⟨by rw [HF.out,HL.out];rfl,rfl⟩
  | true=>
   have a:¬ zHH (b,c,num)=false:=by unfold zHH;simp only;rw [d,f];simp
   have HL:Hid (takeL (b,c,num) w.heap.size=#[.pointer (Ab ⟨w.heap.size,0,Aa⟩)]):=if_neg a
   cases c with
   | true=>
    have HF:Hid (takeF (b,true,num)=175):=(if_neg a).trans (if_pos rfl);clear a;go_enter func127,ntmps127
    go_wp2_with (first
     | (go_at_call 129;refine (key_i _ _ hk).mono ?_;rintro e w' ⟨rfl,rfl⟩;rw [d])
     | (go_at_call 130;refine (numOk_i _ _).mono ?_;rintro e w' ⟨rfl,rfl⟩;rw [f]))
    go_ret;exact ⟨by rw [HF.out,HL.out];rfl,rfl⟩
   | false=>
    have HF:Hid (takeF (b,false,num)=176):=(if_neg a).trans (if_neg (by simp));clear a;go_enter func127,ntmps127
    go_wp2_with (first
     | (go_at_call 129;refine (key_i _ _ hk).mono ?_;rintro e w' ⟨rfl,rfl⟩;rw [d])
     | (go_at_call 130;refine (numOk_i _ _).mono ?_;rintro e w' ⟨rfl,rfl⟩;rw [f]))
    go_ret;exact ⟨by rw [HF.out,HL.out];rfl,rfl⟩
theorem take1_i (mb:Option Nat) (w:World):Calls prog 174 #[.map mb] w fun e w'=>e=.returned (.tuple #[])/\w'=w:=by
 go_enter func174,ntmps174;go_wp2
 go_end0
 exact ⟨rfl,rfl⟩
theorem take2_i (cs:CL) (b n:Nat) (key:ByteArray) (num:Int) (w:World) (hm:MapIs w b cs) (hA:Asc cs) (hl:cs.length<=12) (hk:(key.size:Int)<=1048576) (hnb:zEH num=true) (c0:w.cell? ⟨n,0,Aa⟩=Ab (.string key)) (c2:w.cell? ⟨n,2,Aa⟩=Ab (I U num)) :
  Calls prog 175 #[.map (some b),.pointer (Ab ⟨n,0,Aa⟩)] w fun e w'=>e=.returned (.tuple #[])/\MapIs w' b (putC cs (key,num))/\w.grownBy w' (some b):=by
 obtain ⟨D,hD,c⟩:=hm;have HD:=hid hD;have HK:Hid (keyOf prog 9 (.string key)=Ab (lk key)):=keyS hk;have HW:Hid (plainElem (H:=Unit) prog 3 (I U num)=Ab (i64D num,[])):=elemI (numB_bd hnb);have HP:Hid (Rep (D.put (lk key) (i64D num)) (putC cs (key,num))):=rep_put (hD.tidy keyedS) c hA (key,num);have f:cs.length < maxLen:=by unfold maxLen;omega
 clear hD c hA hnb;go_enter func175,ntmps175;go_wp2_with (at_mapUpdate;refine wpList_mapUpdate_own _ rfl _ _ _ 142 rfl 9 3 keyedS mapT _ b cs.length D rfl HD f _ _ _ rfl rfl HK _ [] HW ?_;intro w1 d a)
 go_end0
 exact ⟨rfl,tight d HP,a⟩
theorem take3_i (cs:CL) (b n:Nat) (key:ByteArray) (w:World) (hm:MapIs w b cs) (hA:Asc cs) (hk:(key.size:Int)<=1048576) (c0:w.cell? ⟨n,0,Aa⟩=Ab (.string key)) :
  Calls prog 176 #[.map (some b),.pointer (Ab ⟨n,0,Aa⟩)] w fun e w'=>e=.returned (.tuple #[])/\MapIs w' b (cs.filter fun c=>decide (c.1 ≠ key))/\w.grownBy w' (some b):=by
 obtain ⟨D,hD,d⟩:=hm;have HD:=hid hD;have HK:Hid (keyOf prog 9 (.string key)=Ab (lk key)):=keyS hk;have hp:=rep_del (hD.tidy keyedS) d hA key;obtain ⟨ds,g⟩:∃ ds,ds=cs.filter fun c=>decide (c.1 ≠ key):=⟨_,rfl⟩
 rw [<- g] at hp ⊢;have HP:=hid hp;clear hD d hA hp g;go_enter func176,ntmps176;go_wp2_with (at_delete;refine wpList_delete_own _ rfl _ _ 142 9 rfl 3 keyedS mapT _ b _ _ rfl HD _ _ rfl HK ?_;intro w2 f a)
 go_end0
 exact ⟨rfl,tight f HP,a.grown⟩
theorem takes1 (u:UN) (w:World) (hk:(u.1.size:Int)<=1048576) (h:zHH u=false) :
  Calls prog 127 #[undoV u] w fun e w'=>e=.returned (.func (.func 174) #[] #[])/\w'=w.alloc (.cells #[.string u.1,.bool u.2.1,I U u.2.2] 95):=by
 have:=takes_i u w hk;rw [show takeF u=174 from if_pos h,show takeL u w.heap.size=#[] from if_pos h] at this;exact this
theorem takes2 (key:ByteArray) (num:Int) (w:World) (hk:(key.size:Int)<=1048576) (h:zHH (key,true,num)=true) :
  Calls prog 127 #[.agg #[.string key,.bool true,I U num]] w fun e w'=>e=.returned (.func (.func 175) #[] #[.pointer (Ab ⟨w.heap.size,0,Aa⟩)])/\w'=w.alloc (.cells #[.string key,.bool true,I U num] 95):=by
 have hn:¬ zHH (key,true,num)=false:=by rw [h];simp
 have:=takes_i (key,true,num) w hk;rw [show takeF (key,true,num)=175 from (if_neg hn).trans (if_pos rfl),show takeL (key,true,num) w.heap.size=#[.pointer (Ab ⟨w.heap.size,0,Aa⟩)] from if_neg hn] at this;exact this
theorem takes3 (key:ByteArray) (num:Int) (w:World) (hk:(key.size:Int)<=1048576) (h:zHH (key,false,num)=true) :
  Calls prog 127 #[.agg #[.string key,.bool false,I U num]] w fun e w'=>e=.returned (.func (.func 176) #[] #[.pointer (Ab ⟨w.heap.size,0,Aa⟩)])/\w'=w.alloc (.cells #[.string key,.bool false,I U num] 95):=by
 have hn:¬ zHH (key,false,num)=false:=by rw [h];simp
 have:=takes_i (key,false,num) w hk;rw [show takeF (key,false,num)=176 from (if_neg hn).trans (if_neg (by simp)),show takeL (key,false,num) w.heap.size=#[.pointer (Ab ⟨w.heap.size,0,Aa⟩)] from if_neg hn] at this;exact this
theorem keys_i (mb:Option Nat) (W:World):Calls prog 135 #[.map mb] W fun e w'=>e=.returned (.func (.func 179) #[] #[.pointer (Ab ⟨W.heap.size,0,Aa⟩)])/\w'=W.alloc (.cells #[.map mb] 142):=
 (callsIn_wide (n:=5)).1 (keys_any mb W)
theorem sorted_row {w1:World} {base:Nat} {v:Value} (h:w.ownsMap prog 9 (plainElem prog 3) b n D) (hr:Rep D cs) (hA:Asc cs) {ss:List (List UInt8)} (hp:ss.Perm (strKeys D))
  (hrow:w1.ownsRow base 9 1 v ss.length ((ss.mergeSort (fun x y=>decide (x<=y))).map encStr)):w1.ownsRow base 9 1 v cs.length (cs.map fun c=>Aj c.1)/\ss.length=cs.length:=by
 have e:=keys_sorted h hr hA hp
 have el:ss.length=cs.length:=by
  have:=congrArg List.length e;rw [List.length_mergeSort,List.length_map] at this;exact this
 rw [e,el,List.map_map] at hrow;refine ⟨?_,el⟩
 have:((fun c:ByteArray × Int=>c.1.data.toList) |> fun f=>cs.map (encStr ∘ f))=cs.map fun c=>Aj c.1:=by
  refine List.map_congr_left fun c _=>?_
  simp [encStr]
 simp only at this;rw [this] at hrow;exact hrow
theorem told_i (cs:CL) (b:Nat) (w:World) (hm:MapIs w b cs) (hA:Asc cs) (hl:cs.length<=13) (hall:∀ c∈cs,(c.1.size:Int)<=1048576) :
  Calls prog 96 #[.map (some b)] w fun e w'=>∃ v,e=.returned v/\w'.ownsRow w.heap.size 92 2 v cs.length (kM cs)/\Be w w':=by
 have HM:=hid hm;have HA:=hid hA;have HZ:=hid hall;obtain ⟨D,hD,s⟩:=hm;have HD:=hid hD;have av:=hid s;have ae:Maps.size D=cs.length:=s.1;obtain ⟨i0,hi,aj,ao,aq⟩:=info_parts infoC;clear hD s hA hall;go_enter func96,ntmps96
 go_wp2_with (first
  | (at_len;refine wpList_len_own _ rfl _ 142 rfl 9 3 mapT _ b _ _ rfl HD ?_)
  | (at_make;refine wpList_make_own _ rfl _ _ 30 rfl w.heap.size 92 i0 _ 2 underlying30 hi aj ao _ _ _ cs.length rfl rfl (by rw [ae]) (by rw [aq];omega) (by unfold maxLen;omega) (nl _) ?_;intro w0 p d;have B0:Be w w0:=(br _ _).grown d (nl _) (fun k h=>by cases h);have af:Hid (w0.ownsMap prog 9 (plainElem prog 3) b cs.length D):=HD.kept d (by simp);have au:Hid (w0.ownsRow w.heap.size 92 2 (.slice (Ab ⟨w.heap.size,0,Aa⟩) 0 cs.length) 0 []):=p;clear p d)
  | (go_at_call 135;refine (keys_i _ _).mono ?_;rintro e w1 ⟨rfl,rfl⟩)
  | (go_at_call 134;refine ((callsIn_wide (n:=5)).1 (sorted_any b _ D _ w0 af (by rw [ae];unfold maxLen;omega) (by rw [ae];omega))).mono ?_;rintro e w1 ⟨v1,ss,rfl,hS,ac,an,y⟩;clear an;obtain ⟨f,bc⟩:=sorted_row af av HA hS ac;obtain ⟨a1,j,rfl,ay⟩:=yL f;have ak:Hid (w1.ownsRow _ 9 1 (.slice a1 cs.length j) cs.length (cs.map fun c=>Aj c.1)):=f;have a3:Hid (0 < cs.length->∃ g,a1=Ab ⟨g,0,Aa⟩):=ay;clear ac f hS ay))
 have B1:Be w w1:=bt B0 (bt (ba (br _ _) _) y);have az:Hid (w1.ownsRow w.heap.size 92 2 (.slice (Ab ⟨w.heap.size,0,Aa⟩) 0 cs.length) 0 []):=zS au (bt (ba (br _ _) _) y);have a2:Hid (Be w w1):=B1;have be:w0.heap.size<=w1.heap.size:=by have:=y.size;simp at this;omega
 have a0:Hid (Be w w0):=B0;clear y B0 af au
 go_loopw [3,13] (fun o i wr=>∃ k:Nat,k<=cs.length/\i=I U (k:Int)/\wr.ownsRow w.heap.size 92 2 o k (kM (cs.take k))/\Hid (∀ g,a1=Ab ⟨g,0,Aa⟩->o.ownBlock ≠ some g)/\wr.ownsRow _ 9 1 (.slice a1 cs.length j) cs.length (cs.map fun c=>Aj c.1)/\Be w wr) (fun _ i _=>cs.length - (intOf i).toNat)
 case atStart=>exact ⟨0,Ac _,rfl,az,fun g hg e=>(by subst hg;have h1:=(ak.lt g rfl).1;have h2:w.heap.size=g:=Ad e;simp at h1;have:=a0.size;omega),ak,a2⟩
 case round=>
  obtain ⟨k,hk,rfl,ab,al,l,r⟩:=hrel;have HO:Hid (wr.ownsRow w.heap.size 92 2 u3 k (kM (cs.take k))):=ab;have HW:Hid (wr.ownsRow _ 9 1 (.slice a1 cs.length j) cs.length (cs.map fun c=>Aj c.1)):=l;have HB:Hid (Be w wr):=r;have bf:=r.size;clear ab l r
  by_cases hlt:(k:Int) < cs.length
  ·have u:k < cs.length:=by omega
   obtain ⟨g,rfl⟩:=a3 (by omega);have q0:(0:Int)<=(k:Int):=by omega
   have c0:wr.cell? ⟨g,k,Aa⟩=Ab (.string cs[k].1):=by rw [World.ownsRow.cellAt HW.out k (by omega),List.getElem?_map,Ah u];rfl
   have ar:=HZ cs[k] (Ae u);have aw:cs[k].1.size<=281474976710656:=by omega
   have HL:Hid (∀ w',Be w w'->(Instr.lookup 142 (.map (some b)) (.string cs[k].1) false).run prog w'=.ok (I U cs[k].2) w'):=fun w' hb=>by
    have hm:=HM.below hb;obtain ⟨D',bb,a5⟩:=hm;obtain ⟨c,ap,a9,_⟩:=bb.lookup_int keyedS mapT underlying3 (zeroI _) (keyS ar);have e:=a9.symm.trans (rep_same a5 u);unfold i64D at e;injection e with t;injection t with _ t
    rw [<- t];exact ap
   go_wp2
   go_region_held3 (fun w'=>(Instr.lookup 142 (.map (some b)) (.string cs[k].1) false).run prog w'=.ok (I U cs[k].2) w') (first | exact HL _ HB.drew | exact HL _ aa | exact HL _ (ba aa _) | exact HL _ am) (first | (refine step_append_lies _ (by rfl) (.tmp 17) (.tmp 24) 30 (by rfl) w.heap.size 92 i0 _ 2 24 underlying30 hi aj ao aq rfl (by decide) _ _ _ (by rfl) (Ag ax _) ⟨World.heap _ |>.size,0,Aa⟩ 1 1 [.string cs[k].1,I U cs[k].2] (by rfl) rfl (newsC _ _ _ _) (onesC _ _) (by decide) (by unfold maxLen;omega) (by omega) (by simp;omega) _ rfl ?_;intro g2 ad w3 m a ah a4;clear a4;have am:Be w w3:=(ba aa _).grown a (by simp;omega) (fun x hx=>(ax.lt x hx).1)) | (go_at_call 125;refine (clone _ _ aw).mono ?_;rintro e w2 ⟨rfl,a6⟩;have z:Be wr w2:=(br _ _).drew.trans a6;have aa:Be w w2:=bt HB z;have ax:Hid (w2.ownsRow w.heap.size 92 2 u3 k (kM (cs.take k))):=zS HO z;have bd:=aa.size))
   all_goals
    have a7:Hid (w3.ownsRow w.heap.size 92 2 (.slice (Ab ⟨g2,0,Aa⟩) (k+1) ad) (k+1) (kM (cs.take k) ++ [.string cs[k].1,I U cs[k].2])):=m;have a8:Hid (w3.ownsRow _ 9 1 (.slice (Ab ⟨g,0,Aa⟩) cs.length j) cs.length (cs.map fun c=>Aj c.1)):=Af (Ag (zS HW z) _) a (Or.inr (al g rfl).symm)
    have ag:Hid (∀ x,some (⟨g,0,Aa⟩:Addr)=Ab ⟨x,0,Aa⟩->(Value.slice (Ab ⟨g2,0,Aa⟩) (k+1) ad).ownBlock ≠ some x):=fun x hx e=>by
     cases hx
     have e2:g2=g:=Ad e
     rcases ah with h | h
     ·exact al.out g rfl (by rw [h,e2])
     ·have:=(HW.lt g rfl).2;have:=z.size;simp at h;omega
    clear m a ah;go_wp2
    go_roundw
    case rel=>exact ⟨k+1,by omega,by go_num,by rw [take_snoc' u,flat_append];exact a7.out,ag,a8,am⟩
    case measure=>simp [intOf];omega
  ·have ai:k=cs.length:=by omega
   have HK:Hid (k=cs.length):=ai;clear ai;go_wp2;go_ret;have:=HO.out;rw [HK.out,Am] at this;exact ⟨_,rfl,this,HB⟩
theorem cellsB_long (h:12 < cs.length):kS cs=false:=by
 unfold kS;rw [show decide (cs.length<=12)=false by simp;omega,Bool.and_false]
theorem cellsOk_i (cs:CL) (v:Value) (w:World) (hv:qQ w v cs) (hl:(cs.length:Int)<=1048576) (hall:∀ c∈cs,(c.1.size:Int)<=1048576) :
  Calls prog 91 #[v] w fun e w'=>e=.returned (.bool (kS cs))/\Be w w':=by
 obtain ⟨a,cap,rfl,hr⟩:=hv;have HR:=hid hr;have HA:=hid hall;clear hr hall
 by_cases h12:12 < (cs.length:Int)
 ·rw [cellsB_long (by omega)];go_enter func91,ntmps91;go_wp2;go_ret;exact ⟨rfl,br _ _⟩
 ·go_enter func91,ntmps91;go_wp2
  go_loopw [10] (fun i wr=>∃ k:Nat,k<=cs.length/\i=I U (k:Int)/\Hid (okTo cs k)/\Be w wr) (fun i _=>cs.length - (intOf i).toNat)
  case atStart=>exact ⟨0,Ac _,rfl,fun i hi=>by omega,br _ _⟩
  case round=>
   obtain ⟨k,hk,rfl,HO,b⟩:=hrel
   by_cases hlt:(k:Int) < cs.length
   ·have d:k < cs.length:=by omega
    obtain ⟨g,n,rfl,hg,hc⟩:=HR (by omega);have m:=HA cs[k] (Ae d);have c0:wr.cell? ⟨g,n+k * 2,Aa⟩=Ab (.string cs[k].1):=by rw [b.cell (by exact hg)];exact (hc k d).1
    have c1:wr.cell? ⟨g,n+k * 2+1,Aa⟩=Ab (I U cs[k].2):=by rw [b.cell (by exact hg)];exact (hc k d).2
    have q0:(0:Int)<=(k:Int):=by omega
    cases f:zIJ cs[k].1 with
    | false=>
     have HN:Hid (okAt cs k=false):=by
      cases k with
      | zero=>rw [yFC d,f];rfl
      | succ j=>rw [zGD d,f];rfl
     clear hc;go_wp2_with (go_at_call 129;refine (key_i _ _ m).mono ?_;rintro e w' ⟨rfl,rfl⟩;rw [f])
     go_ret;exact ⟨zL (cellsB_no d HN).symm,ba b _⟩
    | true=>
     cases h:zEH cs[k].2 with
     | false=>
      have HN:Hid (okAt cs k=false):=by
       cases k with
       | zero=>rw [yFC d,f,h];rfl
       | succ j=>rw [zGD d,f,h];rfl
      clear hc
      go_wp2_with (first
       | (go_at_call 129;refine (key_i _ _ m).mono ?_;rintro e w' ⟨rfl,rfl⟩;rw [f])
       | (go_at_call 130;refine (numOk_i _ _).mono ?_;rintro e w' ⟨rfl,rfl⟩;rw [h]))
      go_ret;exact ⟨zL (cellsB_no d HN).symm,ba b _⟩
     | true=>
      have r:=yX (wr.alloc (Ai #[Aj cs[k].1,I U cs[k].2] 92));have d0:∀ x:Bw (wr.alloc (Ai #[Aj cs[k].1,I U cs[k].2] 92)),x.to.cell? ⟨wr.heap.size,0,Aa⟩=Ab (.string cs[k].1):=fun x=>by rw [x.below.cell (by simp)];simp
      cases k with
      | zero=>
       have HN:Hid (okAt cs 0=true):=by rw [yFC d,f,h];rfl
       have s:wr.cell? ⟨g,n,Aa⟩=Ab (.string cs[0].1):=by simpa using c0
       have t:wr.cell? ⟨g,n+1,Aa⟩=Ab (I U cs[0].2):=by simpa using c1
       have q1:(0:Int) < (cs.length:Int):=by omega
       clear hc
       go_wp2_with (first
        | (go_at_call 129;refine (key_i _ _ m).mono ?_;rintro e w' ⟨rfl,rfl⟩;rw [f])
        | (go_at_call 130;refine (numOk_i _ _).mono ?_;rintro e w' ⟨rfl,rfl⟩;rw [h]))
       refine rb ?_;repeat (go_big_quiet_step (fail))
       refine qnn fun x=>?_
       go_wp2
       go_roundw
       case rel=>exact ⟨1,by omega,by go_num,okTo_next HO HN,bt (ba b _) x.below⟩
       case measure=>simp [intOf];omega
      | succ j=>
       have q1:((j:Int)+1) < (cs.length:Int):=by omega
       have q2:(0:Int)<=(j:Int):=by omega
       have d1:∀ x:Bw (wr.alloc (Ai #[Aj cs[j+1].1,I U cs[j+1].2] 92)),x.to.cell? ⟨g,n+j * 2,Aa⟩=Ab (.string cs[j].1):=fun x=>by rw [(bt (ba b _) x.below).cell (by exact hg)];exact (hc j (by omega)).1
       cases l:Op.bytesLess cs[j].1.toList cs[j+1].1.toList with
       | true=>
        have HN:Hid (okAt cs (j+1)=true):=by rw [zGD d,f,h,l];rfl
        have l1:Op.bytesLess cs[j+1].1.toList cs[j].1.toList=false:=kLt_asym l;have l2:(cs[j+1].1.toList == cs[j].1.toList)=false:=ba_ne (kLt_ne l).symm;clear hc l
        go_wp2_with (first
         | (go_at_call 129;refine (key_i _ _ m).mono ?_;rintro e w' ⟨rfl,rfl⟩;rw [f])
         | (go_at_call 130;refine (numOk_i _ _).mono ?_;rintro e w' ⟨rfl,rfl⟩;rw [h]))
        refine rb ?_;repeat (go_big_quiet_step (fail))
        refine qnn fun x=>?_
        go_wp2
        go_roundw
        case rel=>exact ⟨j+1+1,by omega,by go_num,okTo_next HO HN,bt (ba b _) x.below⟩
        case measure=>simp [intOf];omega
       | false=>
        have HN:Hid (okAt cs (j+1)=false):=by rw [zGD d,f,h,l];rfl
        cases l1:Op.bytesLess cs[j+1].1.toList cs[j].1.toList with
        | true=>
         clear hc l
         go_wp2_with (first
          | (go_at_call 129;refine (key_i _ _ m).mono ?_;rintro e w' ⟨rfl,rfl⟩;rw [f])
          | (go_at_call 130;refine (numOk_i _ _).mono ?_;rintro e w' ⟨rfl,rfl⟩;rw [h]))
         refine rb ?_;repeat (go_big_quiet_step (fail))
         refine qnn fun x=>?_
         go_wp2;go_ret;exact ⟨zL (cellsB_no d HN).symm,bt (ba b _) x.below⟩
        | false=>
         have l2:(cs[j+1].1.toList == cs[j].1.toList)=true:=ba_eq (kLt_tri l1 l);clear hc l
         go_wp2_with (first
          | (go_at_call 129;refine (key_i _ _ m).mono ?_;rintro e w' ⟨rfl,rfl⟩;rw [f])
          | (go_at_call 130;refine (numOk_i _ _).mono ?_;rintro e w' ⟨rfl,rfl⟩;rw [h]))
         refine rb ?_;repeat (go_big_quiet_step (fail))
         refine qnn fun x=>?_
         go_wp2;go_ret;exact ⟨zL (cellsB_no d HN).symm,bt (ba b _) x.below⟩
   ·have o:k=cs.length:=by omega
    have HK:Hid (k=cs.length):=o;clear o;go_wp2;go_ret;have p:=HO.out;rw [HK.out] at p;exact ⟨zL (by rw [cellsB_all p];simp;omega),b⟩
theorem cellAt_i (cs:CL) (v:Value) (key:ByteArray) (w:World) (hv:qQ w v cs) (hl:(cs.length:Int)<=1048576) :
  Calls prog 131 #[v,.string key] w fun e w'=>e=.returned (I U (cellAt cs key))/\Be w w':=by
 obtain ⟨a,cap,rfl,hr⟩:=hv;have HR:=hid hr;clear hr;go_enter func131,ntmps131;go_wp2
 go_loopw [9] (fun i wr=>∃ k:Nat,k<=cs.length/\i=I U (k:Int)/\Hid (cellAt cs key=jF key (cs.drop k) k)/\Be w wr) (fun i _=>cs.length - (intOf i).toNat)
 case atStart=>exact ⟨0,Ac _,rfl,rfl,br _ _⟩
 case round=>
  obtain ⟨k,hk,rfl,HC,b⟩:=hrel
  by_cases hlt:(k:Int) < cs.length
  ·have c:k < cs.length:=by omega
   obtain ⟨g,d,rfl,hg,hc⟩:=HR (by omega);have c0:wr.cell? ⟨g,d+k * 2,Aa⟩=Ab (.string cs[k].1):=by rw [b.cell (by exact hg)];exact (hc k c).1
   have c1:wr.cell? ⟨g,d+k * 2+1,Aa⟩=Ab (I U cs[k].2):=by rw [b.cell (by exact hg)];exact (hc k c).2
   have q0:(0:Int)<=(k:Int):=by omega
   have HS:Hid (jF key (cs.drop k) k=_):=cellAt_drop cs key k c;clear hc
   by_cases he:cs[k].1=key
   ·have h:=ba_eq he;go_wp2;go_ret;exact ⟨jD (by rw [HC.out,HS.out,if_pos he]),ba b _⟩
   ·have h:=ba_ne he;have HE:Hid (¬ cs[k].1=key):=he;clear he;go_wp2
    go_roundw
    case rel=>exact ⟨k+1,by omega,by go_num,(show cellAt cs key=_ from by rw [HC.out,HS.out,if_neg HE.out]),ba b _⟩
    case measure=>simp [intOf];omega
  ·have f:k=cs.length:=by omega
   have HK:Hid (k=cs.length):=f;clear f;go_wp2;go_ret;exact ⟨jD (by rw [HC.out,HK.out,List.drop_length];rfl),b⟩
attribute [local go_sem] Oper.semAt_some
def stB (cs:CL) (pre:List BI):CL:=pre.foldl (fun acc x=>jK acc x.2.1) cs
theorem stB_snoc (cs:CL) (pre:List BI) (x:BI):stB cs (pre ++ [x])=jK (stB cs pre) x.2.1:=by simp [stB]
theorem stB_fair (h:kS cs=true) (pre:List BI):fair (stB cs pre):=by
 unfold stB
 have:∀ (pre:List BI) (a:CL),fair a->fair (pre.foldl (fun a x=>jK a x.2.1) a):=by
  intro pre
  induction pre with
  | nil=>intro a h;exact h
  | cons x pre ih=>intro a h;exact ih _ (undone_fair h)
 exact this pre cs (fair_of h)
theorem stB_to (cs:CL) (us:List US):∀ k,k<=us.length->stB cs (backTo us k)=xY cs ((us.map Subtype.val).drop (us.length - k)):=by
 intro k
 induction k with
 | zero=>intro _;rw [Nat.sub_zero,List.drop_eq_nil_of_le (by simp)];rfl
 | succ k ih=>
  intro hk;have hj:us.length - (k+1) < (us.map Subtype.val).length:=by simp;omega
  rw [backTo_succ,stB_snoc,ih (by omega),undoneAll_step hj,show us.length - (k+1)+1=us.length - k by omega]
  congr 1
  unfold backAt;simp only [List.getElem_map];rw [show us.length - 1 - k=us.length - (k+1) by omega,Ah (by omega)]
  rfl
theorem stB_size (h:okL cs):∀ (pre:List BI),okL (stB cs pre):=by
 intro pre;unfold stB
 have:∀ (pre:List BI) (a:CL),okL a->okL (pre.foldl (fun a x=>jK a x.2.1) a):=by
  intro pre
  induction pre with
  | nil=>intro a h;exact h
  | cons x pre ih=>intro a h;exact ih _ (okL_undone h x.2.2)
 exact this pre cs h
theorem undoneAll_us (cs:CL) (us:List US) (v u:Value) (w:World) (hv:qQ w v cs) (hu:yM w u 3 kK (us.map Subtype.val)) (hok:okL cs) (hl:(us.length:Int)<=1048576) :
  Calls prog 88 #[v,u] w fun e w'=>∃ v',e=.returned v'/\w'.ownsRow w.heap.size 92 2 v' (xY cs (us.map Subtype.val)).length (kM (xY cs (us.map Subtype.val)))/\Be w w':=by
 have HV:=hid hv;have HL:=hid hok;have h1:=hok.1;obtain ⟨a,cap,rfl,_⟩:=hv;obtain ⟨b,h,rfl,hr⟩:=hu;have HR:=hid hr;clear hr hok;refine (callsIn_wide (n:=9)).1 ?_;refine callsIn_of_wp_marks func88 rfl trivial ?_ rfl;simp only [ntmps88,List.size_toArray,An,List.length_nil,Nat.reduceAdd,Nat.reduceSub,Array.replicate_succ,Array.replicate_zero,List.push_toArray,List.append_toArray,List.nil_append,List.cons_append]
 cases ak:kS cs with
 | false=>
  have HE:Hid (xY cs (us.map Subtype.val)=cs):=undoneAll_bad ak _
  gi_wp2_with (first
   | (refine ⟨trivial,?_⟩;gi_at_call 91;refine (callsIn_wide.2 (cellsOk_i cs _ w HV HL.1 HL.2)).mono ?_;rintro e w1 ⟨rfl,ae⟩;rw [ak])
   | (refine ⟨trivial,?_⟩;gi_at_call 84;refine (callsIn_wide.2 (copy_i cs _ w1 (HV.below ae) HL.1 HL.2)).mono ?_;rintro e w2 ⟨v2,rfl,a3,au⟩))
  exact ⟨_,results_tmp rfl _ _ _,v2,rfl,by rw [HE.out];exact zN a3 ae.size,bt ae au⟩
 | true=>
  have av:Hid (kS cs=true):=ak
  gi_wp2_with (first
   | (refine ⟨trivial,?_⟩;gi_at_call 91;refine (callsIn_wide.2 (cellsOk_i cs _ w HV HL.1 HL.2)).mono ?_;rintro e w1 ⟨rfl,ae⟩;rw [ak])
   | (refine ⟨trivial,?_⟩;gi_at_call 93;refine (callsIn_wide.2 (accounts_i cs _ w1 (HV.below ae) av HL.2)).mono ?_;rintro e w2 ⟨rfl,ax,au⟩)
   | (refine ⟨trivial,?_⟩;gi_at_call 126;refine (backward_in Fence.wide _ trivial rfl _ _ _ _).mono ?_;rintro e w3 ⟨rfl,rfl⟩))
  have bo:=ae.size;have bq:=au.size;have bf:=ax.lt;have bH:=(Boxed.new w2 142 (.map (some w1.heap.size))).alloc (.cells #[.slice b us.length h] 31);have bS:=Boxed.new (w2.alloc (.cells #[.map (some w1.heap.size)] 142)) 31 (.slice b us.length h);simp only [World.size_alloc] at bS;have ay:Be w ((w2.alloc (.cells #[.map (some w1.heap.size)] 142)).alloc (.cells #[.slice b us.length h] 31)):=ba (ba (bt ae au) _) _;have bi:((w2.alloc (.cells #[.map (some w1.heap.size)] 142)).alloc (.cells #[.slice b us.length h] 31)).heap.size=w2.heap.size+2:=by simp
  have a9:MapIs ((w2.alloc (.cells #[.map (some w1.heap.size)] 142)).alloc (.cells #[.slice b us.length h] 31)) w1.heap.size cs:=ax.below (ba (ba (br _ _) _) _);obtain ⟨W0,bd⟩:∃ W0,(w2.alloc (.cells #[.map (some w1.heap.size)] 142)).alloc (.cells #[.slice b us.length h] 31)=W0:=⟨_,rfl⟩;rw [bd] at bH bS ay bi a9 ⊢;clear bd ak ax;have aj:(us.map Subtype.val).length=us.length:=by simp
  refine wpIn_rangeFunc_ownH rfl (by omega) (gf:=173) (lb:=#[.pointer (Ab ⟨w2.heap.size+1,0,Aa⟩)]) rfl trivial (enters_of func173 (by kernel_rfl) rfl)
   (backward_stops Fence.wide 8 trivial rfl (by omega) (w2.heap.size+1) w.heap.size b h us hl W0 (by omega) (by omega) bS.cell (fun h0=>by
    obtain ⟨g,be,e,hg,hc⟩:=HR (by rw [aj];exact h0)
    exact ⟨g,be,e,hg,fun j hj i hi=>by rw [ay.cell (by exact hg),hc j (by rw [aj];exact hj) i hi,List.getElem_map]⟩))
   kpB_t (kpB_b (by omega) (by omega)) (br _ _) (fun _=>rfl)
   (fun m W=>((Boxed W w2.heap.size 142 (.map (some w1.heap.size))/\Boxed W (w2.heap.size+1) 31 (.slice b us.length h))/\MapIs W w1.heap.size (stB cs m))/\Be w W)
   (fun c m W=>(Boxed W w2.heap.size 142 (.map (some w1.heap.size))/\(c=.exit 0/\∃ ab last,m=ab ++ [last]/\12 < (stB cs ab).length/\MapIs W w1.heap.size (stB cs ab)))/\Be w W)
   (OwnFrom.and (OwnFrom.and (OwnFrom.and (Own.from (boxed_own _ _ _) _) (Own.from (boxed_own _ _ _) _)) (fun s X Y row hs hg hr=>hs.kept hg (fun e=>by have:=(hr _ e.symm).1;omega))) (ownFrom_below (nl _) (by omega)))
   (fun c=>OwnFrom.and (OwnFrom.and (Own.from (boxed_own _ _ _) _) (fun s X Y row hs hg hr=>by obtain ⟨h1,ab,last,h2,h3,h4⟩:=hs;exact ⟨h1,ab,last,h2,h3,h4.kept hg (fun e=>by have:=(hr _ e.symm).1;omega)⟩)) (ownFrom_below (nl _) (by omega)))
   ⟨⟨⟨bH,bS⟩,a9⟩,ay⟩
   (fun x a' W=>∃ Xb,W0.heap.size<=Xb/\Bx W Xb #[.string x.2.1.1,.bool x.2.1.2.1,I U x.2.1.2.2] 95/\a'={ tmps:=#[.slice a cs.length cap,.slice b us.length h,undef,undef,.slice none 0 0,.pointer (Ab ⟨w2.heap.size,0,Aa⟩),undef,.pointer (Ab ⟨Xb,0,Aa⟩),.slice a cs.length cap,.bool true,.bool false,undef,undef,.slice a cs.length cap,.map (some w1.heap.size),.slice b us.length h,.func (.func 173) #[] #[.pointer (Ab ⟨w2.heap.size+1,0,Aa⟩)],I U (x.1:Int),.agg #[.string x.2.1.1,.bool x.2.1.2.1,I U x.2.1.2.2],undef,undef,undef,undef,undef,undef,undef,undef,undef],defers:=[] })
   (fun x a' _ X Y row hs hg hr=>by
    obtain ⟨Xb,g1,g2,g3⟩:=hs;refine ⟨Xb,g1,(hg.block Xb (gl g2) (fun e=>?_)).trans g2,g3⟩;obtain ⟨_,o,ho,hc⟩:=hr Xb e.symm
    rw [g2] at ho;cases ho;cases hc)
   ?assign ?body ?done ?stop
  case assign=>
   rintro l m x W K ⟨⟨⟨t,y⟩,p⟩,f⟩ hK
   dsimp only [encB,undoV]
   gi_wp2
   exact hK _ _ ((KeepsOthers.alloc _ _).from _) ⟨(Below.refl _ W).alloc f.size _,(Below.heap_alloc W _ _ y.lt)⟩ ⟨⟨⟨t.alloc _,y.alloc _⟩,p.below (ba (br _ _) _)⟩,f.alloc f.size _⟩ ⟨W.heap.size,by have:=y.lt;omega,heap_alloc_new W _,rfl⟩
  case body=>
   rintro l m ⟨xi,⟨⟨d,af,num⟩,ah⟩⟩ a' W bm ⟨r,hr⟩ ⟨⟨⟨t,y⟩,p⟩,f⟩ ⟨Xb,bu,hX,rfl⟩ bp;simp only at hX ah;have cH:=t.cell;have bc:=p;obtain ⟨D,hD,aw⟩:=bc;have bv:Maps.size D=(stB cs m).length:=aw.1;have HD:Hid (W.ownsMap prog 9 (plainElem prog 3) w1.heap.size (stB cs m).length D):=hD;clear hD aw
   by_cases h12:12 < (stB cs m).length
   ·have bh:(12:Int) < (Maps.size D:Int):=by omega
    gi_wp2_with (gi_at_len;refine wpListIn_len_own _ rfl _ 142 rfl 9 3 mapT _ w1.heap.size _ D rfl HD ?_)
    exact ⟨KeepsFrom.refl _ _,⟨t,rfl,m,_,rfl,h12,p⟩,f⟩
   ·have bh:(Maps.size D:Int)<=12:=by omega
    have ao:kS (stB cs m)=true:=fair_ok (stB_fair av m) (by omega);obtain ⟨_,bb,bg⟩:=zFG.1 ao;have x0:W.cell? ⟨Xb,0,Aa⟩=Ab (.string d):=by rw [cell_of_row W Xb 0 _ _ (0,0) hX];rfl
    have x1:W.cell? ⟨Xb,1,Aa⟩=Ab (.bool af):=by rw [cell_of_row W Xb 1 _ _ (0,0) hX];rfl
    have x2:W.cell? ⟨Xb,2,Aa⟩=Ab (I U num):=by rw [cell_of_row W Xb 2 _ _ (0,0) hX];rfl
    have bk:prog.follows .mixedOrders=true:=by kernel_rfl
    have bj:=t.lt;have bl:W.drew.cell? ⟨w2.heap.size,0,Aa⟩=Ab (.map (some w1.heap.size)):=cH;have bn:∀ o,(W.drew.alloc o).cell? ⟨w2.heap.size,0,Aa⟩=Ab (.map (some w1.heap.size)):=fun o=>by rw [((Below.refl _ W).drew.alloc (nl _) o).cell (by exact t.lt)];exact cH
    cases ag:zHH (d,af,num) with
    | false=>
     obtain ⟨F,hF⟩:=nw Fence.wide;have hT:∀ n W,CallsIn F n prog 127 #[.agg #[.string d,.bool af,I U num]] W fun e w'=>e=.returned (.func (.func 174) #[] #[])/\w'=W.alloc (.cells #[.string d,.bool af,I U num] 95):=fun n W=>by rw [hF];exact callsIn_wide.2 (takes1 (d,af,num) W ah ag)
     have ap:∀ n mb W,CallsIn F n prog 174 #[.map mb] W fun e w'=>e=.returned (.tuple #[])/\w'=W:=fun n mb W=>by rw [hF];exact callsIn_wide.2 (take1_i mb W)
     have a7:F.fn 127:=by rw [hF];trivial
     have a8:F.fn 174:=by rw [hF];trivial
     rw [<- hF];clear hF
     gi_wp2_with (gi_at_len;refine wpListIn_len_own _ rfl _ 142 rfl 9 3 mapT _ w1.heap.size _ D rfl HD ?_)
     gi_region_with_o (first
      | (gi_at_call 127;refine (CallsIn.inRound l (hT _ _)).mono ?_;rintro e w' ⟨rfl,rfl⟩)
      | (gi_at_call 174;refine (CallsIn.inRound l (ap _ _ _)).mono ?_;rintro e w' ⟨rfl,rfl⟩))
     all_goals
      refine ⟨((KeepsOthers.alloc W (Ai #[Aj d,Value.bool af,I U num] 95)).trans (KeepsOthers.drew _)).from _,⟨((Below.refl _ W).alloc f.size _).drew,Below.heap_alloc W _ _ y.lt⟩,⟨⟨t.alloc _,y.alloc _⟩,?_⟩,(f.alloc f.size _).drew⟩;rw [stB_snoc,undone_not ag];exact p.below (ba (br _ _) _).drew
    | true=>
     have al:=ag;unfold zHH at al;simp only [Bool.and_eq_true] at al
     cases af with
     | true=>
      have aq:MapIs (W.alloc (Ai #[Aj d,Value.bool true,I U num] 95)).drew w1.heap.size (stB cs m):=p.below (ba (br _ _) _).drew;have d0:(W.alloc (Ai #[Aj d,Value.bool true,I U num] 95)).drew.cell? ⟨W.heap.size,0,Aa⟩=Ab (.string d):=by show (W.alloc (Ai #[Aj d,Value.bool true,I U num] 95)).cell? ⟨W.heap.size,0,Aa⟩=Ab (.string d);rw [cell_of_row _ W.heap.size 0 _ _ (0,0) (heap_alloc_new W _)];rfl
      have d2:(W.alloc (Ai #[Aj d,Value.bool true,I U num] 95)).drew.cell? ⟨W.heap.size,2,Aa⟩=Ab (I U num):=by show (W.alloc (Ai #[Aj d,Value.bool true,I U num] 95)).cell? ⟨W.heap.size,2,Aa⟩=Ab (I U num);rw [cell_of_row _ W.heap.size 2 _ _ (0,0) (heap_alloc_new W _)];rfl
      obtain ⟨F,hF⟩:=nw Fence.wide;have hT:∀ n W,CallsIn F n prog 127 #[.agg #[.string d,.bool true,I U num]] W fun e w'=>e=.returned (.func (.func 175) #[] #[.pointer (Ab ⟨W.heap.size,0,Aa⟩)])/\w'=W.alloc (Ai #[Aj d,Value.bool true,I U num] 95):=fun n W=>by rw [hF];exact callsIn_wide.2 (takes2 d num W ah ag)
      have ap:∀ n,CallsIn F n prog 175 #[.map (some w1.heap.size),.pointer (Ab ⟨W.heap.size,0,Aa⟩)] (W.alloc (Ai #[Aj d,Value.bool true,I U num] 95)).drew fun e w'=>e=.returned (.tuple #[])/\MapIs w' w1.heap.size (jK (stB cs m) (d,true,num))/\(W.alloc (Ai #[Aj d,Value.bool true,I U num] 95)).drew.grownBy w' (some w1.heap.size):=fun n=>by
       rw [hF,undone_yes ao ag,back_true];exact callsIn_wide.2 (take2_i (stB cs m) w1.heap.size W.heap.size d num _ aq bb bg ah al.2 d0 d2)
      have a7:F.fn 127:=by rw [hF];trivial
      have a8:F.fn 175:=by rw [hF];trivial
      rw [<- hF];clear hF d0 d2 aq
      gi_wp2_with (gi_at_len;refine wpListIn_len_own _ rfl _ 142 rfl 9 3 mapT _ w1.heap.size _ D rfl HD ?_)
      gi_region_with_o (first
       | (gi_at_call 127;refine (CallsIn.inRound l (hT _ _)).mono ?_;rintro e w' ⟨rfl,rfl⟩)
       | (gi_at_call 175;refine (CallsIn.inRound l (ap _)).mono ?_;rintro e w' ⟨rfl,az,aa⟩))
      all_goals
       have ai:Below w.heap.size W w':=(((Below.refl _ W).alloc f.size (Ai #[Aj d,Value.bool true,I U num] 95)).drew).grown aa (Nat.le_trans f.size (by have:=(KeepsOthers.alloc W (Ai #[Aj d,Value.bool true,I U num] 95)).size;exact this)) (fun k e=>by cases e;omega);have a5:Boxed (W.alloc (Ai #[Aj d,Value.bool true,I U num] 95)).drew w2.heap.size 142 (.map (some w1.heap.size)):=t.alloc _;have am:Boxed (W.alloc (Ai #[Aj d,Value.bool true,I U num] 95)).drew (w2.heap.size+1) 31 (.slice b us.length h):=y.alloc _;have n1:some w2.heap.size ≠ some w1.heap.size:=fun e=>by have:=Ad e;omega
       have n2:some (w2.heap.size+1) ≠ some w1.heap.size:=fun e=>by have:=Ad e;omega
       refine ⟨(((KeepsOthers.alloc W (Ai #[Aj d,Value.bool true,I U num] 95)).trans (KeepsOthers.drew _)).from _).trans (KeepsFrom.of_grownBy aa (fun j e=>by cases e;omega)),⟨ai,(aa.block (w2.heap.size+1) am.lt n2).trans (Below.heap_alloc W _ _ y.lt)⟩,⟨⟨a5.kept aa n1,am.kept aa n2⟩,?_⟩,f.trans ai⟩;rw [stB_snoc];exact az
     | false=>
      have aq:MapIs (W.alloc (Ai #[Aj d,Value.bool false,I U num] 95)).drew w1.heap.size (stB cs m):=p.below (ba (br _ _) _).drew;have d0:(W.alloc (Ai #[Aj d,Value.bool false,I U num] 95)).drew.cell? ⟨W.heap.size,0,Aa⟩=Ab (.string d):=by show (W.alloc (Ai #[Aj d,Value.bool false,I U num] 95)).cell? ⟨W.heap.size,0,Aa⟩=Ab (.string d);rw [cell_of_row _ W.heap.size 0 _ _ (0,0) (heap_alloc_new W _)];rfl
      have d2:(W.alloc (Ai #[Aj d,Value.bool false,I U num] 95)).drew.cell? ⟨W.heap.size,2,Aa⟩=Ab (I U num):=by show (W.alloc (Ai #[Aj d,Value.bool false,I U num] 95)).cell? ⟨W.heap.size,2,Aa⟩=Ab (I U num);rw [cell_of_row _ W.heap.size 2 _ _ (0,0) (heap_alloc_new W _)];rfl
      obtain ⟨F,hF⟩:=nw Fence.wide;have hT:∀ n W,CallsIn F n prog 127 #[.agg #[.string d,.bool false,I U num]] W fun e w'=>e=.returned (.func (.func 176) #[] #[.pointer (Ab ⟨W.heap.size,0,Aa⟩)])/\w'=W.alloc (Ai #[Aj d,Value.bool false,I U num] 95):=fun n W=>by rw [hF];exact callsIn_wide.2 (takes3 d num W ah ag)
      have ap:∀ n,CallsIn F n prog 176 #[.map (some w1.heap.size),.pointer (Ab ⟨W.heap.size,0,Aa⟩)] (W.alloc (Ai #[Aj d,Value.bool false,I U num] 95)).drew fun e w'=>e=.returned (.tuple #[])/\MapIs w' w1.heap.size (jK (stB cs m) (d,false,num))/\(W.alloc (Ai #[Aj d,Value.bool false,I U num] 95)).drew.grownBy w' (some w1.heap.size):=fun n=>by
       rw [hF,undone_yes ao ag,back_false];exact callsIn_wide.2 (take3_i (stB cs m) w1.heap.size W.heap.size d _ aq bb ah d0)
      have a7:F.fn 127:=by rw [hF];trivial
      have a8:F.fn 176:=by rw [hF];trivial
      rw [<- hF];clear hF d0 d2 aq
      gi_wp2_with (gi_at_len;refine wpListIn_len_own _ rfl _ 142 rfl 9 3 mapT _ w1.heap.size _ D rfl HD ?_)
      gi_region_with_o (first
       | (gi_at_call 127;refine (CallsIn.inRound l (hT _ _)).mono ?_;rintro e w' ⟨rfl,rfl⟩)
       | (gi_at_call 176;refine (CallsIn.inRound l (ap _)).mono ?_;rintro e w' ⟨rfl,az,aa⟩))
      all_goals
       have ai:Below w.heap.size W w':=(((Below.refl _ W).alloc f.size (Ai #[Aj d,Value.bool false,I U num] 95)).drew).grown aa (Nat.le_trans f.size (by have:=(KeepsOthers.alloc W (Ai #[Aj d,Value.bool false,I U num] 95)).size;exact this)) (fun k e=>by cases e;omega);have a5:Boxed (W.alloc (Ai #[Aj d,Value.bool false,I U num] 95)).drew w2.heap.size 142 (.map (some w1.heap.size)):=t.alloc _;have am:Boxed (W.alloc (Ai #[Aj d,Value.bool false,I U num] 95)).drew (w2.heap.size+1) 31 (.slice b us.length h):=y.alloc _;have n1:some w2.heap.size ≠ some w1.heap.size:=fun e=>by have:=Ad e;omega
       have n2:some (w2.heap.size+1) ≠ some w1.heap.size:=fun e=>by have:=Ad e;omega
       refine ⟨(((KeepsOthers.alloc W (Ai #[Aj d,Value.bool false,I U num] 95)).trans (KeepsOthers.drew _)).from _).trans (KeepsFrom.of_grownBy aa (fun j e=>by cases e;omega)),⟨ai,(aa.block (w2.heap.size+1) am.lt n2).trans (Below.heap_alloc W _ _ y.lt)⟩,⟨⟨a5.kept aa n1,am.kept aa n2⟩,?_⟩,f.trans ai⟩;rw [stB_snoc];exact az
  case done=>
   rintro D ys W hD rfl ⟨⟨⟨t,y⟩,p⟩,f⟩ hK;have a1:stB cs (backTo us us.length)=xY cs (us.map Subtype.val):=by rw [stB_to cs us us.length (nl _),Nat.sub_self,List.drop_zero]
   have a0:D < W.heap.size:=(gl hK);have a6:w.heap.size<=D:=by omega
   have ad:=stB_fair av (backTo us us.length);have z:=(stB_size HL (backTo us us.length)).2;rw [a1] at ad z p;have a4:Hid (MapIs W w1.heap.size (xY cs (us.map Subtype.val))):=p;have an:=hid ad;have a2:=hid z;have cH:=t.cell;clear p ad z
   gi_wp2_with (refine ⟨trivial,?_⟩;gi_at_call 96;refine (callsIn_wide.2 (told_i (xY cs (us.map Subtype.val)) w1.heap.size W a4 an.2.1 an.2.2 a2)).mono ?_;rintro e w' ⟨v',rfl,ac,hb⟩)
   have ar:w'.heap[D]?=Ab (.deferred (some [])):=(hb.block D a0).trans hK;refine ⟨by simp,.inl ⟨_,_,rfl,run_takeDeferred ar,?_⟩⟩;refine ⟨_,results_tmp rfl _ _ _,v',rfl,zN (Af ac (grownBy_putObj' _ D _) (Or.inr fun e=>by have:=(ac.lt D e).1;omega)) f.size,?_⟩;exact (f.trans (hb.mono f.size)).trans (belowK_b (w:=w) (nl _) w' D _ _ a6 ar rfl rfl)
  case stop=>
   rintro D c m W hD ⟨k,hk,rfl⟩ ⟨⟨t,rfl,ab,last,e1,e2,p⟩,f⟩ hK
   have a1:stB cs ab=xY cs (us.map Subtype.val):=by
    cases k with
    | zero=>simp [backTo] at e1
    | succ k=>
     rw [backTo_succ] at e1;obtain ⟨e3,_⟩:=List.append_inj' e1 rfl;have e4:=stB_to cs us k (by omega);rw [e3] at e4;rw [e4];rw [e4] at e2;exact (undoneAll_over (fair_over e2)).symm
   clear e1 e2;have a0:D < W.heap.size:=(gl hK);have a6:w.heap.size<=D:=by omega
   have ad:=stB_fair av ab;have z:=(stB_size HL ab).2;rw [a1] at ad z p;have a4:Hid (MapIs W w1.heap.size (xY cs (us.map Subtype.val))):=p;have an:=hid ad;have a2:=hid z;have cH:=t.cell;clear p ad z
   gi_wp2_with (refine ⟨trivial,?_⟩;gi_at_call 96;refine (callsIn_wide.2 (told_i (xY cs (us.map Subtype.val)) w1.heap.size W a4 an.2.1 an.2.2 a2)).mono ?_;rintro e w' ⟨v',rfl,ac,hb⟩)
   have ar:w'.heap[D]?=Ab (.deferred (some [])):=(hb.block D a0).trans hK;refine ⟨by simp,.inl ⟨_,_,rfl,run_takeDeferred ar,?_⟩⟩;refine ⟨_,results_tmp rfl _ _ _,v',rfl,zN (Af ac (grownBy_putObj' _ D _) (Or.inr fun e=>by have:=(ac.lt D e).1;omega)) f.size,?_⟩;exact (f.trans (hb.mono f.size)).trans (belowK_b (w:=w) (nl _) w' D _ _ a6 ar rfl rfl)
theorem undoneAll_i (cs:CL) (us:List UN) (v u:Value) (w:World) (hv:qQ w v cs) (hu:yM w u 3 kK us) (hok:okL cs) (hl:(us.length:Int)<=1048576) (hall:∀ x∈us,(x.1.size:Int)<=1048576) :
  Calls prog 88 #[v,u] w fun e w'=>∃ v',e=.returned v'/\w'.ownsRow w.heap.size 92 2 v' (xY cs us).length (kM (xY cs us))/\Be w w':=by
 obtain ⟨a,rfl⟩:∃ a:List US,us=a.map Subtype.val:=⟨us.attach.map fun x=>⟨x.1,hall x.1 x.2⟩,by rw [List.map_map];exact (List.attach_map_subtype_val us).symm⟩;exact undoneAll_us cs a v u w hv hu hok (by simpa using hl)
end Go.Proofs.YtfnneillakdopacGreatR
