/-
  Texts of ours that later ones lean on, in one: MapN, MapI, TakeI, ToldI, CellsI, UndoAllI, BackPI, RevI, RowI, DoI, DoneAllI, ThrI, UndoI, BackI, EarI, SameI, SameP, CodeOf.
-/
import Derived.Test.YtfnneillakdopacGreatRK1
import Derived.Maps.OwnSet
import Derived.Sort.KeysCollected
import Derived.Test.YtfnneillakdopacGreatRIter
import Derived.Test.YtfnneillakdopacGreatRK11
import Derived.Test.YtfnneillakdopacGreatRK4
import Derived.Deep.RegionHeld3
import Derived.Deep.AppendLies
import Derived.Test.YtfnneillakdopacGreatRK12
import Derived.Maps.OwnIn
import Derived.Sort.MapsRangeIn
import Derived.Test.YtfnneillakdopacGreatRPeerCIZ
import Derived.Shelf.RegionOpenPlain
import Derived.WalkKit
import Derived.BigQuiet
import Derived.RangeFuncBox
import Derived.Maps.AppendAt
import Derived.Test.YtfnneillakdopacGreatRThrSZ
import Derived.Test.YtfnneillakdopacGreatRK5
import Derived.Test.YtfnneillakdopacGreatREarSZ
import Derived.Laws.StructEq
import Derived.Test.YtfnneillakdopacGreatRK10
import Derived.ProofKit
import Derived.OpenShut
import Derived.ChangeOld
set_option maxRecDepth 100000
set_option maxHeartbeats 32000000
namespace Go.Proofs.YtfnneillakdopacGreatR
open _root_.Go.Proofs.Tryz
open Go.Value renaming int->I,slice->An,string->Ao,ownBlock->Ap,pointer->At
open Go.IntKind renaming i64->U
open Option renaming none->Aa,some->Ab
open Nat renaming le_trans->Ac,lt_of_lt_of_le->Ad,zero_le->Ae
open Option.some renaming inj->Af
open List renaming getElem_mem->Ag,getElem?_eq_getElem->Aj,length_take->Aq,append_assoc->Ar,take_length->As,length_cons->Au
open Go.World.ownsRow renaming kept->Ah,alloc->Ai
open Go.Obj renaming cells->Ak
open Or renaming inr->Al
open _root_.ByteArray renaming empty->Am
open Go.RowKit Num Go.Maps
variable {cs:CL} {D:DataW Unit} {ys:List Int} {xs:List Value} {b base i k m n:Nat} {v:Value} {w w':World}
theorem keyedS:Keyed prog 9:=string_keyed underlying9
def lk (k:ByteArray):Lit:=.string k.data.toList
theorem lk_inj {a b:ByteArray} (h:lk a=lk b):a=b:=by
 apply ByteArray.ext;apply Array.ext';unfold lk at h;injection h
theorem lk_key (k:ByteArray):WideAt.IsKeyLit (lk k):=trivial
def i64D (n:Int):DataW Unit:=.lit (.int U n)
def Rep (D:DataW Unit) (cs:CL):Prop:=Maps.size D=cs.length/\(∀ k,Maps.has D (lk k)=zBB cs k)/\∀ c∈cs,D.atKey (lk c.1) (i64D 0)=i64D c.2
theorem rep_nil:Rep (.map []) []:=⟨rfl,fun _=>rfl,fun c h=>by cases h⟩
theorem rep_put (hD:Tidy D) (h:Rep D cs) (hA:Asc cs) (x:ByteArray × Int):Rep (D.put (lk x.1) (i64D x.2)) (putC cs x):=by
 obtain ⟨hs,hh,ha⟩:=h;refine ⟨?_,fun k=>?_,fun c hc=>?_⟩
 ·rw [size_put hD,hh,hs];have:=len_putC (x:=x) hA
  cases hb:zBB cs x.1 with
  | true=>rw [hb] at this;simp at this ⊢;omega
  | false=>rw [hb] at this;simp at this ⊢;omega
 ·rw [hasK_putC]
  by_cases e:x.1=k
  ·subst e;rw [has_put_same hD.isMap (lk_key _)];simp
  ·rw [has_put_other (fun e'=>e (lk_inj e').symm),hh];simp [e]
 ·rcases mem_putC.1 hc with rfl | ⟨hc,hn⟩
  ·exact atKey_put_same hD.isMap (lk_key _) _ _
  ·rw [atKey_put_other (fun e'=>hn (lk_inj e'))];exact ha c hc
theorem rep_undo (hD:Tidy D) (h:Rep D cs) {k:ByteArray} (hn:zBB cs k=false) (d:DataW Unit):Rep ((D.put (lk k) d).del (lk k)) cs:=by
 obtain ⟨hs,hh,ha⟩:=h;have hT:=hD.put (k:=lk k) (lk_key _) d;refine ⟨?_,fun j=>?_,fun c hc=>?_⟩
 ·have h1:=size_del (k:=lk k) hT;have h2:=size_put (k:=lk k) hD d;rw [has_put_same hD.isMap (lk_key _)] at h1;rw [hh,hn] at h2;simp at h1 h2;omega
 ·by_cases e:j=k
  ·subst e;rw [has_del_same,hn]
  ·rw [has_del_other (fun e'=>e (lk_inj e')),has_put_other (fun e'=>e (lk_inj e')),hh]
 ·have e:c.1 ≠ k:=hasK_no.1 hn c hc;rw [atKey_del_other (fun e'=>e (lk_inj e')),atKey_put_other (fun e'=>e (lk_inj e'))];exact ha c hc
theorem rep_same (h:Rep D cs) {j:Nat} (hj:j < cs.length):D.atKey (lk cs[j].1) (i64D 0)=i64D cs[j].2:=h.2.2 _ (Ag hj)
def MapIs (w:World) (b:Nat) (cs:CL):Prop:=∃ D:DataW Unit,w.ownsMap prog 9 (plainElem prog 3) b cs.length D/\Rep D cs
theorem tight (h:w.ownsMap prog 9 (plainElem prog 3) b n D) (hr:Rep D cs):MapIs w b cs:=by
 refine ⟨D,?_,hr⟩;have hs:=hr.1;obtain ⟨es,a,hb,F,_,rfl⟩:=h;refine ⟨es,a,hb,F,?_,rfl⟩;rw [size_eq,length_sorted] at hs;simp at hs;omega
theorem MapIs.kept {r:Option Nat} (h:MapIs w b cs) (hg:w.grownBy w' r) (hne:some b ≠ r):MapIs w' b cs:=by
 obtain ⟨D,hD,hr⟩:=h;exact ⟨D,hD.kept hg hne,hr⟩
theorem MapIs.below (h:MapIs w b cs) (hb:Be w w'):MapIs w' b cs:=h.kept (qR hb) (by simp)
theorem MapIs.lt (h:MapIs w b cs):b < w.heap.size:=by obtain ⟨D,hD,_⟩:=h;exact hD.lt
theorem row_not_map {e:TypeId} (h:w.ownsRow base e m v n xs) (hm:MapIs w b cs):some b ≠ v.ownBlock:=by
 intro he;obtain ⟨D,⟨es,a,hb,_⟩,_⟩:=hm;obtain ⟨_,⟨rfl,_⟩ | ⟨g,cap,c,rfl,_,hh,_⟩⟩:=h
 ·simp [Ap] at he
 ·have:b=g:=by simpa [Ap] using he
  subst this;rw [hb] at hh;cases hh
theorem rep_del (hD:Tidy D) (h:Rep D cs) (hA:Asc cs) (k:ByteArray):Rep (D.del (lk k)) (cs.filter fun c=>decide (c.1 ≠ k)):=by
 obtain ⟨hs,hh,ha⟩:=h
 have a:∀ j,zBB (cs.filter fun c=>decide (c.1 ≠ k)) j=(decide (j ≠ k) && zBB cs j):=fun j=>by
  rw [Bool.eq_iff_iff,yEI,Bool.and_eq_true,yEI]
  constructor
  ·rintro ⟨c,hc,rfl⟩;have:=List.mem_filter.1 hc;exact ⟨this.2,c,this.1,rfl⟩
  ·rintro ⟨hj,c,hc,rfl⟩;exact ⟨c,List.mem_filter.2 ⟨hc,hj⟩,rfl⟩
 refine ⟨?_,fun j=>?_,fun c hc=>?_⟩
 ·have h1:=size_del (k:=lk k) hD;rw [hh,hs] at h1;have h2:=len_drop (k:=k) hA
  split at h1
  ·rename_i hy;rw [hy] at h2;simp only [if_true] at h2;omega
  ·rename_i hy;rw [if_neg hy] at h2;omega
 ·rw [a]
  by_cases e:j=k
  ·subst e;rw [has_del_same];simp
  ·rw [has_del_other (fun e'=>e (lk_inj e')),hh];simp [e]
 ·have:=List.mem_filter.1 hc;have e:c.1 ≠ k:=by simpa using this.2
  rw [atKey_del_other (fun e'=>e (lk_inj e'))];exact ha c this.1
theorem map_made (w:World):MapIs (w.alloc (.map #[] 0)) w.heap.size []:=⟨.map [],World.ownsMap_made w _ _ _,rep_nil⟩
theorem putC_last {xs:CL} {x:ByteArray × Int} (h:∀ c∈xs,kLt c.1 x.1=true):putC xs x=xs ++ [x]:=by
 unfold putC;rw [List.filter_eq_self.2 h,List.filter_eq_nil_iff.2 fun c hc=>by rw [kLt_asym (h c hc)];simp]
theorem putC_take (hA:Asc cs) (hk:k < cs.length):putC (cs.take k) cs[k]=cs.take (k+1):=by
 rw [putC_last,List.take_add_one,Aj hk]
 ·rfl
 intro c hc;obtain ⟨i,hi,rfl⟩:=List.mem_iff_getElem.1 hc;rw [Aq] at hi;rw [List.getElem_take];exact List.pairwise_iff_getElem.1 hA i k (by omega) hk (by omega)
theorem asc_take (hA:Asc cs) (k:Nat):Asc (cs.take k):=List.Pairwise.sublist (List.take_sublist _ _) hA
theorem keys_sorted (h:w.ownsMap prog 9 (plainElem prog 3) b n D) (hr:Rep D cs) (hA:Asc cs) {ss:List (List UInt8)} (hp:ss.Perm (strKeys D)) :
  ss.mergeSort (fun x y=>decide (x<=y))=cs.map fun c=>c.1.data.toList:=by
 have g:(cs.map fun c=>c.1.data.toList).Nodup:=by
  refine List.pairwise_map.2 (hA.imp fun {a b} d e=>?_);have:=kLt_iff.1 d;rw [e] at this;exact List.lt_irrefl _ this
 have hc:Collected D (fun _=>false) (cs.map fun c=>c.1.data.toList):=by
  refine ⟨g,fun x=>?_⟩;have e:Maps.has D (.string x)=zBB cs ⟨x.toArray⟩:=hr.2.1 ⟨x.toArray⟩;rw [e,yEI]
  constructor
  ·intro hx;obtain ⟨c,hc,rfl⟩:=List.mem_map.1 hx;exact ⟨⟨c,hc,by apply ByteArray.ext;apply Array.ext';simp⟩,rfl⟩
  ·rintro ⟨⟨c,hc,f⟩,_⟩;exact List.mem_map.2 ⟨c,hc,by rw [f]⟩
 have i:=hc.perm h keyedS underlying9 fun _=>rfl
 rw [show (ss.mergeSort fun x y=>decide (x<=y))=ss.mergeSort leB from rfl,mergeSort_of_perm (hp.trans i.symm)];refine List.mergeSort_of_pairwise (List.pairwise_map.2 (hA.imp fun {a b} d=>?_));simp only [leB,decide_eq_true_eq];exact List.le_of_lt (kLt_iff.1 d)
theorem zeroI (w:World):(zeroValue 3).run prog w=.ok (I U 0) w:=by kernel_rfl
theorem mapT:prog.underlying 142=Ab (.map 9 3):=underlying142
theorem makeM (t:TypeId) (n:Int) (w:World) (ht:prog.underlying t=Ab (.map 9 3)):(Instr.makeMap t (Ab (I U n))).run prog w=.ok (.map (some w.heap.size)) (w.alloc (.map #[] 0)):=by
 simp [Instr.makeMap,run_underlying ht,asInt,Result.andThen]
 rfl
theorem keyS {k:ByteArray} (h:(k.size:Int)<=1048576):keyOf prog 9 (.string k)=Ab (lk k):=WideMaps.keyOf_string_mk underlying9 (by unfold maxLen;omega)
theorem elemI {n:Int} (h:0<=n/\n<=1000000000):plainElem (H:=Unit) prog 3 (I U n)=Ab (i64D n,[]):=plainElem_int underlying3 (WalkArith.wf_i64 ⟨by omega,by omega⟩)
theorem accounts_i (cs:CL) (v:Value) (w:World) (hv:qQ w v cs) (hcb:kS cs=true) (hall:∀ c∈cs,(c.1.size:Int)<=1048576) :
  Calls prog 93 #[v] w fun e w'=>e=.returned (.map (some w.heap.size))/\MapIs w' w.heap.size cs/\Be w w':=by
 obtain ⟨r,hA,hl⟩:=zFG.1 hcb;have z:Hid (∀ c∈cs,zIJ c.1=true/\zEH c.2=true):=r;have HA:=hid hA;have HZ:=hid hall;obtain ⟨a,cap,rfl,hr⟩:=hv;have HR:=hid hr;have ab:=makeM 142 (cs.length:Int);clear hr r hA hall hcb;go_enter func93,ntmps93;go_wp2
 go_loopw [11] (fun i wr=>∃ k:Nat,k<=cs.length/\i=I U (k:Int)/\MapIs wr w.heap.size (cs.take k)/\Be w wr) (fun i _=>cs.length - (intOf i).toNat)
 case atStart=>exact ⟨0,Ae _,rfl,map_made w,ba (br _ _) _⟩
 case round=>
  obtain ⟨k,hk,rfl,f,d⟩:=hrel
  by_cases hlt:(k:Int) < cs.length
  ·have h:k < cs.length:=by omega
   obtain ⟨g,s,rfl,hg,hc⟩:=HR (by omega);have q0:(0:Int)<=(k:Int):=by omega
   have c0:wr.cell? ⟨g,s+k * 2,Aa⟩=Ab (.string cs[k].1):=by rw [d.cell (by exact hg)];exact (hc k h).1
   have c1:wr.cell? ⟨g,s+k * 2+1,Aa⟩=Ab (I U cs[k].2):=by rw [d.cell (by exact hg)];exact (hc k h).2
   have x:=HZ cs[k] (Ag h);have y:=numB_bd (z cs[k] (Ag h)).2;have m:keyOf prog 9 (.string cs[k].1)=Ab (lk cs[k].1):=keyS x;have o:plainElem (H:=Unit) prog 3 (I U cs[k].2)=Ab (i64D cs[k].2,[]):=elemI y;have ac:=d.size;have aa:=f.lt;obtain ⟨D,hD,l⟩:=f;have p:(cs.take k).length < maxLen:=by rw [Aq];unfold maxLen;omega
   have HD:Hid (wr.ownsMap prog 9 (plainElem prog 3) w.heap.size (cs.take k).length D):=hD;have HP:Hid (Rep (D.put (lk cs[k].1) (i64D cs[k].2)) (cs.take (k+1))):=hid (by have:=rep_put (hD.tidy keyedS) l (asc_take HA k) cs[k];rw [putC_take HA.out h] at this;exact this);have HK:Hid (keyOf prog 9 (.string cs[k].1)=Ab (lk cs[k].1)):=m;have HW:Hid (plainElem (H:=Unit) prog 3 (I U cs[k].2)=Ab (i64D cs[k].2,[])):=o;clear hc hD l m o;go_wp2_with (at_mapUpdate;refine wpList_mapUpdate_own _ rfl _ _ _ 142 rfl 9 3 keyedS mapT _ w.heap.size (cs.take k).length D rfl (HD.alloc _) p _ _ _ rfl rfl HK _ [] HW ?_;intro w1 n j)
   go_roundw
   case rel=>exact ⟨k+1,by omega,by go_num,tight n HP,(ba d _).grown j (by simp;omega) fun b hb=>by cases hb;exact nl _⟩
   case measure=>simp [intOf];omega
  ·have t:k=cs.length:=by omega
   have HK:Hid (k=cs.length):=t;have HM:Hid (MapIs wr w.heap.size (cs.take k)):=f;clear t f;go_wp2;go_ret;have:=HM.out;rw [HK.out,As] at this;exact ⟨rfl,this,d⟩
def putCode (cs:CL) (key:ByteArray) (num:Int):Int:=if zEH num=false∨(zBB cs key=false/\12<=cs.length) then 2 else 0
def putRest (cs:CL) (key:ByteArray) (num:Int):CL:=if putCode cs key num=0 then putC cs (key,num) else cs
theorem put_i (cs:CL) (b:Nat) (key:ByteArray) (num:Int) (w:World) (hm:MapIs w b cs) (hA:Asc cs) (hl:cs.length<=12) (hk:(key.size:Int)<=1048576) :
  Calls prog 133 #[.map (some b),.string key,I U num] w fun e w'=>e=.returned (I U (putCode cs key num))/\MapIs w' b (putRest cs key num)/\w.grownBy w' (some b):=by
 cases j:zEH num with
 | false=>
  have HM:=hid hm;have a:putCode cs key num=2:=by unfold putCode;rw [if_pos (Or.inl j)]
  have d:putRest cs key num=cs:=by unfold putRest;rw [a,if_neg (by decide)]
  rw [a,d];clear hm;go_enter func133,ntmps133;go_wp2_with (go_at_call 130;refine (numOk_i _ _).mono ?_;rintro e w' ⟨rfl,rfl⟩;rw [j])
  go_ret;exact ⟨rfl,HM,⟨rfl,rfl,rfl,nl _,fun _ _ _=>rfl⟩⟩
 | true=>
  obtain ⟨D,hD,i⟩:=hm;have HD:=hid hD;have k:=keyS hk;have p:=elemI (numB_bd j);have HK:Hid (keyOf prog 9 (.string key)=Ab (lk key)):=k;have HW:Hid (plainElem (H:=Unit) prog 3 (I U num)=Ab (i64D num,[])):=p;have HP:Hid (Rep (D.put (lk key) (i64D num)) (putC cs (key,num))):=rep_put (hD.tidy keyedS) i hA (key,num);have n:cs.length < maxLen:=by unfold maxLen;omega
  have l:Maps.size (D.put (lk key) (i64D num))=(putC cs (key,num)).length:=HP.1;have g:=len_putC (x:=(key,num)) hA
  by_cases hc:zBB cs key=false/\12<=cs.length
  ·have a:putCode cs key num=2:=by unfold putCode;rw [if_pos (Al hc)]
   have d:putRest cs key num=cs:=by unfold putRest;rw [a,if_neg (by decide)]
   have HU:Hid (Rep ((D.put (lk key) (i64D num)).del (lk key)) cs):=rep_undo (hD.tidy keyedS) i hc.1 _;have r:(12:Int) < (Maps.size (D.put (lk key) (i64D num)):Int):=by rw [l];rw [hc.1] at g;simp at g;omega
   rw [a,d];clear hD i k p l g;go_enter func133,ntmps133
   go_wp2_with (first
    | (go_at_call 130;refine (numOk_i _ _).mono ?_;rintro e w' ⟨rfl,rfl⟩;rw [j])
    | (at_mapUpdate;refine wpList_mapUpdate_own _ rfl _ _ _ 142 rfl 9 3 keyedS mapT _ b cs.length D rfl HD n _ _ _ rfl rfl HK _ [] HW ?_;intro w1 c f)
    | (at_len;refine wpList_len_own _ rfl _ 142 rfl 9 3 mapT _ b _ _ rfl c ?_)
    | (at_delete;refine wpList_delete_own _ rfl _ _ 142 9 rfl 3 keyedS mapT _ b _ _ rfl c _ _ rfl HK ?_;intro w2 o m))
   go_ret;exact ⟨rfl,tight o HU,zP f m.grown⟩
  ·have a:putCode cs key num=0:=by unfold putCode;rw [if_neg (fun h=>h.elim (fun h=>by rw [j] at h;cases h) hc)]
   have d:putRest cs key num=putC cs (key,num):=by unfold putRest;rw [a,if_pos rfl]
   have r:(Maps.size (D.put (lk key) (i64D num)):Int)<=12:=by
    rw [l]
    cases hh:zBB cs key with
    | true=>rw [hh] at g;simp at g;omega
    | false=>
     rw [hh] at g;simp at g;have:¬ 12<=cs.length:=fun h=>hc ⟨hh,h⟩
     omega
   rw [a,d];clear hD i k p l g;go_enter func133,ntmps133
   go_wp2_with (first
    | (go_at_call 130;refine (numOk_i _ _).mono ?_;rintro e w' ⟨rfl,rfl⟩;rw [j])
    | (at_mapUpdate;refine wpList_mapUpdate_own _ rfl _ _ _ 142 rfl 9 3 keyedS mapT _ b cs.length D rfl HD n _ _ _ rfl rfl HK _ [] HW ?_;intro w1 c f)
    | (at_len;refine wpList_len_own _ rfl _ 142 rfl 9 3 mapT _ b _ _ rfl c ?_))
   go_ret;exact ⟨rfl,tight c HP,f⟩
def takeF (u:UN):Nat:=if zHH u=false then 174 else if u.2.1=true then 175 else 176
def takeL (u:UN) (n:Nat):Array Value:=if zHH u=false then #[] else #[.pointer (Ab ⟨n,0,Aa⟩)]
theorem takes_i (u:UN) (w:World) (hk:(u.1.size:Int)<=1048576) :
  Calls prog 127 #[undoV u] w fun e w'=>e=.returned (.func (.func (takeF u)) #[] (takeL u w.heap.size))/\w'=w.alloc (.cells #[.string u.1,.bool u.2.1,I U u.2.2] 95):=by
 obtain ⟨b,c,num⟩:=u;have g:∀ (fn:Fn) (first cap:Array Value) (w:World),(Instr.makeFunc fn first cap).run prog w=.ok (.func fn first cap) w:=fun _ _ _ _=>rfl
 simp only at hk;unfold undoV
 cases d:zIJ b with
 | false=>
  have a:zHH (b,c,num)=false:=by unfold zHH;simp only;rw [d];rfl
  have HF:Hid (takeF (b,c,num)=174):=if_pos a;have HL:Hid (takeL (b,c,num) w.heap.size=#[]):=if_pos a;clear a;go_enter func127,ntmps127
  go_wp2_with (first
   | (go_at_call 129;refine (key_i _ _ hk).mono ?_;rintro e w' ⟨rfl,rfl⟩;rw [d])
   | (go_at_call 130;refine (numOk_i _ _).mono ?_;rintro e w' ⟨rfl,rfl⟩))
  go_ret;exact ⟨by rw [HF.out,HL.out];rfl,rfl⟩
 | true=>
  cases f:zEH num with
  | false=>
   have a:zHH (b,c,num)=false:=by unfold zHH;simp only;rw [d,f];rfl
   have HF:Hid (takeF (b,c,num)=174):=if_pos a;have HL:Hid (takeL (b,c,num) w.heap.size=#[]):=if_pos a;clear a;go_enter func127,ntmps127
   go_wp2_with (first
    | (go_at_call 129;refine (key_i _ _ hk).mono ?_;rintro e w' ⟨rfl,rfl⟩;rw [d])
    | (go_at_call 130;refine (numOk_i _ _).mono ?_;rintro e w' ⟨rfl,rfl⟩;rw [f]))
   go_ret;exact ⟨by rw [HF.out,HL.out];rfl,rfl⟩
  | true=>
   have a:¬ zHH (b,c,num)=false:=by unfold zHH;simp only;rw [d,f];simp
   have HL:Hid (takeL (b,c,num) w.heap.size=#[.pointer (Ab ⟨w.heap.size,0,Aa⟩)]):=if_neg a
   cases c with
   | true=>
    have HF:Hid (takeF (b,true,num)=175):=(if_neg a).trans (if_pos rfl);clear a;go_enter func127,ntmps127
    go_wp2_with (first
     | (go_at_call 129;refine (key_i _ _ hk).mono ?_;rintro e w' ⟨rfl,rfl⟩;rw [d])
     | (go_at_call 130;refine (numOk_i _ _).mono ?_;rintro e w' ⟨rfl,rfl⟩;rw [f]))
    go_ret;exact ⟨by rw [HF.out,HL.out];rfl,rfl⟩
   | false=>
    have HF:Hid (takeF (b,false,num)=176):=(if_neg a).trans (if_neg (by simp));clear a;go_enter func127,ntmps127
    go_wp2_with (first
     | (go_at_call 129;refine (key_i _ _ hk).mono ?_;rintro e w' ⟨rfl,rfl⟩;rw [d])
     | (go_at_call 130;refine (numOk_i _ _).mono ?_;rintro e w' ⟨rfl,rfl⟩;rw [f]))
    go_ret;exact ⟨by rw [HF.out,HL.out];rfl,rfl⟩
theorem take1_i (mb:Option Nat) (w:World):Calls prog 174 #[.map mb] w fun e w'=>e=.returned (.tuple #[])/\w'=w:=by
 go_enter func174,ntmps174;go_wp2
 go_end0
 exact ⟨rfl,rfl⟩
theorem take2_i (cs:CL) (b n:Nat) (key:ByteArray) (num:Int) (w:World) (hm:MapIs w b cs) (hA:Asc cs) (hl:cs.length<=12) (hk:(key.size:Int)<=1048576) (hnb:zEH num=true) (c0:w.cell? ⟨n,0,Aa⟩=Ab (.string key)) (c2:w.cell? ⟨n,2,Aa⟩=Ab (I U num)) :
  Calls prog 175 #[.map (some b),.pointer (Ab ⟨n,0,Aa⟩)] w fun e w'=>e=.returned (.tuple #[])/\MapIs w' b (putC cs (key,num))/\w.grownBy w' (some b):=by
 obtain ⟨D,hD,c⟩:=hm;have HD:=hid hD;have HK:Hid (keyOf prog 9 (.string key)=Ab (lk key)):=keyS hk;have HW:Hid (plainElem (H:=Unit) prog 3 (I U num)=Ab (i64D num,[])):=elemI (numB_bd hnb);have HP:Hid (Rep (D.put (lk key) (i64D num)) (putC cs (key,num))):=rep_put (hD.tidy keyedS) c hA (key,num);have f:cs.length < maxLen:=by unfold maxLen;omega
 clear hD c hA hnb;go_enter func175,ntmps175;go_wp2_with (at_mapUpdate;refine wpList_mapUpdate_own _ rfl _ _ _ 142 rfl 9 3 keyedS mapT _ b cs.length D rfl HD f _ _ _ rfl rfl HK _ [] HW ?_;intro w1 d a)
 go_end0
 exact ⟨rfl,tight d HP,a⟩
theorem take3_i (cs:CL) (b n:Nat) (key:ByteArray) (w:World) (hm:MapIs w b cs) (hA:Asc cs) (hk:(key.size:Int)<=1048576) (c0:w.cell? ⟨n,0,Aa⟩=Ab (.string key)) :
  Calls prog 176 #[.map (some b),.pointer (Ab ⟨n,0,Aa⟩)] w fun e w'=>e=.returned (.tuple #[])/\MapIs w' b (cs.filter fun c=>decide (c.1 ≠ key))/\w.grownBy w' (some b):=by
 obtain ⟨D,hD,d⟩:=hm;have HD:=hid hD;have HK:Hid (keyOf prog 9 (.string key)=Ab (lk key)):=keyS hk;have hp:=rep_del (hD.tidy keyedS) d hA key;obtain ⟨ds,g⟩:∃ ds,ds=cs.filter fun c=>decide (c.1 ≠ key):=⟨_,rfl⟩
 rw [<- g] at hp ⊢;have HP:=hid hp;clear hD d hA hp g;go_enter func176,ntmps176;go_wp2_with (at_delete;refine wpList_delete_own _ rfl _ _ 142 9 rfl 3 keyedS mapT _ b _ _ rfl HD _ _ rfl HK ?_;intro w2 f a)
 go_end0
 exact ⟨rfl,tight f HP,a.grown⟩
theorem takes1 (u:UN) (w:World) (hk:(u.1.size:Int)<=1048576) (h:zHH u=false) :
  Calls prog 127 #[undoV u] w fun e w'=>e=.returned (.func (.func 174) #[] #[])/\w'=w.alloc (.cells #[.string u.1,.bool u.2.1,I U u.2.2] 95):=by
 have:=takes_i u w hk;rw [show takeF u=174 from if_pos h,show takeL u w.heap.size=#[] from if_pos h] at this;exact this
theorem takes2 (key:ByteArray) (num:Int) (w:World) (hk:(key.size:Int)<=1048576) (h:zHH (key,true,num)=true) :
  Calls prog 127 #[.agg #[.string key,.bool true,I U num]] w fun e w'=>e=.returned (.func (.func 175) #[] #[.pointer (Ab ⟨w.heap.size,0,Aa⟩)])/\w'=w.alloc (.cells #[.string key,.bool true,I U num] 95):=by
 have hn:¬ zHH (key,true,num)=false:=by rw [h];simp
 have:=takes_i (key,true,num) w hk;rw [show takeF (key,true,num)=175 from (if_neg hn).trans (if_pos rfl),show takeL (key,true,num) w.heap.size=#[.pointer (Ab ⟨w.heap.size,0,Aa⟩)] from if_neg hn] at this;exact this
theorem takes3 (key:ByteArray) (num:Int) (w:World) (hk:(key.size:Int)<=1048576) (h:zHH (key,false,num)=true) :
  Calls prog 127 #[.agg #[.string key,.bool false,I U num]] w fun e w'=>e=.returned (.func (.func 176) #[] #[.pointer (Ab ⟨w.heap.size,0,Aa⟩)])/\w'=w.alloc (.cells #[.string key,.bool false,I U num] 95):=by
 have hn:¬ zHH (key,false,num)=false:=by rw [h];simp
 have:=takes_i (key,false,num) w hk;rw [show takeF (key,false,num)=176 from (if_neg hn).trans (if_neg (by simp)),show takeL (key,false,num) w.heap.size=#[.pointer (Ab ⟨w.heap.size,0,Aa⟩)] from if_neg hn] at this;exact this
theorem keys_i (mb:Option Nat) (W:World):Calls prog 135 #[.map mb] W fun e w'=>e=.returned (.func (.func 179) #[] #[.pointer (Ab ⟨W.heap.size,0,Aa⟩)])/\w'=W.alloc (.cells #[.map mb] 142):=
 (callsIn_wide (n:=5)).1 (keys_any mb W)
theorem sorted_row {w1:World} (h:w.ownsMap prog 9 (plainElem prog 3) b n D) (hr:Rep D cs) (hA:Asc cs) {ss:List (List UInt8)} (hp:ss.Perm (strKeys D))
  (hrow:w1.ownsRow base 9 1 v ss.length ((ss.mergeSort (fun x y=>decide (x<=y))).map encStr)):w1.ownsRow base 9 1 v cs.length (cs.map fun c=>Ao c.1)/\ss.length=cs.length:=by
 have e:=keys_sorted h hr hA hp
 have el:ss.length=cs.length:=by
  have:=congrArg List.length e;rw [List.length_mergeSort,List.length_map] at this;exact this
 rw [e,el,List.map_map] at hrow;refine ⟨?_,el⟩
 have:((fun c:ByteArray × Int=>c.1.data.toList) |> fun f=>cs.map (encStr ∘ f))=cs.map fun c=>Ao c.1:=by
  refine List.map_congr_left fun c _=>?_
  simp [encStr]
 simp only at this;rw [this] at hrow;exact hrow
theorem told_i (cs:CL) (b:Nat) (w:World) (hm:MapIs w b cs) (hA:Asc cs) (hl:cs.length<=13) (hall:∀ c∈cs,(c.1.size:Int)<=1048576) :
  Calls prog 96 #[.map (some b)] w fun e w'=>∃ v,e=.returned v/\w'.ownsRow w.heap.size 92 2 v cs.length (kM cs)/\Be w w':=by
 have HM:=hid hm;have HA:=hid hA;have HZ:=hid hall;obtain ⟨D,hD,m⟩:=hm;have HD:=hid hD;have aj:=hid m;have af:Maps.size D=cs.length:=m.1;obtain ⟨i0,hi,ap,ar,ak⟩:=info_parts infoC;clear hD m hA hall;go_enter func96,ntmps96
 go_wp2_with (first
  | (at_len;refine wpList_len_own _ rfl _ 142 rfl 9 3 mapT _ b _ _ rfl HD ?_)
  | (at_make;refine wpList_make_own _ rfl _ _ 30 rfl w.heap.size 92 i0 _ 2 underlying30 hi ap ar _ _ _ cs.length rfl rfl (by rw [af]) (by rw [ak];omega) (by unfold maxLen;omega) (nl _) ?_;intro w0 r d;have B0:Be w w0:=(br _ _).grown d (nl _) (fun k h=>by cases h);have ag:Hid (w0.ownsMap prog 9 (plainElem prog 3) b cs.length D):=HD.kept d (by simp);have aq:Hid (w0.ownsRow w.heap.size 92 2 (.slice (Ab ⟨w.heap.size,0,Aa⟩) 0 cs.length) 0 []):=r;clear r d)
  | (go_at_call 135;refine (keys_i _ _).mono ?_;rintro e w1 ⟨rfl,rfl⟩)
  | (go_at_call 134;refine ((callsIn_wide (n:=5)).1 (sorted_any b _ D _ w0 ag (by rw [af];unfold maxLen;omega) (by rw [af];omega))).mono ?_;rintro e w1 ⟨v1,ss,rfl,hS,ae,an,y⟩;clear an;obtain ⟨f,bd⟩:=sorted_row ag aj HA hS ae;obtain ⟨a1,j,rfl,aw⟩:=yL f;have al:Hid (w1.ownsRow _ 9 1 (.slice a1 cs.length j) cs.length (cs.map fun c=>Ao c.1)):=f;have a2:Hid (0 < cs.length->∃ g,a1=Ab ⟨g,0,Aa⟩):=aw;clear ae f hS aw))
 have B1:Be w w1:=bt B0 (bt (ba (br _ _) _) y);have a9:Hid (w1.ownsRow w.heap.size 92 2 (.slice (Ab ⟨w.heap.size,0,Aa⟩) 0 cs.length) 0 []):=zS aq (bt (ba (br _ _) _) y);have a4:Hid (Be w w1):=B1;have bf:w0.heap.size<=w1.heap.size:=by have:=y.size;simp at this;omega
 have a5:Hid (Be w w0):=B0;clear y B0 ag aq
 go_loopw [3,13] (fun o i wr=>∃ k:Nat,k<=cs.length/\i=I U (k:Int)/\wr.ownsRow w.heap.size 92 2 o k (kM (cs.take k))/\Hid (∀ g,a1=Ab ⟨g,0,Aa⟩->o.ownBlock ≠ some g)/\wr.ownsRow _ 9 1 (.slice a1 cs.length j) cs.length (cs.map fun c=>Ao c.1)/\Be w wr) (fun _ i _=>cs.length - (intOf i).toNat)
 case atStart=>exact ⟨0,Ae _,rfl,a9,fun g hg e=>(by subst hg;have h1:=(al.lt g rfl).1;have h2:w.heap.size=g:=Af e;simp at h1;have:=a5.size;omega),al,a4⟩
 case round=>
  obtain ⟨k,hk,rfl,ac,av,l,p⟩:=hrel;have HO:Hid (wr.ownsRow w.heap.size 92 2 u3 k (kM (cs.take k))):=ac;have HW:Hid (wr.ownsRow _ 9 1 (.slice a1 cs.length j) cs.length (cs.map fun c=>Ao c.1)):=l;have HB:Hid (Be w wr):=p;have bg:=p.size;clear ac l p
  by_cases hlt:(k:Int) < cs.length
  ·have z:k < cs.length:=by omega
   obtain ⟨g,rfl⟩:=a2 (by omega);have q0:(0:Int)<=(k:Int):=by omega
   have c0:wr.cell? ⟨g,k,Aa⟩=Ab (.string cs[k].1):=by rw [World.ownsRow.cellAt HW.out k (by omega),List.getElem?_map,Aj z];rfl
   have ah:=HZ cs[k] (Ag z);have ay:cs[k].1.size<=281474976710656:=by omega
   have HL:Hid (∀ w',Be w w'->(Instr.lookup 142 (.map (some b)) (.string cs[k].1) false).run prog w'=.ok (I U cs[k].2) w'):=fun w' hb=>by
    have hm:=HM.below hb;obtain ⟨D',a6,a3⟩:=hm;obtain ⟨c,ai,a7,_⟩:=a6.lookup_int keyedS mapT underlying3 (zeroI _) (keyS ah);have e:=a7.symm.trans (rep_same a3 z);unfold i64D at e;injection e with t;injection t with _ t
    rw [<- t];exact ai
   go_wp2
   go_region_held3 (fun w'=>(Instr.lookup 142 (.map (some b)) (.string cs[k].1) false).run prog w'=.ok (I U cs[k].2) w') (first | exact HL _ HB.drew | exact HL _ ab | exact HL _ (ba ab _) | exact HL _ am) (first | (refine step_append_lies _ (by rfl) (.tmp 17) (.tmp 24) 30 (by rfl) w.heap.size 92 i0 _ 2 24 underlying30 hi ap ar ak rfl (by decide) _ _ _ (by rfl) (Ai ao _) ⟨World.heap _ |>.size,0,Aa⟩ 1 1 [.string cs[k].1,I U cs[k].2] (by rfl) rfl (newsC _ _ _ _) (onesC _ _) (by decide) (by unfold maxLen;omega) (by omega) (by simp;omega) _ rfl ?_;intro g2 ad w3 s a az bb;clear bb;have am:Be w w3:=(ba ab _).grown a (by simp;omega) (fun x hx=>(ao.lt x hx).1)) | (go_at_call 125;refine (clone _ _ ay).mono ?_;rintro e w2 ⟨rfl,bc⟩;have aa:Be wr w2:=(br _ _).drew.trans bc;have ab:Be w w2:=bt HB aa;have ao:Hid (w2.ownsRow w.heap.size 92 2 u3 k (kM (cs.take k))):=zS HO aa;have be:=ab.size))
   all_goals
    have a8:Hid (w3.ownsRow w.heap.size 92 2 (.slice (Ab ⟨g2,0,Aa⟩) (k+1) ad) (k+1) (kM (cs.take k) ++ [.string cs[k].1,I U cs[k].2])):=s;have a0:Hid (w3.ownsRow _ 9 1 (.slice (Ab ⟨g,0,Aa⟩) cs.length j) cs.length (cs.map fun c=>Ao c.1)):=Ah (Ai (zS HW aa) _) a (Al (av g rfl).symm)
    have ax:Hid (∀ x,some (⟨g,0,Aa⟩:Addr)=Ab ⟨x,0,Aa⟩->(An (Ab ⟨g2,0,Aa⟩) (k+1) ad).ownBlock ≠ some x):=fun x hx e=>by
     cases hx
     have e2:g2=g:=Af e
     rcases az with h | h
     ·exact av.out g rfl (by rw [h,e2])
     ·have:=(HW.lt g rfl).2;have:=aa.size;simp at h;omega
    clear s a az;go_wp2
    go_roundw
    case rel=>exact ⟨k+1,by omega,by go_num,by rw [take_snoc' z,flat_append];exact a8.out,ax,a0,am⟩
    case measure=>simp [intOf];omega
  ·have au:k=cs.length:=by omega
   have HK:Hid (k=cs.length):=au;clear au;go_wp2;go_ret;have:=HO.out;rw [HK.out,As] at this;exact ⟨_,rfl,this,HB⟩
theorem cellsB_long (h:12 < cs.length):kS cs=false:=by
 unfold kS;rw [show decide (cs.length<=12)=false by simp;omega,Bool.and_false]
theorem cellsOk_i (cs:CL) (v:Value) (w:World) (hv:qQ w v cs) (hl:(cs.length:Int)<=1048576) (hall:∀ c∈cs,(c.1.size:Int)<=1048576) :
  Calls prog 91 #[v] w fun e w'=>e=.returned (.bool (kS cs))/\Be w w':=by
 obtain ⟨a,cap,rfl,hr⟩:=hv;have HR:=hid hr;have HA:=hid hall;clear hr hall
 by_cases h12:12 < (cs.length:Int)
 ·rw [cellsB_long (by omega)];go_enter func91,ntmps91;go_wp2;go_ret;exact ⟨rfl,br _ _⟩
 ·go_enter func91,ntmps91;go_wp2
  go_loopw [10] (fun i wr=>∃ k:Nat,k<=cs.length/\i=I U (k:Int)/\Hid (okTo cs k)/\Be w wr) (fun i _=>cs.length - (intOf i).toNat)
  case atStart=>exact ⟨0,Ae _,rfl,fun i hi=>by omega,br _ _⟩
  case round=>
   obtain ⟨k,hk,rfl,HO,b⟩:=hrel
   by_cases hlt:(k:Int) < cs.length
   ·have d:k < cs.length:=by omega
    obtain ⟨g,n,rfl,hg,hc⟩:=HR (by omega);have m:=HA cs[k] (Ag d);have c0:wr.cell? ⟨g,n+k * 2,Aa⟩=Ab (.string cs[k].1):=by rw [b.cell (by exact hg)];exact (hc k d).1
    have c1:wr.cell? ⟨g,n+k * 2+1,Aa⟩=Ab (I U cs[k].2):=by rw [b.cell (by exact hg)];exact (hc k d).2
    have q0:(0:Int)<=(k:Int):=by omega
    cases f:zIJ cs[k].1 with
    | false=>
     have HN:Hid (okAt cs k=false):=by
      cases k with
      | zero=>rw [yFC d,f];rfl
      | succ j=>rw [zGD d,f];rfl
     clear hc;go_wp2_with (go_at_call 129;refine (key_i _ _ m).mono ?_;rintro e w' ⟨rfl,rfl⟩;rw [f])
     go_ret;exact ⟨zL (cellsB_no d HN).symm,ba b _⟩
    | true=>
     cases h:zEH cs[k].2 with
     | false=>
      have HN:Hid (okAt cs k=false):=by
       cases k with
       | zero=>rw [yFC d,f,h];rfl
       | succ j=>rw [zGD d,f,h];rfl
      clear hc
      go_wp2_with (first
       | (go_at_call 129;refine (key_i _ _ m).mono ?_;rintro e w' ⟨rfl,rfl⟩;rw [f])
       | (go_at_call 130;refine (numOk_i _ _).mono ?_;rintro e w' ⟨rfl,rfl⟩;rw [h]))
      go_ret;exact ⟨zL (cellsB_no d HN).symm,ba b _⟩
     | true=>
      have t:=yX (wr.alloc (Ak #[Ao cs[k].1,I U cs[k].2] 92));have d0:∀ x:Bw (wr.alloc (Ak #[Ao cs[k].1,I U cs[k].2] 92)),x.to.cell? ⟨wr.heap.size,0,Aa⟩=Ab (.string cs[k].1):=fun x=>by rw [x.below.cell (by simp)];simp
      cases k with
      | zero=>
       have HN:Hid (okAt cs 0=true):=by rw [yFC d,f,h];rfl
       have r:wr.cell? ⟨g,n,Aa⟩=Ab (.string cs[0].1):=by simpa using c0
       have s:wr.cell? ⟨g,n+1,Aa⟩=Ab (I U cs[0].2):=by simpa using c1
       have q1:(0:Int) < (cs.length:Int):=by omega
       clear hc
       go_wp2_with (first
        | (go_at_call 129;refine (key_i _ _ m).mono ?_;rintro e w' ⟨rfl,rfl⟩;rw [f])
        | (go_at_call 130;refine (numOk_i _ _).mono ?_;rintro e w' ⟨rfl,rfl⟩;rw [h]))
       refine rb ?_;repeat (go_big_quiet_step (fail))
       refine qnn fun x=>?_
       go_wp2
       go_roundw
       case rel=>exact ⟨1,by omega,by go_num,okTo_next HO HN,bt (ba b _) x.below⟩
       case measure=>simp [intOf];omega
      | succ j=>
       have q1:((j:Int)+1) < (cs.length:Int):=by omega
       have q2:(0:Int)<=(j:Int):=by omega
       have d1:∀ x:Bw (wr.alloc (Ak #[Ao cs[j+1].1,I U cs[j+1].2] 92)),x.to.cell? ⟨g,n+j * 2,Aa⟩=Ab (.string cs[j].1):=fun x=>by rw [(bt (ba b _) x.below).cell (by exact hg)];exact (hc j (by omega)).1
       cases l:Op.bytesLess cs[j].1.toList cs[j+1].1.toList with
       | true=>
        have HN:Hid (okAt cs (j+1)=true):=by rw [zGD d,f,h,l];rfl
        have l1:Op.bytesLess cs[j+1].1.toList cs[j].1.toList=false:=kLt_asym l;have l2:(cs[j+1].1.toList == cs[j].1.toList)=false:=ba_ne (kLt_ne l).symm;clear hc l
        go_wp2_with (first
         | (go_at_call 129;refine (key_i _ _ m).mono ?_;rintro e w' ⟨rfl,rfl⟩;rw [f])
         | (go_at_call 130;refine (numOk_i _ _).mono ?_;rintro e w' ⟨rfl,rfl⟩;rw [h]))
        refine rb ?_;repeat (go_big_quiet_step (fail))
        refine qnn fun x=>?_
        go_wp2
        go_roundw
        case rel=>exact ⟨j+1+1,by omega,by go_num,okTo_next HO HN,bt (ba b _) x.below⟩
        case measure=>simp [intOf];omega
       | false=>
        have HN:Hid (okAt cs (j+1)=false):=by rw [zGD d,f,h,l];rfl
        cases l1:Op.bytesLess cs[j+1].1.toList cs[j].1.toList with
        | true=>
         clear hc l
         go_wp2_with (first
          | (go_at_call 129;refine (key_i _ _ m).mono ?_;rintro e w' ⟨rfl,rfl⟩;rw [f])
          | (go_at_call 130;refine (numOk_i _ _).mono ?_;rintro e w' ⟨rfl,rfl⟩;rw [h]))
         refine rb ?_;repeat (go_big_quiet_step (fail))
         refine qnn fun x=>?_
         go_wp2;go_ret;exact ⟨zL (cellsB_no d HN).symm,bt (ba b _) x.below⟩
        | false=>
         have l2:(cs[j+1].1.toList == cs[j].1.toList)=true:=ba_eq (kLt_tri l1 l);clear hc l
         go_wp2_with (first
          | (go_at_call 129;refine (key_i _ _ m).mono ?_;rintro e w' ⟨rfl,rfl⟩;rw [f])
          | (go_at_call 130;refine (numOk_i _ _).mono ?_;rintro e w' ⟨rfl,rfl⟩;rw [h]))
         refine rb ?_;repeat (go_big_quiet_step (fail))
         refine qnn fun x=>?_
         go_wp2;go_ret;exact ⟨zL (cellsB_no d HN).symm,bt (ba b _) x.below⟩
   ·have p:k=cs.length:=by omega
    have HK:Hid (k=cs.length):=p;clear p;go_wp2;go_ret;have o:=HO.out;rw [HK.out] at o;exact ⟨zL (by rw [cellsB_all o];simp;omega),b⟩
theorem cellAt_i (cs:CL) (v:Value) (key:ByteArray) (w:World) (hv:qQ w v cs) (hl:(cs.length:Int)<=1048576) :
  Calls prog 131 #[v,.string key] w fun e w'=>e=.returned (I U (cellAt cs key))/\Be w w':=by
 obtain ⟨a,cap,rfl,hr⟩:=hv;have HR:=hid hr;clear hr;go_enter func131,ntmps131;go_wp2
 go_loopw [9] (fun i wr=>∃ k:Nat,k<=cs.length/\i=I U (k:Int)/\Hid (cellAt cs key=jF key (cs.drop k) k)/\Be w wr) (fun i _=>cs.length - (intOf i).toNat)
 case atStart=>exact ⟨0,Ae _,rfl,rfl,br _ _⟩
 case round=>
  obtain ⟨k,hk,rfl,HC,b⟩:=hrel
  by_cases hlt:(k:Int) < cs.length
  ·have c:k < cs.length:=by omega
   obtain ⟨g,d,rfl,hg,hc⟩:=HR (by omega);have c0:wr.cell? ⟨g,d+k * 2,Aa⟩=Ab (.string cs[k].1):=by rw [b.cell (by exact hg)];exact (hc k c).1
   have c1:wr.cell? ⟨g,d+k * 2+1,Aa⟩=Ab (I U cs[k].2):=by rw [b.cell (by exact hg)];exact (hc k c).2
   have q0:(0:Int)<=(k:Int):=by omega
   have HS:Hid (jF key (cs.drop k) k=_):=cellAt_drop cs key k c;clear hc
   by_cases he:cs[k].1=key
   ·have h:=ba_eq he;go_wp2;go_ret;exact ⟨jD (by rw [HC.out,HS.out,if_pos he]),ba b _⟩
   ·have h:=ba_ne he;have HE:Hid (¬ cs[k].1=key):=he;clear he;go_wp2
    go_roundw
    case rel=>exact ⟨k+1,by omega,by go_num,(show cellAt cs key=_ from by rw [HC.out,HS.out,if_neg HE.out]),ba b _⟩
    case measure=>simp [intOf];omega
  ·have f:k=cs.length:=by omega
   have HK:Hid (k=cs.length):=f;clear f;go_wp2;go_ret;exact ⟨jD (by rw [HC.out,HK.out,List.drop_length];rfl),b⟩
open Go.Shelf
attribute [local go_sem] Oper.semAt_some
def stB (cs:CL) (pre:List BI):CL:=pre.foldl (fun acc x=>jK acc x.2.1) cs
theorem stB_snoc (cs:CL) (pre:List BI) (x:BI):stB cs (pre ++ [x])=jK (stB cs pre) x.2.1:=by simp [stB]
theorem stB_fair (h:kS cs=true) (pre:List BI):fair (stB cs pre):=by
 unfold stB
 have:∀ (pre:List BI) (a:CL),fair a->fair (pre.foldl (fun a x=>jK a x.2.1) a):=by
  intro pre
  induction pre with
  | nil=>intro a h;exact h
  | cons x pre ih=>intro a h;exact ih _ (undone_fair h)
 exact this pre cs (fair_of h)
theorem stB_to (cs:CL) (us:List US):∀ k,k<=us.length->stB cs (backTo us k)=xY cs ((us.map Subtype.val).drop (us.length - k)):=by
 intro k
 induction k with
 | zero=>intro _;rw [Nat.sub_zero,List.drop_eq_nil_of_le (by simp)];rfl
 | succ k ih=>
  intro hk;have hj:us.length - (k+1) < (us.map Subtype.val).length:=by simp;omega
  rw [backTo_succ,stB_snoc,ih (by omega),undoneAll_step hj,show us.length - (k+1)+1=us.length - k by omega]
  congr 1
  unfold backAt;simp only [List.getElem_map];rw [show us.length - 1 - k=us.length - (k+1) by omega,Aj (by omega)]
  rfl
theorem stB_size (h:okL cs):∀ (pre:List BI),okL (stB cs pre):=by
 intro pre;unfold stB
 have:∀ (pre:List BI) (a:CL),okL a->okL (pre.foldl (fun a x=>jK a x.2.1) a):=by
  intro pre
  induction pre with
  | nil=>intro a h;exact h
  | cons x pre ih=>intro a h;exact ih _ (okL_undone h x.2.2)
 exact this pre cs h
theorem undoneAll_us (cs:CL) (us:List US) (v u:Value) (w:World) (hv:qQ w v cs) (hu:yM w u 3 kK (us.map Subtype.val)) (hok:okL cs) (hl:(us.length:Int)<=1048576) :
  Calls prog 88 #[v,u] w fun e w'=>∃ v',e=.returned v'/\w'.ownsRow w.heap.size 92 2 v' (xY cs (us.map Subtype.val)).length (kM (xY cs (us.map Subtype.val)))/\Be w w':=by
 have HV:=hid hv;have HL:=hid hok;have h1:=hok.1;obtain ⟨a,cap,rfl,_⟩:=hv;obtain ⟨b,h,rfl,hr⟩:=hu;have HR:=hid hr;clear hr hok;refine (callsIn_wide (n:=9)).1 ?_;refine callsIn_of_wp_marks func88 rfl trivial ?_ rfl;simp only [ntmps88,List.size_toArray,Au,List.length_nil,Nat.reduceAdd,Nat.reduceSub,Array.replicate_succ,Array.replicate_zero,List.push_toArray,List.append_toArray,List.nil_append,List.cons_append]
 cases ar:kS cs with
 | false=>
  have HE:Hid (xY cs (us.map Subtype.val)=cs):=undoneAll_bad ar _
  gi_wp2_with (first
   | (refine ⟨trivial,?_⟩;gi_at_call 91;refine (callsIn_wide.2 (cellsOk_i cs _ w HV HL.1 HL.2)).mono ?_;rintro e w1 ⟨rfl,ae⟩;rw [ar])
   | (refine ⟨trivial,?_⟩;gi_at_call 84;refine (callsIn_wide.2 (copy_i cs _ w1 (HV.below ae) HL.1 HL.2)).mono ?_;rintro e w2 ⟨v2,rfl,ay,av⟩))
  exact ⟨_,results_tmp rfl _ _ _,v2,rfl,by rw [HE.out];exact zN ay ae.size,bt ae av⟩
 | true=>
  have au:Hid (kS cs=true):=ar
  gi_wp2_with (first
   | (refine ⟨trivial,?_⟩;gi_at_call 91;refine (callsIn_wide.2 (cellsOk_i cs _ w HV HL.1 HL.2)).mono ?_;rintro e w1 ⟨rfl,ae⟩;rw [ar])
   | (refine ⟨trivial,?_⟩;gi_at_call 93;refine (callsIn_wide.2 (accounts_i cs _ w1 (HV.below ae) au HL.2)).mono ?_;rintro e w2 ⟨rfl,a3,av⟩)
   | (refine ⟨trivial,?_⟩;gi_at_call 126;refine (backward_in Fence.wide _ trivial rfl _ _ _ _).mono ?_;rintro e w3 ⟨rfl,rfl⟩))
  have bu:=ae.size;have bo:=av.size;have bg:=a3.lt;have bH:=(Boxed.new w2 142 (.map (some w1.heap.size))).alloc (.cells #[.slice b us.length h] 31);have bS:=Boxed.new (w2.alloc (.cells #[.map (some w1.heap.size)] 142)) 31 (.slice b us.length h);simp only [World.size_alloc] at bS;have a2:Be w ((w2.alloc (.cells #[.map (some w1.heap.size)] 142)).alloc (.cells #[.slice b us.length h] 31)):=ba (ba (bt ae av) _) _;have be:((w2.alloc (.cells #[.map (some w1.heap.size)] 142)).alloc (.cells #[.slice b us.length h] 31)).heap.size=w2.heap.size+2:=by simp
  have a9:MapIs ((w2.alloc (.cells #[.map (some w1.heap.size)] 142)).alloc (.cells #[.slice b us.length h] 31)) w1.heap.size cs:=a3.below (ba (ba (br _ _) _) _);obtain ⟨W0,a7⟩:∃ W0,(w2.alloc (.cells #[.map (some w1.heap.size)] 142)).alloc (.cells #[.slice b us.length h] 31)=W0:=⟨_,rfl⟩;rw [a7] at bH bS a2 be a9 ⊢;clear a7 ar a3;have ak:(us.map Subtype.val).length=us.length:=by simp
  refine wpIn_rangeFunc_ownH rfl (by omega) (gf:=173) (lb:=#[.pointer (Ab ⟨w2.heap.size+1,0,Aa⟩)]) rfl trivial (enters_of func173 (by kernel_rfl) rfl)
   (backward_stops Fence.wide 8 trivial rfl (by omega) (w2.heap.size+1) w.heap.size b h us hl W0 (by omega) (by omega) bS.cell (fun h0=>by
    obtain ⟨g,bi,e,hg,hc⟩:=HR (by rw [ak];exact h0)
    exact ⟨g,bi,e,hg,fun j hj i hi=>by rw [a2.cell (by exact hg),hc j (by rw [ak];exact hj) i hi,List.getElem_map]⟩))
   kpB_t (kpB_b (by omega) (by omega)) (br _ _) (fun _=>rfl)
   (fun m W=>((Boxed W w2.heap.size 142 (.map (some w1.heap.size))/\Boxed W (w2.heap.size+1) 31 (.slice b us.length h))/\MapIs W w1.heap.size (stB cs m))/\Be w W)
   (fun c m W=>(Boxed W w2.heap.size 142 (.map (some w1.heap.size))/\(c=.exit 0/\∃ ab last,m=ab ++ [last]/\12 < (stB cs ab).length/\MapIs W w1.heap.size (stB cs ab)))/\Be w W)
   (OwnFrom.and (OwnFrom.and (OwnFrom.and (Own.from (boxed_own _ _ _) _) (Own.from (boxed_own _ _ _) _)) (fun s X Y row hs hg hr=>hs.kept hg (fun e=>by have:=(hr _ e.symm).1;omega))) (ownFrom_below (nl _) (by omega)))
   (fun c=>OwnFrom.and (OwnFrom.and (Own.from (boxed_own _ _ _) _) (fun s X Y row hs hg hr=>by obtain ⟨h1,ab,last,h2,h3,h4⟩:=hs;exact ⟨h1,ab,last,h2,h3,h4.kept hg (fun e=>by have:=(hr _ e.symm).1;omega)⟩)) (ownFrom_below (nl _) (by omega)))
   ⟨⟨⟨bH,bS⟩,a9⟩,a2⟩
   (fun x a' W=>∃ Xb,W0.heap.size<=Xb/\Bx W Xb #[.string x.2.1.1,.bool x.2.1.2.1,I U x.2.1.2.2] 95/\a'={ tmps:=#[.slice a cs.length cap,.slice b us.length h,undef,undef,.slice none 0 0,.pointer (Ab ⟨w2.heap.size,0,Aa⟩),undef,.pointer (Ab ⟨Xb,0,Aa⟩),.slice a cs.length cap,.bool true,.bool false,undef,undef,.slice a cs.length cap,.map (some w1.heap.size),.slice b us.length h,.func (.func 173) #[] #[.pointer (Ab ⟨w2.heap.size+1,0,Aa⟩)],I U (x.1:Int),.agg #[.string x.2.1.1,.bool x.2.1.2.1,I U x.2.1.2.2],undef,undef,undef,undef,undef,undef,undef,undef,undef],defers:=[] })
   (fun x a' _ X Y row hs hg hr=>by
    obtain ⟨Xb,g1,g2,g3⟩:=hs;refine ⟨Xb,g1,(hg.block Xb (gl g2) (fun e=>?_)).trans g2,g3⟩;obtain ⟨_,o,ho,hc⟩:=hr Xb e.symm
    rw [g2] at ho;cases ho;cases hc)
   ?assign ?body ?done ?stop
  case assign=>
   rintro l m x W K ⟨⟨⟨t,z⟩,p⟩,f⟩ hK
   dsimp only [encB,undoV]
   gi_wp2
   exact hK _ _ ((KeepsOthers.alloc _ _).from _) ⟨(Below.refl _ W).alloc f.size _,(Below.heap_alloc W _ _ z.lt)⟩ ⟨⟨⟨t.alloc _,z.alloc _⟩,p.below (ba (br _ _) _)⟩,f.alloc f.size _⟩ ⟨W.heap.size,by have:=z.lt;omega,heap_alloc_new W _,rfl⟩
  case body=>
   rintro l m ⟨xi,⟨⟨d,af,num⟩,ah⟩⟩ a' W bk ⟨r,hr⟩ ⟨⟨⟨t,z⟩,p⟩,f⟩ ⟨Xb,bn,hX,rfl⟩ bp;simp only at hX ah;have cH:=t.cell;have bd:=p;obtain ⟨D,hD,aw⟩:=bd;have bv:Maps.size D=(stB cs m).length:=aw.1;have HD:Hid (W.ownsMap prog 9 (plainElem prog 3) w1.heap.size (stB cs m).length D):=hD;clear hD aw
   by_cases h12:12 < (stB cs m).length
   ·have bf:(12:Int) < (Maps.size D:Int):=by omega
    gi_wp2_with (gi_at_len;refine wpListIn_len_own _ rfl _ 142 rfl 9 3 mapT _ w1.heap.size _ D rfl HD ?_)
    exact ⟨KeepsFrom.refl _ _,⟨t,rfl,m,_,rfl,h12,p⟩,f⟩
   ·have bf:(Maps.size D:Int)<=12:=by omega
    have an:kS (stB cs m)=true:=fair_ok (stB_fair au m) (by omega);obtain ⟨_,bb,bh⟩:=zFG.1 an;have x0:W.cell? ⟨Xb,0,Aa⟩=Ab (.string d):=by rw [cell_of_row W Xb 0 _ _ (0,0) hX];rfl
    have x1:W.cell? ⟨Xb,1,Aa⟩=Ab (.bool af):=by rw [cell_of_row W Xb 1 _ _ (0,0) hX];rfl
    have x2:W.cell? ⟨Xb,2,Aa⟩=Ab (I U num):=by rw [cell_of_row W Xb 2 _ _ (0,0) hX];rfl
    have bl:prog.follows .mixedOrders=true:=by kernel_rfl
    have bj:=t.lt;have bq:W.drew.cell? ⟨w2.heap.size,0,Aa⟩=Ab (.map (some w1.heap.size)):=cH;have bm:∀ o,(W.drew.alloc o).cell? ⟨w2.heap.size,0,Aa⟩=Ab (.map (some w1.heap.size)):=fun o=>by rw [((Below.refl _ W).drew.alloc (nl _) o).cell (by exact t.lt)];exact cH
    cases ad:zHH (d,af,num) with
    | false=>
     obtain ⟨F,hF⟩:=nw Fence.wide;have hT:∀ n W,CallsIn F n prog 127 #[.agg #[.string d,.bool af,I U num]] W fun e w'=>e=.returned (.func (.func 174) #[] #[])/\w'=W.alloc (.cells #[.string d,.bool af,I U num] 95):=fun n W=>by rw [hF];exact callsIn_wide.2 (takes1 (d,af,num) W ah ad)
     have ai:∀ n mb W,CallsIn F n prog 174 #[.map mb] W fun e w'=>e=.returned (.tuple #[])/\w'=W:=fun n mb W=>by rw [hF];exact callsIn_wide.2 (take1_i mb W)
     have bc:F.fn 127:=by rw [hF];trivial
     have a8:F.fn 174:=by rw [hF];trivial
     rw [<- hF];clear hF
     gi_wp2_with (gi_at_len;refine wpListIn_len_own _ rfl _ 142 rfl 9 3 mapT _ w1.heap.size _ D rfl HD ?_)
     gi_region_with_o (first
      | (gi_at_call 127;refine (CallsIn.inRound l (hT _ _)).mono ?_;rintro e w' ⟨rfl,rfl⟩)
      | (gi_at_call 174;refine (CallsIn.inRound l (ai _ _ _)).mono ?_;rintro e w' ⟨rfl,rfl⟩))
     all_goals
      refine ⟨((KeepsOthers.alloc W (Ak #[Ao d,Value.bool af,I U num] 95)).trans (KeepsOthers.drew _)).from _,⟨((Below.refl _ W).alloc f.size _).drew,Below.heap_alloc W _ _ z.lt⟩,⟨⟨t.alloc _,z.alloc _⟩,?_⟩,(f.alloc f.size _).drew⟩;rw [stB_snoc,undone_not ad];exact p.below (ba (br _ _) _).drew
    | true=>
     have aj:=ad;unfold zHH at aj;simp only [Bool.and_eq_true] at aj
     cases af with
     | true=>
      have aq:MapIs (W.alloc (Ak #[Ao d,Value.bool true,I U num] 95)).drew w1.heap.size (stB cs m):=p.below (ba (br _ _) _).drew;have d0:(W.alloc (Ak #[Ao d,Value.bool true,I U num] 95)).drew.cell? ⟨W.heap.size,0,Aa⟩=Ab (.string d):=by show (W.alloc (Ak #[Ao d,Value.bool true,I U num] 95)).cell? ⟨W.heap.size,0,Aa⟩=Ab (.string d);rw [cell_of_row _ W.heap.size 0 _ _ (0,0) (heap_alloc_new W _)];rfl
      have d2:(W.alloc (Ak #[Ao d,Value.bool true,I U num] 95)).drew.cell? ⟨W.heap.size,2,Aa⟩=Ab (I U num):=by show (W.alloc (Ak #[Ao d,Value.bool true,I U num] 95)).cell? ⟨W.heap.size,2,Aa⟩=Ab (I U num);rw [cell_of_row _ W.heap.size 2 _ _ (0,0) (heap_alloc_new W _)];rfl
      obtain ⟨F,hF⟩:=nw Fence.wide;have hT:∀ n W,CallsIn F n prog 127 #[.agg #[.string d,.bool true,I U num]] W fun e w'=>e=.returned (.func (.func 175) #[] #[.pointer (Ab ⟨W.heap.size,0,Aa⟩)])/\w'=W.alloc (Ak #[Ao d,Value.bool true,I U num] 95):=fun n W=>by rw [hF];exact callsIn_wide.2 (takes2 d num W ah ad)
      have ai:∀ n,CallsIn F n prog 175 #[.map (some w1.heap.size),.pointer (Ab ⟨W.heap.size,0,Aa⟩)] (W.alloc (Ak #[Ao d,Value.bool true,I U num] 95)).drew fun e w'=>e=.returned (.tuple #[])/\MapIs w' w1.heap.size (jK (stB cs m) (d,true,num))/\(W.alloc (Ak #[Ao d,Value.bool true,I U num] 95)).drew.grownBy w' (some w1.heap.size):=fun n=>by
       rw [hF,undone_yes an ad,back_true];exact callsIn_wide.2 (take2_i (stB cs m) w1.heap.size W.heap.size d num _ aq bb bh ah aj.2 d0 d2)
      have bc:F.fn 127:=by rw [hF];trivial
      have a8:F.fn 175:=by rw [hF];trivial
      rw [<- hF];clear hF d0 d2 aq
      gi_wp2_with (gi_at_len;refine wpListIn_len_own _ rfl _ 142 rfl 9 3 mapT _ w1.heap.size _ D rfl HD ?_)
      gi_region_with_o (first
       | (gi_at_call 127;refine (CallsIn.inRound l (hT _ _)).mono ?_;rintro e w' ⟨rfl,rfl⟩)
       | (gi_at_call 175;refine (CallsIn.inRound l (ai _)).mono ?_;rintro e w' ⟨rfl,a0,aa⟩))
      all_goals
       have ap:Below w.heap.size W w':=(((Below.refl _ W).alloc f.size (Ak #[Ao d,Value.bool true,I U num] 95)).drew).grown aa (Ac f.size (by have:=(KeepsOthers.alloc W (Ak #[Ao d,Value.bool true,I U num] 95)).size;exact this)) (fun k e=>by cases e;omega);have a1:Boxed (W.alloc (Ak #[Ao d,Value.bool true,I U num] 95)).drew w2.heap.size 142 (.map (some w1.heap.size)):=t.alloc _;have al:Boxed (W.alloc (Ak #[Ao d,Value.bool true,I U num] 95)).drew (w2.heap.size+1) 31 (.slice b us.length h):=z.alloc _;have n1:some w2.heap.size ≠ some w1.heap.size:=fun e=>by have:=Af e;omega
       have n2:some (w2.heap.size+1) ≠ some w1.heap.size:=fun e=>by have:=Af e;omega
       refine ⟨(((KeepsOthers.alloc W (Ak #[Ao d,Value.bool true,I U num] 95)).trans (KeepsOthers.drew _)).from _).trans (KeepsFrom.of_grownBy aa (fun j e=>by cases e;omega)),⟨ap,(aa.block (w2.heap.size+1) al.lt n2).trans (Below.heap_alloc W _ _ z.lt)⟩,⟨⟨a1.kept aa n1,al.kept aa n2⟩,?_⟩,f.trans ap⟩;rw [stB_snoc];exact a0
     | false=>
      have aq:MapIs (W.alloc (Ak #[Ao d,Value.bool false,I U num] 95)).drew w1.heap.size (stB cs m):=p.below (ba (br _ _) _).drew;have d0:(W.alloc (Ak #[Ao d,Value.bool false,I U num] 95)).drew.cell? ⟨W.heap.size,0,Aa⟩=Ab (.string d):=by show (W.alloc (Ak #[Ao d,Value.bool false,I U num] 95)).cell? ⟨W.heap.size,0,Aa⟩=Ab (.string d);rw [cell_of_row _ W.heap.size 0 _ _ (0,0) (heap_alloc_new W _)];rfl
      have d2:(W.alloc (Ak #[Ao d,Value.bool false,I U num] 95)).drew.cell? ⟨W.heap.size,2,Aa⟩=Ab (I U num):=by show (W.alloc (Ak #[Ao d,Value.bool false,I U num] 95)).cell? ⟨W.heap.size,2,Aa⟩=Ab (I U num);rw [cell_of_row _ W.heap.size 2 _ _ (0,0) (heap_alloc_new W _)];rfl
      obtain ⟨F,hF⟩:=nw Fence.wide;have hT:∀ n W,CallsIn F n prog 127 #[.agg #[.string d,.bool false,I U num]] W fun e w'=>e=.returned (.func (.func 176) #[] #[.pointer (Ab ⟨W.heap.size,0,Aa⟩)])/\w'=W.alloc (Ak #[Ao d,Value.bool false,I U num] 95):=fun n W=>by rw [hF];exact callsIn_wide.2 (takes3 d num W ah ad)
      have ai:∀ n,CallsIn F n prog 176 #[.map (some w1.heap.size),.pointer (Ab ⟨W.heap.size,0,Aa⟩)] (W.alloc (Ak #[Ao d,Value.bool false,I U num] 95)).drew fun e w'=>e=.returned (.tuple #[])/\MapIs w' w1.heap.size (jK (stB cs m) (d,false,num))/\(W.alloc (Ak #[Ao d,Value.bool false,I U num] 95)).drew.grownBy w' (some w1.heap.size):=fun n=>by
       rw [hF,undone_yes an ad,back_false];exact callsIn_wide.2 (take3_i (stB cs m) w1.heap.size W.heap.size d _ aq bb ah d0)
      have bc:F.fn 127:=by rw [hF];trivial
      have a8:F.fn 176:=by rw [hF];trivial
      rw [<- hF];clear hF d0 d2 aq
      gi_wp2_with (gi_at_len;refine wpListIn_len_own _ rfl _ 142 rfl 9 3 mapT _ w1.heap.size _ D rfl HD ?_)
      gi_region_with_o (first
       | (gi_at_call 127;refine (CallsIn.inRound l (hT _ _)).mono ?_;rintro e w' ⟨rfl,rfl⟩)
       | (gi_at_call 176;refine (CallsIn.inRound l (ai _)).mono ?_;rintro e w' ⟨rfl,a0,aa⟩))
      all_goals
       have ap:Below w.heap.size W w':=(((Below.refl _ W).alloc f.size (Ak #[Ao d,Value.bool false,I U num] 95)).drew).grown aa (Ac f.size (by have:=(KeepsOthers.alloc W (Ak #[Ao d,Value.bool false,I U num] 95)).size;exact this)) (fun k e=>by cases e;omega);have a1:Boxed (W.alloc (Ak #[Ao d,Value.bool false,I U num] 95)).drew w2.heap.size 142 (.map (some w1.heap.size)):=t.alloc _;have al:Boxed (W.alloc (Ak #[Ao d,Value.bool false,I U num] 95)).drew (w2.heap.size+1) 31 (.slice b us.length h):=z.alloc _;have n1:some w2.heap.size ≠ some w1.heap.size:=fun e=>by have:=Af e;omega
       have n2:some (w2.heap.size+1) ≠ some w1.heap.size:=fun e=>by have:=Af e;omega
       refine ⟨(((KeepsOthers.alloc W (Ak #[Ao d,Value.bool false,I U num] 95)).trans (KeepsOthers.drew _)).from _).trans (KeepsFrom.of_grownBy aa (fun j e=>by cases e;omega)),⟨ap,(aa.block (w2.heap.size+1) al.lt n2).trans (Below.heap_alloc W _ _ z.lt)⟩,⟨⟨a1.kept aa n1,al.kept aa n2⟩,?_⟩,f.trans ap⟩;rw [stB_snoc];exact a0
  case done=>
   rintro D ys W hD rfl ⟨⟨⟨t,z⟩,p⟩,f⟩ hK;have a6:stB cs (backTo us us.length)=xY cs (us.map Subtype.val):=by rw [stB_to cs us us.length (nl _),Nat.sub_self,List.drop_zero]
   have az:D < W.heap.size:=(gl hK);have a5:w.heap.size<=D:=by omega
   have ag:=stB_fair au (backTo us us.length);have y:=(stB_size HL (backTo us us.length)).2;rw [a6] at ag y p;have a4:Hid (MapIs W w1.heap.size (xY cs (us.map Subtype.val))):=p;have ao:=hid ag;have ax:=hid y;have cH:=t.cell;clear p ag y
   gi_wp2_with (refine ⟨trivial,?_⟩;gi_at_call 96;refine (callsIn_wide.2 (told_i (xY cs (us.map Subtype.val)) w1.heap.size W a4 ao.2.1 ao.2.2 ax)).mono ?_;rintro e w' ⟨v',rfl,ac,hb⟩)
   have am:w'.heap[D]?=Ab (.deferred (some [])):=(hb.block D az).trans hK;refine ⟨by simp,.inl ⟨_,_,rfl,run_takeDeferred am,?_⟩⟩;refine ⟨_,results_tmp rfl _ _ _,v',rfl,zN (Ah ac (grownBy_putObj' _ D _) (Al fun e=>by have:=(ac.lt D e).1;omega)) f.size,?_⟩;exact (f.trans (hb.mono f.size)).trans (belowK_b (w:=w) (nl _) w' D _ _ a5 am rfl rfl)
  case stop=>
   rintro D c m W hD ⟨k,hk,rfl⟩ ⟨⟨t,rfl,ab,last,e1,e2,p⟩,f⟩ hK
   have a6:stB cs ab=xY cs (us.map Subtype.val):=by
    cases k with
    | zero=>simp [backTo] at e1
    | succ k=>
     rw [backTo_succ] at e1;obtain ⟨e3,_⟩:=List.append_inj' e1 rfl;have e4:=stB_to cs us k (by omega);rw [e3] at e4;rw [e4];rw [e4] at e2;exact (undoneAll_over (fair_over e2)).symm
   clear e1 e2;have az:D < W.heap.size:=(gl hK);have a5:w.heap.size<=D:=by omega
   have ag:=stB_fair au ab;have y:=(stB_size HL ab).2;rw [a6] at ag y p;have a4:Hid (MapIs W w1.heap.size (xY cs (us.map Subtype.val))):=p;have ao:=hid ag;have ax:=hid y;have cH:=t.cell;clear p ag y
   gi_wp2_with (refine ⟨trivial,?_⟩;gi_at_call 96;refine (callsIn_wide.2 (told_i (xY cs (us.map Subtype.val)) w1.heap.size W a4 ao.2.1 ao.2.2 ax)).mono ?_;rintro e w' ⟨v',rfl,ac,hb⟩)
   have am:w'.heap[D]?=Ab (.deferred (some [])):=(hb.block D az).trans hK;refine ⟨by simp,.inl ⟨_,_,rfl,run_takeDeferred am,?_⟩⟩;refine ⟨_,results_tmp rfl _ _ _,v',rfl,zN (Ah ac (grownBy_putObj' _ D _) (Al fun e=>by have:=(ac.lt D e).1;omega)) f.size,?_⟩;exact (f.trans (hb.mono f.size)).trans (belowK_b (w:=w) (nl _) w' D _ _ a5 am rfl rfl)
theorem undoneAll_i (cs:CL) (us:List UN) (v u:Value) (w:World) (hv:qQ w v cs) (hu:yM w u 3 kK us) (hok:okL cs) (hl:(us.length:Int)<=1048576) (hall:∀ x∈us,(x.1.size:Int)<=1048576) :
  Calls prog 88 #[v,u] w fun e w'=>∃ v',e=.returned v'/\w'.ownsRow w.heap.size 92 2 v' (xY cs us).length (kM (xY cs us))/\Be w w':=by
 obtain ⟨a,rfl⟩:∃ a:List US,us=a.map Subtype.val:=⟨us.attach.map fun x=>⟨x.1,hall x.1 x.2⟩,by rw [List.map_map];exact (List.attach_map_subtype_val us).symm⟩;exact undoneAll_us cs a v u w hv hu hok (by simpa using hl)
theorem lastOf_i (l:List Int) (v:Value) (w:World) (hR:yM w v 1 xJ l) (hs:(l.length:Int)<=1048576) :
  Calls prog 52 #[v] w fun e w'=>e=.returned (I U (qS l))/\w'=w:=by
 obtain ⟨a,cap,rfl,hr⟩:=hR;have HR:=hid hr;clear hr
 by_cases h0:(l.length:Int)=0
 ·have b0:((l.length:Int) == 0)=true:=by simpa using h0
  have HE:Hid (qS l=0):=hid (by unfold qS;rw [List.eq_nil_of_length_eq_zero (show l.length=0 by omega)];rfl);clear h0;go_enter func52,ntmps52;go_wp2;go_ret;exact ⟨by rw [HE.out];rfl,rfl⟩
 ·have b0:((l.length:Int) == 0)=false:=by simpa using h0
  have hm:l.length - 1 < l.length:=by omega
  have HE:Hid (qS l=l[l.length - 1]):=(by unfold qS;simp [List.getD,hm]:qS l=_);obtain ⟨g,b,rfl,hg,hc⟩:=HR (by omega);have q0:(0:Int)<=(l.length:Int) - 1:=by omega
  have q1:(l.length:Int) - 1 < l.length:=by omega
  have d:w.cell? ⟨g,b+(l.length - 1),Aa⟩=Ab (I U l[l.length - 1]):=by
   have:=hc (l.length - 1) hm 0 (by omega)
   simpa [xJ] using this
  have c:((l.length:Int) - 1).toNat=l.length - 1:=by omega
  clear hc hg HR;go_enter func52,ntmps52;go_wp2;go_ret;exact ⟨by rw [HE.out];rfl,rfl⟩
theorem withoutEarly_i (p:PE) (s:PV) (w:World) (hR:jS w p s) (hs:yC p) :
  Calls prog 50 #[yZ p s] w fun e w'=>∃ s',e=.returned (yZ (jC p) s')/\zO w.heap.size w'.heap.size w' (jC p) s'/\Be w w':=by
 have HR:=hid hR;have HS:=hid hs;clear hR hs;obtain ⟨W,hW⟩:=nw ((w.alloc (.cells (zA p s) 35)).alloc (.cells zF 35));have HW:Hid (Bx2 w W (zA p s) zF):=hid (by rw [hW];exact two_boxes w _ _);unfold zF at hW;go_enter func50,ntmps50;go_wp2_with (rw [<- hW];clear hW;(refine w_ld w.heap.size HW.box underlying35 ?_))
 refine (copyPeer_i p s W (HR.below HW.below) HS).mono ?_;rintro e x1 ⟨s1,rfl,ho,hb⟩;have k:Hid (zO w.heap.size x1.heap.size x1 p s1):=ho.low HW.below.size;have f:Hid (Bx2 w x1 (zA p s) zF):=HW.more hb;clear ho hb HW;go_wp2_with (refine w_st w.heap.size (zA p s1) f.box (zJ k.1) ?_;intro y1 hg hk hz;have d:Hid (Bx2 w y1 (zA p s1) zF):=f.put hg hk;have j:Hid (zO w.heap.size y1.heap.size y1 p s1):=(k.boxed f.box hg).wide hg.size (nl _);have aa:=zB d.box 15 s1.cells rfl;have ad:=zB d.box 17 s1.undos rfl;clear hg hk hz f k)
 refine (undoneAll_i p.cells p.undos s1.cells s1.undos y1 j.reads.cells j.reads.undos ⟨HS.cells,HS.kcells⟩ HS.undos HS.kundos).mono ?_;rintro e x2 ⟨v1,rfl,ho,hb⟩;have a:Hid (x2.ownsRow y1.heap.size 92 2 v1 (xY p.cells p.undos).length (kM (xY p.cells p.undos))):=ho;have c:Hid (Bx2 w x2 (zA p s1) zF):=d.more hb;have x:Hid (zO w.heap.size y1.heap.size x2 p s1):=j.below hb;have t:=hid (qad2 d.out.below.size hb.size);clear ho hb d j aa ad;obtain ⟨q,hq⟩:∃ q:PE,q={ p with cells:=xY p.cells p.undos }:=⟨_,rfl⟩;obtain ⟨s2,m⟩:∃ s2:PV,s2={ s1 with cells:=v1 }:=⟨_,rfl⟩;obtain ⟨r,hr⟩:∃ r:PE,r={ q with early:=[],undos:=[] }:=⟨_,rfl⟩;obtain ⟨s3,n⟩:∃ s3:PV,s3={ s2 with early:=.slice none 0 0,undos:=.slice none 0 0 }:=⟨_,rfl⟩;have HE:Hid (jC p=r):=hid (by rw [hr,hq];rfl)
 go_wp2_with (first
  | (refine w_sc w.heap.size 15 v1 c.box (by simp [zA]) (zDH a) (zA q s2) (by rw [hq,m];rfl) ?_;intro y2 hg hk;have i:Hid (Bx2 w y2 (zA q s2) zF):=c.put hg hk;have y:Hid (zO w.heap.size y2.heap.size y2 q s2):=hid (by rw [hq,m];exact (x.boxed c.box hg).setCells (Ac t.2 hg.size) (nl _) (zN (Ah a hg (zH a c.box (by decide))) t.1) (fun g e=>Ad (a.lt g e).2 hg.size) (fun g e=>Al (a.lt g e).1));clear hg hk c x a t hq m)
  | (refine w_sc w.heap.size 16 (.slice none 0 0) i.box (by simp [zA]) rfl (zA { q with early:=[] } { s2 with early:=.slice none 0 0 }) rfl ?_;intro y3 hg hk;have h:Hid (Bx2 w y3 (zA { q with early:=[] } { s2 with early:=.slice none 0 0 }) zF):=i.put hg hk;have v:Hid (zO w.heap.size y3.heap.size y3 { q with early:=[] } { s2 with early:=.slice none 0 0 }):=zO.setEarly (l:=[]) ((y.boxed i.box hg).wide hg.size (nl _)) (nl _) (nl _) (World.ownsRow_nil _ _ _ _) (fun g e=>by cases e) (fun g e=>by cases e);clear hg hk i y)
  | (refine w_sc w.heap.size 17 (.slice none 0 0) h.box (by simp [zA]) rfl (zA r s3) (by rw [hr,n];rfl) ?_;intro y4 hg hk;have b:Hid (Bx2 w y4 (zA r s3) zF):=h.put hg hk;have o:Hid (zO w.heap.size y4.heap.size y4 r s3):=hid (by rw [hr,n];exact zO.setUndos (l:=[]) ((v.boxed h.box hg).wide hg.size (nl _)) (nl _) (nl _) (World.ownsRow_nil _ _ _ _) (fun g e=>by cases e) (fun g e=>by cases e));clear hg hk h v hr n)
  | (refine w_ld w.heap.size b.box underlying35 ?_)
  | (refine w_st (w.heap.size+1) (zA r s3) b.zero (zJ o.1) ?_;intro z hg hk hz;have ac:Hid (Be w z):=b.below.grown hg b.below.size (qkk (by omega));have ab:Hid (Bx z (w.heap.size+1) (zA r s3) 35):=hk;have ae:Hid (zO w.heap.size z.heap.size z r s3):=(o.boxed b.zero hg).wide hg.size (nl _);clear hg hk hz o b))
 refine b_cr (.agg (zA r s3)) results50 ab underlying35 ?_;rw [HE.out];exact ⟨_,rfl,ae,ac⟩
def RevTo (xs ys:List Int) (i:Nat):Prop:=ys.length=xs.length/\∀ p (h:p < xs.length) (h':p < ys.length),ys[p]=if p < i∨xs.length<=p+i then xs[xs.length - 1 - p]'(by omega) else xs[p]
theorem revTo_zero (xs:List Int):RevTo xs xs 0:=⟨rfl,fun p h h'=>by rw [if_neg (by omega)]⟩
theorem revTo_step {xs:List Int} {j:Nat} (h:RevTo xs ys i) (hij:i < j) (hj:j+i+1=xs.length) (a b:Int) (ha:∀ h':i < ys.length,a=ys[i]) (hb:∀ h':j < ys.length,b=ys[j]):RevTo xs ((ys.set i b).set j a) (i+1):=by
 obtain ⟨hl,hp⟩:=h;refine ⟨by simp [hl],fun p c e=>?_⟩;have d:p < ys.length:=by omega
 rw [List.getElem_set,List.getElem_set]
 by_cases e1:j=p
 ·subst e1;rw [if_pos rfl,if_pos (by omega),ha (by omega),hp i (by omega) (by omega),if_neg (by omega)]
  congr 1;omega
 ·rw [if_neg e1]
  by_cases e2:i=p
  ·subst e2;rw [if_pos rfl,if_pos (by omega),hb (by omega),hp j (by omega) (by omega),if_neg (by omega)]
   congr 1;omega
  ·rw [if_neg e2,hp p c d]
   by_cases e3:p < i∨xs.length<=p+i
   ·rw [if_pos e3,if_pos (by omega)]
   ·rw [if_neg e3,if_neg (by omega)]
theorem revTo_all {xs:List Int} (h:RevTo xs ys i) (hi:xs.length<=2 * i+1):ys=xs.reverse:=by
 obtain ⟨hl,hp⟩:=h;refine List.ext_getElem (by simp [hl]) fun p h1 h2=>?_
 rw [List.getElem_reverse,hp p (by omega) h1]
 by_cases e:p < i∨xs.length<=p+i
 ·rw [if_pos e]
 ·rw [if_neg e];congr 1;omega
theorem flatI_set (ys:List Int) (i:Nat) (x:Int):zE xJ (ys.set i x)=(zE xJ ys).set i (I U x):=by rw [flat_int,flat_int,List.map_set]
theorem flatI_at (h:i < ys.length):(zE xJ ys)[i]?=Ab (I U ys[i]):=by rw [flat_int,List.getElem?_map,Aj h];rfl
theorem reverse_i (xs:List Int) (v:Value) (base:Nat) (w:World) (h:w.ownsRow base 3 1 v xs.length (zE xJ xs)) (hl:(xs.length:Int)<=1048576) :
  Calls prog 90 #[v] w fun e w'=>e=.returned (.tuple #[])/\w'.ownsRow base 3 1 v xs.length (zE xJ xs.reverse)/\w.grownBy w' v.ownBlock:=by
 obtain ⟨a,cap,rfl,hg⟩:=yL h;have HG:Hid (0 < xs.length->∃ g,a=Ab ⟨g,0,Aa⟩):=hg;have HO:=hid h;clear hg h;go_enter func90,ntmps90;go_wp2
 go_loopw [2,3] (fun p q wr=>∃ (i:Nat) (ys:List Int),i<=xs.length/\p=I U (i:Int)/\q=I U ((xs.length:Int) - 1 - (i:Int))/\Hid (RevTo xs ys i)/\Hid (wr.ownsRow base 3 1 (.slice a xs.length cap) xs.length (zE xJ ys))/\Hid (w.grownBy wr (An a xs.length cap).ownBlock)) (fun p _ _=>xs.length - (intOf p).toNat)
 case atStart=>exact ⟨0,xs,Ae _,rfl,by simp,revTo_zero xs,HO,⟨rfl,rfl,rfl,nl _,fun _ _ _=>rfl⟩⟩
 case round=>
  obtain ⟨i,ys,hi,rfl,rfl,HR,b,c⟩:=hrel
  by_cases hlt:(i:Int) < (xs.length:Int) - 1 - (i:Int)
  ·obtain ⟨j,hj⟩:∃ j:Nat,(xs.length:Int) - 1 - (i:Int)=(j:Int):=⟨xs.length - 1 - i,by omega⟩;rw [hj] at hlt ⊢;have d:ys.length=xs.length:=HR.1;have HJ:Hid (j+i+1=xs.length):=hid (by omega);obtain ⟨g,rfl⟩:=HG (by omega);have q0:(0:Int)<=(i:Int):=by omega
   have q1:(i:Int) < xs.length:=by omega
   have q2:(0:Int)<=(j:Int):=by omega
   have q3:(j:Int) < xs.length:=by omega
   have f:i < ys.length:=by omega
   have k:j < ys.length:=by omega
   obtain ⟨c0,f0⟩:=zDG b i (by omega);obtain ⟨c1,f1⟩:=zDG b j (by omega);rw [flatI_at f] at c0;rw [flatI_at k] at c1;have l:i ≠ j:=by omega
   clear hj d;have m:prog.follows .mixedOrders=true:=by kernel_rfl
   go_wp2_with fail
   go_region_o
   go_wp2
   go_roundw
   case rel=>
    have s0:=b.stored i (I U ys[j]);have s1:=s0.1.stored j (I U ys[i]);have hj:=HJ.out;refine ⟨i+1,(ys.set i ys[j]).set j ys[i],by omega,by go_num,?_,revTo_step HR (by omega) HJ _ _ (fun _=>rfl) (fun _=>rfl),?_,?_⟩
    ·congr 1;omega
    ·rw [flatI_set,flatI_set];exact s1.1
    ·have g1:=zP c (zP s0.2 s1.2);exact ⟨g1.os,g1.tape,g1.output,g1.size,g1.block⟩
   case measure=>simp [intOf];omega
  ·go_wp2
   go_end0
   have h1:=revTo_all HR (by omega);exact ⟨rfl,by rw [<- h1];exact b.out,c⟩
attribute [local go_sem] Oper.semAt_some
theorem after_is {t:List BK} {k under:Int} {ini:List Int} (he:yBI t k under=true) (h:ini ++ [under] <+: way t k):kB t k under=ini.reverse:=by
 cases hd:qH t k with
 | none=>rw [extT_none hd] at he;cases he
 | some l=>
  obtain ⟨c,hr⟩:=h;obtain ⟨d,b⟩:=down_falls hd;have hw:=way_some hd;rw [<- hw,<- hr] at b
  have hu:0<=under:=by
   have hm:under∈way t k:=by rw [<- hr];simp
   rw [hw] at hm
   rcases List.mem_append.1 hm with h1 | h1
   ·exact intsN_ne h1
   ·simp at h1;omega
  have e1:(way t k).filter (fun x=>decide (under < x))=(qG l).filter (fun x=>decide (under < x)):=by
   rw [hw,List.filter_append];have:¬ under < 0:=by omega
   simp [this]
  rw [Ar,List.singleton_append] at b;obtain ⟨_,h2,h3⟩:=List.pairwise_append.1 b;have h4:=(List.pairwise_cons.1 h2).1
  have e2:(way t k).filter (fun x=>decide (under < x))=ini:=by
   rw [<- hr,Ar,List.singleton_append,List.filter_append,List.filter_cons]
   have h5:ini.filter (fun x=>decide (under < x))=ini:=List.filter_eq_self.2 fun a ha=>by
    have:=h3 a ha under (by simp)
    simpa using this
   have h6:c.filter (fun x=>decide (under < x))=[]:=List.filter_eq_nil_iff.2 fun a ha=>by
    have:=h4 a ha;simp;omega
   rw [h5,h6];simp
  unfold kB;rw [if_pos he,zJF hd,show qG l.reverse=(qG l).reverse by simp [qG],List.filter_reverse,<- e1,e2]
theorem after_met {t:List BK} {k under:Int} (he:yBI t k under=true) (h:∀ y∈way t k,y ≠ under):False:=by
 cases hd:qH t k with
 | none=>rw [extT_none hd] at he;cases he
 | some l=>
  rw [extT_some hd,extL_way,<- way_some hd] at he;obtain ⟨y,hy,a⟩:=List.any_eq_true.1 he;exact h y hy (by simpa using a)
theorem own_not_def {D:Nat} {e:TypeId} {o:Obj} (h:w.ownsRow base e m v n xs) (hD:w.heap[D]?=some o) (ho:o.isCells=false):some D ≠ v.ownBlock:=by
 rcases h.2 with ⟨rfl,_⟩ | ⟨g,cap,b,rfl,_,a,_⟩
 ·simp [Ap]
 ·intro e';obtain rfl:D=g:=by simpa [Ap] using e'
  rw [a] at hD;cases hD;cases ho
theorem rowAfter_i (ps:TL) (v:Value) (k under:Int) (w:World) (hT:jB w v ps) (hl:(ps.length:Int)<=1048576) :
  Calls prog 51 #[v,I U k,I U under] w fun e w'=>∃ v',e=.returned v'/\w'.ownsRow w.heap.size 3 1 v' (kB (bks ps) k under).length (zE xJ (kB (bks ps) k under))/\Be w w':=by
 have HT:=hid hT;obtain ⟨a,cap,rfl,hr⟩:=zAI hT
 have HR:Hid (0 < ps.length->∃ g o,a=Ab ⟨g,o,Aa⟩/\g < w.heap.size/\∀ j (_:j < ps.length),w.cell? ⟨g,o+j * 7,Aa⟩=Ab (I U ps[j].1.1.1)):=fun h=>by
  obtain ⟨g,o,e,hg,hc⟩:=hr h;exact ⟨g,o,e,hg,fun j hj=>(hc j hj).1⟩
 have al:=way_len (bks ps) k;rw [yO] at al;obtain ⟨i0,hi,an,aq,ak⟩:=info_parts infoInt1;clear hr hT;have s:Hid (Be w (w.alloc (.cells #[I U under] 3))):=ba (br _ _) _;refine (callsIn_wide (n:=9)).1 ?_;refine callsIn_of_wp_marks func51 rfl trivial ?_ rfl;simp only [ntmps51,List.size_toArray,Au,List.length_nil,Nat.reduceAdd,Nat.reduceSub,Array.replicate_succ,Array.replicate_zero,List.push_toArray,List.append_toArray,List.nil_append,List.cons_append]
 cases he:yBI (bks ps) k under with
 | false=>
  have HF:Hid (kB (bks ps) k under=[]):=hid (by unfold kB;rw [he];rfl)
  gi_wp2_with (refine ⟨trivial,?_⟩;gi_at_call 54;refine (callsIn_wide.2 (extends_i ps _ k under _ (HT.below s) hl)).mono ?_;rintro e w1 ⟨rfl,m⟩;rw [he])
  exact ⟨_,results_tmp rfl _ _ _,_,rfl,by rw [HF.out];exact World.ownsRow_nil _ _ _ _,bt s m⟩
 | true=>
  have HE:Hid (yBI (bks ps) k under=true):=he
  gi_wp2_with (first
   | (refine ⟨trivial,?_⟩;gi_at_call 54;refine (callsIn_wide.2 (extends_i ps _ k under _ (HT.below s) hl)).mono ?_;rintro e w1 ⟨rfl,m⟩;rw [he])
   | (refine ⟨trivial,?_⟩;gi_at_call 89;refine (way_in Fence.wide _ trivial rfl _ _ _ _ _).mono ?_;rintro e w3 ⟨rfl,rfl⟩))
  clear he;have af:Boxed w1 w.heap.size 3 (I U under):=(m.block w.heap.size (by simp)).trans (Boxed.new w 3 (I U under));have aj:Be w w1:=bt s m;have ax:=m.size;rw [World.size_alloc] at ax;obtain ⟨W0,i⟩:=nw (((w1.alloc (Ak #[An none 0 0] 29)).alloc (Ak #[An a (List.length ps) cap] 24)).alloc (Ak #[I U k] 3));have bO:Boxed W0 w1.heap.size 29 (.slice none 0 0):=by rw [i];exact ((Boxed.new w1 _ _).alloc _).alloc _
  have bU:Boxed W0 w.heap.size 3 (I U under):=by rw [i];exact ((af.alloc _).alloc _).alloc _
  have bT:Boxed W0 (w1.heap.size+1) 24 (.slice a ps.length cap):=by
   rw [i];have:=(Boxed.new (w1.alloc (Ak #[An none 0 0] 29)) 24 (.slice a ps.length cap)).alloc (Ak #[I U k] 3);rw [World.size_alloc] at this;exact this
  have bK:Boxed W0 (w1.heap.size+1+1) 3 (I U k):=by
   rw [i];have:=Boxed.new ((w1.alloc (Ak #[An none 0 0] 29)).alloc (Ak #[An a (List.length ps) cap] 24)) 3 (I U k);rw [World.size_alloc,World.size_alloc] at this;exact this
  have a0:W0.heap.size=w1.heap.size+3:=by rw [i];simp
  have ae:Be w W0:=by rw [i];exact ba (ba (ba aj _) _) _
  rw [<- i];clear i m af
  refine wpIn_rangeFunc_ownG rfl (by omega) (gf:=128) (lb:=#[.pointer (Ab ⟨w1.heap.size+1,0,Aa⟩),.pointer (Ab ⟨w1.heap.size+1+1,0,Aa⟩)]) rfl trivial (enters_of func128 (by kernel_rfl) rfl)
   (way_stops Fence.wide 8 trivial rfl (by omega) (w1.heap.size+1) (w1.heap.size+1+1) w.heap.size cap a ps k hl W0 bT.lt bK.lt (by omega) bT.cell bK.cell (fun h=>by
    obtain ⟨g,o,e,hg,hc⟩:=HR h
    exact ⟨g,o,e,hg,fun j hj=>(ae.cell (by exact hg)).trans (hc j hj)⟩)) kpW_t (kpW_b (by omega) bT.lt) (br _ _) (fun _=>rfl)
   (fun b W=>((((∃ u,Boxed W w1.heap.size 29 u/\W.ownsRow w1.heap.size 3 1 u b.length (b.map (Value.int U))/\True)/\Boxed W w.heap.size 3 (I U under))/\Boxed W (w1.heap.size+1) 24 (.slice a ps.length cap))/\(∀ y∈b,y ≠ under))/\Be w W)
   (fun c b W=>(((∃ u,Boxed W w1.heap.size 29 u/\W.ownsRow w1.heap.size 3 1 u (b.length - 1) ((b.take (b.length - 1)).map (Value.int U))/\True))/\(c=.exit 0/\∃ f,b=f ++ [under]))/\Be w W)
   (OwnFrom.and (OwnFrom.and (OwnFrom.and (OwnFrom.and (Own.from (holdsRow_own w1.heap.size w1.heap.size 29 3 1 (fun b:List Int=>b.length) (fun b=>b.map (Value.int U)) (fun _ _=>True)) _) (Own.from (boxed_own _ _ _) _)) (Own.from (boxed_own _ _ _) _)) (ownFrom_pure _ _)) (ownFrom_below (nl _) (by omega)))
   (fun c=>OwnFrom.and (OwnFrom.and (Own.from (holdsRow_own w1.heap.size w1.heap.size 29 3 1 (fun b:List Int=>b.length - 1) (fun b=>(b.take (b.length - 1)).map (Value.int U)) (fun _ _=>True)) _) (ownFrom_pure _ _)) (ownFrom_below (nl _) (by omega)))
   ⟨⟨⟨⟨⟨_,bO,World.ownsRow_nil _ _ _ _,trivial⟩,bU⟩,bT⟩,by simp⟩,ae⟩
   (fun x=>{ tmps:=#[An a (List.length ps) cap,I U k,I U under,undef,undef,At (Ab ⟨w.heap.size,0,Aa⟩),.slice none 0 0,At (Ab ⟨w1.heap.size,0,Aa⟩),I U x,An a (List.length ps) cap,I U k,I U under,.bool true,.bool false,An a (List.length ps) cap,I U k,.func (.func 128) #[] #[.pointer (Ab ⟨w1.heap.size+1,0,Aa⟩),.pointer (Ab ⟨w1.heap.size+1+1,0,Aa⟩)],I U x,undef,undef,undef,undef,undef,undef,undef,undef,undef,undef],defers:=[] })
   ?assign ?body ?done ?stop
  case assign=>
   intro l x W K hK;unfold encW
   gi_wp2
   exact hK
  case body=>
   rintro l b x W ⟨⟨⟨⟨⟨u,cO,d,_⟩,cU⟩,cT⟩,hp⟩,hB⟩ a1;have x1:=cO.cell;have x2:=cU.cell;have a3:b.length<=1048577:=by omega
   by_cases hx:x=under
   ·subst hx;have d0:(x == x)=true:=by simp
    gi_wp2
    exact ⟨KeepsFrom.refl _ _,⟨⟨u,cO,by simpa using d,trivial⟩,rfl,b,rfl⟩,hB⟩
   ·have d0:(x == under)=false:=by simpa using hx
    have aw:Hid (∀ y∈b ++ [x],y ≠ under):=fun y hy=>(List.mem_append.1 hy).elim (hp y) (fun e=>by simp at e;subst e;exact hx)
    clear hp hx
    gi_wp2_with (gi_at_builtin;refine wpListIn_append_own _ rfl _ _ 29 rfl w1.heap.size 3 i0 (I U 0) 1 8 underlying29 hi an aq ak rfl (by decide) _ _ _ rfl (d.alloc _) ⟨W.heap.size,0,Aa⟩ 1 1 [I U x] rfl rfl (cell_one_new _ _ _) (by simp [Value.oneCell']) (by unfold maxLen;omega) (by omega) (by have:=cO.lt;simp;omega) ?_;intro v' ap r p _;obtain ⟨g',ay,rfl⟩:=ownsRow_succ r;obtain ⟨ag,am,au,av,ai⟩:=cO.appended (by decide) d (Nat.le_of_lt cO.lt) (nl _) r p;have a2:=ag.cell;have az:=ag.frozen)
    have ah:Boxed ap (w1.heap.size+1) 24 (.slice a ps.length cap):=(cT.alloc _).kept p (cT.not_row (by decide) d);have ad:=ai.mono (show w.heap.size<=w1.heap.size by omega);exact ⟨av.from _,⟨ad,(ah.other (by omega) _).trans cT.symm⟩,⟨⟨⟨⟨_,am,by simpa using au,trivial⟩,(ai.block w.heap.size (by omega)).trans cU⟩,ah.other (by omega) _⟩,aw⟩,hB.trans ad⟩
  case done=>
   rintro D ys W hD rfl ⟨⟨⟨⟨_,_⟩,_⟩,hp⟩,_⟩ hK;exact (after_met HE hp).elim
  case stop=>
   rintro D c b W hD t ⟨⟨⟨u,cO,d,_⟩,rfl,f,rfl⟩,hB⟩ hK;have HA:Hid (kB (bks ps) k under=f.reverse):=after_is HE t;have z:W.ownsRow w1.heap.size 3 1 u f.length (zE xJ f):=by rw [flat_int];simpa using d
   have HO:Hid (W.ownsRow w1.heap.size 3 1 u f.length (zE xJ f)):=z
   have ao:(f.length:Int)<=1048576:=by
    have h1:=t.length_le;rw [List.length_append] at h1;simp at h1;omega
   have x1:=cO.cell
   gi_wp2_with (refine ⟨trivial,?_⟩;gi_at_call 90;refine (callsIn_wide.2 (reverse_i f u w1.heap.size W HO ao)).mono ?_;rintro e w4 ⟨rfl,ac,aa⟩;have ar:Boxed w4 w1.heap.size 29 u:=cO.kept aa (cO.not_row (by decide) HO);have x4:=ar.cell)
   have ab:w4.heap[D]?=Ab (.deferred (some [])):=(aa.block D (gl hK) (own_not_def HO hK rfl)).trans hK;refine ⟨by simp,.inl ⟨_,_,rfl,run_takeDeferred ab,?_⟩⟩;refine ⟨_,results_tmp rfl _ _ _,u,rfl,?_,?_⟩
   ·rw [HA.out,List.length_reverse];exact zN (ownsRow_putObj ac _ ab rfl) (by omega)
   ·exact (hB.grown aa hB.size (fun y hy=>by have:=(HO.lt y hy).1;omega)).trans (belowK_b (w:=w) (nl _) w4 D _ _ (by omega) ab rfl rfl)
theorem code_put {c:CM} (h:kS cs=true) (h2:zAF c=true) (h3:¬ (c.1 ≠ 1/\zBB cs c.2.1=false)):jL cs c=putCode cs c.2.1 (zEI cs c):=by
 unfold jL putCode;rw [h,h2,if_neg (by decide),if_neg h3]
theorem rest_put {c:CM} (h:kS cs=true) (h2:zAF c=true) (h3:¬ (c.1 ≠ 1/\zBB cs c.2.1=false)):yAA cs c=putRest cs c.2.1 (zEI cs c):=by
 unfold yAA putRest;rw [code_put h h2 h3]
theorem do_i (cs:CL) (b:Nat) (c:CM) (w:World) (hm:MapIs w b cs) (hcb:kS cs=true) (hk:(c.2.1.size:Int)<=1048576) :
  Calls prog 95 #[.map (some b),cmdV c] w fun e w'=>e=.returned (I U (jL cs c))/\MapIs w' b (yAA cs c)/\w.grownBy w' (some b):=by
 obtain ⟨kd,a,num⟩:=c;have HM:=hid hm;obtain ⟨y,hA,r⟩:=zFG.1 hcb;have HA:=hid hA;have HL:Hid (∀ c∈cs,zIJ c.1=true/\zEH c.2=true):=y;clear hm y hA;unfold cmdV;go_enter func95,ntmps95;go_wp2_with fail
 refine (cmd_i (kd,a,num) _ hk).mono ?_;rintro e w2 ⟨rfl,l⟩;obtain ⟨w1,g⟩:=nw (w.alloc (Ak #[I U kd,Ao a,I U num] 139));rw [<- g] at l;have v:w1.heap.size=w.heap.size+1:=by rw [g];simp
 have B1:Be w w1:=by rw [g];exact ba (br _ _) _
 have B2:Be w w2:=bt B1 l;have k0:w2.cell? ⟨w.heap.size,0,Aa⟩=Ab (I U kd):=by rw [l.cell (by simp [v]),g];simp
 have k1:w2.cell? ⟨w.heap.size,1,Aa⟩=Ab (.string a):=by rw [l.cell (by simp [v]),g];simp
 have k2:w2.cell? ⟨w.heap.size,2,Aa⟩=Ab (I U num):=by rw [l.cell (by simp [v]),g];simp
 have k:Hid (MapIs w2 b cs):=HM.below B2;have p:Hid (Be w w2):=B2;clear g l v B1 B2
 cases s:zAF (kd,a,num) with
 | false=>
  have HE:Hid (jL cs (kd,a,num)=2):=code_cmd s;go_wp2;go_ret;exact ⟨jD HE.symm,by rw [zFI (by rw [HE.out];decide)];exact k.out,zGA (qR p)⟩
 | true=>
  obtain ⟨ad,aa,x⟩:=cmdB_bd s;obtain ⟨ae,af⟩:=numB_bd x;simp only at ad aa x ae af;have h:Hid (zAF (kd,a,num)=true):=s;have i:Hid (kS cs=true):=hcb;clear s hcb;have ag:=k.out;obtain ⟨D,hD,m⟩:=ag;have HD:=hid hD;have HK:Hid (keyOf prog 9 (.string a)=Ab (lk a)):=keyS hk;have ab:=hid m;have z:Maps.has D (lk a)=zBB cs a:=m.2.1 a;clear hD m
  by_cases h1:kd=1
  ·subst h1;have HN:Hid (zEI cs (1,a,num)=num):=comes_set rfl;have HE:Hid (jL cs (1,a,num)=putCode cs a num):=by have:=code_put i h (by simp);rw [HN.out] at this;exact this
   have HR:Hid (yAA cs (1,a,num)=putRest cs a num):=by have:=rest_put i h (by simp);rw [HN.out] at this;exact this
   go_wp2_with (first
    | (at_lookup;refine wpList_lookup_own_ok_int _ rfl _ _ 142 rfl 9 3 U keyedS mapT underlying3 (zeroI _) b _ _ rfl HD _ _ rfl HK ?_;intro c d f;clear d f)
    | (go_at_call 133;refine (put_i cs b _ (num) _ k HA r hk).mono ?_;rintro e w3 ⟨rfl,n,o⟩))
   go_ret;exact ⟨jD HE.symm,by rw [HR.out];exact n,zP (zGA (qR p)) o⟩
  ·have aj:(kd == 1)=false:=by simpa using h1
   cases hh:zBB cs a with
   | false=>
    rw [hh] at z;have HE:Hid (jL cs (kd,a,num)=1):=code_none i h h1 hh;go_wp2_with (at_lookup;refine wpList_lookup_own_ok_int _ rfl _ _ 142 rfl 9 3 U keyedS mapT underlying3 (zeroI _) b _ _ rfl HD _ _ rfl HK ?_;intro c d f;clear d f)
    go_ret;exact ⟨jD HE.symm,by rw [zFI (by rw [HE.out];decide)];exact k.out,zGA (qR p)⟩
   | true=>
    rw [hh] at z;obtain ⟨j,hj,_,ah⟩:=cellAt_yes hh;subst ah;have ac:Hid (D.atKey (lk cs[j].1) (i64D 0)=i64D cs[j].2):=rep_same ab hj;obtain ⟨ak,ai⟩:=numB_bd (HL cs[j] (Ag hj)).2
    by_cases h2:kd=2
    ·subst h2;have HN:Hid (zEI cs (2,cs[j].1,num)=cs[j].2+num):=comes_add HA hj (by decide) (by decide);have HE:Hid (jL cs (2,cs[j].1,num)=putCode cs cs[j].1 (cs[j].2+num)):=by have:=code_put i h (by simp [hh]);rw [HN.out] at this;exact this
     have HR:Hid (yAA cs (2,cs[j].1,num)=putRest cs cs[j].1 (cs[j].2+num)):=by have:=rest_put i h (by simp [hh]);rw [HN.out] at this;exact this
     go_wp2_with (first
      | (at_lookup;refine wpList_lookup_own_ok_int _ rfl _ _ 142 rfl 9 3 U keyedS mapT underlying3 (zeroI _) b _ _ rfl HD _ _ rfl HK ?_;intro c d f;have e:c=cs[j].2:=(by have:=d.symm.trans ac;unfold i64D at this;injection this with t;injection t);subst e;clear d f)
      | (go_at_call 133;refine (put_i cs b _ (cs[j].2+num) _ k HA r hk).mono ?_;rintro e w3 ⟨rfl,n,o⟩))
     go_ret;exact ⟨jD HE.symm,by rw [HR.out];exact n,zP (zGA (qR p)) o⟩
    ·obtain rfl:kd=3:=by omega
     have HN:Hid (zEI cs (3,cs[j].1,num)=cs[j].2 - num):=comes_take HA hj;have HE:Hid (jL cs (3,cs[j].1,num)=putCode cs cs[j].1 (cs[j].2 - num)):=by have:=code_put i h (by simp [hh]);rw [HN.out] at this;exact this
     have HR:Hid (yAA cs (3,cs[j].1,num)=putRest cs cs[j].1 (cs[j].2 - num)):=by have:=rest_put i h (by simp [hh]);rw [HN.out] at this;exact this
     go_wp2_with (first
      | (at_lookup;refine wpList_lookup_own_ok_int _ rfl _ _ 142 rfl 9 3 U keyedS mapT underlying3 (zeroI _) b _ _ rfl HD _ _ rfl HK ?_;intro c d f;have e:c=cs[j].2:=(by have:=d.symm.trans ac;unfold i64D at this;injection this with t;injection t);subst e;clear d f)
      | (go_at_call 133;refine (put_i cs b _ (cs[j].2 - num) _ k HA r hk).mono ?_;rintro e w3 ⟨rfl,n,o⟩))
     go_ret;exact ⟨jD HE.symm,by rw [HR.out];exact n,zP (zGA (qR p)) o⟩
theorem upToI_step {xs:List Int} {ys:List Value} (h:upToR xJ 1 xs ys k) (hk:k < xs.length) {x:Int} (hx:xs[k]?=some x):upToR xJ 1 xs (ys.set k (I U x)) (k+1):=by
 have hl:=h.1;have a:xs[k]=x:=by rw [Aj hk] at hx;exact Af hx
 refine upToR_step jG h hk (by simp) (fun j hj=>?_) (fun j hj=>?_)
 ·rw [List.getElem?_set_ne (by omega)]
 ·have:j=0:=by omega
  subst this;rw [Nat.mul_one,Nat.add_zero,List.getElem?_set_self (by omega),a];rfl
theorem codes_at {l:List CM} (h:k < l.length):(zHI cs l)[k]?=Ab (jL (yD cs (l.take k)) l[k]):=by
 induction l generalizing cs k with
 | nil=>simp at h
 | cons c l ih=>
  cases k with
  | zero=>rfl
  | succ k=>
   have:=ih (cs:=yAA cs c) (k:=k) (by simpa using h)
   simpa [zHI,yD] using this
theorem doneAll_i (cs:CL) (l:List CM) (v u:Value) (w:World) (hv:qQ w v cs) (hu:yM w u 3 kL l) (hok:okL cs) (hl:(l.length:Int)<=1048576) (hall:∀ c∈l,(c.2.1.size:Int)<=1048576) :
  Calls prog 55 #[v,u] w fun e w'=>∃ v1 v2,e=.returned (.tuple #[v1,v2])/\w'.ownsRow w.heap.size 92 2 v1 (yD cs l).length (kM (yD cs l))/\w'.ownsRow w.heap.size 3 1 v2 l.length ((zHI cs l).map (Value.int U))/\(v1.ownBlock=none∨v1.ownBlock ≠ v2.ownBlock)/\Be w w':=by
 have HV:=hid hv;have HL:=hid hok;have HA:=hid hall;have h1:=hok.1;have z:=codesC_len cs l;obtain ⟨a,cap,rfl,_⟩:=hv;obtain ⟨b,a5,rfl,hr⟩:=hu;have HR:=hid hr;obtain ⟨i0,hi,ax,a0,au⟩:=info_parts infoInt;clear hall hr hok;go_enter func55,ntmps55;go_wp2_with (at_make;refine wpList_make_full _ rfl _ _ 29 rfl w.heap.size 3 i0 _ 1 underlying29 hi ax a0 _ _ _ _ l.length rfl rfl rfl rfl (by rw [au];omega) (by unfold maxLen;omega) (nl _) ?_;intro w0 o p)
 have B0:Be w w0:=(br _ _).grown p (nl _) (fun k h=>by cases h);have an:Hid (w0.ownsRow w.heap.size 3 1 (.slice (Ab ⟨w.heap.size,0,Aa⟩) l.length l.length) l.length _):=o;have af:Hid (Be w w0):=B0;have aa:w.heap.size < w0.heap.size:=(o.lt w.heap.size rfl).2;clear o p B0;refine (cellsOk_i cs _ w0 (HV.below af) HL.1 HL.2).mono ?_;rintro e w1 ⟨rfl,y⟩;have ah:Hid (w1.ownsRow w.heap.size 3 1 (.slice (Ab ⟨w.heap.size,0,Aa⟩) l.length l.length) l.length _):=zS an y;have ae:Hid (Be w w1):=bt af y;have a6:w.heap.size < w1.heap.size:=Ad aa y.size;clear y an af aa
 cases aj:kS cs with
 | false=>
  obtain ⟨ed,ec⟩:=doneAll_bad aj l;have av:Hid (yD cs l=cs):=ed;have a4:Hid (zHI cs l=List.replicate l.length 2):=ec;clear ed ec;go_wp2
  go_loopw [19] (fun i wr=>∃ (k:Nat) (ys:List Value),k<=l.length/\i=I U (k:Int)/\Hid (upToR xJ 1 (zHI cs l) ys k)/\wr.ownsRow w.heap.size 3 1 (.slice (Ab ⟨w.heap.size,0,Aa⟩) l.length l.length) l.length ys/\Be w wr) (fun i _=>l.length - (intOf i).toNat)
  case atStart=>exact ⟨0,_,Ae _,rfl,upToR_zero (by rw [ah.out.1,z]),ah,ae⟩
  case round=>
   obtain ⟨k,ys,hk,rfl,HY,m,f⟩:=hrel;have HO:Hid (wr.ownsRow w.heap.size 3 1 (.slice (Ab ⟨w.heap.size,0,Aa⟩) l.length l.length) l.length ys):=m;have HB:Hid (Be w wr):=f;clear m f
   by_cases hlt:(k:Int) < l.length
   ·have n:k < l.length:=by omega
    have q0:(0:Int)<=(k:Int):=by omega
    have ar:=HO.1;obtain ⟨x0,f0⟩:=zDG HO k (by omega);rw [Aj (by omega)] at x0;have R:=HO.stored k (I U 2);have s:Hid ((wr.setCell ⟨w.heap.size,k,Aa⟩ (I U 2)).ownsRow w.heap.size 3 1 (.slice (Ab ⟨w.heap.size,0,Aa⟩) l.length l.length) l.length (ys.set k (I U 2))/\wr.grownBy (wr.setCell ⟨w.heap.size,k,Aa⟩ (I U 2)) (some w.heap.size)):=R;have HX:Hid ((zHI cs l)[k]?=some 2):=hid (by rw [a4.out,List.getElem?_replicate,if_pos n]);clear R;go_wp2
    go_roundw
    case rel=>exact ⟨k+1,_,by omega,by go_num,upToI_step HY (by omega) HX,s.1,HB.grown s.2 HB.size fun x hx=>by cases hx;exact nl _⟩
    case measure=>simp [intOf];omega
   ·have r:k=l.length:=by omega
    have HK:Hid (k=l.length):=r;clear r;go_wp2_with fail
    refine (copy_i cs _ wr (HV.below HB) HL.1 HL.2).mono ?_;rintro e w3 ⟨v3,rfl,d,t⟩;have j:Hid (w3.ownsRow wr.heap.size 92 2 v3 cs.length (kM cs)):=d;have ad:Hid (w3.ownsRow w.heap.size 3 1 (.slice (Ab ⟨w.heap.size,0,Aa⟩) l.length l.length) l.length ys):=zS HO t;clear d;go_wp2
    go_ret2
    refine ⟨v3,_,rfl,by rw [av.out];exact zN j HB.size,?_,own_ne HO j (nl _),bt HB t⟩;have hy:=HY.out;rw [HK.out,<- z] at hy;have:=ad.out;rw [upToR_all jG hy,flat_int] at this;exact this
 | true=>
  have ac:Hid (kS cs=true):=aj;clear aj;go_wp2_with fail
  refine (accounts_i cs _ w1 (HV.below ae) ac HL.2).mono ?_;rintro e w2 ⟨rfl,am,ak⟩;have ay:Hid (MapIs w2 w1.heap.size cs):=am;have al:Hid (w2.ownsRow w.heap.size 3 1 (.slice (Ab ⟨w.heap.size,0,Aa⟩) l.length l.length) l.length _):=zS ah ak;have a2:Hid (Be w w2):=bt ae ak;clear am ak;go_wp2
  go_loopw [33] (fun i wr=>∃ (k:Nat) (ys:List Value),k<=l.length/\i=I U (k:Int)/\Hid (upToR xJ 1 (zHI cs l) ys k)/\wr.ownsRow w.heap.size 3 1 (.slice (Ab ⟨w.heap.size,0,Aa⟩) l.length l.length) l.length ys/\MapIs wr w1.heap.size (yD cs (l.take k))/\Be w wr) (fun i _=>l.length - (intOf i).toNat)
  case atStart=>exact ⟨0,_,Ae _,rfl,upToR_zero (by rw [al.out.1,z]),al,ay,a2⟩
  case round=>
   obtain ⟨k,ys,hk,rfl,HY,m,ab,f⟩:=hrel;have HO:Hid (wr.ownsRow w.heap.size 3 1 (.slice (Ab ⟨w.heap.size,0,Aa⟩) l.length l.length) l.length ys):=m;have HB:Hid (Be w wr):=f;have HM:Hid (MapIs wr w1.heap.size (yD cs (l.take k))):=ab;have a7:=f.size;clear m f ab
   by_cases hlt:(k:Int) < l.length
   ·have n:k < l.length:=by omega
    have q0:(0:Int)<=(k:Int):=by omega
    obtain ⟨g,ai,rfl,hg,hc⟩:=HR (by omega);have c0:wr.cell? ⟨g,ai+k * 3,Aa⟩=Ab (I U l[k].1):=by rw [HB.out.cell (by exact hg)];exact hc k n 0 (by omega)
    have c1:wr.cell? ⟨g,ai+k * 3+1,Aa⟩=Ab (.string l[k].2.1):=by rw [HB.out.cell (by exact hg)];exact hc k n 1 (by omega)
    have c2:wr.cell? ⟨g,ai+k * 3+2,Aa⟩=Ab (I U l[k].2.2):=by rw [HB.out.cell (by exact hg)];exact hc k n 2 (by omega)
    have HS:Hid (l.take (k+1)=l.take k ++ [l[k]]):=take_snoc n;have HX:Hid ((zHI cs l)[k]?=Ab (jL (yD cs (l.take k)) l[k])):=codes_at n;clear hc;go_wp2_with fail
    refine (do_i (yD cs (l.take k)) w1.heap.size l[k] _ (HM.below (ba (br _ _) _)) (doneAll_ok _ ac) (HA _ (Ag n))).mono ?_;rintro e w3 ⟨rfl,ao,ag⟩;have a1:Hid (MapIs w3 w1.heap.size (yAA (yD cs (l.take k)) l[k])):=ao;have j:Hid (w3.ownsRow w.heap.size 3 1 (.slice (Ab ⟨w.heap.size,0,Aa⟩) l.length l.length) l.length ys):=Ah (Ai HO _) ag (Al fun e=>by have e2:w.heap.size=w1.heap.size:=Af e;omega);have ap:Hid (Be w w3):=(ba HB _).grown ag (by simp;omega) fun x hx=>by cases hx;omega
    clear ao ag c0 c1 c2;have ar:=j.1;obtain ⟨x0,f0⟩:=zDG j k (by omega);rw [Aj (by omega)] at x0;have R:=j.stored k (I U (jL (yD cs (l.take k)) l[k]));have s:Hid ((w3.setCell ⟨w.heap.size,k,Aa⟩ (I U (jL (yD cs (l.take k)) l[k]))).ownsRow w.heap.size 3 1 (.slice (Ab ⟨w.heap.size,0,Aa⟩) l.length l.length) l.length (ys.set k (I U (jL (yD cs (l.take k)) l[k])))/\w3.grownBy (w3.setCell ⟨w.heap.size,k,Aa⟩ (I U (jL (yD cs (l.take k)) l[k]))) (some w.heap.size)):=R;clear R;go_wp2
    go_roundw
    case rel=>exact ⟨k+1,_,by omega,by go_num,upToI_step HY (by omega) HX,s.1,by rw [HS.out,doneAll_snoc];exact a1.out.kept s.2 (qsn (by omega)),ap.grown s.2 ap.size fun x hx=>by cases hx;exact nl _⟩
    case measure=>simp [intOf];omega
   ·have r:k=l.length:=by omega
    have HK:Hid (k=l.length):=r;have a3:Hid (MapIs wr w1.heap.size (yD cs l)):=hid (by have:=HM.out;rw [r,As] at this;exact this);clear r;obtain ⟨_,aq,az⟩:=zFG.1 (doneAll_ok l ac);have aw:=hid aq;clear aq;go_wp2_with fail
    refine (told_i (yD cs l) w1.heap.size wr a3 aw (Nat.le_succ_of_le az) (okL_all l HL HA).2).mono ?_;rintro e w3 ⟨v3,rfl,d,t⟩;have j:Hid (w3.ownsRow wr.heap.size 92 2 v3 _ _):=d;have ad:Hid (w3.ownsRow w.heap.size 3 1 (.slice (Ab ⟨w.heap.size,0,Aa⟩) l.length l.length) l.length ys):=zS HO t;clear d;go_wp2
    go_ret2
    refine ⟨v3,_,rfl,zN j HB.size,?_,own_ne HO j (nl _),bt HB t⟩;have hy:=HY.out;rw [HK.out,<- z] at hy;have:=ad.out;rw [upToR_all jG hy,flat_int] at this;exact this
theorem Bx2.grow {y x:World} {A Z:Array Value} {e:TypeId} (h:Bx2 w y A Z) (ho:y.ownsRow base e m v n xs) (hne:e ≠ 35) (hb:w.heap.size<=base) (hg:y.grownBy x v.ownBlock):Bx2 w x A Z:=by
 have:=h.lt;exact ⟨h.below.grown hg h.below.size (fun k hk=>Ac hb (ho.lt k hk).1),(hg.block _ (by omega) (ne_own (zH ho h.box hne))).trans h.box,(hg.block _ (by omega) (ne_own (zH ho h.zero hne))).trans h.zero⟩
theorem throughR_i (ps:TL) (v:Value) (p:PE) (s:PV) (k:Int) (w:World) (hT:jB w v ps) (hk:okT (bks ps)) (hR:jS w p s) (hs:yC p) :
  Calls prog 15 #[v,yZ p s,I U k] w fun e w'=>∃ s',e=.returned (yZ (kO (bks ps) p k) s')/\zO w.heap.size w'.heap.size w' (kO (bks ps) p k) s'/\Be w w':=by
 have HT:=hid hT;have HK:=hid hk;have HR:=hid hR;have HS:=hid hs;have bm:(ps.length:Int)<=1048576:=by have:=hk.1;rw [yO] at this;exact this
 have bz:=hs.row;have a4:Hid ((bks ps).length=ps.length):=yO ps;obtain ⟨ii,b7,bd,bl,bp⟩:=info_parts infoIntL;obtain ⟨ce,bv,rfl,-⟩:=HT.1;clear hT hk hR hs;obtain ⟨W,hW⟩:=nw ((w.alloc (.cells (zA p s) 35)).alloc (.cells zF 35));have HW:Hid (Bx2 w W (zA p s) zF):=hid (by rw [hW];exact two_boxes w _ _);have a3:=zB HW.box 14 s.row rfl;unfold zF at hW;go_enter func15,ntmps15;go_wp2_with (rw [<- hW];clear hW)
 refine (lastOf_i p.row s.row W (HR.below HW.below).row bz).mono ?_;rintro e W' ⟨rfl,hw⟩;obtain rfl:=hw.symm;clear hw a3;obtain ⟨u,hu⟩:=nw (qS p.row);have HU:Hid (qS p.row=u):=hu.symm;rw [<- hu];clear hu;go_wp2_with fail
 refine (extends_i ps _ k u W (HT.below HW.below) bm).mono ?_;rintro e x0 ⟨rfl,hb⟩;have f:Hid (Bx2 w x0 (zA p s) zF):=HW.more hb;clear hb HW
 by_cases hx:yBI (bks ps) k u=true
 ·have HE:Hid (kO (bks ps) p k=jW (bks ps) (jC p) (kB (bks ps) k u)):=(by unfold kO;rw [HU.out,if_pos hx]:kO (bks ps) p k=_);rw [hx];clear hx;go_wp2_with (refine w_ld w.heap.size f.box underlying35 ?_)
  refine (withoutEarly_i p s x0 (HR.below f.below) HS).mono ?_;rintro e x1 ⟨s3,rfl,ho,hb⟩;have n:Hid (zO w.heap.size x1.heap.size x1 (jC p) s3):=ho.low f.below.size;have d:Hid (Bx2 w x1 (zA p s) zF):=f.more hb;clear ho hb f;obtain ⟨q,hq⟩:=nw (jC p);have bn:Hid (q.row=p.row/\okL q.cells):=hid (by rw [hq];exact ⟨rfl,okL_back HS⟩);rw [<- hq] at HE n;rw [<- hq];clear hq;go_wp2_with (refine w_st w.heap.size (zA q s3) d.box (zJ n.1) ?_;intro x4 hg hk hz;have r:Hid (Bx2 w x4 (zA q s3) zF):=d.put hg hk;have ab:Hid (zO w.heap.size x4.heap.size x4 q s3):=(n.boxed d.box hg).wide hg.size (nl _);clear hg hk hz d n)
  refine (rowAfter_i ps _ k u x4 (HT.below r.below) bm).mono ?_;rintro e x5 ⟨v5,rfl,ho,hb⟩;obtain ⟨L,hL⟩:=nw (kB (bks ps) k u);have b5:Hid (∀ x∈L,∃ j:Nat,x=(j:Int)/\j < ps.length):=hid (by rw [hL];intro x hx;have:=after_mem hx;rw [a4.out] at this;exact this);have cb:(L.length:Int)<=1048576:=by have:=zDA (bks ps) k u;rw [<- hL,a4.out] at this;omega
  rw [<- hL] at HE ho;have ac:Hid (x5.ownsRow x4.heap.size 3 1 v5 L.length (zE xJ L)):=ho;have al:Hid (Bx2 w x5 (zA q s3) zF):=r.more hb;have ae:Hid (zO w.heap.size x4.heap.size x5 q s3):=ab.below hb;have b2:Hid (x4.heap.size<=x5.heap.size):=hb.size;obtain ⟨a5,c5,rfl,aj⟩:=zW jG ho;clear aj;clear hL ho hb r ab;go_wp2
  go_loopw [27] (fun i wr=>∃ (m:Nat) (tm:PV),m<=L.length/\i=I U (m:Int)/\Hid (Bx2 w wr (zA (jW (bks ps) q (L.take m)) tm) zF)/\Hid (zO w.heap.size wr.heap.size wr (jW (bks ps) q (L.take m)) tm)/\Hid (wr.ownsRow x4.heap.size 3 1 (.slice a5 L.length c5) L.length (zE xJ L))/\Hid (apart tm.row (.slice a5 L.length c5))/\Hid (x5.heap.size<=wr.heap.size)) (fun i _=>L.length - (intOf i).toNat)
  case atStart=>exact ⟨0,s3,Ae _,rfl,al,thr_own _ _ (ae.wide b2 (nl _)),ac,yQ ae.2.1.l0 (fun g e=>⟨(ac.lt g e).1,(ac.lt g e).2⟩) (Or.inl (nl _)),nl _⟩
  case round=>
   obtain ⟨m,tm,hm,rfl,a,l,a2,aq,bk⟩:=hrel
   by_cases hlt:(m:Int) < L.length
   ·have az:m < L.length:=by omega
    obtain ⟨j,hj,am⟩:=b5 L[m] (Ag az);have HJ:Hid (L[m]=(j:Int)):=hj;have q0:(0:Int)<=(m:Int):=by omega
    have j0:(0:Int)<=(j:Int):=by omega
    have j1:(j:Int) < ps.length:=by omega
    obtain ⟨b9,ca,e5,aj⟩:=zW jG a2;injection e5 with bx _ bq
    subst bx bq;obtain ⟨g5,o5,rfl,bo,bc⟩:=aj (by omega);have hc:wr.cell? ⟨g5,o5+m,Aa⟩=Ab (I U (j:Int)):=by have:=bc m az 0 (by omega);rw [HJ.out] at this;simpa [xJ] using this
    have b3:Hid (g5 < wr.heap.size):=bo;clear bc bo aj hj;have av:Hid ((jW (bks ps) q (L.take m)).row.length=p.row.length+m):=hid (by unfold jW;simp [bn.out.1];omega);have o:Hid (Be wr (wr.alloc (.cells #[I U (j:Int)] 3))):=(Below.refl wr.heap.size wr).alloc (nl _) _;have a3:=zB a.box 14 tm.row rfl;obtain ⟨q1,ah⟩:∃ q1:PE,q1={ (jW (bks ps) q (L.take m)) with row:=(jW (bks ps) q (L.take m)).row ++ [(j:Int)] }:=⟨_,rfl⟩;have a9:Hid ({ q1 with cells:=yD q1.cells ps[j].1.2.1 }=jW (bks ps) q (L.take (m+1))/\okL q1.cells):=(by rw [ah];exact ⟨thr_step az HJ am,rowC_ok HK _ _ bn.2⟩:_/\okL q1.cells)
    go_wp2_with (first
     | (at_builtin;refine wpList_append_lies _ rfl (.tmp 32) (.tmp 34) 29 rfl w.heap.size 3 ii _ 1 8 underlying29 b7 bd bl bp rfl (by decide) tm.row _ _ rfl (l.below o).1.row ⟨wr.heap.size,0,Aa⟩ 1 1 [I U (j:Int)] rfl rfl (World.news_of_block (heap_alloc_new wr _)) (by intro x hx;simp at hx;subst hx;rfl) (by decide) (by rw [av.out];unfold maxLen;omega) (by rw [av.out];omega) (by have:=a.lt;simp;omega) _ rfl ?_;intro g2 b y2 a7 af a0 an;have ad:Hid (Bx2 w y2 (zA (jW (bks ps) q (L.take m)) tm) zF):=(a.more o).grow (l.below o).1.row (by decide) (nl _) af;have ay:Hid (y2.ownsRow x4.heap.size 3 1 (.slice (Ab ⟨g5,o5,Aa⟩) L.length c5) L.length (zE xJ L)):=Ah (zS a2 o) af aq.symm.ne;have bb:Hid (zO w.heap.size y2.heap.size y2 q1 { tm with row:=.slice (Ab ⟨g2,0,Aa⟩) ((jW (bks ps) q (L.take m)).row.length+1) b }):=(by rw [ah];exact (l.below o).addRow af a7 (a0.imp id (fun e=>by rw [e];simp)) an:zO _ _ y2 q1 _);have a8:Hid (apart (.slice (Ab ⟨g2,0,Aa⟩) ((jW (bks ps) q (L.take m)).row.length+1) b) (.slice (Ab ⟨g5,o5,Aa⟩) L.length c5)):=(by intro g e e2;cases e;exact a0.elim (fun h=>aq _ h e2) (fun h=>by have e2:=Af e2;have:=b3.out;simp at e2 h;omega):apart _ _);have bi:Hid (wr.heap.size<=y2.heap.size):=Ac o.size af.size;clear a7 af a0 an a3 hc)
     | (refine w_sc w.heap.size 14 (.slice (Ab ⟨g2,0,Aa⟩) ((jW (bks ps) q (L.take m)).row.length+1) b) ad.box (by simp [zA]) rfl (zA q1 { tm with row:=.slice (Ab ⟨g2,0,Aa⟩) ((jW (bks ps) q (L.take m)).row.length+1) b }) (by rw [ah];rfl) ?_;intro y3 hg hk;have t:Hid (Bx2 w y3 (zA q1 { tm with row:=.slice (Ab ⟨g2,0,Aa⟩) ((jW (bks ps) q (L.take m)).row.length+1) b }) zF):=ad.put hg hk;have ag:Hid (zO w.heap.size y3.heap.size y3 q1 { tm with row:=.slice (Ab ⟨g2,0,Aa⟩) ((jW (bks ps) q (L.take m)).row.length+1) b }):=(bb.boxed ad.box hg).wide hg.size (nl _);have bf:Hid (y3.ownsRow x4.heap.size 3 1 (.slice (Ab ⟨g5,o5,Aa⟩) L.length c5) L.length (zE xJ L)):=Ah ay hg (zH ay ad.box (by decide));have bu:Hid (x5.heap.size<=y3.heap.size):=Ac bk (Ac bi hg.size);clear hg hk ad bb ay bi))
    obtain ⟨t1,ax⟩:∃ t1:PV,t1={ tm with row:=.slice (Ab ⟨g2,0,Aa⟩) ((jW (bks ps) q (L.take m)).row.length+1) b }:=⟨_,rfl⟩;have b0:Hid (apart t1.row (.slice (Ab ⟨g5,o5,Aa⟩) L.length c5)):=(by rw [ax];exact a8.out:apart t1.row _);rw [<- ax] at t ag;clear ah ax a8 av a l a2 aq bk o;obtain ⟨cd,cc,et,bh⟩:=(HT.below t.below).1;injection et with b6 _ b1
    subst b6 b1;obtain ⟨gt,ot,rfl,bj,a6⟩:=bh (by omega);obtain ⟨cv,ap⟩:=nw (ps[j].2);have ak:Hid (yM y3 cv 3 kL ps[j].1.2.1/\okB ps[j].1):=hid (by rw [ap];exact ⟨(HT.below t.below).2 ps[j] (Ag am),okT_at HK am⟩);have ai:Hid (gt < y3.heap.size/\y3.cell? ⟨gt,ot+j * 7+2,Aa⟩=some cv):=⟨bj,by rw [ap];exact a6 j am 2 (by omega)⟩;clear bj a6 ap bh;refine p_rg (fun i=>decide (i < 8)) (fun x=>Bx x w.heap.size (zA q1 t1) 35/\x.cell? ⟨gt,ot+j * 7+2,Aa⟩=some cv) ?_;show zX prog _ _ _ _ _ (12+1) (Array.replicate 13 false) _ _;have hS:Bx y3.drew w.heap.size (zA q1 t1) 35/\y3.drew.cell? ⟨gt,ot+j * 7+2,Aa⟩=some cv:=⟨t.box,ai.2⟩;refine p_pt 0 38 w.heap.size 15 hS ?_;refine zD 1 39 t1.cells hS ?_ (hy:=by intro x hx;have c:=zB hx.1 15 t1.cells rfl;go_simp;try rfl);refine zD 2 40 (.slice (Ab ⟨gt,ot,Aa⟩) ps.length bv) hS ?_;refine zD 3 41 (I U (j:Int)) hS ?_;refine p_pt 4 42 gt (ot+j * 7) hS ?_;refine p_pt 5 43 gt (ot+j * 7+2) hS ?_;refine zD 6 44 cv hS ?_ (hy:=by intro x hx;have c:=hx.2;go_simp;try rfl);refine kJ 7 45 55 #[t1.cells,cv] ((doneAll_i q1.cells ps[j].1.2.1 t1.cells cv y3.drew (ag.reads.cells.below (br _ _).drew) (ak.1.below (br _ _).drew) a9.2 ak.2.1 ak.2.2).mono ?_);rintro e y4 ⟨w1,w2,rfl,ho,-,-,be⟩;have hb:=(bw y3).trans be;have y:Hid (y4.ownsRow y3.heap.size 92 2 w1 (yD q1.cells ps[j].1.2.1).length (kM (yD q1.cells ps[j].1.2.1))):=ho;have r:Hid (Bx2 w y4 (zA q1 t1) zF):=t.more hb;have ab:Hid (zO w.heap.size y3.heap.size y4 q1 t1):=ag.below hb;have aw:Hid (y4.ownsRow x4.heap.size 3 1 (.slice (Ab ⟨g5,o5,Aa⟩) L.length c5) L.length (zE xJ L)):=zS bf hb;have ao:=hid (qad2 t.out.below.size hb.size);have aa:Bx y4 w.heap.size (zA q1 t1) 35/\y4.cell? ⟨gt,ot+j * 7+2,Aa⟩=some cv:=⟨r.box,by rw [hb.cell (by exact ai.out.1)];exact ai.out.2⟩;clear ho hb be hS t ag bf ai ak;refine ⟨_,rfl,fun _=>aa,?_⟩;simp only [pz];refine p_pu 8 37 (.tuple #[w1,w2]) ?_ ?_
    ·intro x hx;go_simp
     try rfl
    simp only [pz];refine p_pu 9 46 w1 ?_ ?_
    ·intro x hx;go_simp
     try rfl
    simp only [pz];refine p_pu 10 47 w2 ?_ ?_
    ·intro x hx;go_simp
     try rfl
    simp only [pz];refine p_pu 11 48 (.pointer (Ab ⟨w.heap.size,15,Aa⟩)) ?_ ?_
    ·intro x hx;go_simp
     try rfl
    simp only [pz];refine p_ce 12 w.heap.size 15 w1 (zA q1 t1) (zA { q1 with cells:=yD q1.cells ps[j].1.2.1 } { t1 with cells:=w1 }) aa.1 (by simp [zA]) (zDH y) rfl ?_;intro y5 hg hk;have al:Hid (Bx2 w y5 (zA { q1 with cells:=yD q1.cells ps[j].1.2.1 } { t1 with cells:=w1 }) zF):=r.put hg hk;have ae:Hid (zO w.heap.size y5.heap.size y5 { q1 with cells:=yD q1.cells ps[j].1.2.1 } { t1 with cells:=w1 }):=(ab.boxed aa.1 hg).setCells (Ac ao.2 hg.size) (nl _) (zN (Ah y hg (zH y aa.1 (by decide))) ao.1) (fun g e=>Ad (y.lt g e).2 hg.size) (fun g e=>Al (y.lt g e).1);have ac:Hid (y5.ownsRow x4.heap.size 3 1 (.slice (Ab ⟨g5,o5,Aa⟩) L.length c5) L.length (zE xJ L)):=Ah aw hg (zH aw aa.1 (by decide));have b8:Hid (x5.heap.size<=y5.heap.size):=Ac bu (Ac ao.2 hg.size);rw [a9.out.1] at al ae;clear hg hk aa r ab aw y;refine ⟨fun h=>absurd h (by decide),?_⟩;refine p_do ?_;go_wp2
    go_roundw
    case rel=>exact ⟨m+1,{ t1 with cells:=w1 },by omega,by go_num,al,ae,ac,b0,b8⟩
    case measure=>simp [intOf];omega
   ·have b4:m=L.length:=by omega
    subst b4;rw [As] at a l;obtain ⟨QQ,bg⟩:=nw (jW (bks ps) q L);rw [<- bg] at a l HE;clear bg
    go_wp2_with (first
     | (refine w_ld w.heap.size a.box underlying35 ?_)
     | (refine w_st (w.heap.size+1) (zA QQ tm) a.zero (zJ l.1) ?_;intro z hg hk hz;have au:Hid (Be w z):=a.below.grown hg a.below.size (qkk (by omega));have ar:Hid (Bx z (w.heap.size+1) (zA QQ tm) 35):=hk;have a1:Hid (zO w.heap.size z.heap.size z QQ tm):=(l.boxed a.zero hg).wide hg.size (nl _);clear hg hk hz l a))
    refine b_cr (.agg (zA QQ tm)) results15 ar underlying35 ?_;rw [HE.out];exact ⟨_,rfl,a1,au⟩
 ·have hx:yBI (bks ps) k u=false:=by simpa using hx
  have HE:Hid (kO (bks ps) p k=p):=hid (by unfold kO;rw [HU.out,if_neg (by rw [hx];decide)]);rw [hx];clear hx;go_wp2_with (refine w_ld w.heap.size f.box underlying35 ?_)
  refine (copyPeer_i p s x0 (HR.below f.below) HS).mono ?_;rintro e x1 ⟨s1,rfl,ho,hb⟩;have n:Hid (zO w.heap.size x1.heap.size x1 p s1):=ho.low f.below.size;have d:Hid (Bx2 w x1 (zA p s) zF):=f.more hb;clear ho hb f;go_wp2_with (refine w_st (w.heap.size+1) (zA p s1) d.zero (zJ n.1) ?_;intro z hg hk hz;have au:Hid (Be w z):=d.below.grown hg d.below.size (qkk (by omega));have ar:Hid (Bx z (w.heap.size+1) (zA p s1) 35):=hk;have a1:Hid (zO w.heap.size z.heap.size z p s1):=(n.boxed d.zero hg).wide hg.size (nl _);clear hg hk hz n d)
  refine b_cr (.agg (zA p s1)) results15 ar underlying35 ?_;rw [HE.out];exact ⟨_,rfl,a1,au⟩
theorem undo_next {t:TypeId} {u0 u1 u2:Value} (h:w.heap[n]?=Ab (.cells #[u0,u1,u2] t (0,0))) (hb:Be w w'):w'.heap[n]?=Ab (.cells #[u0,u1,u2] t (0,0)):=
 (hb.block n (gl h)).trans h
theorem undoOf_i (cs:CL) (v:Value) (key:ByteArray) (w:World) (hv:qQ w v cs) (hl:(cs.length:Int)<=1048576) (hk:(key.size:Int)<=1048576) :
  Calls prog 92 #[v,.string key] w fun e w'=>e=.returned (undoV (yDB cs key))/\Be w w':=by
 have HV:=hid hv;obtain ⟨a,cap,rfl,hr⟩:=hv;have HR:=hid hr;have n:key.size<=281474976710656:=by omega
 clear hr;go_enter func92,ntmps92;go_wp2_with fail
 have B1:Be w (w.alloc (.cells #[.string Am,.bool false,I U 0] 95)):=ba (br _ _) _;refine (cellAt_i cs _ key _ (HV.below B1) hl).mono ?_;rintro e w2 ⟨rfl,s⟩;have p:Hid (Bx w2 w.heap.size #[.string Am,.bool false,I U 0] 95):=undo_block s;have m:Hid (Be w w2):=bt B1 s;have x:w.heap.size < w2.heap.size:=(gl p);clear B1 s
 cases hh:zBB cs key with
 | false=>
  have l:cellAt cs key=-1:=cellAt_no hh;have HE:Hid (yDB cs key=(key,false,0)):=undo_no hh;rw [l];go_wp2_with fail
  refine (clone key _ n).mono ?_;rintro e w3 ⟨rfl,f⟩;obtain ⟨⟨x0,f0⟩,⟨x1,f1⟩,⟨x2,f2⟩,b,d⟩:=blk_three (undo_next p f) (.string key) (.bool false) (I U 0);have y0:=cell_of_row _ w.heap.size 0 _ _ (0,0) b;have y1:=cell_of_row _ w.heap.size 1 _ _ (0,0) b;have y2:=cell_of_row _ w.heap.size 2 _ _ (0,0) b;have r:Hid (World.grownBy _ _ (some w.heap.size)):=d;have h:Hid (Be w w3):=bt m f;clear b d f;go_wp2;refine bodyPost_ret (v:=.agg #[.string key,.bool false,I U 0]) (by simp [results,results92,go_sem,y0,y1,y2]) rfl ?_;refine ⟨?_,?_⟩
  ·rw [HE.out];rfl
  ·exact h.out.grown r h.size fun k hk=>by cases hk;exact nl _
 | true=>
  obtain ⟨j,hj,l,hu⟩:=undo_at hh;have HE:Hid (yDB cs key=(key,true,cs[j].2)):=hu;rw [l];clear hu l;obtain ⟨g,o,rfl,hg,hc⟩:=HR (by omega);have q0:(0:Int)<=(j:Int):=by omega
  have q1:(j:Int) < cs.length:=by omega
  have HS:Hid (∀ w',Be w2 w'->w'.cell? ⟨g,o+j * 2+1,Aa⟩=Ab (I U cs[j].2)):=fun w' hb=>by rw [(bt m hb).cell (by exact hg)];exact (hc j hj).2
  clear hc;go_wp2
  go_region_held3 (fun w'=>w'.cell? ⟨g,o+j * 2+1,Aa⟩=Ab (I U cs[j].2)) (first | exact HS _ (br _ _).drew | exact HS _ c | exact t) (first | (go_at_call 125;refine (clone _ _ n).mono ?_;rintro e w3 ⟨rfl,f⟩;have c:Be w2 w3:=(br _ _).drew.trans f;obtain ⟨⟨x0,f0⟩,⟨x1,f1⟩,⟨x2,f2⟩,b,d⟩:=blk_three (undo_next p c) (.string key) (.bool true) (I U cs[j].2);have t:=(yAD (i:=o+j * 2+1) d (Ad hg (bt m c).size) (fun e=>Nat.lt_irrefl _ ((Af e) ▸ hg))).trans (HS _ c)))
  all_goals
   have y0:=cell_of_row _ w.heap.size 0 _ _ (0,0) b;have y1:=cell_of_row _ w.heap.size 1 _ _ (0,0) b;have y2:=cell_of_row _ w.heap.size 2 _ _ (0,0) b;have r:Hid (World.grownBy _ _ (some w.heap.size)):=d;have h:Hid (Be w w3):=bt m c;clear b d f t x0 f0 x1 f1 x2 f2 c;go_wp2;refine bodyPost_ret (v:=.agg #[.string key,.bool true,I U cs[j].2]) (by simp [results,results92,go_sem,y0,y1,y2]) rfl ?_;refine ⟨?_,?_⟩
   ·rw [HE.out];rfl
   ·exact h.out.grown r h.size fun k hk=>by cases hk;exact nl _
theorem mapUndo_i (cs:CL) (b:Nat) (key:ByteArray) (w:World) (hm:MapIs w b cs) (hk:(key.size:Int)<=1048576) :
  Calls prog 94 #[.map (some b),.string key] w fun e w'=>e=.returned (undoV (yDB cs key))/\Be w w':=by
 have i:key.size<=281474976710656:=by omega
 have B1:Be w (w.alloc (.cells #[.string Am,.bool false,I U 0] 95)):=ba (br _ _) _;have n:=hm.below B1;obtain ⟨D,hD,a⟩:=n;have HD:=hid hD;have HK:Hid (keyOf prog 9 (.string key)=Ab (lk key)):=keyS hk;have x:Hid (Be w (w.alloc (.cells #[.string Am,.bool false,I U 0] 95))):=B1;have p:Hid ((w.alloc (.cells #[.string Am,.bool false,I U 0] 95)).heap[w.heap.size]?=Ab (.cells #[.string Am,.bool false,I U 0] 95 (0,0))):=heap_alloc_new w _;have g:Maps.has D (lk key)=zBB cs key:=a.2.1 key
 obtain ⟨n0,HC,HE⟩:∃ n0:Int,Hid (D.atKey (lk key) (i64D 0)=i64D n0)/\Hid (yDB cs key=(key,zBB cs key,n0)):=by
  cases hh:zBB cs key with
  | false=>exact ⟨0,atKey_of_not_has (by rw [g,hh]) _,undo_no hh⟩
  | true=>
   obtain ⟨d,y,o,hu⟩:=undo_find hh;exact ⟨d.2,(by have:=a.2.2 d y;rw [o] at this;exact this),hu⟩
 clear hD a hm B1;go_enter func94,ntmps94;go_wp2_with (at_lookup;refine wpList_lookup_own_ok_int _ rfl _ _ 142 rfl 9 3 U keyedS mapT underlying3 (zeroI _) b _ _ rfl HD _ _ rfl HK ?_;intro c l s;have e:c=n0:=(by have:=l.symm.trans HC;unfold i64D at this;injection this with t;injection t);subst e;clear l s)
 refine (clone key _ i).mono ?_;rintro e w3 ⟨rfl,h⟩;obtain ⟨⟨x0,f0⟩,⟨x1,f1⟩,⟨x2,f2⟩,f,m⟩:=blk_three (undo_next p h) (.string key) (.bool (zBB cs key)) (I U c);have y0:=cell_of_row _ w.heap.size 0 _ _ (0,0) f;have y1:=cell_of_row _ w.heap.size 1 _ _ (0,0) f;have y2:=cell_of_row _ w.heap.size 2 _ _ (0,0) f;have r:Hid (World.grownBy _ _ (some w.heap.size)):=m;have j:Hid (Be w w3):=bt x h;clear f m h g;go_wp2;refine bodyPost_ret (v:=.agg #[.string key,.bool (zBB cs key),I U c]) (by simp [results,results94,go_sem,y0,y1,y2]) rfl ?_;refine ⟨?_,?_⟩
 ·rw [HE.out];rfl
 ·exact j.out.grown r j.size fun k hk=>by cases hk;exact nl _
theorem doneBack_i (cs:CL) (l:List CM) (v u:Value) (w:World) (hv:qQ w v cs) (hu:yM w u 3 kL l) (hok:okL cs) (hl:(l.length:Int)<=1048576) (hall:∀ c∈l,(c.2.1.size:Int)<=1048576) :
  Calls prog 53 #[v,u] w fun e w'=>∃ v1 v2,e=.returned (.tuple #[v1,v2])/\w'.ownsRow w.heap.size 92 2 v1 (yD cs l).length (kM (yD cs l))/\w'.ownsRow w.heap.size 95 3 v2 (jQ cs l).length (zE kK (jQ cs l))/\(v1.ownBlock=none∨v1.ownBlock ≠ v2.ownBlock)/\Be w w':=by
 have HV:=hid hv;have HL:=hid hok;have HA:=hid hall;have h1:=hok.1;obtain ⟨a,cap,rfl,_⟩:=hv;obtain ⟨b,bl,rfl,hr⟩:=hu;have HR:=hid hr;obtain ⟨i0,hi,am,ao,ai⟩:=info_parts infoUndo;clear hall hr hok;go_enter func53,ntmps53;go_wp2_with (at_make;refine wpList_make_own _ rfl _ _ 31 rfl w.heap.size 95 i0 _ 3 underlying31 hi am ao _ _ _ l.length rfl rfl rfl (by rw [ai];omega) (by unfold maxLen;omega) (nl _) ?_;intro w0 af z)
 have B0:Be w w0:=(br _ _).grown z (nl _) (fun k h=>by cases h);have ax:Hid (w0.ownsRow w.heap.size 95 3 (.slice (Ab ⟨w.heap.size,0,Aa⟩) 0 l.length) 0 []):=af;have an:Hid (Be w w0):=B0;clear af z B0;refine (cellsOk_i cs _ w0 (HV.below an) HL.1 HL.2).mono ?_;rintro e w1 ⟨rfl,al⟩;have a3:Hid (w1.ownsRow w.heap.size 95 3 (.slice (Ab ⟨w.heap.size,0,Aa⟩) 0 l.length) 0 []):=zS ax al;have ag:Hid (Be w w1):=bt an al;clear al ax an
 cases ae:kS cs with
 | false=>
  have bb:Hid (yD cs l=cs):=(doneAll_bad ae l).1;have bj:Hid (jQ cs l=l.map fun c=>yDB cs c.2.1):=undos_bad ae l;clear ae;go_wp2
  go_loopw [6,20] (fun q i wr=>∃ k:Nat,k<=l.length/\i=I U (k:Int)/\wr.ownsRow w.heap.size 95 3 q k (zE kK ((l.take k).map fun c=>yDB cs c.2.1))/\Be w wr) (fun _ i _=>l.length - (intOf i).toNat)
  case atStart=>exact ⟨0,Ae _,rfl,a3,ag⟩
  case round=>
   obtain ⟨k,hk,rfl,p,n⟩:=hrel;have HO:Hid (wr.ownsRow w.heap.size 95 3 u6 k (zE kK ((l.take k).map fun c=>yDB cs c.2.1))):=p;have HB:Hid (Be w wr):=n;have bh:=n.size;clear p n
   by_cases hlt:(k:Int) < l.length
   ·have j:k < l.length:=by omega
    have q0:(0:Int)<=(k:Int):=by omega
    obtain ⟨g,t,rfl,hg,hc⟩:=HR (by omega);have c0:wr.cell? ⟨g,t+k * 3,Aa⟩=Ab (I U l[k].1):=by rw [HB.out.cell (by exact hg)];exact hc k j 0 (by omega)
    have c1:wr.cell? ⟨g,t+k * 3+1,Aa⟩=Ab (.string l[k].2.1):=by rw [HB.out.cell (by exact hg)];exact hc k j 1 (by omega)
    have c2:wr.cell? ⟨g,t+k * 3+2,Aa⟩=Ab (I U l[k].2.2):=by rw [HB.out.cell (by exact hg)];exact hc k j 2 (by omega)
    have HS:Hid (l.take (k+1)=l.take k ++ [l[k]]):=take_snoc j;clear hc;go_wp2_with fail
    have BA:Be wr (wr.alloc (Ak #[I U l[k].1,Ao l[k].2.1,I U l[k].2.2] 139)):=ba (br _ _) _;refine (undoOf_i cs _ l[k].2.1 _ (HV.below (bt HB BA)) h1 (HA _ (Ag j))).mono ?_;rintro e w2 ⟨rfl,r⟩;unfold undoV;have a0:Hid (w2.ownsRow w.heap.size 95 3 u6 k (zE kK ((l.take k).map fun c=>yDB cs c.2.1))):=zS HO (bt BA r);have ap:Hid (Be w w2):=bt HB (bt BA r);have bm:=(bt BA r).size;clear r c0 c1 c2 BA HO;obtain ⟨uu,s⟩:=nw (yDB cs l[k].2.1);rw [<- s];have ak:Hid (uu=yDB cs l[k].2.1):=s;clear s;go_wp2_with (at_builtin;refine wpList_append_own _ rfl _ _ 31 rfl w.heap.size 95 i0 _ 3 32 underlying31 hi am ao ai rfl (by decide) _ _ _ rfl (Ai a0 _) ⟨World.heap _ |>.size,0,Aa⟩ 1 1 (kK uu) rfl rfl (newsU _ uu _) (onesU uu) (by unfold maxLen;omega) (by omega) (by simp;omega) ?_;intro v3 w3 d y _)
    have o:Hid (w3.ownsRow w.heap.size 95 3 v3 (k+1) _):=d;have aq:Hid (Be w w3):=(ba ap _).grown y (by simp;omega) (fun b hb=>(a0.lt b hb).1);clear d y
    go_roundw
    case rel=>exact ⟨k+1,by omega,by go_num,by rw [HS.out,List.map_append,zY];show w3.ownsRow _ _ _ _ _ (_ ++ zE kK [yDB cs l[k].2.1]);rw [flatU_one,<- ak.out];exact o.out,aq⟩
    case measure=>simp [intOf];omega
   ·have aa:k=l.length:=by omega
    have HK:Hid (k=l.length):=aa;clear aa;go_wp2_with fail
    refine (copy_i cs _ wr (HV.below HB) HL.1 HL.2).mono ?_;rintro e w3 ⟨v3,rfl,d,f⟩;have ac:Hid (w3.ownsRow wr.heap.size 92 2 v3 cs.length (kM cs)):=d;have o:Hid (w3.ownsRow w.heap.size 95 3 u6 k (zE kK ((l.take k).map fun c=>yDB cs c.2.1))):=zS HO f;clear d;go_wp2
    go_ret2
    refine ⟨v3,_,rfl,by rw [bb.out];exact zN ac HB.size,?_,own_ne HO ac (nl _),bt HB f⟩;have:=o.out;rw [HK.out,As,<- bj.out] at this;rw [zGI];exact this
 | true=>
  have aj:Hid (kS cs=true):=ae;clear ae;go_wp2_with fail
  refine (accounts_i cs _ w1 (HV.below ag) aj HL.2).mono ?_;rintro e w2 ⟨rfl,aw,r⟩;have bd:Hid (MapIs w2 w1.heap.size cs):=aw;have a9:Hid (w2.ownsRow w.heap.size 95 3 (.slice (Ab ⟨w.heap.size,0,Aa⟩) 0 l.length) 0 []):=zS a3 r;have ap:Hid (Be w w2):=bt ag r;have bn:=ag.size;clear aw r;go_wp2
  go_loopw [6,39] (fun q i wr=>∃ k:Nat,k<=l.length/\i=I U (k:Int)/\wr.ownsRow w.heap.size 95 3 q k (zE kK (jQ cs (l.take k)))/\MapIs wr w1.heap.size (yD cs (l.take k))/\Be w wr) (fun _ i _=>l.length - (intOf i).toNat)
  case atStart=>exact ⟨0,Ae _,rfl,a9,bd,ap⟩
  case round=>
   obtain ⟨k,hk,rfl,p,ab,n⟩:=hrel;have HO:Hid (wr.ownsRow w.heap.size 95 3 u6 k (zE kK (jQ cs (l.take k)))):=p;have HB:Hid (Be w wr):=n;have HM:Hid (MapIs wr w1.heap.size (yD cs (l.take k))):=ab;have bk:=ab.lt;have bh:=n.size;clear p n ab
   by_cases hlt:(k:Int) < l.length
   ·have j:k < l.length:=by omega
    have q0:(0:Int)<=(k:Int):=by omega
    obtain ⟨g,t,rfl,hg,hc⟩:=HR (by omega);have c0:wr.cell? ⟨g,t+k * 3,Aa⟩=Ab (I U l[k].1):=by rw [HB.out.cell (by exact hg)];exact hc k j 0 (by omega)
    have c1:wr.cell? ⟨g,t+k * 3+1,Aa⟩=Ab (.string l[k].2.1):=by rw [HB.out.cell (by exact hg)];exact hc k j 1 (by omega)
    have c2:wr.cell? ⟨g,t+k * 3+2,Aa⟩=Ab (I U l[k].2.2):=by rw [HB.out.cell (by exact hg)];exact hc k j 2 (by omega)
    have HS:Hid (l.take (k+1)=l.take k ++ [l[k]]):=take_snoc j;clear hc;go_wp2_with fail
    have BA:Be wr (wr.alloc (Ak #[I U l[k].1,Ao l[k].2.1,I U l[k].2.2] 139)):=ba (br _ _) _;refine (mapUndo_i (yD cs (l.take k)) w1.heap.size l[k].2.1 _ (HM.below BA) (HA _ (Ag j))).mono ?_;rintro e w3 ⟨rfl,f⟩;unfold undoV;have k0:w3.cell? ⟨wr.heap.size,0,Aa⟩=Ab (I U l[k].1):=by rw [f.cell (by simp)];simp
    have k1:w3.cell? ⟨wr.heap.size,1,Aa⟩=Ab (.string l[k].2.1):=by rw [f.cell (by simp)];simp
    have k2:w3.cell? ⟨wr.heap.size,2,Aa⟩=Ab (I U l[k].2.2):=by rw [f.cell (by simp)];simp
    have a6:=hid (qad3 k0 k1 k2);have a1:wr.heap.size < w3.heap.size:=by have:=f.size;simp at this;omega
    have o:Hid (w3.ownsRow w.heap.size 95 3 u6 k (zE kK (jQ cs (l.take k)))):=zS HO (bt BA f);have ay:Hid (MapIs w3 w1.heap.size (yD cs (l.take k))):=HM.below (bt BA f);have aq:Hid (Be w w3):=bt HB (bt BA f);have ah:∀ x,u6.ownBlock=some x->x < wr.heap.size:=fun x hx=>(HO.lt x hx).2
    have bf:Hid (∀ x,u6.ownBlock=some x->x < wr.heap.size):=ah;clear f c0 c1 c2 BA HO HM k0 k1 k2 ah;obtain ⟨uu,s⟩:=nw (yDB (yD cs (l.take k)) l[k].2.1);rw [<- s];have ak:Hid (uu=yDB (yD cs (l.take k)) l[k].2.1):=s;clear s;go_wp2_with (at_builtin;refine wpList_append_own _ rfl _ _ 31 rfl w.heap.size 95 i0 _ 3 32 underlying31 hi am ao ai rfl (by decide) _ _ _ rfl (Ai o _) ⟨World.heap _ |>.size,0,Aa⟩ 1 1 (kK uu) rfl rfl (newsU _ uu _) (onesU uu) (by unfold maxLen;omega) (by omega) (by simp;omega) ?_;intro v4 w4 ad m _;have az:Hid (w4.ownsRow w.heap.size 95 3 v4 (k+1) _):=ad;have au:Hid (MapIs w4 w1.heap.size (yD cs (l.take k))):=(ay.below (ba (br _ _) _)).kept m (row_not_map o ay);have a5:Hid (Be w w4):=(ba aq _).grown m (by simp;omega) (fun b hb=>(o.lt b hb).1);have av:∀ i,w4.cell? ⟨wr.heap.size,i,Aa⟩=w3.cell? ⟨wr.heap.size,i,Aa⟩:=(fun i=>(yAD (i:=i) m (by simp;omega) (fun e=>Nat.lt_irrefl _ (bf _ e))).trans ((ba (br _ _) _:Be w3 _).cell (by exact a1)));obtain ⟨k0,k1,k2⟩:=a6.out;rw [<- av] at k0 k1 k2;clear ad m av)
    refine (do_i (yD cs (l.take k)) w1.heap.size l[k] _ au (doneAll_ok _ aj) (HA _ (Ag j))).mono ?_;rintro e w5 ⟨rfl,a2,ar⟩;have a7:Hid (MapIs w5 w1.heap.size (yAA (yD cs (l.take k)) l[k])):=a2;have a8:Hid (w5.ownsRow w.heap.size 95 3 v4 (k+1) _):=Ah az ar (Al (row_not_map az au).symm);have bg:Hid (Be w w5):=a5.grown ar a5.size fun x hx=>by cases hx;omega
    clear a2 ar k0 k1 k2;go_wp2
    go_roundw
    case rel=>exact ⟨k+1,by omega,by go_num,by rw [HS.out,undos_snoc,zY,flatU_one,<- ak.out];exact a8.out,by rw [HS.out,doneAll_snoc];exact a7.out,bg⟩
    case measure=>simp [intOf];omega
   ·have aa:k=l.length:=by omega
    have HK:Hid (k=l.length):=aa;have bi:Hid (MapIs wr w1.heap.size (yD cs l)):=hid (by have:=HM.out;rw [aa,As] at this;exact this);clear aa;obtain ⟨_,a4,be⟩:=zFG.1 (doneAll_ok l aj);have bc:=hid a4;clear a4;go_wp2_with fail
    refine (told_i (yD cs l) w1.heap.size wr bi bc (Nat.le_succ_of_le be) (okL_all l HL HA).2).mono ?_;rintro e w3 ⟨v3,rfl,d,f⟩;have ac:Hid (w3.ownsRow wr.heap.size 92 2 v3 _ _):=d;have o:Hid (w3.ownsRow w.heap.size 95 3 u6 k (zE kK (jQ cs (l.take k)))):=zS HO f;clear d;go_wp2
    go_ret2
    refine ⟨v3,_,rfl,zN ac HB.size,?_,own_ne HO ac (nl _),bt HB f⟩;have:=o.out;rw [HK.out,As] at this;rw [zGI];exact this
theorem tooEarlyR_i (ps:TL) (v:Value) (p:PE) (s:PV) (k:Int) (w:World) (hT:jB w v ps) (hk:okT (bks ps)) (hR:jS w p s) (hs:yC p) :
  Calls prog 14 #[v,yZ p s,I U k] w fun e w'=>∃ s',e=.returned (yZ (yDF (bks ps) p k) s')/\zO w.heap.size w'.heap.size w' (yDF (bks ps) p k) s'/\Be w w':=by
 have HT:=hid hT;have HK:=hid hk;have HR:=hid hR;have HS:=hid hs;have c2:(ps.length:Int)<=1048576:=by have:=hk.1;rw [yO] at this;exact this
 have cj:=hs.row;have bg:Hid ((bks ps).length=ps.length):=yO ps;obtain ⟨ii,c1,bo,b6,ca⟩:=info_parts infoIntL;obtain ⟨ui,ck,bk,b3,b7⟩:=info_parts infoUndo;obtain ⟨db,cg,rfl,-⟩:=HT.1;clear hT hk hR hs;obtain ⟨W,hW⟩:=nw ((w.alloc (.cells (zA p s) 35)).alloc (.cells zF 35));have HW:Hid (Bx2 w W (zA p s) zF):=hid (by rw [hW];exact two_boxes w _ _);unfold zF at hW;go_enter func14,ntmps14;go_wp2_with (rw [<- hW];clear hW;(refine w_ld w.heap.size HW.box underlying35 ?_))
 refine (withoutEarly_i p s W (HR.below HW.below) HS).mono ?_;rintro e x1 ⟨s3,rfl,ho,hb⟩;have f:Hid (zO w.heap.size x1.heap.size x1 (jC p) s3):=ho.low HW.below.size;have ao:Hid (Bx2 w x1 (zA p s) zF):=HW.more hb;clear ho hb HW;obtain ⟨u,hu⟩:=nw (qS p.row);have HE:Hid (yDF (bks ps) p k=yBH (bks ps) (jC p) (kB (bks ps) k u)):=(by unfold yDF;rw [hu]:yDF (bks ps) p k=_);obtain ⟨q,hq⟩:=nw (jC p);have bd:Hid (q.early=[]/\q.undos=[]/\okL q.cells):=hid (by rw [hq];exact ⟨rfl,rfl,okL_back HS⟩);have cb:Hid (qS q.row=u/\(q.row.length:Int)<=1048576):=(by rw [hq,hu];exact ⟨rfl,cj⟩:qS q.row=u/\_);rw [<- hq] at HE f;rw [<- hq];clear hq hu;go_wp2_with (refine w_st w.heap.size (zA q s3) ao.box (zJ f.1) ?_;intro x4 hg hk hz;have d:Hid (Bx2 w x4 (zA q s3) zF):=ao.put hg hk;have y:Hid (zO w.heap.size x4.heap.size x4 q s3):=(f.boxed ao.box hg).wide hg.size (nl _);have c3:=zB d.box 14 s3.row rfl;clear hg hk hz ao f)
 refine (lastOf_i q.row s3.row x4 y.reads.row cb.2).mono ?_;rintro e W' ⟨rfl,hw⟩;obtain rfl:=hw.symm;clear hw c3;rw [cb.out.1];go_wp2_with fail
 refine (rowAfter_i ps _ k u x4 (HT.below d.below) c2).mono ?_;rintro e x5 ⟨v5,rfl,ho,hb⟩;obtain ⟨L,hL⟩:=nw (kB (bks ps) k u);have cw:Hid (∀ x∈L,∃ j:Nat,x=(j:Int)/\j < ps.length):=hid (by rw [hL];intro x hx;have:=after_mem hx;rw [bg.out] at this;exact this);have c7:(L.length:Int)<=1048576:=by have:=zDA (bks ps) k u;rw [<- hL,bg.out] at this;omega
 rw [<- hL] at HE ho;have t:Hid (x5.ownsRow x4.heap.size 3 1 v5 L.length (zE xJ L)):=ho;have aa:Hid (Bx2 w x5 (zA q s3) zF):=d.more hb;have o:Hid (zO w.heap.size x4.heap.size x5 q s3):=y.below hb;have cr:Hid (x4.heap.size<=x5.heap.size):=hb.size;obtain ⟨a5,c5,rfl,ap⟩:=zW jG ho;clear ap;clear hL ho hb d y;have cm:Hid (zA (yBH (bks ps) q (L.take 0)) s3=zA q s3):=hid (by unfold zA yBH;simp);go_wp2
 go_loopw [20] (fun i wr=>∃ (m:Nat) (tm:PV),m<=L.length/\i=I U (m:Int)/\Hid (Bx2 w wr (zA (yBH (bks ps) q (L.take m)) tm) zF)/\Hid (zO w.heap.size wr.heap.size wr (yBH (bks ps) q (L.take m)) tm)/\Hid (wr.ownsRow x4.heap.size 3 1 (.slice a5 L.length c5) L.length (zE xJ L))/\Hid (apart tm.early (.slice a5 L.length c5))/\Hid (x5.heap.size<=wr.heap.size)) (fun i _=>L.length - (intOf i).toNat)
 case atStart=>exact ⟨0,s3,Ae _,rfl,(by rw [cm.out];exact aa.out:Bx2 w x5 (zA (yBH (bks ps) q (L.take 0)) s3) zF),ear_own _ _ bd.1 bd.2.1 (o.wide cr (nl _)),t,yQ o.2.1.l2 (fun g e=>⟨(t.lt g e).1,(t.lt g e).2⟩) (Or.inl (nl _)),nl _⟩
 case round=>
  obtain ⟨m,tm,hm,rfl,a,n,a9,bh,c0⟩:=hrel
  by_cases hlt:(m:Int) < L.length
  ·have a2:m < L.length:=by omega
   obtain ⟨j,hj,ar⟩:=cw L[m] (Ag a2);have HJ:Hid (L[m]=(j:Int)):=hj;have q0:(0:Int)<=(m:Int):=by omega
   have j0:(0:Int)<=(j:Int):=by omega
   have j1:(j:Int) < ps.length:=by omega
   obtain ⟨c4,c6,e5,ap⟩:=zW jG a9;injection e5 with ci _ cd
   subst ci cd;obtain ⟨g5,o5,rfl,b9,bn⟩:=ap (by omega);have hc:wr.cell? ⟨g5,o5+m,Aa⟩=Ab (I U (j:Int)):=by have:=bn m a2 0 (by omega);rw [HJ.out] at this;simpa [xJ] using this
   have cs:Hid (g5 < wr.heap.size):=b9;clear bn b9 ap hj;obtain ⟨da,c8,et,bz⟩:=(HT.below a.below).1;injection et with cx _ cl
   subst cx cl;obtain ⟨gt,ot,rfl,b4,bj⟩:=bz (by omega);obtain ⟨cv,ay⟩:=nw (ps[j].2);have ai:Hid (yM wr cv 3 kL ps[j].1.2.1/\okB ps[j].1):=hid (by rw [ay];exact ⟨(HT.below a.below).2 ps[j] (Ag ar),okT_at HK ar⟩);have am:Hid (gt < wr.heap.size/\wr.cell? ⟨gt,ot+j * 7+2,Aa⟩=some cv):=⟨b4,by rw [ay];exact bj j ar 2 (by omega)⟩;clear b4 bj ay bz;obtain ⟨qm,a4⟩:∃ qm:PE,qm=yBH (bks ps) q (L.take m):=⟨_,rfl⟩
   have ab:Hid (({ qm with cells:=yD qm.cells ps[j].1.2.1,early:=qm.early ++ [(j:Int)],undos:=qm.undos ++ jQ qm.cells ps[j].1.2.1 }:PE)=yBH (bks ps) q (L.take (m+1))/\okL qm.cells/\qm.early.length=m/\qm.undos.length<=m * 1048576/\(jQ qm.cells ps[j].1.2.1).length<=1048576):=(by
    rw [a4];refine ⟨ear_step a2 HJ ar,rowC_ok HK _ _ bd.2.2,by unfold yBH;simp;omega,?_,?_⟩
    ·have:=earU_len HK (L.take m) q.cells;rw [Aq,Nat.min_eq_left hm] at this;exact this
    ·rw [zGI];have:=ai.2.1;omega:_/\_/\_/\_/\_)
   rw [<- a4] at a n;clear a4;go_wp2;clear hc;refine p_rg (fun i=>decide (i < 8)) (fun x=>Bx x w.heap.size (zA qm tm) 35/\x.cell? ⟨gt,ot+j * 7+2,Aa⟩=some cv) ?_;show zX prog _ _ _ _ _ (12+1) (Array.replicate 13 false) _ _;have hS:Bx wr.drew w.heap.size (zA qm tm) 35/\wr.drew.cell? ⟨gt,ot+j * 7+2,Aa⟩=some cv:=⟨a.box,am.2⟩;refine p_pt 0 25 w.heap.size 15 hS ?_;refine zD 1 26 tm.cells hS ?_ (hy:=by intro x hx;have c:=zB hx.1 15 tm.cells rfl;go_simp;try rfl);refine zD 2 27 (.slice (Ab ⟨gt,ot,Aa⟩) ps.length cg) hS ?_;refine zD 3 28 (I U (j:Int)) hS ?_;refine p_pt 4 29 gt (ot+j * 7) hS ?_;refine p_pt 5 30 gt (ot+j * 7+2) hS ?_;refine zD 6 31 cv hS ?_ (hy:=by intro x hx;have c:=hx.2;go_simp;try rfl);refine kJ 7 32 53 #[tm.cells,cv] ((doneBack_i qm.cells ps[j].1.2.1 tm.cells cv wr.drew (n.reads.cells.below (br _ _).drew) (ai.1.below (br _ _).drew) ab.2.1 ai.2.1 ai.2.2).mono ?_);rintro e y1 ⟨w1,w2,rfl,ho,ad,-,bp⟩;have hb:=(bw wr).trans bp;have f:Hid (y1.ownsRow wr.heap.size 92 2 w1 (yD qm.cells ps[j].1.2.1).length (kM (yD qm.cells ps[j].1.2.1))):=ho;have aq:Hid (y1.ownsRow wr.heap.size 95 3 w2 (jQ qm.cells ps[j].1.2.1).length (zE kK (jQ qm.cells ps[j].1.2.1))):=ad;have r:Hid (Bx2 w y1 (zA qm tm) zF):=a.more hb;have b1:Hid (zO w.heap.size wr.heap.size y1 qm tm):=n.below hb;have a3:Hid (y1.ownsRow x4.heap.size 3 1 (.slice (Ab ⟨g5,o5,Aa⟩) L.length c5) L.length (zE xJ L)):=zS a9 hb;have ak:=hid (qad2 a.out.below.size hb.size);have b5:Bx y1 w.heap.size (zA qm tm) 35/\y1.cell? ⟨gt,ot+j * 7+2,Aa⟩=some cv:=⟨r.box,by rw [hb.cell (by exact am.out.1)];exact am.out.2⟩;clear ho ad hb bp hS am ai a n a9;refine ⟨_,rfl,fun _=>b5,?_⟩;simp only [pz];refine p_pu 8 24 (.tuple #[w1,w2]) ?_ ?_
   ·intro x hx;go_simp
    try rfl
   simp only [pz];refine p_pu 9 33 w1 ?_ ?_
   ·intro x hx;go_simp
    try rfl
   simp only [pz];refine p_pu 10 34 w2 ?_ ?_
   ·intro x hx;go_simp
    try rfl
   simp only [pz];refine p_pu 11 9 w1 ?_ ?_
   ·intro x hx;go_simp
    try rfl
   simp only [pz];refine p_pu 12 10 w2 ?_ ?_
   ·intro x hx;go_simp
    try rfl
   simp only [pz];refine p_do ?_;clear b5;obtain ⟨q1,al⟩:∃ q1:PE,q1={ qm with cells:=yD qm.cells ps[j].1.2.1 }:=⟨_,rfl⟩;obtain ⟨t1,aj⟩:∃ t1:PV,t1={ tm with cells:=w1 }:=⟨_,rfl⟩;have ag:Hid (({ q1 with early:=q1.early ++ [(j:Int)],undos:=q1.undos ++ jQ qm.cells ps[j].1.2.1 }:PE)=yBH (bks ps) q (L.take (m+1))/\q1.early.length=m/\q1.undos.length<=m * 1048576):=hid (by rw [al];exact ⟨ab.1,ab.2.2.1,ab.2.2.2.1⟩);have aw:Hid (apart t1.early (.slice (Ab ⟨g5,o5,Aa⟩) L.length c5)):=(by rw [aj];exact bh.out:apart t1.early _);obtain ⟨us,ax⟩:=nw (jQ qm.cells ps[j].1.2.1);have ch:Hid (us.length<=1048576):=hid (by rw [ax];exact ab.out.2.2.2.2);rw [<- ax] at ag aq;clear ax ab bh;have b0:Hid (q1.early.length=m):=ag.2.1
   go_wp2_with (first
    | (refine w_sc w.heap.size 15 w1 r.box (by simp [zA]) (zDH f) (zA q1 t1) (by rw [al,aj];rfl) ?_;intro y2 hg hk;have an:Hid (Bx2 w y2 (zA q1 t1) zF):=r.put hg hk;have ae:Hid (zO w.heap.size y2.heap.size y2 q1 t1):=hid (by rw [al,aj];exact (b1.boxed r.box hg).setCells (Ac ak.2 hg.size) (nl _) (zN (Ah f hg (zH f r.box (by decide))) ak.1) (fun g e=>Ad (f.lt g e).2 hg.size) (fun g e=>Al (f.lt g e).1));have bl:Hid (y2.ownsRow x4.heap.size 3 1 (.slice (Option.some ⟨g5,o5,Aa⟩) L.length c5) L.length (zE xJ L)):=Ah a3 hg (zH a3 r.box (by decide));have be:Hid (y2.ownsRow wr.heap.size 95 3 w2 us.length (zE kK us)):=Ah aq hg (zH aq r.box (by decide));have a7:Hid (wr.heap.size<=y2.heap.size):=Ac ak.2 hg.size;have l:Hid (Be y2 (y2.alloc (.cells #[I U (j:Int)] 3))):=(Below.refl y2.heap.size y2).alloc (nl _) _;clear hg hk r b1 a3 aq f al aj;have cp:=zB an.box 16 t1.early rfl)
    | (at_builtin;refine wpList_append_lies _ rfl (.tmp 38) (.tmp 40) 29 rfl w.heap.size 3 ii _ 1 8 underlying29 c1 bo b6 ca rfl (by decide) t1.early _ _ rfl (ae.below l).1.early ⟨y2.heap.size,0,Aa⟩ 1 1 [I U (j:Int)] rfl rfl (World.news_of_block (heap_alloc_new y2 _)) (by intro x hx;simp at hx;subst hx;rfl) (by decide) (by rw [b0.out];unfold maxLen;omega) (by rw [b0.out];omega) (by have:=an.lt;simp;omega) _ rfl ?_;intro g2 b y4 ad ac a6 av;have d:Hid (Bx2 w y4 (zA q1 t1) zF):=(an.more l).grow (ae.below l).1.early (by decide) (nl _) ac;have a0:Hid (y4.ownsRow x4.heap.size 3 1 (.slice (Option.some ⟨g5,o5,Aa⟩) L.length c5) L.length (zE xJ L)):=Ah (zS bl l) ac aw.symm.ne;have a1:Hid (y4.ownsRow wr.heap.size 95 3 w2 us.length (zE kK us)):=Ah (zS be l) ac (row_kind (zS be l) (ae.below l).1.early (by decide));have y:Hid (zO w.heap.size y4.heap.size y4 { q1 with early:=q1.early ++ [(j:Int)] } { t1 with early:=.slice (Ab ⟨g2,0,Aa⟩) (q1.early.length+1) b }):=(ae.below l).addEarly ac ad (a6.imp id (fun e=>by rw [e];simp)) av;have bu:Hid (apart (.slice (Ab ⟨g2,0,Aa⟩) (q1.early.length+1) b) (.slice (Option.some ⟨g5,o5,Aa⟩) L.length c5)):=(by intro g e e2;cases e;exact a6.elim (fun h=>aw _ h e2) (fun h=>by have e2:=Af e2;have:=cs.out;have:=a7.out;simp at e2 h;omega):apart _ _);have bf:Hid (wr.heap.size<=y4.heap.size):=Ac a7 (Ac l.size ac.size);clear ad ac a6 av cp an ae bl be a7 l)
    | (refine w_sc w.heap.size 16 (.slice (Ab ⟨g2,0,Aa⟩) (q1.early.length+1) b) d.box (by simp [zA]) rfl (zA { q1 with early:=q1.early ++ [(j:Int)] } { t1 with early:=.slice (Ab ⟨g2,0,Aa⟩) (q1.early.length+1) b }) rfl ?_;intro y5 hg hk;have aa:Hid (Bx2 w y5 (zA { q1 with early:=q1.early ++ [(j:Int)] } { t1 with early:=.slice (Ab ⟨g2,0,Aa⟩) (q1.early.length+1) b }) zF):=d.put hg hk;have o:Hid (zO w.heap.size y5.heap.size y5 { q1 with early:=q1.early ++ [(j:Int)] } { t1 with early:=.slice (Ab ⟨g2,0,Aa⟩) (q1.early.length+1) b }):=(y.boxed d.box hg).wide hg.size (nl _);have t:Hid (y5.ownsRow x4.heap.size 3 1 (.slice (Option.some ⟨g5,o5,Aa⟩) L.length c5) L.length (zE xJ L)):=Ah a0 hg (zH a0 d.box (by decide));have bq:Hid (y5.ownsRow wr.heap.size 95 3 w2 us.length (zE kK us)):=Ah a1 hg (zH a1 d.box (by decide));have cc:Hid (x5.heap.size<=y5.heap.size/\w.heap.size<=y5.heap.size):=hid (by have:=c0.out;have:=bf.out;have:=ak.out;have:=hg.size;omega);obtain ⟨q2,bc⟩:∃ q2:PE,q2={ q1 with early:=q1.early ++ [(j:Int)] }:=⟨_,rfl⟩;obtain ⟨t2,az⟩:∃ t2:PV,t2={ t1 with early:=.slice (Ab ⟨g2,0,Aa⟩) (q1.early.length+1) b }:=⟨_,rfl⟩;have b8:Hid (({ q2 with undos:=q2.undos ++ us }:PE)=yBH (bks ps) q (L.take (m+1))/\q2.undos.length<=m * 1048576):=hid (by rw [bc];exact ⟨ag.1,ag.2.2⟩);have cq:Hid (apart t2.early (.slice (Option.some ⟨g5,o5,Aa⟩) L.length c5)):=(by rw [az];exact bu.out:apart t2.early _);rw [<- bc,<- az] at aa o;clear hg hk d y a0 a1 bc az bu aw ag bf;have co:=zB aa.box 17 t2.undos rfl;have c9:=b8.2;have dc:=ch.out)
    | (at_builtin;refine wpList_append_w _ rfl _ _ 31 rfl w.heap.size 95 ui _ 32 underlying31 ck bk b3 b7 rfl (by decide) yFF undoF_one t2.undos q2.undos rfl o.1.undos w2 us rfl (zW yFF bq) (by unfold maxLen;omega) (by omega) cc.2 ?_;intro v6 y6 bb ah au;have af:Hid (Bx2 w y6 (zA q2 t2) zF):=aa.grow o.1.undos (by decide) (nl _) ah;have a8:Hid (y6.ownsRow x4.heap.size 3 1 (.slice (Option.some ⟨g5,o5,Aa⟩) L.length c5) L.length (zE xJ L)):=Ah t ah (row_kind t o.1.undos (by decide));have bv:Hid (zO w.heap.size y6.heap.size y6 { q2 with undos:=q2.undos ++ us } { t2 with undos:=v6 }):=o.addUndos ah bb au;have cn:Hid (v6.oneCell'=true):=zDH bb;have b2:Hid (x5.heap.size<=y6.heap.size):=Ac cc.1 ah.size;clear bb ah au aa o t bq co)
    | (refine w_sc w.heap.size 17 v6 af.box (by simp [zA]) cn (zA { q2 with undos:=q2.undos ++ us } { t2 with undos:=v6 }) rfl ?_;intro y7 hg hk;have bm:Hid (Bx2 w y7 (zA { q2 with undos:=q2.undos ++ us } { t2 with undos:=v6 }) zF):=af.put hg hk;have bi:Hid (zO w.heap.size y7.heap.size y7 { q2 with undos:=q2.undos ++ us } { t2 with undos:=v6 }):=(bv.boxed af.box hg).wide hg.size (nl _);have cz:Hid (y7.ownsRow x4.heap.size 3 1 (.slice (Option.some ⟨g5,o5,Aa⟩) L.length c5) L.length (zE xJ L)):=Ah a8 hg (zH a8 af.box (by decide));have cu:Hid (x5.heap.size<=y7.heap.size):=Ac b2 hg.size;clear hg hk af bv a8 b2))
   rw [b8.out.1] at bm bi
   go_roundw
   case rel=>exact ⟨m+1,{ t2 with undos:=v6 },by omega,by go_num,bm,bi,cz,cq,cu⟩
   case measure=>simp [intOf];omega
  ·have ct:m=L.length:=by omega
   subst ct;rw [As] at a n;obtain ⟨QQ,bx⟩:=nw (yBH (bks ps) q L);rw [<- bx] at a n HE;clear bx
   go_wp2_with (first
    | (refine w_ld w.heap.size a.box underlying35 ?_)
    | (refine w_st (w.heap.size+1) (zA QQ tm) a.zero (zJ n.1) ?_;intro z hg hk hz;have cf:Hid (Be w z):=a.below.grown hg a.below.size (qkk (by omega));have ce:Hid (Bx z (w.heap.size+1) (zA QQ tm) 35):=hk;have cy:Hid (zO w.heap.size z.heap.size z QQ tm):=(n.boxed a.zero hg).wide hg.size (nl _);clear hg hk hz n a))
   refine b_cr (.agg (zA QQ tm)) results14 ce underlying35 ?_;rw [HE.out];exact ⟨_,rfl,cy,cf⟩
theorem sameInts_yes (l:List Int) (a b:Value) (w:World) (ha:yM w a 1 xJ l) (hb:yM w b 1 xJ l) (hl:(l.length:Int)<=1048576) :
  Calls prog 19 #[a,b] w fun e w'=>e=.returned (.bool true)/\Be w w':=by
 obtain ⟨a,ca,rfl,d⟩:=ha;obtain ⟨b,cb,rfl,j⟩:=hb;have HA:=hid d;have HB:=hid j;clear d j;go_enter func19,ntmps19;go_wp2
 go_loopw [5] (fun i wr=>∃ m:Nat,m<=l.length/\i=I U m/\Be w wr) (fun i _=>l.length - (intOf i).toNat)
 case atStart=>exact ⟨0,Ae _,rfl,br _ _⟩
 case round=>
  obtain ⟨m,hm,rfl,c⟩:=hrel
  by_cases hlt:(m:Int) < l.length
  ·have q0:(0:Int)<=(m:Int):=by omega
   have f:m < l.length:=by omega
   obtain ⟨ga,oa,rfl,n,g⟩:=HA (by omega);obtain ⟨gb,ob,rfl,k,h⟩:=HB (by omega);have o:=yX wr;have c0:∀ x:Bw wr,x.to.cell? ⟨ga,oa+m,Aa⟩=Ab (I U l[m]):=fun x=>by rw [(bt c x.below).cell (by exact n)];have:=g m f 0 (by omega);simpa [xJ] using this
   have d0:∀ x:Bw wr,x.to.cell? ⟨gb,ob+m,Aa⟩=Ab (I U l[m]):=fun x=>by rw [(bt c x.below).cell (by exact k)];have:=h m f 0 (by omega);simpa [xJ] using this
   clear g h;go_wp2;refine rb ?_;repeat (go_big_quiet_step (fail))
   refine qnn fun x=>?_
   go_wp2
   go_roundw
   case rel=>exact ⟨m+1,by omega,by go_num,bt c x.below⟩
   case measure=>simp [intOf];omega
  ·go_wp2;go_ret;exact ⟨rfl,c⟩
theorem sfV (a b c d:Int) (w:World):(Op.equalIn 10000 28 (.agg #[I U a,I U b,I U c,I U d]) (.agg #[I U a,I U b,I U c,I U d])).run prog w=.ok true w:=by
 have u3:=underlying3;have hS:prog.underlying 28=Ab (.struct (prog.fieldsOf 28)):=by kernel_rfl
 have hp:prog.stoodInHeld 28=false:=by kernel_rfl
 rw [show (10000:Nat)=9999+1 from rfl,run_equalIn_agg w 9999 28 _ _ hS hp];simp only [Program.fieldsOf,underlying28];go_simp
theorem sfVg:prog.eqGuardType prog.depth 28=false:=by kernel_rfl
theorem sfQ (a b c d:Int) (w:World):(Op.equalIn 10000 26 (.agg #[I U a,I U b,I U c,I U d]) (.agg #[I U a,I U b,I U c,I U d])).run prog w=.ok true w:=by
 have u3:=underlying3;have hS:prog.underlying 26=Ab (.struct (prog.fieldsOf 26)):=by kernel_rfl
 have hp:prog.stoodInHeld 26=false:=by kernel_rfl
 rw [show (10000:Nat)=9999+1 from rfl,run_equalIn_agg w 9999 26 _ _ hS hp];simp only [Program.fieldsOf,underlying26];go_simp
theorem sfQg:prog.eqGuardType prog.depth 26=false:=by kernel_rfl
theorem sfU (k:ByteArray) (o:Bool) (n:Int) (w:World):(Op.equalIn 10000 95 (.agg #[.string k,.bool o,I U n]) (.agg #[.string k,.bool o,I U n])).run prog w=.ok true w:=by
 have u3:=underlying3;have u9:=underlying9;have u4:=underlying4;have hS:prog.underlying 95=Ab (.struct (prog.fieldsOf 95)):=by kernel_rfl
 have hp:prog.stoodInHeld 95=false:=by kernel_rfl
 rw [show (10000:Nat)=9999+1 from rfl,run_equalIn_agg w 9999 95 _ _ hS hp];simp only [Program.fieldsOf,underlying95];go_simp
theorem sfUg:prog.eqGuardType prog.depth 95=false:=by kernel_rfl
theorem sfVd (a b c d:Int) (w:World):(Op.equalIn 9999 28 (.agg #[I U a,I U b,I U c,I U d]) (.agg #[I U a,I U b,I U c,I U d])).run prog w=.ok true w:=by
 have u3:=underlying3;have hS:prog.underlying 28=Ab (.struct (prog.fieldsOf 28)):=by kernel_rfl
 have hp:prog.stoodInHeld 28=false:=by kernel_rfl
 rw [show (9999:Nat)=9998+1 from rfl,run_equalIn_agg w 9998 28 _ _ hS hp];simp only [Program.fieldsOf,underlying28];go_simp
theorem sfQd (a b c d:Int) (w:World):(Op.equalIn 9999 26 (.agg #[I U a,I U b,I U c,I U d]) (.agg #[I U a,I U b,I U c,I U d])).run prog w=.ok true w:=by
 have u3:=underlying3;have hS:prog.underlying 26=Ab (.struct (prog.fieldsOf 26)):=by kernel_rfl
 have hp:prog.stoodInHeld 26=false:=by kernel_rfl
 rw [show (9999:Nat)=9998+1 from rfl,run_equalIn_agg w 9998 26 _ _ hS hp];simp only [Program.fieldsOf,underlying26];go_simp
theorem sfL (a b c d e f g h k n o p q:Int) (w:World):(Op.equalIn 10000 61 (.agg #[I U a,I U b,I U c,I U d,I U e,I U f,I U g,I U h,I U k,I U n,I U o,I U p,I U q]) (.agg #[I U a,I U b,I U c,I U d,I U e,I U f,I U g,I U h,I U k,I U n,I U o,I U p,I U q])).run prog w=.ok true w:=by
 have u3:=underlying3;have e1:=sfQd f g h k;have e2:=sfVd n o p q;have hS:prog.underlying 61=Ab (.struct (prog.fieldsOf 61)):=by kernel_rfl
 have hp:prog.stoodInHeld 61=false:=by kernel_rfl
 rw [show (10000:Nat)=9999+1 from rfl,run_equalIn_agg w 9999 61 _ _ hS hp];simp only [Program.fieldsOf,underlying61];go_simp
theorem sfLg:prog.eqGuardType prog.depth 61=false:=by kernel_rfl
theorem sfC (k:ByteArray) (n:Int) (w:World):(Op.equalIn 10000 92 (.agg #[.string k,I U n]) (.agg #[.string k,I U n])).run prog w=.ok true w:=by
 have u3:=underlying3;have u9:=underlying9;have hS:prog.underlying 92=Ab (.struct (prog.fieldsOf 92)):=by kernel_rfl
 have hp:prog.stoodInHeld 92=false:=by kernel_rfl
 rw [show (10000:Nat)=9999+1 from rfl,run_equalIn_agg w 9999 92 _ _ hS hp];simp only [Program.fieldsOf,underlying92];go_simp
theorem sfCg:prog.eqGuardType prog.depth 92=false:=by kernel_rfl
theorem sameCells_yes (l:CL) (a b:Value) (w:World) (ha:qQ w a l) (hb:qQ w b l) (hl:(l.length:Int)<=1048576) :
  Calls prog 16 #[a,b] w fun e w'=>e=.returned (.bool true)/\Be w w':=by
 obtain ⟨a,ca,rfl,h⟩:=ha;obtain ⟨b,cb,rfl,k⟩:=hb;have HA:=hid h;have HB:=hid k;clear h k;go_enter func16,ntmps16;go_wp2
 go_loopw [5] (fun i wr=>∃ m:Nat,m<=l.length/\i=I U m/\Be w wr) (fun i _=>l.length - (intOf i).toNat)
 case atStart=>exact ⟨0,Ae _,rfl,br _ _⟩
 case round=>
  obtain ⟨m,hm,rfl,c⟩:=hrel
  by_cases hlt:(m:Int) < l.length
  ·have q0:(0:Int)<=(m:Int):=by omega
   have d:m < l.length:=by omega
   obtain ⟨ga,oa,rfl,n,f⟩:=HA (by omega);obtain ⟨gb,ob,rfl,j,g⟩:=HB (by omega);have o:=yX wr;have c0:∀ x:Bw wr,x.to.cell? ⟨ga,oa+m * 2,Aa⟩=Ab (.string l[m].1):=fun x=>by rw [(bt c x.below).cell (by exact n)];exact (f m d).1
   have c1:∀ x:Bw wr,x.to.cell? ⟨ga,oa+m * 2+1,Aa⟩=Ab (I U l[m].2):=fun x=>by rw [(bt c x.below).cell (by exact n)];exact (f m d).2
   have d0:∀ x:Bw wr,x.to.cell? ⟨gb,ob+m * 2,Aa⟩=Ab (.string l[m].1):=fun x=>by rw [(bt c x.below).cell (by exact j)];exact (g m d).1
   have d1:∀ x:Bw wr,x.to.cell? ⟨gb,ob+m * 2+1,Aa⟩=Ab (I U l[m].2):=fun x=>by rw [(bt c x.below).cell (by exact j)];exact (g m d).2
   have e0:=sfC l[m].1 l[m].2;have e1:=sfCg;clear f g;go_wp2;refine rb ?_;repeat (go_big_quiet_step (fail))
   refine qnn fun x=>?_
   go_wp2
   go_roundw
   case rel=>exact ⟨m+1,by omega,by go_num,bt c x.below⟩
   case measure=>simp [intOf];omega
  ·go_wp2;go_ret;exact ⟨rfl,c⟩
theorem sameUndos_yes (l:List UN) (a b:Value) (w:World) (ha:yM w a 3 kK l) (hb:yM w b 3 kK l) (hl:(l.length:Int)<=1048576) :
  Calls prog 61 #[a,b] w fun e w'=>e=.returned (.bool true)/\Be w w':=by
 obtain ⟨a,ca,rfl,k⟩:=ha;obtain ⟨b,cb,rfl,n⟩:=hb;have HA:=hid k;have HB:=hid n;clear k n;go_enter func61,ntmps61;go_wp2
 go_loopw [5] (fun i wr=>∃ m:Nat,m<=l.length/\i=I U m/\Be w wr) (fun i _=>l.length - (intOf i).toNat)
 case atStart=>exact ⟨0,Ae _,rfl,br _ _⟩
 case round=>
  obtain ⟨m,hm,rfl,c⟩:=hrel
  by_cases hlt:(m:Int) < l.length
  ·have q0:(0:Int)<=(m:Int):=by omega
   have d:m < l.length:=by omega
   obtain ⟨ga,oa,rfl,j,f⟩:=HA (by omega);obtain ⟨gb,ob,rfl,h,g⟩:=HB (by omega);have o:=yX wr;have c0:∀ x:Bw wr,x.to.cell? ⟨ga,oa+m * 3,Aa⟩=Ab (.string l[m].1):=fun x=>by rw [(bt c x.below).cell (by exact j)];exact f m d 0 (by omega)
   have c1:∀ x:Bw wr,x.to.cell? ⟨ga,oa+m * 3+1,Aa⟩=Ab (.bool l[m].2.1):=fun x=>by rw [(bt c x.below).cell (by exact j)];exact f m d 1 (by omega)
   have c2:∀ x:Bw wr,x.to.cell? ⟨ga,oa+m * 3+2,Aa⟩=Ab (I U l[m].2.2):=fun x=>by rw [(bt c x.below).cell (by exact j)];exact f m d 2 (by omega)
   have d0:∀ x:Bw wr,x.to.cell? ⟨gb,ob+m * 3,Aa⟩=Ab (.string l[m].1):=fun x=>by rw [(bt c x.below).cell (by exact h)];exact g m d 0 (by omega)
   have d1:∀ x:Bw wr,x.to.cell? ⟨gb,ob+m * 3+1,Aa⟩=Ab (.bool l[m].2.1):=fun x=>by rw [(bt c x.below).cell (by exact h)];exact g m d 1 (by omega)
   have d2:∀ x:Bw wr,x.to.cell? ⟨gb,ob+m * 3+2,Aa⟩=Ab (I U l[m].2.2):=fun x=>by rw [(bt c x.below).cell (by exact h)];exact g m d 2 (by omega)
   have e0:=sfU l[m].1 l[m].2.1 l[m].2.2;have e1:=sfUg;clear f g;go_wp2;refine rb ?_;repeat (go_big_quiet_step (fail))
   refine qnn fun x=>?_
   go_wp2
   go_roundw
   case rel=>exact ⟨m+1,by omega,by go_num,bt c x.below⟩
   case measure=>simp [intOf];omega
  ·go_wp2;go_ret;exact ⟨rfl,c⟩
theorem sameVotes_yes (l:List VT) (a b:Value) (w:World) (ha:yM w a 4 xD l) (hb:yM w b 4 xD l) (hl:(l.length:Int)<=1048576) :
  Calls prog 62 #[a,b] w fun e w'=>e=.returned (.bool true)/\Be w w':=by
 obtain ⟨a,ca,rfl,k⟩:=ha;obtain ⟨b,cb,rfl,n⟩:=hb;have HA:=hid k;have HB:=hid n;clear k n;go_enter func62,ntmps62;go_wp2
 go_loopw [5] (fun i wr=>∃ m:Nat,m<=l.length/\i=I U m/\Be w wr) (fun i _=>l.length - (intOf i).toNat)
 case atStart=>exact ⟨0,Ae _,rfl,br _ _⟩
 case round=>
  obtain ⟨m,hm,rfl,c⟩:=hrel
  by_cases hlt:(m:Int) < l.length
  ·have q0:(0:Int)<=(m:Int):=by omega
   have d:m < l.length:=by omega
   obtain ⟨ga,oa,rfl,j,f⟩:=HA (by omega);obtain ⟨gb,ob,rfl,h,g⟩:=HB (by omega);have o:=yX wr;have c0:∀ x:Bw wr,x.to.cell? ⟨ga,oa+m * 4,Aa⟩=Ab (I U l[m].1):=fun x=>by rw [(bt c x.below).cell (by exact j)];exact f m d 0 (by omega)
   have c1:∀ x:Bw wr,x.to.cell? ⟨ga,oa+m * 4+1,Aa⟩=Ab (I U l[m].2.1):=fun x=>by rw [(bt c x.below).cell (by exact j)];exact f m d 1 (by omega)
   have c2:∀ x:Bw wr,x.to.cell? ⟨ga,oa+m * 4+2,Aa⟩=Ab (I U l[m].2.2.1):=fun x=>by rw [(bt c x.below).cell (by exact j)];exact f m d 2 (by omega)
   have c3:∀ x:Bw wr,x.to.cell? ⟨ga,oa+m * 4+3,Aa⟩=Ab (I U l[m].2.2.2):=fun x=>by rw [(bt c x.below).cell (by exact j)];exact f m d 3 (by omega)
   have d0:∀ x:Bw wr,x.to.cell? ⟨gb,ob+m * 4,Aa⟩=Ab (I U l[m].1):=fun x=>by rw [(bt c x.below).cell (by exact h)];exact g m d 0 (by omega)
   have d1:∀ x:Bw wr,x.to.cell? ⟨gb,ob+m * 4+1,Aa⟩=Ab (I U l[m].2.1):=fun x=>by rw [(bt c x.below).cell (by exact h)];exact g m d 1 (by omega)
   have d2:∀ x:Bw wr,x.to.cell? ⟨gb,ob+m * 4+2,Aa⟩=Ab (I U l[m].2.2.1):=fun x=>by rw [(bt c x.below).cell (by exact h)];exact g m d 2 (by omega)
   have d3:∀ x:Bw wr,x.to.cell? ⟨gb,ob+m * 4+3,Aa⟩=Ab (I U l[m].2.2.2):=fun x=>by rw [(bt c x.below).cell (by exact h)];exact g m d 3 (by omega)
   have e0:=sfV l[m].1 l[m].2.1 l[m].2.2.1 l[m].2.2.2;have e1:=sfVg;clear f g;go_wp2;refine rb ?_;repeat (go_big_quiet_step (fail))
   refine qnn fun x=>?_
   go_wp2
   go_roundw
   case rel=>exact ⟨m+1,by omega,by go_num,bt c x.below⟩
   case measure=>simp [intOf];omega
  ·go_wp2;go_ret;exact ⟨rfl,c⟩
theorem sameLetters_yes (l:List LT) (a b:Value) (w:World) (ha:yM w a 13 yE l) (hb:yM w b 13 yE l) (hl:(l.length:Int)<=1048576) :
  Calls prog 38 #[a,b] w fun e w'=>e=.returned (.bool true)/\Be w w':=by
 obtain ⟨a,ca,rfl,k⟩:=ha;obtain ⟨b,cb,rfl,n⟩:=hb;have HA:=hid k;have HB:=hid n;clear k n;go_enter func38,ntmps38;go_wp2
 go_loopw [5] (fun i wr=>∃ m:Nat,m<=l.length/\i=I U m/\Be w wr) (fun i _=>l.length - (intOf i).toNat)
 case atStart=>exact ⟨0,Ae _,rfl,br _ _⟩
 case round=>
  obtain ⟨m,hm,rfl,c⟩:=hrel
  by_cases hlt:(m:Int) < l.length
  ·have q0:(0:Int)<=(m:Int):=by omega
   have d:m < l.length:=by omega
   obtain ⟨ga,oa,rfl,j,f⟩:=HA (by omega);obtain ⟨gb,ob,rfl,h,g⟩:=HB (by omega);have t:=yX wr;have c0:∀ x:Bw wr,x.to.cell? ⟨ga,oa+m * 13,Aa⟩=Ab (I U l[m].1.1):=fun x=>by rw [(bt c x.below).cell (by exact j)];exact f m d 0 (by omega)
   have c1:∀ x:Bw wr,x.to.cell? ⟨ga,oa+m * 13+1,Aa⟩=Ab (I U l[m].1.2.1):=fun x=>by rw [(bt c x.below).cell (by exact j)];exact f m d 1 (by omega)
   have c2:∀ x:Bw wr,x.to.cell? ⟨ga,oa+m * 13+2,Aa⟩=Ab (I U l[m].1.2.2.1):=fun x=>by rw [(bt c x.below).cell (by exact j)];exact f m d 2 (by omega)
   have c3:∀ x:Bw wr,x.to.cell? ⟨ga,oa+m * 13+3,Aa⟩=Ab (I U l[m].1.2.2.2.1):=fun x=>by rw [(bt c x.below).cell (by exact j)];exact f m d 3 (by omega)
   have c4:∀ x:Bw wr,x.to.cell? ⟨ga,oa+m * 13+4,Aa⟩=Ab (I U l[m].1.2.2.2.2):=fun x=>by rw [(bt c x.below).cell (by exact j)];exact f m d 4 (by omega)
   have c5:∀ x:Bw wr,x.to.cell? ⟨ga,oa+m * 13+5,Aa⟩=Ab (I U l[m].2.1.1):=fun x=>by rw [(bt c x.below).cell (by exact j)];exact f m d 5 (by omega)
   have c6:∀ x:Bw wr,x.to.cell? ⟨ga,oa+m * 13+6,Aa⟩=Ab (I U l[m].2.1.2.1):=fun x=>by rw [(bt c x.below).cell (by exact j)];exact f m d 6 (by omega)
   have c7:∀ x:Bw wr,x.to.cell? ⟨ga,oa+m * 13+7,Aa⟩=Ab (I U l[m].2.1.2.2.1):=fun x=>by rw [(bt c x.below).cell (by exact j)];exact f m d 7 (by omega)
   have c8:∀ x:Bw wr,x.to.cell? ⟨ga,oa+m * 13+8,Aa⟩=Ab (I U l[m].2.1.2.2.2):=fun x=>by rw [(bt c x.below).cell (by exact j)];exact f m d 8 (by omega)
   have c9:∀ x:Bw wr,x.to.cell? ⟨ga,oa+m * 13+9,Aa⟩=Ab (I U l[m].2.2.1):=fun x=>by rw [(bt c x.below).cell (by exact j)];exact f m d 9 (by omega)
   have r:∀ x:Bw wr,x.to.cell? ⟨ga,oa+m * 13+10,Aa⟩=Ab (I U l[m].2.2.2.1):=fun x=>by rw [(bt c x.below).cell (by exact j)];exact f m d 10 (by omega)
   have p:∀ x:Bw wr,x.to.cell? ⟨ga,oa+m * 13+11,Aa⟩=Ab (I U l[m].2.2.2.2.1):=fun x=>by rw [(bt c x.below).cell (by exact j)];exact f m d 11 (by omega)
   have y:∀ x:Bw wr,x.to.cell? ⟨ga,oa+m * 13+12,Aa⟩=Ab (I U l[m].2.2.2.2.2):=fun x=>by rw [(bt c x.below).cell (by exact j)];exact f m d 12 (by omega)
   have d0:∀ x:Bw wr,x.to.cell? ⟨gb,ob+m * 13,Aa⟩=Ab (I U l[m].1.1):=fun x=>by rw [(bt c x.below).cell (by exact h)];exact g m d 0 (by omega)
   have d1:∀ x:Bw wr,x.to.cell? ⟨gb,ob+m * 13+1,Aa⟩=Ab (I U l[m].1.2.1):=fun x=>by rw [(bt c x.below).cell (by exact h)];exact g m d 1 (by omega)
   have d2:∀ x:Bw wr,x.to.cell? ⟨gb,ob+m * 13+2,Aa⟩=Ab (I U l[m].1.2.2.1):=fun x=>by rw [(bt c x.below).cell (by exact h)];exact g m d 2 (by omega)
   have d3:∀ x:Bw wr,x.to.cell? ⟨gb,ob+m * 13+3,Aa⟩=Ab (I U l[m].1.2.2.2.1):=fun x=>by rw [(bt c x.below).cell (by exact h)];exact g m d 3 (by omega)
   have d4:∀ x:Bw wr,x.to.cell? ⟨gb,ob+m * 13+4,Aa⟩=Ab (I U l[m].1.2.2.2.2):=fun x=>by rw [(bt c x.below).cell (by exact h)];exact g m d 4 (by omega)
   have d5:∀ x:Bw wr,x.to.cell? ⟨gb,ob+m * 13+5,Aa⟩=Ab (I U l[m].2.1.1):=fun x=>by rw [(bt c x.below).cell (by exact h)];exact g m d 5 (by omega)
   have d6:∀ x:Bw wr,x.to.cell? ⟨gb,ob+m * 13+6,Aa⟩=Ab (I U l[m].2.1.2.1):=fun x=>by rw [(bt c x.below).cell (by exact h)];exact g m d 6 (by omega)
   have d7:∀ x:Bw wr,x.to.cell? ⟨gb,ob+m * 13+7,Aa⟩=Ab (I U l[m].2.1.2.2.1):=fun x=>by rw [(bt c x.below).cell (by exact h)];exact g m d 7 (by omega)
   have d8:∀ x:Bw wr,x.to.cell? ⟨gb,ob+m * 13+8,Aa⟩=Ab (I U l[m].2.1.2.2.2):=fun x=>by rw [(bt c x.below).cell (by exact h)];exact g m d 8 (by omega)
   have d9:∀ x:Bw wr,x.to.cell? ⟨gb,ob+m * 13+9,Aa⟩=Ab (I U l[m].2.2.1):=fun x=>by rw [(bt c x.below).cell (by exact h)];exact g m d 9 (by omega)
   have o:∀ x:Bw wr,x.to.cell? ⟨gb,ob+m * 13+10,Aa⟩=Ab (I U l[m].2.2.2.1):=fun x=>by rw [(bt c x.below).cell (by exact h)];exact g m d 10 (by omega)
   have s:∀ x:Bw wr,x.to.cell? ⟨gb,ob+m * 13+11,Aa⟩=Ab (I U l[m].2.2.2.2.1):=fun x=>by rw [(bt c x.below).cell (by exact h)];exact g m d 11 (by omega)
   have v:∀ x:Bw wr,x.to.cell? ⟨gb,ob+m * 13+12,Aa⟩=Ab (I U l[m].2.2.2.2.2):=fun x=>by rw [(bt c x.below).cell (by exact h)];exact g m d 12 (by omega)
   have e0:=sfL l[m].1.1 l[m].1.2.1 l[m].1.2.2.1 l[m].1.2.2.2.1 l[m].1.2.2.2.2 l[m].2.1.1 l[m].2.1.2.1 l[m].2.1.2.2.1 l[m].2.1.2.2.2 l[m].2.2.1 l[m].2.2.2.1 l[m].2.2.2.2.1 l[m].2.2.2.2.2;have e1:=sfLg;clear f g;go_wp2;refine rb ?_;repeat (go_big_quiet_step (fail))
   refine qnn fun x=>?_
   go_wp2
   go_roundw
   case rel=>exact ⟨m+1,by omega,by go_num,bt c x.below⟩
   case measure=>simp [intOf];omega
  ·go_wp2;go_ret;exact ⟨rfl,c⟩
theorem samePeer_yes (p:PE) (s t:PV) (w:World) (ha:jS w p s) (hb:jS w p t) (hs:yC p) :
  Calls prog 22 #[yZ p s,yZ p t] w fun e w'=>e=.returned (.bool true)/\Be w w':=by
 have HA:=hid ha;have HB:=hid hb;have HS:=hid hs;clear ha hb hs;obtain ⟨W,hW⟩:=nw ((w.alloc (.cells (zA p s) 35)).alloc (.cells (zA p t) 35));have HW:Hid (Bx W w.heap.size (zA p s) 35/\Bx W (w.heap.size+1) (zA p t) 35/\Be w W):=hid (by rw [hW];exact ⟨(qK w _ _).1,(qK w _ _).2,ba (ba (br _ _) _) _⟩);have e0:=sfQ p.high.1 p.high.2.1 p.high.2.2.1 p.high.2.2.2;have e1:=sfQ p.lock.1 p.lock.2.1 p.lock.2.2.1 p.lock.2.2.2;have e2:=sfQg;have e3:=sfV p.last.1 p.last.2.1 p.last.2.2.1 p.last.2.2.2;have e4:=sfVg;have c0:=zB HW.1 0 (I U p.id) rfl;have c1:=zB HW.1 1 (I U p.view) rfl;have c2:=zB HW.1 2 (I U p.high.1) rfl;have c3:=zB HW.1 3 (I U p.high.2.1) rfl;have c4:=zB HW.1 4 (I U p.high.2.2.1) rfl;have c5:=zB HW.1 5 (I U p.high.2.2.2) rfl;have c6:=zB HW.1 6 (I U p.lock.1) rfl;have c7:=zB HW.1 7 (I U p.lock.2.1) rfl;have c8:=zB HW.1 8 (I U p.lock.2.2.1) rfl;have c9:=zB HW.1 9 (I U p.lock.2.2.2) rfl;have j:=zB HW.1 10 (I U p.last.1) rfl;have i:=zB HW.1 11 (I U p.last.2.1) rfl;have r:=zB HW.1 12 (I U p.last.2.2.1) rfl;have m:=zB HW.1 13 (I U p.last.2.2.2) rfl;have v:=zB HW.1 14 (s.row) rfl;have d0:=zB HW.2.1 0 (I U p.id) rfl;have d1:=zB HW.2.1 1 (I U p.view) rfl;have d2:=zB HW.2.1 2 (I U p.high.1) rfl;have d3:=zB HW.2.1 3 (I U p.high.2.1) rfl;have d4:=zB HW.2.1 4 (I U p.high.2.2.1) rfl;have d5:=zB HW.2.1 5 (I U p.high.2.2.2) rfl;have d6:=zB HW.2.1 6 (I U p.lock.1) rfl;have d7:=zB HW.2.1 7 (I U p.lock.2.1) rfl;have d8:=zB HW.2.1 8 (I U p.lock.2.2.1) rfl;have d9:=zB HW.2.1 9 (I U p.lock.2.2.2) rfl;have h:=zB HW.2.1 10 (I U p.last.1) rfl;have k:=zB HW.2.1 11 (I U p.last.2.1) rfl;have n:=zB HW.2.1 12 (I U p.last.2.2.1) rfl;have l:=zB HW.2.1 13 (I U p.last.2.2.2) rfl;have o:=zB HW.2.1 14 (t.row) rfl;rw [hW] at c0 c1 c2 c3 c4 c5 c6 c7 c8 c9 j i r m v d0 d1 d2 d3 d4 d5 d6 d7 d8 d9 h k n l o;go_enter func22,ntmps22;go_wp2_with fail
 rw [<- hW];clear hW;refine (sameInts_yes p.row s.row t.row W (HA.row.below HW.2.2) (HB.row.below HW.2.2) HS.row).mono ?_;rintro e x0 ⟨rfl,hb⟩;have d:=hid (qad3 (bk hb HW.1) (bk hb HW.2.1) (bt HW.2.2 hb));clear hb HW c0 c1 c2 c3 c4 c5 c6 c7 c8 c9 j i r m v d0 d1 d2 d3 d4 d5 d6 d7 d8 d9 h k n l o;have ae:=zB d.1 15 (s.cells) rfl;have z:=zB d.2.1 15 (t.cells) rfl;clear e0 e1 e2 e3 e4;go_wp2_with fail
 refine (sameCells_yes p.cells s.cells t.cells x0 (HA.cells.below d.2.2) (HB.cells.below d.2.2) HS.cells).mono ?_;rintro e x1 ⟨rfl,hb⟩;have b:=hid (qad3 (bk hb d.1) (bk hb d.2.1) (bt d.2.2 hb));clear hb d ae z;have af:=zB b.1 16 (s.early) rfl;have x:=zB b.2.1 16 (t.early) rfl;go_wp2_with fail
 refine (sameInts_yes p.early s.early t.early x1 (HA.early.below b.2.2) (HB.early.below b.2.2) HS.early).mono ?_;rintro e x2 ⟨rfl,hb⟩;have a:=hid (qad3 (bk hb b.1) (bk hb b.2.1) (bt b.2.2 hb));clear hb b af x;have ag:=zB a.1 17 (s.undos) rfl;have ab:=zB a.2.1 17 (t.undos) rfl;go_wp2_with fail
 refine (sameUndos_yes p.undos s.undos t.undos x2 (HA.undos.below a.2.2) (HB.undos.below a.2.2) HS.undos).mono ?_;rintro e x3 ⟨rfl,hb⟩;have c:=hid (qad3 (bk hb a.1) (bk hb a.2.1) (bt a.2.2 hb));clear hb a ag ab;have ac:=zB c.1 18 (s.votes) rfl;have y:=zB c.2.1 18 (t.votes) rfl;go_wp2_with fail
 refine (sameVotes_yes p.votes s.votes t.votes x3 (HA.votes.below c.2.2) (HB.votes.below c.2.2) HS.votes).mono ?_;rintro e x4 ⟨rfl,hb⟩;have f:=hid (qad3 (bk hb c.1) (bk hb c.2.1) (bt c.2.2 hb));clear hb c ac y;have ad:=zB f.1 19 (s.news) rfl;have aa:=zB f.2.1 19 (t.news) rfl;go_wp2_with fail
 refine (sameLetters_yes p.news s.news t.news x4 (HA.news.below f.2.2) (HB.news.below f.2.2) HS.news).mono ?_;rintro e x5 ⟨rfl,hb⟩;have g:=hid (qad3 (bk hb f.1) (bk hb f.2.1) (bt f.2.2 hb));clear hb f ad aa;have ah:=zB g.1 20 (I U p.shown) rfl;have ai:=zB g.2.1 20 (I U p.shown) rfl;go_wp2;go_ret;exact ⟨rfl,g.2.2⟩
open Go.ChangeShapes Go.WideShapes Go.ChangeAt
theorem code_of {W:World} {a:Option Addr} {len cap:Nat} {zs:List Int} (hle:len<=1048576) (hz:len<=zs.length) (ha:a=none->len=0) (hcell:∀ x,a=some x->∀ i,i < zs.length->W.cell? (x.add i)=Ab (.int .u8 (zs.getD i 0))) (hwz:∀ n∈zs,(Lit.int .u8 n).wf=true) (_hc:len<=cap) :
  ∃ b off,Code W a len b off:=by
 by_cases h0:len=0
 ·subst h0;exact ⟨0,0,⟨by omega,fun h=>absurd h (by omega),fun k hk=>absurd hk (by omega),fun h=>absurd h (by omega)⟩⟩
 ·cases a with
  | none=>exact absurd (ha rfl) h0
  | some x=>
   obtain ⟨b,off,d⟩:=x;have h1:=hcell _ rfl;have c:d=none:=by simpa [Addr.add] using World.cell?_spot (h1 0 (by omega))
   subst c
   have h2:∀ k,k < len->W.cell? ⟨b,off+k,Aa⟩=Ab (.int .u8 (zs.getD k 0)):=fun k hk=>by
    have hp:(⟨b,off,Aa⟩:Addr).add k=⟨b,off+k,Aa⟩:=by unfold Addr.add;split <;> simp_all
    rw [<- hp];exact h1 k (by omega)
   refine ⟨b,off,⟨hle,fun _=>rfl,fun k hk=>⟨zs.getD k 0,?_,?_,h2 k hk⟩,fun _=>World.block_lt_of_cell? W _ (h2 0 (by omega))⟩⟩
   all_goals
    have f:k < zs.length:=by omega
    have hm:zs.getD k 0∈zs:=by
     have e:zs.getD k 0=zs[k]:=by simp [List.getD,Aj f]
     rw [e];exact Ag f
    have:=bounds_u8 (hwz _ hm);omega
theorem code_open {H:Type} {enc:TypeId × Value->H} {W:World} {a:Option Addr} {len cap:Nat} {d:DataW H} {p:List MemPlace} (hlen:¬ (1048576:Int) < len) (h:DataW.Trod enc prog W 0 (fun _=>true) true 22 (.slice a len cap) d p):∃ b off,Code W a len b off:=by
 obtain ⟨j,hf⟩:=h
 rcases open_ints underlying22 underlying5 (by kernel_rfl) hf with ⟨e,_⟩ | ⟨x,l,c,zs,e,_,hl,hm,hz,_,f,g⟩
 ·simp [Value.cells] at e;obtain ⟨rfl,rfl,rfl⟩:=e;exact code_of (zs:=[]) (cap:=0) (by omega) (Ae _) (fun _=>rfl) (fun x h=>by cases h) (fun n h=>by cases h) (nl _)
 ·simp [Value.cells] at e;obtain ⟨rfl,rfl,rfl⟩:=e;exact code_of (zs:=zs) (by omega) (by have:zs.length=cap:=(by simpa using hz);omega) (fun h=>by cases h) (fun y h i hi=>by cases h;exact f i hi) g hl
end Go.Proofs.YtfnneillakdopacGreatR
