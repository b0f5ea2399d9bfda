/-
  Texts of ours that later ones lean on, in one: J0, LetOpen, LetsL, IntOpen, UndoN, UndoF, UndoOpen, PeerX, CellL, PeerL, PeerM, PeerB, PeerD, PeersX, PeersL, FrS, KeyI, CellS, CmdI, CmdF, BlkX, AppR, TreeX, EqX, BlockS, BlockS2, CmdsL, BlkMk, TreeM, BlkW, ClusX, ClusL, ClusC, AppA, RegH, TakeX.
-/
import Derived.Test.YtfnneillakdopacGreatRRows
import Derived.WalkKit
import Derived.Laws.BytesArg
import Derived.Laws.OwnMore
import Derived.Laws.Strings
import Derived.BigQuiet
import Derived.WalkSmall
import Derived.OrdersHeld
import Derived.Deep.RegionHeld
import Derived.Laws.Tables
import Derived.Laws.CopyRow
import Derived.Laws.Rows
import Derived.ProofKit
import Derived.OpenShut
import Derived.ChangeOld
import Derived.Deep.SlicePairs
import Derived.Deep.Strs
import Derived.Lib.SmallJoins
import Derived.Deep.MidRow
import Derived.Laws.Cover1
import Derived.Laws.AppendOwn
import Derived.OwnWalk
import Derived.Laws.StructEq
import Derived.Deep.AppendLies
set_option maxRecDepth 100000
set_option maxHeartbeats 32000000
namespace Go.Proofs.YtfnneillakdopacGreatR
open Go.RowKit
theorem gl {α : Type} {a : Array α} {i : Nat} {b : α} (h : a[i]? = some b) : i < a.size := (Array.getElem?_eq_some_iff.1 h).1
theorem nl (n : Nat) : n ≤ n := Nat.le_refl n
theorem br (n : Nat) (w : World) : Below n w w := Below.refl n w
theorem qsn {a b : Nat} (h : a ≠ b) : some a ≠ some b := fun e => h (Option.some.inj e)
theorem qkk {g n : Nat} (h : n ≤ g) : ∀ k, some g = some k → n ≤ k := fun k hk => by cases hk; exact h
theorem qad2 {A B : Prop} (a : A) (b : B) : A ∧ B := ⟨a, b⟩
theorem qad3 {A B C : Prop} (a : A) (b : B) (c : C) : A ∧ B ∧ C := ⟨a, b, c⟩
theorem qad4 {A B C D : Prop} (a : A) (b : B) (c : C) (d : D) : A ∧ B ∧ C ∧ D := ⟨a, b, c, d⟩
theorem qad5 {A B C D E : Prop} (a : A) (b : B) (c : C) (d : D) (e : E) : A ∧ B ∧ C ∧ D ∧ E := ⟨a, b, c, d, e⟩
theorem qad6 {A B C D E F : Prop} (a : A) (b : B) (c : C) (d : D) (e : E) (f : F) : A ∧ B ∧ C ∧ D ∧ E ∧ F := ⟨a, b, c, d, e, f⟩
abbrev Be (w x : World) : Prop := Below w.heap.size w x
abbrev Bx (w : World) (N : Nat) (A : Array Value) (T : TypeId) : Prop := w.heap[N]? = some (.cells A T (0, 0))
theorem pz : (∀ (a : Act) (d : Tmp) (v : Value), a.put (some d) v = { a with tmps := a.tmps.setIfInBounds d v }) ∧ (∀ (l : List Value) (i : Nat) (v : Value), l.toArray.setIfInBounds i v = (l.set i v).toArray) ∧ (∀ (l : List Value) (x v : Value), (x :: l).set 0 v = v :: l) ∧ (∀ (l : List Value) (x v : Value) (i : Nat), (x :: l).set (i + 1) v = x :: l.set i v) :=
  ⟨fun _ _ _ => rfl, fun _ _ _ => List.setIfInBounds_toArray .., fun _ _ _ => rfl, fun _ _ _ _ => rfl⟩
theorem nw {α : Sort _} (a : α) : ∃ x, x = a := ⟨a, rfl⟩
theorem bw (w : World) : Be w w.drew := (br _ _).drew
theorem gk {x y : World} {B : Option Nat} {g : Nat} {o : Obj} (k : x.grownBy y B) (h : x.heap[g]? = some o) (p : some g ≠ B) : y.heap[g]? = some o := (k.block g (gl h) p).trans h
theorem bk {x y : World} {g : Nat} {o : Obj} (k : Be x y) (h : x.heap[g]? = some o) : y.heap[g]? = some o := (k.block g (gl h)).trans h
end Go.Proofs.YtfnneillakdopacGreatR
namespace Go.Proofs.YtfnneillakdopacGreatR
open _root_.Go.Proofs.Tryz
open Go.RowKit
variable {a:Act} {L listed:Array Bool} {ops:Array Oper} {A args old:Array Value} {k key:ByteArray} {fn:FuncId} {by' sc:Int} {rest:List Oper} {xc xe xn xr xs xs1 xs2 xu xv ys:List Value} {N b1 b2 cap f g hi hi' i id j lo lo' m m1 m2 n n1 n2:Nat} {obj:Obj} {o oc oi oj os:Oper} {x y:Operand} {r:Option Nat} {d e':Option Tmp} {P:Program} {cv v v1 v2:Value} {w w' w1 w2:World}
theorem info5:(prog.info? 5).map (fun i=>(i.zero,i.size,i.bytes))=some (some (.int .u8 0),1,1):=by kernel_rfl
theorem strOfNums_row {base:Nat} {xs:List Int} (h:w.ownsRow base 5 1 v n (xs.map (Value.int .u8))) :
  (convert 22 9 v).run prog w=.ok (.string (strOfNums xs)) w:=by
 obtain ⟨hl,⟨rfl,rfl⟩ | ⟨g,cap,b,rfl,hb,hh,hn,hc,hs,ht⟩⟩:=h
 ·simp at hl;subst hl;exact run_convert_bytes_nil w 22 5 underlying22 underlying5 0 0 9 underlying9
 ·have a:xs.length=n:=by simpa using hl
  refine run_convert_bytes_arg w 22 5 underlying22 underlying5 g 0 n cap xs a ?_ 9 underlying9;intro i hi
  have h2:(xs.map (Value.int .u8))[i]?=some (.int .u8 (xs.getD i 0)):=by
   simp [List.getD,List.getElem?_eq_getElem (show i < xs.length by omega)]
  rw [<- ht] at h2;rw [List.getElem?_take] at h2;simp only [Nat.mul_one] at h2;rw [if_pos hi] at h2;simp only [World.cell?,hh,Nat.zero_add]
  simpa using h2
theorem news1 (wr:World) (x:Value) (t:TypeId):∀ j u,([x]:List Value)[j]?=some u->(wr.alloc (.cells #[x] t)).cell? ((⟨wr.heap.size,0,none⟩:Addr).add j)=some u:=by
 intro j u hj
 match j,hj with
 | 0,hj=>simp at hj;subst hj;simp [Addr.add]
theorem ones1 (k:IntKind) (x:Int):∀ u∈([.int k x]:List Value),u.oneCell'=true:=by
 intro u hu;simp at hu;subst hu;rfl
theorem push_step {wr:World} {v':Value} {xs:List Int} {x:Int} {o:Obj} (hbel:Below w.heap.size w wr) (hown:wr.ownsRow w.heap.size 5 1 v xs.length (xs.map (Value.int .u8)))
  (hown':w1.ownsRow w.heap.size 5 1 v' (xs.length+1) (xs.map (Value.int .u8) ++ [.int .u8 x])) (hg:(wr.alloc o).grownBy w1 v.ownBlock) :
  w1.ownsRow w.heap.size 5 1 v' (xs ++ [x]).length ((xs ++ [x]).map (Value.int .u8))/\Below w.heap.size w w1:=by
 refine ⟨by simpa using hown',(hbel.alloc hbel.size o).grown hg (by have:=hbel.size;simp;omega) fun k hk=>(hown.lt k hk).1⟩
theorem ret_str {a b:List Int} (h:a=b):Ending.returned (.string (strOfNums a))=.returned (.string (strOfNums b)):=by rw [h]
theorem jD {k:IntKind} {a b:Int} (h:a=b):Ending.returned (.int k a)=.returned (.int k b):=by rw [h]
theorem zL {a b:Bool} (h:a=b):Ending.returned (.bool a)=.returned (.bool b):=by rw [h]
theorem qR (h:Below w.heap.size w w'):w.grownBy w' none:=⟨h.os,h.tape,h.output,h.size,fun k hk _=>h.block k hk⟩
theorem zP {a b c:World} (h:a.grownBy b r) (k:b.grownBy c r):a.grownBy c r:=
 ⟨k.os.trans h.os,k.tape.trans h.tape,k.output.trans h.output,Nat.le_trans h.size k.size,fun i hi hr=>(k.block i (Nat.lt_of_lt_of_le hi h.size) hr).trans (h.block i hi hr)⟩
theorem zGA {a b:World} (h:a.grownBy b none):a.grownBy b r:=⟨h.os,h.tape,h.output,h.size,fun i hi _=>h.block i hi (by simp)⟩
theorem zS {base:Nat} {e:TypeId} (h:w.ownsRow base e m v n xs) (hb:Below w.heap.size w w'):w'.ownsRow base e m v n xs:=
 World.ownsRow.kept h (qR hb) (by cases v.ownBlock <;> simp)
theorem b_cr {fn:Func} {R:Ending->World->Prop} {p:Tmp} {ty t:TypeId} {cs:Array Value} {d:TypeDesc} (V:Value) (h:fn.results=#[.cell p ty]) (hg:w.heap[g]?=some (.cells cs t (0,0))) (hu:P.underlying ty=some d) (hR:R (.returned V) w)
  (hV:Value.agg cs=V:=by exact rfl) (hp:a.tmps.getD p undef=.pointer (some ⟨g,0,none⟩):=by exact rfl) (hd:(match d with | .struct _ | .array _ _=>true | _=>false)=true:=by exact rfl) (hi:(P.info? ty).map (·.size)=some cs.size:=by kernel_rfl) (hf:a.defers=[]:=by exact rfl):bodyPost P fn R .ret a w:=by
 subst hV;exact bodyPost_ret (results_cell_row h _ w g t cs (0,0) d hp hg hu hd hi) hf hR
theorem zN {base base':Nat} {e:TypeId} (h:w.ownsRow base e m v n xs) (hb:base'<=base):w.ownsRow base' e m v n xs:=by
 obtain ⟨hl,h0 | ⟨g,cap,a,rfl,hg,r⟩⟩:=h
 ·exact ⟨hl,Or.inl h0⟩
 ·exact ⟨hl,Or.inr ⟨g,cap,a,rfl,Nat.le_trans hb hg,r⟩⟩
theorem yH (w:World) (e:TypeId) (m:Nat):(w.alloc (.cells #[] e)).ownsRow w.heap.size e m (.slice (some ⟨w.heap.size,0,none⟩) 0 0) 0 []:=by
 refine ⟨by simp,Or.inr ⟨w.heap.size,0,#[],rfl,nl _,?_,by simp,by simp,by simp,by simp⟩⟩;show (w.heap.push (Obj.cells #[] e))[w.heap.size]?=_;simp
theorem yAD (h:w.grownBy w' r) (hg:g < w.heap.size) (hr:¬ r=some g):w'.cell? ⟨g,i,none⟩=w.cell? ⟨g,i,none⟩:=by
 simp only [World.cell?,h.block g hg fun e=>hr e.symm]
theorem yK (w:World) (B o:Nat) (v:Value):w.grownBy (w.setCell ⟨B,o,none⟩ v) (some B):=
 ⟨rfl,rfl,rfl,by simp,fun k _ hk=>heap_setCell_other w ⟨B,o,none⟩ k v (fun e=>hk (by simp [e]))⟩
end Go.Proofs.YtfnneillakdopacGreatR
namespace Go.Proofs.YtfnneillakdopacGreatR.Num
variable {a:Act} {L listed:Array Bool} {ops:Array Oper} {A args old:Array Value} {k key:ByteArray} {fn:FuncId} {by' sc:Int} {rest:List Oper} {xc xe xn xr xs xs1 xs2 xu xv ys:List Value} {N b1 b2 cap f g hi hi' i id j lo lo' m m1 m2 n n1 n2:Nat} {obj:Obj} {o oc oi oj os:Oper} {x y:Operand} {r:Option Nat} {d e':Option Tmp} {P:Program} {cv v v1 v2:Value} {w w' w1 w2:World}
def vb:Nat->Int->List Int
 | 0,n=>[n]
 | f+1,n=>if 127 < n then (n % 128+128) :: vb f (n / 128) else [n]
def vbs (n:Int):List Int:=vb n.toNat n
theorem zAJ (f:Nat) (n:Int) (h:n<=127):vb f n=[n]:=by
 cases f with
 | zero=>rfl
 | succ f=>unfold vb;rw [if_neg (by omega)]
theorem vb_big (f:Nat) (n:Int) (h:127 < n) (hf:n.toNat<=f):∃ g,vb f n=(n % 128+128) :: vb g (n / 128)/\(n / 128).toNat<=g:=by
 cases f with
 | zero=>omega
 | succ f=>
  refine ⟨f,?_,by omega⟩;show (if 127 < n then (n % 128+128) :: vb f (n / 128) else [n])=_;rw [if_pos h]
def rv (a:Nat):Nat->List Int->Int->Int->Nat->Int × Int × Bool
 | 0,_,_,_,_=>(0,0,false)
 | _+1,[],_,_,_=>(0,0,false)
 | f+1,b :: l,n,sc,i=>
  if 127 < b then rv a f l (n+b % 128 * sc) (sc * 128) (i+1)
  else if 1000000000 < n+b % 128 * sc∨(b=0/\a < i) then (0,0,false) else (n+b % 128 * sc,(i:Int)+1,true)
def bs (s:ByteArray):List Int:=s.data.toList.map fun c=>(c.toNat:Int)
theorem zDC (s:ByteArray):(bs s).length=s.size:=by simp only [bs,List.length_map,Array.length_toList];rfl
theorem bs_drop (s:ByteArray) (j:Nat) (h:j < s.size):(bs s).drop j=(s[j].toNat:Int) :: (bs s).drop (j+1):=by
 rw [List.drop_eq_getElem_cons (by rw [zDC];exact h)]
 congr 1
 simp [bs]
 rfl
theorem byte_le (c:UInt8):(0:Int)<=(c.toNat:Int)/\(c.toNat:Int)<=255:=by have:=c.toNat_lt;omega
def rvAt (s:ByteArray) (a:Nat) (n sc:Int) (j:Nat):Int × Int × Bool:=rv a (a+5 - j) ((bs s).drop j) n sc j
theorem rvAt_stop (s:ByteArray) (a:Nat) (n sc:Int) (j:Nat) (h:s.size<=j∨a+5<=j):rvAt s a n sc j=(0,0,false):=by
 unfold rvAt
 rcases h with h | h
 ·rw [List.drop_eq_nil_of_le (by rw [zDC];exact h)]
  cases a+5 - j <;> rfl
 ·rw [show a+5 - j=0 by omega];rfl
theorem rvAt_go (s:ByteArray) (a:Nat) (n sc:Int) (j:Nat) (h:j < s.size) (h5:j < a+5) (hb:127 < (s[j].toNat:Int)) :
  rvAt s a n sc j=rvAt s a (n+(s[j].toNat:Int) % 128 * sc) (sc * 128) (j+1):=by
 unfold rvAt;rw [bs_drop s j h,show a+5 - j=(a+5 - (j+1))+1 by omega,rv,if_pos hb]
theorem rvAt_no (s:ByteArray) (a:Nat) (n sc:Int) (j:Nat) (h:j < s.size) (h5:j < a+5) (hb:(s[j].toNat:Int)<=127)
  (hx:1000000000 < n+(s[j].toNat:Int) % 128 * sc∨((s[j].toNat:Int)=0/\a < j)):rvAt s a n sc j=(0,0,false):=by
 unfold rvAt;rw [bs_drop s j h,show a+5 - j=(a+5 - (j+1))+1 by omega,rv,if_neg (by omega),if_pos hx]
theorem rvAt_yes (s:ByteArray) (a:Nat) (n sc:Int) (j:Nat) (h:j < s.size) (h5:j < a+5) (hb:(s[j].toNat:Int)<=127)
  (hx:¬ (1000000000 < n+(s[j].toNat:Int) % 128 * sc∨((s[j].toNat:Int)=0/\a < j))):rvAt s a n sc j=(n+(s[j].toNat:Int) % 128 * sc,(j:Int)+1,true):=by
 unfold rvAt;rw [bs_drop s j h,show a+5 - j=(a+5 - (j+1))+1 by omega,rv,if_neg (by omega),if_neg hx]
def scOk (sc:Int) (k:Nat):Prop:=sc=128 ^ k
theorem sc_bd {k:Nat} (h:scOk sc k) (hk:k < 5):1<=sc/\sc<=268435456:=by
 unfold scOk at h;subst h;have:k=0∨k=1∨k=2∨k=3∨k=4:=by omega
 rcases this with rfl | rfl | rfl | rfl | rfl <;> decide
theorem sc_next {k:Nat} (h:scOk sc k):scOk (sc * 128) (k+1):=by unfold scOk at *;rw [h,Int.pow_succ]
theorem mul_bd {b:Int} (h1:1<=sc) (h2:sc<=268435456):0<=b % 128 * sc/\b % 128 * sc<=34091302912/\b % 128 * sc+sc<=sc * 128:=by
 have a:0<=b % 128:=by omega
 have c:b % 128<=127:=by omega
 have p0:0<=b % 128 * sc:=Int.mul_nonneg a (by omega);have p1:b % 128 * sc<=127 * sc:=Int.mul_le_mul_of_nonneg_right c (by omega);omega
def num:List Int->Int
 | []=>0
 | b :: l=>b % 128+128 * num l
theorem num_snoc (l:List Int) (b:Int):num (l ++ [b])=num l+b % 128 * 128 ^ l.length:=by
 induction l with
 | nil=>simp [num]
 | cons x l ih=>
  simp only [List.cons_append,num,ih,List.length_cons,Int.pow_succ]
  have e:b % 128 * (128 ^ l.length * 128)=128 * (b % 128 * 128 ^ l.length):=by
   rw [<- Int.mul_assoc,Int.mul_comm]
  rw [e];omega
theorem num_nonneg (l:List Int):0<=num l:=by
 induction l with
 | nil=>simp [num]
 | cons x l ih=>simp only [num];omega
theorem num_pos (l:List Int) (b:Int) (h0:0 < b) (h1:b<=127):1<=num (l ++ [b]):=by
 induction l with
 | nil=>simp [num];omega
 | cons x l ih=>simp only [List.cons_append,num];omega
theorem canon (l:List Int) (b:Int) (hb0:0<=b) (hb1:b<=127):(∀ x∈l,128<=x/\x<=255)->(l=[]∨b ≠ 0)->
  ∀ f,(num (l ++ [b])).toNat<=f->vb f (num (l ++ [b]))=l ++ [b]:=by
 induction l with
 | nil=>
  intro _ _ f _;have e:num ([] ++ [b])=b:=by simp [num];omega
  rw [e,zAJ f b hb1];rfl
 | cons x l ih=>
  intro a i f hf;have d:b ≠ 0:=by rcases i with h | h;simp at h;exact h
  have hx:=a x (by simp);have hp:=num_pos l b (by omega) hb1;have e:num (x :: l ++ [b])=x % 128+128 * num (l ++ [b]):=rfl;rw [e] at hf ⊢;obtain ⟨g,hg,c⟩:=vb_big f (x % 128+128 * num (l ++ [b])) (by omega) hf;rw [hg];have e1:(x % 128+128 * num (l ++ [b])) % 128+128=x:=by omega
  have e2:(x % 128+128 * num (l ++ [b])) / 128=num (l ++ [b]):=by omega
  rw [e2] at c;rw [e1,e2,ih (fun y hy=>a y (by simp [hy])) (.inr d) g c]
  rfl
theorem vb_last:∀ (f:Nat) (n:Int),128<=n->n.toNat<=f->∃ ys y,vb f n=ys ++ [y]/\1<=y
 | 0,n,h,hf=>by omega
 | f+1,n,h,hf=>by
  have e:vb (f+1) n=(n % 128+128) :: vb f (n / 128):=by
   show (if 127 < n then (n % 128+128) :: vb f (n / 128) else [n])=_;rw [if_pos (by omega)]
  by_cases h2:128<=n / 128
  ·obtain ⟨ys,y,hy,h1⟩:=vb_last f (n / 128) h2 (by omega);exact ⟨(n % 128+128) :: ys,y,by rw [e,hy];rfl,h1⟩
  ·exact ⟨[n % 128+128],n / 128,by rw [e,zAJ f _ (by omega)];rfl,by omega⟩
theorem not_canon (l:List Int) (n:Int) (hl:l ≠ []) (f:Nat) (hf:n.toNat<=f):vb f n ≠ l ++ [0]:=by
 intro h
 by_cases hn:128<=n
 ·obtain ⟨ys,y,hy,h1⟩:=vb_last f n hn hf;rw [hy] at h;have:=(List.append_inj' h rfl).2;simp at this;omega
 ·rw [zAJ f n (by omega)] at h;have:=congrArg List.length h;simp at this;exact hl this
theorem vb_range:∀ (f:Nat) (n:Int),0<=n->n.toNat<=f->∀ x∈vb f n,0<=x/\x<=255
 | 0,n,h,hf=>by
  intro x hx;simp [vb] at hx;omega
 | f+1,n,h,hf=>by
  intro x hx
  by_cases h2:127 < n
  ·have e:vb (f+1) n=(n % 128+128) :: vb f (n / 128):=by
    show (if 127 < n then (n % 128+128) :: vb f (n / 128) else [n])=_;rw [if_pos h2]
   rw [e] at hx
   rcases List.mem_cons.1 hx with h3 | h3
   ·omega
   ·exact vb_range f (n / 128) (by omega) (by omega) x h3
  ·rw [zAJ _ n (by omega)] at hx;simp at hx;omega
theorem str_bs (s:ByteArray):strOfNums (bs s)=s:=by
 apply ByteArray.ext
 apply Array.ext'
 show ((bs s).map fun n=>UInt8.ofNat n.toNat)=s.data.toList;simp only [bs,List.map_map];rw [List.map_congr_left (g:=id)]
 ·simp
 ·intro c _;simp
theorem bs_str (xs:List Int) (h:∀ x∈xs,0<=x/\x<=255):bs (strOfNums xs)=xs:=by
 show ((xs.map fun n=>UInt8.ofNat n.toNat).map fun c=>(c.toNat:Int))=xs;rw [List.map_map]
 conv=>rhs;rw [<- List.map_id xs]
 apply List.map_congr_left
 intro x hx;have:=h x hx;show ((UInt8.ofNat x.toNat).toNat:Int)=x;rw [UInt8.toNat_ofNat_of_lt' (by show x.toNat < 256;omega)];omega
theorem bs_extract (s:ByteArray) (a e:Nat):bs (s.extract a e)=((bs s).take e).drop a:=by
 simp only [bs,ByteArray.data_extract,Array.toList_extract,List.map_drop,List.map_take,List.extract_eq_take_drop];rw [List.drop_take]
theorem seg_snoc (s:ByteArray) (a j:Nat) (haj:a<=j) (hj:j < s.size):((bs s).take (j+1)).drop a=((bs s).take j).drop a ++ [(s[j].toNat:Int)]:=by
 have h1:(bs s).take (j+1)=(bs s).take j ++ [(s[j].toNat:Int)]:=by
  rw [List.take_succ_eq_append_getElem (by rw [zDC];exact hj)]
  congr 2
  simp [bs];rfl
 rw [h1,List.drop_append_of_le_length (by simp [zDC];omega)]
theorem take_snoc (s:ByteArray) (k:Nat) (h:k < s.size):(bs s).take (k+1)=(bs s).take k ++ [(s[k].toNat:Int)]:=by
 have:=seg_snoc s 0 k (Nat.zero_le _) h
 simpa using this
def segOk (s:ByteArray) (a j:Nat) (N:Int):Prop:=N=num (((bs s).take j).drop a)/\∀ x∈((bs s).take j).drop a,128<=x/\x<=255
theorem segOk_start (s:ByteArray) (a:Nat):segOk s a a 0:=by
 have e:((bs s).take a).drop a=[]:=List.drop_eq_nil_of_le (by simp;omega);unfold segOk;rw [e];simp [num]
theorem segOk_next {s:ByteArray} {a:Nat} {N SC:Int} (h:segOk s a j N) (haj:a<=j) (hj:j < s.size) (hsc:scOk SC (j - a)) (hb:127 < (s[j].toNat:Int)) :
  segOk s a (j+1) (N+(s[j].toNat:Int) % 128 * SC):=by
 have b:(((bs s).take j).drop a).length=j - a:=by simp [zDC];omega
 unfold segOk at *;rw [seg_snoc s a j haj hj];refine ⟨?_,?_⟩
 ·rw [num_snoc,b,<- h.1];unfold scOk at hsc;rw [hsc]
 ·intro x hx
  rcases List.mem_append.1 hx with h1 | h1
  ·exact h.2 x h1
  ·have:=byte_le s[j];simp at h1;omega
theorem same_bytes (s:ByteArray) (a j:Nat) (N SC:Int) (haj:a<=j) (hj:j < s.size) (hsc:scOk SC (j - a)) (hN:N=num (((bs s).take j).drop a)) (hall:∀ x∈((bs s).take j).drop a,128<=x/\x<=255)
  (hb:(s[j].toNat:Int)<=127) :
  ((strOfNums (vbs (N+(s[j].toNat:Int) % 128 * SC))).toList == (s.extract a (j+1)).toList)=!decide ((s[j].toNat:Int)=0/\a < j):=by
 have c:(((bs s).take j).drop a).length=j - a:=by simp [zDC];omega
 have d:bs (s.extract a (j+1))=((bs s).take j).drop a ++ [(s[j].toNat:Int)]:=by
  rw [bs_extract,seg_snoc s a j haj hj]
 have f:N+(s[j].toNat:Int) % 128 * SC=num (((bs s).take j).drop a ++ [(s[j].toNat:Int)]):=by
  rw [num_snoc,c,<- hN];unfold scOk at hsc;rw [hsc]
 rw [f]
 generalize hl:((bs s).take j).drop a=l at *
 generalize hbb:(s[j].toNat:Int)=b at *
 have g:0<=b:=by omega
 have i:=num_nonneg (l ++ [b]);rw [Bool.eq_iff_iff];simp only [beq_iff_eq,Bool.not_eq_true',decide_eq_false_iff_not]
 constructor
 ·intro h hx;obtain ⟨h0,h1⟩:=hx
  have h2:strOfNums (vbs (num (l ++ [b])))=s.extract a (j+1):=by
   apply ByteArray.ext;apply Array.ext'
   rw [<- ByteArray.toList_eq,<- ByteArray.toList_eq];exact h
  have h3:=congrArg bs h2;rw [bs_str (vbs (num (l ++ [b]))) (vb_range _ _ i (nl _)),d] at h3;subst h0;exact not_canon l _ (by intro e;rw [e] at c;simp at c;omega) _ (nl _) h3
 ·intro hx
  have h2:vbs (num (l ++ [b]))=l ++ [b]:=canon l b g hb hall (by
   by_cases e:b=0
   ·left
    have:¬ a < j:=fun h=>hx ⟨e,h⟩
    exact List.eq_nil_of_length_eq_zero (by omega)
   ·exact .inr e) _ (nl _)
  rw [h2,<- d,str_bs]
end Go.Proofs.YtfnneillakdopacGreatR.Num
namespace Go.Proofs.YtfnneillakdopacGreatR
open _root_.Go.Proofs.Tryz
open Go.Value renaming int->I
open Go.IntKind renaming i64->U
open Option renaming none->Aa,some->Ab
open Option.some renaming inj->Ac
open List renaming getElem_mem->Ad,length_append->Ae,getElem?_eq_getElem->Af,length_take->Ai,length_cons->Ak,drop_eq_getElem_cons->Al
open Or renaming inl->Ag,inr->Ah
open Bool renaming and_eq_true->Aj
open Go.RowKit
variable {a:Act} {L listed:Array Bool} {ops:Array Oper} {A args old:Array Value} {k key:ByteArray} {fn:FuncId} {by' sc:Int} {rest:List Oper} {xc xe xn xr xs xs1 xs2 xu xv ys:List Value} {N b1 b2 cap f g hi hi' i id j lo lo' m m1 m2 n n1 n2:Nat} {obj:Obj} {o oc oi oj os:Oper} {x y:Operand} {r:Option Nat} {d e':Option Tmp} {P:Program} {cv v v1 v2:Value} {w w' w1 w2:World}
structure Bw (w:World) where
 to:World
 below:Below w.heap.size w to
theorem yX (w:World):Nonempty (Bw w):=⟨⟨w,br _ _⟩⟩
theorem zG {Q:Exit->Act->World->Prop} {l:List Oper} (hm:P.follows .mixedOrders=true) (hB:Region.lexB .any l.toArray=true)
  (h:wpQuiet P l.toArray (fun w'=>∃ x:Bw w,w'=x.to) (fun a'=>∀ w',(∃ x:Bw w,w'=x.to)->Q .normal a' w') l a):(Code.region id l.toArray true).wp P Q a w:=
 wp_region_quiet (C:=fun w'=>∃ x:Bw w,w'=x.to) hm hB ⟨⟨w.drew,(br _ _).drew⟩,rfl⟩ (by simpa using h)
theorem rb {P: Program} {id: Nat} {Q: Exit -> Act -> World -> Prop} {a: Act} {w: World} {l: List Oper} (h: wpQuiet P l.toArray (fun w' => ∃ x: Bw w, w' = x.to) (fun a' => ∀ w', (∃ x: Bw w, w' = x.to) -> Q .normal a' w') l a) (hm: P.follows .mixedOrders = true:= by kernel_rfl) (hB: Region.lexB .any l.toArray = true:= by kernel_rfl) : (Code.region id l.toArray true).wp P Q a w := zG hm hB h
theorem qnn {P: Program} {o: Array Oper} {S: World -> Prop} {a: Act} {w: World} {K: Act -> World -> Prop} (h: ∀ x: Bw w, K a x.to) : wpQuiet P o S (fun a' => ∀ w', (∃ x : Bw w, w' = x.to) -> K a' w') [] a := wpQuiet_nil fun w' ⟨x, e⟩ => by subst e; exact h x
theorem xX {f:FuncId} {x:Bw w} 
  (h:Calls P f args x.to fun e w'=>e=.returned v/\Below x.to.heap.size x.to w'):Calls P f args x.to fun e w''=>e=.returned v/\∃ y:Bw w,w''=y.to:=
 h.mono fun _ w' ⟨he,hb⟩=>⟨he,⟨w',x.below.trans (hb.mono x.below.size)⟩,rfl⟩
theorem zI {f:FuncId} {x:Bw w} 
  (h:Calls P f args x.to fun e w'=>e=.returned v/\w'=x.to):Calls P f args x.to fun e w''=>e=.returned v/\∃ y:Bw w,w''=y.to:=
 h.mono fun _ _ ⟨he,hb⟩=>⟨he,x,hb⟩
open Num
theorem ba {a b:World} (h:Below a.heap.size a b) (o:Obj):Below a.heap.size a (b.alloc o):=h.alloc h.size o
theorem bt {a b c:World} (h1:Below a.heap.size a b) (h2:Below b.heap.size b c):Below a.heap.size a c:=h1.trans (h2.mono h1.size)
abbrev CL:=List (ByteArray × Int)
def qQ (w:World) (v:Value) (cs:CL):Prop:=
 ∃ a cap,v=.slice a cs.length cap/\(0 < cs.length->∃ g off,a=Ab ⟨g,off,Aa⟩/\g < w.heap.size/\
  ∀ i (h:i < cs.length),w.cell? ⟨g,off+i * 2,Aa⟩=Ab (.string cs[i].1)/\w.cell? ⟨g,off+i * 2+1,Aa⟩=Ab (I U cs[i].2))
theorem qQ.below {cs:CL} (h:qQ w v cs) (hb:Below w.heap.size w w'):qQ w' v cs:=by
 obtain ⟨a,cap,rfl,hr⟩:=h;refine ⟨a,cap,rfl,fun hl=>?_⟩;obtain ⟨g,b,rfl,hg,hc⟩:=hr hl;refine ⟨g,b,rfl,Nat.lt_of_lt_of_le hg hb.size,fun i hi=>?_⟩;rw [hb.cell (by exact hg),hb.cell (by exact hg)];exact hc i hi
def cellV (c:ByteArray × Int):Value:=.agg #[.string c.1,I U c.2]
def kM (cs:CL):List Value:=cs.flatMap fun c=>[.string c.1,I U c.2]
theorem flat_len (cs:CL):(kM cs).length=cs.length * 2:=by
 induction cs with
 | nil=>rfl
 | cons c cs ih=>simp only [kM,List.flatMap_cons,Ae] at ih ⊢;simp [ih];omega
theorem flat_cons (c:ByteArray × Int) (cs:CL):kM (c :: cs)=.string c.1 :: I U c.2 :: kM cs:=rfl
theorem flat_append (a b:CL):kM (a ++ b)=kM a ++ kM b:=by simp [kM]
theorem flat_at (cs:CL):∀ i (h:i < cs.length),(kM cs)[i * 2]?=Ab (.string cs[i].1)/\(kM cs)[i * 2+1]?=Ab (I U cs[i].2):=by
 induction cs with
 | nil=>intro i h;simp at h
 | cons c cs ih=>
  intro i h
  cases i with
  | zero=>simp [flat_cons]
  | succ i=>
   have:=ih i (by simpa using h);rw [flat_cons,show (i+1) * 2=i * 2+1+1 by omega]
   simpa using this
theorem qT {base:Nat} {e:TypeId} {cs:CL} (h:w.ownsRow base e 2 v cs.length (kM cs)):qQ w v cs:=by
 obtain ⟨hl,⟨rfl,h0⟩ | ⟨g,cap,a,rfl,hb,hh,hn,hc,hs,ht⟩⟩:=h
 ·exact ⟨none,0,by rw [h0],fun hp=>by omega⟩
 ·refine ⟨_,cap,rfl,fun _=>⟨g,0,rfl,?_,fun i hi=>?_⟩⟩
  ·rcases Nat.lt_or_ge g w.heap.size with h | h
   ·exact h
   ·rw [Array.getElem?_eq_none h] at hh;cases hh
  ·have hf:=flat_at cs i hi;rw [<- ht] at hf;rw [List.getElem?_take_of_lt (by omega),List.getElem?_take_of_lt (by omega)] at hf;rw [cell_of_row w g _ a _ _ hh,cell_of_row w g _ a _ _ hh]
   simpa using hf
def inB (x a b:Int):Bool:=decide (a<=x/\x<=b)
theorem kY {x a b:Int} (h:a<=x/\x<=b):inB x a b=true:=by simp [inB,h]
theorem zAB {x a b:Int} (h:¬ (a<=x/\x<=b)):inB x a b=false:=by simp only [inB,decide_eq_false_iff_not];exact h
theorem yS (x a b:Int) (w:World):Calls prog 57 #[I U x,I U a,I U b] w fun e w'=>e=.returned (.bool (inB x a b))/\w'=w:=by
 by_cases h1:a<=x
 ·by_cases h2:x<=b
  ·rw [kY ⟨h1,h2⟩];go_enter func57,ntmps57;go_wp2;go_ret;exact ⟨rfl,rfl⟩
  ·rw [zAB (by omega)];go_enter func57,ntmps57;go_wp2;go_ret;exact ⟨rfl,rfl⟩
 ·rw [zAB (by omega)];go_enter func57,ntmps57;go_wp2;go_ret;exact ⟨rfl,rfl⟩
def zIJ (k:ByteArray):Bool:=(bs k).all (fun x=>decide (97<=x) && decide (x<=122)) && inB k.size 1 3
def zEH (n:Int):Bool:=inB n 0 1000000000
def keyTo (k:ByteArray) (i:Nat):Prop:=∀ j (h:j < k.size),j < i->97<=(k[j].toNat:Int)/\(k[j].toNat:Int)<=122
theorem bs_at (k:ByteArray) (j:Nat) (h:j < k.size):(bs k)[j]'(by rw [zDC];exact h)=(k[j].toNat:Int):=by simp [bs];rfl
theorem keyB_all (h:keyTo k k.size):zIJ k=inB k.size 1 3:=by
 have:(bs k).all (fun x=>decide (97<=x) && decide (x<=122))=true:=by
  rw [List.all_eq_true];intro x hx;obtain ⟨j,hj,rfl⟩:=List.mem_iff_getElem.1 hx;rw [zDC] at hj;rw [bs_at k j hj];have:=h j hj hj;simp [this]
 unfold zIJ;rw [this];simp
theorem keyB_no (h:j < k.size) (hn:¬ (97<=(k[j].toNat:Int)/\(k[j].toNat:Int)<=122)):zIJ k=false:=by
 have:(bs k).all (fun x=>decide (97<=x) && decide (x<=122))=false:=by
  rw [List.all_eq_false];refine ⟨(bs k)[j]'(by rw [zDC];exact h),Ad _,?_⟩;rw [bs_at k j h]
  simpa using hn
 unfold zIJ;rw [this];rfl
def jF (key:ByteArray):CL->Nat->Int
 | [],_=>-1
 | c :: cs,k=>if c.1=key then (k:Int) else jF key cs (k+1)
def cellAt (cs:CL) (key:ByteArray):Int:=jF key cs 0
theorem cellAt_drop (cs:CL) (key:ByteArray) (k:Nat) (h:k < cs.length):jF key (cs.drop k) k=if cs[k].1=key then (k:Int) else jF key (cs.drop (k+1)) (k+1):=by
 rw [Al h];rfl
theorem ba_eq {a b:ByteArray} (h:a=b):(a.toList == b.toList)=true:=by rw [h];simp
theorem ba_ne {a b:ByteArray} (h:a ≠ b):(a.toList == b.toList)=false:=by
 rw [beq_eq_false_iff_ne];intro e
 apply h
 apply ByteArray.ext;apply Array.ext'
 rw [<- ByteArray.toList_eq,<- ByteArray.toList_eq];exact e
def okAt (cs:CL) (i:Nat):Bool:=match cs[i]? with
 | none=>true
 | some c=>zIJ c.1 && (zEH c.2 && match i with
  | 0=>true
  | j+1=>match cs[j]? with
   | none=>true
   | some b=>Op.bytesLess b.1.toList c.1.toList)
def kS (cs:CL):Bool:=(List.range cs.length).all (okAt cs) && decide (cs.length<=12)
theorem yFC {cs:CL} (h:0 < cs.length):okAt cs 0=(zIJ cs[0].1 && (zEH cs[0].2 && true)):=by
 unfold okAt;rw [Af h]
theorem zGD {cs:CL} (h:j+1 < cs.length):okAt cs (j+1)=(zIJ cs[j+1].1 && (zEH cs[j+1].2 && Op.bytesLess cs[j].1.toList cs[j+1].1.toList)):=by
 unfold okAt;rw [Af h];simp [Af (show j < cs.length by omega)]
theorem cellsB_no {cs:CL} (h:i < cs.length) (hn:okAt cs i=false):kS cs=false:=by
 have:(List.range cs.length).all (okAt cs)=false:=List.all_eq_false.2 ⟨i,List.mem_range.2 h,by rw [hn];simp⟩;unfold kS;rw [this];rfl
def okTo (cs:CL) (k:Nat):Prop:=∀ i,i < k->okAt cs i=true
theorem cellsB_all {cs:CL} (h:okTo cs cs.length):kS cs=decide (cs.length<=12):=by
 have:(List.range cs.length).all (okAt cs)=true:=List.all_eq_true.2 fun i hi=>h i (List.mem_range.1 hi)
 unfold kS;rw [this];simp
theorem okTo_next {cs:CL} {k:Nat} (h:okTo cs k) (hk:okAt cs k=true):okTo cs (k+1):=fun i hi=>by
 by_cases e:i=k
 ·rw [e];exact hk
 ·exact h i (by omega)
theorem less_eq:∀ (x y:List UInt8),Op.bytesLess x y=decide (x < y)
 | [],[]=>by simp [Op.bytesLess]
 | _ :: _,[]=>by simp [Op.bytesLess]
 | [],_ :: _=>by simp [Op.bytesLess]
 | a :: x,b :: y=>by
  rw [Op.bytesLess,less_eq x y];simp only [List.cons_lt_cons_iff]
  by_cases h1:a < b <;> by_cases h2:a=b <;> by_cases h3:x < y <;> simp [h1,h2,h3]
def kLt (a b:ByteArray):Bool:=Op.bytesLess a.toList b.toList
theorem kLt_iff {a b:ByteArray}:kLt a b=true↔a.data.toList < b.data.toList:=by
 unfold kLt;rw [less_eq,ByteArray.toList_eq,ByteArray.toList_eq];simp
theorem kLt_trans {a b c:ByteArray} (h:kLt a b=true) (h2:kLt b c=true):kLt a c=true:=kLt_iff.2 (List.lt_trans (kLt_iff.1 h) (kLt_iff.1 h2))
theorem kLt_irr (a:ByteArray):kLt a a=false:=by
 cases h:kLt a a with
 | false=>rfl
 | true=>exact absurd (kLt_iff.1 h) (List.lt_irrefl _)
theorem kLt_ne {a b:ByteArray} (h:kLt a b=true):a ≠ b:=fun e=>by rw [e,kLt_irr] at h;cases h
theorem kLt_asym {a b:ByteArray} (h:kLt a b=true):kLt b a=false:=by
 cases h2:kLt b a with
 | false=>rfl
 | true=>have:=kLt_trans h h2;rw [kLt_irr] at this;cases this
theorem kLt_tri {a b:ByteArray} (h:kLt a b=false) (h2:kLt b a=false):a=b:=by
 have e1:¬ a.data.toList < b.data.toList:=fun h'=>by rw [kLt_iff.2 h'] at h;cases h
 have e2:¬ b.data.toList < a.data.toList:=fun h'=>by rw [kLt_iff.2 h'] at h2;cases h2
 have e:=List.le_antisymm (List.not_lt.1 e2) (List.not_lt.1 e1)
 apply ByteArray.ext;apply Array.ext';exact e
def Asc (cs:CL):Prop:=cs.Pairwise fun a b=>kLt a.1 b.1=true
theorem asc_of_steps (cs:CL) (h:∀ j,(hj:j+1 < cs.length)->kLt cs[j].1 cs[j+1].1=true):Asc cs:=by
 induction cs with
 | nil=>exact List.Pairwise.nil
 | cons c cs ih=>
  have hA:Asc cs:=ih fun j hj=>by have:=h (j+1) (by simpa using hj);simpa using this
  refine List.Pairwise.cons (fun b hb=>?_) hA
  cases cs with
  | nil=>cases hb
  | cons d ds=>
   have h0:=h 0 (by simp);simp at h0
   rcases List.mem_cons.1 hb with rfl | hb
   ·exact h0
   ·exact kLt_trans h0 (List.rel_of_pairwise_cons hA hb)
theorem steps_of_asc {cs:CL} (h:Asc cs) (j:Nat) (hj:j+1 < cs.length):kLt cs[j].1 cs[j+1].1=true:=
 List.pairwise_iff_getElem.1 h j (j+1) (by omega) hj (by omega)
theorem zFG {cs:CL}:kS cs=true↔(∀ c∈cs,zIJ c.1=true/\zEH c.2=true)/\Asc cs/\cs.length<=12:=by
 constructor
 ·intro h;unfold kS at h;rw [Aj,List.all_eq_true,decide_eq_true_eq] at h;obtain ⟨h,hl⟩:=h;refine ⟨fun c hc=>?_,asc_of_steps cs fun j hj=>?_,hl⟩
  ·obtain ⟨i,hi,rfl⟩:=List.mem_iff_getElem.1 hc;have:=h i (List.mem_range.2 hi)
   cases i with
   | zero=>rw [yFC hi] at this;simp at this;exact this
   | succ j=>rw [zGD hi] at this;simp at this;exact ⟨this.1,this.2.1⟩
  ·have:=h (j+1) (List.mem_range.2 hj);rw [zGD hj] at this;simp at this;exact this.2.2
 ·rintro ⟨h,hA,hl⟩
  have hk:okTo cs cs.length:=fun i hi=>by
   have hc:=h cs[i] (Ad hi)
   cases i with
   | zero=>rw [yFC hi,hc.1,hc.2];rfl
   | succ j=>rw [zGD hi,hc.1,hc.2];exact steps_of_asc hA j hi
  rw [cellsB_all hk];simpa using hl
def zBB (cs:CL) (k:ByteArray):Bool:=cs.any fun c=>decide (c.1=k)
theorem yEI {cs:CL} :zBB cs k=true↔∃ c∈cs,c.1=k:=by simp [zBB]
theorem hasK_no {cs:CL} :zBB cs k=false↔∀ c∈cs,c.1 ≠ k:=by simp [zBB]
theorem cellAtFrom_no {cs:CL} (h:zBB cs k=false):∀ i,jF k cs i=-1:=by
 induction cs with
 | nil=>intro i;rfl
 | cons c cs ih=>
  intro i;have hc:=(hasK_no.1 h) c (by simp);unfold jF;rw [if_neg hc];exact ih (hasK_no.2 fun d hd=>hasK_no.1 h d (by simp [hd])) _
theorem cellAt_no {cs:CL} (h:zBB cs k=false):cellAt cs k=-1:=cellAtFrom_no h 0
theorem cellAtFrom_yes {cs:CL} (h:zBB cs k=true):∀ i,∃ j,∃ hj:j < cs.length,jF k cs i=((i+j:Nat):Int)/\cs[j].1=k:=by
 induction cs with
 | nil=>simp [zBB] at h
 | cons c cs ih=>
  intro i;unfold jF
  by_cases hc:c.1=k
  ·rw [if_pos hc];exact ⟨0,by simp,by simp,by simpa using hc⟩
  ·rw [if_neg hc]
   have h':zBB cs k=true:=by
    obtain ⟨d,hd,e⟩:=yEI.1 h
    rcases List.mem_cons.1 hd with rfl | hd
    ·exact absurd e hc
    ·exact yEI.2 ⟨d,hd,e⟩
   obtain ⟨j,hj,e,ek⟩:=ih h' (i+1);exact ⟨j+1,by simp;omega,by rw [e];congr 1;omega,by simpa using ek⟩
theorem cellAt_yes {cs:CL} (h:zBB cs k=true):∃ j,∃ hj:j < cs.length,cellAt cs k=(j:Int)/\cs[j].1=k:=by
 obtain ⟨j,hj,e,ek⟩:=cellAtFrom_yes h 0;exact ⟨j,hj,by unfold cellAt;rw [e];simp,ek⟩
def putC (cs:CL) (x:ByteArray × Int):CL:=cs.filter (fun c=>kLt c.1 x.1) ++ x :: cs.filter (fun c=>kLt x.1 c.1)
theorem mem_putC {cs:CL} {x c:ByteArray × Int}:c∈putC cs x↔c=x∨(c∈cs/\c.1 ≠ x.1):=by
 unfold putC;simp only [List.mem_append,List.mem_cons,List.mem_filter]
 constructor
 ·rintro (⟨h,l⟩ | rfl | ⟨h,l⟩)
  ·exact Ah ⟨h,kLt_ne l⟩
  ·exact Ag rfl
  ·exact Ah ⟨h,(kLt_ne l).symm⟩
 ·rintro (rfl | ⟨h,hn⟩)
  ·exact Ah (Ag rfl)
  ·cases hl:kLt c.1 x.1 with
   | true=>exact Ag ⟨h,rfl⟩
   | false=>
    refine Ah (Ah ⟨h,?_⟩)
    cases h2:kLt x.1 c.1 with
    | true=>rfl
    | false=>exact absurd (kLt_tri hl h2) hn
theorem asc_putC {cs:CL} {x:ByteArray × Int} (h:Asc cs):Asc (putC cs x):=by
 unfold Asc putC;rw [List.pairwise_append];refine ⟨List.Pairwise.filter _ h,List.Pairwise.cons (fun b hb=>(List.mem_filter.1 hb).2) (List.Pairwise.filter _ h),fun a ha b hb=>?_⟩;have h1:=(List.mem_filter.1 ha).2
 rcases List.mem_cons.1 hb with rfl | hb
 ·exact h1
 ·exact kLt_trans h1 (List.mem_filter.1 hb).2
theorem hasK_putC {cs:CL} {x:ByteArray × Int} :zBB (putC cs x) k=(decide (x.1=k) || zBB cs k):=by
 rw [Bool.eq_iff_iff,yEI,Bool.or_eq_true,yEI]
 constructor
 ·rintro ⟨c,hc,rfl⟩
  rcases mem_putC.1 hc with rfl | ⟨hc,_⟩
  ·exact Ag (by simp)
  ·exact Ah ⟨c,hc,rfl⟩
 ·rintro (h | ⟨c,hc,rfl⟩)
  ·exact ⟨x,mem_putC.2 (Ag rfl),by simpa using h⟩
  ·by_cases e:c.1=x.1
   ·exact ⟨x,mem_putC.2 (Ag rfl),e.symm⟩
   ·exact ⟨c,mem_putC.2 (Ah ⟨hc,e⟩),rfl⟩
theorem len_putC {cs:CL} {x:ByteArray × Int} (h:Asc cs):(putC cs x).length+(if zBB cs x.1 then 1 else 0)=cs.length+1:=by
 induction cs with
 | nil=>simp [putC,zBB]
 | cons c cs ih=>
  have hA:Asc cs:=List.Pairwise.of_cons h;have hc:∀ d∈cs,kLt c.1 d.1=true:=fun d hd=>List.rel_of_pairwise_cons h hd
  have ih:=ih hA;unfold putC at ih ⊢
  by_cases e:c.1=x.1
  ·have hn:zBB cs x.1=false:=hasK_no.2 fun d hd he=>by have:=hc d hd;rw [e,he,kLt_irr] at this;cases this
   have hy:zBB (c :: cs) x.1=true:=yEI.2 ⟨c,by simp,e⟩;rw [hn] at ih;rw [hy];rw [List.filter_cons_of_neg (by rw [e,kLt_irr];simp),List.filter_cons_of_neg (by rw [e,kLt_irr];simp)];simp at ih ⊢;omega
  ·have hh:zBB (c :: cs) x.1=zBB cs x.1:=by simp [zBB,e]
   rw [hh]
   cases hl:kLt c.1 x.1 with
   | true=>
    rw [List.filter_cons_of_pos (by rw [hl]),List.filter_cons_of_neg (by rw [kLt_asym hl];simp)];simp at ih ⊢;omega
   | false=>
    have hg:kLt x.1 c.1=true:=by
     cases h2:kLt x.1 c.1 with
     | true=>rfl
     | false=>exact absurd (kLt_tri hl h2) e
    rw [List.filter_cons_of_neg (by rw [hl];simp),List.filter_cons_of_pos (by rw [hg])];simp at ih ⊢;omega
theorem len_drop {cs:CL} (h:Asc cs):(cs.filter fun c=>decide (c.1 ≠ k)).length+(if zBB cs k=true then 1 else 0)=cs.length:=by
 induction cs with
 | nil=>simp [zBB]
 | cons c cs ih=>
  have hA:Asc cs:=List.Pairwise.of_cons h;have ih:=ih hA
  by_cases e:c.1=k
  ·have hn:zBB cs k=false:=hasK_no.2 fun d hd he=>by have:=List.rel_of_pairwise_cons h hd;rw [e,he,kLt_irr] at this;cases this
   have hy:zBB (c :: cs) k=true:=yEI.2 ⟨c,by simp,e⟩;rw [hn] at ih;rw [hy,List.filter_cons_of_neg (by simp [e])];simp only [Ak,if_true];simp only [Bool.false_eq_true,if_false] at ih;omega
  ·have hh:zBB (c :: cs) k=zBB cs k:=by simp [zBB,e]
   rw [hh,List.filter_cons_of_pos (by simp [e]),Ak,Ak];omega
abbrev CM:=Int × ByteArray × Int
def zAF (c:CM):Bool:=inB c.1 1 3 && (zIJ c.2.1 && zEH c.2.2)
def zEI (cs:CL) (c:CM):Int:=if c.1=1 then c.2.2 else match cs.find? (fun d=>decide (d.1=c.2.1)) with
 | none=>c.2.2
 | some d=>if c.1=3 then d.2 - c.2.2 else d.2+c.2.2
def jL (cs:CL) (c:CM):Int:=
 if (kS cs && zAF c)=false then 2
 else if c.1 ≠ 1/\zBB cs c.2.1=false then 1
 else if zEH (zEI cs c)=false∨(zBB cs c.2.1=false/\12<=cs.length) then 2 else 0
def yAA (cs:CL) (c:CM):CL:=if jL cs c=0 then putC cs (c.2.1,zEI cs c) else cs
theorem done_ok {cs:CL} {c:CM} (h:kS cs=true):kS (yAA cs c)=true:=by
 unfold yAA
 by_cases h0:jL cs c=0
 ·rw [if_pos h0];obtain ⟨hk,hA,hl⟩:=zFG.1 h;unfold jL at h0
  split at h0
  ·omega
  rename_i h1
  split at h0
  ·omega
  rename_i h2
  split at h0
  ·omega
  rename_i h3
  rw [h] at h1;simp only [Bool.true_and,Bool.not_eq_false] at h1;unfold zAF at h1;simp only [Aj] at h1
  have a:zEH (zEI cs c)=true:=by
   cases e:zEH (zEI cs c) with
   | true=>rfl
   | false=>exact absurd (Ag e) h3
  refine zFG.2 ⟨fun d hd=>?_,asc_putC hA,?_⟩
  ·rcases mem_putC.1 hd with rfl | ⟨hd,_⟩
   ·exact ⟨h1.2.1,a⟩
   ·exact hk d hd
  ·have:=len_putC (x:=(c.2.1,zEI cs c)) hA
   cases hh:zBB cs c.2.1 with
   | true=>simp [hh] at this;omega
   | false=>
    simp [hh] at this;have:¬ 12<=cs.length:=fun h'=>h3 (Ah ⟨hh,h'⟩)
    omega
 ·rw [if_neg h0];exact h
def yD:CL->List CM->CL
 | cs,[]=>cs
 | cs,c :: l=>yD (yAA cs c) l
def zHI:CL->List CM->List Int
 | _,[]=>[]
 | cs,c :: l=>jL cs c :: zHI (yAA cs c) l
theorem codesC_len:∀ (cs:CL) (l:List CM),(zHI cs l).length=l.length
 | _,[]=>rfl
 | cs,c :: l=>by simp [zHI,codesC_len]
theorem doneAll_bad {cs:CL} (h:kS cs=false):∀ l:List CM,yD cs l=cs/\zHI cs l=List.replicate l.length 2
 | []=>⟨rfl,rfl⟩
 | c :: l=>by
  have hc:jL cs c=2:=by unfold jL;rw [h];rfl
  have hd:yAA cs c=cs:=by unfold yAA;rw [hc];rfl
  have:=doneAll_bad h l;simp [yD,zHI,hd,hc,this,List.replicate_succ]
theorem doneAll_snoc:∀ (cs:CL) (l:List CM) (c:CM),yD cs (l ++ [c])=yAA (yD cs l) c
 | _,[],_=>rfl
 | cs,d :: l,c=>by simp [yD,doneAll_snoc]
theorem codes_snoc:∀ (cs:CL) (l:List CM) (c:CM),zHI cs (l ++ [c])=zHI cs l ++ [jL (yD cs l) c]
 | _,[],_=>rfl
 | cs,d :: l,c=>by simp [zHI,yD,codes_snoc]
theorem doneAll_ok:∀ {cs:CL} (l:List CM),kS cs=true->kS (yD cs l)=true
 | _,[],h=>h
 | _,_ :: l,h=>doneAll_ok l (done_ok h)
theorem code_bad {cs:CL} {c:CM} (h:kS cs=false):jL cs c=2:=by unfold jL;rw [h];rfl
theorem code_cmd {cs:CL} {c:CM} (h:zAF c=false):jL cs c=2:=by unfold jL;rw [h,Bool.and_false];rfl
theorem zFI {cs:CL} {c:CM} (h:jL cs c ≠ 0):yAA cs c=cs:=by unfold yAA;rw [if_neg h]
theorem yEF {cs:CL} {c:CM} (h:jL cs c=0):yAA cs c=putC cs (c.2.1,zEI cs c):=by unfold yAA;rw [if_pos h]
theorem code_none {cs:CL} {c:CM} (h:kS cs=true) (h2:zAF c=true) (h3:c.1 ≠ 1) (h4:zBB cs c.2.1=false):jL cs c=1:=by
 unfold jL;rw [h,h2,if_neg (by decide),if_pos ⟨h3,h4⟩]
theorem code_over {cs:CL} {c:CM} (h:kS cs=true) (h2:zAF c=true) (h3:¬ (c.1 ≠ 1/\zBB cs c.2.1=false)) (h4:zEH (zEI cs c)=false∨(zBB cs c.2.1=false/\12<=cs.length)):jL cs c=2:=by
 unfold jL;rw [h,h2,if_neg (by decide),if_neg h3,if_pos h4]
theorem code_done {cs:CL} {c:CM} (h:kS cs=true) (h2:zAF c=true) (h3:¬ (c.1 ≠ 1/\zBB cs c.2.1=false)) (h4:¬ (zEH (zEI cs c)=false∨(zBB cs c.2.1=false/\12<=cs.length))):jL cs c=0:=by
 unfold jL;rw [h,h2,if_neg (by decide),if_neg h3,if_neg h4]
theorem comes_set {cs:CL} {c:CM} (h:c.1=1):zEI cs c=c.2.2:=by unfold zEI;rw [if_pos h]
theorem find_at {cs:CL} (hA:Asc cs) (hj:j < cs.length):cs.find? (fun d=>decide (d.1=cs[j].1))=some cs[j]:=by
 rw [List.find?_eq_some_iff_getElem];refine ⟨by simp,j,hj,rfl,fun i hi=>?_⟩;have:=List.pairwise_iff_getElem.1 hA i j (by omega) hj hi
 simpa using kLt_ne this
theorem comes_add {cs:CL} {kd num:Int} (hA:Asc cs) (hj:j < cs.length) (h1:kd ≠ 1) (h3:kd ≠ 3):zEI cs (kd,cs[j].1,num)=cs[j].2+num:=by
 unfold zEI;simp only;rw [if_neg h1,find_at hA hj];simp only;rw [if_neg h3]
theorem comes_take {cs:CL} {num:Int} (hA:Asc cs) (hj:j < cs.length):zEI cs (3,cs[j].1,num)=cs[j].2 - num:=by
 unfold zEI;simp only;rw [if_neg (by decide),find_at hA hj];rfl
theorem numB_bd {n:Int} (h:zEH n=true):0<=n/\n<=1000000000:=by unfold zEH inB at h;simpa using h
theorem cmdB_bd {c:CM} (h:zAF c=true):(1<=c.1/\c.1<=3)/\zIJ c.2.1=true/\zEH c.2.2=true:=by
 unfold zAF at h;simp only [Aj] at h;refine ⟨?_,h.2.1,h.2.2⟩;have:=h.1;unfold inB at this;simpa using this
def okL (cs:CL):Prop:=(cs.length:Int)<=1048576/\∀ c∈cs,(c.1.size:Int)<=1048576
theorem okL_done {cs:CL} {c:CM} (h:okL cs) (hk:(c.2.1.size:Int)<=1048576):okL (yAA cs c):=by
 by_cases h0:jL cs c=0
 ·have a:kS cs=true:=by
   cases hc:kS cs with
   | true=>rfl
   | false=>rw [code_bad hc] at h0;omega
  have:=(zFG.1 (done_ok (c:=c) a)).2.2;refine ⟨by omega,fun d hd=>?_⟩;rw [yEF h0] at hd
  rcases mem_putC.1 hd with rfl | ⟨hd,_⟩
  ·exact hk
  ·exact h.2 d hd
 ·rw [zFI h0];exact h
theorem okL_all {cs:CL}:∀ (l:List CM),okL cs->(∀ c∈l,(c.2.1.size:Int)<=1048576)->okL (yD cs l):=by
 intro l
 induction l generalizing cs with
 | nil=>intro h _;exact h
 | cons c l ih=>intro h hl;exact ih (okL_done h (hl c (by simp))) fun d hd=>hl d (by simp [hd])
theorem take_snoc {α:Type} {l:List α} {k:Nat} (h:k < l.length):l.take (k+1)=l.take k ++ [l[k]]:=by
 rw [List.take_add_one,Af h];rfl
abbrev QC:=Int × Int × Int × Int
abbrev BK:=(Int × Int) × (List CM × QC)
def kE:BK:=((-1,0),([],(0,0,0,0)))
def yR (t:List BK) (k:Int):Int:=(t[k.toNat]?.getD kE).1.2
theorem viewAt_at {t:List BK} (h:j < t.length):yR t (j:Int)=t[j].1.2:=by
 unfold yR;rw [show ((j:Int)).toNat=j by omega,Af h];rfl
def xV (t:List BK) (b:BK):Bool:=
 inB b.1.1 0 ((t.length:Int) - 1) && (decide (yR t b.1.1 < b.1.2) && (decide (b.1.2<=900) && (decide (b.2.1.length<=4) && (b.2.1.all zAF && (decide (b.2.2.2.2.1=b.1.1) && decide (b.2.2.2.1=yR t b.1.1))))))
theorem blockB_par {t:List BK} {b:BK} (h:inB b.1.1 0 ((t.length:Int) - 1)=false):xV t b=false:=by unfold xV;rw [h];rfl
theorem blockB_low {t:List BK} {b:BK} (h:¬ yR t b.1.1 < b.1.2):xV t b=false:=by
 unfold xV;rw [decide_eq_false h,Bool.false_and,Bool.and_false]
theorem blockB_high {t:List BK} {b:BK} (h:¬ b.1.2<=900):xV t b=false:=by
 unfold xV;rw [decide_eq_false h];simp
theorem blockB_many {t:List BK} {b:BK} (h:¬ b.2.1.length<=4):xV t b=false:=by
 unfold xV;rw [decide_eq_false h];simp
theorem blockB_cmd {t:List BK} {b:BK} (hj:j < b.2.1.length) (h:zAF b.2.1[j]=false):xV t b=false:=by
 have:b.2.1.all zAF=false:=List.all_eq_false.2 ⟨_,Ad hj,by rw [h];simp⟩;unfold xV;rw [this];simp
def cmdsTo (l:List CM) (k:Nat):Prop:=∀ j (h:j < l.length),j < k->zAF l[j]=true
theorem cmdsTo_next {l:List CM} {k:Nat} (h:cmdsTo l k) (hk:k < l.length) (hc:zAF l[k]=true):cmdsTo l (k+1):=fun j hj a=>by
 by_cases e:j=k
 ·subst e;exact hc
 ·exact h j hj (by omega)
theorem blockB_all {t:List BK} {b:BK} (h0:inB b.1.1 0 ((t.length:Int) - 1)=true) (h1:yR t b.1.1 < b.1.2) (h2:b.1.2<=900) (h3:b.2.1.length<=4) (h4:cmdsTo b.2.1 b.2.1.length) :
  xV t b=(decide (b.2.2.2.2.1=b.1.1) && decide (b.2.2.2.1=yR t b.1.1)):=by
 have:b.2.1.all zAF=true:=List.all_eq_true.2 fun c hc=>by
  obtain ⟨j,hj,rfl⟩:=List.mem_iff_getElem.1 hc;exact h4 j hj hj
 unfold xV;rw [h0,decide_eq_true h1,decide_eq_true h2,decide_eq_true h3,this];rfl
def yW (b:BK):List BK->Nat->Int
 | [],_=>-1
 | x :: t,k=>if x=b then (k:Int) else yW b t (k+1)
def kI (t:List BK) (b:BK):Int:=yW b t 0
theorem blockAt_drop (t:List BK) (b:BK) (k:Nat) (h:k < t.length):yW b (t.drop k) k=if t[k]=b then (k:Int) else yW b (t.drop (k+1)) (k+1):=by
 rw [Al h];rfl
def zBE (t:List BK) (b:BK):Int:=if 0<=kI t b then kI t b else if xV t b=false∨60<=t.length then -1 else (t.length:Int)
def zGE (t:List BK) (b:BK):List BK:=if 0<=kI t b then t else if xV t b=false∨60<=t.length then t else t ++ [b]
theorem put_there {t:List BK} {b:BK} (h:0<=kI t b):zBE t b=kI t b/\zGE t b=t:=⟨if_pos h,if_pos h⟩
theorem put_not {t:List BK} {b:BK} (h:¬ 0<=kI t b) (h2:xV t b=false∨60<=t.length):zBE t b=-1/\zGE t b=t:=⟨(if_neg h).trans (if_pos h2),(if_neg h).trans (if_pos h2)⟩
theorem put_new {t:List BK} {b:BK} (h:¬ 0<=kI t b) (h2:¬ (xV t b=false∨60<=t.length)):zBE t b=(t.length:Int)/\zGE t b=t ++ [b]:=⟨(if_neg h).trans (if_neg h2),(if_neg h).trans (if_neg h2)⟩
def zDE (n:Int):Int:=if n < 1 then 0 else (n - 1) / 3
def zBD (n:Int):Int:=n - zDE n
def xQ (view n:Int):Int:=if n < 1∨view < 0 then 0 else view / 4 % n
abbrev VT:=Int × Int × Int × Int
def zCI (t:List BK) (n:Int) (v:VT):Bool:=
 inB n 1 7 && (inB v.1 1 4 && (inB v.2.1 1 900 && (inB v.2.2.1 1 ((t.length:Int) - 1) && (decide (yR t v.2.2.1=v.2.1) && inB v.2.2.2 0 (n - 1)))))
def saidV (l:List VT) (p v b by':Int):Bool:=l.any fun x=>decide (x.2.2.2=by') && (decide (x.1=p) && (decide (x.2.1=v) && decide (x.2.2.1=b)))
def zHG (l:List VT) (p v b:Int):Nat->Int
 | 0=>0
 | k+1=>zHG l p v b k+(if saidV l p v b (k:Int)=true then (2:Int) ^ k else 0)
def jP (l:List VT) (p v b:Int):Int:=zHG l p v b 7
def zAA (x:Int) (i:Nat):Int:=x / (2:Int) ^ i % 2
def cntTo (s:Int):Nat->Int
 | 0=>0
 | k+1=>cntTo s k+zAA s k
def zFH (s:Int):Int:=if s < 0 then 0 else cntTo s 7
def kH (t:List BK) (n:Int) (q:QC):Bool:=
 if q=(0,0,0,0) then true else zCI t n (q.1,q.2.1,q.2.2.1,0) && (inB q.2.2.2 0 ((2:Int) ^ n.toNat - 1) && decide (zBD n<=zFH q.2.2.2))
def zHE (l:List VT) (p v b n:Int):QC × Bool:=if zFH (jP l p v b) < zBD n then ((0,0,0,0),false) else ((p,v,b,jP l p v b),true)
def yF (a b:QC):QC:=if a.2.1 < b.2.1 then b else a
def provTo (said signers liars:Int) (k:Nat):Prop:=∀ i,i < k->¬ (zAA signers i ≠ 0/\zAA liars i=0/\zAA said i=0)
def qV (l:List VT) (q:QC) (liars:Int):Bool:=
 if q.2.1=0 then true else ((List.range 7).all fun i=>!(decide (zAA q.2.2.2 i ≠ 0) && (decide (zAA liars i=0) && decide (zAA (jP l q.1 q.2.1 q.2.2.1) i=0)))) && (decide (0<=q.2.2.2) && decide (q.2.2.2 < 128))
theorem bitT_cases (x:Int) (i:Nat):zAA x i=0∨zAA x i=1:=by unfold zAA;omega
theorem zEC (l:List VT) (p v b:Int):∀ k,0<=zHG l p v b k/\zHG l p v b k < (2:Int) ^ k
 | 0=>by simp [zHG]
 | k+1=>by
  obtain ⟨h0,h1⟩:=zEC l p v b k;have hp:(0:Int) < (2:Int) ^ k:=Int.pow_pos (by omega);have h2:(2:Int) ^ (k+1)=2 * (2:Int) ^ k:=by rw [Int.pow_succ];omega
  unfold zHG
  split <;> omega
theorem signersT_bounds (l:List VT) (p v b:Int):0<=jP l p v b/\jP l p v b < 128:=zEC l p v b 7
theorem cntTo_bounds (s:Int):∀ k,0<=cntTo s k/\cntTo s k<=(k:Int)
 | 0=>by simp [cntTo]
 | k+1=>by
  obtain ⟨h0,h1⟩:=cntTo_bounds s k;have:=bitT_cases s k;unfold cntTo;omega
theorem vb_bound:∀ (k f:Nat) (m:Int),m<=128 ^ (k+1) - 1->(vb f m).length<=k+1
 | 0,f,m,hm=>by rw [zAJ _ _ (by simpa using (by omega:m<=127))];simp
 | k+1,0,m,_=>by simp [vb]
 | k+1,f+1,m,hm=>by
  by_cases hgt:127 < m
  ·have e:(128:Int) ^ (k+1+1)=128 ^ (k+1) * 128:=Int.pow_succ _ _;rw [e] at hm;have h2:=Int.ediv_lt_of_lt_mul (show (0:Int) < 128 by decide) (show m < 128 ^ (k+1) * 128 by omega);have:=vb_bound k f (m / 128) (by omega);rw [show vb (f+1) m=(if 127 < m then (m % 128+128) :: vb f (m / 128) else [m]) from rfl,if_pos hgt];simp only [Ak];omega
  ·rw [zAJ _ _ (by omega)];simp
theorem vbs_ten (n:Int) (h:n<=9223372036854775807):(vbs n).length<=10:=
 vb_bound 9 _ _ (by rw [show (128:Int) ^ (9+1)=1180591620717411303424 from rfl];omega)
def lowI (n:Int):Int:=if n < 0 then 0 else n
theorem lowI_bounds {n:Int} (h:n<=9223372036854775807):0<=lowI n/\lowI n<=9223372036854775807:=by unfold lowI;split <;> omega
def vT (n:Int):ByteArray:=strOfNums (vbs n)
theorem vT_size {n:Int} (h:n<=9223372036854775807):(vT n).size<=10:=by unfold vT;rw [strOfNums_size];exact vbs_ten n h
def jH (n:Int):ByteArray:=vT (lowI n)
theorem kA {n:Int} (h:n<=9223372036854775807):(jH n).size<=10:=vT_size (lowI_bounds h).2
def zCC (a b c d:Int):ByteArray:=jH a ++ jH b ++ jH c ++ jH d
def voteTx (v:VT):ByteArray:=zCC v.1 v.2.1 v.2.2.1 v.2.2.2
def qcTx (q:QC):ByteArray:=zCC q.1 q.2.1 q.2.2.1 q.2.2.2
theorem zFJ {a b c d:Int} (ha:a<=9223372036854775807) (hb:b<=9223372036854775807) (hc:c<=9223372036854775807) (hd:d<=9223372036854775807):(zCC a b c d).size<=40:=by
 unfold zCC;rw [ByteArray.size_append,ByteArray.size_append,ByteArray.size_append];have:=kA ha;have:=kA hb;have:=kA hc;have:=kA hd;omega
abbrev LT:=(Int × Int × Int × Int × Int) × QC × VT
def wfQ (q:QC):Prop:=(Lit.int U q.1).wf=true/\(Lit.int U q.2.1).wf=true/\(Lit.int U q.2.2.1).wf=true/\(Lit.int U q.2.2.2).wf=true
section
variable {P:Program} {ops:Array Oper} {Q:Exit->Act->World->Prop} {md:Region.Mode} {C:World->Prop} {pend:Nat->Bool}
def zX (P:Program) (md:Region.Mode) (ops:Array Oper) (Q:Exit->Act->World->Prop) (C:World->Prop) (pend:Nat->Bool):Nat->Array Bool->Act->World->Prop
 | 0,listed,a,w=>Region.ready md ops listed=[]/\Q .normal a w
 | f+1,listed,a,w=>(Region.ready md ops listed=[]->Q .normal a w)/\
   ∀ i∈Region.ready md ops listed,wpOp P ops Q i (fun a' w'=>(pend i=true->C w')/\zX P md ops Q C pend f (listed.setIfInBounds i true) a' w') a w
theorem wpAny_of_P:∀ (f:Nat) (listed:Array Bool) (a:Act) (w:World),zX P md ops Q C pend f listed a w->wpAny P md ops Q f listed a w
 | 0,_,_,_,h=>h
 | f+1,_,_,_,h=>⟨h.1,fun i hi=>wpOp_mono (fun a' w' h'=>wpAny_of_P f _ a' w' h'.2) (h.2 i hi)⟩
def chainB (md:Region.Mode) (ops:Array Oper) (i:Nat):Nat->Nat->Bool
 | 0,_=>false
 | n+1,j=>match ops[j]? with
  | some o=>o.after.toList.any fun e=>Region.binds md e && (e.on == i || chainB md ops i n e.on)
  | none=>false
def Closed (md:Region.Mode) (ops:Array Oper) (listed:Array Bool):Prop:=
 ∀ (k:Nat) (o:Oper),ops[k]?=some o->listed.getD k false=true->∀ e∈o.after,Region.binds md e=true->listed.getD e.on false=true
theorem off_of (h:listed.getD i true=false):listed.getD i false=false:=by
 rcases Nat.lt_or_ge i listed.size with h' | h'
 ·simp [h'] at h ⊢;exact h
 ·simp [Array.getElem?_eq_none h']
theorem still_off {k:Nat} (hj:listed.getD j true=false) (h:(listed.setIfInBounds j true).getD k true=false):listed.getD k true=false:=by
 by_cases e:j=k
 ·rw [<- e];exact hj
 ·rwa [getD_set_ne true e] at h
theorem chain_off {i:Nat} {listed:Array Bool} (hc:Closed md ops listed) (hi:listed.getD i true=false):∀ (n j:Nat),chainB md ops i n j=true->listed.getD j false=false/\j ∉ Region.ready md ops listed
 | 0,_,h=>by cases h
 | n+1,j,h=>by
  unfold chainB at h
  cases ho:ops[j]? with
  | none=>rw [ho] at h;cases h
  | some o=>
   rw [ho] at h;obtain ⟨e,he,h2⟩:=List.any_eq_true.1 h;have d:e∈o.after:=by simpa using he
   simp only [Aj,Bool.or_eq_true,beq_iff_eq] at h2
   have a:listed.getD e.on false=false:=by
    rcases h2.2 with h3 | h3
    ·rw [h3];exact off_of hi
    ·exact (chain_off hc hi n e.on h3).1
   constructor
   ·cases hj:listed.getD j false with
    | false=>rfl
    | true=>have:=hc j o ho hj e d h2.1;rw [a] at this;cases this
   ·intro hr;obtain ⟨_,o',c,b⟩:=mem_ready.1 hr;rw [ho] at c;obtain rfl:=Ac c;have:=b e d h2.1;rw [a] at this;cases this
theorem Closed.set (h:Closed md ops listed) (hj:j∈Region.ready md ops listed):Closed md ops (listed.setIfInBounds j true):=fun k o ho hk e he hb=>by
 by_cases hjk:j=k
 ·subst hjk;obtain ⟨_,o',b,a⟩:=mem_ready.1 hj;rw [ho] at b;obtain rfl:=Ac b;exact getD_set_true (a e he hb)
 ·rw [getD_set_ne false hjk] at hk;exact getD_set_true (h k o ho hk e he hb)
def WaitsFor (md:Region.Mode) (ops:Array Oper) (pend:Nat->Bool) (i:Nat):Prop:=∀ j,j < ops.size->pend j=false->∃ n,chainB md ops i n j=true
theorem pend_of_ready (hw:WaitsFor md ops pend i) (hi:listed.getD i true=false) (hl:Closed md ops listed) (hj:j∈Region.ready md ops listed):pend j=true:=by
 cases hp:pend j with
 | true=>rfl
 | false=>
  obtain ⟨_,o,ho,_⟩:=mem_ready.1 hj;obtain ⟨n,hn⟩:=hw j (gl ho) hp;exact absurd hj (chain_off hl hi n j hn).2
theorem wpAnyP_first (hi:ops[i]?=some oi) (hsel:∀ (j:Nat) (o:Oper) cs b,ops[j]?=some o->o.op ≠ .select cs b)
  (hQ:∀ c a w,Q (.panic c) (a.put oi.dst v) w->Q (.panic c) a w) (hw:WaitsFor md ops pend i) :
  ∀ (f:Nat) (listed:Array Bool) (a:Act) (w:World),
   (∀ j oj,ops[j]?=some oj->j ≠ i->listed.getD j true=false->(∀ e∈oj.after,Region.binds md e=true->e.on ≠ i)->oi.apart ops oj=true)->
   i∈Region.ready md ops listed->Closed md ops listed->YieldsIf P ops C oi v a->C w->
   zX P md ops Q C pend f (listed.setIfInBounds i true) (a.put oi.dst v) w->zX P md ops Q C pend (f+1) listed a w:=by
 intro f
 induction f with
 | zero=>
  intro listed a w _ hr _ hy hC H;refine ⟨fun h=>(by rw [h] at hr;cases hr),fun j hj=>?_⟩
  by_cases hji:j=i
  ·subst hji;exact hy.wpOp hi hC ⟨fun _=>hC,H⟩
  ·have:=ready_mono hj hji;rw [H.1] at this
   cases this
 | succ f ih=>
  intro listed a w d hr hl hy hC H;refine ⟨fun h=>(by rw [h] at hr;cases hr),fun j hj=>?_⟩
  by_cases hji:j=i
  ·subst hji;exact hy.wpOp hi hC ⟨fun _=>hC,H⟩
  ·have h1:=H.2 j (ready_mono hj hji);have u:pend j=true:=pend_of_ready hw (mem_ready.1 hr).1 hl hj;obtain ⟨l,oj,m,n⟩:=mem_ready.1 hj
   have p:∀ e∈oj.after,Region.binds md e=true->e.on ≠ i:=fun e he hb x=>by
    have h4:=n e he hb;rw [x,off_of (mem_ready.1 hr).1] at h4
    cases h4
   have h2:=wpOp_putIf m (d j oj m hji l p) (fun cs b=>hsel i oi cs b hi) (fun cs b=>hsel j oj cs b m) hQ hy h1;have g:=fun k ok hk t r s=>d k ok hk t (still_off l r) s
   refine wpOp_mono (fun a' w' h3=>⟨h3.2.1,ih (listed.setIfInBounds j true) a' w' g (ready_mono hr (Ne.symm hji)) (hl.set hj) h3.1 (h3.2.1 u) ?_⟩) h2;rw [Array.setIfInBounds_comm _ _ hji];exact h3.2.2
def waitsB (md:Region.Mode) (ops:Array Oper) (pend:Nat->Bool) (i:Nat):Bool:=(List.range ops.size).all fun j=>pend j || chainB md ops i 40 j
theorem waitsB_spec (h:waitsB md ops pend i=true):WaitsFor md ops pend i:=fun j hj hp=>by
 have h1:=List.all_eq_true.1 h j (List.mem_range.2 hj);rw [hp,Bool.false_or] at h1;exact ⟨40,h1⟩
def closedB (md:Region.Mode) (ops:Array Oper) (listed:Array Bool):Bool:=(List.range ops.size).all fun k=>!listed.getD k false || (match ops[k]? with
 | some o=>o.after.toList.all fun e=>!Region.binds md e || listed.getD e.on false
 | none=>true)
theorem closedB_spec (h:closedB md ops listed=true):Closed md ops listed:=fun k o ho hk e he hb=>by
 have h1:=List.all_eq_true.1 h k (List.mem_range.2 (gl ho));rw [hk,ho,Bool.not_true,Bool.false_or] at h1;have h2:=List.all_eq_true.1 h1 e (by simpa using he);rw [hb,Bool.not_true,Bool.false_or] at h2;exact h2
theorem wpAnyP_take (hi:ops[i]?=some oi)
  (hs:Region.noSelect ops=true) (hf:Region.free md ops listed i=true) (hr:(Region.ready md ops listed).contains i=true) (hw:waitsB md ops pend i=true) (hl:closedB md ops listed=true)
  (hQ:∀ c a w,Q (.panic c) (a.put oi.dst v) w->Q (.panic c) a w) (hy:YieldsIf P ops C oi v a) (hC:C w)
  (h:zX P md ops Q C pend f (listed.setIfInBounds i true) (a.put oi.dst v) w):zX P md ops Q C pend (f+1) listed a w:=
 wpAnyP_first hi (Region.noSelect_spec hs) hQ (waitsB_spec hw) f listed a w (Region.free_spec hi hf) (by simpa using hr) (closedB_spec hl) hy hC h
theorem zK {listed:Array Bool} {a:Act} {w:World} (hr:Region.ready md ops listed=[]) (h:Q .normal a w):∀ f,zX P md ops Q C pend f listed a w
 | 0=>⟨hr,h⟩
 | _+1=>⟨fun _=>h,by rw [hr];simp⟩
theorem p_do (h:Q .normal a w) (hr:Region.ready md ops L=[]:=by kernel_rfl):zX P md ops Q C pend f L a w:=zK hr h f
theorem xA (S:World->Prop) (hm:P.follows .mixedOrders=true)
  (h:wpAnyH P .any ops Q S ops.size (Array.replicate ops.size false) a w.drew):(Code.region id ops true).wp P Q a w:=wp_region_held hm h
theorem zT (pend:Nat->Bool) (C:World->Prop) (hm:P.follows .mixedOrders=true)
  (h:zX P .any ops Q C pend ops.size (Array.replicate ops.size false) a w.drew):(Code.region id ops true).wp P Q a w:=
 wp_region_any hm (wpAny_of_P _ _ _ _ h)
theorem p_rg (pend:Nat->Bool) (C:World->Prop) (h:zX P .any ops Q C pend ops.size (Array.replicate ops.size false) a w.drew) (hm:P.follows .mixedOrders=true:=by kernel_rfl):(Code.region id ops true).wp P Q a w:=zT pend C hm h
end
theorem zEB {cells:Array Value} {t:TypeId} (h:w.heap[N]?=Ab (.cells old t (0,0))):w.grownBy (w.setRow N cells) (some N)/\(w.setRow N cells).heap[N]?=Ab (.cells cells t (0,0))/\(w.setRow N cells).heap.size=w.heap.size:=by
 refine ⟨⟨rfl,rfl,rfl,by simp [World.setRow],fun k hk a=>?_⟩,setRow_heap w N old cells t (0,0) h,by simp [World.setRow]⟩;have:k ≠ N:=fun e=>a (by rw [e])
 simp only [World.setRow];rw [Array.getElem?_modify,if_neg (fun e=>this e.symm)]
section
variable {P:Program} {ops:Array Oper} {Q:Exit->Act->World->Prop} {md:Region.Mode} {S:World->Prop}
theorem yFG {c:Nat} {K:Act->World->Prop} (hc:ops[c]?=some oc) (hw:Region.wanted oc (yielded ops a.tmps)=true)
  (hrun:(execOp a.eval oc).run P w=.ok (.enter fn args) w) (h:Calls P fn args w fun e w'=>∃ v,e=.returned v/\K (a.put oc.dst v) w'):wpOp P ops Q c K a w:=by
 unfold wpOp;simp only [hc,hw,if_true];refine Ag ?_;unfold Oper.wp;rw [hrun];exact h.mono fun e w' he=>by obtain ⟨v,rfl,hk⟩:=he;exact hk
theorem zGJ {c:Nat} {K:Act->World->Prop} (hc:ops[c]?=some oc) (hw:Region.wanted oc (yielded ops a.tmps)=true)
  (hrun:(execOp a.eval oc).run P w=.ok (.value v) w') (h:K (a.put oc.dst v) w'):wpOp P ops Q c K a w:=by
 unfold wpOp;simp only [hc,hw,if_true];refine Ag ?_;unfold Oper.wp;rw [hrun];exact h
def flP (N:Nat):Value:=.pointer (Ab ⟨N,0,Aa⟩)
def flL (i:Nat) (L:Array Bool):Option Nat->Array Bool
 | none=>L
 | some _=>L.setIfInBounds i true
def flA (d:Option Tmp) (a:Act):Option Nat->Act
 | none=>a
 | some N=>a.put d (flP N)
def flI (obj:Obj) (base:Nat) (w:World):Option Nat->Prop
 | none=>True
 | some N=>base<=N/\w.heap[N]?=some obj
def flF (f:Nat):Option Nat->Nat
 | none=>f+1
 | some _=>f
def Fl (P:Program) (md:Region.Mode) (ops:Array Oper) (Q:Exit->Act->World->Prop) (S:World->Prop) (i:Nat) (d:Option Tmp) (obj:Obj) (base:Nat) (T:World->Prop) (f:Nat) (L:Array Bool) (a:Act):Prop:=
 ∀ al w,T w->flI obj base w al->wpAnyH P md ops Q S (flF f al) (flL i L al) (flA d a al) w
def Up (T:World->Prop):Prop:=∀ w w',T w->Below w.heap.size w w'->T w'
def KpF (base:Nat) (w w':World):Prop:=∀ k,base<=k->k < w.heap.size->w'.heap[k]?=w.heap[k]?
theorem KpF.below {base:Nat} (h:Below w.heap.size w w'):KpF base w w':=fun k _ hk=>h.block k hk
theorem KpF.grown {base B:Nat} (h:w.grownBy w' (some B)) (hB:B < base):KpF base w w':=fun k hk hl=>h.block k hl fun e=>by have:=Ac e;omega
def Makes (P:Program) (oi:Oper) (obj:Obj):Prop:=oi.guard=none/\∀ (ρ:Operand->Value) (w:World),(execOp ρ oi).run P w=.ok (.value (flP w.heap.size)) (w.alloc obj)
theorem zBA (w:World) (obj:Obj):(w.alloc obj).heap[w.heap.size]?=some obj:=by show (w.heap.push obj)[w.heap.size]?=some obj;simp
theorem yA (w:World) (obj:Obj):Below w.heap.size w (w.alloc obj):=(br _ _).alloc (nl _) _
theorem fl_in {base:Nat} {T:World->Prop} (h:Fl P md ops Q S i d obj base T f L a) (hT:T w):wpAnyH P md ops Q S (f+1) L a w:=h none w hT trivial
theorem fl_call {c:Nat} {base:Nat} {T:World->Prop} {T':Value->World->Prop} 
  (hi:ops[i]?=some oi) (hdd:oi.dst=d) (hmk:Makes P oi obj) (hb:∀ w,T w->base<=w.heap.size) (hU:Up T) (hTS:∀ w,T w->S w)
  (hc:ops[c]?=some oc) (hce:oc.dst=e') (hsel:Region.noSelect ops=true) (hr0:Region.ready md ops L=[c,i]∨Region.ready md ops L=[i,c]) (hr1:Region.ready md ops (L.setIfInBounds i true)=[c]) (hci:c ≠ i) (hap:oi.apart ops oc=true)
  (hw:Region.wanted oc (yielded ops a.tmps)=true) (hrun:∀ w,(execOp a.eval oc).run P w=.ok (.enter fn args) w)
  (hcon:∀ w,T w->Calls P fn args w fun e w'=>∃ v,e=.returned v/\KpF base w w'/\T' v w') (hTS':∀ v w,T' v w->S w)
  (next:∀ v,Fl P md ops Q S i d obj base (T' v) f (L.setIfInBounds c true) (a.put e' v)):Fl P md ops Q S i d obj base T (f+1) L a:=by
 subst hdd;subst hce;obtain ⟨h1,h2,_⟩:=Oper.apart_spec hap;have hs:∀ cs b,oc.op ≠ .select cs b:=fun cs b=>Region.noSelect_spec hsel c oc cs b hc
 have k:∀ N w,T w->flI obj base w (some N)->wpAnyH P md ops Q S (f+1) (L.setIfInBounds i true) (a.put oi.dst (flP N)) w:=fun N w hT hI=>by
  refine ⟨fun h=>(by rw [hr1] at h;cases h),fun j hj=>?_⟩;rw [hr1] at hj;obtain rfl:j=c:=by simpa using hj
  refine yFG hc (by rw [wanted_put oc a oi.dst _ h1];exact hw) (by rw [execOp_put oc hs a oi.dst _ h1];exact hrun w) ((hcon w hT).mono ?_);rintro e w' ⟨v,rfl,m,g⟩;refine ⟨v,rfl,hTS' v w' g,?_⟩;have:=next v (some N) w' g ⟨hI.1,(m N hI.1 (gl hI.2)).trans hI.2⟩;rw [Act.put_comm a (flP N) v h2,Array.setIfInBounds_comm _ _ (Ne.symm hci)];exact this
 intro al w hT hI
 cases al with
 | some N=>exact k N w hT hI
 | none=>
  show wpAnyH P md ops Q S (f+1+1) L a w;refine ⟨fun h=>(by rcases hr0 with e | e <;> rw [e] at h <;> cases h),fun j hj=>?_⟩;have l:j=c∨j=i:=by rcases hr0 with e | e <;> rw [e] at hj <;> simp at hj <;> omega
  rcases l with rfl | rfl
  ·refine yFG hc hw (hrun w) ((hcon w hT).mono ?_);rintro e w' ⟨v,rfl,_,g⟩;exact ⟨v,rfl,hTS' v w' g,next v none w' g trivial⟩
  ·refine zGJ hi (by simp [Region.wanted,hmk.1]) (hmk.2 a.eval w) ⟨hTS _ (hU _ _ hT (yA w obj)),?_⟩;exact k w.heap.size (w.alloc obj) (hU _ _ hT (yA w obj)) ⟨hb w hT,zBA w obj⟩
theorem fl_and {p:Prop} {base:Nat} {R:World->Prop} (h:p->Fl P md ops Q S i d obj base R f L a):Fl P md ops Q S i d obj base (fun w=>p/\R w) f L a:=fun al w hT hI=>h hT.1 al w hT.2 hI
theorem kU {base:Nat} {T:World->Prop} (_:ops[i]?=some oi) (hdd:oi.dst=d) (hj:ops[j]?=some oj) (hje:oj.dst=e') (hsel:Region.noSelect ops=true)
  (hf0:Region.free md ops L j=true) (hf1:Region.free md ops (L.setIfInBounds i true) j=true) (hr0:(Region.ready md ops L).contains j=true) (hr1:(Region.ready md ops (L.setIfInBounds i true)).contains j=true) (hji:j ≠ i) (hap:oi.apart ops oj=true)
  (hQ:∀ c a w,Q (.panic c) (a.put e' v) w->Q (.panic c) a w) (hTS:∀ w,T w->S w) (hy:YieldsIf P ops S oj v a)
  (next:Fl P md ops Q S i d obj base T f (L.setIfInBounds j true) (a.put e' v)):Fl P md ops Q S i d obj base T (f+1) L a:=by
 subst hdd;subst hje;obtain ⟨h1,h2,_⟩:=Oper.apart_spec hap;have hs:∀ cs b,oj.op ≠ .select cs b:=fun cs b=>Region.noSelect_spec hsel j oj cs b hj
 intro al w hT hI
 cases al with
 | none=>exact wpAnyH_take hj hsel hf0 hr0 hQ hy (hTS w hT) (next none w hT trivial)
 | some N=>
  show wpAnyH P md ops Q S (f+1) (L.setIfInBounds i true) (a.put oi.dst (flP N)) w;refine wpAnyH_take (v:=v) hj hsel hf1 hr1 hQ (hy.of_same (execOp_put oj hs a oi.dst _ h1) (wanted_put oj a oi.dst _ h1)) (hTS w hT) ?_;have:=next (some N) w hT hI;rw [Act.put_comm a (flP N) v h2,Array.setIfInBounds_comm _ _ (Ne.symm hji)];exact this
theorem f_tk {base:Nat} {T:World->Prop} (j:Nat) (e:Tmp) (v:Value) (hy:∀ x,S x->(execOp a.eval oj).run P x=.ok (.value v) x) (next:Fl P md ops Q S i d obj base T f (L.setIfInBounds j true) (a.put (some e) v))
  (hi:ops[i]?=some oi:=by exact rfl) (hdd:oi.dst=d:=by exact rfl) (hj:ops[j]?=some oj:=by exact rfl) (hje:oj.dst=some e:=by exact rfl) (hs:Region.noSelect ops=true:=by kernel_rfl) (f0:Region.free md ops L j=true:=by kernel_rfl) (f1:Region.free md ops (L.setIfInBounds i true) j=true:=by kernel_rfl) (r0:(Region.ready md ops L).contains j=true:=by kernel_rfl) (r1:(Region.ready md ops (L.setIfInBounds i true)).contains j=true:=by kernel_rfl) (hji:j ≠ i:=by decide) (hap:oi.apart ops oj=true:=by kernel_rfl)
  (hQ:∀ c a w,Q (.panic c) (a.put (some e) v) w->Q (.panic c) a w:=by exact fun _ _ _ h=>h) (hTS:∀ w,T w->S w:=by exact fun _ h=>h) (hw:Region.wanted oj (yielded ops a.tmps)=true:=by rfl):Fl P md ops Q S i d obj base T (f+1) L a:=kU hi hdd hj hje hs f0 f1 r0 r1 hji hap hQ hTS (Ag ⟨hw,hy⟩) next
theorem h_call {c:Nat} (hc:ops[c]?=some oc) (hce:oc.dst=e') (hr:Region.ready md ops L=[c])
  (hw:Region.wanted oc (yielded ops a.tmps)=true) (hrun:(execOp a.eval oc).run P w=.ok (.enter fn args) w)
  (h:Calls P fn args w fun e w'=>∃ v,e=.returned v/\S w'/\wpAnyH P md ops Q S f (L.setIfInBounds c true) (a.put e' v) w'):wpAnyH P md ops Q S (f+1) L a w:=by
 subst hce;refine ⟨fun h0=>(by rw [hr] at h0;cases h0),fun j hj=>?_⟩;rw [hr] at hj;obtain rfl:j=c:=by simpa using hj
 exact yFG hc hw hrun h
theorem jR {s:Nat} {ty t:TypeId} {cells:Array Value} (ho:ops[s]?=some os) (hg:os.guard=none) (hop:os.op=.store ty x y) (hd:os.dst=none) (hr:Region.ready md ops L=[s])
  (hx:a.eval x=flP N) (hy:a.eval y=.agg cells) (hb:w.heap[N]?=Ab (.cells old t (0,0))) (hsz:(P.info? ty).map (·.size)=some cells.size) (hold:old.size=cells.size) (h1:cells.all (·.oneCell')=true)
  (h:∀ w',w.grownBy w' (some N)->w'.heap[N]?=Ab (.cells cells t (0,0))->S w'/\wpAnyH P md ops Q S f (L.setIfInBounds s true) a w'):wpAnyH P md ops Q S (f+1) L a w:=by
 refine ⟨fun h0=>(by rw [hr] at h0;cases h0),fun j hj=>?_⟩;rw [hr] at hj;obtain rfl:j=s:=by simpa using hj
 obtain ⟨g1,g2,_⟩:=zEB (cells:=cells) hb;unfold wpOp;simp only [ho];rw [if_pos (by simp [Region.wanted,hg])];refine Ag (wp_store_row ty x y hop N cells hx hy t old hb hsz hold h1 ?_);rw [hd];exact h _ g1 g2
theorem h_take (hj:ops[j]?=some oj) (hje:oj.dst=e') (hsel:Region.noSelect ops=true) (hf:Region.free md ops L j=true) (hr:(Region.ready md ops L).contains j=true)
  (hQ:∀ c a w,Q (.panic c) (a.put e' v) w->Q (.panic c) a w) (hy:YieldsIf P ops S oj v a) (hS:S w) (next:wpAnyH P md ops Q S f (L.setIfInBounds j true) (a.put e' v) w):wpAnyH P md ops Q S (f+1) L a w:=by
 subst hje;exact wpAnyH_take hj hsel hf hr hQ hy hS next
end
section
variable {P:Program} {ops:Array Oper} {rest:List Oper} {o:Oper} {a:Act} {w:World} {Q:Exit->Act->World->Prop}
theorem zC (hgd:o.guard=none) (ty:TypeId) (x y:Operand) (ho:o.op=.store ty x y) (g:Nat) (cells:Array Value) (hx:a.eval x=.pointer (Ab ⟨g,0,Aa⟩)) (hy:a.eval y=.agg cells)
  (t:TypeId) (old:Array Value) (hg:w.heap[g]?=Ab (.cells old t (0,0))) (hi:(P.info? ty).map (·.size)=some cells.size) (hold:old.size=cells.size) (h1:cells.all (·.oneCell')=true)
  (h:∀ w',w.grownBy w' (some g)->w'.heap[g]?=Ab (.cells cells t (0,0))->w'.heap.size=w.heap.size->wpList P ops Q rest (a.put o.dst undef) w'):wpList P ops Q (o :: rest) a w:=by
 obtain ⟨g1,g2,g3⟩:=zEB (cells:=cells) hg;exact wpList_store_row hgd ty x y ho g cells hx hy t old hg hi hold h1 (h _ g1 g2 g3)
end
theorem zB {cur:Array Value} {t:TypeId} {fz:Nat × Nat} (h:w.heap[N]?=Ab (.cells cur t fz)) (j:Nat) (v:Value) (hj:cur[j]?=some v):w.cell? ⟨N,j,Aa⟩=some v:=by
 rw [cell_of_row _ N j _ _ _ h];exact hj
theorem qK (w:World) (A B:Obj):((w.alloc A).alloc B).heap[w.heap.size]?=some A/\((w.alloc A).alloc B).heap[w.heap.size+1]?=some B:=by
 have e1:(w.alloc A).heap.size=w.heap.size+1:=by simp
 have a1:=zBA w A;have a2:=zBA (w.alloc A) B;have b1:=yA (w.alloc A) B;rw [e1] at a2 b1;exact ⟨(b1.block _ (by omega)).trans a1,a2⟩
theorem zJH (w:World) (A B C:Obj):(((w.alloc A).alloc B).alloc C).heap[w.heap.size]?=some A/\(((w.alloc A).alloc B).alloc C).heap[w.heap.size+1]?=some B/\(((w.alloc A).alloc B).alloc C).heap[w.heap.size+1+1]?=some C:=by
 have e1:(w.alloc A).heap.size=w.heap.size+1:=by simp
 have e2:((w.alloc A).alloc B).heap.size=w.heap.size+1+1:=by simp
 have a1:=zBA w A;have a2:=zBA (w.alloc A) B;have a3:=zBA ((w.alloc A).alloc B) C;have b1:=yA (w.alloc A) B;have b2:=yA ((w.alloc A).alloc B) C;rw [e1] at a2 b1;rw [e2] at a3 b2;exact ⟨(b2.block _ (by omega)).trans ((b1.block _ (by omega)).trans a1),(b2.block _ (by omega)).trans a2,a3⟩
def yBB (old:Array Value) (o:Nat) (cells:Array Value):Array Value:=(old.toList.take o ++ cells.toList ++ old.toList.drop (o+cells.size)).toArray
section
variable {P:Program} {ops:Array Oper} {rest:List Oper} {op:Oper} {a:Act} {w:World} {Q:Exit->Act->World->Prop}
theorem yCJ (w:World) (g o:Nat) (t ty:TypeId) (old cells:Array Value) (hg:w.heap[g]?=Ab (.cells old t (0,0))) (hi:(P.info? ty).map (·.size)=some cells.size)
  (ho:o+cells.size<=old.size) (h1:cells.all (·.oneCell')=true) :
  (storeVar ty ⟨g,o,Aa⟩ (.agg cells)).run P w=.ok () (w.setRow g (yBB old o cells)):=by
 have:=run_storeCells_at P g o t cells.toList 0 old w hg (by simp;omega) (fun v hv=>(Array.all_eq_true_iff_forall_mem.1 h1) v (by simpa using hv))
 cases hq:P.info? ty with
 | none=>simp [hq] at hi
 | some i=>
  have hs:cells.size=i.size:=by simp [hq] at hi;omega
  simp [storeVar,sizeOf,typeInfo,hq,Value.cells,hs,this,yBB]
theorem yY (hgd:op.guard=none) (ty:TypeId) (x y:Operand) (ho:op.op=.store ty x y) (g o:Nat) (cells:Array Value) (hx:a.eval x=.pointer (Ab ⟨g,o,Aa⟩)) (hy:a.eval y=.agg cells)
  (t:TypeId) (old:Array Value) (hg:w.heap[g]?=Ab (.cells old t (0,0))) (hi:(P.info? ty).map (·.size)=some cells.size) (hold:o+cells.size<=old.size) (h1:cells.all (·.oneCell')=true) (new:Array Value) (hn:yBB old o cells=new)
  (h:∀ w',w.grownBy w' (some g)->w'.heap[g]?=Ab (.cells new t (0,0))->wpList P ops Q rest (a.put op.dst undef) w'):wpList P ops Q (op :: rest) a w:=by
 subst hn;obtain ⟨g1,g2,_⟩:=zEB (cells:=yBB old o cells) hg;refine wpList_plain hgd fun K hK=>?_
 unfold Oper.wp execOp;simp only [ho,hx,hy,Instr.storeAt,Instr.sureAddr,Sem.run_bind,Sem.run_pure,Result.andThen_ok,yCJ w g o t ty old cells hg hi hold h1];exact hK _ _ (h _ g1 g2)
theorem zU (hgd:op.guard=none) (ty:TypeId) (x y:Operand) (ho:op.op=.store ty x y) (g o:Nat) (u:Value) (hx:a.eval x=.pointer (Ab ⟨g,o,Aa⟩)) (hy:a.eval y=u)
  (t:TypeId) (old:Array Value) (hg:w.heap[g]?=Ab (.cells old t (0,0))) (hi:(P.info? ty).map (·.size)=some 1) (hold:o < old.size) (h1:u.oneCell'=true) (new:Array Value) (hn:old.setIfInBounds o u=new)
  (h:∀ w',w.grownBy w' (some g)->w'.heap[g]?=Ab (.cells new t (0,0))->wpList P ops Q rest (a.put op.dst undef) w'):wpList P ops Q (op :: rest) a w:=by
 subst hn;refine wpList_plain hgd fun K hK=>?_
 have b:w.cell? ⟨g,o,Aa⟩=some old[o]:=by rw [cell_of_row _ g o _ _ _ hg];simp [hold]
 have d:=frozen_of_row _ g o _ _ hg
 have f:(storeVar ty ⟨g,o,Aa⟩ u).run P w=.ok () (w.setCell ⟨g,o,Aa⟩ u):=by
  cases hq:P.info? ty with
  | none=>simp [hq] at hi
  | some i=>
   have l:i.size=1:=by simpa [hq] using hi
   have j:u.cells=#[u]:=by cases u <;> first | rfl | simp [Value.oneCell'] at h1
   have c:(⟨g,o,Aa⟩:Addr).add 0=⟨g,o,Aa⟩:=by unfold Addr.add;split <;> simp_all
   simp [storeVar,sizeOf,typeInfo,hq,l,j,storeCells,c,run_store P w _ u _ h1,b,d]
 unfold Oper.wp execOp;simp only [ho,hx,hy,Instr.storeAt,Instr.sureAddr,Sem.run_bind,Sem.run_pure,Result.andThen_ok,f];exact hK _ _ (h _ ⟨rfl,rfl,rfl,by simp,fun k _ hk=>heap_setCell_other w ⟨g,o,Aa⟩ k u (fun e=>hk (by simp [e]))⟩ (heap_setCell_same w g o old t u hg))
theorem w_sc {t:TypeId} {ty:TypeId} (g o:Nat) (u:Value) (hg:w.heap[g]?=Ab (.cells old t (0,0))) (hold:o < old.size) (h1:u.oneCell'=true) (new:Array Value) (hn:old.setIfInBounds o u=new)
  (h:∀ w',w.grownBy w' (some g)->w'.heap[g]?=Ab (.cells new t (0,0))->wpList P ops Q rest (a.put op.dst undef) w') (hgd:op.guard=none:=by exact rfl) (ho:op.op=.store ty x y:=by exact rfl) (hx:a.eval x=.pointer (Ab ⟨g,o,Aa⟩):=by exact rfl) (hy:a.eval y=u:=by exact rfl) (hi:(P.info? ty).map (·.size)=some 1:=by kernel_rfl):wpList P ops Q (op :: rest) a w:=zU hgd ty x y ho g o u hx hy t old hg hi hold h1 new hn h
end
section
variable {α:Type} {f:α->List Value} {m:Nat}
def zE (f:α->List Value) (xs:List α):List Value:=xs.flatMap f
theorem jX (hm:∀ x,(f x).length=m) (xs:List α):(zE f xs).length=xs.length * m:=by
 induction xs with
 | nil=>simp [zE]
 | cons x xs ih=>
  have e:zE f (x :: xs)=f x ++ zE f xs:=rfl;rw [e,Ae,hm,ih,Ak,Nat.add_mul];omega
theorem zY (xs ys:List α):zE f (xs ++ ys)=zE f xs ++ zE f ys:=by simp [zE]
theorem jY (hm:∀ x,(f x).length=m):∀ (xs:List α) i (h:i < xs.length) j,j < m->(zE f xs)[i * m+j]?=(f xs[i])[j]?:=by
 intro xs
 induction xs with
 | nil=>intro i h;simp at h
 | cons x xs ih=>
  intro i h j hj;have e:zE f (x :: xs)=f x ++ zE f xs:=rfl;rw [e]
  cases i with
  | zero=>rw [Nat.zero_mul,Nat.zero_add,List.getElem?_append_left (by rw [hm];exact hj)];rfl
  | succ i=>
   have h':i < xs.length:=by simpa using h
   have e2:(i+1) * m+j=(f x).length+(i * m+j):=by rw [hm,Nat.add_mul];omega
   rw [e2,List.getElem?_append_right (by omega),Nat.add_sub_cancel_left,ih i h' j hj];rfl
def yM (w:World) (v:Value) (m:Nat) (f:α->List Value) (xs:List α):Prop:=
 ∃ a cap,v=.slice a xs.length cap/\(0 < xs.length->∃ g off,a=Ab ⟨g,off,Aa⟩/\g < w.heap.size/\
  ∀ i (h:i < xs.length) j,j < m->w.cell? ⟨g,off+i * m+j,Aa⟩=(f xs[i])[j]?)
theorem yM.below {xs:List α} (h:yM w v m f xs) (hb:Below w.heap.size w w'):yM w' v m f xs:=by
 obtain ⟨a,cap,rfl,hr⟩:=h;refine ⟨a,cap,rfl,fun hl=>?_⟩;obtain ⟨g,b,rfl,hg,hc⟩:=hr hl;refine ⟨g,b,rfl,Nat.lt_of_lt_of_le hg hb.size,fun i hi j hj=>?_⟩;rw [hb.cell (by exact hg)];exact hc i hi j hj
theorem zW (hm:∀ x,(f x).length=m) {base:Nat} {e:TypeId} {xs:List α} (h:w.ownsRow base e m v xs.length (zE f xs)):yM w v m f xs:=by
 obtain ⟨hl,⟨rfl,h0⟩ | ⟨g,cap,b,rfl,hb,hh,hn,hc,hs,ht⟩⟩:=h
 ·exact ⟨none,0,by rw [h0],fun hp=>by omega⟩
 ·refine ⟨_,cap,rfl,fun _=>⟨g,0,rfl,?_,fun i hi j hj=>?_⟩⟩
  ·rcases Nat.lt_or_ge g w.heap.size with h | h
   ·exact h
   ·rw [Array.getElem?_eq_none h] at hh;cases hh
  ·have hf:=jY hm xs i hi j hj
   have a:i * m+j < xs.length * m:=by
    have:=Nat.mul_le_mul_right m (show i+1<=xs.length from hi);rw [Nat.add_mul] at this;omega
   rw [<- ht,List.getElem?_take_of_lt a] at hf;rw [cell_of_row w g _ b _ _ hh]
   simpa using hf
def upToR (f:α->List Value) (m:Nat) (xs:List α) (ys:List Value) (k:Nat):Prop:=ys.length=xs.length * m/\∀ j,j < k * m->ys[j]?=(zE f xs)[j]?
theorem upToR_zero {xs:List α} (h:ys.length=xs.length * m):upToR f m xs ys 0:=⟨h,fun j hj=>by omega⟩
theorem upToR_all (hm:∀ x,(f x).length=m) {xs:List α} (h:upToR f m xs ys xs.length):ys=zE f xs:=by
 apply List.ext_getElem?
 intro j
 by_cases hj:j < xs.length * m
 ·exact h.2 j hj
 ·rw [List.getElem?_eq_none (by rw [h.1];omega),List.getElem?_eq_none (by rw [jX hm];omega)]
theorem upToR_step (hm:∀ x,(f x).length=m) {xs:List α} {zs:List Value} {k:Nat} (h:upToR f m xs ys k) (hk:k < xs.length) (hl:zs.length=ys.length)
  (hold:∀ j,j < k * m->zs[j]?=ys[j]?) (hnew:∀ j,j < m->zs[k * m+j]?=(f xs[k])[j]?):upToR f m xs zs (k+1):=by
 refine ⟨by rw [hl,h.1],fun j hj=>?_⟩
 by_cases h1:j < k * m
 ·rw [hold j h1];exact h.2 j h1
 ·have e:j=k * m+(j - k * m):=by omega
  have a:j - k * m < m:=by rw [Nat.add_mul] at hj;omega
  rw [e,hnew _ a,jY hm xs k hk _ a]
end
theorem zDG {base:Nat} {e:TypeId} (h:w.ownsRow base e m (.slice (Ab ⟨g,0,Aa⟩) n cap) n xs) (k:Nat) (hk:k < n * m) :
  w.cell? ⟨g,k,Aa⟩=xs[k]?/\w.frozen? ⟨g,k,Aa⟩=false:=⟨h.cellAt _ hk,h.frozenAt _⟩
theorem yL {base:Nat} {e:TypeId} (h:w.ownsRow base e m v n xs):∃ a cap,v=.slice a n cap/\(0 < n->∃ g,a=Ab ⟨g,0,Aa⟩):=by
 obtain ⟨hl,⟨rfl,h0⟩ | ⟨g,cap,b,rfl,_⟩⟩:=h
 ·exact ⟨none,0,by rw [h0],fun hp=>by omega⟩
 ·exact ⟨_,cap,rfl,fun _=>⟨g,rfl⟩⟩
def xJ (n:Int):List Value:=[I U n]
theorem jG (n:Int):(xJ n).length=1:=rfl
theorem flat_int (xs:List Int):zE xJ xs=xs.map (Value.int U):=by
 induction xs with
 | nil=>rfl
 | cons x xs ih=>simp [zE,xJ] at ih ⊢;exact ih
theorem own_ne {e1 e2:TypeId} (h1:w1.ownsRow b1 e1 m1 v1 n1 xs1) (h2:w2.ownsRow b2 e2 m2 v2 n2 xs2) (h:w1.heap.size<=b2):v2.ownBlock=none∨v2.ownBlock ≠ v1.ownBlock:=by
 cases e:v2.ownBlock with
 | none=>exact Ag rfl
 | some g=>
  refine Ah fun he=>?_
  have l2:=(h2.lt g e).1;have l1:=(h1.lt g he.symm).2;omega
theorem own_ne' {e1 e2:TypeId} (h1:w1.ownsRow b1 e1 m1 v1 n1 xs1) (h2:w2.ownsRow b2 e2 m2 v2 n2 xs2) (h:w1.heap.size<=b2):v1.ownBlock=none∨v1.ownBlock ≠ v2.ownBlock:=by
 cases e:v1.ownBlock with
 | none=>exact Ag rfl
 | some g=>
  refine Ah fun he=>?_
  have l2:=(h2.lt g he.symm).1;have l1:=(h1.lt g e).2;omega
theorem one_int (x:Int):∀ u∈([I U x]:List Value),u.oneCell'=true:=by
 intro u hu;simp at hu;subst hu;rfl
theorem blk_three {u0 u1 u2:Value} {t:TypeId} (h:w.heap[N]?=Ab (.cells #[u0,u1,u2] t (0,0))) (a b c:Value) :
  (w.cell? ⟨N,0,Aa⟩=some u0/\w.frozen? ⟨N,0,Aa⟩=false)/\((w.setCell ⟨N,0,Aa⟩ a).cell? ⟨N,1,Aa⟩=some u1/\(w.setCell ⟨N,0,Aa⟩ a).frozen? ⟨N,1,Aa⟩=false)/\
   (((w.setCell ⟨N,0,Aa⟩ a).setCell ⟨N,1,Aa⟩ b).cell? ⟨N,2,Aa⟩=some u2/\((w.setCell ⟨N,0,Aa⟩ a).setCell ⟨N,1,Aa⟩ b).frozen? ⟨N,2,Aa⟩=false)/\
   (((w.setCell ⟨N,0,Aa⟩ a).setCell ⟨N,1,Aa⟩ b).setCell ⟨N,2,Aa⟩ c).heap[N]?=Ab (.cells #[a,b,c] t (0,0))/\
   w.grownBy (((w.setCell ⟨N,0,Aa⟩ a).setCell ⟨N,1,Aa⟩ b).setCell ⟨N,2,Aa⟩ c) (some N):=by
 have h0:(w.setCell ⟨N,0,Aa⟩ a).heap[N]?=Ab (.cells #[a,u1,u2] t (0,0)):=heap_setCell_same w N 0 _ t a h;have h1:((w.setCell ⟨N,0,Aa⟩ a).setCell ⟨N,1,Aa⟩ b).heap[N]?=Ab (.cells #[a,b,u2] t (0,0)):=heap_setCell_same _ N 1 _ t b h0;have h2:(((w.setCell ⟨N,0,Aa⟩ a).setCell ⟨N,1,Aa⟩ b).setCell ⟨N,2,Aa⟩ c).heap[N]?=Ab (.cells #[a,b,c] t (0,0)):=heap_setCell_same _ N 2 _ t c h1;refine ⟨⟨?_,frozen_of_row w N 0 _ _ h⟩,⟨?_,frozen_of_row _ N 1 _ _ h0⟩,⟨?_,frozen_of_row _ N 2 _ _ h1⟩,h2,zP (zP (yK w N 0 a) (yK _ N 1 b)) (yK _ N 2 c)⟩
 ·rw [cell_of_row w N 0 _ _ (0,0) h];rfl
 ·rw [cell_of_row _ N 1 _ _ (0,0) h0];rfl
 ·rw [cell_of_row _ N 2 _ _ (0,0) h1];rfl
theorem own_far {base B:Nat} {e:TypeId} (h:w.ownsRow base e m v n xs) (hB:B < base):v.ownBlock=none∨v.ownBlock ≠ some B:=by
 cases e0:v.ownBlock with
 | none=>exact .inl rfl
 | some k=>right;intro e;have:=(h.lt k e0).1;have:=Ac e;omega
theorem hid {p:Prop} (h:p):Hid p:=h
def setEl (xs:List Value) (k m:Nat) (cs:List Value):List Value:=xs.take (k * m) ++ cs ++ xs.drop (k * m+m)
theorem take_three (A B C:List Value) (N:Nat) (h:A.length+B.length<=N):(A ++ B ++ C).take N=A ++ B ++ C.take (N - (A.length+B.length)):=by
 rw [List.take_append,List.take_of_length_le (by rw [Ae];exact h),Ae]
theorem own_part {base:Nat} {e:TypeId} {cur:Array Value}
  (h:w.ownsRow base e m (.slice (Ab ⟨g,0,Aa⟩) n cap) n xs) (hcur:w.heap[g]?=Ab (.cells cur e (0,0))) (k:Nat) (hk:k < n) (cells:Array Value) (hc:cells.size=m)
  (hg:w'.heap[g]?=Ab (.cells (yBB cur (k * m) cells) e (0,0))):w'.ownsRow base e m (.slice (Ab ⟨g,0,Aa⟩) n cap) n (setEl xs k m cells.toList):=by
 obtain ⟨hl,⟨hv,_⟩ | ⟨g',i,j,hv,hb,hh,hn,d,hs,ht⟩⟩:=h
 ·cases hv
 ·injection hv with a _ c
  injection a with a
  injection a with a
  subst a c;rw [hcur] at hh;injection hh with hh
  injection hh with hh
  subst hh;have f:k * m+m<=n * m:=by have:=Nat.mul_le_mul_right m (show k+1<=n from hk);rw [Nat.add_mul] at this;omega
  have l:n * m<=cap * m:=Nat.mul_le_mul_right m hn;have b:cells.toList.length=m:=by simpa using hc
  refine ⟨?_,Ah ⟨g,cap,_,rfl,hb,hg,hn,d,?_,?_⟩⟩
  ·unfold setEl;simp only [Ae,Ai,List.length_drop,hl,b];omega
  ·unfold yBB;simp only [List.size_toArray,Ae,Ai,List.length_drop,Array.length_toList,hs,b,hc];omega
  ·unfold yBB setEl;rw [List.toList_toArray,hc,<- ht];have e1:(cur.toList.take (n * m)).take (k * m)=cur.toList.take (k * m):=by rw [List.take_take];congr 1;omega
   have e2:(cur.toList.take (n * m)).drop (k * m+m)=(cur.toList.drop (k * m+m)).take (n * m - (k * m+m)):=by rw [List.drop_take]
   have l1:(cur.toList.take (k * m)).length=k * m:=by rw [Ai,Array.length_toList,hs];omega
   rw [e1,e2,take_three _ _ _ _ (by rw [l1,b];exact f),l1,b]
section
variable {P:Program} {ops:Array Oper} {rest:List Oper} {op:Oper} {a:Act} {w:World} {Q:Exit->Act->World->Prop}
end
open Go.ChangeShapes Go.WideShapes Go.ChangeAt
theorem faults_s (n:Int) (w:World) (h0:-9223372036854775808<=n) (h1:n<=9223372036854775807) :
  Calls prog 160 #[I U n] w fun e w'=>e=.returned (I U (zDE n))/\w'=w:=by
 by_cases h:n < 1
 ·have HF:Hid (zDE n=0):=if_pos h;go_enter func160,ntmps160;go_wp2;go_ret;exact ⟨jD HF.symm,rfl⟩
 ·have HF:Hid (zDE n=(n - 1) / 3):=if_neg h;go_enter func160,ntmps160;go_wp2;go_ret;exact ⟨jD HF.symm,rfl⟩
theorem faults_le (n:Int):0<=zDE n/\(1<=n->zDE n < n):=by
 unfold zDE
 split
 ·exact ⟨Int.le_refl _,fun h=>by omega⟩
 ·exact ⟨by omega,fun h=>by omega⟩
theorem faults_low {n:Int} (h:n < 1):zDE n=0:=if_pos h
theorem quorum_s (n:Int) (w:World) (h0:-9223372036854775808<=n) (h1:n<=9223372036854775807) :
  Calls prog 155 #[I U n] w fun e w'=>e=.returned (I U (zBD n))/\w'=w:=by
 obtain ⟨f,hf⟩:∃ f,f=zDE n:=⟨_,rfl⟩;have f0:0<=f:=by rw [hf];exact (faults_le n).1
 have f1:n - f<=9223372036854775807:=by omega
 have f2:-9223372036854775808<=n - f:=by
  by_cases h:n < 1
  ·rw [hf,faults_low h];omega
  ·have:=(faults_le n).2 (by omega);omega
 have HF:=hid hf.symm;clear hf;go_enter func155,ntmps155;go_wp2_with fail
 refine (faults_s n w h0 h1).mono ?_;rintro e w' ⟨rfl,hw⟩;obtain rfl:=hw.symm;clear hw;rw [HF.out];go_wp2;go_ret;exact ⟨jD (by unfold zBD;rw [HF.out]),rfl⟩
theorem leader_s (view n:Int) (w:World) (_:-9223372036854775808<=n) (h1:n<=9223372036854775807) (_:-9223372036854775808<=view) (h3:view<=9223372036854775807) :
  Calls prog 121 #[I U view,I U n] w fun e w'=>e=.returned (I U (xQ view n))/\w'=w:=by
 by_cases h:n < 1
 ·have HF:Hid (xQ view n=0):=if_pos (Ag h);go_enter func121,ntmps121;go_wp2;go_ret;exact ⟨jD HF.symm,rfl⟩
 ·by_cases hv:view < 0
  ·have HF:Hid (xQ view n=0):=if_pos (Ah hv);go_enter func121,ntmps121;go_wp2;go_ret;exact ⟨jD HF.symm,rfl⟩
  ·have HF:Hid (xQ view n=view / 4 % n):=if_neg (by omega);have q0:0<=view / 4:=by omega
   go_enter func121,ntmps121;go_wp2;go_ret;exact ⟨jD HF.symm,rfl⟩
theorem shr_bit {s:Int} (h:0<=s) (k:Nat):(s / 2 ^ k).tmod 2=zAA s k:=by
 unfold zAA;exact Int.tmod_eq_emod_of_nonneg (Int.ediv_nonneg h (Int.le_of_lt (Int.pow_pos (by omega))))
theorem shr_odd (s:Int) (k:Nat):((s / 2 ^ k).tmod 2=0)↔zAA s k=0:=by
 unfold zAA;rw [<- Int.dvd_iff_tmod_eq_zero,<- Int.dvd_iff_emod_eq_zero]
theorem wrap64_fit {x:Int} (h0:-9223372036854775808<=x) (h1:x<=9223372036854775807):wrap64 x=x:=by unfold wrap64;omega
theorem count_s (s:Int) (w:World) (_:-9223372036854775808<=s) (h1:s<=9223372036854775807) :
  Calls prog 37 #[I U s] w fun e w'=>e=.returned (I U (zFH s))/\w'=w:=by
 by_cases h:s < 0
 ·have HF:Hid (zFH s=0):=if_pos h;have h':¬ 0<=s:=by omega
  go_enter func37,ntmps37;go_wp2
  go_loop [3,4] (fun n i=>n=I U 0/\i=I U 0) (fun _ _=>0)
  case atStart=>exact ⟨rfl,rfl⟩
  case round=>
   obtain ⟨rfl,rfl⟩:=hrel;go_wp2;go_ret;exact ⟨jD HF.symm,rfl⟩
 ·have HF:Hid (zFH s=cntTo s 7):=if_neg h;have h':0<=s:=by omega
  go_enter func37,ntmps37;go_wp2
  go_loop [3,4] (fun n i=>∃ k:Nat,k<=7/\n=I U (cntTo s k)/\i=I U (k:Int)) (fun _ i=>7 - (intOf i).toNat)
  case atStart=>exact ⟨0,by omega,rfl,rfl⟩
  case round=>
   obtain ⟨k,hk,rfl,rfl⟩:=hrel;obtain ⟨c0,c1⟩:=cntTo_bounds s k
   by_cases hlt:(k:Int) < 7
   ·have hb:=bitT_cases s k;have HW:Hid (wrap64 (cntTo s k+(s / 2 ^ k).tmod 2)=cntTo s (k+1)):=hid (by rw [shr_bit h' k,wrap64_fit (by omega) (by omega)];rfl);go_wp2
    go_round
    case rel=>exact ⟨k+1,by omega,by rw [HW.out],by simp⟩
    case measure=>simp [intOf];omega
   ·have:k=7:=by omega
    subst this;go_wp2;go_ret;exact ⟨jD HF.symm,rfl⟩
def xD (v:VT):List Value:=[I U v.1,I U v.2.1,I U v.2.2.1,I U v.2.2.2]
theorem kW (v:VT):(xD v).length=4:=rfl
def voteV (v:VT):Value:=.agg #[I U v.1,I U v.2.1,I U v.2.2.1,I U v.2.2.2]
theorem kP (v:VT):∀ u∈xD v,u.oneCell'=true:=by
 intro u hu;unfold xD at hu;simp at hu;rcases hu with h | h | h | h <;> subst h <;> rfl
def saidAt (x:VT) (p v b by':Int):Bool:=decide (x.2.2.2=by') && (decide (x.1=p) && (decide (x.2.1=v) && decide (x.2.2.1=b)))
def noneTo (l:List VT) (p v b by':Int) (m:Nat):Prop:=∀ j (h:j < l.length),j < m->saidAt l[j] p v b by'=false
theorem said_yes {l:List VT} {p v b:Int} (h:m < l.length) (hs:saidAt l[m] p v b by'=true):saidV l p v b by'=true:=List.any_eq_true.2 ⟨l[m],Ad h,hs⟩
theorem said_no {l:List VT} {p v b:Int} (h:noneTo l p v b by' l.length):saidV l p v b by'=false:=by
 refine List.any_eq_false.2 fun x hx=>?_
 obtain ⟨j,hj,rfl⟩:=List.mem_iff_getElem.1 hx;have:=h j hj hj;unfold saidAt at this;rw [this];simp
theorem yCG {l:List VT} {p v b:Int} (h:noneTo l p v b by' m) (hm:∀ hm:m < l.length,saidAt l[m] p v b by'=false):noneTo l p v b by' (m+1):=fun j hj a=>by
 by_cases e:j=m
 ·subst e;exact hm hj
 ·exact h j hj (by omega)
theorem sigTo_yes {l:List VT} {p v b:Int} {k:Nat} (h:saidV l p v b (k:Int)=true):zHG l p v b (k+1)=zHG l p v b k+2 ^ k:=by show _+(if _ then _ else _)=_;rw [if_pos h]
theorem sigTo_no {l:List VT} {p v b:Int} {k:Nat} (h:saidV l p v b (k:Int)=false):zHG l p v b (k+1)=zHG l p v b k:=by show _+(if _ then _ else _)=_;rw [if_neg (by rw [h];decide)];omega
theorem pow_seven {k:Nat} (h:k < 7):(0:Int) < 2 ^ k/\(2:Int) ^ k<=64:=by
 match k,h with
 | 0,_=>decide
 | 1,_=>decide
 | 2,_=>decide
 | 3,_=>decide
 | 4,_=>decide
 | 5,_=>decide
 | 6,_=>decide
theorem signers_s (l:List VT) (va:Value) (p v b:Int) (w:World) (ha:yM w va 4 xD l) (hl:(l.length:Int)<=1048576) :
  Calls prog 157 #[va,I U p,I U v,I U b] w fun e w'=>e=.returned (I U (jP l p v b))/\Below w.heap.size w w':=by
 obtain ⟨a,cap,rfl,hr⟩:=ha;have HR:=hid hr;clear hr;go_enter func157,ntmps157;go_wp2
 go_loopw [9,10] (fun n y wr=>∃ k:Nat,k<=7/\n=I U (zHG l p v b k)/\y=I U (k:Int)/\Below w.heap.size w wr) (fun _ y _=>7 - (intOf y).toNat)
 case atStart=>exact ⟨0,by omega,rfl,rfl,br _ _⟩
 case round=>
  obtain ⟨k,hk,rfl,rfl,o⟩:=hrel;obtain ⟨s0,s1⟩:=zEC l p v b k;have z:k < 7->(0:Int) < 2 ^ k/\(2:Int) ^ k<=64:=pow_seven;obtain ⟨s,hs⟩:∃ s,s=zHG l p v b k:=⟨_,rfl⟩;have HS:=hid hs.symm;rw [<- hs] at s0 s1 ⊢;clear hs
  by_cases hlt:(k:Int) < 7
  ·obtain ⟨w0,w1⟩:=z (by omega);clear z;go_wp2
   go_loopw [9,11] (fun n i wq=>∃ m:Nat,m<=l.length/\n=I U s/\i=I U (m:Int)/\Hid (noneTo l p v b (k:Int) m)/\Below w.heap.size w wq) (fun _ i _=>l.length - (intOf i).toNat)
   case atStart=>exact ⟨0,Nat.zero_le _,rfl,rfl,fun j _ h=>by omega,o⟩
   case round=>
    obtain ⟨m,hm,rfl,rfl,HN,c⟩:=hrel;clear o;have ab:=hid c
    by_cases hml:(m:Int) < l.length
    ·have r:m < l.length:=by omega
     obtain ⟨g,t,rfl,hg,hc⟩:=HR (by omega);have q0:(0:Int)<=(m:Int):=by omega
     obtain ⟨x,hx⟩:∃ x,x=l[m]:=⟨_,rfl⟩;have HX:=hid hx;obtain ⟨x0,x1,x2,x3⟩:=x;have c0:wr.cell? ⟨g,t+m * 4,Aa⟩=Ab (I U x0):=by rw [c.cell (by exact hg)];have:=hc m r 0 (by omega);rw [<- hx] at this;exact this
     have c1:wr.cell? ⟨g,t+m * 4+1,Aa⟩=Ab (I U x1):=by rw [c.cell (by exact hg)];have:=hc m r 1 (by omega);rw [<- hx] at this;exact this
     have c2:wr.cell? ⟨g,t+m * 4+2,Aa⟩=Ab (I U x2):=by rw [c.cell (by exact hg)];have:=hc m r 2 (by omega);rw [<- hx] at this;exact this
     have c3:wr.cell? ⟨g,t+m * 4+3,Aa⟩=Ab (I U x3):=by rw [c.cell (by exact hg)];have:=hc m r 3 (by omega);rw [<- hx] at this;exact this
     have f:Hid (Below w.heap.size w (wr.alloc (.cells #[I U x0,I U x1,I U x2,I U x3] 28))):=ba c _;clear hc hx c
     by_cases h3:x3=(k:Int)
     ·have d3:(x3 == (k:Int))=true:=by simpa using h3
      by_cases h0:x0=p
      ·have d0:(x0 == p)=true:=by simpa using h0
       by_cases h1:x1=v
       ·have d1:(x1 == v)=true:=by simpa using h1
        by_cases h2:x2=b
        ·have d2:(x2 == b)=true:=by simpa using h2
         have HT:Hid (zHG l p v b (k+1)=s+2 ^ k):=hid (by rw [sigTo_yes (said_yes r (by rw [<- HX.out];unfold saidAt;simp [h0,h1,h2,h3])),HS.out]);clear h0 h1 h2 h3;go_wp2
         go_roundw
         case rel=>exact ⟨k+1,by omega,by rw [HT.out],by simp,f⟩
         case measure=>simp [intOf];omega
        ·have d2:(x2 == b)=false:=by simpa using h2
         have d:Hid (noneTo l p v b (k:Int) (m+1)):=yCG HN fun _=>by rw [<- HX.out];unfold saidAt;simp [h2]
         clear h3 h0 h1 h2;go_wp2
         go_roundw
         case rel=>exact ⟨m+1,by omega,rfl,by go_num,d,f⟩
         case measure=>simp [intOf];omega
       ·have d1:(x1 == v)=false:=by simpa using h1
        have d:Hid (noneTo l p v b (k:Int) (m+1)):=yCG HN fun _=>by rw [<- HX.out];unfold saidAt;simp [h1]
        clear h3 h0 h1;go_wp2
        go_roundw
        case rel=>exact ⟨m+1,by omega,rfl,by go_num,d,f⟩
        case measure=>simp [intOf];omega
      ·have d0:(x0 == p)=false:=by simpa using h0
       have d:Hid (noneTo l p v b (k:Int) (m+1)):=yCG HN fun _=>by rw [<- HX.out];unfold saidAt;simp [h0]
       clear h3 h0;go_wp2
       go_roundw
       case rel=>exact ⟨m+1,by omega,rfl,by go_num,d,f⟩
       case measure=>simp [intOf];omega
     ·have d3:(x3 == (k:Int))=false:=by simpa using h3
      have d:Hid (noneTo l p v b (k:Int) (m+1)):=yCG HN fun _=>by rw [<- HX.out];unfold saidAt;simp [h3]
      clear h3;go_wp2
      go_roundw
      case rel=>exact ⟨m+1,by omega,rfl,by go_num,d,f⟩
      case measure=>simp [intOf];omega
    ·have u:m=l.length:=by omega
     have HT:Hid (zHG l p v b (k+1)=s):=hid (by rw [sigTo_no (said_no (by rw [<- u];exact HN.out)),HS.out]);clear u;go_wp2
     go_roundw
     case rel=>exact ⟨k+1,by omega,by rw [HT.out],by go_num,ab⟩
     case measure=>simp [intOf];omega
  ·have aa:k=7:=by omega
   have HT:Hid (jP l p v b=s):=hid (by rw [aa] at HS;exact HS.out);clear aa;go_wp2;go_ret;exact ⟨jD HT.symm,o⟩
def wfV (v:VT):Prop:=(Lit.int U v.1).wf=true/\(Lit.int U v.2.1).wf=true/\(Lit.int U v.2.2.1).wf=true/\(Lit.int U v.2.2.2).wf=true
theorem infoVote:(prog.info? 28).map (fun i=>(i.zero,i.size,i.bytes))=Ab (Ab (.agg #[I U 0,I U 0,I U 0,I U 0]),4,32):=by kernel_rfl
end Go.Proofs.YtfnneillakdopacGreatR
namespace Go.Proofs.YtfnneillakdopacGreatR.Num
variable {a:Act} {L listed:Array Bool} {ops:Array Oper} {A args old:Array Value} {k key:ByteArray} {fn:FuncId} {by' sc:Int} {rest:List Oper} {xc xe xn xr xs xs1 xs2 xu xv ys:List Value} {N b1 b2 cap f g hi hi' i id j lo lo' m m1 m2 n n1 n2:Nat} {obj:Obj} {o oc oi oj os:Oper} {x y:Operand} {r:Option Nat} {d e':Option Tmp} {P:Program} {cv v v1 v2:Value} {w w' w1 w2:World}
def dd:Nat->Nat->List Int
 | 0,_=>[]
 | f+1,n=>if n=0 then [] else dd f (n / 10) ++ [(48:Int)+((n % 10:Nat):Int)]
end Go.Proofs.YtfnneillakdopacGreatR.Num
namespace Go.Proofs.YtfnneillakdopacGreatR
open _root_.Go.Proofs.Tryz
open Go.Value renaming int->I,oneCell'->Ak,ownBlock->Ao
open Go.IntKind renaming i64->U
open Option renaming none->Aa,some->Ab
open Nat renaming le_trans->Ac,lt_of_lt_of_le->Ad,zero_le->Ae
open Option.some renaming inj->Af
open List renaming getElem_mem->Ag,length_append->Ah,length_take->Ap,mem_cons->Ar
open Go.World.ownsRow renaming kept->Ai,alloc->Aj
open Or renaming inl->Al,inr->Am
open _root_.ByteArray renaming empty->An
open Bool renaming and_eq_true->Aq
open Go.ChangeShapes Go.WideShapes Go.ChangeAt Go.RowKit
variable {a:Act} {L listed:Array Bool} {ops:Array Oper} {A args old:Array Value} {k key:ByteArray} {fn:FuncId} {by' sc:Int} {rest:List Oper} {xc xe xn xr xs xs1 xs2 xu xv ys:List Value} {N b1 b2 cap f g hi hi' i id j lo lo' m m1 m2 n n1 n2:Nat} {obj:Obj} {o oc oi oj os:Oper} {x y:Operand} {r:Option Nat} {d e':Option Tmp} {P:Program} {cv v v1 v2:Value} {w w' w1 w2:World}
def yE (l:LT):List Value:=[I U l.1.1,I U l.1.2.1,I U l.1.2.2.1,I U l.1.2.2.2.1,I U l.1.2.2.2.2,I U l.2.1.1,I U l.2.1.2.1,I U l.2.1.2.2.1,I U l.2.1.2.2.2,I U l.2.2.1,I U l.2.2.2.1,I U l.2.2.2.2.1,I U l.2.2.2.2.2]
def letV (l:LT):Value:=.agg #[I U l.1.1,I U l.1.2.1,I U l.1.2.2.1,I U l.1.2.2.2.1,I U l.1.2.2.2.2,I U l.2.1.1,I U l.2.1.2.1,I U l.2.1.2.2.1,I U l.2.1.2.2.2,I U l.2.2.1,I U l.2.2.2.1,I U l.2.2.2.2.1,I U l.2.2.2.2.2]
def wfL (l:LT):Prop:=((Lit.int U l.1.1).wf=true/\(Lit.int U l.1.2.1).wf=true/\(Lit.int U l.1.2.2.1).wf=true/\(Lit.int U l.1.2.2.2.1).wf=true/\(Lit.int U l.1.2.2.2.2).wf=true)/\wfQ l.2.1/\wfQ l.2.2
open Num
theorem xP (l:LT):(yE l).length=13:=rfl
theorem zBJ:(prog.info? 61).map (fun i=>(i.zero,i.size,i.bytes))=Ab (Ab (.agg #[I U 0,I U 0,I U 0,I U 0,I U 0,I U 0,I U 0,I U 0,I U 0,I U 0,I U 0,I U 0,I U 0]),13,104):=by kernel_rfl
def goodInt (z:Int):Prop:=(Lit.int U z).wf=true
theorem infoIntL:(prog.info? 3).map (fun i=>(i.zero,i.size,i.bytes))=Ab (Ab (I U 0),1,8):=by kernel_rfl
abbrev UN:=ByteArray × Bool × Int
def yDB (cs:CL) (key:ByteArray):UN:=match cs.find? (fun d=>decide (d.1=key)) with
 | none=>(key,false,0)
 | some d=>(key,true,d.2)
def zHH (u:UN):Bool:=zIJ u.1 && zEH u.2.2
def backC (cs:CL) (u:UN):CL:=if u.2.1=true then putC cs (u.1,u.2.2) else cs.filter fun c=>decide (c.1 ≠ u.1)
def jK (cs:CL) (u:UN):CL:=if (kS cs && zHH u)=false then cs else backC cs u
def jQ:CL->List CM->List UN
 | _,[]=>[]
 | cs,c :: l=>yDB cs c.2.1 :: jQ (yAA cs c) l
def xY (cs:CL) (us:List UN):CL:=us.foldr (fun u acc=>jK acc u) cs
theorem back_true (cs:CL) (k:ByteArray) (n:Int):backC cs (k,true,n)=putC cs (k,n):=if_pos rfl
theorem back_false (cs:CL) (k:ByteArray) (n:Int):backC cs (k,false,n)=cs.filter fun c=>decide (c.1 ≠ k):=if_neg (by simp)
theorem undo_key (cs:CL) (key:ByteArray):(yDB cs key).1=key:=by unfold yDB;split <;> rfl
theorem undo_no {cs:CL} (h:zBB cs key=false):yDB cs key=(key,false,0):=by
 unfold yDB;rw [List.find?_eq_none.2 fun c hc=>by simpa using hasK_no.1 h c hc]
theorem undo_find {cs:CL} (h:zBB cs key=true):∃ d,d∈cs/\d.1=key/\yDB cs key=(key,true,d.2):=by
 cases e:cs.find? (fun d=>decide (d.1=key)) with
 | none=>
  obtain ⟨c,hc,hk⟩:=yEI.1 h;have:=List.find?_eq_none.1 e c hc;simp [hk] at this
 | some d=>
  refine ⟨d,List.mem_of_find?_eq_some e,by have:=List.find?_some e;simpa using this,?_⟩;unfold yDB;rw [e]
theorem undoAtFrom {cs:CL} (h:zBB cs key=true):∀ i,∃ j,∃ hj:j < cs.length,jF key cs i=((i+j:Nat):Int)/\cs.find? (fun d=>decide (d.1=key))=some cs[j]:=by
 induction cs with
 | nil=>simp [zBB] at h
 | cons c cs ih=>
  intro i;unfold jF
  by_cases hc:c.1=key
  ·rw [if_pos hc];exact ⟨0,by simp,by simp,by simp [hc]⟩
  ·rw [if_neg hc]
   have h':zBB cs key=true:=by
    obtain ⟨d,hd,e⟩:=yEI.1 h
    rcases List.mem_cons.1 hd with rfl | hd
    ·exact absurd e hc
    ·exact yEI.2 ⟨d,hd,e⟩
   obtain ⟨j,hj,e,ek⟩:=ih h' (i+1);exact ⟨j+1,by simp;omega,by rw [e];congr 1;omega,by rw [List.find?_cons_of_neg (by simpa using hc)];simpa using ek⟩
theorem undo_at {cs:CL} (h:zBB cs key=true):∃ j,∃ hj:j < cs.length,cellAt cs key=(j:Int)/\yDB cs key=(key,true,cs[j].2):=by
 obtain ⟨j,hj,e,ek⟩:=undoAtFrom h 0;exact ⟨j,hj,by unfold cellAt;rw [e];simp,by unfold yDB;rw [ek]⟩
theorem zGI:∀ (cs:CL) (l:List CM),(jQ cs l).length=l.length
 | _,[]=>rfl
 | cs,c :: l=>by simp [jQ,zGI]
theorem undos_snoc:∀ (cs:CL) (l:List CM) (c:CM),jQ cs (l ++ [c])=jQ cs l ++ [yDB (yD cs l) c.2.1]
 | _,[],_=>rfl
 | cs,d :: l,c=>by simp [jQ,yD,undos_snoc]
theorem undos_bad {cs:CL} (h:kS cs=false):∀ l:List CM,jQ cs l=l.map fun c=>yDB cs c.2.1
 | []=>rfl
 | c :: l=>by
  have hc:jL cs c=2:=by unfold jL;rw [h];rfl
  have hd:yAA cs c=cs:=by unfold yAA;rw [hc];rfl
  simp [jQ,hd,undos_bad h l]
theorem undos_keys:∀ (cs:CL) (l:List CM),(∀ c∈l,(c.2.1.size:Int)<=1048576)->∀ u∈jQ cs l,(u.1.size:Int)<=1048576
 | _,[],_,u,hu=>by cases hu
 | cs,c :: l,h,u,hu=>by
  rcases List.mem_cons.1 hu with rfl | hu
  ·rw [undo_key];exact h c (by simp)
  ·exact undos_keys _ l (fun d hd=>h d (by simp [hd])) u hu
def fair (cs:CL):Prop:=(∀ c∈cs,zIJ c.1=true/\zEH c.2=true)/\Asc cs/\cs.length<=13
theorem fair_of {cs:CL} (h:kS cs=true):fair cs:=by
 obtain ⟨a,b,c⟩:=zFG.1 h;exact ⟨a,b,by omega⟩
theorem fair_ok {cs:CL} (h:fair cs) (hl:cs.length<=12):kS cs=true:=zFG.2 ⟨h.1,h.2.1,hl⟩
theorem fair_over {cs:CL} (hl:12 < cs.length):kS cs=false:=by
 cases h:kS cs with
 | false=>rfl
 | true=>have:=(zFG.1 h).2.2;omega
theorem back_fair {cs:CL} {u:UN} (h:kS cs=true) (hu:zHH u=true):fair (backC cs u):=by
 obtain ⟨hk,hA,hl⟩:=zFG.1 h;unfold zHH at hu;rw [Aq] at hu;unfold backC
 split
 ·refine ⟨fun d hd=>?_,asc_putC hA,?_⟩
  ·rcases mem_putC.1 hd with rfl | ⟨hd,_⟩
   ·exact hu
   ·exact hk d hd
  ·have:=len_putC (x:=(u.1,u.2.2)) hA
   split at this <;> omega
 ·refine ⟨fun d hd=>hk d (List.mem_filter.1 hd).1,List.Pairwise.filter _ hA,?_⟩;have:=List.length_filter_le (fun c:ByteArray × Int=>decide (c.1 ≠ u.1)) cs;omega
theorem undone_fair {cs:CL} {u:UN} (h:fair cs):fair (jK cs u):=by
 unfold jK
 split
 ·exact h
 ·rename_i hc
  simp only [Bool.not_eq_false,Aq] at hc;exact back_fair hc.1 hc.2
theorem undone_bad {cs:CL} {u:UN} (h:kS cs=false):jK cs u=cs:=by unfold jK;rw [h];rfl
theorem undone_not {cs:CL} {u:UN} (h:zHH u=false):jK cs u=cs:=by unfold jK;rw [h,Bool.and_false];rfl
theorem undone_yes {cs:CL} {u:UN} (h:kS cs=true) (h2:zHH u=true):jK cs u=backC cs u:=by unfold jK;rw [h,h2];rfl
theorem undoneAll_bad {cs:CL} (h:kS cs=false):∀ us:List UN,xY cs us=cs
 | []=>rfl
 | u :: us=>by
  show jK (xY cs us) u=cs;rw [undoneAll_bad h us,undone_bad h]
theorem undoneAll_step {cs:CL} {us:List UN} {k:Nat} (h:k < us.length):xY cs (us.drop k)=jK (xY cs (us.drop (k+1))) us[k]:=by
 rw [List.drop_eq_getElem_cons h];rfl
theorem undoneAll_over {cs:CL} {us:List UN} {k:Nat} (h:kS (xY cs (us.drop k))=false):xY cs us=xY cs (us.drop k):=by
 have e:xY cs us=xY (xY cs (us.drop k)) (us.take k):=by
  unfold xY;rw [<- List.foldr_append,List.take_append_drop]
 rw [e,undoneAll_bad h]
theorem okL_undone {cs:CL} {u:UN} (h:okL cs) (hk:(u.1.size:Int)<=1048576):okL (jK cs u):=by
 cases hc:kS cs && zHH u with
 | false=>unfold jK;rw [hc];exact h
 | true=>
  rw [Aq] at hc;rw [undone_yes hc.1 hc.2];have hf:=(back_fair hc.1 hc.2).2.2;refine ⟨by omega,fun d hd=>?_⟩;unfold backC at hd
  split at hd
  ·rcases mem_putC.1 hd with rfl | ⟨hd,_⟩
   ·exact hk
   ·exact h.2 d hd
  ·exact h.2 d (List.mem_filter.1 hd).1
theorem yDJ {cs:CL} (h:okL cs):∀ us:List UN,(∀ u∈us,(u.1.size:Int)<=1048576)->okL (xY cs us)
 | [],_=>h
 | u :: us,hu=>okL_undone (yDJ h us fun x hx=>hu x (by simp [hx])) (hu u (by simp))
theorem asc_ext:∀ {a b:CL},Asc a->Asc b->(∀ c,c∈a↔c∈b)->a=b
 | [],b,_,_,h=>by
  cases b with
  | nil=>rfl
  | cons y b=>exact absurd ((h y).2 (by simp)) (by simp)
 | x :: a,b,ha,hb,h=>by
  cases b with
  | nil=>exact absurd ((h x).1 (by simp)) (by simp)
  | cons y b=>
   have e:x=y:=by
    rcases List.mem_cons.1 ((h x).1 (by simp)) with e | h1
    ·exact e
    ·rcases List.mem_cons.1 ((h y).2 (by simp)) with e | h2
     ·exact e.symm
     ·have l1:=List.rel_of_pairwise_cons hb h1;have l2:=List.rel_of_pairwise_cons ha h2;rw [kLt_asym l1] at l2;cases l2
   subst e
   congr 1
   refine asc_ext (List.Pairwise.of_cons ha) (List.Pairwise.of_cons hb) fun c=>⟨fun hc=>?_,fun hc=>?_⟩
   ·rcases List.mem_cons.1 ((h c).1 (by simp [hc])) with e | h1
    ·subst e;have:=List.rel_of_pairwise_cons ha hc;rw [kLt_irr] at this;cases this
    ·exact h1
   ·rcases List.mem_cons.1 ((h c).2 (by simp [hc])) with e | h1
    ·subst e;have:=List.rel_of_pairwise_cons hb hc;rw [kLt_irr] at this;cases this
    ·exact h1
theorem asc_one:∀ {cs:CL},Asc cs->∀ {c d:ByteArray × Int},c∈cs->d∈cs->c.1=d.1->c=d
 | [],_,_,_,hc,_,_=>by cases hc
 | x :: cs,h,c,d,hc,hd,e=>by
  rcases List.mem_cons.1 hc with e1 | h1
  ·rcases List.mem_cons.1 hd with e2 | h2
   ·rw [e1,e2]
   ·subst e1;exact absurd e (kLt_ne (List.rel_of_pairwise_cons h h2))
  ·rcases List.mem_cons.1 hd with e2 | h2
   ·subst e2;exact absurd e.symm (kLt_ne (List.rel_of_pairwise_cons h h1))
   ·exact asc_one (List.Pairwise.of_cons h) h1 h2 e
theorem back_put {cs:CL} (hA:Asc cs) {n m:Int} (h:(k,m)∈cs):putC (putC cs (k,n)) (k,m)=cs:=by
 refine asc_ext (asc_putC (asc_putC hA)) hA fun c=>?_
 rw [mem_putC,mem_putC]
 constructor
 ·rintro (rfl | ⟨rfl | ⟨hc,_⟩,hn⟩)
  ·exact h
  ·exact absurd rfl hn
  ·exact hc
 ·intro hc
  by_cases e:c.1=k
  ·exact Al (asc_one hA hc h e)
  ·exact Am ⟨Am ⟨hc,e⟩,e⟩
theorem put_same {cs:CL} (hA:Asc cs) {m:Int} (h:(k,m)∈cs):putC cs (k,m)=cs:=by
 refine asc_ext (asc_putC hA) hA fun c=>?_
 rw [mem_putC]
 constructor
 ·rintro (rfl | ⟨hc,_⟩)
  ·exact h
  ·exact hc
 ·intro hc
  by_cases e:c.1=k
  ·exact Al (asc_one hA hc h e)
  ·exact Am ⟨hc,e⟩
theorem drop_put {cs:CL} (hA:Asc cs) {n:Int} (h:zBB cs k=false):((putC cs (k,n)).filter fun c=>decide (c.1 ≠ k))=cs:=by
 refine asc_ext (List.Pairwise.filter _ (asc_putC hA)) hA fun c=>?_
 rw [List.mem_filter,mem_putC]
 constructor
 ·rintro ⟨rfl | ⟨hc,_⟩,hn⟩
  ·simp at hn
  ·exact hc
 ·intro hc;have e:=hasK_no.1 h c hc;exact ⟨Am ⟨hc,e⟩,by simpa using e⟩
theorem drop_none {cs:CL} (h:zBB cs k=false):(cs.filter fun c=>decide (c.1 ≠ k))=cs:=
 List.filter_eq_self.2 fun c hc=>by simpa using hasK_no.1 h c hc
theorem undone_done {cs:CL} (h:kS cs=true) (c:CM):jK (yAA cs c) (yDB cs c.2.1)=cs:=by
 obtain ⟨hk,hA,hl⟩:=zFG.1 h
 by_cases h0:jL cs c=0
 ·have hd:yAA cs c=putC cs (c.2.1,zEI cs c):=by unfold yAA;rw [if_pos h0]
  have i:=done_ok (c:=c) h
  have g:zAF c=true:=by
   cases e:zAF c with
   | true=>rfl
   | false=>unfold jL at h0;rw [e,Bool.and_false] at h0;simp at h0
  have f:zIJ c.2.1=true:=by unfold zAF at g;simp at g;exact g.2.1
  cases hh:zBB cs c.2.1 with
  | true=>
   obtain ⟨d,a,b,hu⟩:=undo_find hh;have hn:=(hk d a).2;rw [hu,undone_yes i (by unfold zHH;simp only;rw [f,hn];rfl),hd];unfold backC;rw [if_pos rfl];refine back_put hA ?_;have:d=(c.2.1,d.2):=by rw [<- b]
   rw [<- this];exact a
  | false=>
   rw [undo_no hh,undone_yes i (by unfold zHH;simp only;rw [f];rfl),hd];unfold backC;rw [if_neg (by simp)];exact drop_put hA hh
 ·have hd:yAA cs c=cs:=by unfold yAA;rw [if_neg h0]
  rw [hd]
  cases hh:zBB cs c.2.1 with
  | true=>
   obtain ⟨d,a,b,hu⟩:=undo_find hh;have hn:=hk d a;rw [hu,undone_yes h (by unfold zHH;simp only;rw [<- b,hn.1,hn.2];rfl)];unfold backC;rw [if_pos rfl];refine put_same hA ?_;have:d=(c.2.1,d.2):=by rw [<- b]
   rw [<- this];exact a
  | false=>
   rw [undo_no hh]
   cases hb:zHH (c.2.1,false,0) with
   | false=>exact undone_not hb
   | true=>
    rw [undone_yes h hb];unfold backC;rw [if_neg (by simp)];exact drop_none hh
theorem undoneAll_done:∀ {cs:CL} (l:List CM),kS cs=true->xY (yD cs l) (jQ cs l)=cs
 | _,[],_=>rfl
 | cs,c :: l,h=>by
  show jK (xY (yD (yAA cs c) l) (jQ (yAA cs c) l)) (yDB cs c.2.1)=cs;rw [undoneAll_done l (done_ok h)];exact undone_done h c
def undoV (u:UN):Value:=.agg #[.string u.1,.bool u.2.1,I U u.2.2]
def kK (u:UN):List Value:=[.string u.1,.bool u.2.1,I U u.2.2]
theorem yFF (u:UN):(kK u).length=3:=rfl
theorem infoUndo:(prog.info? 95).map (fun i=>(i.zero,i.size,i.bytes))=Ab (Ab (.agg #[.string An,.bool false,I U 0]),3,32):=by kernel_rfl
def goodUndo (c:UN):Prop:=c.1.size<=maxLen/\(Lit.int U c.2.2).wf=true
structure PE where
 id:Int
 view:Int
 high:QC
 lock:QC
 last:VT
 row:List Int
 cells:CL
 early:List Int
 undos:List UN
 votes:List VT
 news:List LT
 shown:Int
structure PV where
 row:Value
 cells:Value
 early:Value
 undos:Value
 votes:Value
 news:Value
def zA (p:PE) (s:PV):Array Value:=#[I U p.id,I U p.view,I U p.high.1,I U p.high.2.1,I U p.high.2.2.1,I U p.high.2.2.2,I U p.lock.1,I U p.lock.2.1,I U p.lock.2.2.1,I U p.lock.2.2.2,I U p.last.1,I U p.last.2.1,I U p.last.2.2.1,I U p.last.2.2.2,s.row,s.cells,s.early,s.undos,s.votes,s.news,I U p.shown]
def peerL (p:PE) (s:PV):List Value:=[I U p.id,I U p.view,I U p.high.1,I U p.high.2.1,I U p.high.2.2.1,I U p.high.2.2.2,I U p.lock.1,I U p.lock.2.1,I U p.lock.2.2.1,I U p.lock.2.2.2,I U p.last.1,I U p.last.2.1,I U p.last.2.2.1,I U p.last.2.2.2,s.row,s.cells,s.early,s.undos,s.votes,s.news,I U p.shown]
abbrev yZ (p:PE) (s:PV):Value:=.agg (zA p s)
structure jS (w:World) (p:PE) (s:PV):Prop where
 row:yM w s.row 1 xJ p.row
 cells:qQ w s.cells p.cells
 early:yM w s.early 1 xJ p.early
 undos:yM w s.undos 3 kK p.undos
 votes:yM w s.votes 4 xD p.votes
 news:yM w s.news 13 yE p.news
theorem jS.below {p:PE} {s:PV} (h:jS w p s) (hb:Be w w'):jS w' p s:=
 ⟨h.row.below hb,h.cells.below hb,h.early.below hb,h.undos.below hb,h.votes.below hb,h.news.below hb⟩
structure yDG (p:PE):Prop where
 lrow:p.row.length<=maxLen
 lcells:p.cells.length<=maxLen
 learly:p.early.length<=maxLen
 lundos:p.undos.length<=maxLen
 lvotes:p.votes.length<=maxLen
 lnews:p.news.length<=maxLen
 kcells:∀ c∈p.cells,c.1.size<=maxLen
 ncells:∀ c∈p.cells,(Lit.int U c.2).wf=true
 gundos:∀ c∈p.undos,goodUndo c
 grow:∀ x∈p.row,goodInt x
 gearly:∀ x∈p.early,goodInt x
 gvotes:∀ c∈p.votes,wfV c
 gnews:∀ c∈p.news,wfL c
 gid:(Lit.int U p.id).wf=true
 gview:(Lit.int U p.view).wf=true
 gshown:(Lit.int U p.shown).wf=true
 ghigh:wfQ p.high
 glock:wfQ p.lock
 glast:wfQ p.last
structure yC (p:PE):Prop where
 row:(p.row.length:Int)<=1048576
 cells:(p.cells.length:Int)<=1048576
 early:(p.early.length:Int)<=1048576
 undos:(p.undos.length:Int)<=1048576
 votes:(p.votes.length:Int)<=1048576
 news:(p.news.length:Int)<=1048576
 kcells:∀ c∈p.cells,(c.1.size:Int)<=1048576
 kundos:∀ c∈p.undos,(c.1.size:Int)<=1048576
theorem infoCell:(prog.info? 92).map (fun i=>(i.zero,i.size,i.bytes))=Ab (Ab (.agg #[.string An,I U 0]),2,24):=by kernel_rfl
def In (lo hi:Nat) (w:World) (e:TypeId) (m:Nat) (v:Value) (n:Nat) (xs:List Value):Prop:=w.ownsRow lo e m v n xs/\∀ g,v.ownBlock=some g->g < hi
theorem In.below {e:TypeId} (h:In lo hi w e m v n xs) (hb:Be w w'):In lo hi w' e m v n xs:=⟨zS h.1 hb,h.2⟩
theorem In.far {e:TypeId} (h:In lo hi w e m v n xs) (hg:w.grownBy w' (some N)) (hN:N < lo∨hi<=N):In lo hi w' e m v n xs:=by
 refine ⟨Ai h.1 hg ?_,h.2⟩
 cases e2:v.ownBlock with
 | none=>exact Al rfl
 | some g=>exact Am fun e3=>by have e3:=Af e3;have:=(h.1.lt g e2).1;have:=h.2 g e2;omega
structure OwnP (base:Nat) (w:World) (p:PE) (s:PV):Prop where
 ex:∃ b1 b2 b3 b4 b5 b6,(base<=b1/\b1<=b2/\b2<=b3/\b3<=b4/\b4<=b5/\b5<=b6/\b6<=w.heap.size)/\In base b1 w 3 1 s.row p.row.length (zE xJ p.row)/\In b1 b2 w 92 2 s.cells p.cells.length (kM p.cells)/\
  In b2 b3 w 3 1 s.early p.early.length (zE xJ p.early)/\In b3 b4 w 95 3 s.undos p.undos.length (zE kK p.undos)/\In b4 b5 w 28 4 s.votes p.votes.length (zE xD p.votes)/\In b5 b6 w 61 13 s.news p.news.length (zE yE p.news)
theorem OwnP.reads {base:Nat} {p:PE} {s:PV} (h:OwnP base w p s):jS w p s:=by
 obtain ⟨b1,b2,b3,b4,b5,b6,_,r0,r1,r2,r3,r4,r5⟩:=h.ex;exact ⟨zW jG r0.1,qT r1.1,zW jG r2.1,zW yFF r3.1,zW kW r4.1,zW xP r5.1⟩
theorem OwnP.below {base:Nat} {p:PE} {s:PV} (h:OwnP base w p s) (hb:Be w w'):OwnP base w' p s:=by
 obtain ⟨b1,b2,b3,b4,b5,b6,hl,r0,r1,r2,r3,r4,r5⟩:=h.ex;have:=hb.size;exact ⟨b1,b2,b3,b4,b5,b6,by omega,r0.below hb,r1.below hb,r2.below hb,r3.below hb,r4.below hb,r5.below hb⟩
theorem OwnP.lim {base:Nat} {p:PE} {s:PV} (h:OwnP base w p s):∃ hi,hi<=w.heap.size/\∀ v∈[s.row,s.cells,s.early,s.undos,s.votes,s.news],∀ g,v.ownBlock=some g->g < hi:=by
 obtain ⟨b1,b2,b3,b4,b5,b6,hl,r0,r1,r2,r3,r4,r5⟩:=h.ex;refine ⟨b6,hl.2.2.2.2.2.2,fun v hv g hg=>?_⟩;simp only [Ar,List.not_mem_nil,or_false] at hv
 rcases hv with rfl | rfl | rfl | rfl | rfl | rfl
 ·have:=r0.2 g hg;omega
 ·have:=r1.2 g hg;omega
 ·have:=r2.2 g hg;omega
 ·have:=r3.2 g hg;omega
 ·have:=r4.2 g hg;omega
 ·have:=r5.2 g hg;omega
theorem OwnP.above {base:Nat} {p:PE} {s:PV} (h:OwnP base w p s) (hg:w.grownBy w' (some N)) (hi:Nat) (hN:hi<=N) (hb:∀ v∈[s.row,s.cells,s.early,s.undos,s.votes,s.news],∀ g,v.ownBlock=some g->g < hi):OwnP base w' p s:=by
 obtain ⟨b1,b2,b3,b4,b5,b6,hl,r0,r1,r2,r3,r4,r5⟩:=h.ex
 have K:∀ (lo hh:Nat) (e:TypeId) (m:Nat) (v:Value) (n:Nat) (xs:List Value),v∈[s.row,s.cells,s.early,s.undos,s.votes,s.news]->In lo hh w e m v n xs->In lo hh w' e m v n xs:=fun lo hh e m v n xs hv hI=>by
  refine ⟨Ai hI.1 hg ?_,hI.2⟩
  cases e2:v.ownBlock with
  | none=>exact Al rfl
  | some g=>exact Am fun e3=>by have e3:=Af e3;have:=hb v hv g e2;omega
 have:=hg.size;exact ⟨b1,b2,b3,b4,b5,b6,by omega,K _ _ _ _ _ _ _ (by simp) r0,K _ _ _ _ _ _ _ (by simp) r1,K _ _ _ _ _ _ _ (by simp) r2,K _ _ _ _ _ _ _ (by simp) r3,K _ _ _ _ _ _ _ (by simp) r4,K _ _ _ _ _ _ _ (by simp) r5⟩
def apart (a b:Value):Prop:=∀ g,a.ownBlock=some g->b.ownBlock ≠ some g
theorem apart.symm {a b:Value} (h:apart a b):apart b a:=fun g hb ha=>h g ha hb
theorem apart.ne {a b:Value} (h:apart a b):a.ownBlock=none∨a.ownBlock ≠ b.ownBlock:=by
 cases e:a.ownBlock with
 | none=>exact Al rfl
 | some g=>exact Am fun e2=>h g e e2.symm
structure kR (lo hi:Nat) (s:PV):Prop where
 a01:apart s.row s.cells
 a02:apart s.row s.early
 a03:apart s.row s.undos
 a04:apart s.row s.votes
 a05:apart s.row s.news
 a10:apart s.cells s.row
 a12:apart s.cells s.early
 a13:apart s.cells s.undos
 a14:apart s.cells s.votes
 a15:apart s.cells s.news
 a20:apart s.early s.row
 a21:apart s.early s.cells
 a23:apart s.early s.undos
 a24:apart s.early s.votes
 a25:apart s.early s.news
 a30:apart s.undos s.row
 a31:apart s.undos s.cells
 a32:apart s.undos s.early
 a34:apart s.undos s.votes
 a35:apart s.undos s.news
 a40:apart s.votes s.row
 a41:apart s.votes s.cells
 a42:apart s.votes s.early
 a43:apart s.votes s.undos
 a45:apart s.votes s.news
 a50:apart s.news s.row
 a51:apart s.news s.cells
 a52:apart s.news s.early
 a53:apart s.news s.undos
 a54:apart s.news s.votes
 l0:∀ g,s.row.ownBlock=some g->lo<=g/\g < hi
 l1:∀ g,s.cells.ownBlock=some g->lo<=g/\g < hi
 l2:∀ g,s.early.ownBlock=some g->lo<=g/\g < hi
 l3:∀ g,s.undos.ownBlock=some g->lo<=g/\g < hi
 l4:∀ g,s.votes.ownBlock=some g->lo<=g/\g < hi
 l5:∀ g,s.news.ownBlock=some g->lo<=g/\g < hi
structure Own6 (lo:Nat) (w:World) (p:PE) (s:PV) (xr xc xe xu xv xn:List Value):Prop where
 row:w.ownsRow lo 3 1 s.row p.row.length xr
 cells:w.ownsRow lo 92 2 s.cells p.cells.length xc
 early:w.ownsRow lo 3 1 s.early p.early.length xe
 undos:w.ownsRow lo 95 3 s.undos p.undos.length xu
 votes:w.ownsRow lo 28 4 s.votes p.votes.length xv
 news:w.ownsRow lo 61 13 s.news p.news.length xn
def zO (lo hi:Nat) (w:World) (p:PE) (s:PV):Prop:=Own6 lo w p s (zE xJ p.row) (kM p.cells) (zE xJ p.early) (zE kK p.undos) (zE xD p.votes) (zE yE p.news)/\kR lo hi s/\hi<=w.heap.size
theorem zO.reads {p:PE} {s:PV} (h:zO lo hi w p s):jS w p s:=
 ⟨zW jG h.1.row,qT h.1.cells,zW jG h.1.early,zW yFF h.1.undos,zW kW h.1.votes,zW xP h.1.news⟩
theorem Own6.below {p:PE} {s:PV} (h:Own6 lo w p s xr xc xe xu xv xn) (hb:Be w w'):Own6 lo w' p s xr xc xe xu xv xn:=
 ⟨zS h.row hb,zS h.cells hb,zS h.early hb,zS h.undos hb,zS h.votes hb,zS h.news hb⟩
theorem zO.below {p:PE} {s:PV} (h:zO lo hi w p s) (hb:Be w w'):zO lo hi w' p s:=⟨h.1.below hb,h.2.1,Ac h.2.2 hb.size⟩
structure Fr (lo hi:Nat) (w w':World):Prop where
 os:w'.os=w.os
 tape:w'.tape=w.tape
 output:w'.output=w.output
 size:w.heap.size<=w'.heap.size
 block:∀ k,k < w.heap.size->k < lo∨hi<=k->w'.heap[k]?=w.heap[k]?
theorem Fr.refl (lo hi:Nat) (w:World):Fr lo hi w w:=⟨rfl,rfl,rfl,nl _,fun _ _ _=>rfl⟩
theorem Fr.trans {a b c:World} (h:Fr lo hi a b) (k:Fr lo hi b c):Fr lo hi a c:=⟨k.os.trans h.os,k.tape.trans h.tape,k.output.trans h.output,Ac h.size k.size,fun i hi h2=>(k.block i (Ad hi h.size) h2).trans (h.block i hi h2)⟩
theorem Fr.of_below (h:Be w w'):Fr lo hi w w':=⟨h.os,h.tape,h.output,h.size,fun k hk _=>h.block k hk⟩
theorem Fr.of_grown (h:w.grownBy w' v.ownBlock) (hv:∀ g,v.ownBlock=some g->lo<=g/\g < hi):Fr lo hi w w':=
 ⟨h.os,h.tape,h.output,h.size,fun k hk h2=>h.block k hk fun e=>by have:=hv k e.symm;omega⟩
theorem Fr.own (h:Fr lo hi w w') {base:Nat} {e:TypeId} (ho:w.ownsRow base e m v n xs) (hv:∀ g,v.ownBlock=some g->g < lo∨hi<=g):w'.ownsRow base e m v n xs:=by
 obtain ⟨hl,h0 | ⟨g,cap,a,rfl,hb,hh,r⟩⟩:=ho
 ·exact ⟨hl,Al h0⟩
 ·exact ⟨hl,Am ⟨g,cap,a,rfl,hb,(h.block g (gl hh) (hv g rfl)).trans hh,r⟩⟩
def jZ (p:PE):Nat:=p.row.length+p.cells.length+p.early.length+p.undos.length+p.votes.length+p.news.length
theorem In.at {e:TypeId} (h:In lo hi w e m v n xs):∀ g,v.ownBlock=some g->lo<=g/\g < hi:=fun g hg=>⟨(h.1.lt g hg).1,h.2 g hg⟩
theorem yQ {a b:Value} {la ha lb hb:Nat} (h1:∀ g,a.ownBlock=some g->la<=g/\g < ha) (h2:∀ g,b.ownBlock=some g->lb<=g/\g < hb) (h:ha<=lb∨hb<=la):apart a b:=fun g e1 e2=>by have:=h1 g e1;have:=h2 g e2;omega
theorem OwnP.toD {base:Nat} {p:PE} {s:PV} (h:OwnP base w p s):zO base w.heap.size w p s:=by
 obtain ⟨b1,b2,b3,b4,b5,b6,hl,r0,r1,r2,r3,r4,r5⟩:=h.ex;have t0:=r0.at;have t1:=r1.at;have t2:=r2.at;have t3:=r3.at;have t4:=r4.at;have t5:=r5.at;refine ⟨⟨zN r0.1 (by omega),zN r1.1 (by omega),zN r2.1 (by omega),zN r3.1 (by omega),zN r4.1 (by omega),zN r5.1 (by omega)⟩,⟨yQ t0 t1 (by omega),yQ t0 t2 (by omega),yQ t0 t3 (by omega),yQ t0 t4 (by omega),yQ t0 t5 (by omega),yQ t1 t0 (by omega),yQ t1 t2 (by omega),yQ t1 t3 (by omega),yQ t1 t4 (by omega),yQ t1 t5 (by omega),yQ t2 t0 (by omega),yQ t2 t1 (by omega),yQ t2 t3 (by omega),yQ t2 t4 (by omega),yQ t2 t5 (by omega),yQ t3 t0 (by omega),yQ t3 t1 (by omega),yQ t3 t2 (by omega),yQ t3 t4 (by omega),yQ t3 t5 (by omega),yQ t4 t0 (by omega),yQ t4 t1 (by omega),yQ t4 t2 (by omega),yQ t4 t3 (by omega),yQ t4 t5 (by omega),yQ t5 t0 (by omega),yQ t5 t1 (by omega),yQ t5 t2 (by omega),yQ t5 t3 (by omega),yQ t5 t4 (by omega),fun g hg=>by have:=t0 g hg;omega,fun g hg=>by have:=t1 g hg;omega,fun g hg=>by have:=t2 g hg;omega,fun g hg=>by have:=t3 g hg;omega,fun g hg=>by have:=t4 g hg;omega,fun g hg=>by have:=t5 g hg;omega⟩,nl _⟩
def zF:Array Value:=#[I U 0,I U 0,I U 0,I U 0,I U 0,I U 0,I U 0,I U 0,I U 0,I U 0,I U 0,I U 0,I U 0,I U 0,.slice none 0 0,.slice none 0 0,.slice none 0 0,.slice none 0 0,.slice none 0 0,.slice none 0 0,I U 0]
theorem zDH {base:Nat} {e:TypeId} (h:w.ownsRow base e m v n xs):v.oneCell'=true:=by
 obtain ⟨a,cap,rfl,_⟩:=yL h
 rfl
theorem zJ {p:PE} {s:PV} (h:Own6 lo w p s xr xc xe xu xv xn):(zA p s).all (·.oneCell')=true:=by
 obtain ⟨sr,sc,se,su,sv,sn⟩:=s;obtain ⟨_,_,e1,-⟩:=yL h.row;obtain ⟨_,_,e2,-⟩:=yL h.cells;obtain ⟨_,_,e3,-⟩:=yL h.early;obtain ⟨_,_,e4,-⟩:=yL h.undos;obtain ⟨_,_,e5,-⟩:=yL h.votes;obtain ⟨_,_,e6,-⟩:=yL h.news
 change sr=_ at e1
 change sc=_ at e2
 change se=_ at e3
 change su=_ at e4
 change sv=_ at e5
 change sn=_ at e6
 subst e1 e2 e3 e4 e5 e6;unfold zA;simp [Ak]
theorem Own6.far {p:PE} {s:PV} (h:Own6 lo w p s xr xc xe xu xv xn) (ha:kR lo hi s) (hg:w.grownBy w' (some N)) (hN:N < lo∨hi<=N):Own6 lo w' p s xr xc xe xu xv xn:=by
 have K:∀ v:Value,(∀ g,v.ownBlock=some g->lo<=g/\g < hi)->v.ownBlock=none∨v.ownBlock ≠ some N:=fun v hv=>by
  cases e:v.ownBlock with
  | none=>exact Al rfl
  | some g=>exact Am fun e2=>by have e2:=Af e2;have:=hv g e;omega
 exact ⟨Ai h.row hg (K _ ha.l0),Ai h.cells hg (K _ ha.l1),Ai h.early hg (K _ ha.l2),Ai h.undos hg (K _ ha.l3),Ai h.votes hg (K _ ha.l4),Ai h.news hg (K _ ha.l5)⟩
theorem zO.far {p:PE} {s:PV} (h:zO lo hi w p s) (hg:w.grownBy w' (some N)) (hN:N < lo∨hi<=N):zO lo hi w' p s:=⟨h.1.far h.2.1 hg hN,h.2.1,Ac h.2.2 hg.size⟩
def newP (id:Int):PE:=⟨id,1,(0,0,0,0),(0,0,0,0),(0,0,0,0),[],[],[],[],[],[],0⟩
def zHD:PV:=⟨.slice none 0 0,.slice none 0 0,.slice none 0 0,.slice none 0 0,.slice none 0 0,.slice none 0 0⟩
theorem nil_own (lo:Nat) (w:World) (id:Int):zO lo w.heap.size w (newP id) zHD:=by
 have N:∀ g,(Value.slice none 0 0).ownBlock ≠ some g:=fun g h=>by cases h
 refine ⟨⟨World.ownsRow_nil _ _ _ _,World.ownsRow_nil _ _ _ _,World.ownsRow_nil _ _ _ _,World.ownsRow_nil _ _ _ _,World.ownsRow_nil _ _ _ _,World.ownsRow_nil _ _ _ _⟩,⟨?_,?_,?_,?_,?_,?_,?_,?_,?_,?_,?_,?_,?_,?_,?_,?_,?_,?_,?_,?_,?_,?_,?_,?_,?_,?_,?_,?_,?_,?_,?_,?_,?_,?_,?_,?_⟩,nl _⟩ <;> intro g h <;> exact absurd h (N g)
theorem peerNew_s (id:Int) (w:World) :
  Calls prog 161 #[I U id] w fun e w'=>∃ s,e=.returned (yZ (newP id) s)/\zO w.heap.size w'.heap.size w' (newP id) s/\Be w w':=by
 go_enter func161,ntmps161;go_wp2_with (refine zC rfl _ _ _ rfl w.heap.size (zA (newP id) zHD) rfl rfl 35 zF (heap_alloc_new w _) (by kernel_rfl) rfl (zJ (nil_own w.heap.size w id).1) ?_;intro w1 g1 k1 z1;have HB:Hid (Be w w1):=(ba (br _ _) _).grown g1 (by simp) (fun y hy=>by cases hy;exact nl _);have HK:=hid k1;clear g1 k1 z1)
 refine b_cr (.agg (zA (newP id) zHD)) results161 HK underlying35 ?_;exact ⟨zHD,rfl,nil_own _ _ _,HB⟩
theorem zV {x old:Value} (ha:apart x old) (hx:∀ g,x.ownBlock=some g->lo<=g/\g < hi) (hv:∀ g,v.ownBlock=some g->old.ownBlock=some g∨hi<=g):apart x v:=fun g e1 e2=>by
 rcases hv g e2 with h | h
 ·exact ha g e1 h
 ·have:=hx g e1;omega
theorem kR.wide {s:PV} (h:kR lo hi s) (hh:hi<=hi'):kR lo hi' s:=
 ⟨h.a01,h.a02,h.a03,h.a04,h.a05,h.a10,h.a12,h.a13,h.a14,h.a15,h.a20,h.a21,h.a23,h.a24,h.a25,h.a30,h.a31,h.a32,h.a34,h.a35,h.a40,h.a41,h.a42,h.a43,h.a45,h.a50,h.a51,h.a52,h.a53,h.a54,fun g e=>⟨(h.l0 g e).1,Ad (h.l0 g e).2 hh⟩,fun g e=>⟨(h.l1 g e).1,Ad (h.l1 g e).2 hh⟩,fun g e=>⟨(h.l2 g e).1,Ad (h.l2 g e).2 hh⟩,fun g e=>⟨(h.l3 g e).1,Ad (h.l3 g e).2 hh⟩,fun g e=>⟨(h.l4 g e).1,Ad (h.l4 g e).2 hh⟩,fun g e=>⟨(h.l5 g e).1,Ad (h.l5 g e).2 hh⟩⟩
theorem zO.wide {p:PE} {s:PV} (h:zO lo hi w p s) (hh:hi<=hi') (hs:hi'<=w.heap.size):zO lo hi' w p s:=⟨h.1,h.2.1.wide hh,hs⟩
theorem zO.other {p q:PE} {s:PV} (h:zO lo hi w p s) (e0:q.row=p.row) (e1:q.cells=p.cells) (e2:q.early=p.early) (e3:q.undos=p.undos) (e4:q.votes=p.votes) (e5:q.news=p.news):zO lo hi w q s:=by
 obtain ⟨⟨r0,r1,r2,r3,r4,r5⟩,ha,hs⟩:=h;refine ⟨⟨?_,?_,?_,?_,?_,?_⟩,ha,hs⟩
 ·rw [e0];exact r0
 ·rw [e1];exact r1
 ·rw [e2];exact r2
 ·rw [e3];exact r3
 ·rw [e4];exact r4
 ·rw [e5];exact r5
theorem zO.low {p:PE} {s:PV} (h:zO lo hi w p s) (hl:lo'<=lo):zO lo' hi w p s:=by
 obtain ⟨⟨r0,r1,r2,r3,r4,r5⟩,ha,hs⟩:=h;exact ⟨⟨zN r0 hl,zN r1 hl,zN r2 hl,zN r3 hl,zN r4 hl,zN r5 hl⟩,⟨ha.a01,ha.a02,ha.a03,ha.a04,ha.a05,ha.a10,ha.a12,ha.a13,ha.a14,ha.a15,ha.a20,ha.a21,ha.a23,ha.a24,ha.a25,ha.a30,ha.a31,ha.a32,ha.a34,ha.a35,ha.a40,ha.a41,ha.a42,ha.a43,ha.a45,ha.a50,ha.a51,ha.a52,ha.a53,ha.a54,fun g e=>⟨Ac hl (ha.l0 g e).1,(ha.l0 g e).2⟩,fun g e=>⟨Ac hl (ha.l1 g e).1,(ha.l1 g e).2⟩,fun g e=>⟨Ac hl (ha.l2 g e).1,(ha.l2 g e).2⟩,fun g e=>⟨Ac hl (ha.l3 g e).1,(ha.l3 g e).2⟩,fun g e=>⟨Ac hl (ha.l4 g e).1,(ha.l4 g e).2⟩,fun g e=>⟨Ac hl (ha.l5 g e).1,(ha.l5 g e).2⟩⟩,hs⟩
theorem kR.setRow {s:PV} (h:kR lo hi s) (hh:hi<=hi') (hr:∀ g,v.ownBlock=some g->lo<=g/\g < hi') (hv:∀ g,v.ownBlock=some g->s.row.ownBlock=some g∨hi<=g):kR lo hi' { s with row:=v }:=
 ⟨(zV h.a10 h.l1 hv).symm,(zV h.a20 h.l2 hv).symm,(zV h.a30 h.l3 hv).symm,(zV h.a40 h.l4 hv).symm,(zV h.a50 h.l5 hv).symm,zV h.a10 h.l1 hv,h.a12,h.a13,h.a14,h.a15,zV h.a20 h.l2 hv,h.a21,h.a23,h.a24,h.a25,zV h.a30 h.l3 hv,h.a31,h.a32,h.a34,h.a35,zV h.a40 h.l4 hv,h.a41,h.a42,h.a43,h.a45,zV h.a50 h.l5 hv,h.a51,h.a52,h.a53,h.a54,hr,fun g e=>⟨(h.l1 g e).1,Ad (h.l1 g e).2 hh⟩,fun g e=>⟨(h.l2 g e).1,Ad (h.l2 g e).2 hh⟩,fun g e=>⟨(h.l3 g e).1,Ad (h.l3 g e).2 hh⟩,fun g e=>⟨(h.l4 g e).1,Ad (h.l4 g e).2 hh⟩,fun g e=>⟨(h.l5 g e).1,Ad (h.l5 g e).2 hh⟩⟩
theorem zO.setRow {p:PE} {s:PV} {l:List (Int)} (h:zO lo hi w p s) (hh:hi<=hi') (hs:hi'<=w.heap.size) (ho:w.ownsRow lo 3 1 v l.length (zE xJ l)) (hr:∀ g,v.ownBlock=some g->g < hi') (hv:∀ g,v.ownBlock=some g->s.row.ownBlock=some g∨hi<=g):zO lo hi' w { p with row:=l } { s with row:=v }:=
 ⟨⟨ho,h.1.cells,h.1.early,h.1.undos,h.1.votes,h.1.news⟩,h.2.1.setRow hh (fun g e=>⟨(ho.lt g e).1,hr g e⟩) hv,hs⟩
theorem kR.setCells {s:PV} (h:kR lo hi s) (hh:hi<=hi') (hr:∀ g,v.ownBlock=some g->lo<=g/\g < hi') (hv:∀ g,v.ownBlock=some g->s.cells.ownBlock=some g∨hi<=g):kR lo hi' { s with cells:=v }:=
 ⟨zV h.a01 h.l0 hv,h.a02,h.a03,h.a04,h.a05,(zV h.a01 h.l0 hv).symm,(zV h.a21 h.l2 hv).symm,(zV h.a31 h.l3 hv).symm,(zV h.a41 h.l4 hv).symm,(zV h.a51 h.l5 hv).symm,h.a20,zV h.a21 h.l2 hv,h.a23,h.a24,h.a25,h.a30,zV h.a31 h.l3 hv,h.a32,h.a34,h.a35,h.a40,zV h.a41 h.l4 hv,h.a42,h.a43,h.a45,h.a50,zV h.a51 h.l5 hv,h.a52,h.a53,h.a54,fun g e=>⟨(h.l0 g e).1,Ad (h.l0 g e).2 hh⟩,hr,fun g e=>⟨(h.l2 g e).1,Ad (h.l2 g e).2 hh⟩,fun g e=>⟨(h.l3 g e).1,Ad (h.l3 g e).2 hh⟩,fun g e=>⟨(h.l4 g e).1,Ad (h.l4 g e).2 hh⟩,fun g e=>⟨(h.l5 g e).1,Ad (h.l5 g e).2 hh⟩⟩
theorem zO.setCells {p:PE} {s:PV} {l:List (ByteArray × Int)} (h:zO lo hi w p s) (hh:hi<=hi') (hs:hi'<=w.heap.size) (ho:w.ownsRow lo 92 2 v l.length (kM l)) (hr:∀ g,v.ownBlock=some g->g < hi') (hv:∀ g,v.ownBlock=some g->s.cells.ownBlock=some g∨hi<=g):zO lo hi' w { p with cells:=l } { s with cells:=v }:=
 ⟨⟨h.1.row,ho,h.1.early,h.1.undos,h.1.votes,h.1.news⟩,h.2.1.setCells hh (fun g e=>⟨(ho.lt g e).1,hr g e⟩) hv,hs⟩
theorem kR.setEarly {s:PV} (h:kR lo hi s) (hh:hi<=hi') (hr:∀ g,v.ownBlock=some g->lo<=g/\g < hi') (hv:∀ g,v.ownBlock=some g->s.early.ownBlock=some g∨hi<=g):kR lo hi' { s with early:=v }:=
 ⟨h.a01,zV h.a02 h.l0 hv,h.a03,h.a04,h.a05,h.a10,zV h.a12 h.l1 hv,h.a13,h.a14,h.a15,(zV h.a02 h.l0 hv).symm,(zV h.a12 h.l1 hv).symm,(zV h.a32 h.l3 hv).symm,(zV h.a42 h.l4 hv).symm,(zV h.a52 h.l5 hv).symm,h.a30,h.a31,zV h.a32 h.l3 hv,h.a34,h.a35,h.a40,h.a41,zV h.a42 h.l4 hv,h.a43,h.a45,h.a50,h.a51,zV h.a52 h.l5 hv,h.a53,h.a54,fun g e=>⟨(h.l0 g e).1,Ad (h.l0 g e).2 hh⟩,fun g e=>⟨(h.l1 g e).1,Ad (h.l1 g e).2 hh⟩,hr,fun g e=>⟨(h.l3 g e).1,Ad (h.l3 g e).2 hh⟩,fun g e=>⟨(h.l4 g e).1,Ad (h.l4 g e).2 hh⟩,fun g e=>⟨(h.l5 g e).1,Ad (h.l5 g e).2 hh⟩⟩
theorem zO.setEarly {p:PE} {s:PV} {l:List (Int)} (h:zO lo hi w p s) (hh:hi<=hi') (hs:hi'<=w.heap.size) (ho:w.ownsRow lo 3 1 v l.length (zE xJ l)) (hr:∀ g,v.ownBlock=some g->g < hi') (hv:∀ g,v.ownBlock=some g->s.early.ownBlock=some g∨hi<=g):zO lo hi' w { p with early:=l } { s with early:=v }:=
 ⟨⟨h.1.row,h.1.cells,ho,h.1.undos,h.1.votes,h.1.news⟩,h.2.1.setEarly hh (fun g e=>⟨(ho.lt g e).1,hr g e⟩) hv,hs⟩
theorem kR.setUndos {s:PV} (h:kR lo hi s) (hh:hi<=hi') (hr:∀ g,v.ownBlock=some g->lo<=g/\g < hi') (hv:∀ g,v.ownBlock=some g->s.undos.ownBlock=some g∨hi<=g):kR lo hi' { s with undos:=v }:=
 ⟨h.a01,h.a02,zV h.a03 h.l0 hv,h.a04,h.a05,h.a10,h.a12,zV h.a13 h.l1 hv,h.a14,h.a15,h.a20,h.a21,zV h.a23 h.l2 hv,h.a24,h.a25,(zV h.a03 h.l0 hv).symm,(zV h.a13 h.l1 hv).symm,(zV h.a23 h.l2 hv).symm,(zV h.a43 h.l4 hv).symm,(zV h.a53 h.l5 hv).symm,h.a40,h.a41,h.a42,zV h.a43 h.l4 hv,h.a45,h.a50,h.a51,h.a52,zV h.a53 h.l5 hv,h.a54,fun g e=>⟨(h.l0 g e).1,Ad (h.l0 g e).2 hh⟩,fun g e=>⟨(h.l1 g e).1,Ad (h.l1 g e).2 hh⟩,fun g e=>⟨(h.l2 g e).1,Ad (h.l2 g e).2 hh⟩,hr,fun g e=>⟨(h.l4 g e).1,Ad (h.l4 g e).2 hh⟩,fun g e=>⟨(h.l5 g e).1,Ad (h.l5 g e).2 hh⟩⟩
theorem zO.setUndos {p:PE} {s:PV} {l:List (UN)} (h:zO lo hi w p s) (hh:hi<=hi') (hs:hi'<=w.heap.size) (ho:w.ownsRow lo 95 3 v l.length (zE kK l)) (hr:∀ g,v.ownBlock=some g->g < hi') (hv:∀ g,v.ownBlock=some g->s.undos.ownBlock=some g∨hi<=g):zO lo hi' w { p with undos:=l } { s with undos:=v }:=
 ⟨⟨h.1.row,h.1.cells,h.1.early,ho,h.1.votes,h.1.news⟩,h.2.1.setUndos hh (fun g e=>⟨(ho.lt g e).1,hr g e⟩) hv,hs⟩
theorem kR.setVotes {s:PV} (h:kR lo hi s) (hh:hi<=hi') (hr:∀ g,v.ownBlock=some g->lo<=g/\g < hi') (hv:∀ g,v.ownBlock=some g->s.votes.ownBlock=some g∨hi<=g):kR lo hi' { s with votes:=v }:=
 ⟨h.a01,h.a02,h.a03,zV h.a04 h.l0 hv,h.a05,h.a10,h.a12,h.a13,zV h.a14 h.l1 hv,h.a15,h.a20,h.a21,h.a23,zV h.a24 h.l2 hv,h.a25,h.a30,h.a31,h.a32,zV h.a34 h.l3 hv,h.a35,(zV h.a04 h.l0 hv).symm,(zV h.a14 h.l1 hv).symm,(zV h.a24 h.l2 hv).symm,(zV h.a34 h.l3 hv).symm,(zV h.a54 h.l5 hv).symm,h.a50,h.a51,h.a52,h.a53,zV h.a54 h.l5 hv,fun g e=>⟨(h.l0 g e).1,Ad (h.l0 g e).2 hh⟩,fun g e=>⟨(h.l1 g e).1,Ad (h.l1 g e).2 hh⟩,fun g e=>⟨(h.l2 g e).1,Ad (h.l2 g e).2 hh⟩,fun g e=>⟨(h.l3 g e).1,Ad (h.l3 g e).2 hh⟩,hr,fun g e=>⟨(h.l5 g e).1,Ad (h.l5 g e).2 hh⟩⟩
theorem zO.setVotes {p:PE} {s:PV} {l:List (VT)} (h:zO lo hi w p s) (hh:hi<=hi') (hs:hi'<=w.heap.size) (ho:w.ownsRow lo 28 4 v l.length (zE xD l)) (hr:∀ g,v.ownBlock=some g->g < hi') (hv:∀ g,v.ownBlock=some g->s.votes.ownBlock=some g∨hi<=g):zO lo hi' w { p with votes:=l } { s with votes:=v }:=
 ⟨⟨h.1.row,h.1.cells,h.1.early,h.1.undos,ho,h.1.news⟩,h.2.1.setVotes hh (fun g e=>⟨(ho.lt g e).1,hr g e⟩) hv,hs⟩
theorem kR.setNews {s:PV} (h:kR lo hi s) (hh:hi<=hi') (hr:∀ g,v.ownBlock=some g->lo<=g/\g < hi') (hv:∀ g,v.ownBlock=some g->s.news.ownBlock=some g∨hi<=g):kR lo hi' { s with news:=v }:=
 ⟨h.a01,h.a02,h.a03,h.a04,zV h.a05 h.l0 hv,h.a10,h.a12,h.a13,h.a14,zV h.a15 h.l1 hv,h.a20,h.a21,h.a23,h.a24,zV h.a25 h.l2 hv,h.a30,h.a31,h.a32,h.a34,zV h.a35 h.l3 hv,h.a40,h.a41,h.a42,h.a43,zV h.a45 h.l4 hv,(zV h.a05 h.l0 hv).symm,(zV h.a15 h.l1 hv).symm,(zV h.a25 h.l2 hv).symm,(zV h.a35 h.l3 hv).symm,(zV h.a45 h.l4 hv).symm,fun g e=>⟨(h.l0 g e).1,Ad (h.l0 g e).2 hh⟩,fun g e=>⟨(h.l1 g e).1,Ad (h.l1 g e).2 hh⟩,fun g e=>⟨(h.l2 g e).1,Ad (h.l2 g e).2 hh⟩,fun g e=>⟨(h.l3 g e).1,Ad (h.l3 g e).2 hh⟩,fun g e=>⟨(h.l4 g e).1,Ad (h.l4 g e).2 hh⟩,hr⟩
theorem zO.setNews {p:PE} {s:PV} {l:List (LT)} (h:zO lo hi w p s) (hh:hi<=hi') (hs:hi'<=w.heap.size) (ho:w.ownsRow lo 61 13 v l.length (zE yE l)) (hr:∀ g,v.ownBlock=some g->g < hi') (hv:∀ g,v.ownBlock=some g->s.news.ownBlock=some g∨hi<=g):zO lo hi' w { p with news:=l } { s with news:=v }:=
 ⟨⟨h.1.row,h.1.cells,h.1.early,h.1.undos,h.1.votes,ho⟩,h.2.1.setNews hh (fun g e=>⟨(ho.lt g e).1,hr g e⟩) hv,hs⟩
theorem zH {base:Nat} {e T:TypeId} {fz:Nat × Nat} (h:w.ownsRow base e m v n xs) (hN:w.heap[N]?=Ab (.cells A T fz)) (hne:e ≠ T):v.ownBlock=none∨v.ownBlock ≠ some N:=by
 cases e2:v.ownBlock with
 | none=>exact Al rfl
 | some g=>
  refine Am fun e3=>?_
  obtain rfl:=Af e3;obtain ⟨_,⟨rfl,_⟩ | ⟨g',cap,a,rfl,_,hh,_⟩⟩:=h
  ·cases e2
  ·obtain rfl:g'=g:=Af e2;rw [hN] at hh;injection hh with hh
   injection hh with _ hh
   exact hne hh.symm
theorem zO.boxed {p:PE} {s:PV} (h:zO lo hi w p s) (hN:Bx w N A 35) (hg:w.grownBy w' (some N)):zO lo hi w' p s:=
 ⟨⟨Ai h.1.row hg (zH h.1.row hN (by decide)),Ai h.1.cells hg (zH h.1.cells hN (by decide)),Ai h.1.early hg (zH h.1.early hN (by decide)),Ai h.1.undos hg (zH h.1.undos hN (by decide)),Ai h.1.votes hg (zH h.1.votes hN (by decide)),Ai h.1.news hg (zH h.1.news hN (by decide))⟩,h.2.1,Ac h.2.2 hg.size⟩
theorem qB {Q:Exit->Act->World->Prop} (hw:Region.wanted o (yielded ops a.tmps)=true) (ty:TypeId) (x:Operand) (ho:o.op=.load ty x)
  (g:Nat) (hx:a.eval x=.pointer (Ab ⟨g,0,Aa⟩)) (t:TypeId) (cs:Array Value) (fr:Nat × Nat) (d:TypeDesc) (hg:w.heap[g]?=Ab (.cells cs t fr))
  (hu:P.underlying ty=some d) (hd:(match d with | .struct _ | .array _ _=>true | _=>false)=true) (hi:(P.info? ty).map (·.size)=some cs.size)
  (h:wpList P ops Q rest (a.put o.dst (.agg cs)) w):wpList P ops Q (o :: rest) a w:=
 wpList_step fun K hK=>by rw [if_pos hw];exact wp_load_row ty x ho g hx t cs fr d hg hu hd hi (hK _ _ h)
abbrev PL:=List (PE × PV)
def pes (ps:PL):List PE:=ps.map Prod.fst
theorem yCI (ps:PL):(pes ps).length=ps.length:=by simp [pes]
theorem pes_at {ps:PL} (h:i < ps.length):(pes ps)[i]'(by rw [yCI];exact h)=ps[i].1:=by simp [pes]
theorem pes_snoc (ps:PL) (x:PE × PV):pes (ps ++ [x])=pes ps ++ [x.1]:=by simp [pes]
def peerF (x:PE × PV):List Value:=peerL x.1 x.2
theorem peerF_len (x:PE × PV):(peerF x).length=21:=rfl
structure PeersR (w:World) (v:Value) (ps:PL):Prop where
 row:yM w v 21 peerF ps
 each:∀ x∈ps,jS w x.1 x.2
theorem PeersR.below {ps:PL} (h:PeersR w v ps) (hb:Be w w'):PeersR w' v ps:=⟨h.row.below hb,fun x hx=>(h.each x hx).below hb⟩
def six (s:PV):List Value:=[s.row,s.cells,s.early,s.undos,s.votes,s.news]
def apartP (s t:PV):Prop:=∀ a∈six s,∀ b∈six t,apart a b
theorem apartP.symm {s t:PV} (h:apartP s t):apartP t s:=fun a ha b hb=>(h b hb a ha).symm
theorem zED {s:PV} (h:kR lo hi s):∀ a∈six s,∀ g,a.ownBlock=some g->lo<=g/\g < hi:=by
 intro a ha;simp only [six,Ar,List.not_mem_nil,or_false] at ha
 rcases ha with rfl | rfl | rfl | rfl | rfl | rfl
 ·exact h.l0
 ·exact h.l1
 ·exact h.l2
 ·exact h.l3
 ·exact h.l4
 ·exact h.l5
theorem apartP_of {la ha lb hb:Nat} {s t:PV} (h1:kR la ha s) (h2:kR lb hb t) (h:ha<=lb∨hb<=la):apartP s t:=fun a m b n=>yQ (zED h1 a m) (zED h2 b n) h
structure yDD (lo:Nat) (w:World) (ps:PL):Prop where
 each:∀ x∈ps,zO lo w.heap.size w x.1 x.2
 apart:ps.Pairwise fun x y=>apartP x.2 y.2
theorem yDD.nil (lo:Nat) (w:World):yDD lo w []:=⟨fun x h=>(by cases h),List.Pairwise.nil⟩
theorem yDD.below {ps:PL} (h:yDD lo w ps) (hb:Be w w'):yDD lo w' ps:=⟨fun x hx=>((h.each x hx).below hb).wide hb.size (nl _),h.apart⟩
theorem yDD.low {ps:PL} (h:yDD lo w ps) (hl:lo'<=lo):yDD lo' w ps:=⟨fun x hx=>(h.each x hx).low hl,h.apart⟩
theorem yDD.boxed {ps:PL} (h:yDD lo w ps) (hN:Bx w N A 35) (hg:w.grownBy w' (some N)):yDD lo w' ps:=
 ⟨fun x hx=>((h.each x hx).boxed hN hg).wide hg.size (nl _),h.apart⟩
theorem yDD.push {lo2 hi2:Nat} {ps:PL} {p:PE} {s:PV} (h:yDD lo w ps) (hx:zO lo2 hi2 w p s) (hl:lo<=lo2) (hb:∀ x∈ps,kR lo hi x.2) (hh:hi<=lo2):yDD lo w (ps ++ [(p,s)]):=by
 refine ⟨fun x a=>?_,?_⟩
 ·rcases List.mem_append.1 a with h' | h'
  ·exact h.each x h'
  ·simp at h';subst h';exact (hx.wide hx.2.2 (nl _)).low hl
 ·rw [List.pairwise_append];refine ⟨h.apart,by simp,fun x a y hy=>?_⟩;simp at hy;subst hy;exact apartP_of (hb x a) hx.2.1 (Al hh)
structure qJ (lo:Nat) (w:World) (v:Value) (ps:PL):Prop where
 row:w.ownsRow lo 35 21 v ps.length (zE peerF ps)
 own:yDD lo w ps
theorem qJ.reads {ps:PL} (h:qJ lo w v ps):PeersR w v ps:=⟨zW peerF_len h.row,fun x hx=>(h.own.each x hx).reads⟩
theorem qJ.below {ps:PL} (h:qJ lo w v ps) (hb:Be w w'):qJ lo w' v ps:=⟨zS h.row hb,h.own.below hb⟩
theorem qJ.low {ps:PL} (h:qJ lo w v ps) (hl:lo'<=lo):qJ lo' w v ps:=⟨zN h.row hl,h.own.low hl⟩
theorem infoPeer:(prog.info? 35).map (fun i=>(i.zero,i.size,i.bytes))=Ab (Ab (.agg #[I U 0,I U 0,I U 0,I U 0,I U 0,I U 0,I U 0,I U 0,I U 0,I U 0,I U 0,I U 0,I U 0,I U 0,.slice none 0 0,.slice none 0 0,.slice none 0 0,.slice none 0 0,.slice none 0 0,.slice none 0 0,I U 0]),21,264):=by kernel_rfl
structure FrS (B:Nat->Prop) (w w':World):Prop where
 os:w'.os=w.os
 tape:w'.tape=w.tape
 output:w'.output=w.output
 size:w.heap.size<=w'.heap.size
 block:∀ k,k < w.heap.size->¬ B k->w'.heap[k]?=w.heap[k]?
theorem FrS.refl (B:Nat->Prop) (w:World):FrS B w w:=⟨rfl,rfl,rfl,nl _,fun _ _ _=>rfl⟩
theorem FrS.trans {B:Nat->Prop} {a b c:World} (h:FrS B a b) (k:FrS B b c):FrS B a c:=⟨k.os.trans h.os,k.tape.trans h.tape,k.output.trans h.output,Ac h.size k.size,fun i hi h2=>(k.block i (Ad hi h.size) h2).trans (h.block i hi h2)⟩
theorem FrS.of_below {B:Nat->Prop} (h:Be w w'):FrS B w w':=⟨h.os,h.tape,h.output,h.size,fun k hk _=>h.block k hk⟩
theorem FrS.of_grown {B:Nat->Prop} (h:w.grownBy w' r) (hr:∀ g,r=some g->B g):FrS B w w':=⟨h.os,h.tape,h.output,h.size,fun k hk hn=>h.block k hk fun e=>hn (hr k e.symm)⟩
theorem FrS.mono {B C:Nat->Prop} (h:FrS B w w') (hc:∀ g,B g->C g):FrS C w w':=⟨h.os,h.tape,h.output,h.size,fun k hk hn=>h.block k hk fun hb=>hn (hc k hb)⟩
theorem FrS.own {B:Nat->Prop} (h:FrS B w w') {base:Nat} {e:TypeId} (ho:w.ownsRow base e m v n xs) (hv:∀ g,v.ownBlock=some g->¬ B g):w'.ownsRow base e m v n xs:=by
 obtain ⟨hl,h0 | ⟨g,cap,a,rfl,hb,hh,r⟩⟩:=ho
 ·exact ⟨hl,Al h0⟩
 ·exact ⟨hl,Am ⟨g,cap,a,rfl,hb,(h.block g (gl hh) (hv g rfl)).trans hh,r⟩⟩
theorem FrS.fr {B:Nat->Prop} (h:FrS B w w') (hb:∀ g,B g->lo<=g/\g < hi):Fr lo hi w w':=⟨h.os,h.tape,h.output,h.size,fun k hk hn=>h.block k hk fun hB=>by have:=hb k hB;omega⟩
def zIE (s:PV) (g:Nat):Prop:=∃ a∈six s,a.ownBlock=some g
theorem Own6.frs {B:Nat->Prop} {p:PE} {s:PV} (h:Own6 lo w p s xr xc xe xu xv xn) (hf:FrS B w w') (hB:∀ g,zIE s g->¬ B g):Own6 lo w' p s xr xc xe xu xv xn:=
 ⟨hf.own h.row (fun g hg=>hB g ⟨_,by simp [six],hg⟩),hf.own h.cells (fun g hg=>hB g ⟨_,by simp [six],hg⟩),hf.own h.early (fun g hg=>hB g ⟨_,by simp [six],hg⟩),hf.own h.undos (fun g hg=>hB g ⟨_,by simp [six],hg⟩),hf.own h.votes (fun g hg=>hB g ⟨_,by simp [six],hg⟩),hf.own h.news (fun g hg=>hB g ⟨_,by simp [six],hg⟩)⟩
theorem zO.frs {B:Nat->Prop} {p:PE} {s:PV} (h:zO lo hi w p s) (hf:FrS B w w') (hB:∀ g,zIE s g->¬ B g):zO lo hi w' p s:=⟨h.1.frs hf hB,h.2.1,Ac h.2.2 hf.size⟩
theorem yDD.frs {B:Nat->Prop} {ps:PL} (h:yDD lo w ps) (hf:FrS B w w') (hB:∀ x∈ps,∀ g,zIE x.2 g->¬ B g):yDD lo w' ps:=⟨fun x hx=>((h.each x hx).frs hf (hB x hx)).wide hf.size (nl _),h.apart⟩
theorem qJ.frs {B:Nat->Prop} {ps:PL} (h:qJ lo w v ps) (hf:FrS B w w') (hv:∀ g,v.ownBlock=some g->¬ B g) (hB:∀ x∈ps,∀ g,zIE x.2 g->¬ B g):qJ lo w' v ps:=⟨hf.own h.row hv,h.own.frs hf hB⟩
theorem six_not_box {p:PE} {s:PV} (h:zO lo hi w p s) (hN:Bx w N A 35):¬ zIE s N:=by
 rintro ⟨a,ha,e⟩;simp only [six,Ar,List.not_mem_nil,or_false] at ha
 rcases ha with rfl | rfl | rfl | rfl | rfl | rfl
 ·rcases zH h.1.row hN (by decide) with h | h
  ·rw [h] at e;cases e
  ·exact h e
 ·rcases zH h.1.cells hN (by decide) with h | h
  ·rw [h] at e;cases e
  ·exact h e
 ·rcases zH h.1.early hN (by decide) with h | h
  ·rw [h] at e;cases e
  ·exact h e
 ·rcases zH h.1.undos hN (by decide) with h | h
  ·rw [h] at e;cases e
  ·exact h e
 ·rcases zH h.1.votes hN (by decide) with h | h
  ·rw [h] at e;cases e
  ·exact h e
 ·rcases zH h.1.news hN (by decide) with h | h
  ·rw [h] at e;cases e
  ·exact h e
theorem qJ.put {L:PL} {p p':PE} {s:PV} (h:qJ lo w (.slice (Ab ⟨g,0,Aa⟩) n cap) L) (hm:m < L.length) (hat:L[m]=(p,s)) (hf:FrS (fun k=>k=g∨zIE s k) w w')
  (hrow:w'.ownsRow lo 35 21 (.slice (Ab ⟨g,0,Aa⟩) n cap) L.length (zE peerF (L.set m (p',s)))) (hd:zO lo w'.heap.size w' p' s):qJ lo w' (.slice (Ab ⟨g,0,Aa⟩) n cap) (L.set m (p',s)):=by
 obtain ⟨d,r⟩:∃ d,Bx w g d 35:=by
  obtain ⟨_,⟨hv,_⟩ | ⟨g2,u,d,hv,_,hh,_⟩⟩:=h.row
  ·cases hv
  ·injection hv with c _ _
   injection c with c
   injection c with c
   subst c;exact ⟨d,hh⟩
 have o:=List.pairwise_iff_getElem.1 h.own.apart;refine ⟨by rw [List.length_set];exact hrow,fun x hx=>?_,?_⟩
 ·rcases List.mem_iff_getElem.1 hx with ⟨i,hi,rfl⟩
  rw [List.length_set] at hi
  by_cases hne:m=i
  ·subst hne;rw [List.getElem_set_self];exact hd
  ·rw [List.getElem_set_ne hne];have hx:=h.own.each _ (Ag hi);refine (hx.frs hf fun k hk hB=>?_).wide hf.size (nl _)
   rcases hB with rfl | hB
   ·exact six_not_box hx r hk
   ·obtain ⟨a,ha,ea⟩:=hk;obtain ⟨b,hb,eb⟩:=hB
    have l:apartP L[i].2 s:=by
     rcases Nat.lt_or_gt_of_ne hne with f | f
     ·have:=o m i hm hi f;rw [hat] at this;exact this.symm
     ·have:=o i m hi hm f;rw [hat] at this;exact this
    exact l a ha b hb k ea eb
 ·refine List.pairwise_iff_getElem.2 fun i j hi hj t=>?_
  rw [List.length_set] at hi hj;have l:=o i j hi hj t
  have e:∀ i (hi:i < L.length),((L.set m (p',s))[i]'(by rw [List.length_set];exact hi)).2=L[i].2:=fun i hi=>by
   by_cases hne:m=i
   ·subst hne;rw [List.getElem_set_self,hat]
   ·rw [List.getElem_set_ne hne]
  rw [e i hi,e j hj];exact l
theorem numOk_i (n:Int) (w:World):Calls prog 130 #[I U n] w fun e w'=>e=.returned (.bool (zEH n))/\w'=w:=by
 by_cases h1:0<=n
 ·by_cases h2:n<=1000000000
  ·rw [zEH,kY ⟨h1,h2⟩];go_enter func130,ntmps130;go_wp2;go_ret;exact ⟨rfl,rfl⟩
  ·rw [zEH,zAB (by omega)];go_enter func130,ntmps130;go_wp2;go_ret;exact ⟨rfl,rfl⟩
 ·rw [zEH,zAB (by omega)];go_enter func130,ntmps130;go_wp2;go_ret;exact ⟨rfl,rfl⟩
theorem keyB_len (h:¬ (1<=(k.size:Int)/\(k.size:Int)<=3)):zIJ k=false:=by
 unfold zIJ;rw [zAB h,Bool.and_false]
theorem keyB_yes (h:keyTo k k.size) (h2:1<=(k.size:Int)/\(k.size:Int)<=3):zIJ k=true:=by
 rw [keyB_all h,kY h2]
theorem ba_none (h:k.size=0):k=An:=by
 apply ByteArray.ext
 have:k.data.size=0:=h;exact Array.eq_empty_of_size_eq_zero this
theorem key_i (k:ByteArray) (w:World) (hk:(k.size:Int)<=1048576) :
  Calls prog 129 #[.string k] w fun e w'=>e=.returned (.bool (zIJ k))/\w'=w:=by
 by_cases h0:k.size=0
 ·obtain rfl:=ba_none h0;have e:zIJ An=false:=keyB_len (by simp);rw [e];go_enter func129,ntmps129;go_wp2;go_ret;exact ⟨rfl,rfl⟩
 ·have c:¬ k.toList=[]:=fun e=>h0 (by
   have:k.data.toList.length=0:=by rw [<- ByteArray.toList_eq,e];rfl
   simpa using this)
  have d:k.toList.isEmpty=false:=by cases h:k.toList with
   | nil=>exact absurd h c
   | cons _ _=>rfl
  by_cases h3:3 < (k.size:Int)
  ·rw [keyB_len (by omega)];go_enter func129,ntmps129;go_wp2;go_ret;exact ⟨rfl,rfl⟩
  ·go_enter func129,ntmps129;go_wp2
   go_loop [13] (fun i=>∃ j:Nat,j<=k.size/\i=I U (j:Int)/\Hid (keyTo k j)) (fun i=>k.size - (intOf i).toNat)
   case atStart=>exact ⟨0,Ae _,rfl,fun j _ h=>by omega⟩
   case round=>
    obtain ⟨j,hj,rfl,HK⟩:=hrel
    by_cases hlt:(j:Int) < k.size
    ·have a:j < k.size:=by omega
     have hb:=byte_le k[j];have q0:(0:Int)<=(j:Int):=by omega
     by_cases h1:(k[j].toNat:Int) < 97
     ·go_wp2;go_ret;exact ⟨zL (keyB_no a (by omega)).symm,rfl⟩
     ·by_cases h2:122 < (k[j].toNat:Int)
      ·go_wp2;go_ret;exact ⟨zL (keyB_no a (by omega)).symm,rfl⟩
      ·have HN:Hid (keyTo k (j+1)):=fun i hi f=>by
        by_cases e:i=j
        ·subst e;omega
        ·exact HK.out i hi (by omega)
       go_wp2
       go_round
       case rel=>exact ⟨j+1,by omega,by go_num,HN⟩
       case measure=>simp [intOf];omega
    ·have a:j=k.size:=by omega
     have HJ:Hid (j=k.size):=a;clear a;go_wp2;go_ret;have b:=HK.out;rw [HJ.out] at b;exact ⟨zL (keyB_yes b (by omega)).symm,rfl⟩
theorem key_s (k:ByteArray) (w:World) (hk:(k.size:Int)<=1048576) :
  Calls prog 98 #[.string k] w fun e w'=>e=.returned (.bool (zIJ k))/\w'=w:=by
 go_enter func98,ntmps98;go_wp2
 go_loop [3] (fun i=>∃ j:Nat,j<=k.size/\i=I U (j:Int)/\Hid (keyTo k j)) (fun i=>k.size - (intOf i).toNat)
 case atStart=>exact ⟨0,Ae _,rfl,fun j _ h=>by omega⟩
 case round=>
  obtain ⟨j,hj,rfl,HK⟩:=hrel
  by_cases hlt:(j:Int) < k.size
  ·have a:j < k.size:=by omega
   have hb:=byte_le k[j];have q0:(0:Int)<=(j:Int):=by omega
   by_cases h1:(k[j].toNat:Int) < 97
   ·go_wp2;go_ret;exact ⟨zL (keyB_no a (by omega)).symm,rfl⟩
   ·by_cases h2:122 < (k[j].toNat:Int)
    ·go_wp2;go_ret;exact ⟨zL (keyB_no a (by omega)).symm,rfl⟩
    ·have HN:Hid (keyTo k (j+1)):=fun i hi c=>by
      by_cases e:i=j
      ·subst e;omega
      ·exact HK.out i hi (by omega)
     go_wp2
     go_round
     case rel=>exact ⟨j+1,by omega,by go_num,HN⟩
     case measure=>simp [intOf];omega
  ·have a:j=k.size:=by omega
   have HJ:=hid a;clear a;go_wp2_with fail
   refine (yS (k.size:Int) 1 3 w).mono ?_;rintro e w1 ⟨rfl,rfl⟩;go_wp2;go_ret;have b:=HK.out;rw [HJ.out] at b;exact ⟨zL (keyB_all b).symm,rfl⟩
theorem cellAt_s (cs:CL) (v:Value) (key:ByteArray) (w:World) (hv:qQ w v cs) (hl:(cs.length:Int)<=1048576) :
  Calls prog 137 #[v,.string key] w fun e w'=>e=.returned (I U (cellAt cs key))/\w'=w:=by
 obtain ⟨a,cap,rfl,hr⟩:=hv;have HR:=hid hr;clear hr;go_enter func137,ntmps137;go_wp2
 go_loop [5] (fun i=>∃ k:Nat,k<=cs.length/\i=I U (k:Int)/\Hid (cellAt cs key=jF key (cs.drop k) k)) (fun i=>cs.length - (intOf i).toNat)
 case atStart=>exact ⟨0,Ae _,rfl,rfl⟩
 case round=>
  obtain ⟨k,hk,rfl,HC⟩:=hrel
  by_cases hlt:(k:Int) < cs.length
  ·have c:k < cs.length:=by omega
   obtain ⟨g,f,rfl,hg,hc⟩:=HR (by omega);obtain ⟨j,h⟩:=hc k c;have q0:(0:Int)<=(k:Int):=by omega
   have HS:Hid (jF key (cs.drop k) k=_):=cellAt_drop cs key k c;clear hc
   by_cases he:cs[k].1=key
   ·have d:=ba_eq he;go_wp2;go_ret;exact ⟨jD (by rw [HC.out,HS.out,if_pos he]),rfl⟩
   ·have d:=ba_ne he;have HE:=hid he;clear he;go_wp2
    go_round
    case rel=>exact ⟨k+1,by omega,by go_num,(show cellAt cs key=_ from by rw [HC.out,HS.out,if_neg HE.out])⟩
    case measure=>simp [intOf];omega
  ·have b:k=cs.length:=by omega
   have HK:=hid b;clear b;go_wp2;go_ret;exact ⟨jD (by rw [HC.out,HK.out,List.drop_length];rfl),rfl⟩
def cmdV (c:CM):Value:=.agg #[I U c.1,.string c.2.1,I U c.2.2]
theorem cmdB_kind {c:CM} (h:¬ (1<=c.1/\c.1<=3)):zAF c=false:=by unfold zAF;rw [zAB h];rfl
theorem cmdB_key {c:CM} (h:zIJ c.2.1=false):zAF c=false:=by unfold zAF;rw [h,Bool.false_and,Bool.and_false]
theorem cmdB_rest {c:CM} (h:1<=c.1/\c.1<=3) (h2:zIJ c.2.1=true):zAF c=zEH c.2.2:=by unfold zAF;rw [kY h,h2];rfl
theorem cmd_i (c:CM) (w:World) (hk:(c.2.1.size:Int)<=1048576) :
  Calls prog 132 #[cmdV c] w fun e w'=>e=.returned (.bool (zAF c))/\Be w w':=by
 obtain ⟨kd,k,n⟩:=c;simp only [cmdV] at hk ⊢
 by_cases h1:1<=kd
 ·by_cases h2:kd<=3
  ·cases a:zIJ k with
   | false=>
    rw [cmdB_key a];go_enter func132,ntmps132
    go_wp2_with (first
     | (go_at_call 129;refine (key_i _ _ hk).mono ?_;rintro e w' ⟨rfl,rfl⟩;rw [a])
     | (go_at_call 130;refine (numOk_i _ _).mono ?_;rintro e w' ⟨rfl,rfl⟩))
    go_ret;exact ⟨rfl,ba (br _ _) _⟩
   | true=>
    rw [cmdB_rest ⟨h1,h2⟩ a];go_enter func132,ntmps132
    go_wp2_with (first
     | (go_at_call 129;refine (key_i _ _ hk).mono ?_;rintro e w' ⟨rfl,rfl⟩;rw [a])
     | (go_at_call 130;refine (numOk_i _ _).mono ?_;rintro e w' ⟨rfl,rfl⟩))
    go_ret;exact ⟨rfl,ba (br _ _) _⟩
  ·rw [cmdB_kind (by simp only;omega)];go_enter func132,ntmps132;go_wp2;go_ret;exact ⟨rfl,ba (br _ _) _⟩
 ·rw [cmdB_kind (by simp only;omega)];go_enter func132,ntmps132;go_wp2;go_ret;exact ⟨rfl,ba (br _ _) _⟩
theorem cmd_s (c:CM) (w:World) (hk:(c.2.1.size:Int)<=1048576) :
  Calls prog 136 #[cmdV c] w fun e w'=>e=.returned (.bool (zAF c))/\Be w w':=by
 obtain ⟨kd,k,n⟩:=c;simp only [cmdV] at hk ⊢
 by_cases h:1<=kd/\kd<=3
 ·have hi:=kY h
  cases a:zIJ k with
  | false=>
   rw [cmdB_key a];go_enter func136,ntmps136
   go_wp2_with (first
    | (go_at_call 98;refine (key_s _ _ hk).mono ?_;rintro e w' ⟨rfl,rfl⟩;rw [a])
    | (go_at_call 57;refine (yS _ _ _ _).mono ?_;rintro e w' ⟨rfl,rfl⟩;try rw [hi]))
   go_ret;exact ⟨rfl,ba (br _ _) _⟩
  | true=>
   rw [cmdB_rest h a];go_enter func136,ntmps136
   go_wp2_with (first
    | (go_at_call 98;refine (key_s _ _ hk).mono ?_;rintro e w' ⟨rfl,rfl⟩;rw [a])
    | (go_at_call 57;refine (yS _ _ _ _).mono ?_;rintro e w' ⟨rfl,rfl⟩;try rw [hi]))
   go_ret;exact ⟨rfl,ba (br _ _) _⟩
 ·have hi:=zAB h;rw [cmdB_kind h];go_enter func136,ntmps136
  go_wp2_with (first
   | (go_at_call 98;refine (key_s _ _ hk).mono ?_;rintro e w' ⟨rfl,rfl⟩)
   | (go_at_call 57;refine (yS _ _ _ _).mono ?_;rintro e w' ⟨rfl,rfl⟩;try rw [hi]))
  go_ret;exact ⟨rfl,ba (br _ _) _⟩
def kL (c:CM):List Value:=[I U c.1,.string c.2.1,I U c.2.2]
theorem kC (c:CM):(kL c).length=3:=rfl
def blkV (b:BK) (cv:Value):Value:=.agg #[I U b.1.1,I U b.1.2,cv,I U b.2.2.1,I U b.2.2.2.1,I U b.2.2.2.2.1,I U b.2.2.2.2.2]
def yEE (p:BK × Value):List Value:=[I U p.1.1.1,I U p.1.1.2,p.2,I U p.1.2.2.1,I U p.1.2.2.2.1,I U p.1.2.2.2.2.1,I U p.1.2.2.2.2.2]
theorem zDB (p:BK × Value):(yEE p).length=7:=rfl
abbrev qD (b:BK) (cv:Value):Array Value:=#[I U b.1.1,I U b.1.2,cv,I U b.2.2.1,I U b.2.2.2.1,I U b.2.2.2.2.1,I U b.2.2.2.2.2]
abbrev TL:=List (BK × Value)
def bks (ps:TL):List BK:=ps.map Prod.fst
theorem yO (ps:TL):(bks ps).length=ps.length:=by simp [bks]
theorem bks_at {ps:TL} (h:i < ps.length):(bks ps)[i]'(by rw [yO];exact h)=ps[i].1:=by simp [bks]
def jB (w:World) (v:Value) (ps:TL):Prop:=yM w v 7 yEE ps/\∀ p∈ps,yM w p.2 3 kL p.1.2.1
theorem jB.below {ps:TL} (h:jB w v ps) (hb:Be w w'):jB w' v ps:=⟨h.1.below hb,fun p hp=>(h.2 p hp).below hb⟩
def capOk (v:Value):Prop:=∀ a n cap,v=.slice a n cap->n<=cap
theorem zJB {base:Nat} {e:TypeId} (h:w.ownsRow base e m v n xs):capOk v:=by
 obtain ⟨_,⟨rfl,_⟩ | ⟨g,cap,c,rfl,_,_,hn,_⟩⟩:=h
 ·intro a n cap e;injection e with _ e2 e3;omega
 ·intro a n' b e;injection e with _ e2 e3;omega
structure zID (w:World) (v:Value) (ps:TL):Prop where
 row:yM w v 7 yEE ps
 cmds:∀ p∈ps,yM w p.2 3 kL p.1.2.1
 cap:capOk v
theorem zID.below {ps:TL} (h:zID w v ps) (hb:Be w w'):zID w' v ps:=⟨h.row.below hb,fun p hp=>(h.cmds p hp).below hb,h.cap⟩
theorem zID.q {ps:TL} (h:zID w v ps):jB w v ps:=⟨h.row,h.cmds⟩
theorem yM.take {α:Type} {f:α->List Value} {a:Option Addr} {xs:List α} (h:yM w (.slice a n cap) m f xs) (k:Nat) (hk:k<=xs.length) (c:Nat):yM w (.slice a k c) m f (xs.take k):=by
 obtain ⟨a',d,e,hr⟩:=h;injection e with e1 e2 e3
 subst e1;refine ⟨a,c,by rw [Ap,Nat.min_eq_left hk],fun h0=>?_⟩;rw [Ap] at h0;obtain ⟨g,b,rfl,hg,hc⟩:=hr (by omega);refine ⟨g,b,rfl,hg,fun i hi j hj=>?_⟩;rw [Ap] at hi;rw [List.getElem_take];exact hc i (by omega) j hj
theorem zID.take {a:Option Addr} {ps:TL} (h:zID w (.slice a n cap) ps) (k:Nat) (hk:k<=ps.length) (c:Nat) (hc:k<=c):zID w (.slice a k c) (ps.take k):=
 ⟨h.row.take k hk c,fun p hp=>h.cmds p (List.mem_of_mem_take hp),fun a' n' c' e=>by injection e with _ e2 e3;omega⟩
theorem zAI {ps:TL} (h:jB w v ps):∃ a cap,v=.slice a ps.length cap/\(0 < ps.length->∃ g off,a=Ab ⟨g,off,Aa⟩/\g < w.heap.size/\∀ i (hi:i < ps.length),
  w.cell? ⟨g,off+i * 7,Aa⟩=Ab (I U ps[i].1.1.1)/\w.cell? ⟨g,off+i * 7+1,Aa⟩=Ab (I U ps[i].1.1.2)/\w.cell? ⟨g,off+i * 7+2,Aa⟩=some ps[i].2/\w.cell? ⟨g,off+i * 7+3,Aa⟩=Ab (I U ps[i].1.2.2.1)/\
  w.cell? ⟨g,off+i * 7+4,Aa⟩=Ab (I U ps[i].1.2.2.2.1)/\w.cell? ⟨g,off+i * 7+5,Aa⟩=Ab (I U ps[i].1.2.2.2.2.1)/\w.cell? ⟨g,off+i * 7+6,Aa⟩=Ab (I U ps[i].1.2.2.2.2.2)):=by
 obtain ⟨a,cap,rfl,hr⟩:=h.1;refine ⟨a,cap,rfl,fun h0=>?_⟩;obtain ⟨g,off,rfl,hg,hc⟩:=hr h0;refine ⟨g,off,rfl,hg,fun i hi=>⟨?_,?_,?_,?_,?_,?_,?_⟩⟩
 ·exact hc i hi 0 (by omega)
 ·exact hc i hi 1 (by omega)
 ·exact hc i hi 2 (by omega)
 ·exact hc i hi 3 (by omega)
 ·exact hc i hi 4 (by omega)
 ·exact hc i hi 5 (by omega)
 ·exact hc i hi 6 (by omega)
theorem tree_cells {ps:TL} (h:zID w v ps):∃ a cap,v=.slice a ps.length cap/\ps.length<=cap/\(0 < ps.length->∃ g off,a=Ab ⟨g,off,Aa⟩/\g < w.heap.size/\∀ i (hi:i < ps.length),
  w.cell? ⟨g,off+i * 7,Aa⟩=Ab (I U ps[i].1.1.1)/\w.cell? ⟨g,off+i * 7+1,Aa⟩=Ab (I U ps[i].1.1.2)/\w.cell? ⟨g,off+i * 7+2,Aa⟩=some ps[i].2/\w.cell? ⟨g,off+i * 7+3,Aa⟩=Ab (I U ps[i].1.2.2.1)/\
  w.cell? ⟨g,off+i * 7+4,Aa⟩=Ab (I U ps[i].1.2.2.2.1)/\w.cell? ⟨g,off+i * 7+5,Aa⟩=Ab (I U ps[i].1.2.2.2.2.1)/\w.cell? ⟨g,off+i * 7+6,Aa⟩=Ab (I U ps[i].1.2.2.2.2.2)):=by
 have b:=h.cap;obtain ⟨a,cap,rfl,hr⟩:=zAI h.q;exact ⟨a,cap,rfl,b _ _ _ rfl,hr⟩
theorem box_cells {t:TypeId} (h:Below (w.alloc (.cells A t)).heap.size (w.alloc (.cells A t)) w'):w'.heap[w.heap.size]?=Ab (.cells A t (0,0)):=(h.block w.heap.size (by simp)).trans (heap_alloc_new w _)
theorem own_same {base:Nat} {e:TypeId} (h:w.ownsRow base e m v n xs) (hk:∀ g,v.ownBlock=some g->w'.heap[g]?=w.heap[g]?):w'.ownsRow base e m v n xs:=by
 obtain ⟨hl,h0 | ⟨g,cap,a,rfl,hb,hh,r⟩⟩:=h
 ·exact ⟨hl,Al h0⟩
 ·exact ⟨hl,Am ⟨g,cap,a,rfl,hb,(hk g rfl).trans hh,r⟩⟩
structure xH (w:World) (base:Nat) (v:Value) (ps:TL):Prop where
 row:w.ownsRow base 88 7 v ps.length (zE yEE ps)
 cmds:∀ p∈ps,w.ownsRow base 139 3 p.2 p.1.2.1.length (zE kL p.1.2.1)
 apart:ps.Pairwise fun p q=>q.2.ownBlock=none∨q.2.ownBlock ≠ p.2.ownBlock
theorem xH.read {base:Nat} {ps:TL} (h:xH w base v ps):zID w v ps:=⟨zW zDB h.row,fun p hp=>zW kC (h.cmds p hp),zJB h.row⟩
theorem xH.same {base:Nat} {ps:TL} (h:xH w base v ps) (hk:∀ g,base<=g->g < w.heap.size->w'.heap[g]?=w.heap[g]?):xH w' base v ps:=
 ⟨own_same h.row fun g hg=>hk g (h.row.lt g hg).1 (h.row.lt g hg).2,fun p hp=>own_same (h.cmds p hp) fun g hg=>hk g ((h.cmds p hp).lt g hg).1 ((h.cmds p hp).lt g hg).2,h.apart⟩
theorem xH.below {base:Nat} {ps:TL} (h:xH w base v ps) (hb:Be w w'):xH w' base v ps:=h.same fun g _ hg=>hb.block g hg
theorem xH.base {base base':Nat} {ps:TL} (h:xH w base v ps) (hb:base'<=base):xH w base' v ps:=⟨zN h.row hb,fun p hp=>zN (h.cmds p hp) hb,h.apart⟩
theorem blk_seven {u0 u1 u2 u3 u4 u5 u6:Value} {t:TypeId} (h0:w.heap[N]?=Ab (.cells #[u0,u1,u2,u3,u4,u5,u6] t (0,0))) (a b c d e f g:Value) :
  (w.cell? ⟨N,0,Aa⟩=some u0/\w.frozen? ⟨N,0,Aa⟩=false)/\
   ((w.setCell ⟨N,0,Aa⟩ a).cell? ⟨N,1,Aa⟩=some u1/\(w.setCell ⟨N,0,Aa⟩ a).frozen? ⟨N,1,Aa⟩=false)/\
   (((w.setCell ⟨N,0,Aa⟩ a).setCell ⟨N,1,Aa⟩ b).cell? ⟨N,2,Aa⟩=some u2/\((w.setCell ⟨N,0,Aa⟩ a).setCell ⟨N,1,Aa⟩ b).frozen? ⟨N,2,Aa⟩=false)/\
   ((((w.setCell ⟨N,0,Aa⟩ a).setCell ⟨N,1,Aa⟩ b).setCell ⟨N,2,Aa⟩ c).cell? ⟨N,3,Aa⟩=some u3/\(((w.setCell ⟨N,0,Aa⟩ a).setCell ⟨N,1,Aa⟩ b).setCell ⟨N,2,Aa⟩ c).frozen? ⟨N,3,Aa⟩=false)/\
   (((((w.setCell ⟨N,0,Aa⟩ a).setCell ⟨N,1,Aa⟩ b).setCell ⟨N,2,Aa⟩ c).setCell ⟨N,3,Aa⟩ d).cell? ⟨N,4,Aa⟩=some u4/\((((w.setCell ⟨N,0,Aa⟩ a).setCell ⟨N,1,Aa⟩ b).setCell ⟨N,2,Aa⟩ c).setCell ⟨N,3,Aa⟩ d).frozen? ⟨N,4,Aa⟩=false)/\
   ((((((w.setCell ⟨N,0,Aa⟩ a).setCell ⟨N,1,Aa⟩ b).setCell ⟨N,2,Aa⟩ c).setCell ⟨N,3,Aa⟩ d).setCell ⟨N,4,Aa⟩ e).cell? ⟨N,5,Aa⟩=some u5/\(((((w.setCell ⟨N,0,Aa⟩ a).setCell ⟨N,1,Aa⟩ b).setCell ⟨N,2,Aa⟩ c).setCell ⟨N,3,Aa⟩ d).setCell ⟨N,4,Aa⟩ e).frozen? ⟨N,5,Aa⟩=false)/\
   (((((((w.setCell ⟨N,0,Aa⟩ a).setCell ⟨N,1,Aa⟩ b).setCell ⟨N,2,Aa⟩ c).setCell ⟨N,3,Aa⟩ d).setCell ⟨N,4,Aa⟩ e).setCell ⟨N,5,Aa⟩ f).cell? ⟨N,6,Aa⟩=some u6/\((((((w.setCell ⟨N,0,Aa⟩ a).setCell ⟨N,1,Aa⟩ b).setCell ⟨N,2,Aa⟩ c).setCell ⟨N,3,Aa⟩ d).setCell ⟨N,4,Aa⟩ e).setCell ⟨N,5,Aa⟩ f).frozen? ⟨N,6,Aa⟩=false)/\
   (((((((w.setCell ⟨N,0,Aa⟩ a).setCell ⟨N,1,Aa⟩ b).setCell ⟨N,2,Aa⟩ c).setCell ⟨N,3,Aa⟩ d).setCell ⟨N,4,Aa⟩ e).setCell ⟨N,5,Aa⟩ f).setCell ⟨N,6,Aa⟩ g).heap[N]?=Ab (.cells #[a,b,c,d,e,f,g] t (0,0))/\w.grownBy (((((((w.setCell ⟨N,0,Aa⟩ a).setCell ⟨N,1,Aa⟩ b).setCell ⟨N,2,Aa⟩ c).setCell ⟨N,3,Aa⟩ d).setCell ⟨N,4,Aa⟩ e).setCell ⟨N,5,Aa⟩ f).setCell ⟨N,6,Aa⟩ g) (some N):=by
 have h1:(w.setCell ⟨N,0,Aa⟩ a).heap[N]?=Ab (.cells #[a,u1,u2,u3,u4,u5,u6] t (0,0)):=heap_setCell_same _ N 0 _ t a h0;have h2:((w.setCell ⟨N,0,Aa⟩ a).setCell ⟨N,1,Aa⟩ b).heap[N]?=Ab (.cells #[a,b,u2,u3,u4,u5,u6] t (0,0)):=heap_setCell_same _ N 1 _ t b h1;have h3:(((w.setCell ⟨N,0,Aa⟩ a).setCell ⟨N,1,Aa⟩ b).setCell ⟨N,2,Aa⟩ c).heap[N]?=Ab (.cells #[a,b,c,u3,u4,u5,u6] t (0,0)):=heap_setCell_same _ N 2 _ t c h2;have h4:((((w.setCell ⟨N,0,Aa⟩ a).setCell ⟨N,1,Aa⟩ b).setCell ⟨N,2,Aa⟩ c).setCell ⟨N,3,Aa⟩ d).heap[N]?=Ab (.cells #[a,b,c,d,u4,u5,u6] t (0,0)):=heap_setCell_same _ N 3 _ t d h3;have h5:(((((w.setCell ⟨N,0,Aa⟩ a).setCell ⟨N,1,Aa⟩ b).setCell ⟨N,2,Aa⟩ c).setCell ⟨N,3,Aa⟩ d).setCell ⟨N,4,Aa⟩ e).heap[N]?=Ab (.cells #[a,b,c,d,e,u5,u6] t (0,0)):=heap_setCell_same _ N 4 _ t e h4;have h6:((((((w.setCell ⟨N,0,Aa⟩ a).setCell ⟨N,1,Aa⟩ b).setCell ⟨N,2,Aa⟩ c).setCell ⟨N,3,Aa⟩ d).setCell ⟨N,4,Aa⟩ e).setCell ⟨N,5,Aa⟩ f).heap[N]?=Ab (.cells #[a,b,c,d,e,f,u6] t (0,0)):=heap_setCell_same _ N 5 _ t f h5;have h7:(((((((w.setCell ⟨N,0,Aa⟩ a).setCell ⟨N,1,Aa⟩ b).setCell ⟨N,2,Aa⟩ c).setCell ⟨N,3,Aa⟩ d).setCell ⟨N,4,Aa⟩ e).setCell ⟨N,5,Aa⟩ f).setCell ⟨N,6,Aa⟩ g).heap[N]?=Ab (.cells #[a,b,c,d,e,f,g] t (0,0)):=heap_setCell_same _ N 6 _ t g h6;refine ⟨⟨?_,frozen_of_row _ N 0 _ _ h0⟩,⟨?_,frozen_of_row _ N 1 _ _ h1⟩,⟨?_,frozen_of_row _ N 2 _ _ h2⟩,⟨?_,frozen_of_row _ N 3 _ _ h3⟩,⟨?_,frozen_of_row _ N 4 _ _ h4⟩,⟨?_,frozen_of_row _ N 5 _ _ h5⟩,⟨?_,frozen_of_row _ N 6 _ _ h6⟩,h7,zP (zP (zP (zP (zP (zP (yK w N 0 a) (yK _ N 1 b)) (yK _ N 2 c)) (yK _ N 3 d)) (yK _ N 4 e)) (yK _ N 5 f)) (yK _ N 6 g)⟩
 ·rw [cell_of_row _ N 0 _ _ (0,0) h0];rfl
 ·rw [cell_of_row _ N 1 _ _ (0,0) h1];rfl
 ·rw [cell_of_row _ N 2 _ _ (0,0) h2];rfl
 ·rw [cell_of_row _ N 3 _ _ (0,0) h3];rfl
 ·rw [cell_of_row _ N 4 _ _ (0,0) h4];rfl
 ·rw [cell_of_row _ N 5 _ _ (0,0) h5];rfl
 ·rw [cell_of_row _ N 6 _ _ (0,0) h6];rfl
theorem run_append_no {t ty e:TypeId} {i:TypeInfo} (ht:P.underlying t=Ab (.slice e)) (hi:P.info? e=some i) (w:World) {base:Nat} (hown:w.ownsRow base e m v n xs) (c:Nat) :
  (Builtin.append_ #[t,t] ty #[v,.slice none 0 c]).run P w=.ok v w:=by
 obtain ⟨hl,⟨rfl,h0⟩ | ⟨g,cap,b,rfl,hb,hh,hn,hc,hs,a⟩⟩:=hown
 ·simp [Builtin.append_,run_underlying ht,sizeOf,typeInfo,hi,Builtin.lenOf,Builtin.firstCells]
 ·have:n<=cap:=by omega
  simp [Builtin.append_,run_underlying ht,sizeOf,typeInfo,hi,Builtin.lenOf,Builtin.firstCells,storeCells,this]
theorem yBG {α:Type} {f:α->List Value} (w:World) {Q:Exit->Act->World->Prop} (hgd:o.guard=none) (s x:Operand) (t:TypeId)
  (ho:o.op=.call { callee:=.builtin .append,args:=#[s,x],argTypes:=#[t,t] })
  (base:Nat) (e:TypeId) (i:TypeInfo) (z:Value) (bytes:Nat) (ht:prog.underlying t=Ab (.slice e)) (hi:prog.info? e=some i) (hz:i.zero=some z) (hsize:i.size=m) (hby:i.bytes=bytes) (hzs:z.cells.size=m) (hsz:0 < m)
  (hm:∀ y,(f y).length=m) (hone:∀ y,∀ u∈f y,u.oneCell'=true)
  (v:Value) (xs:List α) (hs:a.eval s=v) (hown:w.ownsRow base e m v xs.length (zE f xs))
  (src:Value) (cs:List α) (hx:a.eval x=src) (hsrc:yM w src m f cs) (h63:xs.length+cs.length<=maxLen) (hbytes:(xs.length+cs.length) * bytes<=140737488355328) (hbase:base<=w.heap.size)
  (h:∀ v' w',w'.ownsRow base e m v' (xs ++ cs).length (zE f (xs ++ cs))->w.grownBy w' v.ownBlock->wpList prog ops Q rest (a.put o.dst v') w'):wpList prog ops Q (o :: rest) a w:=by
 obtain ⟨ad,cap,rfl,hr⟩:=hsrc
 cases ad with
 | none=>
  have h0:cs.length=0:=by
   rcases Nat.eq_zero_or_pos cs.length with h | h
   ·exact h
   ·obtain ⟨_,_,e,_⟩:=hr h;cases e
  obtain rfl:cs=[]:=List.eq_nil_of_length_eq_zero h0;refine wpList_plain hgd fun K' l=>?_
  have d:=run_append_no (ty:=o.type) ht hi w hown cap;unfold Oper.wp execOp;simp only [ho,resolve,invoke,builtin,Sem.run_bind,Sem.run_pure,Result.andThen_ok,List.map_toArray,List.map_cons,List.map_nil,hs,hx,List.length_nil,d];exact l _ _ (h v w (by simpa using hown) ⟨rfl,rfl,rfl,nl _,fun _ _ _=>rfl⟩)
 | some ad=>
  refine wpList_append_own _ hgd s x t ho base e i z m bytes ht hi hz hsize hby hzs hsz v _ _ hs hown ad cs.length cap (zE f cs) hx (jX hm cs) ?_ (fun u hu=>?_) h63 hbytes hbase fun v' w' h1 h2 _=>h v' w' (by rw [Ah,zY];exact h1) h2
  ·intro j u hj
   have c:j < cs.length * m:=by
    rw [<- jX hm];exact (List.getElem?_eq_some_iff.1 hj).1
   have h0:0 < cs.length:=by
    rcases Nat.eq_zero_or_pos cs.length with h | h
    ·rw [h] at c;omega
    ·exact h
   obtain ⟨g,b,k,hg,hc⟩:=hr h0
   cases k
   have hp:(⟨g,b,Aa⟩:Addr).add j=⟨g,b+j,Aa⟩:=by unfold Addr.add;split <;> simp_all
   have hd:j / m < cs.length:=Nat.div_lt_of_lt_mul (by rw [Nat.mul_comm];exact c);have hr:j % m < m:=Nat.mod_lt _ hsz;have e:j=j / m * m+j % m:=by rw [Nat.mul_comm];exact (Nat.div_add_mod j m).symm
   have hf:=jY hm cs (j / m) hd (j % m) hr;rw [<- e] at hf;rw [hp,show b+j=b+j / m * m+j % m by omega,hc (j / m) hd (j % m) hr,<- hf,hj]
  ·obtain ⟨y,_,hy⟩:=List.mem_flatMap.1 hu;exact hone y u hy
theorem qL (c:CM):∀ u∈kL c,u.oneCell'=true:=by
 intro u hu;unfold kL at hu;simp at hu;rcases hu with h | h | h <;> subst h <;> rfl
theorem infoCm3:(prog.info? 139).map (fun i=>(i.zero,i.size,i.bytes))=Ab (Ab (.agg #[I U 0,.string An,I U 0]),3,32):=by kernel_rfl
theorem infoBlk:(prog.info? 88).map (fun i=>(i.zero,i.size,i.bytes))=Ab (Ab (.agg #[I U 0,I U 0,.slice none 0 0,I U 0,I U 0,I U 0,I U 0]),7,72):=by kernel_rfl
theorem yBA {e1 e2:TypeId} (h1:w.ownsRow b1 e1 m1 v1 n1 xs1) (h2:w.ownsRow b2 e2 m2 v2 n2 xs2) (he:e1 ≠ e2):v1.ownBlock=none∨v1.ownBlock ≠ v2.ownBlock:=by
 obtain ⟨_,⟨rfl,_⟩ | ⟨g1,h,g,rfl,_,c,_⟩⟩:=h1
 ·exact Al rfl
 ·refine Am fun e=>?_
  obtain ⟨_,⟨rfl,_⟩ | ⟨g2,f,d,rfl,_,a,_⟩⟩:=h2
  ·simp [Ao] at e
  ·have:g1=g2:=by simpa [Ao] using e
   subst this;rw [c] at a;injection a with a
   injection a with _ b
   exact he b
theorem newsB (W:World) (b:BK) (cv:Value) (t:TypeId):∀ j u,(yEE (b,cv))[j]?=some u->(W.alloc (.cells (qD b cv) t)).cell? ((⟨W.heap.size,0,Aa⟩:Addr).add j)=some u:=by
 intro j u hj;have hp:(⟨W.heap.size,0,Aa⟩:Addr).add j=⟨W.heap.size,j,Aa⟩:=by unfold Addr.add;split <;> simp_all
 rw [hp,cell_of_row _ W.heap.size j _ _ (0,0) (heap_alloc_new W _),<- hj];simp [yEE]
theorem onesB (b:BK) (a:Option Addr) (n cap:Nat):∀ u∈yEE (b,.slice a n cap),u.oneCell'=true:=by
 intro u hu;unfold yEE at hu;simp at hu;rcases hu with h | h | h | h | h | h | h <;> subst h <;> rfl
theorem flatB_one (p:BK × Value):zE yEE [p]=yEE p:=by simp [zE]
theorem bks_snoc (qs:TL) (p:BK × Value):bks (qs ++ [p])=bks qs ++ [p.1]:=by simp [bks]
theorem ne_ids:139 ≠ 88:=by decide
theorem xH.push {wr w3:World} {base:Nat} {v3:Value} {qs:TL} {b:BK} {o:Obj} (h:xH wr base v qs) (hb:Be wr w2) (hc:w2.ownsRow wr.heap.size 139 3 cv b.2.1.length (zE kL b.2.1))
  (row:w3.ownsRow base 88 7 v3 (qs.length+1) (zE yEE qs ++ yEE (b,cv))) (hg:(w2.alloc o).grownBy w3 v.ownBlock) (hbase:base<=wr.heap.size):xH w3 base v3 (qs ++ [(b,cv)]):=by
 have a:(w2.alloc o).ownsRow base 88 7 v qs.length (zE yEE qs):=Aj (zS h.row hb) o;refine ⟨by rw [Ah,zY,flatB_one];exact row,fun p hp=>?_,?_⟩
 ·rcases List.mem_append.1 hp with hp | hp
  ·have h2:(w2.alloc o).ownsRow base 139 3 p.2 p.1.2.1.length (zE kL p.1.2.1):=Aj (zS (h.cmds p hp) hb) o;exact Ai h2 hg (yBA h2 a ne_ids)
  ·simp at hp;subst hp;have h2:(w2.alloc o).ownsRow wr.heap.size 139 3 cv b.2.1.length (zE kL b.2.1):=Aj hc o;exact zN (Ai h2 hg (yBA h2 a ne_ids)) hbase
 ·rw [List.pairwise_append];refine ⟨h.apart,by simp,fun p hp q hq=>?_⟩;simp at hq;subst hq;exact own_ne (h.cmds p hp) hc (nl _)
theorem ownT_nil (w:World):xH (w.alloc (.cells #[] 88)) w.heap.size (.slice (Ab ⟨w.heap.size,0,Aa⟩) 0 0) []:=⟨yH w _ 7,fun p hp=>(by cases hp),List.Pairwise.nil⟩
theorem ownT_one {base:Nat} {b:BK} (hb:base<=w.heap.size) (hc:w.ownsRow base 139 3 cv b.2.1.length (zE kL b.2.1)) :
  xH (w.alloc (.cells (qD b cv) 88)) base (.slice (Ab ⟨w.heap.size,0,Aa⟩) 1 1) [(b,cv)]:=by
 refine ⟨⟨rfl,Am ⟨w.heap.size,1,qD b cv,rfl,hb,heap_alloc_new w _,nl _,by unfold maxLen;omega,rfl,rfl⟩⟩,fun p hp=>?_,by simp⟩;simp at hp;subst hp;exact Aj hc _
theorem eqQ (q r:QC) (w:World):(Op.equalIn 10000 26 (.agg #[I U q.1,I U q.2.1,I U q.2.2.1,I U q.2.2.2]) (.agg #[I U r.1,I U r.2.1,I U r.2.2.1,I U r.2.2.2])).run prog w=.ok (decide (q=r)) w:=by
 have u3:=underlying3;have hS:prog.underlying 26=Ab (.struct (prog.fieldsOf 26)):=by kernel_rfl
 have hp:prog.stoodInHeld 26=false:=by kernel_rfl
 rw [show (10000:Nat)=9999+1 from rfl,run_equalIn_agg w 9999 26 _ _ hS hp];simp only [Program.fieldsOf,underlying26];go_simp;obtain ⟨a,b,c,d⟩:=q;obtain ⟨a',b',c',d'⟩:=r;simp only [Prod.mk.injEq]
 by_cases h1:a=a' <;> by_cases h2:b=b' <;> by_cases h3:c=c' <;> by_cases h4:d=d' <;> simp [h1,h2,h3,h4]
theorem guardQ:prog.eqGuardType prog.depth 26=false:=by kernel_rfl
theorem eqM (c d:CM) (w:World):(Op.equalIn 10000 139 (.agg #[I U c.1,.string c.2.1,I U c.2.2]) (.agg #[I U d.1,.string d.2.1,I U d.2.2])).run prog w=.ok (decide (c=d)) w:=by
 have u3:=underlying3;have u9:=underlying9;have hS:prog.underlying 139=Ab (.struct (prog.fieldsOf 139)):=by kernel_rfl
 have hp:prog.stoodInHeld 139=false:=by kernel_rfl
 rw [show (10000:Nat)=9999+1 from rfl,run_equalIn_agg w 9999 139 _ _ hS hp];simp only [Program.fieldsOf,underlying139];go_simp;obtain ⟨k,s,n⟩:=c;obtain ⟨k',s',n'⟩:=d;simp only [Prod.mk.injEq]
 by_cases h1:k=k'
 ·by_cases h2:s=s'
  ·by_cases h3:n=n' <;> simp [h1,h2,h3]
  ·have e2:¬ s.toList=s'.toList:=beq_eq_false_iff_ne.1 (ba_ne h2);simp [h1,h2,e2]
 ·simp [h1]
theorem guardM:prog.eqGuardType prog.depth 139=false:=by kernel_rfl
theorem first_s (w:World):Calls prog 180 #[] w fun e w'=>e=.returned (blkV kE (.slice none 0 0))/\Be w w':=by
 go_enter func180,ntmps180;go_wp2;refine bodyPost_ret (v:=blkV kE (.slice none 0 0)) (by simp [results,results180,go_sem,blkV,kE]) rfl ⟨rfl,?_⟩;exact ba (br _ _) _
def sameTo (l l':List CM) (k:Nat):Prop:=∀ j (h:j < l.length) (h':j < l'.length),j < k->l[j]=l'[j]
theorem sameTo_all {l l':List CM} (hl:l.length=l'.length) (h:sameTo l l' l.length):l=l':=
 List.ext_getElem hl fun i h1 h2=>h i h1 h2 h1
theorem sameTo_next {l l':List CM} {k:Nat} (h:sameTo l l' k) (hk:k < l.length) (hk':k < l'.length) (e:l[k]=l'[k]):sameTo l l' (k+1):=fun j hj a b=>by
 by_cases hh:j=k
 ·subst hh;exact e
 ·exact h j hj a (by omega)
theorem bk_ne1 {a b:BK} (h:a.1.1 ≠ b.1.1):decide (a=b)=false:=decide_eq_false fun e=>h (by rw [e])
theorem bk_ne2 {a b:BK} (h:a.1.2 ≠ b.1.2):decide (a=b)=false:=decide_eq_false fun e=>h (by rw [e])
theorem bk_ne3 {a b:BK} (h:a.2.2 ≠ b.2.2):decide (a=b)=false:=decide_eq_false fun e=>h (by rw [e])
theorem bk_ne4 {a b:BK} (h:a.2.1.length ≠ b.2.1.length):decide (a=b)=false:=decide_eq_false fun e=>h (by rw [e])
theorem bk_ne5 {a b:BK} {k:Nat} (hk:k < a.2.1.length) (hk':k < b.2.1.length) (h:a.2.1[k] ≠ b.2.1[k]):decide (a=b)=false:=decide_eq_false fun e=>h (by simp only [e])
theorem bk_eq {a b:BK} (h1:a.1.1=b.1.1) (h2:a.1.2=b.1.2) (h3:a.2.2=b.2.2) (h4:a.2.1=b.2.1):decide (a=b)=true:=decide_eq_true (Prod.ext (Prod.ext h1 h2) (Prod.ext h4 h3))
theorem xL {b:BK} {t:TypeId} (h:w.heap[n]?=Ab (.cells (qD b cv) t (0,0))) :
  w.cell? ⟨n,0,Aa⟩=Ab (I U b.1.1)/\w.cell? ⟨n,1,Aa⟩=Ab (I U b.1.2)/\w.cell? ⟨n,2,Aa⟩=some cv/\w.cell? ⟨n,3,Aa⟩=Ab (I U b.2.2.1)/\w.cell? ⟨n,4,Aa⟩=Ab (I U b.2.2.2.1)/\w.cell? ⟨n,5,Aa⟩=Ab (I U b.2.2.2.2.1)/\w.cell? ⟨n,6,Aa⟩=Ab (I U b.2.2.2.2.2):=by
 refine ⟨?_,?_,?_,?_,?_,?_,?_⟩ <;> rw [cell_of_row w n _ _ _ (0,0) h] <;> rfl
theorem same_s (a b:BK) (ca cb:Value) (w:World) (ha:yM w ca 3 kL a.2.1) (hb:yM w cb 3 kL b.2.1) (hla:(a.2.1.length:Int)<=1048576) (hlb:(b.2.1.length:Int)<=1048576) :
  Calls prog 207 #[blkV a ca,blkV b cb] w fun e w'=>e=.returned (.bool (decide (a=b)))/\Be w w':=by
 obtain ⟨aa,na,rfl,p⟩:=ha;obtain ⟨ab,nb,rfl,y⟩:=hb;have HA:=hid p;have HB:=hid y;have E1:=eqQ a.2.2 b.2.2;have E2:=guardQ;clear p y;unfold blkV
 by_cases h1:a.1.1=b.1.1
 ·have r:(a.1.1 != b.1.1)=false:=by simp [h1]
  by_cases h2:a.1.2=b.1.2
  ·have v:(a.1.2 != b.1.2)=false:=by simp [h2]
   by_cases h3:a.2.2=b.2.2
   ·have s:decide (a.2.2=b.2.2)=true:=decide_eq_true h3;rw [s] at E1
    by_cases h4:a.2.1.length=b.2.1.length
    ·have t:((a.2.1.length:Int) != (b.2.1.length:Int))=false:=by simp [h4]
     have HE:=hid (qad4 h1 h2 h3 h4);clear h1 h2 h3 h4 s;go_enter func207,ntmps207;go_wp2;obtain ⟨W1,n⟩:=nw ((w.alloc (.cells (qD a (.slice aa a.2.1.length na)) 88)).alloc (.cells (qD b (.slice ab b.2.1.length nb)) 88))
     have HW:Hid (Bx W1 w.heap.size (qD a (.slice aa a.2.1.length na)) 88/\Bx W1 (w.heap.size+1) (qD b (.slice ab b.2.1.length nb)) 88/\Be w W1):=(by
      rw [n];refine ⟨box_cells (ba (br _ _) _),?_,ba (ba (br _ _) _) _⟩;have:=heap_alloc_new (w.alloc (.cells (qD a (.slice aa a.2.1.length na)) 88)) (.cells (qD b (.slice ab b.2.1.length nb)) 88);rw [show (w.alloc (.cells (qD a (.slice aa a.2.1.length na)) 88)).heap.size=w.heap.size+1 by simp] at this
      exact this:Bx W1 w.heap.size (qD a (.slice aa a.2.1.length na)) 88/\Bx W1 (w.heap.size+1) (qD b (.slice ab b.2.1.length nb)) 88/\Be w W1)
     rw [<- n];clear n E1 E2 r v t
     go_loopw [5] (fun i wr=>∃ k:Nat,k<=a.2.1.length/\i=I U (k:Int)/\Hid (sameTo a.2.1 b.2.1 k)/\Be W1 wr) (fun i _=>a.2.1.length - (intOf i).toNat)
     case atStart=>exact ⟨0,Ae _,rfl,fun j _ _ h=>by omega,br _ _⟩
     case round=>
      obtain ⟨k,hk,rfl,HS,c⟩:=hrel;have l0:w.heap.size < W1.heap.size:=(gl HW.1);have l1:w.heap.size+1 < W1.heap.size:=(gl HW.2.1);have x0:∀ x:Bw wr,x.to.cell? ⟨w.heap.size,2,Aa⟩=Ab (.slice aa a.2.1.length na):=fun x=>(xL (((bt c x.below).block _ l0).trans HW.1)).2.2.1
      have x1:∀ x:Bw wr,x.to.cell? ⟨w.heap.size+1,2,Aa⟩=Ab (.slice ab b.2.1.length nb):=fun x=>(xL (((bt c x.below).block _ l1).trans HW.2.1)).2.2.1
      have y0:wr.cell? ⟨w.heap.size,2,Aa⟩=Ab (.slice aa a.2.1.length na):=x0 ⟨wr,br _ _⟩
      by_cases hlt:(k:Int) < a.2.1.length
      ·have d:k < a.2.1.length:=by omega
       have f:k < b.2.1.length:=by rw [<- HE.out.2.2.2];exact d
       have q0:(0:Int)<=(k:Int):=by omega
       have q1:(k:Int) < b.2.1.length:=by omega
       obtain ⟨ga,oa,rfl,m,g⟩:=HA (by omega);obtain ⟨gb,ob,rfl,o,l⟩:=HB (by omega);have z:=yX wr;have BB:∀ x:Bw wr,Be w x.to:=fun x=>bt HW.2.2 (bt c x.below)
       have c0:∀ x:Bw wr,x.to.cell? ⟨ga,oa+k * 3,Aa⟩=Ab (I U a.2.1[k].1):=fun x=>by rw [(BB x).cell (by exact m)];exact g k d 0 (by omega)
       have c1:∀ x:Bw wr,x.to.cell? ⟨ga,oa+k * 3+1,Aa⟩=Ab (.string a.2.1[k].2.1):=fun x=>by rw [(BB x).cell (by exact m)];exact g k d 1 (by omega)
       have c2:∀ x:Bw wr,x.to.cell? ⟨ga,oa+k * 3+2,Aa⟩=Ab (I U a.2.1[k].2.2):=fun x=>by rw [(BB x).cell (by exact m)];exact g k d 2 (by omega)
       have d0:∀ x:Bw wr,x.to.cell? ⟨gb,ob+k * 3,Aa⟩=Ab (I U b.2.1[k].1):=fun x=>by rw [(BB x).cell (by exact o)];exact l k f 0 (by omega)
       have d1:∀ x:Bw wr,x.to.cell? ⟨gb,ob+k * 3+1,Aa⟩=Ab (.string b.2.1[k].2.1):=fun x=>by rw [(BB x).cell (by exact o)];exact l k f 1 (by omega)
       have d2:∀ x:Bw wr,x.to.cell? ⟨gb,ob+k * 3+2,Aa⟩=Ab (I U b.2.1[k].2.2):=fun x=>by rw [(BB x).cell (by exact o)];exact l k f 2 (by omega)
       have E3:=eqM a.2.1[k] b.2.1[k];have E4:=guardM;clear g l BB
       by_cases he:a.2.1[k]=b.2.1[k]
       ·rw [decide_eq_true he] at E3;have HT:Hid (sameTo a.2.1 b.2.1 (k+1)):=sameTo_next HS d f he;clear he;go_wp2;refine rb ?_;repeat (go_big_quiet_step (fail))
        refine qnn fun x=>?_
        go_wp2
        go_roundw
        case rel=>exact ⟨k+1,by omega,by go_num,HT,bt c x.below⟩
        case measure=>simp [intOf];omega
       ·rw [decide_eq_false he] at E3;have HT:Hid (decide (a=b)=false):=bk_ne5 d f he;clear he;go_wp2;refine rb ?_;repeat (go_big_quiet_step (fail))
        refine qnn fun x=>?_
        go_wp2;go_ret;exact ⟨zL HT.symm,bt HW.2.2 (bt c x.below)⟩
      ·have u:k=a.2.1.length:=by omega
       have HT:Hid (decide (a=b)=true):=bk_eq HE.1 HE.2.1 HE.2.2.1 (sameTo_all HE.2.2.2 (by have:=HS.out;rw [u] at this;exact this));clear u;go_wp2;go_ret;exact ⟨zL HT.symm,bt HW.2.2 c⟩
    ·have t:((a.2.1.length:Int) != (b.2.1.length:Int))=true:=by simpa using fun e:(a.2.1.length:Int)=b.2.1.length=>h4 (by omega)
     rw [bk_ne4 h4];clear h4;go_enter func207,ntmps207;go_wp2;go_ret;exact ⟨rfl,ba (ba (br _ _) _) _⟩
   ·rw [decide_eq_false h3] at E1;rw [bk_ne3 h3];clear h3;go_enter func207,ntmps207;go_wp2;go_ret;exact ⟨rfl,ba (ba (br _ _) _) _⟩
  ·have v:(a.1.2 != b.1.2)=true:=by simpa using h2
   rw [bk_ne2 h2];clear h2;go_enter func207,ntmps207;go_wp2;go_ret;exact ⟨rfl,ba (ba (br _ _) _) _⟩
 ·have r:(a.1.1 != b.1.1)=true:=by simpa using h1
  rw [bk_ne1 h1];clear h1;go_enter func207,ntmps207;go_wp2;go_ret;exact ⟨rfl,ba (ba (br _ _) _) _⟩
def okT (t:List BK):Prop:=(t.length:Int)<=1048576/\∀ b∈t,(b.2.1.length:Int)<=1048576/\∀ c∈b.2.1,(c.2.1.size:Int)<=1048576
def okB (b:BK):Prop:=(b.2.1.length:Int)<=1048576/\∀ c∈b.2.1,(c.2.1.size:Int)<=1048576
theorem okT_at {ps:TL} (h:okT (bks ps)) (hi:i < ps.length):okB ps[i].1:=h.2 _ (List.mem_map.2 ⟨ps[i],Ag hi,rfl⟩)
theorem zDF {x lo hi:Int} (h:inB x lo hi=true):lo<=x/\x<=hi:=by unfold inB at h;simpa using h
theorem inB_not {x lo hi:Int} (h:inB x lo hi=false):¬ (lo<=x/\x<=hi):=fun e=>by rw [kY e] at h;cases h
theorem blockOk_s (ps:TL) (v:Value) (b:BK) (cv:Value) (w:World) (hT:zID w v ps) (hB:yM w cv 3 kL b.2.1) (hl:(ps.length:Int)<=1048576) (hk:okB b) :
  Calls prog 182 #[v,blkV b cv] w fun e w'=>e=.returned (.bool (xV (bks ps) b))/\Be w w':=by
 obtain ⟨a,cap,rfl,_,hr⟩:=tree_cells hT;obtain ⟨ac,cc,rfl,ab⟩:=hB;have HR:=hid hr;have HC:=hid ab;have r:=yO ps;obtain ⟨⟨m,vw⟩,⟨c,ph,jv,jb,sg⟩⟩:=b;simp only at HC hk;have ag:=hk.1;have HK:=hid hk.2;simp only at ag;unfold blkV;simp only;obtain ⟨W1,f⟩:=nw (w.alloc (.cells #[I U m,I U vw,.slice ac c.length cc,I U ph,I U jv,I U jb,I U sg] 88))
 have HW:Hid (Bx W1 w.heap.size (qD ((m,vw),(c,ph,jv,jb,sg)) (.slice ac c.length cc)) 88/\Be w W1):=by
  rw [f];exact ⟨heap_alloc_new w _,ba (br _ _) _⟩
 have l0:w.heap.size < W1.heap.size:=(gl HW.1);have HX:Hid (∀ w',Be W1 w'->Bx w' w.heap.size (qD ((m,vw),(c,ph,jv,jb,sg)) (.slice ac c.length cc)) 88):=fun w' h'=>(h'.block _ l0).trans HW.1
 have aj:=yX W1;have y0:∀ x:Bw W1,x.to.cell? ⟨w.heap.size,0,Aa⟩=Ab (I U m):=fun x=>(xL (HX _ x.below)).1
 have y1:∀ x:Bw W1,x.to.cell? ⟨w.heap.size,1,Aa⟩=Ab (I U vw):=fun x=>(xL (HX _ x.below)).2.1
 have y2:∀ x:Bw W1,x.to.cell? ⟨w.heap.size,2,Aa⟩=Ab (.slice ac c.length cc):=fun x=>(xL (HX _ x.below)).2.2.1
 clear hr ab hT hk
 cases hp:inB m 0 ((ps.length:Int) - 1) with
 | false=>
  have HE:Hid (xV (bks ps) ((m,vw),(c,ph,jv,jb,sg))=false):=blockB_par (by simp only;rw [r];exact hp);go_enter func182,ntmps182;go_wp2;rw [<- f];clear f;refine rb ?_;repeat (go_big_quiet_step (refine zI (yS _ _ _ _)))
  refine qnn fun x=>?_
  go_wp2;go_ret;exact ⟨zL HE.symm,bt HW.2 x.below⟩
 | true=>
  obtain ⟨p0,p1⟩:=zDF hp;obtain ⟨j,rfl⟩:=Int.eq_ofNat_of_zero_le p0;have hj:j < ps.length:=by omega
  have q1:(j:Int) < ps.length:=by omega
  obtain ⟨g,s,rfl,hg,hc⟩:=HR (by omega);have HV:Hid (yR (bks ps) (j:Int)=ps[j].1.1.2):=hid (by rw [viewAt_at (by rw [r];exact hj),bks_at hj]);have z1:∀ x:Bw W1,x.to.cell? ⟨g,s+j * 7+1,Aa⟩=Ab (I U ps[j].1.1.2):=fun x=>by rw [(bt HW.2 x.below).cell (by exact hg)];exact (hc j hj).2.1
  clear hc
  by_cases hlow:ps[j].1.1.2 < vw
  ·have d1:decide (vw<=ps[j].1.1.2)=false:=decide_eq_false (by omega)
   by_cases hhigh:vw<=900
   ·have d2:decide (900 < vw)=false:=decide_eq_false (by omega)
    by_cases hmany:(c.length:Int)<=4
    ·have d3:decide (4 < (c.length:Int))=false:=decide_eq_false (by omega)
     have HB:Hid (∀ (_:cmdsTo c c.length),xV (bks ps) (((j:Int),vw),(c,ph,jv,jb,sg))=(decide (jb=(j:Int)) && decide (jv=ps[j].1.1.2))):=fun h4=>by
      have:=blockB_all (t:=bks ps) (b:=(((j:Int),vw),(c,ph,jv,jb,sg))) (by simp only;rw [r];exact hp) (by simp only;rw [HV.out];exact hlow) hhigh (by simp only;omega) h4;rw [this];simp only;rw [HV.out]
     have HN:Hid (∀ i (hi:i < c.length),zAF c[i]=false->xV (bks ps) (((j:Int),vw),(c,ph,jv,jb,sg))=false):=fun i hi hc=>blockB_cmd (b:=(((j:Int),vw),(c,ph,jv,jb,sg))) hi hc
     go_enter func182,ntmps182;go_wp2;rw [<- f];clear f;refine rb ?_;repeat (go_big_quiet_step (refine zI (yS _ _ _ _)))
     refine qnn fun x=>?_
     have ae:=hid x.below;go_wp2;clear d1 d2 d3 hlow hhigh hmany hp
     go_loopw [5] (fun i wr=>∃ k:Nat,k<=c.length/\i=I U (k:Int)/\Hid (cmdsTo c k)/\Be W1 wr) (fun i _=>c.length - (intOf i).toNat)
     case atStart=>exact ⟨0,Ae _,rfl,fun i _ h=>by omega,ae⟩
     case round=>
      obtain ⟨k,hk,rfl,HS,d⟩:=hrel;have u2:wr.cell? ⟨w.heap.size,2,Aa⟩=Ab (.slice ac c.length cc):=(xL (HX _ d)).2.2.1
      by_cases hlt:(k:Int) < c.length
      ·have l:k < c.length:=by omega
       have q0:(0:Int)<=(k:Int):=by omega
       obtain ⟨gc,oc,rfl,o,n⟩:=HC (by omega);have c0:wr.cell? ⟨gc,oc+k * 3,Aa⟩=Ab (I U c[k].1):=by rw [(bt HW.2 d).cell (by exact o)];exact n k l 0 (by omega)
       have c1:wr.cell? ⟨gc,oc+k * 3+1,Aa⟩=Ab (.string c[k].2.1):=by rw [(bt HW.2 d).cell (by exact o)];exact n k l 1 (by omega)
       have c2:wr.cell? ⟨gc,oc+k * 3+2,Aa⟩=Ab (I U c[k].2.2):=by rw [(bt HW.2 d).cell (by exact o)];exact n k l 2 (by omega)
       clear n;go_wp2_with fail
       refine (cmd_s c[k] wr (HK _ (Ag l))).mono ?_;rintro e w2 ⟨rfl,aa⟩
       cases z:zAF c[k] with
       | false=>
        have HF:=HN k l z;have ah:=hid HF;clear HF;go_wp2;go_ret;exact ⟨zL ah.symm,bt HW.2 (bt d aa)⟩
       | true=>
        have HT:Hid (cmdsTo c (k+1)):=cmdsTo_next HS l z;go_wp2
        go_roundw
        case rel=>exact ⟨k+1,by omega,by go_num,HT,bt d aa⟩
        case measure=>simp [intOf];omega
      ·have u:k=c.length:=by omega
       have HF:Hid (xV (bks ps) (((j:Int),vw),(c,ph,jv,jb,sg))=(decide (jb=(j:Int)) && decide (jv=ps[j].1.1.2))):=HB (by have:=HS.out;rw [u] at this;exact this);have ai:=yX wr;have t0:∀ x:Bw wr,x.to.cell? ⟨w.heap.size,0,Aa⟩=Ab (I U (j:Int)):=fun x=>(xL (HX _ (bt d x.below))).1
       have t4:∀ x:Bw wr,x.to.cell? ⟨w.heap.size,4,Aa⟩=Ab (I U jv):=fun x=>(xL (HX _ (bt d x.below))).2.2.2.2.1
       have t5:∀ x:Bw wr,x.to.cell? ⟨w.heap.size,5,Aa⟩=Ab (I U jb):=fun x=>(xL (HX _ (bt d x.below))).2.2.2.2.2.1
       have tz:∀ x:Bw wr,x.to.cell? ⟨g,s+j * 7+1,Aa⟩=Ab (I U ps[j].1.1.2):=fun x=>z1 ⟨x.to,bt d x.below⟩
       clear u
       by_cases e1:jb=(j:Int)
       ·have ad:(jb == (j:Int))=true:=by simpa using e1
        have p:Hid (xV (bks ps) (((j:Int),vw),(c,ph,jv,jb,sg))=(jv == ps[j].1.1.2)):=hid (by rw [HF.out,decide_eq_true e1,Bool.true_and];rfl);clear e1;go_wp2;refine rb ?_;repeat (go_big_quiet_step (fail))
        refine qnn fun y=>?_
        go_wp2;go_ret;exact ⟨zL p.symm,bt HW.2 (bt d y.below)⟩
       ·have ad:(jb == (j:Int))=false:=by simpa using e1
        have p:Hid (xV (bks ps) (((j:Int),vw),(c,ph,jv,jb,sg))=false):=hid (by rw [HF.out,decide_eq_false e1,Bool.false_and]);clear e1;go_wp2;refine rb ?_;repeat (go_big_quiet_step (fail))
        refine qnn fun y=>?_
        go_wp2;go_ret;exact ⟨zL p.symm,bt HW.2 (bt d y.below)⟩
    ·have HE:Hid (xV (bks ps) (((j:Int),vw),(c,ph,jv,jb,sg))=false):=blockB_many (by simp only;omega);go_enter func182,ntmps182;go_wp2;rw [<- f];clear f;refine rb ?_;repeat (go_big_quiet_step (refine zI (yS _ _ _ _)))
     refine qnn fun x=>?_
     go_wp2;go_ret;exact ⟨zL HE.symm,bt HW.2 x.below⟩
   ·have HE:Hid (xV (bks ps) (((j:Int),vw),(c,ph,jv,jb,sg))=false):=blockB_high (by simp only;omega);go_enter func182,ntmps182;go_wp2;rw [<- f];clear f;refine rb ?_;repeat (go_big_quiet_step (refine zI (yS _ _ _ _)))
    refine qnn fun x=>?_
    go_wp2;go_ret;exact ⟨zL HE.symm,bt HW.2 x.below⟩
  ·have HE:Hid (xV (bks ps) (((j:Int),vw),(c,ph,jv,jb,sg))=false):=blockB_low (by simp only;rw [HV.out];exact hlow);have af:vw<=ps[j].1.1.2:=Int.not_lt.1 hlow;go_enter func182,ntmps182;go_wp2;rw [<- f];clear f;refine rb ?_;repeat (go_big_quiet_step (refine zI (yS _ _ _ _)))
   refine qnn fun x=>?_
   go_wp2;go_ret;exact ⟨zL HE.symm,bt HW.2 x.below⟩
theorem blockAt_s (ps:TL) (v:Value) (b:BK) (cv:Value) (w:World) (hT:zID w v ps) (hB:yM w cv 3 kL b.2.1) (hk:okT (bks ps)) (hkb:okB b) :
  Calls prog 181 #[v,blkV b cv] w fun e w'=>e=.returned (I U (kI (bks ps) b))/\Be w w':=by
 have HT:=hid hT;have HB:=hid hB;have HK:=hid hk;have n:=hid hkb;obtain ⟨a,cap,rfl,_,hr⟩:=tree_cells hT;have HR:=hid hr;have l:=yO ps;have hl:(ps.length:Int)<=1048576:=by have:=hk.1;rw [l] at this;exact this
 unfold blkV;obtain ⟨W1,j⟩:=nw (w.alloc (.cells (qD b cv) 88))
 have HW:Hid (Bx W1 w.heap.size (qD b cv) 88/\Be w W1):=by
  rw [j];exact ⟨heap_alloc_new w _,ba (br _ _) _⟩
 have l0:w.heap.size < W1.heap.size:=(gl HW.1);have HX:Hid (∀ w',Be W1 w'->Bx w' w.heap.size (qD b cv) 88):=fun w' h'=>(h'.block _ l0).trans HW.1
 clear hr hT hB hk hkb;go_enter func181,ntmps181;go_wp2;rw [<- j];clear j
 go_loopw [5] (fun i wr=>∃ k:Nat,k<=ps.length/\i=I U (k:Int)/\Hid (kI (bks ps) b=yW b ((bks ps).drop k) k)/\Be W1 wr) (fun i _=>ps.length - (intOf i).toNat)
 case atStart=>exact ⟨0,Ae _,rfl,rfl,br _ _⟩
 case round=>
  obtain ⟨k,hk,rfl,HS,c⟩:=hrel
  by_cases hlt:(k:Int) < ps.length
  ·have d:k < ps.length:=by omega
   have q0:(0:Int)<=(k:Int):=by omega
   obtain ⟨g,f,rfl,hg,hc⟩:=HR (by omega);have o:=yX wr;have BB:∀ x:Bw wr,Be w x.to:=fun x=>bt HW.2 (bt c x.below)
   have c0:∀ x:Bw wr,x.to.cell? ⟨g,f+k * 7,Aa⟩=Ab (I U ps[k].1.1.1):=fun x=>by rw [(BB x).cell (by exact hg)];exact (hc k d).1
   have c1:∀ x:Bw wr,x.to.cell? ⟨g,f+k * 7+1,Aa⟩=Ab (I U ps[k].1.1.2):=fun x=>by rw [(BB x).cell (by exact hg)];exact (hc k d).2.1
   have c2:∀ x:Bw wr,x.to.cell? ⟨g,f+k * 7+2,Aa⟩=some ps[k].2:=fun x=>by rw [(BB x).cell (by exact hg)];exact (hc k d).2.2.1
   have c3:∀ x:Bw wr,x.to.cell? ⟨g,f+k * 7+3,Aa⟩=Ab (I U ps[k].1.2.2.1):=fun x=>by rw [(BB x).cell (by exact hg)];exact (hc k d).2.2.2.1
   have c4:∀ x:Bw wr,x.to.cell? ⟨g,f+k * 7+4,Aa⟩=Ab (I U ps[k].1.2.2.2.1):=fun x=>by rw [(BB x).cell (by exact hg)];exact (hc k d).2.2.2.2.1
   have c5:∀ x:Bw wr,x.to.cell? ⟨g,f+k * 7+5,Aa⟩=Ab (I U ps[k].1.2.2.2.2.1):=fun x=>by rw [(BB x).cell (by exact hg)];exact (hc k d).2.2.2.2.2.1
   have c6:∀ x:Bw wr,x.to.cell? ⟨g,f+k * 7+6,Aa⟩=Ab (I U ps[k].1.2.2.2.2.2):=fun x=>by rw [(BB x).cell (by exact hg)];exact (hc k d).2.2.2.2.2.2
   have y0:∀ x:Bw wr,x.to.cell? ⟨w.heap.size,0,Aa⟩=Ab (I U b.1.1):=fun x=>(xL (HX _ (bt c x.below))).1
   have y1:∀ x:Bw wr,x.to.cell? ⟨w.heap.size,1,Aa⟩=Ab (I U b.1.2):=fun x=>(xL (HX _ (bt c x.below))).2.1
   have y2:∀ x:Bw wr,x.to.cell? ⟨w.heap.size,2,Aa⟩=some cv:=fun x=>(xL (HX _ (bt c x.below))).2.2.1
   have y3:∀ x:Bw wr,x.to.cell? ⟨w.heap.size,3,Aa⟩=Ab (I U b.2.2.1):=fun x=>(xL (HX _ (bt c x.below))).2.2.2.1
   have y4:∀ x:Bw wr,x.to.cell? ⟨w.heap.size,4,Aa⟩=Ab (I U b.2.2.2.1):=fun x=>(xL (HX _ (bt c x.below))).2.2.2.2.1
   have y5:∀ x:Bw wr,x.to.cell? ⟨w.heap.size,5,Aa⟩=Ab (I U b.2.2.2.2.1):=fun x=>(xL (HX _ (bt c x.below))).2.2.2.2.2.1
   have y6:∀ x:Bw wr,x.to.cell? ⟨w.heap.size,6,Aa⟩=Ab (I U b.2.2.2.2.2):=fun x=>(xL (HX _ (bt c x.below))).2.2.2.2.2.2
   have HQ:Hid (∀ x:Bw wr,Calls prog 207 #[.agg (qD ps[k].1 ps[k].2),.agg (qD b cv)] x.to fun e w'=>e=.returned (.bool (decide (ps[k].1=b)))/\Below x.to.heap.size x.to w'):=fun x=>same_s ps[k].1 b ps[k].2 cv x.to ((HT.cmds _ (Ag d)).below (BB x)) (HB.below (BB x)) (okT_at HK d).1 n.1
   have HD:Hid (yW b ((bks ps).drop k) k=if ps[k].1=b then (k:Int) else yW b ((bks ps).drop (k+1)) (k+1)):=hid (by rw [blockAt_drop (bks ps) b k (by rw [l];exact d),bks_at d]);clear hc BB
   by_cases he:ps[k].1=b
   ·have h:decide (ps[k].1=b)=true:=decide_eq_true he;rw [h] at HQ;have HF:Hid (kI (bks ps) b=(k:Int)):=hid (by rw [HS.out,HD.out,if_pos he]);clear he h HD;go_wp2;refine rb ?_;repeat (go_big_quiet_step (refine xX (HQ _)))
    refine qnn fun x=>?_
    go_wp2;go_ret;exact ⟨jD HF.symm,bt HW.2 (bt c x.below)⟩
   ·have h:decide (ps[k].1=b)=false:=decide_eq_false he;rw [h] at HQ;have HF:Hid (kI (bks ps) b=yW b ((bks ps).drop (k+1)) (k+1)):=hid (by rw [HS.out,HD.out,if_neg he]);clear he h HD;go_wp2;refine rb ?_;repeat (go_big_quiet_step (refine xX (HQ _)))
    refine qnn fun x=>?_
    go_wp2
    go_roundw
    case rel=>exact ⟨k+1,by omega,by go_num,HF,bt c x.below⟩
    case measure=>simp [intOf];omega
  ·have m:k=ps.length:=by omega
   have HF:Hid (kI (bks ps) b=-1):=hid (by rw [HS.out,m,List.drop_eq_nil_of_le (by rw [l];exact nl _)];rfl);clear m;go_wp2;go_ret;exact ⟨jD HF.symm,bt HW.2 c⟩
theorem infoCmd:(prog.info? 139).map (fun i=>(i.zero,i.size,i.bytes))=Ab (Ab (.agg #[I U 0,.string An,I U 0]),3,32):=by kernel_rfl
def yDC (hi:Nat) (v:Value) (ps:TL):Prop:=(∀ g,v.ownBlock=some g->g < hi)/\∀ p∈ps,∀ g,p.2.ownBlock=some g->g < hi
theorem xH.lim {base:Nat} {ps:TL} (h:xH w base v ps):yDC w.heap.size v ps:=⟨fun g hg=>(h.row.lt g hg).2,fun p hp g hg=>((h.cmds p hp).lt g hg).2⟩
theorem yDC.le {ps:TL} (h:yDC hi v ps) (hl:hi<=hi'):yDC hi' v ps:=⟨fun g hg=>Ad (h.1 g hg) hl,fun p hp g hg=>Ad (h.2 p hp g hg) hl⟩
def inTree (v:Value) (ps:TL) (g:Nat):Prop:=v.ownBlock=some g∨∃ p∈ps,p.2.ownBlock=some g
theorem xH.frs {B:Nat->Prop} {base:Nat} {ps:TL} (h:xH w base v ps) (hf:FrS B w w') (hB:∀ g,inTree v ps g->¬ B g):xH w' base v ps:=
 ⟨hf.own h.row (fun g hg=>hB g (Al hg)),fun p hp=>hf.own (h.cmds p hp) (fun g hg=>hB g (Am ⟨p,hp,hg⟩)),h.apart⟩
def wtC:List BK->Nat
 | []=>0
 | b :: t=>b.2.1.length+wtC t
def wtB (t:List BK):Nat:=t.length+wtC t
structure CU where
 n:Int
 chain:Bool
 liars:Int
 tree:List BK
 peers:List PE
 net:List LT
 said:List VT
 pend:List CM
structure CW where
 treeV:Value
 tree:TL
 peersV:Value
 peers:PL
 net:Value
 said:Value
 pend:Value
def zR (c:CU) (s:CW):Array Value:=#[I U c.n,.bool c.chain,I U c.liars,s.treeV,s.peersV,s.net,s.said,s.pend]
abbrev clusV (c:CU) (s:CW):Value:=.agg (zR c s)
structure ClusR (w:World) (c:CU) (s:CW):Prop where
 etree:bks s.tree=c.tree
 tree:jB w s.treeV s.tree
 epeers:pes s.peers=c.peers
 peers:PeersR w s.peersV s.peers
 net:yM w s.net 13 yE c.net
 said:yM w s.said 4 xD c.said
 pend:yM w s.pend 3 kL c.pend
theorem ClusR.below {c:CU} {s:CW} (h:ClusR w c s) (hb:Be w w'):ClusR w' c s:=⟨h.etree,h.tree.below hb,h.epeers,h.peers.below hb,h.net.below hb,h.said.below hb,h.pend.below hb⟩
def inPeers (v:Value) (ps:PL) (g:Nat):Prop:=v.ownBlock=some g∨∃ x∈ps,zIE x.2 g
def zFD (s:CW):Nat->Nat->Prop
 | 0,g=>inTree s.treeV s.tree g
 | 1,g=>inPeers s.peersV s.peers g
 | 2,g=>s.net.ownBlock=some g
 | 3,g=>s.said.ownBlock=some g
 | _,g=>s.pend.ownBlock=some g
structure xG (lo hi:Nat) (w:World) (c:CU) (s:CW):Prop where
 etree:bks s.tree=c.tree
 tree:xH w lo s.treeV s.tree
 epeers:pes s.peers=c.peers
 peers:qJ lo w s.peersV s.peers
 net:w.ownsRow lo 61 13 s.net c.net.length (zE yE c.net)
 said:w.ownsRow lo 28 4 s.said c.said.length (zE xD c.said)
 pend:w.ownsRow lo 139 3 s.pend c.pend.length (zE kL c.pend)
 dis:∀ i j g,i < 5->j < 5->zFD s i g->zFD s j g->i=j
 lim:∀ i g,i < 5->zFD s i g->lo<=g/\g < hi
 size:hi<=w.heap.size
theorem xG.reads {c:CU} {s:CW} (h:xG lo hi w c s):ClusR w c s:=⟨h.etree,h.tree.read.q,h.epeers,h.peers.reads,zW xP h.net,zW kW h.said,zW kC h.pend⟩
theorem xG.below {c:CU} {s:CW} (h:xG lo hi w c s) (hb:Be w w'):xG lo hi w' c s:=⟨h.etree,h.tree.below hb,h.epeers,h.peers.below hb,zS h.net hb,zS h.said hb,zS h.pend hb,h.dis,h.lim,Ac h.size hb.size⟩
theorem xG.frs {c:CU} {s:CW} {B:Nat->Prop} (h:xG lo hi w c s) (hf:FrS B w w') (hB:∀ i g,i < 5->zFD s i g->¬ B g):xG lo hi w' c s:=
 ⟨h.etree,h.tree.frs hf (fun g hg=>hB 0 g (by omega) hg),h.epeers,h.peers.frs hf (fun g hg=>hB 1 g (by omega) (Al hg)) (fun x hx g hg=>hB 1 g (by omega) (Am ⟨x,hx,hg⟩)),hf.own h.net (fun g hg=>hB 2 g (by omega) hg),hf.own h.said (fun g hg=>hB 3 g (by omega) hg),hf.own h.pend (fun g hg=>hB 4 g (by omega) hg),h.dis,h.lim,Ac h.size hf.size⟩
theorem xG.fr {a b:Nat} {c:CU} {s:CW} (h:xG lo hi w c s) (hf:Fr a b w w') (hN:hi<=a∨b<=lo):xG lo hi w' c s:=
 h.frs (B:=fun g=>a<=g/\g < b) ⟨hf.os,hf.tape,hf.output,hf.size,fun k hk hn=>hf.block k hk (by omega)⟩ (fun i g hi hg hB=>by have:=h.lim i g hi hg;omega)
theorem xG.boxed {c:CU} {s:CW} (h:xG lo hi w c s) (hg:w.grownBy w' (some N)) (hN:N < lo∨hi<=N):xG lo hi w' c s:=
 h.frs (B:=fun k=>k=N) (FrS.of_grown hg (fun k e=>by cases e;rfl)) (fun i g hi hg hB=>by have:=h.lim i g hi hg;omega)
theorem xG.wide {c:CU} {s:CW} (h:xG lo hi w c s) (hh:hi<=hi') (hs:hi'<=w.heap.size):xG lo hi' w c s:=⟨h.etree,h.tree,h.epeers,h.peers,h.net,h.said,h.pend,h.dis,fun i g hi hg=>by have:=h.lim i g hi hg;omega,hs⟩
theorem xG.low {c:CU} {s:CW} (h:xG lo hi w c s) (hl:lo'<=lo):xG lo' hi w c s:=⟨h.etree,h.tree.base hl,h.epeers,h.peers.low hl,zN h.net hl,zN h.said hl,zN h.pend hl,h.dis,fun i g hi hg=>by have:=h.lim i g hi hg;omega,h.size⟩
theorem inPeers_ge {ps:PL} (h:qJ lo w v ps) (hg:inPeers v ps g):lo<=g/\g < w.heap.size:=by
 rcases hg with hg | ⟨x,hx,a,ha,e⟩
 ·exact h.row.lt g hg
 ·exact zED (h.own.each x hx).2.1 a ha g e
theorem zCE {ps:TL} (h:xH w lo v ps) (hg:inTree v ps g):lo<=g/\g < w.heap.size:=by
 rcases hg with hg | ⟨p,hp,e⟩
 ·exact h.row.lt g hg
 ·exact (h.cmds p hp).lt g e
theorem ownC_of {b0 b3 b4 b5:Nat} {c:CU} {s:CW} (e0:bks s.tree=c.tree) (t:xH w b0 s.treeV s.tree) (lt:∀ g,inTree s.treeV s.tree g->g < b1) (e1:pes s.peers=c.peers) (p:qJ b1 w s.peersV s.peers) (lp:∀ g,inPeers s.peersV s.peers g->g < b2)
  (n:w.ownsRow b2 61 13 s.net c.net.length (zE yE c.net)) (ln:∀ g,s.net.ownBlock=some g->g < b3) (d:w.ownsRow b3 28 4 s.said c.said.length (zE xD c.said)) (ld:∀ g,s.said.ownBlock=some g->g < b4) (q:w.ownsRow b4 139 3 s.pend c.pend.length (zE kL c.pend)) (lq:∀ g,s.pend.ownBlock=some g->g < b5)
  (h0:b0<=b1) (h1:b1<=b2) (h2:b2<=b3) (h3:b3<=b4) (h4:b4<=b5) (h5:b5<=w.heap.size):xG b0 b5 w c s:=by
 have bd:∀ i g,i < 5->zFD s i g->(i=0/\b0<=g/\g < b1)∨(i=1/\b1<=g/\g < b2)∨(i=2/\b2<=g/\g < b3)∨(i=3/\b3<=g/\g < b4)∨(i=4/\b4<=g/\g < b5):=fun i g hi hg=>by
  match i,hi with
  | 0,_=>exact Al ⟨rfl,(zCE t hg).1,lt g hg⟩
  | 1,_=>exact Am (Al ⟨rfl,(inPeers_ge p hg).1,lp g hg⟩)
  | 2,_=>exact Am (Am (Al ⟨rfl,(n.lt g hg).1,ln g hg⟩))
  | 3,_=>exact Am (Am (Am (Al ⟨rfl,(d.lt g hg).1,ld g hg⟩)))
  | 4,_=>exact Am (Am (Am (Am ⟨rfl,(q.lt g hg).1,lq g hg⟩)))
 refine ⟨e0,t,e1,p.low (by omega),zN n (by omega),zN d (by omega),zN q (by omega),fun i j g hi hj h1 h2=>?_,fun i g hi hg=>?_,h5⟩
 ·have:=bd i g hi h1;have:=bd j g hj h2;omega
 ·have:=bd i g hi hg;omega
theorem jI {base:Nat} {e:TypeId} (h:w.ownsRow base e m v n xs):v.oneCell'=true:=by
 obtain ⟨a,cap,rfl,_⟩:=yL h
 rfl
theorem kQ {op:Oper} {Q:Exit->Act->World->Prop} (hgd:op.guard=none) (ty:TypeId) (x:Operand) (ho:op.op=.load ty x) (g o:Nat) (u:Value) (t:TypeId) (cs:Array Value) (hx:a.eval x=.pointer (Ab ⟨g,o,Aa⟩))
  (hg:w.heap[g]?=Ab (.cells cs t (0,0))) (hu:cs[o]?=some u) (d:TypeDesc) (ht:P.underlying ty=some d) (hd:d.isRow=false)
  (h:wpList P ops Q rest (a.put op.dst u) w):wpList P ops Q (op :: rest) a w:=by
 refine wpList_plain hgd fun K hK=>?_
 have b:w.cell? ⟨g,o,Aa⟩=some u:=zB hg o u hu
 have c:(isAgg ty).run P w=.ok false w:=by
  unfold isAgg;rw [Sem.run_bind,run_underlying ht w]
  cases d <;> simp_all
 have e:(loadVar ty ⟨g,o,Aa⟩).run P w=.ok u w:=by simp [loadVar,Sem.run_bind,c,b]
 unfold Oper.wp execOp;simp only [ho,hx,Instr.loadAt,Instr.sureAddr,Sem.run_bind,Sem.run_pure,Result.andThen_ok,e];exact hK _ _ h
def jE:Array Value:=#[I U 0,.bool false,I U 0,.slice none 0 0,.slice none 0 0,.slice none 0 0,.slice none 0 0,.slice none 0 0]
theorem clusA_one {c:CU} {s:CW} (h:xG lo hi w c s):(zR c s).all (·.oneCell')=true:=by
 have t3:=jI h.tree.row;have t4:=jI h.peers.row;have t5:=jI h.net;have t6:=jI h.said;have t7:=jI h.pend;simp [zR,show (Value.int U c.n).oneCell'=true from rfl,show (Value.bool c.chain).oneCell'=true from rfl,show (Value.int U c.liars).oneCell'=true from rfl,t3,t4,t5,t6,t7]
theorem yBC {t ty e:TypeId} {i:TypeInfo} (ht:P.underlying t=Ab (.slice e)) (hi:P.info? e=some i) (w:World) {base:Nat} (hown:w.ownsRow base e m v n xs) (c:Nat) :
  (Builtin.append_ #[t,t] ty #[v,.slice none 0 c]).run P w=.ok v w:=by
 obtain ⟨hl,⟨rfl,h0⟩ | ⟨g,cap,b,rfl,hb,hh,hn,hc,hs,a⟩⟩:=hown
 ·simp [Builtin.append_,run_underlying ht,sizeOf,typeInfo,hi,Builtin.lenOf,Builtin.firstCells]
 ·have:n<=cap:=by omega
  simp [Builtin.append_,run_underlying ht,sizeOf,typeInfo,hi,Builtin.lenOf,Builtin.firstCells,storeCells,this]
theorem yU {α:Type} {f:α->List Value} (w:World) {Q:Exit->Act->World->Prop} (hgd:o.guard=none) (s x:Operand) (t:TypeId)
  (ho:o.op=.call { callee:=.builtin .append,args:=#[s,x],argTypes:=#[t,t] })
  (base:Nat) (e:TypeId) (i:TypeInfo) (z:Value) (bytes:Nat) (ht:prog.underlying t=Ab (.slice e)) (hi:prog.info? e=some i) (hz:i.zero=some z) (hsize:i.size=m) (hby:i.bytes=bytes) (hzs:z.cells.size=m) (hsz:0 < m)
  (hm:∀ y,(f y).length=m) (hone:∀ y,∀ u∈f y,u.oneCell'=true)
  (v:Value) (xs:List α) (hs:a.eval s=v) (hown:w.ownsRow base e m v xs.length (zE f xs))
  (src:Value) (cs:List α) (hx:a.eval x=src) (hsrc:yM w src m f cs) (h63:xs.length+cs.length<=maxLen) (hbytes:(xs.length+cs.length) * bytes<=140737488355328) (hbase:base<=w.heap.size)
  (h:∀ v' w',w'.ownsRow base e m v' (xs ++ cs).length (zE f (xs ++ cs))->w.grownBy w' v.ownBlock->wpList prog ops Q rest (a.put o.dst v') w'):wpList prog ops Q (o :: rest) a w:=by
 obtain ⟨ad,cap,rfl,hr⟩:=hsrc
 cases ad with
 | none=>
  have h0:cs.length=0:=by
   rcases Nat.eq_zero_or_pos cs.length with h | h
   ·exact h
   ·obtain ⟨_,_,e,_⟩:=hr h;cases e
  obtain rfl:cs=[]:=List.eq_nil_of_length_eq_zero h0;refine wpList_plain hgd fun K' l=>?_
  have d:=yBC (ty:=o.type) ht hi w hown cap;unfold Oper.wp execOp;simp only [ho,resolve,invoke,builtin,Sem.run_bind,Sem.run_pure,Result.andThen_ok,List.map_toArray,List.map_cons,List.map_nil,hs,hx,List.length_nil,d];exact l _ _ (h v w (by simpa using hown) ⟨rfl,rfl,rfl,nl _,fun _ _ _=>rfl⟩)
 | some ad=>
  refine wpList_append_own _ hgd s x t ho base e i z m bytes ht hi hz hsize hby hzs hsz v _ _ hs hown ad cs.length cap (zE f cs) hx (jX hm cs) ?_ (fun u hu=>?_) h63 hbytes hbase fun v' w' h1 h2 _=>h v' w' (by rw [Ah,zY];exact h1) h2
  ·intro j u hj
   have c:j < cs.length * m:=by
    rw [<- jX hm];exact (List.getElem?_eq_some_iff.1 hj).1
   have h0:0 < cs.length:=by
    rcases Nat.eq_zero_or_pos cs.length with h | h
    ·rw [h] at c;omega
    ·exact h
   obtain ⟨g,b,k,hg,hc⟩:=hr h0
   cases k
   have hp:(⟨g,b,Aa⟩:Addr).add j=⟨g,b+j,Aa⟩:=by unfold Addr.add;split <;> simp_all
   have hd:j / m < cs.length:=Nat.div_lt_of_lt_mul (by rw [Nat.mul_comm];exact c);have hr:j % m < m:=Nat.mod_lt _ hsz;have e:j=j / m * m+j % m:=by rw [Nat.mul_comm];exact (Nat.div_add_mod j m).symm
   have hf:=jY hm cs (j / m) hd (j % m) hr;rw [<- e] at hf;rw [hp,show b+j=b+j / m * m+j % m by omega,hc (j / m) hd (j % m) hr,<- hf,hj]
  ·obtain ⟨y,_,hy⟩:=List.mem_flatMap.1 hu;exact hone y u hy
theorem intF_one_a (n:Int):∀ u∈xJ n,u.oneCell'=true:=by intro u hu;simp [xJ] at hu;subst hu;rfl
theorem undoF_one (n:UN):∀ u∈kK n,u.oneCell'=true:=by intro u hu;simp [kK] at hu;rcases hu with h | h | h <;> subst h <;> rfl
theorem kF (n:LT):∀ u∈yE n,u.oneCell'=true:=by
 intro u hu;simp [yE] at hu
 rcases hu with h | h | h | h | h | h | h | h | h | h | h | h | h <;> subst h <;> rfl
def zJJ (c:ByteArray × Int):List Value:=[.string c.1,I U c.2]
theorem cellF_len (c:ByteArray × Int):(zJJ c).length=2:=rfl
theorem cellF_one (c:ByteArray × Int):∀ u∈zJJ c,u.oneCell'=true:=by intro u hu;simp [zJJ] at hu;rcases hu with h | h <;> subst h <;> rfl
theorem rows_cells {cs:CL} (h:qQ w v cs):yM w v 2 zJJ cs:=by
 obtain ⟨a,cap,rfl,hr⟩:=h;refine ⟨a,cap,rfl,fun h0=>?_⟩;obtain ⟨g,b,rfl,hg,hc⟩:=hr h0;refine ⟨g,b,rfl,hg,fun i hi j hj=>?_⟩;have:=hc i hi
 match j,hj with
 | 0,_=>exact this.1
 | 1,_=>exact this.2
theorem yB {y x:World} {o:Obj} (hg:(y.alloc o).grownBy x (some y.heap.size)):Be y x:=
 ((Below.refl y.heap.size y).alloc (nl _) o).grown hg (by simp) (fun k hk=>by cases hk;exact nl _)
section
variable {P:Program} {ops:Array Oper} {Q:Exit->Act->World->Prop} {md:Region.Mode} {S:World->Prop}
theorem h_run {s:Nat} (ho:ops[s]?=some os) (he:os.dst=e') (hgd:os.guard=none) (hr:Region.ready md ops L=[s])
  (v:Value) (w':World) (hrun:(execOp a.eval os).run P w=.ok (.value v) w') (h:S w'/\wpAnyH P md ops Q S f (L.setIfInBounds s true) (a.put e' v) w'):wpAnyH P md ops Q S (f+1) L a w:=by
 subst he;refine ⟨fun h0=>(by rw [hr] at h0;cases h0),fun j hj=>?_⟩;rw [hr] at hj;obtain rfl:j=s:=by simpa using hj
 unfold wpOp;simp only [ho];rw [if_pos (by simp [Region.wanted,hgd])];refine Al ?_;unfold Oper.wp;rw [hrun];exact h
end
section
variable {P:Program} {ops:Array Oper} {Q:Exit->Act->World->Prop} {md:Region.Mode} {C:World->Prop} {pend:Nat->Bool}
theorem kT {s:Nat} {ty t:TypeId} {o:Nat} {u:Value} {new:Array Value} (ho:ops[s]?=some os) (hgd:os.guard=none) (hop:os.op=.store ty x y) (hd:os.dst=none) (hr:Region.ready md ops L=[s])
  (hx:a.eval x=.pointer (Ab ⟨N,o,Aa⟩)) (hy:a.eval y=u) (hg:w.heap[N]?=Ab (.cells old t (0,0))) (hi:(P.info? ty).map (·.size)=some 1) (hold:o < old.size) (h1:u.oneCell'=true) (hn:old.setIfInBounds o u=new)
  (h:∀ w',w.grownBy w' (some N)->w'.heap[N]?=Ab (.cells new t (0,0))->(pend s=true->C w')/\zX P md ops Q C pend f (L.setIfInBounds s true) a w'):zX P md ops Q C pend (f+1) L a w:=by
 subst hn;refine ⟨fun h0=>(by rw [hr] at h0;cases h0),fun j hj=>?_⟩;rw [hr] at hj;obtain rfl:j=s:=by simpa using hj
 have b:w.cell? ⟨N,o,Aa⟩=some old[o]:=by rw [cell_of_row _ N o _ _ _ hg];simp [hold]
 have d:=frozen_of_row _ N o _ _ hg
 have g:(storeVar ty ⟨N,o,Aa⟩ u).run P w=.ok () (w.setCell ⟨N,o,Aa⟩ u):=by
  cases hq:P.info? ty with
  | none=>simp [hq] at hi
  | some i=>
   have l:i.size=1:=by simpa [hq] using hi
   have m:u.cells=#[u]:=by cases u <;> first | rfl | simp [Ak] at h1
   have c:(⟨N,o,Aa⟩:Addr).add 0=⟨N,o,Aa⟩:=by unfold Addr.add;split <;> simp_all
   simp [storeVar,sizeOf,typeInfo,hq,l,m,storeCells,c,run_store P w _ u _ h1,b,d]
 unfold wpOp;simp only [ho];rw [if_pos (by simp [Region.wanted,hgd])];refine Al ?_;unfold Oper.wp execOp;simp only [hop,hx,hy,Instr.storeAt,Instr.sureAddr,Sem.run_bind,Sem.run_pure,Result.andThen_ok,g];unfold Oper.upon;simp only [hd];exact h _ ⟨rfl,rfl,rfl,by simp,fun k _ hk=>heap_setCell_other w ⟨N,o,Aa⟩ k u (fun e=>hk (by simp [e]))⟩ (heap_setCell_same w N o old t u hg)
theorem p_ce {ty t:TypeId} (s N o:Nat) (u:Value) (old new:Array Value) (hg:w.heap[N]?=Ab (.cells old t (0,0))) (hold:o < old.size) (h1:u.oneCell'=true) (hn:old.setIfInBounds o u=new)
  (h:∀ w',w.grownBy w' (some N)->w'.heap[N]?=Ab (.cells new t (0,0))->(pend s=true->C w')/\zX P md ops Q C pend f (L.setIfInBounds s true) a w')
  (ho:ops[s]?=some os:=by exact rfl) (hgd:os.guard=none:=by exact rfl) (hop:os.op=.store ty x y:=by exact rfl) (hd:os.dst=none:=by exact rfl) (hr:Region.ready md ops L=[s]:=by kernel_rfl) (hx:a.eval x=.pointer (Ab ⟨N,o,Aa⟩):=by exact rfl) (hy:a.eval y=u:=by exact rfl) (hi:(P.info? ty).map (·.size)=some 1:=by kernel_rfl):zX P md ops Q C pend (f+1) L a w:=kT ho hgd hop hd hr hx hy hg hi hold h1 hn h
theorem p_append {s:Nat} (ho:ops[s]?=some os) (he:os.dst=e') (hgd:os.guard=none) (x y:Operand) (t:TypeId) (hop:os.op=.call {callee:=.builtin .append,args:=#[x,y],argTypes:=#[t,t] }) (hr:Region.ready md ops L=[s])
  (base:Nat) (e:TypeId) (i:TypeInfo) (z:Value) (size bytes:Nat) (ht:P.underlying t=Ab (.slice e)) (hi:P.info? e=some i) (hz:i.zero=some z) (hsize:i.size=size) (hby:i.bytes=bytes) (hzs:z.cells.size=size) (hsz:0 < size)
  (v:Value) (n:Nat) (xs:List Value) (hs:a.eval x=v) (hown:w.ownsRow base e size v n xs)
  (ad:Addr) (m c:Nat) (news:List Value) (hx:a.eval y=.slice (some ad) m c) (hl:news.length=m * size) (hnews:∀ j u,news[j]?=some u->w.cell? (ad.add j)=some u) (h1:∀ u∈news,u.oneCell'=true)
  (h63:n+m<=maxLen) (hbytes:(n+m) * bytes<=140737488355328) (hbase:base<=w.heap.size)
  (h:∀ v' w',w'.ownsRow base e size v' (n+m) (xs ++ news)->w.grownBy w' v.ownBlock->(pend s=true->C w')/\zX P md ops Q C pend f (L.setIfInBounds s true) (a.put e' v') w'):zX P md ops Q C pend (f+1) L a w:=by
 subst he;refine ⟨fun h0=>(by rw [hr] at h0;cases h0),fun j hj=>?_⟩;rw [hr] at hj;obtain rfl:j=s:=by simpa using hj
 unfold wpOp;simp only [ho];rw [if_pos (by simp [Region.wanted,hgd])];exact Al (wp_append_own w x y t hop base e i z size bytes ht hi hz hsize hby hzs hsz v n xs hs hown ad m c news hx hl hnews h1 h63 hbytes hbase fun v' w' h2 h3 _=>h v' w' h2 h3)
theorem p_run {s:Nat} (ho:ops[s]?=some os) (he:os.dst=e') (hgd:os.guard=none) (hr:Region.ready md ops L=[s])
  (v:Value) (w':World) (hrun:(execOp a.eval os).run P w=.ok (.value v) w') (h:(pend s=true->C w')/\zX P md ops Q C pend f (L.setIfInBounds s true) (a.put e' v) w'):zX P md ops Q C pend (f+1) L a w:=by
 subst he;refine ⟨fun h0=>(by rw [hr] at h0;cases h0),fun j hj=>?_⟩;rw [hr] at hj;obtain rfl:j=s:=by simpa using hj
 unfold wpOp;simp only [ho];rw [if_pos (by simp [Region.wanted,hgd])];refine Al ?_;unfold Oper.wp;rw [hrun];exact h
theorem qO {s:Nat} (ho:ops[s]?=some os) (he:os.dst=e') (hgd:os.guard=none) (x y:Operand) (t:TypeId) (hop:os.op=.call {callee:=.builtin .append,args:=#[x,y],argTypes:=#[t,t] }) (hr:Region.ready md ops L=[s])
  (base:Nat) (e:TypeId) (i:TypeInfo) (z:Value) (size bytes:Nat) (ht:P.underlying t=Ab (.slice e)) (hi:P.info? e=some i) (hz:i.zero=some z) (hsize:i.size=size) (hby:i.bytes=bytes) (hzs:z.cells.size=size) (hsz:0 < size)
  (v:Value) (n:Nat) (xs:List Value) (hs:a.eval x=v) (hown:w.ownsRow base e size v n xs)
  (ad:Addr) (m c:Nat) (news:List Value) (hx:a.eval y=.slice (some ad) m c) (hl:news.length=m * size) (hnews:∀ j u,news[j]?=some u->w.cell? (ad.add j)=some u) (h1:∀ u∈news,u.oneCell'=true)
  (hm:0 < m) (h63:n+m<=maxLen) (hbytes:(n+m) * bytes<=140737488355328) (hbase:base<=w.heap.size) (H:Nat) (hH:w.heap.size=H)
  (h:∀ g cap w',w'.ownsRow base e size (.slice (Ab ⟨g,0,Aa⟩) (n+m) cap) (n+m) (xs ++ news)->w.grownBy w' v.ownBlock->(v.ownBlock=some g∨g=H)->g < w'.heap.size->(pend s=true->C w')/\zX P md ops Q C pend f (L.setIfInBounds s true) (a.put e' (.slice (Ab ⟨g,0,Aa⟩) (n+m) cap)) w'):zX P md ops Q C pend (f+1) L a w:=by
 subst he;refine ⟨fun h0=>(by rw [hr] at h0;cases h0),fun j hj=>?_⟩;rw [hr] at hj;obtain rfl:j=s:=by simpa using hj
 unfold wpOp;simp only [ho];rw [if_pos (by simp [Region.wanted,hgd])];exact Al (wp_append_lies w x y t hop base e i z size bytes ht hi hz hsize hby hzs hsz v n xs hs hown ad m c news hx hl hnews h1 hm h63 hbytes hbase H hH fun g cap w' h2 h3 h4 h5=>h g cap w' h2 h3 h4 h5)
theorem p_call {s:Nat} (hc:ops[s]?=some oc) (hce:oc.dst=e') (hr:Region.ready md ops L=[s])
  (hw:Region.wanted oc (yielded ops a.tmps)=true) (hrun:(execOp a.eval oc).run P w=.ok (.enter fn args) w)
  (h:Calls P fn args w fun e w'=>∃ v,e=.returned v/\(pend s=true->C w')/\zX P md ops Q C pend f (L.setIfInBounds s true) (a.put e' v) w'):zX P md ops Q C pend (f+1) L a w:=by
 subst hce;refine ⟨fun h0=>(by rw [hr] at h0;cases h0),fun j hj=>?_⟩;rw [hr] at hj;obtain rfl:j=s:=by simpa using hj
 exact yFG hc hw hrun h
theorem wpAnyP_pure (hi:ops[i]?=some oi) (hsel:∀ (j:Nat) (o:Oper) cs b,ops[j]?=some o->o.op ≠ .select cs b)
  (hQ:∀ c a w,Q (.panic c) (a.put oi.dst v) w->Q (.panic c) a w) (hp:pend i=false) :
  ∀ (f:Nat) (listed:Array Bool) (a:Act) (w:World),
   (∀ j oj,ops[j]?=some oj->j ≠ i->listed.getD j true=false->(∀ e∈oj.after,Region.binds md e=true->e.on ≠ i)->oi.apart ops oj=true)->
   i∈Region.ready md ops listed->YieldsIf P ops (fun _=>True) oi v a->
   zX P md ops Q C pend f (listed.setIfInBounds i true) (a.put oi.dst v) w->zX P md ops Q C pend (f+1) listed a w:=by
 intro f
 induction f with
 | zero=>
  intro listed a w _ hr hy H;refine ⟨fun h=>(by rw [h] at hr;cases hr),fun j hj=>?_⟩
  by_cases hji:j=i
  ·subst hji;exact hy.wpOp hi trivial ⟨fun h=>(by rw [hp] at h;cases h),H⟩
  ·have:=ready_mono hj hji;rw [H.1] at this
   cases this
 | succ f ih=>
  intro listed a w d hr hy H;refine ⟨fun h=>(by rw [h] at hr;cases hr),fun j hj=>?_⟩
  by_cases hji:j=i
  ·subst hji;exact hy.wpOp hi trivial ⟨fun h=>(by rw [hp] at h;cases h),H⟩
  ·have h1:=H.2 j (ready_mono hj hji);obtain ⟨l,oj,m,n⟩:=mem_ready.1 hj
   have p:∀ e∈oj.after,Region.binds md e=true->e.on ≠ i:=fun e he hb u=>by
    have h4:=n e he hb;rw [u,off_of (mem_ready.1 hr).1] at h4
    cases h4
   have h2:=wpOp_putIf m (d j oj m hji l p) (fun cs b=>hsel i oi cs b hi) (fun cs b=>hsel j oj cs b m) hQ hy h1;have g:=fun k ok hk t r s=>d k ok hk t (still_off l r) s
   refine wpOp_mono (fun a' w' h3=>⟨h3.2.1,ih (listed.setIfInBounds j true) a' w' g (ready_mono hr (Ne.symm hji)) h3.1 ?_⟩) h2;rw [Array.setIfInBounds_comm _ _ hji];exact h3.2.2
theorem xM (hj:ops[j]?=some oj) (hje:oj.dst=e') (hsel:Region.noSelect ops=true) (hf:Region.free md ops L j=true) (hr:(Region.ready md ops L).contains j=true)
  (hp:pend j=false) (hQ:∀ c a w,Q (.panic c) (a.put e' v) w->Q (.panic c) a w) (hy:YieldsIf P ops (fun _=>True) oj v a) (next:zX P md ops Q C pend f (L.setIfInBounds j true) (a.put e' v) w):zX P md ops Q C pend (f+1) L a w:=by
 subst hje;exact wpAnyP_pure hj (Region.noSelect_spec hsel) hQ hp f L a w (Region.free_spec hj hf) (by simpa using hr) hy next
theorem p_pu (j:Nat) (e:Tmp) (v:Value) (hy:∀ x,(fun _:World=>True) x->(execOp a.eval oj).run P x=.ok (.value v) x) (next:zX P md ops Q C pend f (L.setIfInBounds j true) (a.put (some e) v) w)
  (hj:ops[j]?=some oj:=by exact rfl) (hje:oj.dst=some e:=by exact rfl) (hs:Region.noSelect ops=true:=by kernel_rfl) (hf:Region.free md ops L j=true:=by kernel_rfl) (hr:(Region.ready md ops L).contains j=true:=by kernel_rfl) (hp:pend j=false:=by rfl)
  (hQ:∀ c a w,Q (.panic c) (a.put (some e) v) w->Q (.panic c) a w:=by exact fun _ _ _ h=>h) (hw:Region.wanted oj (yielded ops a.tmps)=true:=by rfl):zX P md ops Q C pend (f+1) L a w:=xM hj hje hs hf hr hp hQ (Al ⟨hw,hy⟩) next
theorem p_take (hj:ops[j]?=some oj) (hje:oj.dst=e') (hsel:Region.noSelect ops=true) (hf:Region.free md ops L j=true) (hr:(Region.ready md ops L).contains j=true)
  (hw:waitsB md ops pend j=true) (hl:closedB md ops L=true) (hQ:∀ c a w,Q (.panic c) (a.put e' v) w->Q (.panic c) a w) (hy:YieldsIf P ops C oj v a) (hC:C w) (next:zX P md ops Q C pend f (L.setIfInBounds j true) (a.put e' v) w):zX P md ops Q C pend (f+1) L a w:=by
 subst hje;exact wpAnyP_take hj hsel hf hr hw hl hQ hy hC next
end
section
variable {P:Program} {ops:Array Oper} {Q:Exit->Act->World->Prop} {md:Region.Mode} {S:World->Prop}
end
section
variable {P:Program} {ops:Array Oper} {Q:Exit->Act->World->Prop} {md:Region.Mode} {S:World->Prop} {pend:Nat->Bool} {oj:Oper} {f:Nat} {L:Array Bool} {a a':Act} {w:World}
theorem yJ (j:Nat) (e:Tmp) (v:Value) (hS:S w) (next:wpAnyH P md ops Q S f (L.setIfInBounds j true) a' w)
  (hj:ops[j]?=some oj:=by exact rfl) (hje:oj.dst=some e:=by exact rfl) (hsel:Region.noSelect ops=true:=by kernel_rfl) (hf:Region.free md ops L j=true:=by kernel_rfl) (hr:(Region.ready md ops L).contains j=true:=by kernel_rfl)
  (hQ:∀ c a w,Q (.panic c) (a.put (some e) v) w->Q (.panic c) a w:=by exact fun _ _ _ h=>h) (hw:Region.wanted oj (yielded ops a.tmps)=true:=by rfl)
  (hy:∀ x,S x->(execOp a.eval oj).run P x=.ok (.value v) x:=by intro x hx;go_simp;try rfl)
  (ha:a.put (some e) v=a':=by simp only [Act.put,List.setIfInBounds_toArray,List.set_cons_zero,List.set_cons_succ];rfl):wpAnyH P md ops Q S (f+1) L a w:=by
 subst ha;exact h_take hj hje hsel hf hr hQ (Al ⟨hw,hy⟩) hS next
theorem zD (j:Nat) (e:Tmp) (v:Value) (hS:S w) (next:zX P md ops Q S pend f (L.setIfInBounds j true) a' w)
  (hj:ops[j]?=some oj:=by exact rfl) (hje:oj.dst=some e:=by exact rfl) (hsel:Region.noSelect ops=true:=by kernel_rfl) (hf:Region.free md ops L j=true:=by kernel_rfl) (hr:(Region.ready md ops L).contains j=true:=by kernel_rfl)
  (h1:waitsB md ops pend j=true:=by kernel_rfl) (h2:closedB md ops L=true:=by kernel_rfl)
  (hQ:∀ c a w,Q (.panic c) (a.put (some e) v) w->Q (.panic c) a w:=by exact fun _ _ _ h=>h) (hw:Region.wanted oj (yielded ops a.tmps)=true:=by rfl)
  (hy:∀ x,S x->(execOp a.eval oj).run P x=.ok (.value v) x:=by intro x hx;go_simp;try rfl)
  (ha:a.put (some e) v=a':=by simp only [Act.put,List.setIfInBounds_toArray,List.set_cons_zero,List.set_cons_succ];rfl):zX P md ops Q S pend (f+1) L a w:=by
 subst ha;exact p_take hj hje hsel hf hr h1 h2 hQ (Al ⟨hw,hy⟩) hS next
theorem xE (j:Nat) (e:Tmp) (hS:S w) (next:zX P md ops Q S pend f (L.setIfInBounds j true) a' w)
  (hj:ops[j]?=some oj:=by exact rfl) (hje:oj.dst=some e:=by exact rfl) (hsel:Region.noSelect ops=true:=by kernel_rfl) (hf:Region.free md ops L j=true:=by kernel_rfl) (hr:(Region.ready md ops L).contains j=true:=by kernel_rfl)
  (h1:waitsB md ops pend j=true:=by kernel_rfl) (h2:closedB md ops L=true:=by kernel_rfl)
  (hQ:∀ c a w,Q (.panic c) (a.put (some e) undef) w->Q (.panic c) a w:=by exact fun _ _ _ h=>h) (hw:Region.wanted oj (yielded ops a.tmps)=false:=by rfl)
  (ha:a.put (some e) undef=a':=by simp only [Act.put,List.setIfInBounds_toArray,List.set_cons_zero,List.set_cons_succ];rfl):zX P md ops Q S pend (f+1) L a w:=by
 subst ha;exact p_take hj hje hsel hf hr h1 h2 hQ (Am ⟨hw,rfl⟩) hS next
theorem p_pt (j:Nat) (e:Tmp) (N k:Nat) (hS:S w) (next:zX P md ops Q S pend f (L.setIfInBounds j true) a' w)
  (hj:ops[j]?=some oj:=by exact rfl) (hje:oj.dst=some e:=by exact rfl) (hsel:Region.noSelect ops=true:=by kernel_rfl) (hf:Region.free md ops L j=true:=by kernel_rfl) (hr:(Region.ready md ops L).contains j=true:=by kernel_rfl)
  (h1:waitsB md ops pend j=true:=by kernel_rfl) (h2:closedB md ops L=true:=by kernel_rfl)
  (hQ:∀ c a w,Q (.panic c) (a.put (some e) (.pointer (Ab ⟨N,k,Aa⟩))) w->Q (.panic c) a w:=by exact fun _ _ _ h=>h) (hw:Region.wanted oj (yielded ops a.tmps)=true:=by rfl)
  (hy:∀ x,S x->(execOp a.eval oj).run P x=.ok (.value (.pointer (Ab ⟨N,k,Aa⟩))) x:=by intro x hx;go_simp;try rfl)
  (ha:a.put (some e) (.pointer (Ab ⟨N,k,Aa⟩))=a':=by simp only [Act.put,List.setIfInBounds_toArray,List.set_cons_zero,List.set_cons_succ];rfl):zX P md ops Q S pend (f+1) L a w:=zD j e _ hS next hj hje hsel hf hr h1 h2 hQ hw hy ha
theorem h_pt (j:Nat) (e:Tmp) (N k:Nat) (hS:S w) (next:wpAnyH P md ops Q S f (L.setIfInBounds j true) a' w)
  (hj:ops[j]?=some oj:=by exact rfl) (hje:oj.dst=some e:=by exact rfl) (hsel:Region.noSelect ops=true:=by kernel_rfl) (hf:Region.free md ops L j=true:=by kernel_rfl) (hr:(Region.ready md ops L).contains j=true:=by kernel_rfl)
  (hQ:∀ c a w,Q (.panic c) (a.put (some e) (.pointer (Ab ⟨N,k,Aa⟩))) w->Q (.panic c) a w:=by exact fun _ _ _ h=>h) (hw:Region.wanted oj (yielded ops a.tmps)=true:=by rfl)
  (hy:∀ x,S x->(execOp a.eval oj).run P x=.ok (.value (.pointer (Ab ⟨N,k,Aa⟩))) x:=by intro x hx;go_simp;try rfl)
  (ha:a.put (some e) (.pointer (Ab ⟨N,k,Aa⟩))=a':=by simp only [Act.put,List.setIfInBounds_toArray,List.set_cons_zero,List.set_cons_succ];rfl):wpAnyH P md ops Q S (f+1) L a w:=yJ j e _ hS next hj hje hsel hf hr hQ hw hy ha
theorem h_cl (c:Nat) (e:Tmp) (fn:FuncId) (args:Array Value)
  (h:Calls P fn args w fun r w'=>∃ v,r=.returned v/\S w'/\wpAnyH P md ops Q S f (L.setIfInBounds c true) (a.put (some e) v) w')
  (hc:ops[c]?=some oj:=by exact rfl) (hce:oj.dst=some e:=by exact rfl) (hr:Region.ready md ops L=[c]:=by kernel_rfl)
  (hw:Region.wanted oj (yielded ops a.tmps)=true:=by rfl) (hrun:(execOp a.eval oj).run P w=.ok (.enter fn args) w:=by go_simp;try rfl):wpAnyH P md ops Q S (f+1) L a w:=
 h_call hc hce hr hw hrun h
theorem kJ (c:Nat) (e:Tmp) (fn:FuncId) (args:Array Value)
  (h:Calls P fn args w fun r w'=>∃ v,r=.returned v/\(pend c=true->S w')/\zX P md ops Q S pend f (L.setIfInBounds c true) (a.put (some e) v) w')
  (hc:ops[c]?=some oj:=by exact rfl) (hce:oj.dst=some e:=by exact rfl) (hr:Region.ready md ops L=[c]:=by kernel_rfl)
  (hw:Region.wanted oj (yielded ops a.tmps)=true:=by rfl) (hrun:(execOp a.eval oj).run P w=.ok (.enter fn args) w:=by go_simp;try rfl):zX P md ops Q S pend (f+1) L a w:=
 p_call hc hce hr hw hrun h
theorem h_dn (h:Q .normal a w) (hr:Region.ready md ops L=[]:=by kernel_rfl):wpAnyH P md ops Q S f L a w:=wpAnyH_done hr h _
theorem h_st (s:Nat) {ty t:TypeId} (N:Nat) (cells:Array Value) (hb:w.heap[N]?=Ab (.cells old t (0,0))) (h1:cells.all (·.oneCell')=true)
  (h:∀ w',w.grownBy w' (some N)->w'.heap[N]?=Ab (.cells cells t (0,0))->S w'/\wpAnyH P md ops Q S f (L.setIfInBounds s true) a w')
  (ho:ops[s]?=some os:=by exact rfl) (hg:os.guard=none:=by exact rfl) (hop:os.op=.store ty x y:=by exact rfl) (hd:os.dst=none:=by exact rfl) (hr:Region.ready md ops L=[s]:=by kernel_rfl)
  (hx:a.eval x=flP N:=by exact rfl) (hy:a.eval y=.agg cells:=by exact rfl) (hsz:(P.info? ty).map (·.size)=some cells.size:=by kernel_rfl) (hold:old.size=cells.size:=by exact rfl):wpAnyH P md ops Q S (f+1) L a w:=jR ho hg hop hd hr hx hy hb hsz hold h1 h
theorem w_st {ty t:TypeId} (g:Nat) (cells:Array Value) (hg:w.heap[g]?=Ab (.cells old t (0,0))) (h1:cells.all (·.oneCell')=true)
  (h:∀ w',w.grownBy w' (some g)->w'.heap[g]?=Ab (.cells cells t (0,0))->w'.heap.size=w.heap.size->wpList P ops Q rest (a.put o.dst undef) w')
  (hgd:o.guard=none:=by exact rfl) (ho:o.op=.store ty x y:=by exact rfl) (hx:a.eval x=.pointer (Ab ⟨g,0,Aa⟩):=by exact rfl) (hy:a.eval y=.agg cells:=by exact rfl)
  (hi:(P.info? ty).map (·.size)=some cells.size:=by kernel_rfl) (hold:old.size=cells.size:=by exact rfl):wpList P ops Q (o :: rest) a w:=zC hgd ty x y ho g cells hx hy t old hg hi hold h1 h
theorem w_ld {ty t:TypeId} (g:Nat) {cs:Array Value} {d:TypeDesc} (hg:w.heap[g]?=Ab (.cells cs t (0,0))) (hu:P.underlying ty=some d) (h:wpList P ops Q rest (a.put o.dst (.agg cs)) w)
  (hgd:o.guard=none:=by exact rfl) (ho:o.op=.load ty x:=by exact rfl) (hx:a.eval x=.pointer (Ab ⟨g,0,Aa⟩):=by exact rfl) (hd:(match d with | .struct _ | .array _ _=>true | _=>false)=true:=by exact rfl) (hi:(P.info? ty).map (·.size)=some cs.size:=by kernel_rfl):wpList P ops Q (o :: rest) a w:=wpList_load_row hgd ty x ho g hx t cs (0,0) d hg hu hd hi h
end
end Go.Proofs.YtfnneillakdopacGreatR
