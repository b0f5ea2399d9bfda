/-
  Texts of ours that later ones lean on, in one: KeptS, RvN, RdN, UnhexN, Round, KeptN, ReadS, RShortS, RdS, RdS4, TurnN, FloatP.
-/
import Derived.Test.YtfnneillakdopacGreatRK1
import Derived.Test.YtfnneillakdopacGreatRK7
import Derived.WalkKit
import Derived.Laws.BitsLemmas
import Derived.Test.YtfnneillakdopacGreatRK3
import Derived.Test.YtfnneillakdopacGreatRK4
import Derived.Deep.MidRow
set_option maxRecDepth 100000
set_option maxHeartbeats 32000000
namespace Go.Proofs.YtfnneillakdopacGreatR
open Go.Value renaming int->I
open Go.IntKind renaming i64->U
open Go.RowKit Num
variable {a:Act} {t:ByteArray} {C k:Nat} {p:PE} {w:World}
def sealT (s:ByteArray):ByteArray:=if s.size<=20000 then s ++ strOfNums (yFE (sumT s)) else ByteArray.empty
def keptHd (p:PE):ByteArray:=jH p.id ++ jH p.view ++ qcTx p.high ++ qcTx p.lock ++ voteTx p.last ++ vT (p.row.length:Int)
def zIA (p:PE) (k:Nat):ByteArray:=(p.row.take k).foldl (fun s n=>s ++ jH n) (keptHd p)
theorem keptTo_step (h:k < p.row.length):zIA p (k+1)=zIA p k ++ jH p.row[k]:=by
 unfold zIA;rw [List.take_add_one,List.getElem?_eq_getElem h,List.foldl_append];rfl
def zGB (p:PE):ByteArray:=zIA p p.row.length
structure fitP (p:PE):Prop where
 id:p.id<=9223372036854775807
 view:p.view<=9223372036854775807
 high:p.high.1<=9223372036854775807/\p.high.2.1<=9223372036854775807/\p.high.2.2.1<=9223372036854775807/\p.high.2.2.2<=9223372036854775807
 lock:p.lock.1<=9223372036854775807/\p.lock.2.1<=9223372036854775807/\p.lock.2.2.1<=9223372036854775807/\p.lock.2.2.2<=9223372036854775807
 last:p.last.1<=9223372036854775807/\p.last.2.1<=9223372036854775807/\p.last.2.2.1<=9223372036854775807/\p.last.2.2.2<=9223372036854775807
 row:∀ n∈p.row,n<=9223372036854775807
 len:(p.row.length:Int)<=1048576
theorem keptHd_size (h:fitP p):(keptHd p).size<=150:=by
 have z0:=kA h.id;have z1:=kA h.view;have z2:=zFJ h.high.1 h.high.2.1 h.high.2.2.1 h.high.2.2.2;have z3:=zFJ h.lock.1 h.lock.2.1 h.lock.2.2.1 h.lock.2.2.2;have z4:=zFJ h.last.1 h.last.2.1 h.last.2.2.1 h.last.2.2.2;have z5:=vT_size (n:=(p.row.length:Int)) (by have:=h.len;omega);unfold keptHd qcTx voteTx;simp only [ByteArray.size_append];omega
theorem keptTo_size {p:PE} (h:fitP p):∀ k,k<=p.row.length->(zIA p k).size<=150+10 * k
 | 0,_=>by have:=keptHd_size h;unfold zIA;simpa using this
 | k+1,hk=>by
  have ih:=keptTo_size h k (by omega);have:=kA (h.row _ (List.getElem_mem (show k < p.row.length from hk)));rw [keptTo_step (by omega),ByteArray.size_append];omega
theorem keptText_s (p:PE) (s:PV) (w:World) (hR:jS w p s) (hf:fitP p) :
  Calls Tryz.prog 198 #[yZ p s] w fun e w'=>e=.returned (.string (sealT (zGB p)))/\Be w w':=by
 have HR:=hid hR;have HF:=hid hf;have ab:Hid (∀ k,k<=p.row.length->(zIA p k).size<=150+10 * k):=keptTo_size hf;have al:Hid (∀ k (h:k < p.row.length),zIA p (k+1)=zIA p k ++ jH p.row[k]):=fun k h=>keptTo_step h
 have aa:Hid (zIA p 0=keptHd p):=rfl;obtain ⟨S0,ad⟩:=nw (keptHd p);obtain ⟨KT,m⟩:=nw (zIA p);have ak:Hid (zGB p=KT p.row.length):=hid (by rw [m];rfl);rw [<- m] at ab al aa;have bx:Hid (KT 0=S0):=hid (by rw [aa.out,ad]);clear aa;have bm:=hid ad;have a4:=hf.id;have au:=hf.view;have fh:=hf.high;have fl:=hf.lock;have fa:=hf.last;have bp:=hf.len;clear hR hf ad m;obtain ⟨id,view,⟨h0,h1,h2,h3⟩,⟨l0,l1,l2,l3⟩,⟨a0,a1,a2,a3⟩,row,cells,early,undos,votes,news,a⟩:=p;simp only at a4 au fh fl fa bp ab al ak;obtain ⟨be,bb,bf,ay⟩:=fh;obtain ⟨ax,bd,aw,bh⟩:=fl;obtain ⟨aq,bg,a6,a9⟩:=fa;obtain ⟨b7,ca,b8,bi,bv,bq⟩:=s;obtain ⟨c,b,ao,-⟩:=HR.row
 change b7=_ at ao
 subst ao;obtain ⟨u,ac,a8,-⟩:=HR.cells
 change ca=_ at a8
 subst a8;obtain ⟨am,ai,az,-⟩:=HR.early
 change b8=_ at az
 subst az;obtain ⟨r,af,a5,-⟩:=HR.undos
 change bi=_ at a5
 subst a5;obtain ⟨ae,aj,a7,-⟩:=HR.votes
 change bv=_ at a7
 subst a7;obtain ⟨ag,y,av,-⟩:=HR.news
 change bq=_ at av
 subst av;have bu:Hid (S0=jH id ++ jH view ++ zCC h0 h1 h2 h3 ++ zCC l0 l1 l2 l3 ++ zCC a0 a1 a2 a3 ++ vT (row.length:Int)):=(bm:S0=_);have z0:=kA a4;have z1:=kA au;have z2:=zFJ be bb bf ay;have z3:=zFJ ax bd aw bh;have z4:=zFJ aq bg a6 a9;have z5:=vT_size (n:=(row.length:Int)) (by omega);have b1:(jH id).size+(jH view).size<=9223372036854775807:=by omega
 have b2:(jH id ++ jH view).size+(zCC h0 h1 h2 h3).size<=9223372036854775807:=by simp only [ByteArray.size_append];omega
 have b3:(jH id ++ jH view ++ zCC h0 h1 h2 h3).size+(zCC l0 l1 l2 l3).size<=9223372036854775807:=by simp only [ByteArray.size_append];omega
 have b4:(jH id ++ jH view ++ zCC h0 h1 h2 h3 ++ zCC l0 l1 l2 l3).size+(zCC a0 a1 a2 a3).size<=9223372036854775807:=by simp only [ByteArray.size_append];omega
 have b5:(jH id ++ jH view ++ zCC h0 h1 h2 h3 ++ zCC l0 l1 l2 l3 ++ zCC a0 a1 a2 a3).size+(vT (row.length:Int)).size<=9223372036854775807:=by simp only [ByteArray.size_append];omega
 have n0:(0:Int)<=(row.length:Int):=by omega
 have n1:(row.length:Int)<=9223372036854775807:=by omega
 clear z0 z1 z2 z3 z4 z5;unfold yZ zA;simp only;obtain ⟨W1,v⟩:=nw (w.alloc (.cells #[I U id,I U view,I U h0,I U h1,I U h2,I U h3,I U l0,I U l1,I U l2,I U l3,I U a0,I U a1,I U a2,I U a3,.slice c row.length b,.slice u cells.length ac,.slice am early.length ai,.slice r undos.length af,.slice ae votes.length aj,.slice ag news.length y,I U a] 35))
 have HW:Hid (Bx W1 w.heap.size #[I U id,I U view,I U h0,I U h1,I U h2,I U h3,I U l0,I U l1,I U l2,I U l3,I U a0,I U a1,I U a2,I U a3,.slice c row.length b,.slice u cells.length ac,.slice am early.length ai,.slice r undos.length af,.slice ae votes.length aj,.slice ag news.length y,I U a] 35/\Be w W1):=by
  rw [v];exact ⟨heap_alloc_new w _,ba (br _ _) _⟩
 have bw:w.heap.size < W1.heap.size:=(gl HW.1);have HX:Hid (∀ w',Be W1 w'->Bx w' w.heap.size #[I U id,I U view,I U h0,I U h1,I U h2,I U h3,I U l0,I U l1,I U l2,I U l3,I U a0,I U a1,I U a2,I U a3,.slice c row.length b,.slice u cells.length ac,.slice am early.length ai,.slice r undos.length af,.slice ae votes.length aj,.slice ag news.length y,I U a] 35):=fun w' h'=>(h'.block _ bw).trans HW.1
 have cb:=yX W1;have y0:∀ x:Bw W1,x.to.cell? ⟨w.heap.size,0,none⟩=some (I U id):=fun x=>zB (HX _ x.below) 0 _ rfl
 have y1:∀ x:Bw W1,x.to.cell? ⟨w.heap.size,1,none⟩=some (I U view):=fun x=>zB (HX _ x.below) 1 _ rfl
 have y2:∀ x:Bw W1,x.to.cell? ⟨w.heap.size,2,none⟩=some (I U h0):=fun x=>zB (HX _ x.below) 2 _ rfl
 have y3:∀ x:Bw W1,x.to.cell? ⟨w.heap.size,3,none⟩=some (I U h1):=fun x=>zB (HX _ x.below) 3 _ rfl
 have y4:∀ x:Bw W1,x.to.cell? ⟨w.heap.size,4,none⟩=some (I U h2):=fun x=>zB (HX _ x.below) 4 _ rfl
 have y5:∀ x:Bw W1,x.to.cell? ⟨w.heap.size,5,none⟩=some (I U h3):=fun x=>zB (HX _ x.below) 5 _ rfl
 have y6:∀ x:Bw W1,x.to.cell? ⟨w.heap.size,6,none⟩=some (I U l0):=fun x=>zB (HX _ x.below) 6 _ rfl
 have y7:∀ x:Bw W1,x.to.cell? ⟨w.heap.size,7,none⟩=some (I U l1):=fun x=>zB (HX _ x.below) 7 _ rfl
 have y8:∀ x:Bw W1,x.to.cell? ⟨w.heap.size,8,none⟩=some (I U l2):=fun x=>zB (HX _ x.below) 8 _ rfl
 have y9:∀ x:Bw W1,x.to.cell? ⟨w.heap.size,9,none⟩=some (I U l3):=fun x=>zB (HX _ x.below) 9 _ rfl
 have bn:∀ x:Bw W1,x.to.cell? ⟨w.heap.size,10,none⟩=some (I U a0):=fun x=>zB (HX _ x.below) 10 _ rfl
 have bl:∀ x:Bw W1,x.to.cell? ⟨w.heap.size,11,none⟩=some (I U a1):=fun x=>zB (HX _ x.below) 11 _ rfl
 have b6:∀ x:Bw W1,x.to.cell? ⟨w.heap.size,12,none⟩=some (I U a2):=fun x=>zB (HX _ x.below) 12 _ rfl
 have cc:∀ x:Bw W1,x.to.cell? ⟨w.heap.size,13,none⟩=some (I U a3):=fun x=>zB (HX _ x.below) 13 _ rfl
 have ah:∀ x:Bw W1,x.to.cell? ⟨w.heap.size,14,none⟩=some (.slice c row.length b):=fun x=>zB (HX _ x.below) 14 _ rfl
 go_enter Tryz.func198,Tryz.ntmps198;go_wp2;rw [<- v];clear v;refine rb ?_;repeat (go_big_quiet_step (first | (go_at_call 219;(with_reducible refine xX (low_s _ _ (by assumption)))) | (go_at_call 220;first | (with_reducible refine xX (fourQ_s h0 h1 h2 h3 _ be bb bf ay)) | (with_reducible refine xX (fourQ_s l0 l1 l2 l3 _ ax bd aw bh))) | (go_at_call 221;(with_reducible refine xX (fourV_s a0 a1 a2 a3 _ aq bg a6 a9))) | (go_at_call 222;(with_reducible refine xX (var_big _ _ n0 n1)))))
 refine qnn fun x=>?_
 have an:Hid (Be W1 x.to):=x.below;obtain ⟨w2,l⟩:=nw x.to;rw [<- l] at an;clear y0 y1 y2 y3 y4 y5 y6 y7 y8 y9 bn bl b6 cc ah b1 b2 b3 b4 b5;go_wp2;rw [<- l,<- bu.out,<- bx.out];clear l cb
 go_loopw [3,4] (fun o i wr=>∃ k:Nat,k<=row.length/\o=.string (KT k)/\i=I U (k:Int)/\Be W1 wr) (fun _ i _=>row.length - (intOf i).toNat)
 case atStart=>exact ⟨0,Nat.zero_le _,rfl,rfl,an⟩
 case round=>
  obtain ⟨k,hk,rfl,rfl,d⟩:=hrel;have HB:Hid (Be W1 wr):=d;have ah:=zB (HX _ d) 14 (.slice c row.length b) rfl;have bc:=ab k hk;clear d
  by_cases hlt:(k:Int) < row.length
  ·have f:k < row.length:=by omega
   have ap:=HR.row.below (bt HW.2 HB);obtain ⟨ar,cr,er,hr⟩:=ap
   change Value.slice c row.length b=_ at er
   injection er with b0 _ bo
   subst b0 bo;obtain ⟨g,bj,rfl,hg,hc⟩:=hr (by exact Nat.lt_of_le_of_lt (Nat.zero_le _) f);have q0:(0:Int)<=(k:Int):=by omega
   have c0:wr.cell? ⟨g,bj+k,none⟩=some (I U row[k]):=by have:=hc k f 0 (by omega);simpa [xJ] using this
   have fk:row[k]<=9223372036854775807:=HF.row _ (List.getElem_mem f);have j:Hid (KT (k+1)=KT k ++ jH row[k]):=al k f;obtain ⟨z,hz⟩:=nw (row[k]);rw [<- hz] at c0 fk j;have bz:=kA fk;have b1:(KT k).size+(jH z).size<=9223372036854775807:=by omega
   clear hc hr hz hg bz;go_wp2_with fail
   refine (low_s z wr fk).mono ?_;rintro e w3 ⟨rfl,hb⟩;have b9:Hid (Be W1 w3):=bt HB hb;clear hb c0 ah;go_wp2
   go_roundw
   case rel=>exact ⟨k+1,by omega,by rw [j.out],by go_num,b9⟩
   case measure=>simp [intOf];omega
  ·have bk:k=row.length:=by omega
   subst bk
   by_cases hsz:((KT row.length).size:Int)<=20000
   ·have HE:Hid (sealT (KT row.length)=KT row.length ++ strOfNums (yFE (sumT (KT row.length)))):=(by unfold sealT;rw [if_pos (by omega)]:sealT (KT row.length)=_);clear bc;go_wp2_with fail
    refine (sealed_yes_s _ wr hsz).mono ?_;rintro e w5 ⟨rfl,t⟩;go_wp2;go_ret;exact ⟨ret_txt (by rw [ak.out,HE.out]),bt HW.2 (bt HB t)⟩
   ·have HE:Hid (sealT (KT row.length)=ByteArray.empty):=(by unfold sealT;rw [if_neg (by omega)]:sealT (KT row.length)=_);clear bc;go_wp2_with fail
    refine (sealed_no_s _ wr (by omega)).mono ?_;rintro e w5 ⟨rfl,t⟩;go_wp2;go_ret;exact ⟨ret_txt (by rw [ak.out,HE.out]),bt HW.2 (bt HB t)⟩
end Go.Proofs.YtfnneillakdopacGreatR
namespace Go.Proofs.YtfnneillakdopacGreatR.Num
variable {a:Act} {t:ByteArray} {C k:Nat} {p:PE} {w:World}
end Go.Proofs.YtfnneillakdopacGreatR.Num
namespace Go.Proofs.YtfnneillakdopacGreatR
open Go.RowKit Num
variable {a:Act} {t:ByteArray} {C k:Nat} {p:PE} {w:World}
def tri (r:Int × Int × Bool):Value:=.tuple #[.int .i64 r.1,.int .i64 r.2.1,.bool r.2.2]
theorem ret_tri {a b:Int} {c:Bool} {r:Int × Int × Bool} (h:r=(a,b,c)):Ending.returned (.tuple #[.int .i64 a,.int .i64 b,.bool c])=.returned (tri r):=by rw [h];rfl
def rvOf (s:ByteArray) (a:Int):Int × Int × Bool:=if 0<=a/\a<=s.size then rvAt s a.toNat 0 1 a.toNat else (0,0,false)
abbrev RD:=Int × Bool
def rdV (t:ByteArray) (r:RD):Int × RD:=if r.2=true∨(rvOf t r.1).2.2=false then (0,(r.1,true)) else ((rvOf t r.1).1,((rvOf t r.1).2.1,false))
theorem rdV_bad {r:RD} (h:r.2=true):rdV t r=(0,(r.1,true)):=if_pos (Or.inl h)
theorem rdV_no {r:RD} (h:(rvOf t r.1).2.2=false):rdV t r=(0,(r.1,true)):=if_pos (Or.inr h)
theorem rdV_yes {r:RD} (h:r.2=false) (h2:(rvOf t r.1).2.2=true):rdV t r=((rvOf t r.1).1,((rvOf t r.1).2.1,false)):=if_neg (by rw [h,h2];simp)
def rd4 (t:ByteArray) (r:RD):(Int × Int × Int × Int) × RD:=
 (((rdV t r).1,(rdV t (rdV t r).2).1,(rdV t (rdV t (rdV t r).2).2).1,(rdV t (rdV t (rdV t (rdV t r).2).2).2).1),(rdV t (rdV t (rdV t (rdV t r).2).2).2).2)
end Go.Proofs.YtfnneillakdopacGreatR
namespace Go.Proofs.YtfnneillakdopacGreatR.Num
variable {a:Act} {t:ByteArray} {C k:Nat} {p:PE} {w:World}
def val (c:Int):Int:=if 48<=c/\c<=57 then c - 48 else if 97<=c/\c<=102 then c - 87 else -1
def vl (s:ByteArray) (i:Nat):Int:=val ((bs s).getD i 0)
def okTo (s:ByteArray) (k:Nat):Prop:=∀ i,i < k->0<=vl s i
theorem okTo_next {s:ByteArray} (h:okTo s k) (hk:0<=vl s k):okTo s (k+1):=fun i hi=>by
 by_cases e:i=k
 ·rw [e];exact hk
 ·exact h i (by omega)
theorem bs_append (a b:ByteArray):bs (a ++ b)=bs a ++ bs b:=by simp [bs,ByteArray.data_append]
theorem vb_len_le:∀ (k f:Nat) (n:Int),0<=n->n < 128 ^ (k+1)->n.toNat<=f->(vb f n).length<=k+1
 | 0,f,n,h0,h,hf=>by
  rw [zAJ f n (by simp at h;omega)];simp
 | k+1,f,n,h0,h,hf=>by
  by_cases hn:n<=127
  ·rw [zAJ f n hn];simp
  ·obtain ⟨g,hg,hgf⟩:=vb_big f n (by omega) hf;rw [hg,List.length_cons];have:=vb_len_le k g (n / 128) (by omega) (by rw [Int.pow_succ] at h;omega) hgf;omega
theorem rv_back (a:Nat) (tail:List Int):∀ (f:Nat) (n N SC:Int) (F i:Nat),0<=n->n.toNat<=f->(vb f n).length<=F->N+n * SC<=1000000000->(0 < n∨i=a)->
  rv a F (vb f n ++ tail) N SC i=(N+n * SC,(i:Int)+(vb f n).length,true):=by
 intro f
 induction f with
 | zero=>
  intro n N SC F i h0 hf hF hb b;have hn:n=0:=by omega
  subst hn
  cases F with
  | zero=>simp [vb] at hF
  | succ F=>
   have ha:i=a:=by rcases b with h | h;omega;exact h
   show (if (127:Int) < 0 then _ else _)=_;rw [if_neg (by omega),if_neg (by simp at hb ⊢;omega)];simp [vb]
 | succ f ih=>
  intro n N SC F i h0 hf hF hb b
  by_cases hn:n<=127
  ·rw [zAJ _ n hn] at hF ⊢
   cases F with
   | zero=>simp at hF
   | succ F=>
    have e:n % 128=n:=by omega
    show (if (127:Int) < n then _ else _)=_;rw [if_neg (by omega),e,if_neg (by rintro (h | h);omega;omega)];simp
  ·have e:vb (f+1) n=(n % 128+128) :: vb f (n / 128):=by
    show (if 127 < n then (n % 128+128) :: vb f (n / 128) else [n])=_;rw [if_pos (by omega)]
   rw [e] at hF ⊢
   cases F with
   | zero=>simp at hF
   | succ F=>
    have e2:(n % 128+128) % 128=n % 128:=by omega
    have hm:n % 128 * SC+n / 128 * (SC * 128)=n * SC:=by
     have h1:n / 128 * (SC * 128)=(128 * (n / 128)) * SC:=by
      rw [Int.mul_comm SC 128,<- Int.mul_assoc,Int.mul_comm (n / 128) 128]
     rw [h1,<- Int.add_mul,Int.emod_add_mul_ediv]
    show (if (127:Int) < n % 128+128 then rv a F (vb f (n / 128) ++ tail) (N+(n % 128+128) % 128 * SC) (SC * 128) (i+1) else _)=_;rw [if_pos (by omega),e2,ih (n / 128) (N+n % 128 * SC) (SC * 128) F (i+1) (by omega) (by omega) (by simpa using hF) (by omega) (.inl (by omega))];simp only [List.length_cons,Prod.mk.injEq,and_true]
    constructor <;> omega
theorem read_back (P:ByteArray) (n:Int) (Q:ByteArray) (h0:0<=n) (h1:n<=1000000000):Go.Proofs.YtfnneillakdopacGreatR.rvOf (P ++ strOfNums (vbs n) ++ Q) P.size=(n,(P.size:Int)+(vbs n).length,true):=by
 have hr:=vb_range n.toNat n h0 (nl _);have a:(vbs n).length<=5:=vb_len_le 4 n.toNat n h0 (by show n < 34359738368;omega) (nl _);have b:P.size<=(P ++ strOfNums (vbs n) ++ Q).size:=by rw [ByteArray.size_append,ByteArray.size_append];omega
 have hd:(bs (P ++ strOfNums (vbs n) ++ Q)).drop P.size=vbs n ++ bs Q:=by
  rw [bs_append,bs_append,bs_str (vbs n) hr,List.append_assoc,<- zDC P,List.drop_left]
 unfold Go.Proofs.YtfnneillakdopacGreatR.rvOf;rw [if_pos ⟨by omega,by omega⟩];unfold rvAt;rw [Int.toNat_natCast,hd,show P.size+5 - P.size=5 by omega];have:=rv_back P.size (bs Q) n.toNat n 0 1 5 P.size h0 (nl _) a (by omega) (.inr rfl)
 simpa [vbs] using this
end Go.Proofs.YtfnneillakdopacGreatR.Num
namespace Go.Proofs.YtfnneillakdopacGreatR
open _root_.Go.Proofs.Tryz
open Go.Value renaming int->I
open Go.IntKind renaming i64->U
open Option renaming none->Aa,some->Ab
open Go.RowKit Num
variable {a:Act} {t:ByteArray} {C k:Nat} {p:PE} {w:World}
def zEF (ns:List Int):ByteArray:=ns.foldl (fun s n=>s ++ vT n) ByteArray.empty
theorem zJC (ns:List Int) (n:Int):zEF (ns ++ [n])=zEF ns ++ vT n:=by unfold zEF;rw [List.foldl_append];rfl
theorem foldV_app (ms:List Int):∀ s:ByteArray,ms.foldl (fun s n=>s ++ vT n) s=s ++ zEF ms:=by
 induction ms with
 | nil=>intro s;simp [zEF]
 | cons m ms ih=>
  intro s;rw [List.foldl_cons,ih]
  have:zEF (m :: ms)=vT m ++ zEF ms:=by
   unfold zEF;rw [List.foldl_cons,ih];simp [zEF]
  rw [this,ByteArray.append_assoc]
theorem zJI (ns ms:List Int):zEF (ns ++ ms)=zEF ns ++ zEF ms:=by
 unfold zEF;rw [List.foldl_append,foldV_app]
 rfl
theorem catV_one (n:Int):zEF [n]=vT n:=by unfold zEF;simp
def qA (ns:List Int) (k:Nat):Int:=((zEF (ns.take k)).size:Int)
def numsOk (ns:List Int):Prop:=∀ n∈ns,0<=n/\n<=1000000000
theorem rd_at {ns:List Int} (h:numsOk ns) (hk:k < ns.length):rdV (zEF ns) (qA ns k,false)=(ns[k],(qA ns (k+1),false)):=by
 have hb:=h ns[k] (List.getElem_mem hk)
 have hs:zEF ns=zEF (ns.take k) ++ strOfNums (vbs ns[k]) ++ zEF (ns.drop (k+1)):=by
  have e:ns=ns.take k ++ [ns[k]] ++ ns.drop (k+1):=by
   rw [<- List.take_succ_eq_append_getElem hk,List.take_append_drop]
  conv=>lhs;rw [e]
  rw [zJI,zJI,catV_one]
  rfl
 have hr:rvOf (zEF ns) (qA ns k)=(ns[k],qA ns (k+1),true):=by
  have hp:qA ns (k+1)=((zEF (ns.take k)).size:Int)+(vbs ns[k]).length:=by
   unfold qA;rw [List.take_succ_eq_append_getElem hk,zJC,ByteArray.size_append];unfold vT;rw [strOfNums_size];omega
  rw [hp,hs];exact read_back _ _ _ hb.1 hb.2
 rw [rdV_yes rfl (by rw [hr])];simp only [hr]
theorem rd4_at {ns:List Int} (h:numsOk ns) (hk:k+3 < ns.length):rd4 (zEF ns) (qA ns k,false)=((ns[k],ns[k+1],ns[k+2],ns[k+3]),(qA ns (k+4),false)):=by
 unfold rd4;simp only [rd_at h (show k < ns.length by omega),rd_at h (show k+1 < ns.length by omega),rd_at h (show k+1+1 < ns.length by omega),rd_at h (show k+1+1+1 < ns.length by omega)]
def xK (p:PE):List Int:=[p.id,p.view,p.high.1,p.high.2.1,p.high.2.2.1,p.high.2.2.2,p.lock.1,p.lock.2.1,p.lock.2.2.1,p.lock.2.2.2,p.last.1,p.last.2.1,p.last.2.2.1,p.last.2.2.2,(p.row.length:Int)] ++ p.row
structure yAG (p:PE):Prop where
 nums:numsOk (xK p)
 len:p.row.length<=1900
theorem low_is {n:Int} (h:0<=n):jH n=vT n:=by unfold jH lowI;rw [if_neg (by omega)]
theorem four_is {a b c d:Int} (h0:0<=a) (h1:0<=b) (h2:0<=c) (h3:0<=d):zCC a b c d=zEF [a,b,c,d]:=by
 unfold zCC;rw [low_is h0,low_is h1,low_is h2,low_is h3];rw [show [a,b,c,d]=[a] ++ [b] ++ [c] ++ [d] from rfl,zJC,zJC,zJC,catV_one]
theorem kept_is (h:numsOk (xK p)):zGB p=zEF (xK p):=by
 have g:∀ n,n∈xK p->0<=n:=fun n hn=>(h n hn).1
 have b:∀ (l:List Int) (s:ByteArray),(∀ n∈l,0<=n)->l.foldl (fun s n=>s ++ jH n) s=s ++ zEF l:=by
  intro l
  induction l with
  | nil=>intro s _;simp [zEF]
  | cons a l ih=>
   intro s hl;rw [List.foldl_cons,ih _ (fun n hn=>hl n (List.mem_cons_of_mem _ hn)),low_is (hl a (List.mem_cons_self ..))];rw [show a :: l=[a] ++ l from rfl,zJI,catV_one,ByteArray.append_assoc]
 unfold zGB zIA;rw [List.take_length,b p.row _ (fun n hn=>g n (List.mem_append_right _ hn))];unfold keptHd qcTx voteTx;rw [low_is (g _ (by simp [xK])),low_is (g _ (by simp [xK])),four_is (g _ (by simp [xK])) (g _ (by simp [xK])) (g _ (by simp [xK])) (g _ (by simp [xK])),four_is (g _ (by simp [xK])) (g _ (by simp [xK])) (g _ (by simp [xK])) (g _ (by simp [xK])),four_is (g _ (by simp [xK])) (g _ (by simp [xK])) (g _ (by simp [xK])) (g _ (by simp [xK]))];unfold xK;rw [zJI]
 congr 1
 rw [show ([p.id,p.view,p.high.1,p.high.2.1,p.high.2.2.1,p.high.2.2.2,p.lock.1,p.lock.2.1,p.lock.2.2.1,p.lock.2.2.2,p.last.1,p.last.2.1,p.last.2.2.1,p.last.2.2.2,(p.row.length:Int)]:List Int)=[p.id] ++ [p.view] ++ [p.high.1,p.high.2.1,p.high.2.2.1,p.high.2.2.2] ++ [p.lock.1,p.lock.2.1,p.lock.2.2.1,p.lock.2.2.2] ++ [p.last.1,p.last.2.1,p.last.2.2.1,p.last.2.2.2] ++ [(p.row.length:Int)] from rfl];rw [zJC,zJI,zJI,zJI,zJC,catV_one]
theorem yAG.fit (h:yAG p):fitP p:=by
 have g:∀ n,n∈xK p->n<=9223372036854775807:=fun n hn=>by have:=(h.nums n hn).2;omega
 exact ⟨g _ (by simp [xK]),g _ (by simp [xK]),⟨g _ (by simp [xK]),g _ (by simp [xK]),g _ (by simp [xK]),g _ (by simp [xK])⟩,⟨g _ (by simp [xK]),g _ (by simp [xK]),g _ (by simp [xK]),g _ (by simp [xK])⟩,⟨g _ (by simp [xK]),g _ (by simp [xK]),g _ (by simp [xK]),g _ (by simp [xK])⟩,fun n hn=>g n (List.mem_append_right _ hn),by have:=h.len;omega⟩
theorem yAG.small (h:yAG p):(zGB p).size<=20000:=by
 have:=keptTo_size h.fit p.row.length (nl _);have:=h.len;unfold zGB;omega
def jO (p:PE):PE:=⟨p.id,p.view,p.high,p.lock,p.last,p.row,[],[],[],[],[],0⟩
theorem keptP_ok (h:yAG p):yAG (jO p):=⟨h.nums,h.len⟩
theorem keptP_tx (p:PE):zGB (jO p)=zGB p:=rfl
theorem sealT_is {s:ByteArray} (h:s.size<=20000):sealT s=s ++ strOfNums (yFE (sumT s)):=if_pos h
theorem sread_in (s:ByteArray) (a:Nat) (w:World) (hs:(s.size:Int)<=1048576) (ha:(a:Int)<=s.size) :
  Calls prog 244 #[.string s,I U a] w fun e w'=>e=.returned (tri (rvAt s a 0 1 a))/\Be w w':=by
 have t:inB a 0 s.size=true:=kY ⟨by omega,ha⟩;go_enter func244,ntmps244;go_wp2_with (go_at_call 57;refine (yS _ _ _ _).mono ?_;rintro e w' ⟨rfl,hw⟩;obtain rfl:=hw.symm;clear hw)
 go_loop [7,8,9] (fun n sc i=>∃ (N SC:Int) (j:Nat),n=I U N/\sc=I U SC/\i=I U j/\a<=j/\j<=a+5/\j<=s.size/\0<=N/\N < SC/\scOk SC (j - a)/\segOk s a j N/\Hid (rvAt s a 0 1 a=rvAt s a N SC j)) (fun _ _ i=>s.size - (intOf i).toNat)
 case atStart=>exact ⟨0,1,a,rfl,rfl,rfl,by omega,by omega,by omega,by omega,by omega,by simp [scOk],segOk_start s a,rfl⟩
 case round=>
   obtain ⟨N,SC,j,rfl,rfl,rfl,g,aa,p,ac,ae,f,c,HR⟩:=hrel
   by_cases hj:(j:Int) < s.size/\(j:Int) < a+5
   ·obtain ⟨ab,v⟩:=hj;have d:j < s.size:=by omega
    have hb:=byte_le s[j];obtain ⟨m,l⟩:=sc_bd f (by omega);obtain ⟨ag,o,af⟩:=mul_bd (b:=(s[j].toNat:Int)) m l
    by_cases h127:127 < (s[j].toNat:Int)
    ·have HG:Hid (rvAt s a N SC j=_):=rvAt_go s a N SC j d (by omega) h127;go_wp2
     go_round
     case rel=>exact ⟨N+(s[j].toNat:Int) % 128 * SC,SC * 128,j+1,rfl,rfl,by go_num,by omega,by omega,by omega,by omega,by omega,by rw [show j+1 - a=(j - a)+1 by omega];exact sc_next f,segOk_next c g d f h127,HR.trans HG⟩
     case measure=>simp [intOf];omega
    ·by_cases hx:1000000000 < N+(s[j].toNat:Int) % 128 * SC
     ·have HG:Hid (rvAt s a N SC j=_):=rvAt_no s a N SC j d (by omega) (by omega) (.inl hx);go_wp2
      go_quiet (fail)
      go_wp2
      go_ret3
      exact ⟨ret_tri (HR.trans HG),below_drewN (br _ _) _⟩
     ·have u:decide (1000000000 < N+(s[j].toNat:Int) % 128 * SC)=false:=by simpa using hx
      go_wp2;have r:=yX w;have y:(0:Int)<=(a:Int):=by omega
      have z:(a:Int)<=(j:Int)+1:=by omega
      have ad:(j:Int)+1<=(s.size:Int):=by omega
      refine rb ?_;repeat (go_big_quiet_step (refine xX (var_any _ _ (by omega) (by omega))))
      refine qnn fun x=>?_
      go_wp2
      ·go_ret3
       have ht:=same_bytes s a j N SC g d f c.1 c.2 (by omega);have hq:(!(strOfNums (vbs (N+(s[j].toNat:Int) % 128 * SC))).toList == (s.extract a (j+1)).toList)=true:=by assumption
       rw [ht] at hq;have k:(s[j].toNat:Int)=0/\a < j:=by simpa using hq
       exact ⟨ret_tri (HR.trans (rvAt_no s a N SC j d (by omega) (by omega) (.inr k))),x.below⟩
      ·go_ret3
       have ht:=same_bytes s a j N SC g d f c.1 c.2 (by omega);have hq:(!(strOfNums (vbs (N+(s[j].toNat:Int) % 128 * SC))).toList == (s.extract a (j+1)).toList)=false:=by assumption
       rw [ht] at hq;have k:¬ ((s[j].toNat:Int)=0/\a < j):=by simpa using hq
       exact ⟨ret_tri (HR.trans (rvAt_yes s a N SC j d (by omega) (by omega) (by rintro (h | h);omega;exact k h))),x.below⟩
   ·have HG:Hid (rvAt s a N SC j=_):=rvAt_stop s a N SC j (by omega)
    by_cases hjs:(j:Int) < s.size
    all_goals
     go_wp2
     go_ret3
     exact ⟨ret_tri (HR.trans HG),br _ _⟩
theorem sread_out (s:ByteArray) (a:Int) (w:World) (_hs:(s.size:Int)<=1048576) (h:¬ (0<=a/\a<=s.size)) :
  Calls prog 244 #[.string s,I U a] w fun e w'=>e=.returned (tri (0,0,false))/\w'=w:=by
 have b:inB a 0 s.size=false:=zAB h;clear h;go_enter func244,ntmps244;go_wp2_with (go_at_call 57;refine (yS _ _ _ _).mono ?_;rintro e w' ⟨rfl,hw⟩;obtain rfl:=hw.symm;clear hw)
 go_ret3
 exact ⟨rfl,rfl⟩
theorem sread (s:ByteArray) (a:Int) (w:World) (hs:(s.size:Int)<=1048576) :
  Calls prog 244 #[.string s,I U a] w fun e w'=>e=.returned (tri (rvOf s a))/\Be w w':=by
 unfold rvOf
 by_cases h:0<=a/\a<=s.size
 ·rw [if_pos h];obtain ⟨n,rfl⟩:=Int.eq_ofNat_of_zero_le h.1;rw [Int.toNat_natCast];exact sread_in s n w hs h.2
 ·rw [if_neg h];exact (sread_out s a w hs h).mono fun e w' ⟨he,hw⟩=>⟨he,hw ▸ br _ _⟩
theorem sread_eq (s:ByteArray) (a:Int) (w:World) (hs:(s.size:Int)<=1048576) (n x:Int) (b:Bool) (h:rvOf s a=(n,x,b)) :
  Calls prog 244 #[.string s,I U a] w fun e w'=>e=.returned (.tuple #[I U n,I U x,.bool b])/\Be w w':=by
 have:=sread s a w hs;rw [h] at this;exact this
def zFF (C:Nat) (t:ByteArray) (r:RD) (w:World):Prop:=Bx w C #[.string t,I U r.1,.bool r.2] 264
theorem zFF.cells {r:RD} (h:zFF C t r w):w.cell? ⟨C,0,Aa⟩=Ab (.string t)/\w.cell? ⟨C,1,Aa⟩=Ab (I U r.1)/\w.cell? ⟨C,2,Aa⟩=Ab (.bool r.2):=by
 refine ⟨?_,?_,?_⟩
 ·rw [cell_of_row w C 0 _ _ (0,0) h];rfl
 ·rw [cell_of_row w C 1 _ _ (0,0) h];rfl
 ·rw [cell_of_row w C 2 _ _ (0,0) h];rfl
theorem zFF.lt {r:RD} (h:zFF C t r w):C < w.heap.size:=(gl h)
theorem zFF.below {r:RD} {w':World} (h:zFF C t r w) (hb:Be w w'):zFF C t r w':=(hb.block _ h.lt).trans h
theorem rdV_s {r:RD} (h:zFF C t r w) (ht:(t.size:Int)<=1048576) :
  Calls prog 216 #[.pointer (Ab ⟨C,0,Aa⟩)] w fun e w'=>e=.returned (I U (rdV t r).1)/\zFF C t (rdV t r).2 w'/\w.grownBy w' (some C):=by
 obtain ⟨a,c⟩:=r;have H:=hid h;have j:=h.lt;obtain ⟨⟨N,X,ok⟩,hr⟩:=nw (rvOf t a);have HR:Hid (rvOf t a=(N,X,ok)):=hr.symm;have HQ:Hid (∀ x:Bw w,Calls prog 244 #[.string t,I U a] x.to fun e w'=>e=.returned (.tuple #[I U N,I U X,.bool ok])/\Below x.to.heap.size x.to w'):=fun x=>sread_eq t a x.to ht N X ok HR
 have f:=yX w;have y0:∀ x:Bw w,x.to.cell? ⟨C,0,Aa⟩=Ab (.string t):=fun x=>(H.below x.below).cells.1
 have y1:∀ x:Bw w,x.to.cell? ⟨C,1,Aa⟩=Ab (I U a):=fun x=>(H.below x.below).cells.2.1
 clear h hr;go_enter func216,ntmps216;go_wp2;refine rb ?_;repeat (go_big_quiet_step (refine xX (HQ _)))
 refine qnn fun x=>?_
 obtain ⟨w1,b⟩:=nw x.to;have H1:Hid (zFF C t (a,c) w1):=hid (by rw [b];exact H.out.below x.below);have d:Hid (Be w w1):=hid (by rw [b];exact x.below);have i:=H1.lt;rw [<- b];clear y0 y1 f b;obtain ⟨c0,c1,c2⟩:=H1.cells;simp only at c1 c2;have f1:w1.frozen? ⟨C,1,Aa⟩=false:=frozen_of_row _ C 1 _ _ H1;have f2:w1.frozen? ⟨C,2,Aa⟩=false:=frozen_of_row _ C 2 _ _ H1
 by_cases hb:c=true
 ·subst hb;have HE:Hid (rdV t (a,true)=(0,(a,true))):=rdV_bad rfl;have hk:(w1.setCell ⟨C,2,Aa⟩ (.bool true)).heap[C]?=Ab (.cells #[.string t,I U a,.bool true] 264 (0,0)):=heap_setCell_same w1 C 2 _ _ _ H1;have HK:=hid hk;have HG:Hid (w1.grownBy (w1.setCell ⟨C,2,Aa⟩ (.bool true)) (some C)):=yK _ C 2 _;clear hk;go_wp2;go_ret;exact ⟨by rw [HE.out];rfl,by rw [HE.out];exact HK.out,zP (zGA (qR d)) HG⟩
 ·have g:c=false:=by simpa using hb
  subst g
  cases ok with
  | false=>
   have HE:Hid (rdV t (a,false)=(0,(a,true))):=rdV_no (by rw [HR.out]);have hk:(w1.setCell ⟨C,2,Aa⟩ (.bool true)).heap[C]?=Ab (.cells #[.string t,I U a,.bool true] 264 (0,0)):=heap_setCell_same w1 C 2 _ _ _ H1;have HK:=hid hk;have HG:Hid (w1.grownBy (w1.setCell ⟨C,2,Aa⟩ (.bool true)) (some C)):=yK _ C 2 _;clear hk;go_wp2;go_ret;exact ⟨by rw [HE.out];rfl,by rw [HE.out];exact HK.out,zP (zGA (qR d)) HG⟩
  | true=>
   have HE:Hid (rdV t (a,false)=(N,(X,false))):=hid (by rw [rdV_yes rfl (by rw [HR.out]),HR.out]);have hk:(w1.setCell ⟨C,1,Aa⟩ (I U X)).heap[C]?=Ab (.cells #[.string t,I U X,.bool false] 264 (0,0)):=heap_setCell_same w1 C 1 _ _ _ H1;have HK:=hid hk;have HG:Hid (w1.grownBy (w1.setCell ⟨C,1,Aa⟩ (I U X)) (some C)):=yK _ C 1 _;clear hk;go_wp2;go_ret;exact ⟨by rw [HE.out];rfl,by rw [HE.out];exact HK.out,zP (zGA (qR d)) HG⟩
theorem four_one (a b c d:Int):(#[Value.int U a,I U b,I U c,I U d]).all (·.oneCell')=true:=by simp [Value.oneCell']
theorem zCD {w1 w2:World} {r:Option Nat} {N:Nat} (h:w.grownBy w1 r) (hN:w.heap.size<=N) (k:w1.grownBy w2 (some N)):w.grownBy w2 r:=
 ⟨k.os.trans h.os,k.tape.trans h.tape,k.output.trans h.output,Nat.le_trans h.size k.size,fun i hi hr=>(k.block i (Nat.lt_of_lt_of_le hi h.size) (qsn (by omega))).trans (h.block i hi hr)⟩
theorem rdQ_s {r:RD} (h:zFF C t r w) (ht:(t.size:Int)<=1048576) :
  Calls prog 217 #[.pointer (Ab ⟨C,0,Aa⟩)] w fun e w'=>e=.returned (zBF (rd4 t r).1)/\zFF C t (rd4 t r).2 w'/\w.grownBy w' (some C):=by
 have H:=hid h;have am:=h.lt;clear h;obtain ⟨⟨n0,r1⟩,p⟩:=nw (rdV t r);obtain ⟨⟨n1,r2⟩,u⟩:=nw (rdV t r1);obtain ⟨⟨n2,r3⟩,s⟩:=nw (rdV t r2);obtain ⟨⟨n3,r4⟩,o⟩:=nw (rdV t r3);have HE:Hid (rd4 t r=((n0,n1,n2,n3),r4)):=hid (by unfold rd4;rw [<- p];simp only;rw [<- u];simp only;rw [<- s];simp only;rw [<- o]);have R1:Hid (rdV t r=(n0,r1)):=p.symm;have R2:Hid (rdV t r1=(n1,r2)):=u.symm;have R3:Hid (rdV t r2=(n2,r3)):=s.symm;have R4:Hid (rdV t r3=(n3,r4)):=o.symm;clear p u s o;obtain ⟨W0,k⟩:=nw (w.alloc (.cells #[I U 0,I U 0,I U 0,I U 0] 26));have y:Hid (Be w W0):=hid (by rw [k];exact (br _ _).alloc (nl _) _);have aa:Hid (Bx W0 w.heap.size #[I U 0,I U 0,I U 0,I U 0] 26):=(by rw [k];exact heap_alloc_new w _:W0.heap[w.heap.size]?=_);have l0:w.heap.size < W0.heap.size:=(gl aa);go_enter func217,ntmps217;go_wp2_with fail
 rw [<- k];clear k;refine (rdV_s (H.below y) ht).mono ?_;rintro e w1 ⟨rfl,hA,hg⟩;rw [R1.out] at hA ⊢;simp only at hA ⊢;obtain ⟨W2,c⟩:=nw (w1.alloc (.cells #[I U n0,I U 0,I U 0,I U 0] 26));have f:Be w1 W2:=by rw [c];exact (br _ _).alloc (nl _) _
 have af:Hid (Bx W2 w1.heap.size #[I U n0,I U 0,I U 0,I U 0] 26):=(by rw [c];exact heap_alloc_new w1 _:W2.heap[w1.heap.size]?=_);have A0:Hid (zFF C t r1 W2):=hA.below f;have E0:Hid (Bx W2 w.heap.size #[I U 0,I U 0,I U 0,I U 0] 26):=(f.block _ (by have:=hg.size;omega)).trans ((hg.block _ l0 (qsn (by omega))).trans aa);have G0:Hid (w.grownBy W2 (some C)):=zP (zGA (qR y)) (zP hg (zGA (qR f)));have hX:w.heap.size < w1.heap.size:=by have:=hg.size;omega
 obtain ⟨X,x⟩:=nw w1.heap.size;rw [<- x] at af hX;clear hA hg f;go_wp2_with fail
 rw [<- c,<- x];clear c x;refine (rdV_s A0.out ht).mono ?_;rintro e v1 ⟨rfl,hA,hg⟩;rw [R2.out] at hA ⊢;simp only at hA ⊢;have b:Bx v1 X #[I U n0,I U 0,I U 0,I U 0] 26:=gk hg af.out (qsn (by omega));have ac:Bx v1 w.heap.size #[I U 0,I U 0,I U 0,I U 0] 26:=gk hg E0.out (qsn (by omega));obtain ⟨V1,g⟩:=nw (v1.setCell ⟨X,1,Aa⟩ (I U n1));have j:v1.grownBy V1 (some X):=by rw [g];exact yK _ X 1 _
 have ai:Hid (Bx V1 X #[I U n0,I U n1,I U 0,I U 0] 26):=(by rw [g];exact heap_setCell_same v1 X 1 _ _ _ b:V1.heap[X]?=_);have A1:Hid (zFF C t r2 V1):=(j.block _ hA.lt (qsn (by omega))).trans hA;have E1:Hid (Bx V1 w.heap.size #[I U 0,I U 0,I U 0,I U 0] 26):=gk j ac (qsn (by omega));have G1:Hid (w.grownBy V1 (some C)):=zCD (zP G0.out hg) (by omega) j;have a1:v1.cell? ⟨X,1,Aa⟩=Ab (I U 0):=by rw [cell_of_row v1 X 1 _ _ (0,0) b];rfl
 have b1:v1.frozen? ⟨X,1,Aa⟩=false:=frozen_of_row _ X 1 _ _ b;clear hA hg b ac j;go_wp2_with fail
 rw [<- g];clear g a1 b1;refine (rdV_s A1.out ht).mono ?_;rintro e v2 ⟨rfl,hA,hg⟩;rw [R3.out] at hA ⊢;simp only at hA ⊢;have d:Bx v2 X #[I U n0,I U n1,I U 0,I U 0] 26:=gk hg ai.out (qsn (by omega));have ag:Bx v2 w.heap.size #[I U 0,I U 0,I U 0,I U 0] 26:=gk hg E1.out (qsn (by omega));obtain ⟨V2,i⟩:=nw (v2.setCell ⟨X,2,Aa⟩ (I U n2));have l:v2.grownBy V2 (some X):=by rw [i];exact yK _ X 2 _
 have al:Hid (Bx V2 X #[I U n0,I U n1,I U n2,I U 0] 26):=(by rw [i];exact heap_setCell_same v2 X 2 _ _ _ d:V2.heap[X]?=_);have A2:Hid (zFF C t r3 V2):=(l.block _ hA.lt (qsn (by omega))).trans hA;have E2:Hid (Bx V2 w.heap.size #[I U 0,I U 0,I U 0,I U 0] 26):=gk l ag (qsn (by omega));have G2:Hid (w.grownBy V2 (some C)):=zCD (zP G1.out hg) (by omega) l;have a2:v2.cell? ⟨X,2,Aa⟩=Ab (I U 0):=by rw [cell_of_row v2 X 2 _ _ (0,0) d];rfl
 have b2:v2.frozen? ⟨X,2,Aa⟩=false:=frozen_of_row _ X 2 _ _ d;clear hA hg d ag l;go_wp2_with fail
 rw [<- i];clear i a2 b2;refine (rdV_s A2.out ht).mono ?_;rintro e v3 ⟨rfl,hA,hg⟩;rw [R4.out] at hA ⊢;simp only at hA ⊢;have m:Bx v3 X #[I U n0,I U n1,I U n2,I U 0] 26:=gk hg al.out (qsn (by omega));have ab:Bx v3 w.heap.size #[I U 0,I U 0,I U 0,I U 0] 26:=gk hg E2.out (qsn (by omega));obtain ⟨V3,a⟩:=nw (v3.setCell ⟨X,3,Aa⟩ (I U n3));have n:v3.grownBy V3 (some X):=by rw [a];exact yK _ X 3 _
 have ah:Hid (Bx V3 X #[I U n0,I U n1,I U n2,I U n3] 26):=(by rw [a];exact heap_setCell_same v3 X 3 _ _ _ m:V3.heap[X]?=_);have A3:Hid (zFF C t r4 V3):=(n.block _ hA.lt (qsn (by omega))).trans hA;have E3:Hid (Bx V3 w.heap.size #[I U 0,I U 0,I U 0,I U 0] 26):=gk n ab (qsn (by omega));have G3:Hid (w.grownBy V3 (some C)):=zCD (zP G2.out hg) (by omega) n;have a3:v3.cell? ⟨X,3,Aa⟩=Ab (I U 0):=by rw [cell_of_row v3 X 3 _ _ (0,0) m];rfl
 have b3:v3.frozen? ⟨X,3,Aa⟩=false:=frozen_of_row _ X 3 _ _ m;clear hA hg m ab n;obtain ⟨k0,k1,k2,k3⟩:=zZ ah.out;have ak:Hid ((v3.setCell ⟨X,3,Aa⟩ (I U n3)).heap[w.heap.size]?=Ab (.cells #[I U 0,I U 0,I U 0,I U 0] 26 (0,0))):=(by rw [<- a];exact E3.out:(v3.setCell ⟨X,3,Aa⟩ (I U n3)).heap[w.heap.size]?=_);rw [a] at k0 k1 k2 k3;go_wp2_with (refine w_st w.heap.size #[I U n0,I U n1,I U n2,I U n3] ak (four_one _ _ _ _) ?_;intro wg z ad aj;clear aj;have ae:Hid (V3.grownBy wg (some w.heap.size)):=hid (by rw [a];exact z);obtain ⟨m0,m1,m2,m3⟩:=zZ ad;clear z ad)
 refine bodyPost_ret (v:=.agg #[I U n0,I U n1,I U n2,I U n3]) (by simp [results,results217,go_sem,m0,m1,m2,m3]) rfl ?_;rw [HE.out];exact ⟨rfl,(ae.block _ A3.out.lt (qsn (by omega))).trans A3.out,zCD G3.out (nl _) ae⟩
theorem rdVote_s {r:RD} (h:zFF C t r w) (ht:(t.size:Int)<=1048576) :
  Calls prog 218 #[.pointer (Ab ⟨C,0,Aa⟩)] w fun e w'=>e=.returned (voteV (rd4 t r).1)/\zFF C t (rd4 t r).2 w'/\w.grownBy w' (some C):=by
 have H:=hid h;have am:=h.lt;clear h;obtain ⟨⟨n0,r1⟩,p⟩:=nw (rdV t r);obtain ⟨⟨n1,r2⟩,u⟩:=nw (rdV t r1);obtain ⟨⟨n2,r3⟩,s⟩:=nw (rdV t r2);obtain ⟨⟨n3,r4⟩,o⟩:=nw (rdV t r3);have HE:Hid (rd4 t r=((n0,n1,n2,n3),r4)):=hid (by unfold rd4;rw [<- p];simp only;rw [<- u];simp only;rw [<- s];simp only;rw [<- o]);have R1:Hid (rdV t r=(n0,r1)):=p.symm;have R2:Hid (rdV t r1=(n1,r2)):=u.symm;have R3:Hid (rdV t r2=(n2,r3)):=s.symm;have R4:Hid (rdV t r3=(n3,r4)):=o.symm;clear p u s o;obtain ⟨W0,k⟩:=nw (w.alloc (.cells #[I U 0,I U 0,I U 0,I U 0] 28));have y:Hid (Be w W0):=hid (by rw [k];exact (br _ _).alloc (nl _) _);have aa:Hid (Bx W0 w.heap.size #[I U 0,I U 0,I U 0,I U 0] 28):=(by rw [k];exact heap_alloc_new w _:W0.heap[w.heap.size]?=_);have l0:w.heap.size < W0.heap.size:=(gl aa);go_enter func218,ntmps218;go_wp2_with fail
 rw [<- k];clear k;refine (rdV_s (H.below y) ht).mono ?_;rintro e w1 ⟨rfl,hA,hg⟩;rw [R1.out] at hA ⊢;simp only at hA ⊢;obtain ⟨W2,c⟩:=nw (w1.alloc (.cells #[I U n0,I U 0,I U 0,I U 0] 28));have f:Be w1 W2:=by rw [c];exact (br _ _).alloc (nl _) _
 have af:Hid (Bx W2 w1.heap.size #[I U n0,I U 0,I U 0,I U 0] 28):=(by rw [c];exact heap_alloc_new w1 _:W2.heap[w1.heap.size]?=_);have A0:Hid (zFF C t r1 W2):=hA.below f;have E0:Hid (Bx W2 w.heap.size #[I U 0,I U 0,I U 0,I U 0] 28):=(f.block _ (by have:=hg.size;omega)).trans ((hg.block _ l0 (qsn (by omega))).trans aa);have G0:Hid (w.grownBy W2 (some C)):=zP (zGA (qR y)) (zP hg (zGA (qR f)));have hX:w.heap.size < w1.heap.size:=by have:=hg.size;omega
 obtain ⟨X,x⟩:=nw w1.heap.size;rw [<- x] at af hX;clear hA hg f;go_wp2_with fail
 rw [<- c,<- x];clear c x;refine (rdV_s A0.out ht).mono ?_;rintro e v1 ⟨rfl,hA,hg⟩;rw [R2.out] at hA ⊢;simp only at hA ⊢;have b:Bx v1 X #[I U n0,I U 0,I U 0,I U 0] 28:=gk hg af.out (qsn (by omega));have ac:Bx v1 w.heap.size #[I U 0,I U 0,I U 0,I U 0] 28:=gk hg E0.out (qsn (by omega));obtain ⟨V1,g⟩:=nw (v1.setCell ⟨X,1,Aa⟩ (I U n1));have j:v1.grownBy V1 (some X):=by rw [g];exact yK _ X 1 _
 have ai:Hid (Bx V1 X #[I U n0,I U n1,I U 0,I U 0] 28):=(by rw [g];exact heap_setCell_same v1 X 1 _ _ _ b:V1.heap[X]?=_);have A1:Hid (zFF C t r2 V1):=(j.block _ hA.lt (qsn (by omega))).trans hA;have E1:Hid (Bx V1 w.heap.size #[I U 0,I U 0,I U 0,I U 0] 28):=gk j ac (qsn (by omega));have G1:Hid (w.grownBy V1 (some C)):=zCD (zP G0.out hg) (by omega) j;have a1:v1.cell? ⟨X,1,Aa⟩=Ab (I U 0):=by rw [cell_of_row v1 X 1 _ _ (0,0) b];rfl
 have b1:v1.frozen? ⟨X,1,Aa⟩=false:=frozen_of_row _ X 1 _ _ b;clear hA hg b ac j;go_wp2_with fail
 rw [<- g];clear g a1 b1;refine (rdV_s A1.out ht).mono ?_;rintro e v2 ⟨rfl,hA,hg⟩;rw [R3.out] at hA ⊢;simp only at hA ⊢;have d:Bx v2 X #[I U n0,I U n1,I U 0,I U 0] 28:=gk hg ai.out (qsn (by omega));have ag:Bx v2 w.heap.size #[I U 0,I U 0,I U 0,I U 0] 28:=gk hg E1.out (qsn (by omega));obtain ⟨V2,i⟩:=nw (v2.setCell ⟨X,2,Aa⟩ (I U n2));have l:v2.grownBy V2 (some X):=by rw [i];exact yK _ X 2 _
 have al:Hid (Bx V2 X #[I U n0,I U n1,I U n2,I U 0] 28):=(by rw [i];exact heap_setCell_same v2 X 2 _ _ _ d:V2.heap[X]?=_);have A2:Hid (zFF C t r3 V2):=(l.block _ hA.lt (qsn (by omega))).trans hA;have E2:Hid (Bx V2 w.heap.size #[I U 0,I U 0,I U 0,I U 0] 28):=gk l ag (qsn (by omega));have G2:Hid (w.grownBy V2 (some C)):=zCD (zP G1.out hg) (by omega) l;have a2:v2.cell? ⟨X,2,Aa⟩=Ab (I U 0):=by rw [cell_of_row v2 X 2 _ _ (0,0) d];rfl
 have b2:v2.frozen? ⟨X,2,Aa⟩=false:=frozen_of_row _ X 2 _ _ d;clear hA hg d ag l;go_wp2_with fail
 rw [<- i];clear i a2 b2;refine (rdV_s A2.out ht).mono ?_;rintro e v3 ⟨rfl,hA,hg⟩;rw [R4.out] at hA ⊢;simp only at hA ⊢;have m:Bx v3 X #[I U n0,I U n1,I U n2,I U 0] 28:=gk hg al.out (qsn (by omega));have ab:Bx v3 w.heap.size #[I U 0,I U 0,I U 0,I U 0] 28:=gk hg E2.out (qsn (by omega));obtain ⟨V3,a⟩:=nw (v3.setCell ⟨X,3,Aa⟩ (I U n3));have n:v3.grownBy V3 (some X):=by rw [a];exact yK _ X 3 _
 have ah:Hid (Bx V3 X #[I U n0,I U n1,I U n2,I U n3] 28):=(by rw [a];exact heap_setCell_same v3 X 3 _ _ _ m:V3.heap[X]?=_);have A3:Hid (zFF C t r4 V3):=(n.block _ hA.lt (qsn (by omega))).trans hA;have E3:Hid (Bx V3 w.heap.size #[I U 0,I U 0,I U 0,I U 0] 28):=gk n ab (qsn (by omega));have G3:Hid (w.grownBy V3 (some C)):=zCD (zP G2.out hg) (by omega) n;have a3:v3.cell? ⟨X,3,Aa⟩=Ab (I U 0):=by rw [cell_of_row v3 X 3 _ _ (0,0) m];rfl
 have b3:v3.frozen? ⟨X,3,Aa⟩=false:=frozen_of_row _ X 3 _ _ m;clear hA hg m ab n;obtain ⟨k0,k1,k2,k3⟩:=zZ ah.out;have ak:Hid ((v3.setCell ⟨X,3,Aa⟩ (I U n3)).heap[w.heap.size]?=Ab (.cells #[I U 0,I U 0,I U 0,I U 0] 28 (0,0))):=(by rw [<- a];exact E3.out:(v3.setCell ⟨X,3,Aa⟩ (I U n3)).heap[w.heap.size]?=_);rw [a] at k0 k1 k2 k3;go_wp2_with (refine w_st w.heap.size #[I U n0,I U n1,I U n2,I U n3] ak (four_one _ _ _ _) ?_;intro wg z ad aj;clear aj;have ae:Hid (V3.grownBy wg (some w.heap.size)):=hid (by rw [a];exact z);obtain ⟨m0,m1,m2,m3⟩:=zZ ad;clear z ad)
 refine bodyPost_ret (v:=.agg #[I U n0,I U n1,I U n2,I U n3]) (by simp [results,results218,go_sem,m0,m1,m2,m3]) rfl ?_;rw [HE.out];exact ⟨rfl,(ae.block _ A3.out.lt (qsn (by omega))).trans A3.out,zCD G3.out (nl _) ae⟩
def sealedT (s:ByteArray):ByteArray:=s ++ strOfNums (yFE (sumT s))
theorem bs_append (a b:ByteArray):bs (a ++ b)=bs a ++ bs b:=by
 simp [bs,ByteArray.data_append]
theorem sealedT_size (s:ByteArray):(sealedT s).size=s.size+4:=by
 unfold sealedT;rw [ByteArray.size_append,strOfNums_size];rfl
theorem sealedT_bs (s:ByteArray):bs (sealedT s)=bs s ++ yFE (sums 4294967295 (bs s)):=by
 unfold sealedT;rw [bs_append,bs_str _ (seal4_ok (sumT_lt s))];rfl
theorem bs_inj {a b:ByteArray} (h:bs a=bs b):a=b:=by rw [<- str_bs a,<- str_bs b,h]
theorem sealedT_back (s:ByteArray):(sealedT s).extract 0 s.size=s:=by
 apply bs_inj
 rw [bs_extract,sealedT_bs,List.drop_zero,List.take_left' (zDC s)]
theorem sealedT_right (s:ByteArray):sealRight (sealedT s) s.size:=by
 unfold sealRight;rw [sealedT_back]
 apply bs_inj
 rw [bs_extract,sealedT_bs,bs_str _ (seal4_ok (sumT_lt s)),List.take_of_length_le (by rw [List.length_append,zDC,sealedT_size];exact nl _),List.drop_left' (zDC s)]
 rfl
section
variable {P:Program} {ops:Array Oper} {Q:Exit->Act->World->Prop} {md:Region.Mode} {C:World->Prop} {pend:Nat->Bool}
theorem p_three {i j f:Nat} {L:Array Bool} (hr:Region.ready md ops L=[i,j,k]) (h1:StepP P md ops Q C pend f L a w i) (h2:StepP P md ops Q C pend f L a w j) (h3:StepP P md ops Q C pend f L a w k):zX P md ops Q C pend (f+1) L a w:=by
 refine ⟨fun h0=>(by rw [hr] at h0;cases h0),fun m hm=>?_⟩;rw [hr] at hm
 rcases List.mem_cons.1 hm with rfl | hm
 ·exact h1
 ·rcases List.mem_cons.1 hm with rfl | hm
  ·exact h2
  ·obtain rfl:m=k:=by simpa using hm
   exact h3
theorem zEA {s:Nat} {e':Option Tmp} {oc:Oper} {f:Nat} {L:Array Bool} {fn:FuncId} {args:Array Value} (hc:ops[s]?=some oc) (hce:oc.dst=e')
  (hw:Region.wanted oc (yielded ops a.tmps)=true) (hrun:(execOp a.eval oc).run P w=.ok (.enter fn args) w)
  (h:Calls P fn args w fun e w'=>∃ v,e=.returned v/\(pend s=true->C w')/\zX P md ops Q C pend f (L.setIfInBounds s true) (a.put e' v) w'):StepP P md ops Q C pend f L a w s:=by
 subst hce;exact yFG hc hw hrun h
theorem xB {op:Oper} (ty:TypeId) (x:Operand) (ho:op.op=.load ty x) (b o:Nat) (hx:a.eval x=.pointer (Ab ⟨b,o,Aa⟩)) (cs:List Value) (d:TypeDesc) (hS:w.rangeAt b o cs)
  (hu:P.underlying ty=some d) (hd:d.isRow=true) (hi:(P.info? ty).map (·.size)=some cs.length):(execOp a.eval op).run P w=.ok (.value (.agg cs.toArray)) w:=by
 unfold execOp;simp only [ho,hx,Instr.loadAt,Instr.sureAddr,Sem.run_bind,Sem.run_pure,Result.andThen_ok,run_loadVar_mid w b o ty cs d hS hu hd hi]
theorem ldm {op:Oper} {ty:TypeId} {x:Operand} {d:TypeDesc} (b o:Nat) (cs:List Value) (hS:w.rangeAt b o cs) (hu:P.underlying ty=some d)
  (ho:op.op=.load ty x:=by exact rfl) (hx:a.eval x=.pointer (Ab ⟨b,o,Aa⟩):=by exact rfl) (hd:d.isRow=true:=by exact rfl) (hi:(P.info? ty).map (·.size)=some cs.length:=by kernel_rfl):(execOp a.eval op).run P w=.ok (.value (.agg cs.toArray)) w:=xB ty x ho b o hx cs d hS hu hd hi
end
end Go.Proofs.YtfnneillakdopacGreatR
