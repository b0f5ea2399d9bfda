/-
  Texts of ours that later ones lean on, in one: KeptN, ReadS, RShortS, RdS, RdS4, TurnN, FloatP.
-/
import Derived.Test.YtfnneillakdopadGreatK6
import Derived.Test.YtfnneillakdopadGreatK1
import Derived.Test.YtfnneillakdopadGreatK3
import Derived.Deep.MidRow
set_option maxRecDepth 100000
set_option maxHeartbeats 32000000
namespace Go.Proofs.YtfnneillakdopadGreat
open _root_.Go.Proofs.Tryz
open Go.Value renaming int->I
open Go.IntKind renaming i64->U
open Option renaming none->Aa,some->Ab
open Go.RowKit Num
variable {a:Act} {t:ByteArray} {C k:Nat} {p:PE} {r:RD} {w:World}
def zEF (ns:List Int):ByteArray:=ns.foldl (fun s n=>s ++ vT n) ByteArray.empty
theorem zJC (ns:List Int) (n:Int):zEF (ns ++ [n])=zEF ns ++ vT n:=by unfold zEF;rw [List.foldl_append];rfl
theorem foldV_app (ms:List Int):∀ s:ByteArray,ms.foldl (fun s n=>s ++ vT n) s=s ++ zEF ms:=by
 induction ms with
 | nil=>intro s;simp [zEF]
 | cons m ms ih=>
  intro s;rw [List.foldl_cons,ih]
  have:zEF (m :: ms)=vT m ++ zEF ms:=by
   unfold zEF;rw [List.foldl_cons,ih];simp [zEF]
  rw [this,ByteArray.append_assoc]
theorem zJI (ns ms:List Int):zEF (ns ++ ms)=zEF ns ++ zEF ms:=by
 unfold zEF;rw [List.foldl_append,foldV_app]
 rfl
theorem catV_one (n:Int):zEF [n]=vT n:=by unfold zEF;simp
def qA (ns:List Int) (k:Nat):Int:=((zEF (ns.take k)).size:Int)
def numsOk (ns:List Int):Prop:=∀ n∈ns,0<=n/\n<=1000000000
theorem rd_at {ns:List Int} (h:numsOk ns) (hk:k < ns.length):rdV (zEF ns) (qA ns k,false)=(ns[k],(qA ns (k+1),false)):=by
 have hb:=h ns[k] (List.getElem_mem hk)
 have hs:zEF ns=zEF (ns.take k) ++ strOfNums (vbs ns[k]) ++ zEF (ns.drop (k+1)):=by
  have e:ns=ns.take k ++ [ns[k]] ++ ns.drop (k+1):=by
   rw [<- List.take_succ_eq_append_getElem hk,List.take_append_drop]
  conv=>lhs;rw [e]
  rw [zJI,zJI,catV_one]
  rfl
 have hr:rvOf (zEF ns) (qA ns k)=(ns[k],qA ns (k+1),true):=by
  have hp:qA ns (k+1)=((zEF (ns.take k)).size:Int)+(vbs ns[k]).length:=by
   unfold qA;rw [List.take_succ_eq_append_getElem hk,zJC,ByteArray.size_append];unfold vT;rw [strOfNums_size];omega
  rw [hp,hs];exact read_back _ _ _ hb.1 hb.2
 rw [rdV_yes rfl (by rw [hr])];simp only [hr]
theorem rd4_at {ns:List Int} (h:numsOk ns) (hk:k+3 < ns.length):rd4 (zEF ns) (qA ns k,false)=((ns[k],ns[k+1],ns[k+2],ns[k+3]),(qA ns (k+4),false)):=by
 unfold rd4;simp only [rd_at h (show k < ns.length by omega),rd_at h (show k+1 < ns.length by omega),rd_at h (show k+1+1 < ns.length by omega),rd_at h (show k+1+1+1 < ns.length by omega)]
def xK (p:PE):List Int:=[p.id,p.view,p.high.1,p.high.2.1,p.high.2.2.1,p.high.2.2.2,p.lock.1,p.lock.2.1,p.lock.2.2.1,p.lock.2.2.2,p.last.1,p.last.2.1,p.last.2.2.1,p.last.2.2.2,(p.row.length:Int)] ++ p.row
structure yAG (p:PE):Prop where
 nums:numsOk (xK p)
 len:p.row.length<=1900
theorem low_is {n:Int} (h:0<=n):jH n=vT n:=by unfold jH lowI;rw [if_neg (by omega)]
theorem four_is {a b c d:Int} (h0:0<=a) (h1:0<=b) (h2:0<=c) (h3:0<=d):zCC a b c d=zEF [a,b,c,d]:=by
 unfold zCC;rw [low_is h0,low_is h1,low_is h2,low_is h3];rw [show [a,b,c,d]=[a] ++ [b] ++ [c] ++ [d] from rfl,zJC,zJC,zJC,catV_one]
theorem kept_is (h:numsOk (xK p)):zGB p=zEF (xK p):=by
 have g:∀ n,n∈xK p->0<=n:=fun n hn=>(h n hn).1
 have b:∀ (l:List Int) (s:ByteArray),(∀ n∈l,0<=n)->l.foldl (fun s n=>s ++ jH n) s=s ++ zEF l:=by
  intro l
  induction l with
  | nil=>intro s _;simp [zEF]
  | cons a l ih=>
   intro s hl;rw [List.foldl_cons,ih _ (fun n hn=>hl n (List.mem_cons_of_mem _ hn)),low_is (hl a (List.mem_cons_self ..))];rw [show a :: l=[a] ++ l from rfl,zJI,catV_one,ByteArray.append_assoc]
 unfold zGB zIA;rw [List.take_length,b p.row _ (fun n hn=>g n (List.mem_append_right _ hn))];unfold keptHd qcTx voteTx;rw [low_is (g _ (by simp [xK])),low_is (g _ (by simp [xK])),four_is (g _ (by simp [xK])) (g _ (by simp [xK])) (g _ (by simp [xK])) (g _ (by simp [xK])),four_is (g _ (by simp [xK])) (g _ (by simp [xK])) (g _ (by simp [xK])) (g _ (by simp [xK])),four_is (g _ (by simp [xK])) (g _ (by simp [xK])) (g _ (by simp [xK])) (g _ (by simp [xK]))];unfold xK;rw [zJI]
 congr 1
 rw [show ([p.id,p.view,p.high.1,p.high.2.1,p.high.2.2.1,p.high.2.2.2,p.lock.1,p.lock.2.1,p.lock.2.2.1,p.lock.2.2.2,p.last.1,p.last.2.1,p.last.2.2.1,p.last.2.2.2,(p.row.length:Int)]:List Int)=[p.id] ++ [p.view] ++ [p.high.1,p.high.2.1,p.high.2.2.1,p.high.2.2.2] ++ [p.lock.1,p.lock.2.1,p.lock.2.2.1,p.lock.2.2.2] ++ [p.last.1,p.last.2.1,p.last.2.2.1,p.last.2.2.2] ++ [(p.row.length:Int)] from rfl];rw [zJC,zJI,zJI,zJI,zJC,catV_one]
theorem yAG.fit (h:yAG p):fitP p:=by
 have g:∀ n,n∈xK p->n<=9223372036854775807:=fun n hn=>by have:=(h.nums n hn).2;omega
 exact ⟨g _ (by simp [xK]),g _ (by simp [xK]),⟨g _ (by simp [xK]),g _ (by simp [xK]),g _ (by simp [xK]),g _ (by simp [xK])⟩,⟨g _ (by simp [xK]),g _ (by simp [xK]),g _ (by simp [xK]),g _ (by simp [xK])⟩,⟨g _ (by simp [xK]),g _ (by simp [xK]),g _ (by simp [xK]),g _ (by simp [xK])⟩,fun n hn=>g n (List.mem_append_right _ hn),by have:=h.len;omega⟩
theorem yAG.small (h:yAG p):(zGB p).size<=20000:=by
 have:=keptTo_size h.fit p.row.length (nl _);have:=h.len;unfold zGB;omega
def jO (p:PE):PE:=⟨p.id,p.view,p.high,p.lock,p.last,p.row,[],[],[],[],[],0⟩
theorem keptP_ok (h:yAG p):yAG (jO p):=⟨h.nums,h.len⟩
theorem keptP_tx (p:PE):zGB (jO p)=zGB p:=rfl
theorem sealT_is {s:ByteArray} (h:s.size<=20000):sealT s=s ++ strOfNums (yFE (sumT s)):=if_pos h
theorem sread_in (s:ByteArray) (a:Nat) (w:World) (hs:(s.size:Int)<=1048576) (ha:(a:Int)<=s.size) :
  Calls prog 233 #[.string s,I U a] w fun e w'=>e=.returned (tri (rvAt s a 0 1 a))/\Be w w':=by
 have ag:inB a 0 s.size=true:=kY ⟨by omega,ha⟩;go_enter func233,ntmps233;go_wp2_with (go_at_call 42;refine (yS _ _ _ _).mono ?_;rintro e w' ⟨rfl,hw⟩;obtain rfl:=hw.symm;clear hw)
 go_loop [7,8,9] (fun n sc i=>∃ (N SC:Int) (j:Nat),n=I U N/\sc=I U SC/\i=I U j/\a<=j/\j<=a+5/\j<=s.size/\0<=N/\N < SC/\scOk SC (j - a)/\segOk s a j N/\Hid (rvAt s a 0 1 a=rvAt s a N SC j)) (fun _ _ i=>s.size - (intOf i).toNat)
 case atStart=>exact ⟨0,1,a,rfl,rfl,rfl,by omega,by omega,by omega,by omega,by omega,by simp [scOk],segOk_start s a,rfl⟩
 case round=>
   obtain ⟨N,SC,j,rfl,rfl,rfl,g,ah,v,af,t,f,c,HR⟩:=hrel
   by_cases hj:(j:Int) < s.size/\(j:Int) < a+5
   ·obtain ⟨ac,z⟩:=hj;have d:j < s.size:=by omega
    have hb:=byte_le s[j];obtain ⟨m,l⟩:=sc_bd f (by omega);obtain ⟨r,y,aa⟩:=mul_bd (b:=(s[j].toNat:Int)) m l
    by_cases h127:127 < (s[j].toNat:Int)
    ·have HG:Hid (rvAt s a N SC j=_):=rvAt_go s a N SC j d (by omega) h127;go_wp2
     go_round
     case rel=>exact ⟨N+(s[j].toNat:Int) % 128 * SC,SC * 128,j+1,rfl,rfl,by go_num,by omega,by omega,by omega,by omega,by omega,by rw [show j+1 - a=(j - a)+1 by omega];exact sc_next f,segOk_next c g d f h127,HR.trans HG⟩
     case measure=>simp [intOf];omega
    ·by_cases hx:1000000000 < N+(s[j].toNat:Int) % 128 * SC
     ·have HG:Hid (rvAt s a N SC j=_):=rvAt_no s a N SC j d (by omega) (by omega) (.inl hx);go_wp2
      go_quiet (fail)
      go_wp2
      go_ret3
      exact ⟨ret_tri (HR.trans HG),below_drewN (br _ _) _⟩
     ·have p:decide (1000000000 < N+(s[j].toNat:Int) % 128 * SC)=false:=by simpa using hx
      go_wp2;have ae:=yX w;have ab:(0:Int)<=(a:Int):=by omega
      have o:(a:Int)<=(j:Int)+1:=by omega
      have ad:(j:Int)+1<=(s.size:Int):=by omega
      refine rb ?_;repeat (go_big_quiet_step (refine xX (var_any _ _ (by omega) (by omega))))
      refine qnn fun x=>?_
      go_wp2
      ·go_ret3
       have ht:=same_bytes s a j N SC g d f c.1 c.2 (by omega);have hq:(!(strOfNums (vbs (N+(s[j].toNat:Int) % 128 * SC))).toList == (s.extract a (j+1)).toList)=true:=by assumption
       rw [ht] at hq;have k:(s[j].toNat:Int)=0/\a < j:=by simpa using hq
       exact ⟨ret_tri (HR.trans (rvAt_no s a N SC j d (by omega) (by omega) (.inr k))),x.below⟩
      ·go_ret3
       have ht:=same_bytes s a j N SC g d f c.1 c.2 (by omega);have hq:(!(strOfNums (vbs (N+(s[j].toNat:Int) % 128 * SC))).toList == (s.extract a (j+1)).toList)=false:=by assumption
       rw [ht] at hq;have k:¬ ((s[j].toNat:Int)=0/\a < j):=by simpa using hq
       exact ⟨ret_tri (HR.trans (rvAt_yes s a N SC j d (by omega) (by omega) (by rintro (h | h);omega;exact k h))),x.below⟩
   ·have HG:Hid (rvAt s a N SC j=_):=rvAt_stop s a N SC j (by omega)
    by_cases hjs:(j:Int) < s.size
    all_goals
     go_wp2
     go_ret3
     exact ⟨ret_tri (HR.trans HG),br _ _⟩
theorem sread_out (s:ByteArray) (a:Int) (w:World) (_hs:(s.size:Int)<=1048576) (h:¬ (0<=a/\a<=s.size)) :
  Calls prog 233 #[.string s,I U a] w fun e w'=>e=.returned (tri (0,0,false))/\w'=w:=by
 have b:inB a 0 s.size=false:=zAB h;clear h;go_enter func233,ntmps233;go_wp2_with (go_at_call 42;refine (yS _ _ _ _).mono ?_;rintro e w' ⟨rfl,hw⟩;obtain rfl:=hw.symm;clear hw)
 go_ret3
 exact ⟨rfl,rfl⟩
theorem sread (s:ByteArray) (a:Int) (w:World) (hs:(s.size:Int)<=1048576) :
  Calls prog 233 #[.string s,I U a] w fun e w'=>e=.returned (tri (rvOf s a))/\Be w w':=by
 unfold rvOf
 by_cases h:0<=a/\a<=s.size
 ·rw [if_pos h];obtain ⟨n,rfl⟩:=Int.eq_ofNat_of_zero_le h.1;rw [Int.toNat_natCast];exact sread_in s n w hs h.2
 ·rw [if_neg h];exact (sread_out s a w hs h).mono fun e w' ⟨he,hw⟩=>⟨he,hw ▸ br _ _⟩
theorem sread_eq (s:ByteArray) (a:Int) (w:World) (hs:(s.size:Int)<=1048576) (n x:Int) (b:Bool) (h:rvOf s a=(n,x,b)) :
  Calls prog 233 #[.string s,I U a] w fun e w'=>e=.returned (.tuple #[I U n,I U x,.bool b])/\Be w w':=by
 have:=sread s a w hs;rw [h] at this;exact this
def zFF (C:Nat) (t:ByteArray) (r:RD) (w:World):Prop:=Bx w C #[.string t,I U r.1,.bool r.2] 249
theorem zFF.cells (h:zFF C t r w):w.cell? ⟨C,0,Aa⟩=Ab (.string t)/\w.cell? ⟨C,1,Aa⟩=Ab (I U r.1)/\w.cell? ⟨C,2,Aa⟩=Ab (.bool r.2):=by
 refine ⟨?_,?_,?_⟩
 ·rw [cell_of_row w C 0 _ _ (0,0) h];rfl
 ·rw [cell_of_row w C 1 _ _ (0,0) h];rfl
 ·rw [cell_of_row w C 2 _ _ (0,0) h];rfl
theorem zFF.lt (h:zFF C t r w):C < w.heap.size:=(gl h)
theorem zFF.below {w':World} (h:zFF C t r w) (hb:Be w w'):zFF C t r w':=(hb.block _ h.lt).trans h
theorem rdV_s (h:zFF C t r w) (ht:(t.size:Int)<=1048576) :
  Calls prog 211 #[.pointer (Ab ⟨C,0,Aa⟩)] w fun e w'=>e=.returned (I U (rdV t r).1)/\zFF C t (rdV t r).2 w'/\w.grownBy w' (some C):=by
 obtain ⟨a,d⟩:=r;have H:=hid h;have j:=h.lt;obtain ⟨⟨N,X,ok⟩,hr⟩:=nw (rvOf t a);have HR:Hid (rvOf t a=(N,X,ok)):=hr.symm;have HQ:Hid (∀ x:Bw w,Calls prog 233 #[.string t,I U a] x.to fun e w'=>e=.returned (.tuple #[I U N,I U X,.bool ok])/\Below x.to.heap.size x.to w'):=fun x=>sread_eq t a x.to ht N X ok HR
 have f:=yX w;have y0:∀ x:Bw w,x.to.cell? ⟨C,0,Aa⟩=Ab (.string t):=fun x=>(H.below x.below).cells.1
 have y1:∀ x:Bw w,x.to.cell? ⟨C,1,Aa⟩=Ab (I U a):=fun x=>(H.below x.below).cells.2.1
 clear h hr;go_enter func211,ntmps211;go_wp2;refine rb ?_;repeat (go_big_quiet_step (refine xX (HQ _)))
 refine qnn fun x=>?_
 obtain ⟨w1,b⟩:=nw x.to;have H1:Hid (zFF C t (a,d) w1):=hid (by rw [b];exact H.out.below x.below);have c:Hid (Be w w1):=hid (by rw [b];exact x.below);have i:=H1.lt;rw [<- b];clear y0 y1 f b;obtain ⟨c0,c1,c2⟩:=H1.cells;simp only at c1 c2;have f1:w1.frozen? ⟨C,1,Aa⟩=false:=frozen_of_row _ C 1 _ _ H1;have f2:w1.frozen? ⟨C,2,Aa⟩=false:=frozen_of_row _ C 2 _ _ H1
 by_cases hb:d=true
 ·subst hb;have HE:Hid (rdV t (a,true)=(0,(a,true))):=rdV_bad rfl;have hk:(w1.setCell ⟨C,2,Aa⟩ (.bool true)).heap[C]?=Ab (.cells #[.string t,I U a,.bool true] 249 (0,0)):=heap_setCell_same w1 C 2 _ _ _ H1;have HK:=hid hk;have HG:Hid (w1.grownBy (w1.setCell ⟨C,2,Aa⟩ (.bool true)) (some C)):=yK _ C 2 _;clear hk;go_wp2;go_ret;exact ⟨by rw [HE.out];rfl,by rw [HE.out];exact HK.out,zP (zGA (qR c)) HG⟩
 ·have g:d=false:=by simpa using hb
  subst g
  cases ok with
  | false=>
   have HE:Hid (rdV t (a,false)=(0,(a,true))):=rdV_no (by rw [HR.out]);have hk:(w1.setCell ⟨C,2,Aa⟩ (.bool true)).heap[C]?=Ab (.cells #[.string t,I U a,.bool true] 249 (0,0)):=heap_setCell_same w1 C 2 _ _ _ H1;have HK:=hid hk;have HG:Hid (w1.grownBy (w1.setCell ⟨C,2,Aa⟩ (.bool true)) (some C)):=yK _ C 2 _;clear hk;go_wp2;go_ret;exact ⟨by rw [HE.out];rfl,by rw [HE.out];exact HK.out,zP (zGA (qR c)) HG⟩
  | true=>
   have HE:Hid (rdV t (a,false)=(N,(X,false))):=hid (by rw [rdV_yes rfl (by rw [HR.out]),HR.out]);have hk:(w1.setCell ⟨C,1,Aa⟩ (I U X)).heap[C]?=Ab (.cells #[.string t,I U X,.bool false] 249 (0,0)):=heap_setCell_same w1 C 1 _ _ _ H1;have HK:=hid hk;have HG:Hid (w1.grownBy (w1.setCell ⟨C,1,Aa⟩ (I U X)) (some C)):=yK _ C 1 _;clear hk;go_wp2;go_ret;exact ⟨by rw [HE.out];rfl,by rw [HE.out];exact HK.out,zP (zGA (qR c)) HG⟩
theorem four_one (a b c d:Int):(#[Value.int U a,I U b,I U c,I U d]).all (·.oneCell')=true:=by simp [Value.oneCell']
theorem zCD {w1 w2:World} {r:Option Nat} {N:Nat} (h:w.grownBy w1 r) (hN:w.heap.size<=N) (k:w1.grownBy w2 (some N)):w.grownBy w2 r:=
 ⟨k.os.trans h.os,k.tape.trans h.tape,k.output.trans h.output,Nat.le_trans h.size k.size,fun i hi hr=>(k.block i (Nat.lt_of_lt_of_le hi h.size) (qsn (by omega))).trans (h.block i hi hr)⟩
theorem rdQ_s (h:zFF C t r w) (ht:(t.size:Int)<=1048576) :
  Calls prog 212 #[.pointer (Ab ⟨C,0,Aa⟩)] w fun e w'=>e=.returned (zBF (rd4 t r).1)/\zFF C t (rd4 t r).2 w'/\w.grownBy w' (some C):=by
 have H:=hid h;have an:=h.lt;clear h;obtain ⟨⟨n0,r1⟩,o⟩:=nw (rdV t r);obtain ⟨⟨n1,r2⟩,y⟩:=nw (rdV t r1);obtain ⟨⟨n2,r3⟩,x⟩:=nw (rdV t r2);obtain ⟨⟨n3,r4⟩,s⟩:=nw (rdV t r3);have HE:Hid (rd4 t r=((n0,n1,n2,n3),r4)):=hid (by unfold rd4;rw [<- o];simp only;rw [<- y];simp only;rw [<- x];simp only;rw [<- s]);have R1:Hid (rdV t r=(n0,r1)):=o.symm;have R2:Hid (rdV t r1=(n1,r2)):=y.symm;have R3:Hid (rdV t r2=(n2,r3)):=x.symm;have R4:Hid (rdV t r3=(n3,r4)):=s.symm;clear o y x s;obtain ⟨W0,k⟩:=nw (w.alloc (.cells #[I U 0,I U 0,I U 0,I U 0] 26));have ag:Hid (Be w W0):=hid (by rw [k];exact (br _ _).alloc (nl _) _);have ae:Hid (Bx W0 w.heap.size #[I U 0,I U 0,I U 0,I U 0] 26):=(by rw [k];exact heap_alloc_new w _:W0.heap[w.heap.size]?=_);have l0:w.heap.size < W0.heap.size:=(gl ae);go_enter func212,ntmps212;go_wp2_with fail
 rw [<- k];clear k;refine (rdV_s (H.below ag) ht).mono ?_;rintro e w1 ⟨rfl,hA,hg⟩;rw [R1.out] at hA ⊢;simp only at hA ⊢;obtain ⟨W2,l⟩:=nw (w1.alloc (.cells #[I U n0,I U 0,I U 0,I U 0] 26));have f:Be w1 W2:=by rw [l];exact (br _ _).alloc (nl _) _
 have ac:Hid (Bx W2 w1.heap.size #[I U n0,I U 0,I U 0,I U 0] 26):=(by rw [l];exact heap_alloc_new w1 _:W2.heap[w1.heap.size]?=_);have A0:Hid (zFF C t r1 W2):=hA.below f;have E0:Hid (Bx W2 w.heap.size #[I U 0,I U 0,I U 0,I U 0] 26):=(f.block _ (by have:=hg.size;omega)).trans ((hg.block _ l0 (qsn (by omega))).trans ae);have G0:Hid (w.grownBy W2 (some C)):=zP (zGA (qR ag)) (zP hg (zGA (qR f)));have hX:w.heap.size < w1.heap.size:=by have:=hg.size;omega
 obtain ⟨X,p⟩:=nw w1.heap.size;rw [<- p] at ac hX;clear hA hg f;go_wp2_with fail
 rw [<- l,<- p];clear l p;refine (rdV_s A0.out ht).mono ?_;rintro e v1 ⟨rfl,hA,hg⟩;rw [R2.out] at hA ⊢;simp only at hA ⊢;have i:Bx v1 X #[I U n0,I U 0,I U 0,I U 0] 26:=gk hg ac.out (qsn (by omega));have ad:Bx v1 w.heap.size #[I U 0,I U 0,I U 0,I U 0] 26:=gk hg E0.out (qsn (by omega));obtain ⟨V1,c⟩:=nw (v1.setCell ⟨X,1,Aa⟩ (I U n1));have n:v1.grownBy V1 (some X):=by rw [c];exact yK _ X 1 _
 have al:Hid (Bx V1 X #[I U n0,I U n1,I U 0,I U 0] 26):=(by rw [c];exact heap_setCell_same v1 X 1 _ _ _ i:V1.heap[X]?=_);have A1:Hid (zFF C t r2 V1):=(n.block _ hA.lt (qsn (by omega))).trans hA;have E1:Hid (Bx V1 w.heap.size #[I U 0,I U 0,I U 0,I U 0] 26):=gk n ad (qsn (by omega));have G1:Hid (w.grownBy V1 (some C)):=zCD (zP G0.out hg) (by omega) n;have a1:v1.cell? ⟨X,1,Aa⟩=Ab (I U 0):=by rw [cell_of_row v1 X 1 _ _ (0,0) i];rfl
 have b1:v1.frozen? ⟨X,1,Aa⟩=false:=frozen_of_row _ X 1 _ _ i;clear hA hg i ad n;go_wp2_with fail
 rw [<- c];clear c a1 b1;refine (rdV_s A1.out ht).mono ?_;rintro e v2 ⟨rfl,hA,hg⟩;rw [R3.out] at hA ⊢;simp only at hA ⊢;have m:Bx v2 X #[I U n0,I U n1,I U 0,I U 0] 26:=gk hg al.out (qsn (by omega));have af:Bx v2 w.heap.size #[I U 0,I U 0,I U 0,I U 0] 26:=gk hg E1.out (qsn (by omega));obtain ⟨V2,j⟩:=nw (v2.setCell ⟨X,2,Aa⟩ (I U n2));have g:v2.grownBy V2 (some X):=by rw [j];exact yK _ X 2 _
 have am:Hid (Bx V2 X #[I U n0,I U n1,I U n2,I U 0] 26):=(by rw [j];exact heap_setCell_same v2 X 2 _ _ _ m:V2.heap[X]?=_);have A2:Hid (zFF C t r3 V2):=(g.block _ hA.lt (qsn (by omega))).trans hA;have E2:Hid (Bx V2 w.heap.size #[I U 0,I U 0,I U 0,I U 0] 26):=gk g af (qsn (by omega));have G2:Hid (w.grownBy V2 (some C)):=zCD (zP G1.out hg) (by omega) g;have a2:v2.cell? ⟨X,2,Aa⟩=Ab (I U 0):=by rw [cell_of_row v2 X 2 _ _ (0,0) m];rfl
 have b2:v2.frozen? ⟨X,2,Aa⟩=false:=frozen_of_row _ X 2 _ _ m;clear hA hg m af g;go_wp2_with fail
 rw [<- j];clear j a2 b2;refine (rdV_s A2.out ht).mono ?_;rintro e v3 ⟨rfl,hA,hg⟩;rw [R4.out] at hA ⊢;simp only at hA ⊢;have b:Bx v3 X #[I U n0,I U n1,I U n2,I U 0] 26:=gk hg am.out (qsn (by omega));have ab:Bx v3 w.heap.size #[I U 0,I U 0,I U 0,I U 0] 26:=gk hg E2.out (qsn (by omega));obtain ⟨V3,a⟩:=nw (v3.setCell ⟨X,3,Aa⟩ (I U n3));have d:v3.grownBy V3 (some X):=by rw [a];exact yK _ X 3 _
 have aj:Hid (Bx V3 X #[I U n0,I U n1,I U n2,I U n3] 26):=(by rw [a];exact heap_setCell_same v3 X 3 _ _ _ b:V3.heap[X]?=_);have A3:Hid (zFF C t r4 V3):=(d.block _ hA.lt (qsn (by omega))).trans hA;have E3:Hid (Bx V3 w.heap.size #[I U 0,I U 0,I U 0,I U 0] 26):=gk d ab (qsn (by omega));have G3:Hid (w.grownBy V3 (some C)):=zCD (zP G2.out hg) (by omega) d;have a3:v3.cell? ⟨X,3,Aa⟩=Ab (I U 0):=by rw [cell_of_row v3 X 3 _ _ (0,0) b];rfl
 have b3:v3.frozen? ⟨X,3,Aa⟩=false:=frozen_of_row _ X 3 _ _ b;clear hA hg b ab d;obtain ⟨k0,k1,k2,k3⟩:=zZ aj.out;have ak:Hid ((v3.setCell ⟨X,3,Aa⟩ (I U n3)).heap[w.heap.size]?=Ab (.cells #[I U 0,I U 0,I U 0,I U 0] 26 (0,0))):=(by rw [<- a];exact E3.out:(v3.setCell ⟨X,3,Aa⟩ (I U n3)).heap[w.heap.size]?=_);rw [a] at k0 k1 k2 k3;go_wp2_with (refine w_st w.heap.size #[I U n0,I U n1,I U n2,I U n3] ak (four_one _ _ _ _) ?_;intro wg ah z ai;clear ai;have aa:Hid (V3.grownBy wg (some w.heap.size)):=hid (by rw [a];exact ah);obtain ⟨m0,m1,m2,m3⟩:=zZ z;clear ah z)
 refine bodyPost_ret (v:=.agg #[I U n0,I U n1,I U n2,I U n3]) (by simp [results,results212,go_sem,m0,m1,m2,m3]) rfl ?_;rw [HE.out];exact ⟨rfl,(aa.block _ A3.out.lt (qsn (by omega))).trans A3.out,zCD G3.out (nl _) aa⟩
theorem rdVote_s (h:zFF C t r w) (ht:(t.size:Int)<=1048576) :
  Calls prog 213 #[.pointer (Ab ⟨C,0,Aa⟩)] w fun e w'=>e=.returned (voteV (rd4 t r).1)/\zFF C t (rd4 t r).2 w'/\w.grownBy w' (some C):=by
 have H:=hid h;have an:=h.lt;clear h;obtain ⟨⟨n0,r1⟩,o⟩:=nw (rdV t r);obtain ⟨⟨n1,r2⟩,y⟩:=nw (rdV t r1);obtain ⟨⟨n2,r3⟩,x⟩:=nw (rdV t r2);obtain ⟨⟨n3,r4⟩,s⟩:=nw (rdV t r3);have HE:Hid (rd4 t r=((n0,n1,n2,n3),r4)):=hid (by unfold rd4;rw [<- o];simp only;rw [<- y];simp only;rw [<- x];simp only;rw [<- s]);have R1:Hid (rdV t r=(n0,r1)):=o.symm;have R2:Hid (rdV t r1=(n1,r2)):=y.symm;have R3:Hid (rdV t r2=(n2,r3)):=x.symm;have R4:Hid (rdV t r3=(n3,r4)):=s.symm;clear o y x s;obtain ⟨W0,k⟩:=nw (w.alloc (.cells #[I U 0,I U 0,I U 0,I U 0] 28));have ag:Hid (Be w W0):=hid (by rw [k];exact (br _ _).alloc (nl _) _);have ae:Hid (Bx W0 w.heap.size #[I U 0,I U 0,I U 0,I U 0] 28):=(by rw [k];exact heap_alloc_new w _:W0.heap[w.heap.size]?=_);have l0:w.heap.size < W0.heap.size:=(gl ae);go_enter func213,ntmps213;go_wp2_with fail
 rw [<- k];clear k;refine (rdV_s (H.below ag) ht).mono ?_;rintro e w1 ⟨rfl,hA,hg⟩;rw [R1.out] at hA ⊢;simp only at hA ⊢;obtain ⟨W2,l⟩:=nw (w1.alloc (.cells #[I U n0,I U 0,I U 0,I U 0] 28));have f:Be w1 W2:=by rw [l];exact (br _ _).alloc (nl _) _
 have ac:Hid (Bx W2 w1.heap.size #[I U n0,I U 0,I U 0,I U 0] 28):=(by rw [l];exact heap_alloc_new w1 _:W2.heap[w1.heap.size]?=_);have A0:Hid (zFF C t r1 W2):=hA.below f;have E0:Hid (Bx W2 w.heap.size #[I U 0,I U 0,I U 0,I U 0] 28):=(f.block _ (by have:=hg.size;omega)).trans ((hg.block _ l0 (qsn (by omega))).trans ae);have G0:Hid (w.grownBy W2 (some C)):=zP (zGA (qR ag)) (zP hg (zGA (qR f)));have hX:w.heap.size < w1.heap.size:=by have:=hg.size;omega
 obtain ⟨X,p⟩:=nw w1.heap.size;rw [<- p] at ac hX;clear hA hg f;go_wp2_with fail
 rw [<- l,<- p];clear l p;refine (rdV_s A0.out ht).mono ?_;rintro e v1 ⟨rfl,hA,hg⟩;rw [R2.out] at hA ⊢;simp only at hA ⊢;have i:Bx v1 X #[I U n0,I U 0,I U 0,I U 0] 28:=gk hg ac.out (qsn (by omega));have ad:Bx v1 w.heap.size #[I U 0,I U 0,I U 0,I U 0] 28:=gk hg E0.out (qsn (by omega));obtain ⟨V1,c⟩:=nw (v1.setCell ⟨X,1,Aa⟩ (I U n1));have n:v1.grownBy V1 (some X):=by rw [c];exact yK _ X 1 _
 have al:Hid (Bx V1 X #[I U n0,I U n1,I U 0,I U 0] 28):=(by rw [c];exact heap_setCell_same v1 X 1 _ _ _ i:V1.heap[X]?=_);have A1:Hid (zFF C t r2 V1):=(n.block _ hA.lt (qsn (by omega))).trans hA;have E1:Hid (Bx V1 w.heap.size #[I U 0,I U 0,I U 0,I U 0] 28):=gk n ad (qsn (by omega));have G1:Hid (w.grownBy V1 (some C)):=zCD (zP G0.out hg) (by omega) n;have a1:v1.cell? ⟨X,1,Aa⟩=Ab (I U 0):=by rw [cell_of_row v1 X 1 _ _ (0,0) i];rfl
 have b1:v1.frozen? ⟨X,1,Aa⟩=false:=frozen_of_row _ X 1 _ _ i;clear hA hg i ad n;go_wp2_with fail
 rw [<- c];clear c a1 b1;refine (rdV_s A1.out ht).mono ?_;rintro e v2 ⟨rfl,hA,hg⟩;rw [R3.out] at hA ⊢;simp only at hA ⊢;have m:Bx v2 X #[I U n0,I U n1,I U 0,I U 0] 28:=gk hg al.out (qsn (by omega));have af:Bx v2 w.heap.size #[I U 0,I U 0,I U 0,I U 0] 28:=gk hg E1.out (qsn (by omega));obtain ⟨V2,j⟩:=nw (v2.setCell ⟨X,2,Aa⟩ (I U n2));have g:v2.grownBy V2 (some X):=by rw [j];exact yK _ X 2 _
 have am:Hid (Bx V2 X #[I U n0,I U n1,I U n2,I U 0] 28):=(by rw [j];exact heap_setCell_same v2 X 2 _ _ _ m:V2.heap[X]?=_);have A2:Hid (zFF C t r3 V2):=(g.block _ hA.lt (qsn (by omega))).trans hA;have E2:Hid (Bx V2 w.heap.size #[I U 0,I U 0,I U 0,I U 0] 28):=gk g af (qsn (by omega));have G2:Hid (w.grownBy V2 (some C)):=zCD (zP G1.out hg) (by omega) g;have a2:v2.cell? ⟨X,2,Aa⟩=Ab (I U 0):=by rw [cell_of_row v2 X 2 _ _ (0,0) m];rfl
 have b2:v2.frozen? ⟨X,2,Aa⟩=false:=frozen_of_row _ X 2 _ _ m;clear hA hg m af g;go_wp2_with fail
 rw [<- j];clear j a2 b2;refine (rdV_s A2.out ht).mono ?_;rintro e v3 ⟨rfl,hA,hg⟩;rw [R4.out] at hA ⊢;simp only at hA ⊢;have b:Bx v3 X #[I U n0,I U n1,I U n2,I U 0] 28:=gk hg am.out (qsn (by omega));have ab:Bx v3 w.heap.size #[I U 0,I U 0,I U 0,I U 0] 28:=gk hg E2.out (qsn (by omega));obtain ⟨V3,a⟩:=nw (v3.setCell ⟨X,3,Aa⟩ (I U n3));have d:v3.grownBy V3 (some X):=by rw [a];exact yK _ X 3 _
 have aj:Hid (Bx V3 X #[I U n0,I U n1,I U n2,I U n3] 28):=(by rw [a];exact heap_setCell_same v3 X 3 _ _ _ b:V3.heap[X]?=_);have A3:Hid (zFF C t r4 V3):=(d.block _ hA.lt (qsn (by omega))).trans hA;have E3:Hid (Bx V3 w.heap.size #[I U 0,I U 0,I U 0,I U 0] 28):=gk d ab (qsn (by omega));have G3:Hid (w.grownBy V3 (some C)):=zCD (zP G2.out hg) (by omega) d;have a3:v3.cell? ⟨X,3,Aa⟩=Ab (I U 0):=by rw [cell_of_row v3 X 3 _ _ (0,0) b];rfl
 have b3:v3.frozen? ⟨X,3,Aa⟩=false:=frozen_of_row _ X 3 _ _ b;clear hA hg b ab d;obtain ⟨k0,k1,k2,k3⟩:=zZ aj.out;have ak:Hid ((v3.setCell ⟨X,3,Aa⟩ (I U n3)).heap[w.heap.size]?=Ab (.cells #[I U 0,I U 0,I U 0,I U 0] 28 (0,0))):=(by rw [<- a];exact E3.out:(v3.setCell ⟨X,3,Aa⟩ (I U n3)).heap[w.heap.size]?=_);rw [a] at k0 k1 k2 k3;go_wp2_with (refine w_st w.heap.size #[I U n0,I U n1,I U n2,I U n3] ak (four_one _ _ _ _) ?_;intro wg ah z ai;clear ai;have aa:Hid (V3.grownBy wg (some w.heap.size)):=hid (by rw [a];exact ah);obtain ⟨m0,m1,m2,m3⟩:=zZ z;clear ah z)
 refine bodyPost_ret (v:=.agg #[I U n0,I U n1,I U n2,I U n3]) (by simp [results,results213,go_sem,m0,m1,m2,m3]) rfl ?_;rw [HE.out];exact ⟨rfl,(aa.block _ A3.out.lt (qsn (by omega))).trans A3.out,zCD G3.out (nl _) aa⟩
def sealedT (s:ByteArray):ByteArray:=s ++ strOfNums (yFE (sumT s))
theorem bs_append (a b:ByteArray):bs (a ++ b)=bs a ++ bs b:=by
 simp [bs,ByteArray.data_append]
theorem sealedT_size (s:ByteArray):(sealedT s).size=s.size+4:=by
 unfold sealedT;rw [ByteArray.size_append,strOfNums_size];rfl
theorem sealedT_bs (s:ByteArray):bs (sealedT s)=bs s ++ yFE (sums 4294967295 (bs s)):=by
 unfold sealedT;rw [bs_append,bs_str _ (seal4_ok (sumT_lt s))];rfl
theorem bs_inj {a b:ByteArray} (h:bs a=bs b):a=b:=by rw [<- str_bs a,<- str_bs b,h]
theorem sealedT_back (s:ByteArray):(sealedT s).extract 0 s.size=s:=by
 apply bs_inj
 rw [bs_extract,sealedT_bs,List.drop_zero,List.take_left' (zDC s)]
theorem sealedT_right (s:ByteArray):sealRight (sealedT s) s.size:=by
 unfold sealRight;rw [sealedT_back]
 apply bs_inj
 rw [bs_extract,sealedT_bs,bs_str _ (seal4_ok (sumT_lt s)),List.take_of_length_le (by rw [List.length_append,zDC,sealedT_size];exact nl _),List.drop_left' (zDC s)]
 rfl
section
variable {P:Program} {ops:Array Oper} {Q:Exit->Act->World->Prop} {md:Region.Mode} {C:World->Prop} {pend:Nat->Bool}
theorem p_three {i j f:Nat} {L:Array Bool} (hr:Region.ready md ops L=[i,j,k]) (h1:StepP P md ops Q C pend f L a w i) (h2:StepP P md ops Q C pend f L a w j) (h3:StepP P md ops Q C pend f L a w k):zX P md ops Q C pend (f+1) L a w:=by
 refine ⟨fun h0=>(by rw [hr] at h0;cases h0),fun m hm=>?_⟩;rw [hr] at hm
 rcases List.mem_cons.1 hm with rfl | hm
 ·exact h1
 ·rcases List.mem_cons.1 hm with rfl | hm
  ·exact h2
  ·obtain rfl:m=k:=by simpa using hm
   exact h3
theorem zEA {s:Nat} {e':Option Tmp} {oc:Oper} {f:Nat} {L:Array Bool} {fn:FuncId} {args:Array Value} (hc:ops[s]?=some oc) (hce:oc.dst=e')
  (hw:Region.wanted oc (yielded ops a.tmps)=true) (hrun:(execOp a.eval oc).run P w=.ok (.enter fn args) w)
  (h:Calls P fn args w fun e w'=>∃ v,e=.returned v/\(pend s=true->C w')/\zX P md ops Q C pend f (L.setIfInBounds s true) (a.put e' v) w'):StepP P md ops Q C pend f L a w s:=by
 subst hce;exact yFG hc hw hrun h
theorem xB {op:Oper} (ty:TypeId) (x:Operand) (ho:op.op=.load ty x) (b o:Nat) (hx:a.eval x=.pointer (Ab ⟨b,o,Aa⟩)) (cs:List Value) (d:TypeDesc) (hS:w.rangeAt b o cs)
  (hu:P.underlying ty=some d) (hd:d.isRow=true) (hi:(P.info? ty).map (·.size)=some cs.length):(execOp a.eval op).run P w=.ok (.value (.agg cs.toArray)) w:=by
 unfold execOp;simp only [ho,hx,Instr.loadAt,Instr.sureAddr,Sem.run_bind,Sem.run_pure,Result.andThen_ok,run_loadVar_mid w b o ty cs d hS hu hd hi]
theorem ldm {op:Oper} {ty:TypeId} {x:Operand} {d:TypeDesc} (b o:Nat) (cs:List Value) (hS:w.rangeAt b o cs) (hu:P.underlying ty=some d)
  (ho:op.op=.load ty x:=by exact rfl) (hx:a.eval x=.pointer (Ab ⟨b,o,Aa⟩):=by exact rfl) (hd:d.isRow=true:=by exact rfl) (hi:(P.info? ty).map (·.size)=some cs.length:=by kernel_rfl):(execOp a.eval op).run P w=.ok (.value (.agg cs.toArray)) w:=xB ty x ho b o hx cs d hS hu hd hi
end
end Go.Proofs.YtfnneillakdopadGreat
