/-
 Parts.
-/
import Derived.Lib.ItoaNum
import Derived.Lib.ItoaLen
import Derived.Laws.BytesArg
import Derived.Test.YtdbaabbmcfnjbaaGreatDoorDPA
import Derived.Sort.Statements
import Derived.Test.YtdbaabbmcfnjbaaGreatDoorDKM
import Derived.Deep.Onto
import Derived.Deep.CutBlock
set_option maxHeartbeats 4000000
set_option maxRecDepth 10000
set_option linter.all false
namespace Go.Proofs.YtdbaabbmcfnjbaaGreatDoor
open Go.ChangeShapes Go.WideShapes Go.ChangeAt Go.RowKit Go.PlainAid Go.Lib Go.Shelf Tryz
open Go.Sort hiding Below
variable {B N k n p:Nat}
theorem QdL (h:¬ n<10):Lib.decDigits n=Lib.decDigits (n / 10) ++ [UInt8.ofNat (48+n % 10)]:=by
 rw [Lib.decDigits,dif_neg h]
def Qva (N m:Nat) (D:List UInt8):Prop:=(m=0->D=Lib.decDigits N)/\(m≠0->Lib.decDigits m ++ D=Lib.decDigits N)
variable {D:List UInt8}
theorem Qn5 {m:Nat} (h:Qva N m D) (hm:m≠0):Qva N (m / 10) (UInt8.ofNat (48+m % 10) :: D):=by
 have h2:=h.2 hm;by_cases k:m<10
 ·rw [Lib.decDigits_one k] at h2
  refine ⟨fun _=>by rw [Nat.mod_eq_of_lt k];exact h2,fun h0=>absurd (Nat.div_eq_of_lt k) h0⟩
 ·rw [QdL k,List.append_assoc] at h2
  exact ⟨fun h0=>by omega,fun _=>h2⟩
theorem QqD {m:Nat} (h:Qva N m D) (hN:(Lib.decDigits N).length<=21):D.length<=21:=by
 by_cases k:m=0
 ·rw [h.1 k];exact hN
 ·have:=congrArg List.length (h.2 k);simp at this;omega
theorem Qpc (N:Nat) (h:N<=9223372036854775807):(Lib.decDigits N).length<=21:=by
 have:=Lib.itoa_length_le (N:Int) (by omega) (by omega);have e:Lib.itoa (N:Int)=Lib.decDigits N:=by unfold Lib.itoa;rw [if_neg (by omega)];simp
 rw [e] at this;exact this
variable {a b key u:ByteArray}
theorem Qcy (h:a=b):Ending.returned (.string a)=.returned (.string b):=by rw [h]
theorem Qut (b:UInt8) (D:List UInt8):(⟨#[b]⟩:ByteArray) ++ ⟨D.toArray⟩=⟨(b :: D).toArray⟩:=by
 apply ByteArray.ext;rw [ByteArray.data_append];simp
def mtx (k:Nat):ByteArray:=⟨#[109]⟩ ++ ⟨(Lib.decDigits k).toArray⟩
def Qsy (u:ByteArray):List Value:=[.string u,.slice none 0 0]
theorem Qqp (u:ByteArray):∀ v∈Qsy u,v.oneCell'=true:=fun v hv=>by simp [Qsy] at hv;rcases hv with rfl | rfl <;> rfl
def OwnS (w:World) (B:Nat) (v:Value) (L:List ByteArray):Prop:=w.ownsRow B 60 2 v L.length (fl Qsy L)
variable {w:World}
variable {L:List ByteArray}
theorem OwnS.le {B':Nat} {v:Value} (h:OwnS w B v L) (hb:B'<=B):OwnS w B' v L:=by
 refine ⟨h.1,?_⟩;rcases h.2 with h | ⟨g,ab,aa,e,h1,h2⟩
 ·exact .inl h
 ·exact .inr ⟨g,ab,aa,e,Nat.le_trans hb h1,h2⟩
theorem Qfw (n lo hi:Int) (w:World):Calls prog 18 #[.int .i64 n,.int .i64 lo,.int .i64 hi] w fun e w'=>e=.returned (.bool (decide (lo<=n) && decide (n<=hi)))/\w'=w:=by
 by_cases h:lo<=n
 ·have h1:decide (lo<=n)=true:=ZZh h
  rw [h1];go_enter func18,ntmps18;go_wp2;go_ret;exact ⟨by simp,rfl⟩
 ·have h1:decide (lo<=n)=false:=ZZg h
  rw [h1];go_enter func18,ntmps18;go_wp2;go_ret;exact ⟨rfl,rfl⟩
def inB (n lo hi:Int):Bool:=decide (lo<=n) && decide (n<=hi)
def Qlv (a b c d:Int):Bool:=inB a 1 1000 && inB b 0 1000 && inB c 0 1000000000 && inB d 0 1000000000
def hx (s:ByteArray):Nat->Int
 | 0=>14695981039346656037
 | n+1=>IntKind.u64.wrap (bits BinOp.xor IntKind.u64 (hx s n) (bt s n)*1099511628211)
def Qbx (s:ByteArray):Int:=hx s s.size
def hashF (s:ByteArray):Int:=if s.size<=20000 then Qbx s else 0
theorem ret_u {a b:Int} (h:a=b):Ending.returned (.int .u64 a)=.returned (.int .u64 b):=by rw [h]
theorem hx_in (s:ByteArray):∀ n,0<=hx s n/\hx s n<=18446744073709551615
 | 0=>by unfold hx;omega
 | n+1=>by unfold hx;rw [IntKind.wrap_u64];omega
theorem Qtr (s:ByteArray) (k:Nat):IntKind.u64.wrap (bt s k)=bt s k:=by
 have h0:=bt_nonneg s k;have h1:=bt_le s k;rw [IntKind.wrap_u64];omega
theorem Qgk (s:ByteArray) (hs:s.size<=maxLen) (w:World) :
  Calls prog 13 #[.string s] w fun e w'=>e=.returned (.bool (decide (s.size<=20000)))/\w'=w:=by
 unfold maxLen at hs;have e:decide ((s.size:Int)<=20000)=decide (s.size<=20000):=decide_eq_decide.2 (by omega);go_enter func13,ntmps13;go_wp2;go_ret;exact ⟨rfl,rfl⟩
theorem QdO (s:ByteArray) (hs:s.size<=maxLen) (w:World) :
  Calls prog 81 #[.string s] w fun e w'=>e=.returned (.int .u64 (Qbx s))/\w'=w:=by
 unfold maxLen at hs;have ac:=get_bt s;go_enter func81,ntmps81;go_wp2
 go_loop [3,4] (fun h i=>∃ k:Nat,k<=s.size/\i=.int .i64 k/\h=.int .u64 (hx s k)) (fun h i=>s.size - (Go.RowKit.intOf i).toNat)
 case atStart=>exact ⟨0,ZZj _,rfl,rfl⟩
 case round=>
  obtain ⟨k,hk,rfl,rfl⟩:=hrel;by_cases ab:k<s.size
  ·have aa:=Qtr s k
   obtain ⟨B,hB⟩:∃ B,bt s k=B:=⟨_,rfl⟩;rw [hB] at aa;obtain ⟨H,hH⟩:∃ H,hx s k=H:=⟨_,rfl⟩;have HS:Hid (IntKind.u64.wrap (bits BinOp.xor IntKind.u64 H B*1099511628211)=hx s (k+1)):=by rw [<- hB,<- hH];rfl
   go_wp2
   go_round
   case rel=>exact ⟨k+1,by omega,by go_num,by rw [<- HS.out]⟩
   case measure=>simp [zI];omega
  ·have e:k=s.size:=by omega
   have HB:Hid (hx s k=Qbx s):=(by rw [e];rfl:hx s k=Qbx s);clear e;go_wp2;go_ret;exact ⟨ret_u HB,rfl⟩
abbrev Mk:=Int×ByteArray
def mle (a b:Mk):Prop:=a.1<b.1∨(a.1=b.1/\Qaz b.2 a.2=false)
theorem QjN {a b c:Mk} (h:mle a b) (k:mle b c):mle a c:=by
 rcases h with h | ⟨e,h⟩ <;> rcases k with k | ⟨e2,k⟩
 ·exact .inl (by omega)
 ·exact .inl (by omega)
 ·exact .inl (by omega)
 ·exact .inr ⟨by omega,Qkg h k⟩
theorem Qs5 {a b:Mk} (h:mle a b) (k:mle b a):a=b:=by
 rcases h with h | ⟨e,h⟩ <;> rcases k with k | ⟨e2,k⟩
 ·omega
 ·omega
 ·omega
 ·rcases QcH h with q | q
  ·rw [q] at k;cases k
  ·exact Prod.ext e q.symm
def mgt (a m:Mk):Bool:=decide (m.1<a.1) || (a.1 == m.1 && Qaz m.2 a.2)
variable {m:Mk}
theorem mgt_t {a:Mk} (h:mgt a m=true):mle m a:=by
 unfold mgt at h;simp only [Bool.or_eq_true,Bool.and_eq_true,decide_eq_true_eq,beq_iff_eq] at h;rcases h with h | ⟨e,h⟩
 ·exact .inl h
 ·exact .inr ⟨e.symm,Qeh h⟩
theorem mgt_f {a:Mk} (h:mgt a m=false):mle a m:=by
 unfold mgt at h;simp only [Bool.or_eq_false_iff,Bool.and_eq_false_iff,decide_eq_false_iff_not,beq_eq_false_iff_ne] at h;by_cases e:a.1=m.1
 ·exact .inr ⟨e,by rcases h.2 with q | q;exact absurd e q;exact q⟩
 ·exact .inl (by omega)
theorem QiO:∀ (l l':List Mk),l.Perm l'->l.Pairwise mle->l'.Pairwise mle->l=l'
 | [],l',h,_,_=>by simpa using h.symm
 | a :: l,[],h,_,_=>by simp at h
 | a :: l,b :: l',h,p,q=>by
  have e:a=b:=by
   have ha:a∈b :: l':=h.mem_iff.1 List.mem_cons_self;have hb:b∈a :: l:=h.mem_iff.2 List.mem_cons_self;rcases List.mem_cons.1 ha with e | ha
   ·exact e
   ·rcases List.mem_cons.1 hb with e | hb
    ·exact e.symm
    ·exact Qs5 ((List.pairwise_cons.1 p).1 b hb) ((List.pairwise_cons.1 q).1 a ha)
  subst e;rw [QiO l l' (List.Perm.cons_inv h) (List.pairwise_cons.1 p).2 (List.pairwise_cons.1 q).2]
variable {R:List Mk}
theorem Qmj (hR:R.Pairwise mle) (hn:n<=R.length) (hlo:n=0∨∃ a,R[n - 1]?=some a/\mle a m) (hhi:∀ j a,n<=j->R[j]?=some a->mle m a) :
  (R.take n ++ m :: R.drop n).Pairwise mle:=by
 have hp:(R.take n ++ R.drop n).Pairwise mle:=by rw [List.take_append_drop];exact hR
 obtain ⟨p1,p2,p3⟩:=List.pairwise_append.1 hp;refine List.pairwise_append.2 ⟨p1,List.pairwise_cons.2 ⟨fun a ha=>?_,p2⟩,fun a ha b hb=>?_⟩
 ·obtain ⟨j,hj⟩:=List.getElem?_of_mem ha
  rw [List.getElem?_drop] at hj;exact hhi (n+j) a (by omega) hj
 ·rcases List.mem_cons.1 hb with rfl | hb
  ·obtain ⟨j,hj⟩:=List.getElem?_of_mem ha
   have ac:=(ZZd.1 hj).1;rw [List.length_take] at ac;rw [List.getElem?_take,if_pos (by omega)] at hj;rcases hlo with h0 | ⟨c,hc,aa⟩
   ·omega
   ·by_cases e:j=n - 1
    ·rw [e,hc] at hj;obtain rfl:=Option.some.inj hj;exact aa
    ·have ab:=(ZZd.1 hc).1
     refine QjN ?_ aa;have:=List.pairwise_iff_getElem.1 hR j (n - 1) (by omega) ab (by omega);rw [(List.getElem?_eq_some_iff.1 hj).2,(List.getElem?_eq_some_iff.1 hc).2] at this;exact this
  ·exact p3 a ha b hb
theorem Qrt {α:Type} (R:List α) (m:α) (n:Nat):(R.take n ++ m :: R.drop n).Perm (R ++ [m]):=by
 have h1:(R.take n ++ m :: R.drop n).Perm (m :: (R.take n ++ R.drop n)):=List.perm_middle;rw [List.take_append_drop] at h1;exact h1.trans (List.perm_append_singleton m R).symm
def QcY (u:ByteArray) (k:Nat):ByteArray:=u ++ ⟨#[35]⟩ ++ ⟨(Lib.decDigits k).toArray⟩
def nth (L:List ByteArray) (p:Nat):ByteArray:=L.getD p ByteArray.empty
theorem Qlu (h:L[p]?=some u):nth L p=u:=by simp [nth,List.getD,h]
def atOf (L:List ByteArray) (j:Nat):Int:=Qbx (QcY (nth L (j / 8)) (j % 8))
def prOf (L:List ByteArray) (j:Nat):Int×Nat:=(atOf L j,j / 8)
def mkOf (L:List ByteArray) (j:Nat):Mk:=(atOf L j,nth L (j / 8))
def prs (L:List ByteArray) (m:Nat):List (Int×Nat):=(List.range m).map (prOf L)
def mks (L:List ByteArray) (m:Nat):List Mk:=(List.range m).map (mkOf L)
theorem Qb5 (L:List ByteArray) (m:Nat):mks L (m+1)=mks L m ++ [mkOf L m]:=by simp [mks,List.range_succ]
theorem QjY (L:List ByteArray) (m:Nat):(mks L m).length=m:=by simp [mks]
theorem at_eq (h:L[p]?=some u) (hk:k<8):atOf L (8*p+k)=Qbx (QcY u k):=by
 unfold atOf;rw [show (8*p+k) / 8=p by omega,show (8*p+k) % 8=k by omega,Qlu h]
theorem QhU (h:L[p]?=some u) (hk:k<8):mkOf L (8*p+k)=(Qbx (QcY u k),u):=by
 unfold mkOf;rw [at_eq h hk,show (8*p+k) / 8=p by omega,Qlu h]
def mkOfPr (L:List ByteArray) (x:Int×Nat):Mk:=(x.1,nth L x.2)
theorem decDig (k:Nat) (hk:k<8):(Lib.decDigits k).length=1:=by rw [Lib.decDigits_one (by omega)];rfl
def QfP (L:List ByteArray) (R:List Mk):Prop:=R.Perm (mks L (8*L.length))/\R.Pairwise mle
theorem QpY {R':List Mk} (h:QfP L R) (k:QfP L R'):R=R':=QiO _ _ (h.1.trans k.1.symm) h.2 k.2
theorem QlR (h:QfP L R):R.length=8*L.length:=by rw [h.1.length_eq,QjY]
theorem Qbp (h:Qaj L=true):1<=L.length/\L.length<=12:=by
 unfold Qaj at h;simp only [Bool.and_eq_true,decide_eq_true_eq] at h;exact ⟨h.1.1,h.1.2⟩
theorem Qon (h:Qaj L=true) (hk:k<L.length):okB L k=true:=by
 unfold Qaj at h;simp only [Bool.and_eq_true,decide_eq_true_eq] at h;exact QrF _ hk h.2
theorem QtI (h:okB L k=true) (hu:L[k]?=some u):QaK u=true:=by
 cases e:QaK u with
 | true=>rfl
 | false=>rw [okB_n hu e] at h;cases h
theorem Qcc (h:Qaj L=true) (hu:u∈L):QaK u=true:=by
 obtain ⟨k,hk⟩:=List.getElem?_of_mem hu;exact QtI (Qon h (ZZd.1 hk).1) hk
theorem QmF (h:QaK u=true):1<=u.size/\u.size<=40:=by
 unfold QaK at h;simp only [Bool.and_eq_true,decide_eq_true_eq] at h;exact ⟨h.1.1.1,h.1.1.2⟩
theorem Qiu (h:Qaj L=true) {j:Nat} {p:ByteArray} (hp:L[j]?=some p) (hu:L[j+1]?=some u):Qaz p u=true:=by
 have:=Qon h (ZZd.1 hu).1;rw [QtE hp hu,Bool.and_eq_true] at this;exact this.2
theorem Qes {L:List ByteArray} (h:Qaj L=true) {i:Nat} {p:ByteArray} (hp:L[i]?=some p):∀ (d:Nat) {u:ByteArray},L[i+d+1]?=some u->Qaz p u=true
 | 0,u,hu=>Qiu h hp hu
 | d+1,u,hu=>by
  obtain ⟨q,hq⟩:∃ q,L[i+d+1]?=some q:=⟨_,ZZe (by have:=(ZZd.1 hu).1;omega)⟩;exact Qbu (Qes h hp d hq) (Qiu h hq hu)
def cfP (x y:Int×Nat):Int:=if x=y then 0 else if x.1<y.1 then -1 else if x.1=y.1/\x.2<y.2 then -1 else 1
def ltP (x y:Int×Nat):Bool:=decide (x.1<y.1∨(x.1=y.1/\x.2<y.2))
def encP (x:Int×Nat):List Value:=[.int .u64 x.1,.int .u64 x.2]
def QgZ (m:Mk):List Value:=[.int .u64 m.1,.string m.2]
theorem QmT (x:Mk):(QgZ x).length=2:=rfl
def RingAns (L:List ByteArray) (R:List Mk):Prop:=(Qaj L=true/\QfP L R)∨(Qaj L=false/\R=[])
def fillR (R:List Mk) (k:Nat):List Mk:=R.take k ++ List.replicate (R.length - k) ((0,ByteArray.empty):Mk)
theorem infoM:(prog.info? 148).map (fun i=>(i.zero,i.size,i.bytes))=some (some (.agg #[.int .u64 0,.string ByteArray.empty]),2,24):=by kernel_rfl
theorem Qe7 (N:Nat) (hN0:N≠0) (hN:N<=9223372036854775807) (w:World) :
  Calls prog 28 #[.int .i64 N] w fun e w'=>e=.returned (.string ⟨(Lib.decDigits N).toArray⟩)/\Below w.heap.size w w':=by
 have ab:((N:Int) == 0)=false:=ZZf.2 (by omega);have ac:decide ((N:Int)<0)=false:=ZZg (by omega);go_enter func28,ntmps28;go_wp2
 go_loopw [0,4,5] (fun n o d wr=>∃ (m:Nat) (D:List UInt8),m<=N/\n=.int .i64 m/\o=.string ⟨D.toArray⟩/\Qva N m D/\Below w.heap.size w wr) (fun n o d wr=>(Go.RowKit.intOf n).toNat)
 case atStart=>exact ⟨N,[],Nat.le_refl _,rfl,rfl,⟨fun h=>absurd h hN0,fun _=>by simp⟩,Below.refl _ _⟩
 case round=>
  obtain ⟨m,D,hm,rfl,rfl,hR,aa⟩:=hrel;by_cases k:m=0
  ·subst k
   have HR:Hid (Qva N 0 D):=hR;clear hR;go_wp2;go_ret;exact ⟨Qcy (by rw [HR.out.1 rfl]),aa⟩
  ·obtain ⟨d,hd⟩:∃ d,d=m % 10:=⟨_,rfl⟩
   obtain ⟨q,hq⟩:∃ q,q=m / 10:=⟨_,rfl⟩;have HR:Hid (Qva N q (UInt8.ofNat (48+d) :: D)):=by rw [hd,hq];exact Qn5 hR k
   have ag:=QqD hR (Qpc N hN);have e1:Int.tmod (m:Int) 10=(d:Int):=by rw [hd];rfl
   have e2:Int.tdiv (m:Int) 10=(q:Int):=by rw [hq];rfl
   have hk:((m:Int) != 0)=true:=by simp;omega
   have ad:d<10:=by omega
   have ae:q<m:=by omega
   have e3:decide ((d:Int)<0)=false:=ZZg (by omega);have e4:IntKind.u8.wrap (48+(d:Int))=48+(d:Int):=IntWalk.u8_in _ ⟨by omega,by omega⟩;obtain ⟨B,hB⟩:∃ B,B=strOfNums [48+(d:Int)]:=⟨_,rfl⟩
   have kc:=run_convert_bytes_arg (P:=prog) (wr.alloc (.cells #[.int .u8 (48+(d:Int))] 5)) 42 5 underlying42 underlying5 wr.heap.size 0 1 1 [48+(d:Int)] rfl (fun i hi=>by
      obtain rfl:i=0:=by omega
      simp) 9 underlying9
   rw [<- hB] at kc;have af:B.size=1:=by rw [hB];rfl
   have HB:Hid (B ++ ⟨D.toArray⟩=(⟨(UInt8.ofNat (48+d) :: D).toArray⟩:ByteArray)):=(by
    rw [hB,<- Qut];congr 1;:B ++ ⟨D.toArray⟩=(⟨(UInt8.ofNat (48+d) :: D).toArray⟩:ByteArray))
   have hD:(⟨D.toArray⟩:ByteArray).size=D.length:=rfl;have HL:Hid (Below w.heap.size w wr):=aa;have hz:=aa.size;clear hR hd hq k ab ac hB aa;go_wp2;go_roundw
   case rel=>exact ⟨q,UInt8.ofNat (48+d) :: D,by omega,rfl,by rw [HB.out],HR,HL.out.alloc (by omega) _⟩
   case measure=>simp [zI];omega
theorem Qnk (k:Nat) (hk:k<8) (w:World) :
  Calls prog 28 #[.int .i64 k] w fun e w'=>e=.returned (.string ⟨(Lib.decDigits k).toArray⟩)/\Below w.heap.size w w':=by
 rcases Nat.eq_zero_or_pos k with rfl | h
 ·have e:(⟨(Lib.decDigits 0).toArray⟩:ByteArray)=⟨#[48]⟩:=by rw [Lib.decDigits_one (by omega)];rfl
  rw [e];go_enter func28,ntmps28;go_wp2;go_ret;exact ⟨rfl,ZZb _ _⟩
 ·exact Qe7 k (by omega) (by omega) w
theorem Qno (h:a.size+b.size<=1000000):Op.stringOp .add a b=pure (.string (a ++ b)):=by
 unfold Op.stringOp
 have:¬ (((a.size+b.size:Nat):Int) > IntKind.i64.max):=by
  have e:IntKind.i64.max=9223372036854775807:=by decide
  rw [e];omega
 simp only [if_neg this]
theorem QlP (m:Mk):∀ u∈QgZ m,u.oneCell'=true:=fun u hu=>by simp [QgZ] at hu;rcases hu with rfl | rfl <;> rfl
theorem QpJ (R:List Mk):∀ u∈fl QgZ R,u.oneCell'=true:=fun u hu=>by
 obtain ⟨m,_,h⟩:=List.mem_flatMap.1 hu;exact QlP m u h
variable {ao:Option Addr}
theorem QkF (cap:Nat) (hL:Qaj L=true) (hA:Qaw w ao L) :
  Calls prog 80 #[.slice ao L.length cap] w fun e w'=>∃ g cp R,e=.returned (.slice (some ⟨g,0,none⟩) R.length cp)/\QfP L R/\w'.ownsRow w.heap.size 148 2 (.slice (some ⟨g,0,none⟩) R.length cp) R.length (fl QgZ R)/\Below w.heap.size w w':=by
 obtain ⟨i0,hi,aC,aF,ap⟩:=info_parts infoM;obtain ⟨a7,aG⟩:=Qbp hL;have bj:=op_gtr 9;obtain ⟨N,hN⟩:∃ N,L.length=N:=⟨_,rfl⟩;have HN:Hid (L.length=N):=hN;have HL:Hid (Qaj L=true):=hL;rw [hN] at a7 aG;rw [hN];clear hN hL;go_enter func80,ntmps80;go_wp2
 go_loopw [3,4] (fun v i wr=>∃ (p:Nat) (R:List Mk) (go co:Nat),p<=N/\i=.int .i64 p/\v=.slice (some ⟨go,0,none⟩) (8*p) co/\R.Perm (mks L (8*p))/\R.Pairwise mle/\wr.ownsRow w.heap.size 148 2 (.slice (some ⟨go,0,none⟩) (8*p) co) (8*p) (fl QgZ R)/\Below w.heap.size w wr) (fun v i wr=>N - (Go.RowKit.intOf i).toNat)
 case atStart=>exact ⟨0,[],w.heap.size,0,ZZj _,rfl,rfl,List.Perm.refl _,List.Pairwise.nil,World.ownsRow_made w #[] 0 (ZZa _) (ZZj _) rfl,(ZZb _ _).alloc (ZZa _) _⟩
 case round=>
  obtain ⟨p,R0,aL,aJ,hp,rfl,rfl,ad,ai,ab,aa⟩:=hrel;by_cases bi:p<N
  ·obtain ⟨b,a6,rfl,al⟩:=hA (by have:=HN.out;omega)
   obtain ⟨u,aB⟩:∃ u,L[p]?=some u:=⟨L[p]'(by have:=HN.out;omega),ZZe _⟩;have bl:=(QmF (Qcc HL (ZZn aB))).2;have HU:Hid (L[p]?=some u):=aB;have HC:Hid (w.cell? ⟨b,a6+p,none⟩=some (.string u)):=al p u aB;clear al aB;go_wp2
   go_loopw [3,5] (fun v2 i wr2=>∃ (k:Nat) (R:List Mk) (go co:Nat),k<=8/\i=.int .i64 k/\v2=.slice (some ⟨go,0,none⟩) (8*p+k) co/\R.Perm (mks L (8*p+k))/\R.Pairwise mle/\wr2.ownsRow w.heap.size 148 2 (.slice (some ⟨go,0,none⟩) (8*p+k) co) (8*p+k) (fl QgZ R)/\Below w.heap.size w wr2) (fun v2 i wr2=>8 - (Go.RowKit.intOf i).toNat)
   case atStart=>exact ⟨0,R0,aL,aJ,ZZj _,rfl,rfl,ad,ai,ab,aa⟩
   case round=>
    clear ab aa ad ai;obtain ⟨k,R,go,co,hk,rfl,rfl,ad,ai,ab,aa⟩:=hrel;obtain ⟨M,hM⟩:∃ M,8*p+k=M:=⟨_,rfl⟩;rw [hM] at ad ab;rw [hM];by_cases aH:k<8
    ·obtain ⟨D,hD⟩:∃ D:ByteArray,D=⟨(Lib.decDigits k).toArray⟩:=⟨_,rfl⟩
     have aT:D.size=1:=by rw [hD];show (Lib.decDigits k).toArray.size=1;rw [List.size_toArray];exact decDig k aH
     have aI:=fun W=>Qnk k aH W;rw [<- hD] at aI;obtain ⟨X,hX⟩:∃ X:Int,X=Qbx (u ++ ⟨#[35]⟩ ++ D):=⟨_,rfl⟩;have a2:(u ++ ⟨#[35]⟩ ++ D).size=u.size+2:=by rw [ByteArray.size_append,ByteArray.size_append,aT];rfl
     have aK:=fun W=>QdO (u ++ ⟨#[35]⟩ ++ D) (by unfold maxLen;omega) W;rw [<- hX] at aK
     have HX:Hid (mks L (M+1)=mks L M ++ [(X,u)]):=by
      rw [<- hM,Qb5,QhU HU.out aH,hX,hD];rfl
     have hc:=Qab aa HC;have bg:b<wr.heap.size:=World.block_lt_of_cell? _ _ hc;have aE:(⟨#[35]⟩:ByteArray).size=1:=rfl;have ar:Op.stringOp .add u ⟨#[35]⟩=pure (.string (u ++ ⟨#[35]⟩)):=Qno (by omega);have ay:Op.stringOp .add (u ++ ⟨#[35]⟩) D=pure (.string (u ++ ⟨#[35]⟩ ++ D)):=Qno (by rw [ByteArray.size_append];omega);have HO:Hid (wr.ownsRow w.heap.size 148 2 (.slice (some ⟨go,0,none⟩) M co) M (fl QgZ R)):=ab;have HB:Hid (Below w.heap.size w wr):=aa;have HM:Hid (8*p+k=M):=hM;have be:M<=96:=by omega
     have HP:Hid (R.Perm (mks L M)/\R.Pairwise mle):=⟨ad,ai⟩;have aZ:=aa.size;clear hD hX a2 ab aa ad ai hM;go_wp2_with fail
     go_cut [6] (fun v w'=>∃ g:Nat,v=.pointer (some ⟨g,0,none⟩)/\w'.cell? ⟨g,0,none⟩=some (.int .u64 X)/\w'.cell? ⟨g,1,none⟩=some (.string u)/\wr.heap.size<=g/\g<w'.heap.size/\Below wr.heap.size wr w')
     case first=>
      go_region_held3 (QqP wr.heap.size wr)
       (refine held ?_ (by simp) <;> first | exact (Below.refl _ _).drew | exact ((Below.refl _ _).alloc (by simp) _).drew | exact aD | exact Below.alloc aD (by omega) _ | exact Below.setCell (Below.setCell aD (by dsimp only;omega) _) (by dsimp only;omega) _)
       (first
        | (go_at_call 28;refine (aI _).mono ?_;rintro e w1 ⟨rfl,ah⟩;obtain ⟨aD,bf⟩:=Qc8 ah ‹QqP _ _ _›; (first | have hT:=Qac hT ah | have hT:=ah);obtain ⟨a4,bh⟩:=Qos hT;have ap:=ah.size; (try simp at ap);clear ah)
        | (go_at_call 81;refine (aK _).mono ?_;rintro e w1 ⟨rfl,aW⟩;subst aW))
      all_goals (go_wp2;go_meet)
      all_goals
       have hK:=‹QqP _ _ _›;refine ⟨_,rfl,?_,?_,?_,?_,hK.1⟩
       ·go_simp
       ·go_simp
       ·omega
       ·first | (simp;done) | (simp;omega)
     case rest=>
      clear aI aK ar ay hc aE aT;obtain ⟨g,rfl,a1,aY,bo,bp,hB⟩:=hcut;have an:Hid (wc.ownsRow w.heap.size 148 2 (.slice (some ⟨go,0,none⟩) M co) M (fl QgZ R)):=Qat HO hB;have aM:Hid (Below w.heap.size w wc):=HB.out.trans (hB.mono aZ);have aX:R.length=M:=by rw [HP.out.1.length_eq,QjY]
      clear HO HB hB;go_upto_block 4 with fail
      go_cut [7] (fun v w'=>∃ n q:Nat,v=.int .i64 n/\w'=wc.drewN q/\n<=M/\(n=0∨∃ a,R[n - 1]?=some a/\mle a (X,u))/\∀ j a,n<=j->R[j]?=some a->mle (X,u) a)
      case first=>
       go_wp2_with fail
       go_loopw [7] (fun i wr2=>∃ n q:Nat,n<=M/\i=.int .i64 n/\wr2=wc.drewN q/\∀ j a,n<=j->R[j]?=some a->mle (X,u) a) (fun i _=>(Go.RowKit.intOf i).toNat)
       case atStart=>exact ⟨M,0,ZZa _,rfl,rfl,fun j a hj h=>absurd (ZZd.1 h).1 (by omega)⟩
       case round=>
        obtain ⟨n,q,hn,rfl,rfl,av⟩:=hrel;have HH:Hid (∀ j a,n<=j->R[j]?=some a->mle (X,u) a):=av;clear av;rcases Nat.eq_zero_or_pos n with rfl | a9
        ·go_wp2
         go_quiet (fail)
         go_wp2;go_meet;exact ⟨0,_,rfl,(by first | rfl | exact Qdi _ _ _),ZZj _,.inl rfl,HH⟩
        ·obtain ⟨j,aN⟩:∃ j,j+1=n:=⟨n - 1,by omega⟩
         obtain ⟨⟨ax,um⟩,am⟩:∃ a,R[j]?=some a:=⟨R[j]'(by omega),ZZe _⟩
         have bn:wc.cell? ⟨go,j*2,none⟩=some (.int .u64 ax):=by
          rw [an.out.cellAt _ (by omega)];have:=Qel QmT R j _ 0 (by omega) am;rw [Nat.add_zero] at this;rw [this];rfl
         have a4:wc.cell? ⟨go,j*2+1,none⟩=some (.string um):=by
          rw [an.out.cellAt _ (by omega),Qel QmT R j _ 1 (by omega) am];rfl
         have ek:((n:Int) - 1)=(j:Int):=by omega
         have ew:IntKind.i64.wrap (j:Int)=j:=ZZi _ ⟨by omega,by omega⟩;have bc:(0:Int)<(n:Int):=by omega
         have bd:j<M:=by omega
         have HJ:Hid (j+1=n):=aN;have HR:Hid (R[j]?=some (ax,um)):=am
         have on:mle (X,u) (ax,um)->∀ i a,j<=i->R[i]?=some a->mle (X,u) a:=fun hm i a hi ha=>by
          by_cases e:i=j
          ·subst e;rw [am] at ha;obtain rfl:=Option.some.inj ha;exact hm
          ·exact HH.out i a (by omega) ha
         have ON:Hid (mle (X,u) (ax,um)->∀ i a,j<=i->R[i]?=some a->mle (X,u) a):=on;have az:mle (ax,um) (X,u)->(n=0∨∃ a,R[n - 1]?=some a/\mle a (X,u)):=fun hm=>.inr ⟨(ax,um),by rw [<- aN];exact am,hm⟩;have aS:Hid (mle (ax,um) (X,u)->(n=0∨∃ a,R[n - 1]?=some a/\mle a (X,u))):=az;clear on az aN am;rcases Int.lt_trichotomy X ax with ht | ht | ht
         ·have bm:X<ax:=ht
          go_wp2
          go_quiet (fail)
          go_wp2;go_roundw
          case rel=>exact ⟨j,_,by omega,rfl,(by first | rfl | exact Qdi _ _ _),ON.out (.inl ht)⟩
          case measure=>simp [zI];have:=HJ.out;omega
         ·subst ht
          cases hlt:Qaz u um
          ·go_wp2
           go_quiet (fail)
           go_wp2;go_meet;exact ⟨n,_,rfl,(by first | rfl | exact Qdi _ _ _),hn,aS.out (.inr ⟨rfl,hlt⟩),HH⟩
          ·go_wp2
           go_quiet (fail)
           go_wp2;go_roundw
           case rel=>exact ⟨j,_,by omega,rfl,(by first | rfl | exact Qdi _ _ _),ON.out (.inr ⟨rfl,Qeh hlt⟩)⟩
           case measure=>simp [zI];have:=HJ.out;omega
         ·have h1:decide (X<ax)=false:=ZZg (by omega)
          have h2:(ax == X)=false:=ZZf.2 (by omega);go_wp2
          go_quiet (fail)
          go_wp2;go_meet;exact ⟨n,_,rfl,(by first | rfl | exact Qdi _ _ _),hn,aS.out (.inl ht),HH⟩
      case rest=>
       obtain ⟨n,q,rfl,rfl,hn,aU,av⟩:=hcut;have au:Hid ((R.take n ++ (X,u) :: R.drop n).Pairwise mle/\(R.take n ++ (X,u) :: R.drop n).Perm (mks L (M+1))):=⟨Qmj HP.out.2 (by omega) aU av,by rw [HX.out];exact (Qrt R (X,u) n).trans (HP.out.1.append_right _)⟩;clear aU av;have a3:M<=co:=Qkb an;have a0:co<=9223372036854775807:=Qhl an;have bb:(n:Int)<=(M:Int):=by omega
       have a8:(n:Int)<=(co:Int):=by omega
       have l1:(fl QgZ (R.take n)).length=n*2:=by rw [QbH QmT,List.length_take,Nat.min_eq_left (by omega)]
       have l3:(fl QgZ (R.drop n)).length=(M - n)*2:=by rw [QbH QmT,List.length_drop,aX]
       have c1:∀ W,Below wc.heap.size wc W->∀ j u,(fl QgZ (R.take n))[j]?=some u->W.cell? ((⟨go,0,none⟩:Addr).add j)=some u:=fun W hW j u hj=>by
        have aA:=(ZZd.1 hj).1;rw [Addr.add_lit,Nat.zero_add,(Qat an.out hW).cellAt j (by omega)]
        conv=>lhs;rw [<- List.take_append_drop n R]
        rw [QdK,List.getElem?_append_left aA];exact hj
       obtain ⟨A,bk,aR⟩:∃ A:Addr,(if co=n then some (⟨go,0,none⟩:Addr) else some ⟨go,n*2,none⟩)=some A/\∀ W,Below wc.heap.size wc W->∀ j u,(fl QgZ (R.drop n))[j]?=some u->W.cell? (A.add j)=some u:=by
        by_cases e:co=n
        ·refine ⟨_,if_pos e,fun W hW j u hj=>?_⟩
         have aA:=(ZZd.1 hj).1;rw [l3] at aA;omega
        ·refine ⟨_,if_neg e,fun W hW j u hj=>?_⟩
         have aA:=(ZZd.1 hj).1;rw [Addr.add_lit,(Qat an.out hW).cellAt (n*2+j) (by omega)]
         conv=>lhs;rw [<- List.take_append_drop n R]
         rw [QdK,List.getElem?_append_right (by omega),l1,show n*2+j - n*2=j by omega];exact hj
       have aV:∀ o,Below wc.heap.size wc ((wc.drewN q).alloc o):=fun o=>(Qar (ZZb _ _) q).alloc (by exact ZZa _) o;have C1:=Qaa c1;have C3:=Qaa aR;have B0:=Qaa aV;have L1:=Qaa l1;have L3:=Qaa l3;clear c1 aR aV l1 l3
       go_wp2_with (first
        | (at_builtin;refine wpList_append_own _ rfl (.tmp 73) (.tmp 76) 144 rfl wc.heap.size 148 i0 (.agg #[.int .u64 0,.string ByteArray.empty]) 2 24 underlying144 hi aC aF ap rfl (by decide) _ _ _ rfl (World.ownsRow_made (wc.drewN q) #[] 0 (by exact Nat.le_refl _) (Nat.zero_le _) rfl) ⟨go,0,none⟩ n co (fl QgZ (R.take n)) rfl L1 (C1.out _ (B0.out _)) (QpJ _) (by unfold maxLen;omega) (by omega) (by simp) ?_;intro v1 w1 ac ae aq;simp only [Nat.zero_add,List.nil_append] at ac;have ah:=(B0.out _).grown ae (by simp) (fun j hj=>Nat.le_of_eq (Option.some.inj hj));have m0:=Qab ah a1;have m1:=Qab ah aY;have O1:=Qaa ac;have B1:=Qaa ah;clear ac ae aq ah)
        | (at_builtin;refine wpList_append_own _ rfl (.tmp 78) (.tmp 80) 144 rfl wc.heap.size 148 i0 (.agg #[.int .u64 0,.string ByteArray.empty]) 2 24 underlying144 hi aC aF ap rfl (by decide) _ _ _ rfl (O1.out.alloc _) ⟨w1.heap.size,0,none⟩ 1 1 (QgZ (X,u)) rfl rfl (Qav (cs:=#[.int .u64 X,.string u]) rfl) (QlP _) (by unfold maxLen;omega) (by omega) (by simp;have:=B1.out.size;omega) ?_;intro v2 w2 ak af aw;have aP:=(B1.out.alloc B1.out.size _).grown af (by simp;have:=B1.out.size;omega) (fun j hj=>(O1.out.lt j hj).1);have O2:=Qaa ak;have B2:=Qaa aP;clear ak af aw aP)
        | (at_builtin;refine wpList_append_own _ rfl (.tmp 82) (.tmp 85) 144 rfl wc.heap.size 148 i0 (.agg #[.int .u64 0,.string ByteArray.empty]) 2 24 underlying144 hi aC aF ap rfl (by decide) _ _ _ rfl O2 A (M - n) (co - n) (fl QgZ (R.drop n)) rfl L3 (C3.out _ B2) (QpJ _) (by unfold maxLen;omega) (by omega) B2.out.size ?_;intro v3 w3 aj ag aQ;have aO:=B2.out.grown ag B2.out.size (fun j hj=>(O2.out.lt j hj).1);have O3:=Qaa aj;have B3:=Qaa aO;clear aj ag aO))
       have hO:w3.ownsRow wc.heap.size 148 2 v3 (M+1) (fl QgZ (R.take n ++ (X,u) :: R.drop n)):=Qp5 O3 (by omega) (by rw [QdK,QbS,List.append_assoc]);obtain ⟨g3,c3,ba⟩:=Qhq hO (by omega);subst ba;have e:=HM.out;go_roundw
       case rel=>
        refine ⟨k+1,R.take n ++ (X,u) :: R.drop n,g3,c3,by omega,by go_num,?_,?_,au.out.1,?_,aM.out.trans (B3.out.mono aM.out.size)⟩
        ·rw [<- Nat.add_assoc,e]
        ·rw [<- Nat.add_assoc,e];exact au.out.2
        ·rw [<- Nat.add_assoc,e];exact hO.mono aM.out.size
       case measure=>simp [zI];omega
    ·have e:k=8:=by omega
     subst e;have e2:M=8*(p+1):=by omega
     subst e2;have HO:Hid (wr.ownsRow w.heap.size 148 2 (.slice (some ⟨go,0,none⟩) (8*(p+1)) co) (8*(p+1)) (fl QgZ R)):=ab;have HB:Hid (Below w.heap.size w wr):=aa;have HP:Hid (R.Perm (mks L (8*(p+1)))/\R.Pairwise mle):=⟨ad,ai⟩;clear ab aa ad ai hM;go_wp2;go_roundw
     case rel=>exact ⟨p+1,R,go,co,by omega,by go_num,rfl,HP.out.1,HP.out.2,HO,HB⟩
     case measure=>simp [zI];omega
  ·have e:p=N:=by omega
   subst e;have HO:Hid (wr.ownsRow w.heap.size 148 2 (.slice (some ⟨aL,0,none⟩) (8*p) aJ) (8*p) (fl QgZ R0)):=ab;have HB:Hid (Below w.heap.size w wr):=aa;have HP:Hid (R0.Perm (mks L (8*p))/\R0.Pairwise mle):=⟨ad,ai⟩;have a5:Hid (8*p=R0.length):=(by rw [ad.length_eq,QjY]:8*p=R0.length);clear ab aa ad ai hA;go_wp2;go_ret;have hl:=a5.out;have hN:=HN.out;have hO:=HO.out;rw [hl] at hO;refine ⟨aL,aJ,R0,by rw [<- hl];rfl,⟨?_,HP.out.2⟩,hO,HB⟩;rw [hN];exact HP.out.1
def Qch (h:Int):List Mk->Option Mk
 | []=>none
 | m :: r=>if h<=m.1 then some m else Qch h r
theorem QfJ {h:Int}:∀ (R:List Mk) (k:Nat) (a:Mk),R[k]?=some a->h<=a.1->(∀ j b,j<k->R[j]?=some b->b.1<h)->Qch h R=some a
 | [],k,a,hk,_,_=>by simp at hk
 | m :: r,0,a,hk,ha,_=>by
  obtain rfl:m=a:=by simpa using hk
  simp [Qch,ha]
 | m :: r,k+1,a,hk,ha,hl=>by
  have h0:=hl 0 m (by omega) rfl;unfold Qch;rw [if_neg (by omega)];exact QfJ r k a (by simpa using hk) ha (fun j b hj hb=>hl (j+1) b (by omega) (by simpa using hb))
theorem Qe9 {h:Int}:∀ (R:List Mk),(∀ (j:Nat) (b:Mk),R[j]?=some b->b.1<h)->Qch h R=none
 | [],_=>rfl
 | m :: r,hl=>by
  have h0:=hl 0 m rfl;unfold Qch;rw [if_neg (by omega)];exact Qe9 r (fun j b hb=>hl (j+1) b (by simpa using hb))
def Qsm (R:List Mk) (h:Int):ByteArray:=
 match Qch h R with
 | some m=>m.2
 | none=>match R with
  | m :: _=>m.2
  | []=>ByteArray.empty
variable {h:Int}
theorem Qqv {a:Mk} (hk:R[k]?=some a) (ha:h<=a.1) (hl:∀ (j:Nat) (b:Mk),j<k->R[j]?=some b->b.1<h):Qsm R h=a.2:=by
 unfold Qsm;rw [QfJ R k a hk ha hl]
theorem QnO {a:Mk} (h0:R[0]?=some a) (hl:∀ (j:Nat) (b:Mk),R[j]?=some b->b.1<h):Qsm R h=a.2:=by
 unfold Qsm;rw [Qe9 R hl]
 match R,h0 with
 | m :: _,h0=>
  obtain rfl:m=a:=by simpa using h0
  rfl
def QaR (L:List ByteArray) (key s:ByteArray):Prop:=(key.size<=20000/\Qaj L=true/\∃ R,QfP L R/\s=Qsm R (Qbx key))∨((¬ key.size<=20000∨Qaj L=false)/\s=ByteArray.empty)
theorem QeH {s t:ByteArray} (h:QaR L key s) (k:QaR L key t):s=t:=by
 rcases h with ⟨h1,h2,R,h3,rfl⟩ | ⟨h1,rfl⟩ <;> rcases k with ⟨k1,k2,R',k3,rfl⟩ | ⟨k1,rfl⟩
 ·rw [QpY h3 k3]
 ·rcases k1 with k1 | k1
  ·exact absurd h1 k1
  ·rw [h2] at k1;cases k1
 ·rcases h1 with h1 | h1
  ·exact absurd k1 h1
  ·rw [h1] at k2;cases k2
 ·rfl
theorem QgW {g c:Nat} {a:Int} (h:w.ownsRow B 148 2 (.slice (some ⟨g,0,none⟩) n c) n (fl QgZ R)) (hn:n=R.length) (hk:R[k]?=some (a,u)) :
  w.cell? ⟨g,k*2,none⟩=some (.int .u64 a)/\w.cell? ⟨g,k*2+1,none⟩=some (.string u):=by
 have aa:=(ZZd.1 hk).1;constructor
 ·rw [h.cellAt _ (by omega)]
  have:=Qel QmT R k _ 0 (by omega) hk;rw [Nat.add_zero] at this;rw [this];rfl
 ·rw [h.cellAt _ (by omega),Qel QmT R k _ 1 (by omega) hk];rfl
theorem Qcq (cap:Nat) (key:ByteArray) (hk:key.size<=20000) (hL:Qaj L=true) (hA:Qaw w ao L) :
  Calls prog 31 #[.slice ao L.length cap,.string key] w fun e w'=>∃ s,e=.returned (.string s)/\QaR L key s/\Below w.heap.size w w':=by
 have al:=QkF cap hL hA;have ae:=QdO key (by unfold maxLen;omega);have ap:=Qaa hL;have az:=(Qbp hL).1;have ar:=(Qbp hL).2;obtain ⟨H,hH⟩:∃ H,Qbx key=H:=⟨_,rfl⟩;rw [hH] at ae;have HH:=Qaa hH;clear hA hL hH;go_enter func31,ntmps31
 go_wp2_with (first
  | (go_at_call 80;refine al.mono ?_;rintro e w2 ⟨g,rc,R,rfl,hR,ab,ai⟩;have HR:=Qaa hR;have HO:=Qaa ab;have HB:=Qaa ai;have ag:=Qaa (QlR hR);clear hR ab ai;obtain ⟨N,hN⟩:∃ N,R.length=N:=⟨_,rfl⟩;have HN:=Qaa hN;rw [hN] at ag HO;rw [hN];clear hN)
  | (go_at_call 81;refine (ae _).mono ?_;rintro e w3 ⟨rfl,rfl⟩))
 have aw:0<N:=by have:=ag.out;omega
 have au:N<=96:=by have:=ag.out;omega
 have ak:Hid (∀ s,s=Qsm R H->QaR L key s):=fun s hs=>.inl ⟨hk,ap,R,HR,by rw [hs,HH.out]⟩;clear al ae
 go_loopw [7] (fun i wr=>wr=w3/\∃ k:Nat,k<=N/\i=.int .i64 k/\∀ (j:Nat) (b:Mk),j<k->R[j]?=some b->b.1<H) (fun i wr=>N - (Go.RowKit.intOf i).toNat)
 case atStart=>exact ⟨rfl,0,ZZj _,rfl,fun j b hj=>absurd hj (by omega)⟩
 case round=>
  obtain ⟨rfl,k,ay,rfl,ac⟩:=hrel;have HL:=Qaa ac;clear ac;by_cases av:k<N
  ·obtain ⟨⟨a,m⟩,ah⟩:∃ a,R[k]?=some a:=⟨R[k]'(by have:=HN.out;omega),ZZe _⟩
   obtain ⟨aj,am⟩:=QgW HO HN.out.symm ah;have HK:=Qaa ah;clear ah;by_cases an:H<=a
   ·go_wp2
    go_ret;exact ⟨m,rfl,ak.out m (Qqv HK an HL).symm,HB⟩
   ·have aq:decide (H<=a)=false:=ZZg an
    go_wp2;go_roundw
    case rel=>
     refine ⟨trivial,k+1,by omega,by go_num,fun j b hj hb=>?_⟩;by_cases e:j=k
     ·subst e;rw [HK.out] at hb;obtain rfl:=Option.some.inj hb;show a<H;omega
     ·exact HL.out j b (by omega) hb
    case measure=>simp [zI];omega
  ·obtain ⟨⟨a,m⟩,ad⟩:∃ a,R[0]?=some a:=⟨R[0]'(by have:=HN.out;omega),ZZe _⟩
   obtain ⟨aj,am⟩:=QgW HO HN.out.symm ad;rw [Nat.zero_mul] at aj am;have HK:=Qaa ad;have ax:(0:Int)<(N:Int):=by omega
   have aa:∀ (j:Nat) (b:Mk),R[j]?=some b->b.1<H:=fun j b hb=>HL.out j b (by have:=(ZZd.1 hb).1;have:=HN.out;omega) hb;have af:=Qaa aa;clear ad aa;go_wp2;go_ret;exact ⟨m,rfl,ak.out m (QnO HK af).symm,HB⟩
def mk8 (u:ByteArray):List Mk:=(List.range 8).map fun k=>(Qbx (QcY u k),u)
theorem Quv (h:m∈mk8 u):m.2=u:=by
 unfold mk8 at h;obtain ⟨k,_,rfl⟩:=List.mem_map.1 h
 rfl
theorem Qla (L:List ByteArray):∀ p,p<=L.length->mks L (8*p)=(L.take p).flatMap mk8
 | 0,_=>rfl
 | p+1,h=>by
  obtain ⟨u,hu⟩:∃ u,L[p]?=some u:=⟨_,ZZe (by omega)⟩;have e:8*(p+1)=8*p+0+1+1+1+1+1+1+1+1:=by omega
  rw [e,Qb5,Qb5,Qb5,Qb5,Qb5,Qb5,Qb5,Qb5,Nat.add_zero,Qla L p (by omega)];rw [List.take_add_one,hu,Option.toList_some,List.flatMap_append];have e0:=QhU (k:=0) hu (by omega);have e1:=QhU (k:=1) hu (by omega);have e2:=QhU (k:=2) hu (by omega);have e3:=QhU (k:=3) hu (by omega);have e4:=QhU (k:=4) hu (by omega);have e5:=QhU (k:=5) hu (by omega);have e6:=QhU (k:=6) hu (by omega);have e7:=QhU (k:=7) hu (by omega);rw [Nat.add_zero] at e0;rw [e0,show 8*p+1+1=8*p+2 by omega,show 8*p+2+1=8*p+3 by omega,show 8*p+3+1=8*p+4 by omega,show 8*p+4+1=8*p+5 by omega,show 8*p+5+1=8*p+6 by omega,show 8*p+6+1=8*p+7 by omega,e1,e2,e3,e4,e5,e6,e7];have e8:List.flatMap mk8 [u]=mk8 u:=by simp
  rw [e8];have e9:mk8 u=[(Qbx (QcY u 0),u),(Qbx (QcY u 1),u),(Qbx (QcY u 2),u),(Qbx (QcY u 3),u),(Qbx (QcY u 4),u),(Qbx (QcY u 5),u),(Qbx (QcY u 6),u),(Qbx (QcY u 7),u)]:=rfl;rw [e9];simp
theorem QrL (L:List ByteArray):mks L (8*L.length)=L.flatMap mk8:=by
 have:=Qla L L.length (ZZa _);rw [List.take_length] at this;exact this
theorem QbQ (h:Qaj L=true):L.Pairwise (fun a b=>Qaz a b=true):=by
 rw [List.pairwise_iff_getElem];intro i j hi hj aa;have h2:L[i+(j - i - 1)+1]?=some L[j]:=by rw [show i+(j - i - 1)+1=j by omega];exact ZZe hj
 exact Qes h (ZZe hi) _ h2
theorem QkD (h1:1<=L.length) (h2:L.length<=12) (hn:∀ u∈L,QaK u=true) (hp:L.Pairwise (fun a b=>Qaz a b=true)):Qaj L=true:=by
 refine QsJ (by omega) (by omega) ?_
 have ok:∀ k,k<=L.length->QdH L k=true:=by
  intro k
  induction k with
  | zero=>intro _;rfl
  | succ k ih=>
   intro hk;obtain ⟨u,hu⟩:∃ u,L[k]?=some u:=⟨_,ZZe (by omega)⟩;have ab:=hn u (ZZn hu);unfold QdH;rw [ih (by omega),Bool.true_and]
   match k,hu with
   | 0,hu=>rw [okB_0 hu];exact ab
   | j+1,hu=>
    obtain ⟨p,ac⟩:∃ p,L[j]?=some p:=⟨_,ZZe (by omega)⟩;have aa:=List.pairwise_iff_getElem.1 hp j (j+1) (by omega) (by omega) (by omega);rw [(List.getElem?_eq_some_iff.1 ac).2,(List.getElem?_eq_some_iff.1 hu).2] at aa;rw [QtE ac hu,ab,aa];rfl
 exact ok _ (ZZa _)
def isM (u:ByteArray) (m:Mk):Bool:=m.2.toList == u.toList
theorem QpZ (hR:R≠[]):∃ m∈R,Qsm R h=m.2:=by
 have hf:∀ (R:List Mk) m,Qch h R=some m->m∈R:=by
  intro R
  induction R with
  | nil=>intro m hm;simp [Qch] at hm
  | cons a r ih=>
   intro m hm;unfold Qch at hm
   split at hm
   ·cases hm;exact List.mem_cons_self
   ·exact ZZm _ (ih m hm)
 unfold Qsm
 cases e:Qch h R with
 | some m=>exact ⟨m,hf R m e,rfl⟩
 | none=>
  match R,hR with
  | m :: r,_=>exact ⟨m,List.mem_cons_self,rfl⟩
theorem QrP (hR:QfP L R) (hm:m∈R):m.2∈L:=by
 have:=hR.1.mem_iff.1 hm;rw [QrL] at this;obtain ⟨u,hu,h⟩:=List.mem_flatMap.1 this;rw [Quv h];exact hu
theorem Qnv {o:ByteArray} (hL:Qaj L=true) (hk:key.size<=20000) (h:QaR L key o):o∈L:=by
 rcases h with ⟨_,_,R,hR,rfl⟩ | ⟨h1,_⟩
 ·have aa:R≠[]:=fun e=>by have:=QlR hR;have:=(Qbp hL).1;rw [e] at *; simp at *; omega
  obtain ⟨m,hm,e⟩:=QpZ (h:=Qbx key) aa;rw [e];exact QrP hR hm
 ·rcases h1 with h1 | h1
  ·exact absurd hk h1
  ·rw [hL] at h1;cases h1
def insN (L:List ByteArray) (q:Nat) (nm:ByteArray):List ByteArray:=L.take q ++ nm :: L.drop q
end Go.Proofs.YtdbaabbmcfnjbaaGreatDoor
