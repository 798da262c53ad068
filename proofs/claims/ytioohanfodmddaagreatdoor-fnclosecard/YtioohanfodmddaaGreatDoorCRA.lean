/-
 Parts.
-/
import Derived.Lib.ItoaNum
import Derived.Lib.ItoaLen
import Derived.Laws.BytesArg
import Derived.Test.YtioohanfodmddaaGreatDoorCPA
import Derived.Sort.Statements
import Derived.Test.YtioohanfodmddaaGreatDoorCKM
import Derived.Deep.Onto
import Derived.Deep.CutBlock
set_option maxHeartbeats 4000000
set_option maxRecDepth 10000
set_option linter.all false
namespace Go.Proofs.YtioohanfodmddaaGreatDoor
open Go.ChangeShapes Go.WideShapes Go.ChangeAt Go.RowKit Go.PlainAid Go.Lib Go.Shelf Tryz
open Go.Sort hiding Below
theorem mBq {p:Prop} (h:p:=by go_enter func53,ntmps53;go_wp2;go_ret;exact ⟨rfl,(H0.out _).out⟩):p:=h
theorem mBv {p:Prop} (h:p:=by go_enter func235,ntmps235;go_wp2;go_ret;exact aa.out _ _ _ HC (HG.out _ _)):p:=h
theorem mB0 {p:Prop} (h:p:=by refine ⟨rfl,rfl,rfl,size_sortWorldK_c _ _ _ _ _ _ _ _,fun j hj hne=>?_⟩;unfold sortWorldK;rw [heap_grow_old _ _ (by rw [size_putRowK];exact hj)];have:g≠j:=fun e=>hne xP;simp [putRowK,putRow,mapBlock,Sort.ahead,Array.getElem?_modify,this]):p:=h
theorem mB9 {p:Prop} (h:p:=by
 refine ⟨trivial,k+1,by omega,by go_num,fun j b hj hb=>?_⟩;by_cases e:j=k
 ·subst e;rw [HK.out] at hb;obtain rfl:=Option.some.inj hb;show a<H;omega
 ·exact HL.out j b oB hb):p:=h
theorem mDs {p:Prop} (h:p:=by rw [Nat.add_zero] at this;rw [this];rfl):p:=h
variable {B N g k m n p:Nat}
theorem Qdl (h:¬ n<10):Lib.decDigits n=Lib.decDigits (n / 10) ++ [UInt8.ofNat (48+n % 10)]:=by
 rw [Lib.decDigits,dif_neg h]
def Qv9 (N m:Nat) (D:List UInt8):Prop:=(m=0->D=Lib.decDigits N)/\(m≠0->Lib.decDigits m ++ D=Lib.decDigits N)
variable {D:List UInt8}
theorem Qpy (h:Qv9 N m D) (hm:m≠0):Qv9 N (m / 10) (UInt8.ofNat (48+m % 10) :: D):=by
 have h2:=h.2 hm;by_cases k:m<10
 ·rw [Lib.decDigits_one k] at h2
  refine ⟨fun _=>by rw [Nat.mod_eq_of_lt k];exact h2,fun h0=>absurd (Nat.div_eq_of_lt k) h0⟩
 ·rw [Qdl k,List.append_assoc] at h2
  exact ⟨fun h0=>by omega,fun _=>h2⟩
theorem QsI (h:Qv9 N m D) (hN:(Lib.decDigits N).length<=21):D.length<=21:=by
 by_cases k:m=0
 ·rw [h.1 k];exact hN
 ·have:=congrArg List.length (h.2 k);simp at this;omega
theorem Ql4 (N:Nat) (h:N<=9223372036854775807):(Lib.decDigits N).length<=21:=by
 have:=Lib.itoa_length_le (N:Int) oB oB;have e:Lib.itoa (N:Int)=Lib.decDigits N:=by unfold Lib.itoa;rw [if_neg oB];simp
 rw [e] at this;exact this
variable {a b s u:ByteArray}
theorem QdB (h:a=b):Ending.returned (.string a)=.returned (.string b):=by rw [h]
theorem QvK (b:UInt8) (D:List UInt8):(⟨#[b]⟩:ByteArray) ++ ⟨D.toArray⟩=⟨(b :: D).toArray⟩:=by
 exact mD0
def mtx (k:Nat):ByteArray:=⟨#[109]⟩ ++ ⟨(Lib.decDigits k).toArray⟩
def Qtr (u:ByteArray):List Value:=[.string u,.slice none 0 0]
theorem Qsi (u:ByteArray):∀ v∈Qtr u,v.oneCell'=true:=fun v hv=>by simp [Qtr] at hv;rcases hv with rfl | rfl <;> rfl
def OwnS (w:World) (B:Nat) (v:Value) (L:List ByteArray):Prop:=w.ownsRow B 71 2 v L.length (fl Qtr L)
variable {w:World}
variable {L:List ByteArray}
theorem OwnS.le {B':Nat} {v:Value} (h:OwnS w B v L) (hb:B'<=B):OwnS w B' v L:=by
 exact mC4
theorem Qga (n lo hi:Int) (w:World):Calls prog 31 #[.int .i64 n,.int .i64 lo,.int .i64 hi] w fun e w'=>e=.returned (.bool (decide (lo<=n) && decide (n<=hi)))/\w'=w:=by
 by_cases h:lo<=n
 ·have h1:decide (lo<=n)=true:=ZZh h
  rw [h1];go_enter func31,ntmps31;go_wp2;go_ret;exact ⟨by simp,rfl⟩
 ·have h1:decide (lo<=n)=false:=ZZg h
  rw [h1];go_enter func31,ntmps31;go_wp2;exact mBk
def inB (n lo hi:Int):Bool:=decide (lo<=n) && decide (n<=hi)
theorem QhF (n:Int) (w:World):Calls prog 92 #[.int .i64 n] w fun e w'=>e=.returned (.bool (inB n 0 1000000000))/\w'=w:=by
 unfold inB;by_cases h:0<=n
 ·have h1:decide (0<=n)=true:=ZZh h
  rw [h1];go_enter func92,ntmps92;go_wp2;go_ret;exact ⟨by simp,rfl⟩
 ·have h1:decide (0<=n)=false:=ZZg h
  rw [h1];go_enter func92,ntmps92;go_wp2;exact mBk
def Qg2 (a b c d:Int):Bool:=inB a 1 1000 && inB b 0 1000 && inB c 0 1000000000 && inB d 0 1000000000
theorem Qla (v:Value) (ao:Option Addr) (n cp:Nat) (hv:v=.slice ao n cp) (a b c d:Int) (w:World):Calls prog 52 #[.agg #[v,.int .i64 a,.int .i64 b,.int .i64 c,.int .i64 d]] w fun e w'=>e=.returned (.agg #[.int .i64 a,.int .i64 b,.int .i64 c,.int .i64 d])/\Bw w w':=by
 subst hv;go_enter func52,ntmps52;go_wp2;exact bodyPost_ret (v:=.agg #[.int .i64 a,.int .i64 b,.int .i64 c,.int .i64 d]) (by simp [results,results52,go_sem]) rfl ⟨rfl,((Below.refl _ _).alloc (Nat.le_refl _) _).alloc oE _⟩
theorem Qkb (a b c d:Int) (w:World):Calls prog 53 #[.agg #[.int .i64 a,.int .i64 b,.int .i64 c,.int .i64 d]] w fun e w'=>e=.returned (.bool (Qg2 a b c d))/\Bw w w':=by
 have H0:∀ o,Hid (Bw w (w.alloc o)):=fun o=>bAA;have H0:=Qaa H0;by_cases h1:inB a 1 1000=true
 ·by_cases h2:inB b 0 1000=true
  ·by_cases h3:inB c 0 1000000000=true
   ·obtain ⟨E,hE⟩:∃ E,Qg2 a b c d=E:=⟨_,rfl⟩
    have he:Hid (inB d 0 1000000000=E):=by show _=_;rw [<- hE];unfold Qg2;rw [h1,h2,h3];simp
    rw [hE];obtain ⟨p1,p2⟩:1<=a/\a<=1000:=by unfold inB at h1;simpa using h1
    obtain ⟨p3,p4⟩:0<=b/\b<=1000:=by unfold inB at h2;simpa using h2
    obtain ⟨p5,p6⟩:0<=c/\c<=1000000000:=by unfold inB at h3;simpa using h3
    clear h1 h2 h3 hE;go_enter func53,ntmps53;go_wp2_with (go_at_call 92;refine (QhF _ _).mono ?_;rintro e w1 ⟨rfl,hw⟩;obtain rfl:=hw.symm);go_ret;exact ⟨by rw [he.out];rfl,(H0.out _).out⟩
   ·have h3:inB c 0 1000000000=false:=by simpa using h3
    have e:Qg2 a b c d=false:=by unfold Qg2;rw [h3];simp
    rw [e];obtain ⟨p1,p2⟩:1<=a/\a<=1000:=by unfold inB at h1;simpa using h1
    obtain ⟨p3,p4⟩:0<=b/\b<=1000:=by unfold inB at h2;simpa using h2
    by_cases q:0<=c
    ·have q2:¬ c<=1000000000:=by unfold inB at h3;simp [q] at h3;omega
     clear h1 h2 h3 e;exact mBq
    ·clear h1 h2 h3 e
     exact mBq
  ·have h2:inB b 0 1000=false:=by simpa using h2
   have e:Qg2 a b c d=false:=by unfold Qg2;rw [h2];simp
   rw [e];obtain ⟨p1,p2⟩:1<=a/\a<=1000:=by unfold inB at h1;simpa using h1
   by_cases q:b<0
   ·clear h1 h2 e
    exact mBq
   ·have q2:1000<b:=by unfold inB at h2;simp [show 0<=b by omega] at h2;omega
    clear h1 h2 e;exact mBq
 ·have h1:inB a 1 1000=false:=by simpa using h1
  have e:Qg2 a b c d=false:=by unfold Qg2;rw [h1];simp
  rw [e];by_cases q:a<1
  ·clear h1 e
   exact mBq
  ·have q2:1000<a:=by unfold inB at h1;simp [show 1<=a by omega] at h1;omega
   clear h1 e;exact mBq
def hx (s:ByteArray):Nat->Int
 | 0=>14695981039346656037
 | n+1=>IntKind.u64.wrap (bits BinOp.xor IntKind.u64 (hx s n) (bt s n)*1099511628211)
def QbZ (s:ByteArray):Int:=hx s s.size
def Qkn (s:ByteArray):Int:=if s.size<=20000 then QbZ s else 0
theorem Qjs (h:s.size<=20000):Qkn s=QbZ s:=if_pos h
theorem QrX (h:¬ s.size<=20000):Qkn s=0:=if_neg h
theorem QuZ {a b:Int} (h:a=b):Ending.returned (.int .u64 a)=.returned (.int .u64 b):=by rw [h]
theorem hx_in (s:ByteArray):∀ n,0<=hx s n/\hx s n<=18446744073709551615
 | 0=>by unfold hx;omega
 | n+1=>by unfold hx;rw [IntKind.wrap_u64];omega
theorem QpI (s:ByteArray) (k:Nat):IntKind.u64.wrap (bt s k)=bt s k:=by
 have h0:=bt_nonneg s k;have h1:=bt_le s k;rw [IntKind.wrap_u64];omega
theorem QeB (s:ByteArray) (hs:s.size<=maxLen) (w:World) :
  Calls prog 37 #[.string s] w fun e w'=>e=.returned (.bool (decide (s.size<=20000)))/\w'=w:=by
 unfold maxLen at hs;have e:decide ((s.size:Int)<=20000)=decide (s.size<=20000):=decide_eq_decide.2 oB;go_enter func37,ntmps37;go_wp2;exact mBk
theorem Qej (s:ByteArray) (hs:s.size<=maxLen) (w:World) :
  Calls prog 68 #[.string s] w fun e w'=>e=.returned (.int .u64 (QbZ s))/\w'=w:=by
 unfold maxLen at hs;have ac:=get_bt s;go_enter func68,ntmps68;go_wp2
 go_loop [3,4] (fun h i=>∃ k:Nat,k<=s.size/\i=.int .i64 k/\h=.int .u64 (hx s k)) (fun h i=>s.size - (Go.RowKit.intOf i).toNat)
 case atStart=>exact ⟨0,ZZj _,rfl,rfl⟩
 case round=>
  obtain ⟨k,hk,rfl,rfl⟩:=hrel;by_cases ab:k<s.size
  ·have aa:=QpI s k
   obtain ⟨B,hB⟩:∃ B,bt s k=B:=⟨_,rfl⟩;rw [hB] at aa;obtain ⟨H,hH⟩:∃ H,hx s k=H:=⟨_,rfl⟩;have HS:Hid (IntKind.u64.wrap (bits BinOp.xor IntKind.u64 H B*1099511628211)=hx s (k+1)):=by rw [<- hB,<- hH];rfl
   go_wp2
   go_round
   case rel=>exact ⟨k+1,by omega,by go_num,by rw [<- HS.out]⟩
   case measure=>simp [zI];omega
  ·have e:k=s.size:=by omega
   have HB:Hid (hx s k=QbZ s):=Qaa oT;clear e;go_wp2;go_ret;exact ⟨QuZ HB,rfl⟩
theorem Qmv (s:ByteArray) (hs:s.size<=maxLen) (w:World) :
  Calls prog 122 #[.string s] w fun e w'=>e=.returned (.int .u64 (Qkn s))/\w'=w:=by
 have hz:s.size<=9223372036854775807:=hs;have ac:=get_bt s;by_cases h:s.size<=20000
 ·have e1:decide (s.size<=20000)=true:=ZZh h
  have HF:Hid (QbZ s=Qkn s):=(Qjs h).symm;clear h;go_enter func122,ntmps122;go_wp2_with (go_at_call 37;refine (QeB _ hs _).mono ?_;rintro e w1 ⟨rfl,rfl⟩)
  go_loop [3,10,4] (fun h i _=>∃ k:Nat,k<=s.size/\i=.int .i64 k/\h=.int .u64 (hx s k)) (fun h i _=>s.size - (Go.RowKit.intOf i).toNat)
  case atStart=>exact ⟨0,ZZj _,rfl,rfl⟩
  case round=>
   obtain ⟨k,hk,rfl,rfl⟩:=hrel;by_cases ab:k<s.size
   ·have aa:=QpI s k
    obtain ⟨B,hB⟩:∃ B,bt s k=B:=⟨_,rfl⟩;rw [hB] at aa;obtain ⟨H,hH⟩:∃ H,hx s k=H:=⟨_,rfl⟩;have HS:Hid (IntKind.u64.wrap (bits BinOp.xor IntKind.u64 H B*1099511628211)=hx s (k+1)):=by rw [<- hB,<- hH];rfl
    go_wp2
    go_round
    case rel=>exact ⟨k+1,by omega,by go_num,by rw [<- HS.out]⟩
    case measure=>simp [zI];omega
   ·have e:k=s.size:=by omega
    have HB:Hid (hx s k=Qkn s):=Qaa (by rw [<- HF.out,e];rfl);clear e;go_wp2;go_ret;exact ⟨QuZ HB,rfl⟩
 ·have e1:decide (s.size<=20000)=false:=ZZg h
  have HF:Hid (0=Qkn s):=(QrX h).symm;clear h;go_enter func122,ntmps122;go_wp2_with (go_at_call 37;refine (QeB _ hs _).mono ?_;rintro e w1 ⟨rfl,rfl⟩);go_ret;exact ⟨QuZ HF,rfl⟩
abbrev Mk:=Int×ByteArray
def mle (a b:Mk):Prop:=a.1<b.1∨(a.1=b.1/\QaJ b.2 a.2=false)
theorem QoR {a b c:Mk} (h:mle a b) (k:mle b c):mle a c:=by
 rcases h with h | ⟨e,h⟩ <;> rcases k with k | ⟨e2,k⟩
 ·exact .inl oB
 ·exact .inl oB
 ·exact .inl oB
 ·exact .inr ⟨by omega,QgM h k⟩
theorem Qvv {a b:Mk} (h:mle a b) (k:mle b a):a=b:=by
 rcases h with h | ⟨e,h⟩ <;> rcases k with k | ⟨e2,k⟩
 ·omega
 ·omega
 ·omega
 ·rcases QeS h with q | q
  ·rw [q] at k;cases k
  ·exact Prod.ext e q.symm
def mgt (a m:Mk):Bool:=decide (m.1<a.1) || (a.1 == m.1 && QaJ m.2 a.2)
theorem mgt_f {a m:Mk} (h:mgt a m=false):mle a m:=by
 unfold mgt at h;simp only [Bool.or_eq_false_iff,Bool.and_eq_false_iff,decide_eq_false_iff_not,beq_eq_false_iff_ne] at h;by_cases e:a.1=m.1
 ·exact .inr ⟨e,by rcases h.2 with q | q;exact absurd e q;exact q⟩
 ·exact .inl oB
theorem QjI:∀ (l l':List Mk),l.Perm l'->l.Pairwise mle->l'.Pairwise mle->l=l'
 | [],l',h,_,_=>by simpa using h.symm
 | a :: l,[],h,_,_=>by simp at h
 | a :: l,b :: l',h,p,q=>by
  have e:a=b:=by
   have ha:a∈b :: l':=h.mem_iff.1 List.mem_cons_self;have hb:b∈a :: l:=h.mem_iff.2 List.mem_cons_self;rcases List.mem_cons.1 ha with e | ha
   ·exact e
   ·rcases List.mem_cons.1 hb with e | hb
    ·exact e.symm
    ·exact Qvv ((List.pairwise_cons.1 p).1 b hb) ((List.pairwise_cons.1 q).1 a ha)
  subst e;rw [QjI l l' (List.Perm.cons_inv h) (List.pairwise_cons.1 p).2 (List.pairwise_cons.1 q).2]
variable {R:List Mk}
theorem QnX {m:Mk} (hR:R.Pairwise mle) (hn:n<=R.length) (hlo:n=0∨∃ a,R[n - 1]?=some a/\mle a m) (hhi:∀ j a,n<=j->R[j]?=some a->mle m a) :
  (R.take n ++ m :: R.drop n).Pairwise mle:=by
 have hp:(R.take n ++ R.drop n).Pairwise mle:=by rw [List.take_append_drop];exact hR
 obtain ⟨p1,p2,p3⟩:=List.pairwise_append.1 hp;refine List.pairwise_append.2 ⟨p1,List.pairwise_cons.2 ⟨fun a ha=>?_,p2⟩,fun a ha b hb=>?_⟩
 ·obtain ⟨j,hj⟩:=List.getElem?_of_mem ha
  rw [List.getElem?_drop] at hj;exact hhi (n+j) a oB hj
 ·rcases List.mem_cons.1 hb with rfl | hb
  ·obtain ⟨j,hj⟩:=List.getElem?_of_mem ha
   have ab:=(ZZd.1 hj).1;rw [List.length_take] at ab;rw [List.getElem?_take,if_pos oB] at hj;rcases hlo with h0 | ⟨c,hc,aa⟩
   ·omega
   ·by_cases e:j=n - 1
    ·rw [e,hc] at hj;obtain rfl:=Option.some.inj hj;exact aa
    ·have ac:=(ZZd.1 hc).1
     refine QoR ?_ aa;have:=List.pairwise_iff_getElem.1 hR j (n - 1) oB ac oB;rw [(List.getElem?_eq_some_iff.1 hj).2,(List.getElem?_eq_some_iff.1 hc).2] at this;exact this
  ·exact p3 a ha b hb
variable {α:Type}
theorem Qs9 (R:List α) (m:α) (n:Nat):(R.take n ++ m :: R.drop n).Perm (R ++ [m]):=by
 have h1:(R.take n ++ m :: R.drop n).Perm (m :: (R.take n ++ R.drop n)):=List.perm_middle;rw [List.take_append_drop] at h1;exact h1.trans (List.perm_append_singleton m R).symm
def QkE (u:ByteArray) (k:Nat):ByteArray:=u ++ ⟨#[35]⟩ ++ ⟨(Lib.decDigits k).toArray⟩
def nth (L:List ByteArray) (p:Nat):ByteArray:=L.getD p ByteArray.empty
theorem Qe6 (h:L[p]?=some u):nth L p=u:=by simp [nth,List.getD,h]
def atOf (L:List ByteArray) (j:Nat):Int:=QbZ (QkE (nth L (j / 8)) (j % 8))
def prOf (L:List ByteArray) (j:Nat):Int×Nat:=(atOf L j,j / 8)
def mkOf (L:List ByteArray) (j:Nat):Mk:=(atOf L j,nth L (j / 8))
def prs (L:List ByteArray) (m:Nat):List (Int×Nat):=(List.range m).map (prOf L)
def mks (L:List ByteArray) (m:Nat):List Mk:=(List.range m).map (mkOf L)
theorem Qsg (L:List ByteArray) (m:Nat):prs L (m+1)=prs L m ++ [prOf L m]:=by simp [prs,List.range_succ]
theorem QrO (L:List ByteArray) (m:Nat):mks L (m+1)=mks L m ++ [mkOf L m]:=by simp [mks,List.range_succ]
theorem QlO (L:List ByteArray) (m:Nat):(prs L m).length=m:=by simp [prs]
theorem Ql7 (L:List ByteArray) (m:Nat):(mks L m).length=m:=by simp [mks]
theorem at_eq (h:L[p]?=some u) (hk:k<8):atOf L (8*p+k)=QbZ (QkE u k):=by
 unfold atOf;rw [show (8*p+k) / 8=p by omega,show (8*p+k) % 8=k by omega,Qe6 h]
theorem pr_eq (h:L[p]?=some u) (hk:k<8):prOf L (8*p+k)=(QbZ (QkE u k),p):=by
 unfold prOf;rw [at_eq h hk,show (8*p+k) / 8=p by omega]
theorem mk_eq (h:L[p]?=some u) (hk:k<8):mkOf L (8*p+k)=(QbZ (QkE u k),u):=by
 unfold mkOf;rw [at_eq h hk,show (8*p+k) / 8=p by omega,Qe6 h]
def Qh4 (L:List ByteArray) (x:Int×Nat):Mk:=(x.1,nth L x.2)
theorem QuO (L:List ByteArray) (m:Nat):mks L m=(prs L m).map (Qh4 L):=by
 unfold mks prs;rw [List.map_map];rfl
theorem QtV (k:Nat) (hk:k<8):(Lib.decDigits k).length=1:=by rw [Lib.decDigits_one oB];rfl
def QeQ (L:List ByteArray) (R:List Mk):Prop:=R.Perm (mks L (8*L.length))/\R.Pairwise mle
theorem QrW {R':List Mk} (h:QeQ L R) (k:QeQ L R'):R=R':=QjI _ _ (h.1.trans k.1.symm) h.2 k.2
theorem Qiu (h:QeQ L R):R.length=8*L.length:=by rw [h.1.length_eq,Ql7]
theorem QbA (h:Qaj L=true):1<=L.length/\L.length<=12:=by
 unfold Qaj at h;simp only [yB,decide_eq_true_eq] at h;exact ⟨h.1.1,h.1.2⟩
theorem Qo8 (h:Qaj L=true) (hk:k<L.length):okB L k=true:=by
 unfold Qaj at h;simp only [yB,decide_eq_true_eq] at h;exact Qs6 _ hk h.2
theorem Qv1 (h:okB L k=true) (hu:L[k]?=some u):QaF u=true:=by
 cases e:QaF u with
 | true=>rfl
 | false=>rw [Qul hu e] at h;cases h
theorem Qdo (h:Qaj L=true) (hu:u∈L):QaF u=true:=by
 obtain ⟨k,hk⟩:=List.getElem?_of_mem hu;exact Qv1 (Qo8 h (ZZd.1 hk).1) hk
theorem QdG (h:QaF u=true):1<=u.size/\u.size<=40:=by
 unfold QaF at h;simp only [yB,decide_eq_true_eq] at h;exact ⟨h.1.1.1,h.1.1.2⟩
theorem Qj2 (h:Qaj L=true) {j:Nat} {p:ByteArray} (hp:L[j]?=some p) (hu:L[j+1]?=some u):QaJ p u=true:=by
 have:=Qo8 h (ZZd.1 hu).1;rw [QrU hp hu,yB] at this;exact this.2
theorem Qdj {L:List ByteArray} (h:Qaj L=true) {i:Nat} {p:ByteArray} (hp:L[i]?=some p):∀ (d:Nat) {u:ByteArray},L[i+d+1]?=some u->QaJ p u=true
 | 0,u,hu=>Qj2 h hp hu
 | d+1,u,hu=>by
  obtain ⟨q,hq⟩:∃ q,L[i+d+1]?=some q:=⟨_,ZZe (by have:=(ZZd.1 hu).1;omega)⟩;exact QcX (Qdj h hp d hq) (Qj2 h hq hu)
def cfP (x y:Int×Nat):Int:=if x=y then 0 else if x.1<y.1 then -1 else if x.1=y.1/\x.2<y.2 then -1 else 1
def ltP (x y:Int×Nat):Bool:=decide (x.1<y.1∨(x.1=y.1/\x.2<y.2))
theorem cfP_lt (x y:Int×Nat):decide (cfP x y<0)=ltP x y:=by
 unfold cfP ltP;by_cases e:x=y
 ·subst e;rw [if_pos rfl];simp
 ·rw [if_neg e]
  by_cases h1:x.1<y.1
  ·rw [if_pos h1,decide_eq_true (show (-1:Int)<0 by omega),decide_eq_true (.inl h1)]
  ·rw [if_neg h1]
   by_cases h2:x.1=y.1/\x.2<y.2
   ·rw [if_pos h2,decide_eq_true (show (-1:Int)<0 by omega),decide_eq_true (.inr h2)]
   ·rw [if_neg h2,decide_eq_false (show ¬ (1:Int)<0 by omega),decide_eq_false (by rintro (h | h);exact h1 h;exact h2 h)]
theorem swoP:Sort.SWO ltP where
 irrefl x:=by simp [ltP]
 trans x y z h1 h2:=by simp only [ltP,decide_eq_true_eq] at *; omega
 ntrans x y z h1 h2:=by simp only [ltP,decide_eq_false_iff_not] at *; omega
theorem Qd1 [Inhabited α] (d:Array α) (i:Nat) (h:i<d.size):d.toList[i]'oU=d[i]!:=by
 simp [h]
variable {d:Array (Int×Nat)}
theorem Qjb (hL:Qaj L=true) {d':Array (Int×Nat)} (hd:d.toList=prs L (8*L.length)) (hp:Sort.PermIn 0 d.size d d') (hs:Sort.SortedIn ltP 0 d.size d') :
  QeQ L (d'.toList.map (Qh4 L))/\(∀ x∈d'.toList,x.2<L.length)/\d'.size=8*L.length:=by
 obtain ⟨hz,_,ab⟩:=hp;have ai:d.size=8*L.length:=by rw [<- Array.length_toList,hd,QlO]
 have e1:d'.extract 0 d.size=d':=by rw [<- hz];simp
 have e2:d.extract 0 d.size=d:=oE
 rw [e1,e2,hd] at ab
 have aa:∀ x∈d'.toList,x.2<L.length:=fun x hx=>by
  have ad:=ab.mem_iff.1 hx;unfold prs at ad;obtain ⟨j,hj,rfl⟩:=List.mem_map.1 ad;have:=List.mem_range.1 hj
  show j / 8<_
  omega
 refine ⟨⟨?_,?_⟩,aa,by omega⟩
 ·rw [QuO];exact ab.map _
 ·rw [List.pairwise_map]
  rw [List.pairwise_iff_getElem];intro i j hi hj af;have ae:i<d'.size:=by simpa using hi
  have ah:j<d'.size:=by simpa using hj
  have ac:=hs i j (ZZj _) af oB;rw [<- Qd1 d' i ae,<- Qd1 d' j ah] at ac;have ha:=aa _ (List.getElem_mem hi);have hb:=aa _ (List.getElem_mem hj);generalize d'.toList[i]=a at *;generalize d'.toList[j]=b at *;simp only [ltP,decide_eq_false_iff_not] at ac;by_cases e:a.1=b.1
  ·refine .inr ⟨e,?_⟩
   show QaJ (nth L b.2) (nth L a.2)=false
   by_cases e2:a.2=b.2
   ·rw [e2];exact Qcf _
   ·obtain ⟨p,hp⟩:∃ p,L[a.2]?=some p:=⟨_,ZZe ha⟩
    obtain ⟨u,hu⟩:∃ u,L[b.2]?=some u:=⟨_,ZZe hb⟩;rw [Qe6 hp,Qe6 hu];have ag:L[a.2+(b.2 - a.2 - 1)+1]?=some u:=by rw [show a.2+(b.2 - a.2 - 1)+1=b.2 by omega];exact hu
    exact Qhb (Qdj hL hp _ ag)
  ·exact .inl (by show a.1<b.1;omega)
def Qkm (x:Int×Nat):List Value:=[.int .u64 x.1,.int .u64 x.2]
def QeU (m:Mk):List Value:=[.int .u64 m.1,.string m.2]
theorem encP2 (x:Int×Nat):(Qkm x).length=2:=rfl
theorem Qg6 (x:Mk):(QeU x).length=2:=rfl
theorem Qv5 {m:Type->Type} [Monad m] {β:Type} (b:β) (f:Nat->β->m (ForInStep β)):(forIn ([0:2]:Std.Legacy.Range) b fun i r=>f i r)=(do
  match <- f 0 b with
  | .done r=>pure r
  | .yield r=>match <- f 1 r with
   | .done r=>pure r
   | .yield r=>pure r):=by
 rw [Std.Legacy.Range.forIn_eq_forIn_range']
 rfl
theorem QfZ {P:Program} (w:World) (d:Nat) (t e:TypeId) (k:IntKind) (a p b q:Int) (ht:P.underlying t=some (.array 2 e)) (he:P.underlying e=some (.int k))
  (hi:∀ w,(isAgg e).run P w=.ok false w) (hz:∀ w,(sizeOf e).run P w=.ok 1 w) :
  (Op.equalIn (d+1+1) t (.agg #[.int k a,.int k p]) (.agg #[.int k b,.int k q])).run P w=.ok (a == b && p == q) w:=by
 rw [Op.equalIn];simp only [Sem.run_bind,run_underlying ht,Result.andThen_ok,hz];have p0:∀ x y w,(part e #[x,y] (0*1)).run P w=.ok x w:=fun x y w=>by simp [part,hi]
 have p1:∀ x y w,(part e #[x,y] (1*1)).run P w=.ok y w:=fun x y w=>by simp [part,hi]
 have q0:∀ x y w,(Op.equalIn (d+1) e (.int k x) (.int k y)).run P w=.ok (x == y) w:=fun x y w=>run_equalIn_int w d e k k x y he;rw [Qv5];simp only [Sem.run_bind,p0,q0,Result.andThen_ok];by_cases h1:a=b <;> by_cases h2:p=q <;> simp [h1,h2,p1,q0]
theorem Qrz (a p b q:Int) (w:World):(binOp .eql 243 (.agg #[.int .u64 a,.int .u64 p]) (.agg #[.int .u64 b,.int .u64 q])).run prog w=.ok (.bool (a == b && p == q)) w:=by
 have a5:=Tryz.isAgg241;have z5:=Tryz.sizeOf241;have hS:prog.underlying 243=some (.struct (prog.fieldsOf 243)):=oG
 have hp:prog.stoodInHeld 243=false:=oG
 have hq:=fun w=>QfZ (P:=prog) w 9997 241 33 .u64 a p b q underlying241 underlying33 Tryz.isAgg33 Tryz.sizeOf33;rw [run_eql_struct,show (10000:Nat)=9999+1 from rfl,run_equalIn_agg w 9999 243 _ _ hS hp];simp only [Program.fieldsOf,underlying243];exact mCl
theorem QhG (x y:Int×Nat) (W:World):Calls prog 235 #[.agg #[.int .u64 x.1,.int .u64 x.2],.agg #[.int .u64 y.1,.int .u64 y.2]] W fun e w'=>e=.returned (.int .i64 (cfP x y))/\∃ q os',w'=grow (W.drewN q) os':=by
 obtain ⟨a,p⟩:=x;obtain ⟨b,q⟩:=y;have he:=Qrz a p b q;have ab:∀ (c d:Int) (w1:World),c=d->(∃ q os',w1=grow (W.drewN q) os')->Ending.returned (.int .i64 c)=.returned (.int .i64 d)/\∃ q os',w1=grow (W.drewN q) os':=fun c d w1 h k=>⟨by rw [h],k⟩;have aa:Hid _:=ab;have hg:∀ o1 o2:Obj,∃ q os',(W.alloc o1).alloc o2=grow (W.drewN q) os':=fun o1 o2=>⟨0,_,by rw [alloc_eq_grow,alloc_eq_grow,grow_grow];rfl⟩;have HG:Hid _:=hg;clear ab hg;by_cases e1:a=b
 ·subst e1
  by_cases e2:p=q
  ·subst e2
   have HC:Hid (0=cfP (a,p) (a,p)):=Qaa (by simp [cfP]);exact mBv
  ·have e3:((p:Int) == (q:Int))=false:=ZZf.2 oB
   by_cases e4:p<q
   ·have HC:Hid (-1=cfP (a,p) (a,q)):=Qaa (by simp [cfP,e2,e4])
    have e5:(p:Int)<(q:Int):=oB
    clear e2;exact mBv
   ·have HC:Hid (1=cfP (a,p) (a,q)):=Qaa (by simp [cfP,e2,e4])
    clear e2;exact mBv
 ·have e3:(a == b)=false:=ZZf.2 e1
  by_cases e4:a<b
  ·have HC:Hid (-1=cfP (a,p) (b,q)):=Qaa (by simp [cfP,e1,e4])
   clear e1;exact mBv
  ·have HC:Hid (1=cfP (a,p) (b,q)):=Qaa (by simp [cfP,e1,e4])
   clear e1;exact mBv
theorem infoP:(prog.info? 243).map (fun i=>(i.zero,i.size,i.bytes))=some (some (.agg #[.int .u64 0,.int .u64 0]),2,16):=oG
theorem QkS [Inhabited α] {e:α->List Value} (he:∀ x,(e x).length=2) {cp:Nat} {T:TypeId} {xs:List α} (h:w.ownsRow B T 2 (.slice (some ⟨g,0,none⟩) xs.length cp) xs.length (fl e xs)):HoldsK e 2 w g 0 xs.toArray:=by
 intro j hj;have aa:j<xs.length*2:=by simpa using hj
 rw [Nat.zero_add];refine ⟨?_,h.frozenAt j⟩;rw [h.cellAt j aa,get_flatK _ _ _ _ (by simpa using aa)];have hi:j / 2<xs.length:=oB
 obtain ⟨x,hx⟩:∃ x,xs[j / 2]?=some x:=⟨_,ZZe hi⟩;have h1:=Qd6 he xs (j / 2) x (j % 2) oB hx;rw [show j / 2*2+j % 2=j by omega] at h1
 have h2:xs.toArray[j / 2]! = x:=by
  have:=(ZZd.1 hx).2;simp [hi,this]
 rw [h1,h2];have hm:j % 2<(e x).length:=by rw [he];omega
 simp [hm]
theorem Ql5 [Inhabited α] (e:α->List Value) (k:Nat) (w:World) (g o n:Nat) (d:Array α) (os:Array Obj):w.grownBy (sortWorldK e k w g o n d os) (some g):=by
 exact mB0
theorem ltC:ltOf cfP=ltP:=by funext x y;exact cfP_lt x y
theorem swoC:SWO (ltOf cfP):=by rw [ltC];exact swoP
theorem Qre {a b:Nat} (h:SortedIn (ltOf cfP) a b d):SortedIn ltP a b d:=by rw [<- ltC];exact h
variable {ao:Option Addr}
theorem QnZ (cap:Nat) (hL:Qaj L=true) (hA:Qat w ao L) :
  Calls prog 183 #[.slice ao L.length cap] w fun e w'=>∃ g cp d',e=.returned (.slice (some ⟨g,0,none⟩) (8*L.length) cp)/\w.heap.size<=g/\g<w'.heap.size/\HoldsK Qkm 2 w' g 0 d'/\QeQ L (d'.toList.map (Qh4 L))/\(∀ x∈d'.toList,x.2<L.length)/\d'.size=8*L.length/\Bw w w':=by
 obtain ⟨i0,hi,aA,av,ax⟩:=info_parts infoP;obtain ⟨ay,ai⟩:=QbA hL;obtain ⟨N,hN⟩:∃ N,L.length=N:=⟨_,rfl⟩;have HN:Hid (L.length=N):=hN;have HL:Hid (Qaj L=true):=hL;rw [hN] at ay ai;rw [hN];clear hN hL;go_enter func183,ntmps183;go_wp2
 go_loopw [3,9] (fun v i wr=>∃ p:Nat,p<=N/\i=.int .i64 p/\wr.ownsRow w.heap.size 243 2 v (8*p) (fl Qkm (prs L (8*p)))/\Bw w wr) (fun v i wr=>N - (Go.RowKit.intOf i).toNat)
 case atStart=>exact ⟨0,ZZj _,rfl,World.ownsRow_nil _ _ _ _,ZZb _ _⟩
 case round=>
  obtain ⟨p,hp,rfl,ab,aa⟩:=hrel;by_cases aE:p<N
  ·obtain ⟨b,aB,rfl,ad⟩:=hA (oA HN.out)
   obtain ⟨u,ah⟩:∃ u,L[p]?=some u:=⟨L[p]'(oA HN.out),ZZe _⟩;have aD:=(QdG (Qdo HL (ZZn ah))).2;have HU:Hid (L[p]?=some u):=ah;have HC:Hid (w.cell? ⟨b,aB+p,none⟩=some (.string u)):=ad p u ah;clear ad ah;go_wp2
   go_loopw [3,12] (fun v2 i wr2=>∃ k:Nat,k<=8/\i=.int .i64 k/\wr2.ownsRow w.heap.size 243 2 v2 (8*p+k) (fl Qkm (prs L (8*p+k)))/\Bw w wr2) (fun v2 i wr2=>8 - (Go.RowKit.intOf i).toNat)
   case atStart=>exact ⟨0,ZZj _,rfl,ab,aa⟩
   case round=>
    clear ab aa;obtain ⟨k,hk,rfl,ab,aa⟩:=hrel;by_cases am:k<8
    ·obtain ⟨D,hD⟩:∃ D:ByteArray,D=⟨(Lib.decDigits k).toArray⟩:=⟨_,rfl⟩
     have aw:D.size=1:=by rw [hD];show (Lib.decDigits k).toArray.size=1;rw [List.size_toArray];exact QtV k am
     have ak:=fun W=>Tryz.strconv_Itoa_small k oB W;rw [<- hD] at ak;obtain ⟨X,hX⟩:∃ X:Int,X=Qkn (u ++ ⟨#[35]⟩ ++ D):=⟨_,rfl⟩;have an:(u ++ ⟨#[35]⟩ ++ D).size=u.size+2:=by rw [ByteArray.size_append,ByteArray.size_append,aw];rfl
     have al:=fun W=>Qmv (u ++ ⟨#[35]⟩ ++ D) oC W;rw [<- hX] at al
     have HX:Hid (prs L (8*p+(k+1))=prs L (8*p+k) ++ [(X,p)]):=by
      rw [<- Nat.add_assoc,Qsg,pr_eq HU.out am,hX,Qjs oB,hD];rfl
     have hc:=Qab aa HC;have aq:(⟨#[35]⟩:ByteArray).size=1:=rfl;have aF:IntKind.u64.wrap (p:Int)=p:=by rw [IntKind.wrap_u64];omega
     have HO:Hid (∀ n,(wr.drewN n).ownsRow w.heap.size 243 2 u3 (8*p+k) (fl Qkm (prs L (8*p+k)))):=fun _=>ab;have HB:Hid (∀ n,Bw w (wr.drewN n)):=fun n=>Qap aa n;have ag:=aa.size;clear hD hX an ab aa;go_wp2
     go_quiet (first | (go_at_call 233;refine Calls.quiet_of_same (ak _)) | (go_at_call 122;refine Calls.quiet_of_same (al _)))
     go_wp2_with (at_builtin;refine wpList_append_own _ rfl _ _ 239 rfl w.heap.size 243 i0 (.agg #[.int .u64 0,.int .u64 0]) 2 16 underlying239 hi aA av ax rfl oF _ _ _ rfl ((HO.out _).alloc _) ⟨wr.heap.size,0,none⟩ 1 1 (Qkm (X,p)) rfl rfl ?c1 ?c2 ?c3 ?c4 ?c5 ?_)
     case c1=>
      exact Qav (cs:=#[.int .u64 X,.int .u64 p]) oR
     case c2=>intro v hv;simp [Qkm] at hv;rcases hv with rfl | rfl <;> rfl
     case c3=>unfold maxLen;omega
     case c4=>omega
     case c5=>simp;omega
     ·intro v' w1 ae af _
      have R:w1.ownsRow w.heap.size 243 2 v' (8*p+(k+1)) (fl Qkm (prs L (8*p+(k+1)))):=QmJ ae rfl (by rw [HX.out,Qip,Qrq]);have R2:Bw w w1:=((HB.out _).alloc (by exact ag) _).grown af oH (fun j hj=>((HO.out 0).lt j hj).1);clear ae af HO HB;go_wp2;go_roundw
      case rel=>exact ⟨k+1,by omega,by go_num,R,R2⟩
      case measure=>simp [zI];omega
    ·have e:k=8:=by omega
     subst e;have HO:Hid (wr.ownsRow w.heap.size 243 2 u3 (8*(p+1)) (fl Qkm (prs L (8*(p+1))))):=ab;have HB:Hid (Bw w wr):=aa;clear ab aa;go_wp2;go_roundw
     case rel=>exact ⟨p+1,by omega,by go_num,HO,HB⟩
     case measure=>simp [zI];omega
  ·have e:p=N:=by omega
   subst e
   obtain ⟨g,cp,rfl,hg,aj,hH⟩:∃ g cp,u3=.slice (some ⟨g,0,none⟩) (8*p) cp/\w.heap.size<=g/\g<wr.heap.size/\HoldsK Qkm 2 wr g 0 (prs L (8*p)).toArray:=by
    have h2:=ab.2;rcases h2 with ⟨_,e⟩ | ⟨g,cp,aC,e,hb,hk,_⟩
    ·omega
    ·subst e
     refine ⟨g,cp,rfl,hb,(ZZc.1 hk).1,?_⟩;refine QkS (xs:=prs L (8*p)) (B:=w.heap.size) (T:=243) (cp:=cp) encP2 ?_;have hl:=QlO L (8*p);rw [hl];exact ab
   have ag:(prs L (8*p)).toArray.size=8*p:=by rw [List.size_toArray,QlO]
   have eg:∀ args w,(callFunc 235 args).run prog w=.ok (.enter 235 args) w:=enters_of func235 oG rfl;have ac:=AnyQ.slices_SortFunc (α:=Int×Nat) Tryz.laysSortM 2 Tryz.isAgg243 Tryz.sizeOf243 Qkm encP2 (fun x v hv=>by simp [Qkm] at hv;rcases hv with rfl | rfl <;> rfl) cfP swoC 235 #[] g 0 cp (prs L (8*p)).toArray wr eg (fun _ _ _ _ x y=>QhG x y _) hH aj (by rw [ag];omega);rw [ag] at ac
   change Calls prog 234 _ _ _ at ac
   have HH:Hid (HoldsK Qkm 2 wr g 0 (prs L (8*p)).toArray):=hH;have HB:Hid (Bw w wr):=aa;have HG:Hid (w.heap.size<=g/\g<wr.heap.size):=⟨hg,aj⟩;clear ab aa hA hH hg aj eg;go_wp2_with (go_at_call 234;refine ac.mono ?_;rintro e w1 ⟨rfl,d',n,os,au,ap,rfl⟩);clear ac;go_ret;have hN:=HN.out;have hR:=Qjb HL (d:=(prs L (8*p)).toArray) (d':=d') (by rw [hN]) (by rw [ag];exact au) (by rw [ag];exact Qre ap);have ar:HoldsK Qkm 2 (sortWorldK Qkm 2 wr g 0 n d' os) g 0 d':=holdsK_sortWorldK_c _ _ _ _ _ _ d' _ _ HH HG.2 (by rw [ag,hR.2.2,hN]);have az:Bw w (sortWorldK Qkm 2 wr g 0 n d' os):=HB.grown (Ql5 _ _ _ _ _ _ _ _) HB.size (fun j hj=>by cases hj;exact HG.1);refine ⟨g,cp,d',rfl,HG.1,?_,ar,hR.1,?_,?_,az⟩
   ·exact Nat.lt_of_lt_of_le HG.2 (size_sortWorldK_c _ _ _ _ _ _ _ _)
   ·rw [<- hN];exact hR.2.1
   ·rw [<- hN];exact hR.2.2
def Qpv (L:List ByteArray) (R:List Mk):Prop:=(Qaj L=true/\QeQ L R)∨(Qaj L=false/\R=[])
theorem QuA (h:Qpv L R):R.length<=96:=by
 rcases h with ⟨h1,h2⟩ | ⟨h1,rfl⟩
 ·have:=QbA h1;rw [Qiu h2];omega
 ·simp
def Qdd (R:List Mk) (k:Nat):List Mk:=R.take k ++ List.replicate (R.length - k) ((0,ByteArray.empty):Mk)
theorem Qok (R:List Mk):Qdd R 0=List.replicate R.length (0,ByteArray.empty):=by simp [Qdd]
theorem Qq3 (R:List Mk):Qdd R R.length=R:=by simp [Qdd]
theorem Qqk (R:List Mk) (k:Nat) (hk:k<=R.length):(Qdd R k).length=R.length:=by simp [Qdd];omega
theorem Qp7 {u:Mk} (h:R[k]?=some u):(Qdd R k).set k u=Qdd R (k+1):=by
 have hk:=(ZZd.1 h).1;have hl:(R.take k).length=k:=by simp;omega
 unfold Qdd;rw [List.set_append_right _ _ oB,hl,Nat.sub_self,show R.length - k=(R.length - (k+1))+1 by omega,List.replicate_succ,List.set_cons_zero,List.take_add_one,h];simp
theorem Qnt (hk:k<R.length):(Qdd R k)[k]?=some (0,ByteArray.empty):=by
 have hl:(R.take k).length=k:=by simp;omega
 unfold Qdd;rw [List.getElem?_append_right oB,hl,Nat.sub_self,List.getElem?_replicate,if_pos oB]
theorem Qn8 (n:Nat):(madeCells (Value.agg zAi).cells (n*2)).toList=fl QeU (List.replicate n ((0,ByteArray.empty):Mk)):=by
 apply List.ext_getElem?;intro j;by_cases hj:j<n*2
 ·have h1:=Qd6 Qg6 (List.replicate n ((0,ByteArray.empty):Mk)) (j / 2) (0,ByteArray.empty) (j % 2) oB (by rw [List.getElem?_replicate,if_pos oB])
  rw [show j / 2*2+j % 2=j by omega] at h1;rw [h1];have:j % 2=0∨j % 2=1:=oB
  rcases this with e | e <;> simp [madeCells,hj,Value.cells,QeU,e]
 ·rw [List.getElem?_eq_none (by simp [size_madeCells];omega),List.getElem?_eq_none (by rw [Qdn Qg6];simp;omega)]
theorem infoM:(prog.info? 119).map (fun i=>(i.zero,i.size,i.bytes))=some (some (.agg zAi),2,24):=oG
theorem Qop (cap:Nat) (hl:L.length<=1048576) (hu:∀ u∈L,u.size<=1048576) (hA:Qat w ao L) :
  Calls prog 121 #[.slice ao L.length cap] w fun e w'=>∃ v R,e=.returned v/\Qpv L R/\w'.ownsRow w.heap.size 119 2 v R.length (fl QeU R)/\Bw w w':=by
 cases hL:Qaj L
 ·have ag:=Qb1 cap hl hu hA
  rw [hL] at ag;have HL:Hid (Qaj L=false):=hL;clear hL hA hu;go_enter func121,ntmps121;go_wp2_with (go_at_call 93;refine ag.mono ?_;rintro e w1 ⟨rfl,al⟩);go_ret;exact ⟨.slice none 0 0,[],rfl,.inr ⟨HL,rfl⟩,World.ownsRow_nil _ _ _ _,al⟩
 ·obtain ⟨i0,hi,aK,aG,aJ⟩:=info_parts infoM
  have ag:=Qb1 cap hl hu hA;rw [hL] at ag;have HL:Hid (Qaj L=true):=hL;have am:=(QbA hL).2;obtain ⟨N,hN⟩:∃ N,L.length=N:=⟨_,rfl⟩;have HN:Hid (L.length=N):=hN;have an:=fun W (h:Qat W ao L)=>QnZ cap hL h;rw [hN] at ag am an;rw [hN];clear hL hu hN hl;go_enter func121,ntmps121;go_wp2_with (go_at_call 93;refine ag.mono ?_;rintro e w1 ⟨rfl,al⟩)
  go_wp2_with (first
   | (go_at_call 183;refine (an _ (QaA hA al)).mono ?_;rintro e w2 ⟨gp,cp,d,rfl,hg,aP,hH,hR,ax,aB,aF⟩;have HR:Hid (QeQ L (d.toList.map (Qh4 L))):=hR;have HH:Hid (HoldsK Qkm 2 w2 gp 0 d):=hH;have HI:Hid (∀ x∈d.toList,x.2<N):=ax;clear hH hR ax)
   | (at_make;refine wpList_make_full _ rfl _ _ 115 rfl w2.heap.size 119 i0 (.agg zAi) 2 underlying115 hi aK aG .i64 .i64 _ _ (8*N) rfl rfl oB oB (by rw [aJ];omega) oC (Nat.le_refl _) ?_;intro w3 ae ac))
  have ar:Bw w w2:=Qac al aF;clear ag an;obtain ⟨R,au⟩:∃ R,R=d.toList.map (Qh4 L):=⟨_,rfl⟩;rw [<- au] at HR;have av:R.length=8*N:=by rw [au];simp [aB]
  have ay:Bw w2 w3:=(ZZb _ _).grown ac (ZZa _) (fun k e=>by cases e)
  have af:w3.ownsRow w2.heap.size 119 2 (.slice (some ⟨w2.heap.size,0,none⟩) (8*N) (8*N)) (8*N) (fl QeU (Qdd R 0)):=by
   rw [Qok,av,<- Qn8];exact ae
  clear ae ac;go_wp2
  go_loopw [17] (fun i wr=>∃ k:Nat,k<=8*N/\i=.int .i64 k/\wr.ownsRow w2.heap.size 119 2 (.slice (some ⟨w2.heap.size,0,none⟩) (8*N) (8*N)) (8*N) (fl QeU (Qdd R k))/\Bw w2 wr) (fun i wr=>8*N - (Go.RowKit.intOf i).toNat)
  case atStart=>exact ⟨0,ZZj _,rfl,af,ay⟩
  case round=>
   clear af ay;obtain ⟨k,hk,rfl,aa,ab⟩:=hrel;by_cases aL:k<8*N
   ·have aD:(k:Int)<8*(N:Int):=by omega
    obtain ⟨⟨aj,pl⟩,ak⟩:∃ x:Int×Nat,d[k]! = x:=⟨_,rfl⟩;have ah:k<d.size:=oB
    have ai:((aj,pl):Int×Nat)∈d.toList:=by
     rw [<- ak,<- Qd1 d k ah];exact List.getElem_mem _
    have aq:=HI.out _ ai
    have aM:wr.cell? ⟨gp,k*2,none⟩=some (.int .u64 aj):=by
     have h:=(HH.cell ah (show 0<2 by omega)).1;rw [Nat.zero_add,Nat.add_zero,ak] at h;exact Qab ab h
    have aN:wr.cell? ⟨gp,k*2+1,none⟩=some (.int .u64 pl):=by
     have h:=(HH.cell ah (show 1<2 by omega)).1;rw [Nat.zero_add,ak] at h;exact Qab ab h
    obtain ⟨b,aQ,rfl,ad⟩:=hA (oA HN.out);obtain ⟨u,aw⟩:∃ u,L[pl]?=some u:=⟨L[pl]'(by have:=HN.out;simp at aq;omega),List.getElem?_eq_getElem _⟩;have aE:=Qab ab (Qab ar (ad pl u aw))
    have aA:R[k]?=some (aj,u):=by
     rw [au,List.getElem?_map,List.getElem?_eq_getElem (by simpa using ah),Qd1 d k ah,ak];simp [Qh4,Qe6 aw]
    have ap:wr.cell? ⟨w2.heap.size,k*2,none⟩=some (.int .u64 0):=by
     rw [aa.cellAt _ oB];have:=Qd6 Qg6 (Qdd R k) k (0,ByteArray.empty) 0 oB (Qnt oB);exact mDs
    have az:wr.cell? ⟨w2.heap.size,k*2+1,none⟩=some (.string ByteArray.empty):=by
     rw [aa.cellAt _ oB];rw [Qd6 Qg6 (Qdd R k) k (0,ByteArray.empty) 1 oB (Qnt oB)];rfl
    have aC:=aa.frozenAt (k*2);have aH:=aa.frozenAt (k*2+1);have aO:w2.heap.size<wr.heap.size:=World.block_lt_of_cell? _ _ ap
    have HS:Hid (((fl QeU (Qdd R k)).set (k*2) (.int .u64 aj)).set (k*2+1) (.string u)=fl QeU (Qdd R (k+1))):=by
     rw [<- Qp7 aA];exact Qp2 Qg6 _ k (aj,u) (by rw [Qqk _ _ oB];omega) rfl
    have HO:Hid (wr.ownsRow w2.heap.size 119 2 (.slice (some ⟨w2.heap.size,0,none⟩) (8*N) (8*N)) (8*N) (fl QeU (Qdd R k))):=aa;have HB:Hid (Bw w2 wr):=ab;have aI:pl<N:=aq;have a1:=QcF aE;have a2:=QcF ap;have a3:=QcF az;have a4:∀ o,(wr.alloc o).frozen? ⟨w2.heap.size,k*2,none⟩=false:=fun o=>by rw [QbQ ((Below.refl _ _).alloc (Nat.le_refl _) o) ap];exact aC
    have a5:∀ o,(wr.alloc o).frozen? ⟨w2.heap.size,k*2+1,none⟩=false:=fun o=>by rw [QbQ ((Below.refl _ _).alloc (Nat.le_refl _) o) az];exact aH
    clear aa ab ai aq aw ad aA ak hA;go_wp2;go_region
    all_goals go_wp2
    go_roundw
    case rel=>
     refine ⟨k+1,by omega,by go_num,?_,?_⟩
     ·rw [<- HS.out]
      exact (((HO.stored _ _).1.stored _ _).1.alloc _).drew
     ·exact (((HB.setCell xU _).setCell xU _).alloc oH _).drew
    case measure=>simp [zI];omega
   ·have e:k=8*N:=by omega
    have aD:¬ (k:Int)<8*(N:Int):=oB
    have HO:Hid (wr.ownsRow w.heap.size 119 2 (.slice (some ⟨w2.heap.size,0,none⟩) (8*N) (8*N)) R.length (fl QeU R)):=by
     rw [e,<- av,Qq3] at aa;rw [<- av];exact aa.mono ar.size
    have HB:Hid (Bw w wr):=Qac ar ab;clear aa ab hA e;go_wp2;go_ret;exact ⟨_,rfl,R,.inl ⟨HL,HR⟩,HO,HB⟩
theorem Qds (N:Nat) (hN0:N≠0) (hN:N<=9223372036854775807) (w:World) :
  Calls prog 113 #[.int .i64 N] w fun e w'=>e=.returned (.string ⟨(Lib.decDigits N).toArray⟩)/\Bw w w':=by
 have ab:((N:Int) == 0)=false:=ZZf.2 oB;have ac:decide ((N:Int)<0)=false:=ZZg oB;go_enter func113,ntmps113;go_wp2
 go_loopw [0,4,5] (fun n o d wr=>∃ (m:Nat) (D:List UInt8),m<=N/\n=.int .i64 m/\o=.string ⟨D.toArray⟩/\Qv9 N m D/\Bw w wr) (fun n o d wr=>(Go.RowKit.intOf n).toNat)
 case atStart=>exact ⟨N,[],Nat.le_refl _,rfl,rfl,⟨fun h=>absurd h hN0,fun _=>by simp⟩,Below.refl _ _⟩
 case round=>
  obtain ⟨m,D,hm,rfl,rfl,hR,aa⟩:=hrel;by_cases k:m=0
  ·subst k
   have HR:Hid (Qv9 N 0 D):=hR;clear hR;go_wp2;go_ret;exact ⟨QdB (by rw [HR.1 rfl]),aa⟩
  ·obtain ⟨d,hd⟩:∃ d,d=m % 10:=⟨_,rfl⟩
   obtain ⟨q,hq⟩:∃ q,q=m / 10:=⟨_,rfl⟩;have HR:Hid (Qv9 N q (UInt8.ofNat (48+d) :: D)):=by rw [hd,hq];exact Qpy hR k
   have ae:=QsI hR (Ql4 N hN);have e1:Int.tmod (m:Int) 10=(d:Int):=by rw [hd];rfl
   have e2:Int.tdiv (m:Int) 10=(q:Int):=by rw [hq];rfl
   have hk:((m:Int) != 0)=true:=by simp;omega
   have ad:d<10:=oB
   have ag:q<m:=oB
   have e3:decide ((d:Int)<0)=false:=ZZg oB;have e4:IntKind.u8.wrap (48+(d:Int))=48+(d:Int):=IntWalk.u8_in _ ⟨by omega,by omega⟩;obtain ⟨B,hB⟩:∃ B,B=strOfNums [48+(d:Int)]:=⟨_,rfl⟩
   have kc:=run_convert_bytes_arg (P:=prog) (wr.alloc (.cells #[.int .u8 (48+(d:Int))] 5)) 22 5 underlying22 underlying5 wr.heap.size 0 1 1 [48+(d:Int)] rfl (fun i hi=>by
      obtain rfl:i=0:=oB
      simp) 9 underlying9
   rw [<- hB] at kc;have af:B.size=1:=by rw [hB];rfl
   have HB:Hid (B ++ ⟨D.toArray⟩=(⟨(UInt8.ofNat (48+d) :: D).toArray⟩:ByteArray)):=Qaa (by
    rw [hB,<- QvK];congr 1;)
   have hD:(⟨D.toArray⟩:ByteArray).size=D.length:=rfl;have HL:Hid (Bw w wr):=aa;have hz:=aa.size;clear hR hd hq k ab ac hB aa;go_wp2;go_roundw
   case rel=>exact ⟨q,UInt8.ofNat (48+d) :: D,by omega,rfl,by rw [HB.out],HR,HL.alloc oB _⟩
   case measure=>simp [zI];omega
theorem Qqp (k:Nat) (hk:k<8) (w:World) :
  Calls prog 113 #[.int .i64 k] w fun e w'=>e=.returned (.string ⟨(Lib.decDigits k).toArray⟩)/\Bw w w':=by
 rcases Nat.eq_zero_or_pos k with rfl | h
 ·have e:(⟨(Lib.decDigits 0).toArray⟩:ByteArray)=⟨#[48]⟩:=by rw [Lib.decDigits_one oB];rfl
  rw [e];go_enter func113,ntmps113;go_wp2;go_ret;exact ⟨rfl,ZZb _ _⟩
 ·exact Qds k oB oB w
theorem Qix (h:a.size+b.size<=1000000):Op.stringOp .add a b=pure (.string (a ++ b)):=by
 unfold Op.stringOp
 have:¬ (((a.size+b.size:Nat):Int) > IntKind.i64.max):=by
  have e:IntKind.i64.max=9223372036854775807:=oF
  rw [e];omega
 simp only [if_neg this]
theorem Qmk (m:Mk):∀ u∈QeU m,u.oneCell'=true:=fun u hu=>by simp [QeU] at hu;rcases hu with rfl | rfl <;> rfl
theorem Qqc (R:List Mk):∀ u∈fl QeU R,u.oneCell'=true:=fun u hu=>by
 obtain ⟨m,_,h⟩:=List.mem_flatMap.1 hu;exact Qmk m u h
theorem QlQ (cap:Nat) (hL:Qaj L=true) (hA:Qat w ao L) :
  Calls prog 67 #[.slice ao L.length cap] w fun e w'=>∃ g cp R,e=.returned (.slice (some ⟨g,0,none⟩) R.length cp)/\QeQ L R/\w'.ownsRow w.heap.size 119 2 (.slice (some ⟨g,0,none⟩) R.length cp) R.length (fl QeU R)/\Bw w w':=by
 obtain ⟨i0,hi,aF,aI,ar⟩:=info_parts infoM;obtain ⟨a9,aH⟩:=QbA hL;have bp:=op_gtr 9;obtain ⟨N,hN⟩:∃ N,L.length=N:=⟨_,rfl⟩;have HN:Hid (L.length=N):=hN;have HL:Hid (Qaj L=true):=hL;rw [hN] at a9 aH;rw [hN];clear hN hL;go_enter func67,ntmps67;go_wp2
 go_loopw [3,4] (fun v i wr=>∃ (p:Nat) (R:List Mk) (go co:Nat),p<=N/\i=.int .i64 p/\v=.slice (some ⟨go,0,none⟩) (8*p) co/\R.Perm (mks L (8*p))/\R.Pairwise mle/\wr.ownsRow w.heap.size 119 2 (.slice (some ⟨go,0,none⟩) (8*p) co) (8*p) (fl QeU R)/\Bw w wr) (fun v i wr=>N - (Go.RowKit.intOf i).toNat)
 case atStart=>exact ⟨0,[],w.heap.size,0,ZZj _,rfl,rfl,List.Perm.refl _,List.Pairwise.nil,World.ownsRow_made w #[] 0 (ZZa _) (ZZj _) rfl,(ZZb _ _).alloc (ZZa _) _⟩
 case round=>
  obtain ⟨p,R0,aG,aN,hp,rfl,rfl,ac,ai,ab,aa⟩:=hrel;by_cases bo:p<N
  ·obtain ⟨b,ba,rfl,aj⟩:=hA (oA HN.out)
   obtain ⟨u,aB⟩:∃ u,L[p]?=some u:=⟨L[p]'(oA HN.out),ZZe _⟩;have bm:=(QdG (Qdo HL (ZZn aB))).2;have HU:Hid (L[p]?=some u):=aB;have HC:Hid (w.cell? ⟨b,ba+p,none⟩=some (.string u)):=aj p u aB;clear aj aB;go_wp2
   go_loopw [3,5] (fun v2 i wr2=>∃ (k:Nat) (R:List Mk) (go co:Nat),k<=8/\i=.int .i64 k/\v2=.slice (some ⟨go,0,none⟩) (8*p+k) co/\R.Perm (mks L (8*p+k))/\R.Pairwise mle/\wr2.ownsRow w.heap.size 119 2 (.slice (some ⟨go,0,none⟩) (8*p+k) co) (8*p+k) (fl QeU R)/\Bw w wr2) (fun v2 i wr2=>8 - (Go.RowKit.intOf i).toNat)
   case atStart=>exact ⟨0,R0,aG,aN,ZZj _,rfl,rfl,ac,ai,ab,aa⟩
   case round=>
    clear ab aa ac ai;obtain ⟨k,R,go,co,hk,rfl,rfl,ac,ai,ab,aa⟩:=hrel;obtain ⟨M,hM⟩:∃ M,8*p+k=M:=⟨_,rfl⟩;rw [hM] at ac ab;rw [hM];by_cases aM:k<8
    ·obtain ⟨D,hD⟩:∃ D:ByteArray,D=⟨(Lib.decDigits k).toArray⟩:=⟨_,rfl⟩
     have aT:D.size=1:=by rw [hD];show (Lib.decDigits k).toArray.size=1;rw [List.size_toArray];exact QtV k aM
     have aJ:=fun W=>Qqp k aM W;rw [<- hD] at aJ;obtain ⟨X,hX⟩:∃ X:Int,X=QbZ (u ++ ⟨#[35]⟩ ++ D):=⟨_,rfl⟩;have a5:(u ++ ⟨#[35]⟩ ++ D).size=u.size+2:=by rw [ByteArray.size_append,ByteArray.size_append,aT];rfl
     have aK:=fun W=>Qej (u ++ ⟨#[35]⟩ ++ D) oC W;rw [<- hX] at aK
     have HX:Hid (mks L (M+1)=mks L M ++ [(X,u)]):=by
      rw [<- hM,QrO,mk_eq HU.out aM,hX,hD];rfl
     have hc:=Qab aa HC;have bf:b<wr.heap.size:=World.block_lt_of_cell? _ _ hc;have aC:(⟨#[35]⟩:ByteArray).size=1:=rfl;have az:Op.stringOp .add u ⟨#[35]⟩=pure (.string (u ++ ⟨#[35]⟩)):=Qix oB;have au:Op.stringOp .add (u ++ ⟨#[35]⟩) D=pure (.string (u ++ ⟨#[35]⟩ ++ D)):=Qix (by rw [ByteArray.size_append];omega);have HO:Hid (wr.ownsRow w.heap.size 119 2 (.slice (some ⟨go,0,none⟩) M co) M (fl QeU R)):=ab;have HB:Hid (Bw w wr):=aa;have HM:Hid (8*p+k=M):=hM;have bb:M<=96:=oB
     have HP:Hid (R.Perm (mks L M)/\R.Pairwise mle):=⟨ac,ai⟩;have aW:=aa.size;clear hD hX a5 ab aa ac ai hM;go_wp2_with fail
     go_cut [6] (fun v w'=>∃ g:Nat,v=.pointer (some ⟨g,0,none⟩)/\w'.cell? ⟨g,0,none⟩=some (.int .u64 X)/\w'.cell? ⟨g,1,none⟩=some (.string u)/\wr.heap.size<=g/\g<w'.heap.size/\Bw wr w')
     case first=>
      go_region_held3 (Qgw wr.heap.size wr)
       (refine held ?_ oE <;> first | exact (Below.refl _ _).drew | exact ((Below.refl _ _).alloc oE _).drew | exact aD | exact Below.alloc aD oB _ | exact Below.setCell (Below.setCell aD OE _) OE _)
       (first
        | (go_at_call 113;refine (aJ _).mono ?_;rintro e w1 ⟨rfl,ah⟩;obtain ⟨aD,bj⟩:=QbL ah ‹Qgw _ _ _›; (first | have hT:=Qac hT ah | have hT:=ah);obtain ⟨aX,bk⟩:=QhC hT;have ar:=ah.size; (try simp at ar);clear ah)
        | (go_at_call 68;refine (aK _).mono ?_;rintro e w1 ⟨rfl,a0⟩;subst a0))
      all_goals (go_wp2;go_meet)
      all_goals
       have hK:=‹Qgw _ _ _›;refine ⟨_,rfl,?_,?_,?_,?_,hK.1⟩
       ·go_simp
       ·go_simp
       ·omega
       ·first | (simp;done) | (simp;omega)
     case rest=>
      clear aJ aK az au hc aC aT;obtain ⟨g,rfl,a2,a6,bh,bl,hB⟩:=hcut;have am:Hid (wc.ownsRow w.heap.size 119 2 (.slice (some ⟨go,0,none⟩) M co) M (fl QeU R)):=QaX HO hB;have aL:Hid (Bw w wc):=HB.trans (hB.mono aW);have a1:R.length=M:=by rw [HP.1.length_eq,Ql7]
      clear HO HB hB;go_upto_block 4 with fail
      go_cut [7] (fun v w'=>∃ n q:Nat,v=.int .i64 n/\w'=wc.drewN q/\n<=M/\(n=0∨∃ a,R[n - 1]?=some a/\mle a (X,u))/\∀ j a,n<=j->R[j]?=some a->mle (X,u) a)
      case first=>
       go_wp2_with fail
       go_loopw [7] (fun i wr2=>∃ n q:Nat,n<=M/\i=.int .i64 n/\wr2=wc.drewN q/\∀ j a,n<=j->R[j]?=some a->mle (X,u) a) (fun i _=>(Go.RowKit.intOf i).toNat)
       case atStart=>exact ⟨M,0,ZZa _,rfl,rfl,fun j a hj h=>absurd (ZZd.1 h).1 oB⟩
       case round=>
        obtain ⟨n,q,hn,rfl,rfl,ay⟩:=hrel;have HH:Hid (∀ j a,n<=j->R[j]?=some a->mle (X,u) a):=ay;clear ay;rcases Nat.eq_zero_or_pos n with rfl | aY
        ·go_wp2
         go_quiet (fail)
         go_wp2;go_meet;exact ⟨0,_,rfl,OC,ZZj _,.inl rfl,HH⟩
        ·obtain ⟨j,aE⟩:∃ j,j+1=n:=⟨n - 1,by omega⟩
         obtain ⟨⟨ax,um⟩,an⟩:∃ a,R[j]?=some a:=⟨R[j]'oB,ZZe _⟩
         have bc:wc.cell? ⟨go,j*2,none⟩=some (.int .u64 ax):=by
          rw [am.cellAt _ oB];have:=Qd6 Qg6 R j _ 0 oB an;exact mDs
         have aX:wc.cell? ⟨go,j*2+1,none⟩=some (.string um):=by
          rw [am.cellAt _ oB,Qd6 Qg6 R j _ 1 oB an];rfl
         have ek:((n:Int) - 1)=(j:Int):=oB
         have ew:IntKind.i64.wrap (j:Int)=j:=ZZi _ ⟨by omega,by omega⟩;have bd:(0:Int)<(n:Int):=oB
         have be:j<M:=oB
         have HJ:Hid (j+1=n):=aE;have HR:Hid (R[j]?=some (ax,um)):=an
         have on:mle (X,u) (ax,um)->∀ i a,j<=i->R[i]?=some a->mle (X,u) a:=fun hm i a hi ha=>by
          by_cases e:i=j
          ·subst e;rw [an] at ha;obtain rfl:=Option.some.inj ha;exact hm
          ·exact HH.out i a oB ha
         have ON:Hid (mle (X,u) (ax,um)->∀ i a,j<=i->R[i]?=some a->mle (X,u) a):=on;have aq:mle (ax,um) (X,u)->(n=0∨∃ a,R[n - 1]?=some a/\mle a (X,u)):=fun hm=>.inr ⟨(ax,um),by rw [<- aE];exact an,hm⟩;have aR:Hid (mle (ax,um) (X,u)->(n=0∨∃ a,R[n - 1]?=some a/\mle a (X,u))):=aq;clear on aq aE an;rcases Int.lt_trichotomy X ax with ht | ht | ht
         ·have bi:X<ax:=ht
          go_wp2
          go_quiet (fail)
          go_wp2;go_roundw
          case rel=>exact ⟨j,_,by omega,rfl,OC,ON.out (.inl ht)⟩
          case measure=>simp [zI];have:=HJ.out;omega
         ·subst ht
          cases hlt:QaJ u um
          ·go_wp2
           go_quiet (fail)
           go_wp2;go_meet;exact ⟨n,_,rfl,OC,hn,aR.out (.inr ⟨rfl,hlt⟩),HH⟩
          ·go_wp2
           go_quiet (fail)
           go_wp2;go_roundw
           case rel=>exact ⟨j,_,by omega,rfl,OC,ON.out (.inr ⟨rfl,Qhb hlt⟩)⟩
           case measure=>simp [zI];have:=HJ.out;omega
         ·have h1:decide (X<ax)=false:=ZZg oB
          have h2:(ax == X)=false:=ZZf.2 oB;go_wp2
          go_quiet (fail)
          go_wp2;go_meet;exact ⟨n,_,rfl,OC,hn,aR.out (.inl ht),HH⟩
      case rest=>
       obtain ⟨n,q,rfl,rfl,hn,aU,ay⟩:=hcut;have aw:Hid ((R.take n ++ (X,u) :: R.drop n).Pairwise mle/\(R.take n ++ (X,u) :: R.drop n).Perm (mks L (M+1))):=⟨QnX HP.2 oB aU ay,by rw [HX.out];exact (Qs9 R (X,u) n).trans (HP.1.append_right _)⟩;clear aU ay;have a4:M<=co:=QiS am;have a3:co<=9223372036854775807:=Qi6 am;have bg:(n:Int)<=(M:Int):=oB
       have a8:(n:Int)<=(co:Int):=oB
       have l1:(fl QeU (R.take n)).length=n*2:=by rw [Qdn Qg6,List.length_take,Nat.min_eq_left oB]
       have l3:(fl QeU (R.drop n)).length=(M - n)*2:=by rw [Qdn Qg6,List.length_drop,a1]
       have c1:∀ W,Bw wc W->∀ j u,(fl QeU (R.take n))[j]?=some u->W.cell? ((⟨go,0,none⟩:Addr).add j)=some u:=fun W hW j u hj=>by
        have aA:=(ZZd.1 hj).1;rw [Addr.add_lit,Nat.zero_add,(QaX am.out hW).cellAt j oB]
        conv=>lhs;rw [<- List.take_append_drop n R]
        rw [Qip,List.getElem?_append_left aA];exact hj
       obtain ⟨A,bn,aO⟩:∃ A:Addr,(if co=n then some (⟨go,0,none⟩:Addr) else some ⟨go,n*2,none⟩)=some A/\∀ W,Bw wc W->∀ j u,(fl QeU (R.drop n))[j]?=some u->W.cell? (A.add j)=some u:=by
        by_cases e:co=n
        ·refine ⟨_,if_pos e,fun W hW j u hj=>?_⟩
         have aA:=(ZZd.1 hj).1;rw [l3] at aA;omega
        ·refine ⟨_,if_neg e,fun W hW j u hj=>?_⟩
         have aA:=(ZZd.1 hj).1;rw [Addr.add_lit,(QaX am.out hW).cellAt (n*2+j) oB]
         conv=>lhs;rw [<- List.take_append_drop n R]
         rw [Qip,List.getElem?_append_right oB,l1,show n*2+j - n*2=j by omega];exact hj
       have aS:∀ o,Bw wc ((wc.drewN q).alloc o):=fun o=>(Qap (ZZb _ _) q).alloc (by exact ZZa _) o;have C1:=Qaa c1;have C3:=Qaa aO;have B0:=Qaa aS;have L1:=Qaa l1;have L3:=Qaa l3;clear c1 aO aS l1 l3
       go_wp2_with (first
        | (at_builtin;refine wpList_append_own _ rfl (.tmp 73) (.tmp 76) 115 rfl wc.heap.size 119 i0 (.agg zAi) 2 24 underlying115 hi aF aI ar rfl oF _ _ _ rfl (World.ownsRow_made (wc.drewN q) #[] 0 xU (Nat.zero_le _) rfl) ⟨go,0,none⟩ n co (fl QeU (R.take n)) rfl L1 (C1.out _ (B0.out _)) (Qqc _) oC oB oE ?_;intro v1 w1 af ad av;simp only [Nat.zero_add,List.nil_append] at af;have ah:=(B0.out _).grown ad oE (fun j hj=>Nat.le_of_eq (Option.some.inj hj));have m0:=Qab ah a2;have m1:=Qab ah a6;have O1:=Qaa af;have B1:=Qaa ah;clear af ad av ah)
        | (at_builtin;refine wpList_append_own _ rfl (.tmp 78) (.tmp 80) 115 rfl wc.heap.size 119 i0 (.agg zAi) 2 24 underlying115 hi aF aI ar rfl oF _ _ _ rfl (O1.alloc _) ⟨w1.heap.size,0,none⟩ 1 1 (QeU (X,u)) rfl rfl (Qav (cs:=#[.int .u64 X,.string u]) rfl) (Qmk _) oC oB oI ?_;intro v2 w2 ak ag ap;have aP:=(B1.alloc B1.size _).grown ag oI (fun j hj=>(O1.lt j hj).1);have O2:=Qaa ak;have B2:=Qaa aP;clear ak ag ap aP)
        | (at_builtin;refine wpList_append_own _ rfl (.tmp 82) (.tmp 85) 115 rfl wc.heap.size 119 i0 (.agg zAi) 2 24 underlying115 hi aF aI ar rfl oF _ _ _ rfl O2 A (M - n) (co - n) (fl QeU (R.drop n)) rfl L3 (C3.out _ B2) (Qqc _) oC oB B2.size ?_;intro v3 w3 al ae aQ;have aV:=B2.grown ae B2.size (fun j hj=>(O2.lt j hj).1);have O3:=Qaa al;have B3:=Qaa aV;clear al ae aV))
       have hO:w3.ownsRow wc.heap.size 119 2 v3 (M+1) (fl QeU (R.take n ++ (X,u) :: R.drop n)):=QmJ O3 oB (by rw [Qip,QcT,List.append_assoc]);obtain ⟨g3,c3,aZ⟩:=Qb3 hO oB;subst aZ;have e:=HM.out;go_roundw
       case rel=>
        refine ⟨k+1,R.take n ++ (X,u) :: R.drop n,g3,c3,by omega,by go_num,?_,?_,aw.1,?_,aL.trans (B3.mono aL.size)⟩
        ·rw [<- Nat.add_assoc,e]
        ·rw [<- Nat.add_assoc,e];exact aw.2
        ·rw [<- Nat.add_assoc,e];exact hO.mono aL.size
       case measure=>simp [zI];omega
    ·have e:k=8:=by omega
     subst e;have e2:M=8*(p+1):=oB
     subst e2;have HO:Hid (wr.ownsRow w.heap.size 119 2 (.slice (some ⟨go,0,none⟩) (8*(p+1)) co) (8*(p+1)) (fl QeU R)):=ab;have HB:Hid (Bw w wr):=aa;have HP:Hid (R.Perm (mks L (8*(p+1)))/\R.Pairwise mle):=⟨ac,ai⟩;clear ab aa ac ai hM;go_wp2;go_roundw
     case rel=>exact ⟨p+1,R,go,co,by omega,by go_num,rfl,HP.1,HP.2,HO,HB⟩
     case measure=>simp [zI];omega
  ·have e:p=N:=by omega
   subst e;have HO:Hid (wr.ownsRow w.heap.size 119 2 (.slice (some ⟨aG,0,none⟩) (8*p) aN) (8*p) (fl QeU R0)):=ab;have HB:Hid (Bw w wr):=aa;have HP:Hid (R0.Perm (mks L (8*p))/\R0.Pairwise mle):=⟨ac,ai⟩;have a7:Hid (8*p=R0.length):=Qaa (by rw [ac.length_eq,Ql7]);clear ab aa ac ai hA;go_wp2;go_ret;have hl:=a7.out;have hN:=HN.out;have hO:=HO.out;rw [hl] at hO;refine ⟨aG,aN,R0,by rw [<- hl];rfl,⟨?_,HP.2⟩,hO,HB⟩;rw [hN];exact HP.1
def Qep (h:Int):List Mk->Option Mk
 | []=>none
 | m :: r=>if h<=m.1 then some m else Qep h r
theorem QgC {h:Int}:∀ (R:List Mk) (k:Nat) (a:Mk),R[k]?=some a->h<=a.1->(∀ j b,j<k->R[j]?=some b->b.1<h)->Qep h R=some a
 | [],k,a,hk,_,_=>by simp at hk
 | m :: r,0,a,hk,ha,_=>by
  obtain rfl:m=a:=by simpa using hk
  simp [Qep,ha]
 | m :: r,k+1,a,hk,ha,hl=>by
  have h0:=hl 0 m oB rfl;unfold Qep;rw [if_neg oB];exact QgC r k a (by simpa using hk) ha (fun j b hj hb=>hl (j+1) b oB xF)
theorem QfS {h:Int}:∀ (R:List Mk),(∀ (j:Nat) (b:Mk),R[j]?=some b->b.1<h)->Qep h R=none
 | [],_=>rfl
 | m :: r,hl=>by
  have h0:=hl 0 m rfl;unfold Qep;rw [if_neg oB];exact QfS r (fun j b hb=>hl (j+1) b xF)
def QuX (R:List Mk) (h:Int):ByteArray:=
 match Qep h R with
 | some m=>m.2
 | none=>match R with
  | m :: _=>m.2
  | []=>ByteArray.empty
variable {h:Int}
theorem Qm9 {a:Mk} (hk:R[k]?=some a) (ha:h<=a.1) (hl:∀ (j:Nat) (b:Mk),j<k->R[j]?=some b->b.1<h):QuX R h=a.2:=by
 unfold QuX;rw [QgC R k a hk ha hl]
theorem Qk8 {a:Mk} (h0:R[0]?=some a) (hl:∀ (j:Nat) (b:Mk),R[j]?=some b->b.1<h):QuX R h=a.2:=by
 unfold QuX;rw [QfS R hl]
 match R,h0 with
 | m :: _,h0=>
  obtain rfl:m=a:=by simpa using h0
  rfl
def Qa2 (L:List ByteArray) (key s:ByteArray):Prop:=(key.size<=20000/\Qaj L=true/\∃ R,QeQ L R/\s=QuX R (QbZ key))∨((¬ key.size<=20000∨Qaj L=false)/\s=ByteArray.empty)
theorem Qhl {key t:ByteArray} (h:Qa2 L key s) (k:Qa2 L key t):s=t:=by
 rcases h with ⟨h1,h2,R,h3,rfl⟩ | ⟨h1,rfl⟩ <;> rcases k with ⟨k1,k2,R',k3,rfl⟩ | ⟨k1,rfl⟩
 ·rw [QrW h3 k3]
 ·rcases k1 with k1 | k1
  ·exact absurd h1 k1
  ·rw [h2] at k1;cases k1
 ·rcases h1 with h1 | h1
  ·exact absurd k1 h1
  ·rw [h1] at k2;cases k2
 ·rfl
theorem QdH {c:Nat} {a:Int} (h:w.ownsRow B 119 2 (.slice (some ⟨g,0,none⟩) n c) n (fl QeU R)) (hn:n=R.length) (hk:R[k]?=some (a,u)) :
  w.cell? ⟨g,k*2,none⟩=some (.int .u64 a)/\w.cell? ⟨g,k*2+1,none⟩=some (.string u):=by
 have aa:=(ZZd.1 hk).1;constructor
 ·rw [h.cellAt _ oB]
  have:=Qd6 Qg6 R k _ 0 oB hk;exact mDs
 ·rw [h.cellAt _ oB,Qd6 Qg6 R k _ 1 oB hk];rfl
theorem QlW (cap:Nat) (key:ByteArray) (hkm:key.size<=maxLen) (hl:L.length<=1048576) (hu:∀ u∈L,u.size<=1048576) (hA:Qat w ao L) :
  Calls prog 75 #[.slice ao L.length cap,.string key] w fun e w'=>∃ s,e=.returned (.string s)/\Qa2 L key s/\Bw w w':=by
 have ae:=QeB key hkm;by_cases hk:key.size<=20000
 ·have e1:decide (key.size<=20000)=true:=ZZh hk
  simp only [e1] at ae;have ap:=Qop cap hl hu hA;have af:=Qmv key hkm;simp only [Qjs hk] at af;clear hA hu;obtain ⟨H,hH⟩:∃ H,QbZ key=H:=⟨_,rfl⟩;rw [hH] at af;go_enter func75,ntmps75
  go_wp2_with (first
   | (go_at_call 37;refine (ae _).mono ?_;rintro e w1 ⟨rfl,rfl⟩)
   | (go_at_call 121;refine ap.mono ?_;rintro e w2 ⟨v,R,rfl,hR,aa,am⟩;have HR:=Qaa hR;have HO:=Qaa aa;have HB:=Qaa am;obtain ⟨ro,rc,hv⟩:=Qan aa;subst hv;clear hR aa am)
   | (go_at_call 122;refine (af _).mono ?_;rintro e w3 ⟨rfl,rfl⟩))
  ·-- none
   go_ret;rename_i hz;have ac:R=[]:=List.eq_nil_of_length_eq_zero (by simpa using hz);rcases HR.out with ⟨h1,h2⟩ | ⟨h1,h2⟩
   ·have:=Qiu h2;have:=QbA h1;rw [ac] at *; simp at *; omega
   ·exact ⟨_,rfl,.inr ⟨.inr h1,rfl⟩,HB⟩
  ·have aq:((R.length:Int) == 0)=false:=by assumption
   have hz:¬ R.length=0:=by have:=ZZf.1 aq;omega
   obtain ⟨g,rfl⟩:∃ g,ro=some ⟨g,0,none⟩:=by
    obtain ⟨g,c,e⟩:=Qb3 HO oB
    cases e;exact ⟨g,rfl⟩
   have au:=QuA HR;obtain ⟨N,hN⟩:∃ N,R.length=N:=⟨_,rfl⟩;rw [hN] at au hz aq;rw [hN] at HO;rw [hN];have HN:=Qaa hN;have HH:=Qaa hH
   have aj:∀ s,s=QuX R H->Qa2 L key s:=fun s hs=>by
    rcases HR.out with ⟨h1,h2⟩ | ⟨h1,h2⟩
    ·exact .inl ⟨hk,h1,R,h2,by rw [hs,hH]⟩
    ·rw [h2] at hN;simp at hN;omega
   have al:=Qaa aj;clear aj hN hH ap af ae
   go_loopw [20,7] (fun i _ wr=>wr=w3/\∃ k:Nat,k<=N/\i=.int .i64 k/\∀ (j:Nat) (b:Mk),j<k->R[j]?=some b->b.1<H) (fun i _ wr=>N - (Go.RowKit.intOf i).toNat)
   case atStart=>exact ⟨rfl,0,ZZj _,rfl,fun j b hj=>absurd hj oB⟩
   case round=>
    obtain ⟨rfl,k,ax,rfl,ab⟩:=hrel;have HL:=Qaa ab;clear ab;by_cases aw:k<N
    ·obtain ⟨⟨a,m⟩,ag⟩:∃ a,R[k]?=some a:=⟨R[k]'(oA HN.out),ZZe _⟩
     obtain ⟨ak,ai⟩:=QdH HO HN.symm ag;have HK:=Qaa ag;clear ag;by_cases an:H<=a
     ·go_wp2
      go_ret;exact ⟨m,rfl,al.out m (Qm9 HK an HL).symm,HB⟩
     ·have ar:decide (H<=a)=false:=ZZg an
      go_wp2;go_roundw
      case rel=>
       exact mB9
      case measure=>simp [zI];omega
    ·obtain ⟨⟨a,m⟩,ac⟩:∃ a,R[0]?=some a:=⟨R[0]'(oA HN.out),ZZe _⟩
     obtain ⟨ak,ai⟩:=QdH HO HN.symm ac;rw [Nat.zero_mul] at ak ai;have HK:=Qaa ac;have av:(0:Int)<(N:Int):=oB
     have ad:∀ (j:Nat) (b:Mk),R[j]?=some b->b.1<H:=fun j b hb=>HL.out j b (by have:=(ZZd.1 hb).1;have:=HN.out;omega) hb;have ah:=Qaa ad;clear ac ad;go_wp2;go_ret;exact ⟨m,rfl,al.out m (Qk8 HK ah).symm,HB⟩
 ·have e1:decide (key.size<=20000)=false:=ZZg hk
  simp only [e1] at ae;clear hA hu;go_enter func75,ntmps75;go_wp2_with (go_at_call 37;refine (ae _).mono ?_;rintro e w1 ⟨rfl,rfl⟩);go_ret;exact ⟨_,rfl,.inr ⟨.inl hk,rfl⟩,ZZb _ _⟩
theorem Qdu (cap:Nat) (key:ByteArray) (hk:key.size<=20000) (hL:Qaj L=true) (hA:Qat w ao L) :
  Calls prog 34 #[.slice ao L.length cap,.string key] w fun e w'=>∃ s,e=.returned (.string s)/\Qa2 L key s/\Bw w w':=by
 have an:=QlQ cap hL hA;have ae:=Qej key oC;have ar:=Qaa hL;have aw:=(QbA hL).1;have aq:=(QbA hL).2;obtain ⟨H,hH⟩:∃ H,QbZ key=H:=⟨_,rfl⟩;rw [hH] at ae;have HH:=Qaa hH;clear hA hL hH;go_enter func34,ntmps34
 go_wp2_with (first
  | (go_at_call 67;refine an.mono ?_;rintro e w2 ⟨g,rc,R,rfl,hR,ab,al⟩;have HR:=Qaa hR;have HO:=Qaa ab;have HB:=Qaa al;have af:=Qaa (Qiu hR);clear hR ab al;obtain ⟨N,hN⟩:∃ N,R.length=N:=⟨_,rfl⟩;have HN:=Qaa hN;rw [hN] at af HO;rw [hN];clear hN)
  | (go_at_call 68;refine (ae _).mono ?_;rintro e w3 ⟨rfl,rfl⟩))
 have au:0<N:=by have:=af.out;omega
 have ay:N<=96:=by have:=af.out;omega
 have ak:Hid (∀ s,s=QuX R H->Qa2 L key s):=fun s hs=>.inl ⟨hk,ar,R,HR,by rw [hs,HH.out]⟩;clear an ae
 go_loopw [7] (fun i wr=>wr=w3/\∃ k:Nat,k<=N/\i=.int .i64 k/\∀ (j:Nat) (b:Mk),j<k->R[j]?=some b->b.1<H) (fun i wr=>N - (Go.RowKit.intOf i).toNat)
 case atStart=>exact ⟨rfl,0,ZZj _,rfl,fun j b hj=>absurd hj oB⟩
 case round=>
  obtain ⟨rfl,k,ax,rfl,aa⟩:=hrel;have HL:=Qaa aa;clear aa;by_cases av:k<N
  ·obtain ⟨⟨a,m⟩,ag⟩:∃ a,R[k]?=some a:=⟨R[k]'(oA HN.out),ZZe _⟩
   obtain ⟨aj,ai⟩:=QdH HO HN.symm ag;have HK:=Qaa ag;clear ag;by_cases am:H<=a
   ·go_wp2
    go_ret;exact ⟨m,rfl,ak.out m (Qm9 HK am HL).symm,HB⟩
   ·have ap:decide (H<=a)=false:=ZZg am
    go_wp2;go_roundw
    case rel=>
     exact mB9
    case measure=>simp [zI];omega
  ·obtain ⟨⟨a,m⟩,ad⟩:∃ a,R[0]?=some a:=⟨R[0]'(oA HN.out),ZZe _⟩
   obtain ⟨aj,ai⟩:=QdH HO HN.symm ad;rw [Nat.zero_mul] at aj ai;have HK:=Qaa ad;have az:(0:Int)<(N:Int):=oB
   have ac:∀ (j:Nat) (b:Mk),R[j]?=some b->b.1<H:=fun j b hb=>HL.out j b (by have:=(ZZd.1 hb).1;have:=HN.out;omega) hb;have ah:=Qaa ac;clear ad ac;go_wp2;go_ret;exact ⟨m,rfl,ak.out m (Qk8 HK ah).symm,HB⟩
def mk8 (u:ByteArray):List Mk:=(List.range 8).map fun k=>(QbZ (QkE u k),u)
theorem QeH (h:Qaj L=true):L.Pairwise (fun a b=>QaJ a b=true):=by
 rw [List.pairwise_iff_getElem];intro i j hi hj aa;have h2:L[i+(j - i - 1)+1]?=some L[j]:=by rw [show i+(j - i - 1)+1=j by omega];exact ZZe hj
 exact Qdj h (ZZe hi) _ h2
theorem Qun (h1:1<=L.length) (h2:L.length<=12) (hn:∀ u∈L,QaF u=true) (hp:L.Pairwise (fun a b=>QaJ a b=true)):Qaj L=true:=by
 refine Qpc oB oB ?_
 have ok:∀ k,k<=L.length->Qb5 L k=true:=by
  intro k
  induction k with
  | zero=>intro _;rfl
  | succ k ih=>
   intro hk;obtain ⟨u,hu⟩:∃ u,L[k]?=some u:=⟨_,ZZe oB⟩;have ab:=hn u (ZZn hu);unfold Qb5;rw [ih oB,Bool.true_and]
   match k,hu with
   | 0,hu=>rw [Qvy hu];exact ab
   | j+1,hu=>
    obtain ⟨p,ac⟩:∃ p,L[j]?=some p:=⟨_,ZZe oB⟩;have aa:=List.pairwise_iff_getElem.1 hp j (j+1) oB oB oB;rw [(List.getElem?_eq_some_iff.1 ac).2,(List.getElem?_eq_some_iff.1 hu).2] at aa;rw [QrU ac hu,ab,aa];rfl
 exact ok _ (ZZa _)
def isM (u:ByteArray) (m:Mk):Bool:=m.2.toList == u.toList
def insN (L:List ByteArray) (q:Nat) (nm:ByteArray):List ByteArray:=L.take q ++ nm :: L.drop q
end Go.Proofs.YtioohanfodmddaaGreatDoor
