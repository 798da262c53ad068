/-
 Parts.
-/
import Derived.Lib.ItoaNum
import Derived.Lib.ItoaLen
import Derived.Laws.BytesArg
import Derived.Test.YtlejlgldgafljaaGreatDoorVPA
import Derived.Sort.Statements
import Derived.Test.YtlejlgldgafljaaGreatDoorVKM
import Derived.Deep.Onto
import Derived.Deep.CutBlock
set_option maxHeartbeats 4000000
set_option maxRecDepth 10000
set_option linter.all false
namespace Go.Proofs.YtlejlgldgafljaaGreatDoor
open Go.ChangeShapes Go.WideShapes Go.ChangeAt Go.RowKit Go.PlainAid Go.Lib Go.Shelf Tryz
open Go.Sort hiding Below
variable {B N g k n p:Nat}
theorem Qeq (h:¬ n<10):Lib.decDigits n=Lib.decDigits (n / 10) ++ [UInt8.ofNat (48+n % 10)]:=by
 rw [Lib.decDigits,dif_neg h]
def Qvk (N m:Nat) (D:List UInt8):Prop:=(m=0->D=Lib.decDigits N)/\(m≠0->Lib.decDigits m ++ D=Lib.decDigits N)
variable {D:List UInt8}
theorem QpA {m:Nat} (h:Qvk N m D) (hm:m≠0):Qvk N (m / 10) (UInt8.ofNat (48+m % 10) :: D):=by
 have h2:=h.2 hm;by_cases k:m<10
 ·rw [Lib.decDigits_one k] at h2
  refine ⟨fun _=>by rw [Nat.mod_eq_of_lt k];exact h2,fun h0=>absurd (Nat.div_eq_of_lt k) h0⟩
 ·rw [Qeq k,List.append_assoc] at h2
  exact ⟨fun h0=>by omega,fun _=>h2⟩
theorem Qrh {m:Nat} (h:Qvk N m D) (hN:(Lib.decDigits N).length<=21):D.length<=21:=by
 by_cases k:m=0
 ·rw [h.1 k];exact hN
 ·have:=congrArg List.length (h.2 k);simp at this;omega
theorem QpI (N:Nat) (h:N<=9223372036854775807):(Lib.decDigits N).length<=21:=by
 have:=Lib.itoa_length_le (N:Int) (by omega) (by omega);have e:Lib.itoa (N:Int)=Lib.decDigits N:=by unfold Lib.itoa;rw [if_neg (by omega)];simp
 rw [e] at this;exact this
variable {a b key s u:ByteArray}
theorem Qea (h:a=b):Ending.returned (.string a)=.returned (.string b):=by rw [h]
theorem Qtz (b:UInt8) (D:List UInt8):(⟨#[b]⟩:ByteArray) ++ ⟨D.toArray⟩=⟨(b :: D).toArray⟩:=by
 apply ByteArray.ext;rw [ByteArray.data_append];simp
def mtx (k:Nat):ByteArray:=⟨#[109]⟩ ++ ⟨(Lib.decDigits k).toArray⟩
def QsX (u:ByteArray):List Value:=[.string u,.slice none 0 0]
theorem Qsl (u:ByteArray):∀ v∈QsX u,v.oneCell'=true:=fun v hv=>by simp [QsX] at hv;rcases hv with rfl | rfl <;> rfl
def OwnS (w:World) (B:Nat) (v:Value) (L:List ByteArray):Prop:=w.ownsRow B 56 2 v L.length (fl QsX L)
variable {w:World}
variable {L:List ByteArray}
theorem OwnS.le {B':Nat} {v:Value} (h:OwnS w B v L) (hb:B'<=B):OwnS w B' v L:=by
 refine ⟨h.1,?_⟩;rcases h.2 with h | ⟨g,ab,aa,e,h1,h2⟩
 ·exact .inl h
 ·exact .inr ⟨g,ab,aa,e,Nat.le_trans hb h1,h2⟩
theorem Qgk (n lo hi:Int) (w:World):Calls prog 33 #[.int .i64 n,.int .i64 lo,.int .i64 hi] w fun e w'=>e=.returned (.bool (decide (lo<=n) && decide (n<=hi)))/\w'=w:=by
 by_cases h:lo<=n
 ·have h1:decide (lo<=n)=true:=ZZh h
  rw [h1];go_enter func33,ntmps33;go_wp2;go_ret;exact ⟨by simp,rfl⟩
 ·have h1:decide (lo<=n)=false:=ZZg h
  rw [h1];go_enter func33,ntmps33;go_wp2;go_ret;exact ⟨rfl,rfl⟩
def inB (n lo hi:Int):Bool:=decide (lo<=n) && decide (n<=hi)
theorem Qhu (n:Int) (w:World):Calls prog 90 #[.int .i64 n] w fun e w'=>e=.returned (.bool (inB n 0 1000000000))/\w'=w:=by
 unfold inB;by_cases h:0<=n
 ·have h1:decide (0<=n)=true:=ZZh h
  rw [h1];go_enter func90,ntmps90;go_wp2;go_ret;exact ⟨by simp,rfl⟩
 ·have h1:decide (0<=n)=false:=ZZg h
  rw [h1];go_enter func90,ntmps90;go_wp2;go_ret;exact ⟨rfl,rfl⟩
def Qhy (a b c d:Int):Bool:=inB a 1 1000 && inB b 0 1000 && inB c 0 1000000000 && inB d 0 1000000000
theorem QkF (v:Value) (ao:Option Addr) (n cp:Nat) (hv:v=.slice ao n cp) (a b c d:Int) (w:World):Calls prog 58 #[.agg #[v,.int .i64 a,.int .i64 b,.int .i64 c,.int .i64 d]] w fun e w'=>e=.returned (.agg #[.int .i64 a,.int .i64 b,.int .i64 c,.int .i64 d])/\Bw w w':=by
 subst hv;go_enter func58,ntmps58;go_wp2;exact bodyPost_ret (v:=.agg #[.int .i64 a,.int .i64 b,.int .i64 c,.int .i64 d]) (by simp [results,results58,go_sem]) rfl ⟨rfl,((Below.refl _ _).alloc (Nat.le_refl _) _).alloc (by simp) _⟩
theorem Qj2 (a b c d:Int) (w:World):Calls prog 59 #[.agg #[.int .i64 a,.int .i64 b,.int .i64 c,.int .i64 d]] w fun e w'=>e=.returned (.bool (Qhy a b c d))/\Bw w w':=by
 have H0:∀ o,Hid (Bw w (w.alloc o)):=fun o=>bA;have H0:=Qaa H0;by_cases h1:inB a 1 1000=true
 ·by_cases h2:inB b 0 1000=true
  ·by_cases h3:inB c 0 1000000000=true
   ·obtain ⟨E,hE⟩:∃ E,Qhy a b c d=E:=⟨_,rfl⟩
    have he:Hid (inB d 0 1000000000=E):=by show _=_;rw [<- hE];unfold Qhy;rw [h1,h2,h3];simp
    rw [hE];obtain ⟨p1,p2⟩:1<=a/\a<=1000:=by unfold inB at h1;simpa using h1
    obtain ⟨p3,p4⟩:0<=b/\b<=1000:=by unfold inB at h2;simpa using h2
    obtain ⟨p5,p6⟩:0<=c/\c<=1000000000:=by unfold inB at h3;simpa using h3
    clear h1 h2 h3 hE;go_enter func59,ntmps59;go_wp2_with (go_at_call 90;refine (Qhu _ _).mono ?_;rintro e w1 ⟨rfl,hw⟩;obtain rfl:=hw.symm);go_ret;exact ⟨by rw [he.out];rfl,(H0.out _).out⟩
   ·have h3:inB c 0 1000000000=false:=by simpa using h3
    have e:Qhy a b c d=false:=by unfold Qhy;rw [h3];simp
    rw [e];obtain ⟨p1,p2⟩:1<=a/\a<=1000:=by unfold inB at h1;simpa using h1
    obtain ⟨p3,p4⟩:0<=b/\b<=1000:=by unfold inB at h2;simpa using h2
    by_cases q:0<=c
    ·have q2:¬ c<=1000000000:=by unfold inB at h3;simp [q] at h3;omega
     clear h1 h2 h3 e;go_enter func59,ntmps59;go_wp2;go_ret;exact ⟨rfl,(H0.out _).out⟩
    ·clear h1 h2 h3 e
     go_enter func59,ntmps59;go_wp2;go_ret;exact ⟨rfl,(H0.out _).out⟩
  ·have h2:inB b 0 1000=false:=by simpa using h2
   have e:Qhy a b c d=false:=by unfold Qhy;rw [h2];simp
   rw [e];obtain ⟨p1,p2⟩:1<=a/\a<=1000:=by unfold inB at h1;simpa using h1
   by_cases q:b<0
   ·clear h1 h2 e
    go_enter func59,ntmps59;go_wp2;go_ret;exact ⟨rfl,(H0.out _).out⟩
   ·have q2:1000<b:=by unfold inB at h2;simp [show 0<=b by omega] at h2;omega
    clear h1 h2 e;go_enter func59,ntmps59;go_wp2;go_ret;exact ⟨rfl,(H0.out _).out⟩
 ·have h1:inB a 1 1000=false:=by simpa using h1
  have e:Qhy a b c d=false:=by unfold Qhy;rw [h1];simp
  rw [e];by_cases q:a<1
  ·clear h1 e
   go_enter func59,ntmps59;go_wp2;go_ret;exact ⟨rfl,(H0.out _).out⟩
  ·have q2:1000<a:=by unfold inB at h1;simp [show 1<=a by omega] at h1;omega
   clear h1 e;go_enter func59,ntmps59;go_wp2;go_ret;exact ⟨rfl,(H0.out _).out⟩
def hx (s:ByteArray):Nat->Int
 | 0=>14695981039346656037
 | n+1=>IntKind.u64.wrap (bits BinOp.xor IntKind.u64 (hx s n) (bt s n)*1099511628211)
def QbB (s:ByteArray):Int:=hx s s.size
def Qkq (s:ByteArray):Int:=if s.size<=20000 then QbB s else 0
theorem Qip (h:s.size<=20000):Qkq s=QbB s:=if_pos h
theorem Qq8 (h:¬ s.size<=20000):Qkq s=0:=if_neg h
theorem Qud {a b:Int} (h:a=b):Ending.returned (.int .u64 a)=.returned (.int .u64 b):=by rw [h]
theorem hx_in (s:ByteArray):∀ n,0<=hx s n/\hx s n<=18446744073709551615
 | 0=>by unfold hx;omega
 | n+1=>by unfold hx;rw [IntKind.wrap_u64];omega
theorem Qo3 (s:ByteArray) (k:Nat):IntKind.u64.wrap (bt s k)=bt s k:=by
 have h0:=bt_nonneg s k;have h1:=bt_le s k;rw [IntKind.wrap_u64];omega
theorem Qda (s:ByteArray) (hs:s.size<=maxLen) (w:World) :
  Calls prog 70 #[.string s] w fun e w'=>e=.returned (.bool (decide (s.size<=20000)))/\w'=w:=by
 unfold maxLen at hs;have e:decide ((s.size:Int)<=20000)=decide (s.size<=20000):=decide_eq_decide.2 (by omega);go_enter func70,ntmps70;go_wp2;go_ret;exact ⟨rfl,rfl⟩
theorem Qek (s:ByteArray) (hs:s.size<=maxLen) (w:World) :
  Calls prog 68 #[.string s] w fun e w'=>e=.returned (.int .u64 (QbB s))/\w'=w:=by
 unfold maxLen at hs;have ab:=get_bt s;go_enter func68,ntmps68;go_wp2
 go_loop [3,4] (fun h i=>∃ k:Nat,k<=s.size/\i=.int .i64 k/\h=.int .u64 (hx s k)) (fun h i=>s.size - (Go.RowKit.intOf i).toNat)
 case atStart=>exact ⟨0,ZZj _,rfl,rfl⟩
 case round=>
  obtain ⟨k,hk,rfl,rfl⟩:=hrel;by_cases ac:k<s.size
  ·have aa:=Qo3 s k
   obtain ⟨B,hB⟩:∃ B,bt s k=B:=⟨_,rfl⟩;rw [hB] at aa;obtain ⟨H,hH⟩:∃ H,hx s k=H:=⟨_,rfl⟩;have HS:Hid (IntKind.u64.wrap (bits BinOp.xor IntKind.u64 H B*1099511628211)=hx s (k+1)):=by rw [<- hB,<- hH];rfl
   go_wp2
   go_round
   case rel=>exact ⟨k+1,by omega,by go_num,by rw [<- HS.out]⟩
   case measure=>simp [zI];omega
  ·have e:k=s.size:=by omega
   have HB:Hid (hx s k=QbB s):=(by rw [e];rfl:hx s k=QbB s);clear e;go_wp2;go_ret;exact ⟨Qud HB,rfl⟩
theorem QmO (s:ByteArray) (hs:s.size<=maxLen) (w:World) :
  Calls prog 136 #[.string s] w fun e w'=>e=.returned (.int .u64 (Qkq s))/\w'=w:=by
 have hz:s.size<=9223372036854775807:=hs;have ab:=get_bt s;by_cases h:s.size<=20000
 ·have e1:decide (s.size<=20000)=true:=ZZh h
  have HF:Hid (QbB s=Qkq s):=(Qip h).symm;clear h;go_enter func136,ntmps136;go_wp2_with (go_at_call 70;refine (Qda _ hs _).mono ?_;rintro e w1 ⟨rfl,rfl⟩)
  go_loop [3,10,4] (fun h i _=>∃ k:Nat,k<=s.size/\i=.int .i64 k/\h=.int .u64 (hx s k)) (fun h i _=>s.size - (Go.RowKit.intOf i).toNat)
  case atStart=>exact ⟨0,ZZj _,rfl,rfl⟩
  case round=>
   obtain ⟨k,hk,rfl,rfl⟩:=hrel;by_cases ac:k<s.size
   ·have aa:=Qo3 s k
    obtain ⟨B,hB⟩:∃ B,bt s k=B:=⟨_,rfl⟩;rw [hB] at aa;obtain ⟨H,hH⟩:∃ H,hx s k=H:=⟨_,rfl⟩;have HS:Hid (IntKind.u64.wrap (bits BinOp.xor IntKind.u64 H B*1099511628211)=hx s (k+1)):=by rw [<- hB,<- hH];rfl
    go_wp2
    go_round
    case rel=>exact ⟨k+1,by omega,by go_num,by rw [<- HS.out]⟩
    case measure=>simp [zI];omega
   ·have e:k=s.size:=by omega
    have HB:Hid (hx s k=Qkq s):=(by rw [<- HF.out,e];rfl:hx s k=Qkq s);clear e;go_wp2;go_ret;exact ⟨Qud HB,rfl⟩
 ·have e1:decide (s.size<=20000)=false:=ZZg h
  have HF:Hid (0=Qkq s):=(Qq8 h).symm;clear h;go_enter func136,ntmps136;go_wp2_with (go_at_call 70;refine (Qda _ hs _).mono ?_;rintro e w1 ⟨rfl,rfl⟩);go_ret;exact ⟨Qud HF,rfl⟩
abbrev Mk:=Int×ByteArray
def mle (a b:Mk):Prop:=a.1<b.1∨(a.1=b.1/\QaM b.2 a.2=false)
theorem QjL {a b c:Mk} (h:mle a b) (k:mle b c):mle a c:=by
 rcases h with h | ⟨e,h⟩ <;> rcases k with k | ⟨e2,k⟩
 ·exact .inl (by omega)
 ·exact .inl (by omega)
 ·exact .inl (by omega)
 ·exact .inr ⟨by omega,QgV h k⟩
theorem Qu6 {a b:Mk} (h:mle a b) (k:mle b a):a=b:=by
 rcases h with h | ⟨e,h⟩ <;> rcases k with k | ⟨e2,k⟩
 ·omega
 ·omega
 ·omega
 ·rcases Qe0 h with q | q
  ·rw [q] at k;cases k
  ·exact Prod.ext e q.symm
def mgt (a m:Mk):Bool:=decide (m.1<a.1) || (a.1 == m.1 && QaM m.2 a.2)
variable {m:Mk}
theorem mgt_t {a:Mk} (h:mgt a m=true):mle m a:=by
 unfold mgt at h;simp only [Bool.or_eq_true,yB,decide_eq_true_eq,beq_iff_eq] at h;rcases h with h | ⟨e,h⟩
 ·exact .inl h
 ·exact .inr ⟨e.symm,QeH h⟩
theorem mgt_f {a:Mk} (h:mgt a m=false):mle a m:=by
 unfold mgt at h;simp only [Bool.or_eq_false_iff,Bool.and_eq_false_iff,decide_eq_false_iff_not,beq_eq_false_iff_ne] at h;by_cases e:a.1=m.1
 ·exact .inr ⟨e,by rcases h.2 with q | q;exact absurd e q;exact q⟩
 ·exact .inl (by omega)
theorem Qkv:∀ (l l':List Mk),l.Perm l'->l.Pairwise mle->l'.Pairwise mle->l=l'
 | [],l',h,_,_=>by simpa using h.symm
 | a :: l,[],h,_,_=>by simp at h
 | a :: l,b :: l',h,p,q=>by
  have e:a=b:=by
   have ha:a∈b :: l':=h.mem_iff.1 List.mem_cons_self;have hb:b∈a :: l:=h.mem_iff.2 List.mem_cons_self;rcases List.mem_cons.1 ha with e | ha
   ·exact e
   ·rcases List.mem_cons.1 hb with e | hb
    ·exact e.symm
    ·exact Qu6 ((List.pairwise_cons.1 p).1 b hb) ((List.pairwise_cons.1 q).1 a ha)
  subst e;rw [Qkv l l' (List.Perm.cons_inv h) (List.pairwise_cons.1 p).2 (List.pairwise_cons.1 q).2]
variable {R:List Mk}
theorem Qns (hR:R.Pairwise mle) (hn:n<=R.length) (hlo:n=0∨∃ a,R[n - 1]?=some a/\mle a m) (hhi:∀ j a,n<=j->R[j]?=some a->mle m a) :
  (R.take n ++ m :: R.drop n).Pairwise mle:=by
 have hp:(R.take n ++ R.drop n).Pairwise mle:=by rw [List.take_append_drop];exact hR
 obtain ⟨p1,p2,p3⟩:=List.pairwise_append.1 hp;refine List.pairwise_append.2 ⟨p1,List.pairwise_cons.2 ⟨fun a ha=>?_,p2⟩,fun a ha b hb=>?_⟩
 ·obtain ⟨j,hj⟩:=List.getElem?_of_mem ha
  rw [List.getElem?_drop] at hj;exact hhi (n+j) a (by omega) hj
 ·rcases List.mem_cons.1 hb with rfl | hb
  ·obtain ⟨j,hj⟩:=List.getElem?_of_mem ha
   have ab:=(ZZd.1 hj).1;rw [List.length_take] at ab;rw [List.getElem?_take,if_pos (by omega)] at hj;rcases hlo with h0 | ⟨c,hc,aa⟩
   ·omega
   ·by_cases e:j=n - 1
    ·rw [e,hc] at hj;obtain rfl:=Option.some.inj hj;exact aa
    ·have ac:=(ZZd.1 hc).1
     refine QjL ?_ aa;have:=List.pairwise_iff_getElem.1 hR j (n - 1) (by omega) ac (by omega);rw [(List.getElem?_eq_some_iff.1 hj).2,(List.getElem?_eq_some_iff.1 hc).2] at this;exact this
  ·exact p3 a ha b hb
variable {α:Type}
theorem QrU (R:List α) (m:α) (n:Nat):(R.take n ++ m :: R.drop n).Perm (R ++ [m]):=by
 have h1:(R.take n ++ m :: R.drop n).Perm (m :: (R.take n ++ R.drop n)):=List.perm_middle;rw [List.take_append_drop] at h1;exact h1.trans (List.perm_append_singleton m R).symm
def QcV (u:ByteArray) (k:Nat):ByteArray:=u ++ ⟨#[35]⟩ ++ ⟨(Lib.decDigits k).toArray⟩
def nth (L:List ByteArray) (p:Nat):ByteArray:=L.getD p ByteArray.empty
theorem QeC (h:L[p]?=some u):nth L p=u:=by simp [nth,List.getD,h]
def atOf (L:List ByteArray) (j:Nat):Int:=QbB (QcV (nth L (j / 8)) (j % 8))
def prOf (L:List ByteArray) (j:Nat):Int×Nat:=(atOf L j,j / 8)
def mkOf (L:List ByteArray) (j:Nat):Mk:=(atOf L j,nth L (j / 8))
def prs (L:List ByteArray) (m:Nat):List (Int×Nat):=(List.range m).map (prOf L)
def mks (L:List ByteArray) (m:Nat):List Mk:=(List.range m).map (mkOf L)
theorem QrW (L:List ByteArray) (m:Nat):prs L (m+1)=prs L m ++ [prOf L m]:=by simp [prs,List.range_succ]
theorem Qce (L:List ByteArray) (m:Nat):mks L (m+1)=mks L m ++ [mkOf L m]:=by simp [mks,List.range_succ]
theorem Qll (L:List ByteArray) (m:Nat):(prs L m).length=m:=by simp [prs]
theorem Qle (L:List ByteArray) (m:Nat):(mks L m).length=m:=by simp [mks]
theorem at_eq (h:L[p]?=some u) (hk:k<8):atOf L (8*p+k)=QbB (QcV u k):=by
 unfold atOf;rw [show (8*p+k) / 8=p by omega,show (8*p+k) % 8=k by omega,QeC h]
theorem pr_eq (h:L[p]?=some u) (hk:k<8):prOf L (8*p+k)=(QbB (QcV u k),p):=by
 unfold prOf;rw [at_eq h hk,show (8*p+k) / 8=p by omega]
theorem QiW (h:L[p]?=some u) (hk:k<8):mkOf L (8*p+k)=(QbB (QcV u k),u):=by
 unfold mkOf;rw [at_eq h hk,show (8*p+k) / 8=p by omega,QeC h]
def QhJ (L:List ByteArray) (x:Int×Nat):Mk:=(x.1,nth L x.2)
theorem Qt6 (L:List ByteArray) (m:Nat):mks L m=(prs L m).map (QhJ L):=by
 unfold mks prs;rw [List.map_map];rfl
theorem Qth (k:Nat) (hk:k<8):(Lib.decDigits k).length=1:=by rw [Lib.decDigits_one (by omega)];rfl
def Qd8 (L:List ByteArray) (R:List Mk):Prop:=R.Perm (mks L (8*L.length))/\R.Pairwise mle
theorem Qr5 {R':List Mk} (h:Qd8 L R) (k:Qd8 L R'):R=R':=Qkv _ _ (h.1.trans k.1.symm) h.2 k.2
theorem Qgd (h:Qd8 L R):R.length=8*L.length:=by rw [h.1.length_eq,Qle]
theorem Qa8 (h:Qag L=true):1<=L.length/\L.length<=12:=by
 unfold Qag at h;simp only [yB,decide_eq_true_eq] at h;exact ⟨h.1.1,h.1.2⟩
theorem Qpm (h:Qag L=true) (hk:k<L.length):okB L k=true:=by
 unfold Qag at h;simp only [yB,decide_eq_true_eq] at h;exact Qsv _ hk h.2
theorem QuP (h:okB L k=true) (hu:L[k]?=some u):QaB u=true:=by
 cases e:QaB u with
 | true=>rfl
 | false=>rw [Qt5 hu e] at h;cases h
theorem Qbx (h:Qag L=true) (hu:u∈L):QaB u=true:=by
 obtain ⟨k,hk⟩:=List.getElem?_of_mem hu;exact QuP (Qpm h (ZZd.1 hk).1) hk
theorem QbZ (h:QaB u=true):1<=u.size/\u.size<=40:=by
 unfold QaB at h;simp only [yB,decide_eq_true_eq] at h;exact ⟨h.1.1.1,h.1.1.2⟩
theorem Qj3 (h:Qag L=true) {j:Nat} {p:ByteArray} (hp:L[j]?=some p) (hu:L[j+1]?=some u):QaM p u=true:=by
 have:=Qpm h (ZZd.1 hu).1;rw [Qsd hp hu,yB] at this;exact this.2
theorem Qdk {L:List ByteArray} (h:Qag L=true) {i:Nat} {p:ByteArray} (hp:L[i]?=some p):∀ (d:Nat) {u:ByteArray},L[i+d+1]?=some u->QaM p u=true
 | 0,u,hu=>Qj3 h hp hu
 | d+1,u,hu=>by
  obtain ⟨q,hq⟩:∃ q,L[i+d+1]?=some q:=⟨_,ZZe (by have:=(ZZd.1 hu).1;omega)⟩;exact Qc2 (Qdk h hp d hq) (Qj3 h hq hu)
def cfP (x y:Int×Nat):Int:=if x=y then 0 else if x.1<y.1 then -1 else if x.1=y.1/\x.2<y.2 then -1 else 1
def ltP (x y:Int×Nat):Bool:=decide (x.1<y.1∨(x.1=y.1/\x.2<y.2))
theorem cfP_lt (x y:Int×Nat):decide (cfP x y<0)=ltP x y:=by
 unfold cfP ltP;by_cases e:x=y
 ·subst e;rw [if_pos rfl];simp
 ·rw [if_neg e]
  by_cases h1:x.1<y.1
  ·rw [if_pos h1,decide_eq_true (show (-1:Int)<0 by omega),decide_eq_true (.inl h1)]
  ·rw [if_neg h1]
   by_cases h2:x.1=y.1/\x.2<y.2
   ·rw [if_pos h2,decide_eq_true (show (-1:Int)<0 by omega),decide_eq_true (.inr h2)]
   ·rw [if_neg h2,decide_eq_false (show ¬ (1:Int)<0 by omega),decide_eq_false (by rintro (h | h);exact h1 h;exact h2 h)]
theorem swoP:Sort.SWO ltP where
 irrefl x:=by simp [ltP]
 trans x y z h1 h2:=by simp only [ltP,decide_eq_true_eq] at *; omega
 ntrans x y z h1 h2:=by simp only [ltP,decide_eq_false_iff_not] at *; omega
theorem QdN [Inhabited α] (d:Array α) (i:Nat) (h:i<d.size):d.toList[i]'(by simpa using h)=d[i]!:=by
 simp [h]
variable {d:Array (Int×Nat)}
theorem Qiu (hL:Qag L=true) {d':Array (Int×Nat)} (hd:d.toList=prs L (8*L.length)) (hp:Sort.PermIn 0 d.size d d') (hs:Sort.SortedIn ltP 0 d.size d') :
  Qd8 L (d'.toList.map (QhJ L))/\(∀ x∈d'.toList,x.2<L.length)/\d'.size=8*L.length:=by
 obtain ⟨hz,_,aa⟩:=hp;have ai:d.size=8*L.length:=by rw [<- Array.length_toList,hd,Qll]
 have e1:d'.extract 0 d.size=d':=by rw [<- hz];simp
 have e2:d.extract 0 d.size=d:=by simp
 rw [e1,e2,hd] at aa
 have ab:∀ x∈d'.toList,x.2<L.length:=fun x hx=>by
  have ad:=aa.mem_iff.1 hx;unfold prs at ad;obtain ⟨j,hj,rfl⟩:=List.mem_map.1 ad;have:=List.mem_range.1 hj
  show j / 8<_
  omega
 refine ⟨⟨?_,?_⟩,ab,by omega⟩
 ·rw [Qt6];exact aa.map _
 ·rw [List.pairwise_map]
  rw [List.pairwise_iff_getElem];intro i j hi hj ah;have af:i<d'.size:=by simpa using hi
  have ag:j<d'.size:=by simpa using hj
  have ac:=hs i j (ZZj _) ah (by omega);rw [<- QdN d' i af,<- QdN d' j ag] at ac;have ha:=ab _ (List.getElem_mem hi);have hb:=ab _ (List.getElem_mem hj);generalize d'.toList[i]=a at *;generalize d'.toList[j]=b at *;simp only [ltP,decide_eq_false_iff_not] at ac;by_cases e:a.1=b.1
  ·refine .inr ⟨e,?_⟩
   show QaM (nth L b.2) (nth L a.2)=false
   by_cases e2:a.2=b.2
   ·rw [e2];exact Qcq _
   ·obtain ⟨p,hp⟩:∃ p,L[a.2]?=some p:=⟨_,ZZe ha⟩
    obtain ⟨u,hu⟩:∃ u,L[b.2]?=some u:=⟨_,ZZe hb⟩;rw [QeC hp,QeC hu];have ae:L[a.2+(b.2 - a.2 - 1)+1]?=some u:=by rw [show a.2+(b.2 - a.2 - 1)+1=b.2 by omega];exact hu
    exact QeH (Qdk hL hp _ ae)
  ·exact .inl (by show a.1<b.1;omega)
def QjV (x:Int×Nat):List Value:=[.int .u64 x.1,.int .u64 x.2]
def QeR (m:Mk):List Value:=[.int .u64 m.1,.string m.2]
theorem encP2 (x:Int×Nat):(QjV x).length=2:=rfl
theorem Qg3 (x:Mk):(QeR x).length=2:=rfl
theorem Qvf {m:Type->Type} [Monad m] {β:Type} (b:β) (f:Nat->β->m (ForInStep β)):(forIn ([0:2]:Std.Legacy.Range) b fun i r=>f i r)=(do
  match <- f 0 b with
  | .done r=>pure r
  | .yield r=>match <- f 1 r with
   | .done r=>pure r
   | .yield r=>pure r):=by
 rw [Std.Legacy.Range.forIn_eq_forIn_range']
 rfl
theorem QfU {P:Program} (w:World) (d:Nat) (t e:TypeId) (k:IntKind) (a p b q:Int) (ht:P.underlying t=some (.array 2 e)) (he:P.underlying e=some (.int k))
  (hi:∀ w,(isAgg e).run P w=.ok false w) (hz:∀ w,(sizeOf e).run P w=.ok 1 w) :
  (Op.equalIn (d+1+1) t (.agg #[.int k a,.int k p]) (.agg #[.int k b,.int k q])).run P w=.ok (a == b && p == q) w:=by
 rw [Op.equalIn];simp only [Sem.run_bind,run_underlying ht,Result.andThen_ok,hz];have p0:∀ x y w,(part e #[x,y] (0*1)).run P w=.ok x w:=fun x y w=>by simp [part,hi]
 have p1:∀ x y w,(part e #[x,y] (1*1)).run P w=.ok y w:=fun x y w=>by simp [part,hi]
 have q0:∀ x y w,(Op.equalIn (d+1) e (.int k x) (.int k y)).run P w=.ok (x == y) w:=fun x y w=>run_equalIn_int w d e k k x y he;rw [Qvf];simp only [Sem.run_bind,p0,q0,Result.andThen_ok];by_cases h1:a=b <;> by_cases h2:p=q <;> simp [h1,h2,p1,q0]
theorem Qrn (a p b q:Int) (w:World):(binOp .eql 210 (.agg #[.int .u64 a,.int .u64 p]) (.agg #[.int .u64 b,.int .u64 q])).run prog w=.ok (.bool (a == b && p == q)) w:=by
 have a5:=Tryz.isAgg208;have z5:=Tryz.sizeOf208;have hS:prog.underlying 210=some (.struct (prog.fieldsOf 210)):=by kernel_rfl
 have hp:prog.stoodInHeld 210=false:=by kernel_rfl
 have hq:=fun w=>QfU (P:=prog) w 9997 208 62 .u64 a p b q underlying208 underlying62 Tryz.isAgg62 Tryz.sizeOf62;rw [run_eql_struct,show (10000:Nat)=9999+1 from rfl,run_equalIn_agg w 9999 210 _ _ hS hp];simp only [Program.fieldsOf,underlying210];go_simp;by_cases h1:a=b <;> by_cases h2:p=q <;> simp [h1,h2]
theorem QhE (x y:Int×Nat) (W:World):Calls prog 191 #[.agg #[.int .u64 x.1,.int .u64 x.2],.agg #[.int .u64 y.1,.int .u64 y.2]] W fun e w'=>e=.returned (.int .i64 (cfP x y))/\∃ q os',w'=grow (W.drewN q) os':=by
 obtain ⟨a,p⟩:=x;obtain ⟨b,q⟩:=y;have he:=Qrn a p b q;have ab:∀ (c d:Int) (w1:World),c=d->(∃ q os',w1=grow (W.drewN q) os')->Ending.returned (.int .i64 c)=.returned (.int .i64 d)/\∃ q os',w1=grow (W.drewN q) os':=fun c d w1 h k=>⟨by rw [h],k⟩;have aa:Hid _:=ab;have hg:∀ o1 o2:Obj,∃ q os',(W.alloc o1).alloc o2=grow (W.drewN q) os':=fun o1 o2=>⟨0,_,by rw [alloc_eq_grow,alloc_eq_grow,grow_grow];rfl⟩;have HG:Hid _:=hg;clear ab hg;by_cases e1:a=b
 ·subst e1
  by_cases e2:p=q
  ·subst e2
   have HC:Hid (0=cfP (a,p) (a,p)):=(by simp [cfP]:0=cfP (a,p) (a,p));go_enter func191,ntmps191;go_wp2;go_ret;exact aa.out _ _ _ HC (HG.out _ _)
  ·have e3:((p:Int) == (q:Int))=false:=ZZf.2 (by omega)
   by_cases e4:p<q
   ·have HC:Hid (-1=cfP (a,p) (a,q)):=(by simp [cfP,e2,e4]:-1=cfP (a,p) (a,q))
    have e5:(p:Int)<(q:Int):=by omega
    clear e2;go_enter func191,ntmps191;go_wp2;go_ret;exact aa.out _ _ _ HC (HG.out _ _)
   ·have HC:Hid (1=cfP (a,p) (a,q)):=(by simp [cfP,e2,e4]:1=cfP (a,p) (a,q))
    clear e2;go_enter func191,ntmps191;go_wp2;go_ret;exact aa.out _ _ _ HC (HG.out _ _)
 ·have e3:(a == b)=false:=ZZf.2 e1
  by_cases e4:a<b
  ·have HC:Hid (-1=cfP (a,p) (b,q)):=(by simp [cfP,e1,e4]:-1=cfP (a,p) (b,q))
   clear e1;go_enter func191,ntmps191;go_wp2;go_ret;exact aa.out _ _ _ HC (HG.out _ _)
  ·have HC:Hid (1=cfP (a,p) (b,q)):=(by simp [cfP,e1,e4]:1=cfP (a,p) (b,q))
   clear e1;go_enter func191,ntmps191;go_wp2;go_ret;exact aa.out _ _ _ HC (HG.out _ _)
theorem infoP:(prog.info? 210).map (fun i=>(i.zero,i.size,i.bytes))=some (some (.agg #[.int .u64 0,.int .u64 0]),2,16):=by kernel_rfl
theorem Qkb [Inhabited α] {e:α->List Value} (he:∀ x,(e x).length=2) {cp:Nat} {T:TypeId} {xs:List α} (h:w.ownsRow B T 2 (.slice (some ⟨g,0,none⟩) xs.length cp) xs.length (fl e xs)):HoldsK e 2 w g 0 xs.toArray:=by
 intro j hj;have aa:j<xs.length*2:=by simpa using hj
 rw [Nat.zero_add];refine ⟨?_,h.frozenAt j⟩;rw [h.cellAt j aa,get_flatK _ _ _ _ (by simpa using aa)];have hi:j / 2<xs.length:=by omega
 obtain ⟨x,hx⟩:∃ x,xs[j / 2]?=some x:=⟨_,ZZe hi⟩;have h1:=Qd2 he xs (j / 2) x (j % 2) (by omega) hx;rw [show j / 2*2+j % 2=j by omega] at h1
 have h2:xs.toArray[j / 2]! = x:=by
  have:=(ZZd.1 hx).2;simp [hi,this]
 rw [h1,h2];have hm:j % 2<(e x).length:=by rw [he];omega
 simp [hm]
theorem Qlz [Inhabited α] (e:α->List Value) (k:Nat) (w:World) (g o n:Nat) (d:Array α) (os:Array Obj):w.grownBy (sortWorldK e k w g o n d os) (some g):=by
 refine ⟨rfl,rfl,rfl,size_sortWorldK_c _ _ _ _ _ _ _ _,fun j hj hne=>?_⟩;unfold sortWorldK;rw [heap_grow_old _ _ (by rw [size_putRowK];exact hj)];have:g≠j:=fun e=>hne (by rw [e]);simp [putRowK,putRow,mapBlock,Sort.ahead,Array.getElem?_modify,this]
theorem ltC:ltOf cfP=ltP:=by funext x y;exact cfP_lt x y
theorem swoC:SWO (ltOf cfP):=by rw [ltC];exact swoP
theorem Qqf {a b:Nat} (h:SortedIn (ltOf cfP) a b d):SortedIn ltP a b d:=by rw [<- ltC];exact h
variable {ao:Option Addr}
theorem QnR (cap:Nat) (hL:Qag L=true) (hA:Qau w ao L) :
  Calls prog 172 #[.slice ao L.length cap] w fun e w'=>∃ g cp d',e=.returned (.slice (some ⟨g,0,none⟩) (8*L.length) cp)/\w.heap.size<=g/\g<w'.heap.size/\HoldsK QjV 2 w' g 0 d'/\Qd8 L (d'.toList.map (QhJ L))/\(∀ x∈d'.toList,x.2<L.length)/\d'.size=8*L.length/\Bw w w':=by
 obtain ⟨i0,hi,aA,ar,au⟩:=info_parts infoP;obtain ⟨ax,ai⟩:=Qa8 hL;obtain ⟨N,hN⟩:∃ N,L.length=N:=⟨_,rfl⟩;have HN:Hid (L.length=N):=hN;have HL:Hid (Qag L=true):=hL;rw [hN] at ax ai;rw [hN];clear hN hL;go_enter func172,ntmps172;go_wp2
 go_loopw [3,9] (fun v i wr=>∃ p:Nat,p<=N/\i=.int .i64 p/\wr.ownsRow w.heap.size 210 2 v (8*p) (fl QjV (prs L (8*p)))/\Bw w wr) (fun v i wr=>N - (Go.RowKit.intOf i).toNat)
 case atStart=>exact ⟨0,ZZj _,rfl,World.ownsRow_nil _ _ _ _,ZZb _ _⟩
 case round=>
  obtain ⟨p,hp,rfl,ab,aa⟩:=hrel;by_cases aC:p<N
  ·obtain ⟨b,ay,rfl,ad⟩:=hA (by have:=HN.out;omega)
   obtain ⟨u,ah⟩:∃ u,L[p]?=some u:=⟨L[p]'(by have:=HN.out;omega),ZZe _⟩;have aE:=(QbZ (Qbx HL (ZZn ah))).2;have HU:Hid (L[p]?=some u):=ah;have HC:Hid (w.cell? ⟨b,ay+p,none⟩=some (.string u)):=ad p u ah;clear ad ah;go_wp2
   go_loopw [3,12] (fun v2 i wr2=>∃ k:Nat,k<=8/\i=.int .i64 k/\wr2.ownsRow w.heap.size 210 2 v2 (8*p+k) (fl QjV (prs L (8*p+k)))/\Bw w wr2) (fun v2 i wr2=>8 - (Go.RowKit.intOf i).toNat)
   case atStart=>exact ⟨0,ZZj _,rfl,ab,aa⟩
   case round=>
    clear ab aa;obtain ⟨k,hk,rfl,ab,aa⟩:=hrel;by_cases am:k<8
    ·obtain ⟨D,hD⟩:∃ D:ByteArray,D=⟨(Lib.decDigits k).toArray⟩:=⟨_,rfl⟩
     have aB:D.size=1:=by rw [hD];show (Lib.decDigits k).toArray.size=1;rw [List.size_toArray];exact Qth k am
     have al:=fun W=>Tryz.strconv_Itoa_small k (by omega) W;rw [<- hD] at al;obtain ⟨X,hX⟩:∃ X:Int,X=Qkq (u ++ ⟨#[35]⟩ ++ D):=⟨_,rfl⟩;have an:(u ++ ⟨#[35]⟩ ++ D).size=u.size+2:=by rw [ByteArray.size_append,ByteArray.size_append,aB];rfl
     have ak:=fun W=>QmO (u ++ ⟨#[35]⟩ ++ D) (by unfold maxLen;omega) W;rw [<- hX] at ak
     have HX:Hid (prs L (8*p+(k+1))=prs L (8*p+k) ++ [(X,p)]):=by
      rw [<- Nat.add_assoc,QrW,pr_eq HU.out am,hX,Qip (by omega),hD];rfl
     have hc:=Qab aa HC;have av:(⟨#[35]⟩:ByteArray).size=1:=rfl;have aD:IntKind.u64.wrap (p:Int)=p:=by rw [IntKind.wrap_u64];omega
     have HO:Hid (∀ n,(wr.drewN n).ownsRow w.heap.size 210 2 u3 (8*p+k) (fl QjV (prs L (8*p+k)))):=fun _=>ab;have HB:Hid (∀ n,Bw w (wr.drewN n)):=fun n=>Qao aa n;have ag:=aa.size;clear hD hX an ab aa;go_wp2
     go_quiet (first | (go_at_call 189;refine Calls.quiet_of_same (al _)) | (go_at_call 136;refine Calls.quiet_of_same (ak _)))
     go_wp2_with (at_builtin;refine wpList_append_own _ rfl _ _ 206 rfl w.heap.size 210 i0 (.agg #[.int .u64 0,.int .u64 0]) 2 16 underlying206 hi aA ar au rfl (by decide) _ _ _ rfl ((HO.out _).alloc _) ⟨wr.heap.size,0,none⟩ 1 1 (QjV (X,p)) rfl rfl ?c1 ?c2 ?c3 ?c4 ?c5 ?_)
     case c1=>
      exact Qav (cs:=#[.int .u64 X,.int .u64 p]) (by rfl)
     case c2=>intro v hv;simp [QjV] at hv;rcases hv with rfl | rfl <;> rfl
     case c3=>unfold maxLen;omega
     case c4=>omega
     case c5=>simp;omega
     ·intro v' w1 af ae _
      have R:w1.ownsRow w.heap.size 210 2 v' (8*p+(k+1)) (fl QjV (prs L (8*p+(k+1)))):=QlV af rfl (by rw [HX.out,QhT,QpM]);have R2:Bw w w1:=((HB.out _).alloc (by exact ag) _).grown ae (by simp;omega) (fun j hj=>((HO.out 0).lt j hj).1);clear af ae HO HB;go_wp2;go_roundw
      case rel=>exact ⟨k+1,by omega,by go_num,R,R2⟩
      case measure=>simp [zI];omega
    ·have e:k=8:=by omega
     subst e;have HO:Hid (wr.ownsRow w.heap.size 210 2 u3 (8*(p+1)) (fl QjV (prs L (8*(p+1))))):=ab;have HB:Hid (Bw w wr):=aa;clear ab aa;go_wp2;go_roundw
     case rel=>exact ⟨p+1,by omega,by go_num,HO,HB⟩
     case measure=>simp [zI];omega
  ·have e:p=N:=by omega
   subst e
   obtain ⟨g,cp,rfl,hg,aj,hH⟩:∃ g cp,u3=.slice (some ⟨g,0,none⟩) (8*p) cp/\w.heap.size<=g/\g<wr.heap.size/\HoldsK QjV 2 wr g 0 (prs L (8*p)).toArray:=by
    have h2:=ab.2;rcases h2 with ⟨_,e⟩ | ⟨g,cp,aF,e,hb,hk,_⟩
    ·omega
    ·subst e
     refine ⟨g,cp,rfl,hb,(ZZc.1 hk).1,?_⟩;refine Qkb (xs:=prs L (8*p)) (B:=w.heap.size) (T:=210) (cp:=cp) encP2 ?_;have hl:=Qll L (8*p);rw [hl];exact ab
   have ag:(prs L (8*p)).toArray.size=8*p:=by rw [List.size_toArray,Qll]
   have eg:∀ args w,(callFunc 191 args).run prog w=.ok (.enter 191 args) w:=enters_of func191 (by kernel_rfl) rfl;have ac:=AnyQ.slices_SortFunc (α:=Int×Nat) Tryz.laysSortM 2 Tryz.isAgg210 Tryz.sizeOf210 QjV encP2 (fun x v hv=>by simp [QjV] at hv;rcases hv with rfl | rfl <;> rfl) cfP swoC 191 #[] g 0 cp (prs L (8*p)).toArray wr eg (fun _ _ _ _ x y=>QhE x y _) hH aj (by rw [ag];omega);rw [ag] at ac
   change Calls prog 190 _ _ _ at ac
   have HH:Hid (HoldsK QjV 2 wr g 0 (prs L (8*p)).toArray):=hH;have HB:Hid (Bw w wr):=aa;have HG:Hid (w.heap.size<=g/\g<wr.heap.size):=⟨hg,aj⟩;clear ab aa hA hH hg aj eg;go_wp2_with (go_at_call 190;refine ac.mono ?_;rintro e w1 ⟨rfl,d',n,os,aq,aw,rfl⟩);clear ac;go_ret;have hN:=HN.out;have hR:=Qiu HL (d:=(prs L (8*p)).toArray) (d':=d') (by rw [hN]) (by rw [ag];exact aq) (by rw [ag];exact Qqf aw);have ap:HoldsK QjV 2 (sortWorldK QjV 2 wr g 0 n d' os) g 0 d':=holdsK_sortWorldK_c _ _ _ _ _ _ d' _ _ HH HG.2 (by rw [ag,hR.2.2,hN]);have az:Bw w (sortWorldK QjV 2 wr g 0 n d' os):=HB.grown (Qlz _ _ _ _ _ _ _ _) HB.size (fun j hj=>by cases hj;exact HG.1);refine ⟨g,cp,d',rfl,HG.1,?_,ap,hR.1,?_,?_,az⟩
   ·exact Nat.lt_of_lt_of_le HG.2 (size_sortWorldK_c _ _ _ _ _ _ _ _)
   ·rw [<- hN];exact hR.2.1
   ·rw [<- hN];exact hR.2.2
def Qqz (L:List ByteArray) (R:List Mk):Prop:=(Qag L=true/\Qd8 L R)∨(Qag L=false/\R=[])
theorem QuL (h:Qqz L R):R.length<=96:=by
 rcases h with ⟨h1,h2⟩ | ⟨h1,rfl⟩
 ·have:=Qa8 h1;rw [Qgd h2];omega
 ·simp
def Qdf (R:List Mk) (k:Nat):List Mk:=R.take k ++ List.replicate (R.length - k) ((0,ByteArray.empty):Mk)
theorem Qn5 (R:List Mk):Qdf R 0=List.replicate R.length (0,ByteArray.empty):=by simp [Qdf]
theorem Qoj (R:List Mk):Qdf R R.length=R:=by simp [Qdf]
theorem QoU (R:List Mk) (k:Nat) (hk:k<=R.length):(Qdf R k).length=R.length:=by simp [Qdf];omega
theorem QoE {u:Mk} (h:R[k]?=some u):(Qdf R k).set k u=Qdf R (k+1):=by
 have hk:=(ZZd.1 h).1;have hl:(R.take k).length=k:=by simp;omega
 unfold Qdf;rw [List.set_append_right _ _ (by omega),hl,Nat.sub_self,show R.length - k=(R.length - (k+1))+1 by omega,List.replicate_succ,List.set_cons_zero,List.take_add_one,h];simp
theorem QmZ (hk:k<R.length):(Qdf R k)[k]?=some (0,ByteArray.empty):=by
 have hl:(R.take k).length=k:=by simp;omega
 unfold Qdf;rw [List.getElem?_append_right (by omega),hl,Nat.sub_self,List.getElem?_replicate,if_pos (by omega)]
theorem QnP (n:Nat):(madeCells (Value.agg zAg).cells (n*2)).toList=fl QeR (List.replicate n ((0,ByteArray.empty):Mk)):=by
 apply List.ext_getElem?;intro j;by_cases hj:j<n*2
 ·have h1:=Qd2 Qg3 (List.replicate n ((0,ByteArray.empty):Mk)) (j / 2) (0,ByteArray.empty) (j % 2) (by omega) (by rw [List.getElem?_replicate,if_pos (by omega)])
  rw [show j / 2*2+j % 2=j by omega] at h1;rw [h1];have:j % 2=0∨j % 2=1:=by omega
  rcases this with e | e <;> simp [madeCells,hj,Value.cells,QeR,e]
 ·rw [List.getElem?_eq_none (by simp [size_madeCells];omega),List.getElem?_eq_none (by rw [Qdu Qg3];simp;omega)]
theorem infoM:(prog.info? 111).map (fun i=>(i.zero,i.size,i.bytes))=some (some (.agg zAg),2,24):=by kernel_rfl
theorem Qnx (cap:Nat) (hl:L.length<=1048576) (hu:∀ u∈L,u.size<=1048576) (hA:Qau w ao L) :
  Calls prog 135 #[.slice ao L.length cap] w fun e w'=>∃ v R,e=.returned v/\Qqz L R/\w'.ownsRow w.heap.size 111 2 v R.length (fl QeR R)/\Bw w w':=by
 cases hL:Qag L
 ·have ag:=Qcc cap hl hu hA
  rw [hL] at ag;have HL:Hid (Qag L=false):=hL;clear hL hA hu;go_enter func135,ntmps135;go_wp2_with (go_at_call 91;refine ag.mono ?_;rintro e w1 ⟨rfl,al⟩);go_ret;exact ⟨.slice none 0 0,[],rfl,.inr ⟨HL,rfl⟩,World.ownsRow_nil _ _ _ _,al⟩
 ·obtain ⟨i0,hi,aJ,aE,aF⟩:=info_parts infoM
  have ag:=Qcc cap hl hu hA;rw [hL] at ag;have HL:Hid (Qag L=true):=hL;have am:=(Qa8 hL).2;obtain ⟨N,hN⟩:∃ N,L.length=N:=⟨_,rfl⟩;have HN:Hid (L.length=N):=hN;have an:=fun W (h:Qau W ao L)=>QnR cap hL h;rw [hN] at ag am an;rw [hN];clear hL hu hN hl;go_enter func135,ntmps135;go_wp2_with (go_at_call 91;refine ag.mono ?_;rintro e w1 ⟨rfl,al⟩)
  go_wp2_with (first
   | (go_at_call 172;refine (an _ (QaA hA al)).mono ?_;rintro e w2 ⟨gp,cp,d,rfl,hg,aM,hH,hR,az,aK,aG⟩;have HR:Hid (Qd8 L (d.toList.map (QhJ L))):=hR;have HH:Hid (HoldsK QjV 2 w2 gp 0 d):=hH;have HI:Hid (∀ x∈d.toList,x.2<N):=az;clear hH hR az)
   | (at_make;refine wpList_make_full _ rfl _ _ 107 rfl w2.heap.size 111 i0 (.agg zAg) 2 underlying107 hi aJ aE .i64 .i64 _ _ (8*N) rfl rfl (by omega) (by omega) (by rw [aF];omega) (by unfold maxLen;omega) (Nat.le_refl _) ?_;intro w3 af ac))
  have au:Bw w w2:=Qac al aG;clear ag an;obtain ⟨R,ar⟩:∃ R,R=d.toList.map (QhJ L):=⟨_,rfl⟩;rw [<- ar] at HR;have aw:R.length=8*N:=by rw [ar];simp [aK]
  have ay:Bw w2 w3:=(ZZb _ _).grown ac (ZZa _) (fun k e=>by cases e)
  have ae:w3.ownsRow w2.heap.size 111 2 (.slice (some ⟨w2.heap.size,0,none⟩) (8*N) (8*N)) (8*N) (fl QeR (Qdf R 0)):=by
   rw [Qn5,aw,<- QnP];exact af
  clear af ac;go_wp2
  go_loopw [17] (fun i wr=>∃ k:Nat,k<=8*N/\i=.int .i64 k/\wr.ownsRow w2.heap.size 111 2 (.slice (some ⟨w2.heap.size,0,none⟩) (8*N) (8*N)) (8*N) (fl QeR (Qdf R k))/\Bw w2 wr) (fun i wr=>8*N - (Go.RowKit.intOf i).toNat)
  case atStart=>exact ⟨0,ZZj _,rfl,ae,ay⟩
  case round=>
   clear ae ay;obtain ⟨k,hk,rfl,aa,ab⟩:=hrel;by_cases aN:k<8*N
   ·have aH:(k:Int)<8*(N:Int):=by omega
    obtain ⟨⟨ai,pl⟩,ak⟩:∃ x:Int×Nat,d[k]! = x:=⟨_,rfl⟩;have ah:k<d.size:=by omega
    have aj:((ai,pl):Int×Nat)∈d.toList:=by
     rw [<- ak,<- QdN d k ah];exact List.getElem_mem _
    have aq:=HI.out _ aj
    have aQ:wr.cell? ⟨gp,k*2,none⟩=some (.int .u64 ai):=by
     have h:=(HH.cell ah (show 0<2 by omega)).1;rw [Nat.zero_add,Nat.add_zero,ak] at h;exact Qab ab h
    have aO:wr.cell? ⟨gp,k*2+1,none⟩=some (.int .u64 pl):=by
     have h:=(HH.cell ah (show 1<2 by omega)).1;rw [Nat.zero_add,ak] at h;exact Qab ab h
    obtain ⟨b,aP,rfl,ad⟩:=hA (by have:=HN.out;omega);obtain ⟨u,ap⟩:∃ u,L[pl]?=some u:=⟨L[pl]'(by have:=HN.out;simp at aq;omega),List.getElem?_eq_getElem _⟩;have aB:=Qab ab (Qab au (ad pl u ap))
    have aA:R[k]?=some (ai,u):=by
     rw [ar,List.getElem?_map,List.getElem?_eq_getElem (by simpa using ah),QdN d k ah,ak];simp [QhJ,QeC ap]
    have av:wr.cell? ⟨w2.heap.size,k*2,none⟩=some (.int .u64 0):=by
     rw [aa.cellAt _ (by omega)];have:=Qd2 Qg3 (Qdf R k) k (0,ByteArray.empty) 0 (by omega) (QmZ (by omega));rw [Nat.add_zero] at this;rw [this];rfl
    have ax:wr.cell? ⟨w2.heap.size,k*2+1,none⟩=some (.string ByteArray.empty):=by
     rw [aa.cellAt _ (by omega)];rw [Qd2 Qg3 (Qdf R k) k (0,ByteArray.empty) 1 (by omega) (QmZ (by omega))];rfl
    have aD:=aa.frozenAt (k*2);have aI:=aa.frozenAt (k*2+1);have aL:w2.heap.size<wr.heap.size:=World.block_lt_of_cell? _ _ av
    have HS:Hid (((fl QeR (Qdf R k)).set (k*2) (.int .u64 ai)).set (k*2+1) (.string u)=fl QeR (Qdf R (k+1))):=by
     rw [<- QoE aA];exact Qqy Qg3 _ k (ai,u) (by rw [QoU _ _ (by omega)];omega) rfl
    have HO:Hid (wr.ownsRow w2.heap.size 111 2 (.slice (some ⟨w2.heap.size,0,none⟩) (8*N) (8*N)) (8*N) (fl QeR (Qdf R k))):=aa;have HB:Hid (Bw w2 wr):=ab;have aC:pl<N:=aq;have a1:=QcJ aB;have a2:=QcJ av;have a3:=QcJ ax;have a4:∀ o,(wr.alloc o).frozen? ⟨w2.heap.size,k*2,none⟩=false:=fun o=>by rw [Qc9 ((Below.refl _ _).alloc (Nat.le_refl _) o) av];exact aD
    have a5:∀ o,(wr.alloc o).frozen? ⟨w2.heap.size,k*2+1,none⟩=false:=fun o=>by rw [Qc9 ((Below.refl _ _).alloc (Nat.le_refl _) o) ax];exact aI
    clear aa ab aj aq ap ad aA ak hA;go_wp2;go_region
    all_goals go_wp2
    go_roundw
    case rel=>
     refine ⟨k+1,by omega,by go_num,?_,?_⟩
     ·rw [<- HS.out]
      exact (((HO.stored _ _).1.stored _ _).1.alloc _).drew
     ·exact (((HB.setCell (by exact Nat.le_refl _) _).setCell (by exact Nat.le_refl _) _).alloc (by simp;omega) _).drew
    case measure=>simp [zI];omega
   ·have e:k=8*N:=by omega
    have aH:¬ (k:Int)<8*(N:Int):=by omega
    have HO:Hid (wr.ownsRow w.heap.size 111 2 (.slice (some ⟨w2.heap.size,0,none⟩) (8*N) (8*N)) R.length (fl QeR R)):=by
     rw [e,<- aw,Qoj] at aa;rw [<- aw];exact aa.mono au.size
    have HB:Hid (Bw w wr):=Qac au ab;clear aa ab hA e;go_wp2;go_ret;exact ⟨_,rfl,R,.inl ⟨HL,HR⟩,HO,HB⟩
theorem Qds (N:Nat) (hN0:N≠0) (hN:N<=9223372036854775807) (w:World) :
  Calls prog 101 #[.int .i64 N] w fun e w'=>e=.returned (.string ⟨(Lib.decDigits N).toArray⟩)/\Bw w w':=by
 have ac:((N:Int) == 0)=false:=ZZf.2 (by omega);have ab:decide ((N:Int)<0)=false:=ZZg (by omega);go_enter func101,ntmps101;go_wp2
 go_loopw [0,4,5] (fun n o d wr=>∃ (m:Nat) (D:List UInt8),m<=N/\n=.int .i64 m/\o=.string ⟨D.toArray⟩/\Qvk N m D/\Bw w wr) (fun n o d wr=>(Go.RowKit.intOf n).toNat)
 case atStart=>exact ⟨N,[],Nat.le_refl _,rfl,rfl,⟨fun h=>absurd h hN0,fun _=>by simp⟩,Below.refl _ _⟩
 case round=>
  obtain ⟨m,D,hm,rfl,rfl,hR,aa⟩:=hrel;by_cases k:m=0
  ·subst k
   have HR:Hid (Qvk N 0 D):=hR;clear hR;go_wp2;go_ret;exact ⟨Qea (by rw [HR.1 rfl]),aa⟩
  ·obtain ⟨d,hd⟩:∃ d,d=m % 10:=⟨_,rfl⟩
   obtain ⟨q,hq⟩:∃ q,q=m / 10:=⟨_,rfl⟩;have HR:Hid (Qvk N q (UInt8.ofNat (48+d) :: D)):=by rw [hd,hq];exact QpA hR k
   have ag:=Qrh hR (QpI N hN);have e1:Int.tmod (m:Int) 10=(d:Int):=by rw [hd];rfl
   have e2:Int.tdiv (m:Int) 10=(q:Int):=by rw [hq];rfl
   have hk:((m:Int) != 0)=true:=by simp;omega
   have ae:d<10:=by omega
   have ad:q<m:=by omega
   have e3:decide ((d:Int)<0)=false:=ZZg (by omega);have e4:IntKind.u8.wrap (48+(d:Int))=48+(d:Int):=IntWalk.u8_in _ ⟨by omega,by omega⟩;obtain ⟨B,hB⟩:∃ B,B=strOfNums [48+(d:Int)]:=⟨_,rfl⟩
   have kc:=run_convert_bytes_arg (P:=prog) (wr.alloc (.cells #[.int .u8 (48+(d:Int))] 5)) 22 5 underlying22 underlying5 wr.heap.size 0 1 1 [48+(d:Int)] rfl (fun i hi=>by
      obtain rfl:i=0:=by omega
      simp) 9 underlying9
   rw [<- hB] at kc;have af:B.size=1:=by rw [hB];rfl
   have HB:Hid (B ++ ⟨D.toArray⟩=(⟨(UInt8.ofNat (48+d) :: D).toArray⟩:ByteArray)):=(by
    rw [hB,<- Qtz];congr 1;:B ++ ⟨D.toArray⟩=(⟨(UInt8.ofNat (48+d) :: D).toArray⟩:ByteArray))
   have hD:(⟨D.toArray⟩:ByteArray).size=D.length:=rfl;have HL:Hid (Bw w wr):=aa;have hz:=aa.size;clear hR hd hq k ac ab hB aa;go_wp2;go_roundw
   case rel=>exact ⟨q,UInt8.ofNat (48+d) :: D,by omega,rfl,by rw [HB.out],HR,HL.alloc (by omega) _⟩
   case measure=>simp [zI];omega
theorem QpW (k:Nat) (hk:k<8) (w:World) :
  Calls prog 101 #[.int .i64 k] w fun e w'=>e=.returned (.string ⟨(Lib.decDigits k).toArray⟩)/\Bw w w':=by
 rcases Nat.eq_zero_or_pos k with rfl | h
 ·have e:(⟨(Lib.decDigits 0).toArray⟩:ByteArray)=⟨#[48]⟩:=by rw [Lib.decDigits_one (by omega)];rfl
  rw [e];go_enter func101,ntmps101;go_wp2;go_ret;exact ⟨rfl,ZZb _ _⟩
 ·exact Qds k (by omega) (by omega) w
theorem QiJ (h:a.size+b.size<=1000000):Op.stringOp .add a b=pure (.string (a ++ b)):=by
 unfold Op.stringOp
 have:¬ (((a.size+b.size:Nat):Int) > IntKind.i64.max):=by
  have e:IntKind.i64.max=9223372036854775807:=by decide
  rw [e];omega
 simp only [if_neg this]
theorem Qng (m:Mk):∀ u∈QeR m,u.oneCell'=true:=fun u hu=>by simp [QeR] at hu;rcases hu with rfl | rfl <;> rfl
theorem Qor (R:List Mk):∀ u∈fl QeR R,u.oneCell'=true:=fun u hu=>by
 obtain ⟨m,_,h⟩:=List.mem_flatMap.1 hu;exact Qng m u h
theorem QlH (cap:Nat) (hL:Qag L=true) (hA:Qau w ao L) :
  Calls prog 67 #[.slice ao L.length cap] w fun e w'=>∃ g cp R,e=.returned (.slice (some ⟨g,0,none⟩) R.length cp)/\Qd8 L R/\w'.ownsRow w.heap.size 111 2 (.slice (some ⟨g,0,none⟩) R.length cp) R.length (fl QeR R)/\Bw w w':=by
 obtain ⟨i0,hi,aM,aN,aq⟩:=info_parts infoM;obtain ⟨a9,aD⟩:=Qa8 hL;have bf:=op_gtr 9;obtain ⟨N,hN⟩:∃ N,L.length=N:=⟨_,rfl⟩;have HN:Hid (L.length=N):=hN;have HL:Hid (Qag L=true):=hL;rw [hN] at a9 aD;rw [hN];clear hN hL;go_enter func67,ntmps67;go_wp2
 go_loopw [3,4] (fun v i wr=>∃ (p:Nat) (R:List Mk) (go co:Nat),p<=N/\i=.int .i64 p/\v=.slice (some ⟨go,0,none⟩) (8*p) co/\R.Perm (mks L (8*p))/\R.Pairwise mle/\wr.ownsRow w.heap.size 111 2 (.slice (some ⟨go,0,none⟩) (8*p) co) (8*p) (fl QeR R)/\Bw w wr) (fun v i wr=>N - (Go.RowKit.intOf i).toNat)
 case atStart=>exact ⟨0,[],w.heap.size,0,ZZj _,rfl,rfl,List.Perm.refl _,List.Pairwise.nil,World.ownsRow_made w #[] 0 (ZZa _) (ZZj _) rfl,(ZZb _ _).alloc (ZZa _) _⟩
 case round=>
  obtain ⟨p,R0,aK,aH,hp,rfl,rfl,ae,ai,ab,aa⟩:=hrel;by_cases bl:p<N
  ·obtain ⟨b,a3,rfl,ak⟩:=hA (by have:=HN.out;omega)
   obtain ⟨u,aA⟩:∃ u,L[p]?=some u:=⟨L[p]'(by have:=HN.out;omega),ZZe _⟩;have bg:=(QbZ (Qbx HL (ZZn aA))).2;have HU:Hid (L[p]?=some u):=aA;have HC:Hid (w.cell? ⟨b,a3+p,none⟩=some (.string u)):=ak p u aA;clear ak aA;go_wp2
   go_loopw [3,5] (fun v2 i wr2=>∃ (k:Nat) (R:List Mk) (go co:Nat),k<=8/\i=.int .i64 k/\v2=.slice (some ⟨go,0,none⟩) (8*p+k) co/\R.Perm (mks L (8*p+k))/\R.Pairwise mle/\wr2.ownsRow w.heap.size 111 2 (.slice (some ⟨go,0,none⟩) (8*p+k) co) (8*p+k) (fl QeR R)/\Bw w wr2) (fun v2 i wr2=>8 - (Go.RowKit.intOf i).toNat)
   case atStart=>exact ⟨0,R0,aK,aH,ZZj _,rfl,rfl,ae,ai,ab,aa⟩
   case round=>
    clear ab aa ae ai;obtain ⟨k,R,go,co,hk,rfl,rfl,ae,ai,ab,aa⟩:=hrel;obtain ⟨M,hM⟩:∃ M,8*p+k=M:=⟨_,rfl⟩;rw [hM] at ae ab;rw [hM];by_cases aJ:k<8
    ·obtain ⟨D,hD⟩:∃ D:ByteArray,D=⟨(Lib.decDigits k).toArray⟩:=⟨_,rfl⟩
     have aR:D.size=1:=by rw [hD];show (Lib.decDigits k).toArray.size=1;rw [List.size_toArray];exact Qth k aJ
     have aG:=fun W=>QpW k aJ W;rw [<- hD] at aG;obtain ⟨X,hX⟩:∃ X:Int,X=QbB (u ++ ⟨#[35]⟩ ++ D):=⟨_,rfl⟩;have a6:(u ++ ⟨#[35]⟩ ++ D).size=u.size+2:=by rw [ByteArray.size_append,ByteArray.size_append,aR];rfl
     have aC:=fun W=>Qek (u ++ ⟨#[35]⟩ ++ D) (by unfold maxLen;omega) W;rw [<- hX] at aC
     have HX:Hid (mks L (M+1)=mks L M ++ [(X,u)]):=by
      rw [<- hM,Qce,QiW HU.out aJ,hX,hD];rfl
     have hc:=Qab aa HC;have bb:b<wr.heap.size:=World.block_lt_of_cell? _ _ hc;have aF:(⟨#[35]⟩:ByteArray).size=1:=rfl;have av:Op.stringOp .add u ⟨#[35]⟩=pure (.string (u ++ ⟨#[35]⟩)):=QiJ (by omega);have ay:Op.stringOp .add (u ++ ⟨#[35]⟩) D=pure (.string (u ++ ⟨#[35]⟩ ++ D)):=QiJ (by rw [ByteArray.size_append];omega);have HO:Hid (wr.ownsRow w.heap.size 111 2 (.slice (some ⟨go,0,none⟩) M co) M (fl QeR R)):=ab;have HB:Hid (Bw w wr):=aa;have HM:Hid (8*p+k=M):=hM;have bj:M<=96:=by omega
     have HP:Hid (R.Perm (mks L M)/\R.Pairwise mle):=⟨ae,ai⟩;have a4:=aa.size;clear hD hX a6 ab aa ae ai hM;go_wp2_with fail
     go_cut [6] (fun v w'=>∃ g:Nat,v=.pointer (some ⟨g,0,none⟩)/\w'.cell? ⟨g,0,none⟩=some (.int .u64 X)/\w'.cell? ⟨g,1,none⟩=some (.string u)/\wr.heap.size<=g/\g<w'.heap.size/\Bw wr w')
     case first=>
      go_region_held3 (Qgo wr.heap.size wr)
       (refine held ?_ (by simp) <;> first | exact (Below.refl _ _).drew | exact ((Below.refl _ _).alloc (by simp) _).drew | exact aI | exact Below.alloc aI (by omega) _ | exact Below.setCell (Below.setCell aI (by dsimp only;omega) _) (by dsimp only;omega) _)
       (first
        | (go_at_call 101;refine (aG _).mono ?_;rintro e w1 ⟨rfl,ah⟩;obtain ⟨aI,bn⟩:=QbT ah ‹Qgo _ _ _›; (first | have hT:=Qac hT ah | have hT:=ah);obtain ⟨aZ,bo⟩:=QhH hT;have aq:=ah.size; (try simp at aq);clear ah)
        | (go_at_call 68;refine (aC _).mono ?_;rintro e w1 ⟨rfl,aY⟩;subst aY))
      all_goals (go_wp2;go_meet)
      all_goals
       have hK:=‹Qgo _ _ _›;refine ⟨_,rfl,?_,?_,?_,?_,hK.1⟩
       ·go_simp
       ·go_simp
       ·omega
       ·first | (simp;done) | (simp;omega)
     case rest=>
      clear aG aC av ay hc aF aR;obtain ⟨g,rfl,aX,a1,bd,be,hB⟩:=hcut;have an:Hid (wc.ownsRow w.heap.size 111 2 (.slice (some ⟨go,0,none⟩) M co) M (fl QeR R)):=QaY HO hB;have aE:Hid (Bw w wc):=HB.trans (hB.mono a4);have ba:R.length=M:=by rw [HP.1.length_eq,Qle]
      clear HO HB hB;go_upto_block 4 with fail
      go_cut [7] (fun v w'=>∃ n q:Nat,v=.int .i64 n/\w'=wc.drewN q/\n<=M/\(n=0∨∃ a,R[n - 1]?=some a/\mle a (X,u))/\∀ j a,n<=j->R[j]?=some a->mle (X,u) a)
      case first=>
       go_wp2_with fail
       go_loopw [7] (fun i wr2=>∃ n q:Nat,n<=M/\i=.int .i64 n/\wr2=wc.drewN q/\∀ j a,n<=j->R[j]?=some a->mle (X,u) a) (fun i _=>(Go.RowKit.intOf i).toNat)
       case atStart=>exact ⟨M,0,ZZa _,rfl,rfl,fun j a hj h=>absurd (ZZd.1 h).1 (by omega)⟩
       case round=>
        obtain ⟨n,q,hn,rfl,rfl,az⟩:=hrel;have HH:Hid (∀ j a,n<=j->R[j]?=some a->mle (X,u) a):=az;clear az;rcases Nat.eq_zero_or_pos n with rfl | a7
        ·go_wp2
         go_quiet (fail)
         go_wp2;go_meet;exact ⟨0,_,rfl,(by first | rfl | exact Qdn _ _ _),ZZj _,.inl rfl,HH⟩
        ·obtain ⟨j,aL⟩:∃ j,j+1=n:=⟨n - 1,by omega⟩
         obtain ⟨⟨ax,um⟩,am⟩:∃ a,R[j]?=some a:=⟨R[j]'(by omega),ZZe _⟩
         have bm:wc.cell? ⟨go,j*2,none⟩=some (.int .u64 ax):=by
          rw [an.cellAt _ (by omega)];have:=Qd2 Qg3 R j _ 0 (by omega) am;rw [Nat.add_zero] at this;rw [this];rfl
         have aZ:wc.cell? ⟨go,j*2+1,none⟩=some (.string um):=by
          rw [an.cellAt _ (by omega),Qd2 Qg3 R j _ 1 (by omega) am];rfl
         have ek:((n:Int) - 1)=(j:Int):=by omega
         have ew:IntKind.i64.wrap (j:Int)=j:=ZZi _ ⟨by omega,by omega⟩;have bh:(0:Int)<(n:Int):=by omega
         have bp:j<M:=by omega
         have HJ:Hid (j+1=n):=aL;have HR:Hid (R[j]?=some (ax,um)):=am
         have on:mle (X,u) (ax,um)->∀ i a,j<=i->R[i]?=some a->mle (X,u) a:=fun hm i a hi ha=>by
          by_cases e:i=j
          ·subst e;rw [am] at ha;obtain rfl:=Option.some.inj ha;exact hm
          ·exact HH.out i a (by omega) ha
         have ON:Hid (mle (X,u) (ax,um)->∀ i a,j<=i->R[i]?=some a->mle (X,u) a):=on;have ar:mle (ax,um) (X,u)->(n=0∨∃ a,R[n - 1]?=some a/\mle a (X,u)):=fun hm=>.inr ⟨(ax,um),by rw [<- aL];exact am,hm⟩;have aO:Hid (mle (ax,um) (X,u)->(n=0∨∃ a,R[n - 1]?=some a/\mle a (X,u))):=ar;clear on ar aL am;rcases Int.lt_trichotomy X ax with ht | ht | ht
         ·have bi:X<ax:=ht
          go_wp2
          go_quiet (fail)
          go_wp2;go_roundw
          case rel=>exact ⟨j,_,by omega,rfl,(by first | rfl | exact Qdn _ _ _),ON.out (.inl ht)⟩
          case measure=>simp [zI];have:=HJ.out;omega
         ·subst ht
          cases hlt:QaM u um
          ·go_wp2
           go_quiet (fail)
           go_wp2;go_meet;exact ⟨n,_,rfl,(by first | rfl | exact Qdn _ _ _),hn,aO.out (.inr ⟨rfl,hlt⟩),HH⟩
          ·go_wp2
           go_quiet (fail)
           go_wp2;go_roundw
           case rel=>exact ⟨j,_,by omega,rfl,(by first | rfl | exact Qdn _ _ _),ON.out (.inr ⟨rfl,QeH hlt⟩)⟩
           case measure=>simp [zI];have:=HJ.out;omega
         ·have h1:decide (X<ax)=false:=ZZg (by omega)
          have h2:(ax == X)=false:=ZZf.2 (by omega);go_wp2
          go_quiet (fail)
          go_wp2;go_meet;exact ⟨n,_,rfl,(by first | rfl | exact Qdn _ _ _),hn,aO.out (.inl ht),HH⟩
      case rest=>
       obtain ⟨n,q,rfl,rfl,hn,aS,az⟩:=hcut;have ap:Hid ((R.take n ++ (X,u) :: R.drop n).Pairwise mle/\(R.take n ++ (X,u) :: R.drop n).Perm (mks L (M+1))):=⟨Qns HP.2 (by omega) aS az,by rw [HX.out];exact (QrU R (X,u) n).trans (HP.1.append_right _)⟩;clear aS az;have a8:M<=co:=Qi6 an;have a0:co<=9223372036854775807:=Qi1 an;have bc:(n:Int)<=(M:Int):=by omega
       have a2:(n:Int)<=(co:Int):=by omega
       have l1:(fl QeR (R.take n)).length=n*2:=by rw [Qdu Qg3,List.length_take,Nat.min_eq_left (by omega)]
       have l3:(fl QeR (R.drop n)).length=(M - n)*2:=by rw [Qdu Qg3,List.length_drop,ba]
       have c1:∀ W,Bw wc W->∀ j u,(fl QeR (R.take n))[j]?=some u->W.cell? ((⟨go,0,none⟩:Addr).add j)=some u:=fun W hW j u hj=>by
        have aB:=(ZZd.1 hj).1;rw [Addr.add_lit,Nat.zero_add,(QaY an.out hW).cellAt j (by omega)]
        conv=>lhs;rw [<- List.take_append_drop n R]
        rw [QhT,List.getElem?_append_left aB];exact hj
       obtain ⟨A,bk,aT⟩:∃ A:Addr,(if co=n then some (⟨go,0,none⟩:Addr) else some ⟨go,n*2,none⟩)=some A/\∀ W,Bw wc W->∀ j u,(fl QeR (R.drop n))[j]?=some u->W.cell? (A.add j)=some u:=by
        by_cases e:co=n
        ·refine ⟨_,if_pos e,fun W hW j u hj=>?_⟩
         have aB:=(ZZd.1 hj).1;rw [l3] at aB;omega
        ·refine ⟨_,if_neg e,fun W hW j u hj=>?_⟩
         have aB:=(ZZd.1 hj).1;rw [Addr.add_lit,(QaY an.out hW).cellAt (n*2+j) (by omega)]
         conv=>lhs;rw [<- List.take_append_drop n R]
         rw [QhT,List.getElem?_append_right (by omega),l1,show n*2+j - n*2=j by omega];exact hj
       have aV:∀ o,Bw wc ((wc.drewN q).alloc o):=fun o=>(Qao (ZZb _ _) q).alloc (by exact ZZa _) o;have C1:=Qaa c1;have C3:=Qaa aT;have B0:=Qaa aV;have L1:=Qaa l1;have L3:=Qaa l3;clear c1 aT aV l1 l3
       go_wp2_with (first
        | (at_builtin;refine wpList_append_own _ rfl (.tmp 73) (.tmp 76) 107 rfl wc.heap.size 111 i0 (.agg zAg) 2 24 underlying107 hi aM aN aq rfl (by decide) _ _ _ rfl (World.ownsRow_made (wc.drewN q) #[] 0 (by exact Nat.le_refl _) (Nat.zero_le _) rfl) ⟨go,0,none⟩ n co (fl QeR (R.take n)) rfl L1 (C1.out _ (B0.out _)) (Qor _) (by unfold maxLen;omega) (by omega) (by simp) ?_;intro v1 w1 ac af aw;simp only [Nat.zero_add,List.nil_append] at ac;have ah:=(B0.out _).grown af (by simp) (fun j hj=>Nat.le_of_eq (Option.some.inj hj));have m0:=Qab ah aX;have m1:=Qab ah a1;have O1:=Qaa ac;have B1:=Qaa ah;clear ac af aw ah)
        | (at_builtin;refine wpList_append_own _ rfl (.tmp 78) (.tmp 80) 107 rfl wc.heap.size 111 i0 (.agg zAg) 2 24 underlying107 hi aM aN aq rfl (by decide) _ _ _ rfl (O1.alloc _) ⟨w1.heap.size,0,none⟩ 1 1 (QeR (X,u)) rfl rfl (Qav (cs:=#[.int .u64 X,.string u]) rfl) (Qng _) (by unfold maxLen;omega) (by omega) (by simp;have:=B1.size;omega) ?_;intro v2 w2 al ag au;have aU:=(B1.alloc B1.size _).grown ag (by simp;have:=B1.size;omega) (fun j hj=>(O1.lt j hj).1);have O2:=Qaa al;have B2:=Qaa aU;clear al ag au aU)
        | (at_builtin;refine wpList_append_own _ rfl (.tmp 82) (.tmp 85) 107 rfl wc.heap.size 111 i0 (.agg zAg) 2 24 underlying107 hi aM aN aq rfl (by decide) _ _ _ rfl O2 A (M - n) (co - n) (fl QeR (R.drop n)) rfl L3 (C3.out _ B2) (Qor _) (by unfold maxLen;omega) (by omega) B2.size ?_;intro v3 w3 aj ad aQ;have aP:=B2.grown ad B2.size (fun j hj=>(O2.lt j hj).1);have O3:=Qaa aj;have B3:=Qaa aP;clear aj ad aP))
       have hO:w3.ownsRow wc.heap.size 111 2 v3 (M+1) (fl QeR (R.take n ++ (X,u) :: R.drop n)):=QlV O3 (by omega) (by rw [QhT,Qc3,List.append_assoc]);obtain ⟨g3,c3,a5⟩:=Qcf hO (by omega);subst a5;have e:=HM.out;go_roundw
       case rel=>
        refine ⟨k+1,R.take n ++ (X,u) :: R.drop n,g3,c3,by omega,by go_num,?_,?_,ap.1,?_,aE.trans (B3.mono aE.size)⟩
        ·rw [<- Nat.add_assoc,e]
        ·rw [<- Nat.add_assoc,e];exact ap.2
        ·rw [<- Nat.add_assoc,e];exact hO.mono aE.size
       case measure=>simp [zI];omega
    ·have e:k=8:=by omega
     subst e;have e2:M=8*(p+1):=by omega
     subst e2;have HO:Hid (wr.ownsRow w.heap.size 111 2 (.slice (some ⟨go,0,none⟩) (8*(p+1)) co) (8*(p+1)) (fl QeR R)):=ab;have HB:Hid (Bw w wr):=aa;have HP:Hid (R.Perm (mks L (8*(p+1)))/\R.Pairwise mle):=⟨ae,ai⟩;clear ab aa ae ai hM;go_wp2;go_roundw
     case rel=>exact ⟨p+1,R,go,co,by omega,by go_num,rfl,HP.1,HP.2,HO,HB⟩
     case measure=>simp [zI];omega
  ·have e:p=N:=by omega
   subst e;have HO:Hid (wr.ownsRow w.heap.size 111 2 (.slice (some ⟨aK,0,none⟩) (8*p) aH) (8*p) (fl QeR R0)):=ab;have HB:Hid (Bw w wr):=aa;have HP:Hid (R0.Perm (mks L (8*p))/\R0.Pairwise mle):=⟨ae,ai⟩;have aW:Hid (8*p=R0.length):=(by rw [ae.length_eq,Qle]:8*p=R0.length);clear ab aa ae ai hA;go_wp2;go_ret;have hl:=aW.out;have hN:=HN.out;have hO:=HO.out;rw [hl] at hO;refine ⟨aK,aH,R0,by rw [<- hl];rfl,⟨?_,HP.2⟩,hO,HB⟩;rw [hN];exact HP.1
def Qco (h:Int):List Mk->Option Mk
 | []=>none
 | m :: r=>if h<=m.1 then some m else Qco h r
theorem QgN {h:Int}:∀ (R:List Mk) (k:Nat) (a:Mk),R[k]?=some a->h<=a.1->(∀ j b,j<k->R[j]?=some b->b.1<h)->Qco h R=some a
 | [],k,a,hk,_,_=>by simp at hk
 | m :: r,0,a,hk,ha,_=>by
  obtain rfl:m=a:=by simpa using hk
  simp [Qco,ha]
 | m :: r,k+1,a,hk,ha,hl=>by
  have h0:=hl 0 m (by omega) rfl;unfold Qco;rw [if_neg (by omega)];exact QgN r k a (by simpa using hk) ha (fun j b hj hb=>hl (j+1) b (by omega) (by simpa using hb))
theorem QfE {h:Int}:∀ (R:List Mk),(∀ (j:Nat) (b:Mk),R[j]?=some b->b.1<h)->Qco h R=none
 | [],_=>rfl
 | m :: r,hl=>by
  have h0:=hl 0 m rfl;unfold Qco;rw [if_neg (by omega)];exact QfE r (fun j b hb=>hl (j+1) b (by simpa using hb))
def Qrc (R:List Mk) (h:Int):ByteArray:=
 match Qco h R with
 | some m=>m.2
 | none=>match R with
  | m :: _=>m.2
  | []=>ByteArray.empty
variable {h:Int}
theorem QmQ {a:Mk} (hk:R[k]?=some a) (ha:h<=a.1) (hl:∀ (j:Nat) (b:Mk),j<k->R[j]?=some b->b.1<h):Qrc R h=a.2:=by
 unfold Qrc;rw [QgN R k a hk ha hl]
theorem Qkl {a:Mk} (h0:R[0]?=some a) (hl:∀ (j:Nat) (b:Mk),R[j]?=some b->b.1<h):Qrc R h=a.2:=by
 unfold Qrc;rw [QfE R hl]
 match R,h0 with
 | m :: _,h0=>
  obtain rfl:m=a:=by simpa using h0
  rfl
def QaR (L:List ByteArray) (key s:ByteArray):Prop:=(key.size<=20000/\Qag L=true/\∃ R,Qd8 L R/\s=Qrc R (QbB key))∨((¬ key.size<=20000∨Qag L=false)/\s=ByteArray.empty)
theorem Qet {t:ByteArray} (h:QaR L key s) (k:QaR L key t):s=t:=by
 rcases h with ⟨h1,h2,R,h3,rfl⟩ | ⟨h1,rfl⟩ <;> rcases k with ⟨k1,k2,R',k3,rfl⟩ | ⟨k1,rfl⟩
 ·rw [Qr5 h3 k3]
 ·rcases k1 with k1 | k1
  ·exact absurd h1 k1
  ·rw [h2] at k1;cases k1
 ·rcases h1 with h1 | h1
  ·exact absurd k1 h1
  ·rw [h1] at k2;cases k2
 ·rfl
theorem QdY {c:Nat} {a:Int} (h:w.ownsRow B 111 2 (.slice (some ⟨g,0,none⟩) n c) n (fl QeR R)) (hn:n=R.length) (hk:R[k]?=some (a,u)) :
  w.cell? ⟨g,k*2,none⟩=some (.int .u64 a)/\w.cell? ⟨g,k*2+1,none⟩=some (.string u):=by
 have aa:=(ZZd.1 hk).1;constructor
 ·rw [h.cellAt _ (by omega)]
  have:=Qd2 Qg3 R k _ 0 (by omega) hk;rw [Nat.add_zero] at this;rw [this];rfl
 ·rw [h.cellAt _ (by omega),Qd2 Qg3 R k _ 1 (by omega) hk];rfl
theorem Qhg (cap:Nat) (key:ByteArray) (hkm:key.size<=maxLen) (hl:L.length<=1048576) (hu:∀ u∈L,u.size<=1048576) (hA:Qau w ao L) :
  Calls prog 94 #[.slice ao L.length cap,.string key] w fun e w'=>∃ s,e=.returned (.string s)/\QaR L key s/\Bw w w':=by
 have ad:=Qda key hkm;by_cases hk:key.size<=20000
 ·have e1:decide (key.size<=20000)=true:=ZZh hk
  simp only [e1] at ad;have al:=Qnx cap hl hu hA;have af:=QmO key hkm;simp only [Qip hk] at af;clear hA hu;obtain ⟨H,hH⟩:∃ H,QbB key=H:=⟨_,rfl⟩;rw [hH] at af;go_enter func94,ntmps94
  go_wp2_with (first
   | (go_at_call 70;refine (ad _).mono ?_;rintro e w1 ⟨rfl,rfl⟩)
   | (go_at_call 135;refine al.mono ?_;rintro e w2 ⟨v,R,rfl,hR,aa,aq⟩;have HR:=Qaa hR;have HO:=Qaa aa;have HB:=Qaa aq;obtain ⟨ro,rc,hv⟩:=Qam aa;subst hv;clear hR aa aq)
   | (go_at_call 136;refine (af _).mono ?_;rintro e w3 ⟨rfl,rfl⟩))
  ·-- none
   go_ret;rename_i hz;have ac:R=[]:=List.eq_nil_of_length_eq_zero (by simpa using hz);rcases HR.out with ⟨h1,h2⟩ | ⟨h1,h2⟩
   ·have:=Qgd h2;have:=Qa8 h1;rw [ac] at *; simp at *; omega
   ·exact ⟨_,rfl,.inr ⟨.inr h1,rfl⟩,HB⟩
  ·have an:((R.length:Int) == 0)=false:=by assumption
   have hz:¬ R.length=0:=by have:=ZZf.1 an;omega
   obtain ⟨g,rfl⟩:∃ g,ro=some ⟨g,0,none⟩:=by
    obtain ⟨g,c,e⟩:=Qcf HO (by omega)
    cases e;exact ⟨g,rfl⟩
   have ar:=QuL HR;obtain ⟨N,hN⟩:∃ N,R.length=N:=⟨_,rfl⟩;rw [hN] at ar hz an;rw [hN] at HO;rw [hN];have HN:=Qaa hN;have HH:=Qaa hH
   have aj:∀ s,s=Qrc R H->QaR L key s:=fun s hs=>by
    rcases HR.out with ⟨h1,h2⟩ | ⟨h1,h2⟩
    ·exact .inl ⟨hk,h1,R,h2,by rw [hs,hH]⟩
    ·rw [h2] at hN;simp at hN;omega
   have ap:=Qaa aj;clear aj hN hH al af ad
   go_loopw [20,7] (fun i _ wr=>wr=w3/\∃ k:Nat,k<=N/\i=.int .i64 k/\∀ (j:Nat) (b:Mk),j<k->R[j]?=some b->b.1<H) (fun i _ wr=>N - (Go.RowKit.intOf i).toNat)
   case atStart=>exact ⟨rfl,0,ZZj _,rfl,fun j b hj=>absurd hj (by omega)⟩
   case round=>
    obtain ⟨rfl,k,av,rfl,ae⟩:=hrel;have HL:=Qaa ae;clear ae;by_cases aw:k<N
    ·obtain ⟨⟨a,m⟩,ah⟩:∃ a,R[k]?=some a:=⟨R[k]'(by have:=HN.out;omega),ZZe _⟩
     obtain ⟨ak,ai⟩:=QdY HO HN.symm ah;have HK:=Qaa ah;clear ah;by_cases am:H<=a
     ·go_wp2
      go_ret;exact ⟨m,rfl,ap.out m (QmQ HK am HL).symm,HB⟩
     ·have au:decide (H<=a)=false:=ZZg am
      go_wp2;go_roundw
      case rel=>
       refine ⟨trivial,k+1,by omega,by go_num,fun j b hj hb=>?_⟩;by_cases e:j=k
       ·subst e;rw [HK.out] at hb;obtain rfl:=Option.some.inj hb;show a<H;omega
       ·exact HL.out j b (by omega) hb
      case measure=>simp [zI];omega
    ·obtain ⟨⟨a,m⟩,ac⟩:∃ a,R[0]?=some a:=⟨R[0]'(by have:=HN.out;omega),ZZe _⟩
     obtain ⟨ak,ai⟩:=QdY HO HN.symm ac;rw [Nat.zero_mul] at ak ai;have HK:=Qaa ac;have ax:(0:Int)<(N:Int):=by omega
     have ab:∀ (j:Nat) (b:Mk),R[j]?=some b->b.1<H:=fun j b hb=>HL.out j b (by have:=(ZZd.1 hb).1;have:=HN.out;omega) hb;have ag:=Qaa ab;clear ac ab;go_wp2;go_ret;exact ⟨m,rfl,ap.out m (Qkl HK ag).symm,HB⟩
 ·have e1:decide (key.size<=20000)=false:=ZZg hk
  simp only [e1] at ad;clear hA hu;go_enter func94,ntmps94;go_wp2_with (go_at_call 70;refine (ad _).mono ?_;rintro e w1 ⟨rfl,rfl⟩);go_ret;exact ⟨_,rfl,.inr ⟨.inl hk,rfl⟩,ZZb _ _⟩
theorem Qdo (cap:Nat) (key:ByteArray) (hk:key.size<=20000) (hL:Qag L=true) (hA:Qau w ao L) :
  Calls prog 36 #[.slice ao L.length cap,.string key] w fun e w'=>∃ s,e=.returned (.string s)/\QaR L key s/\Bw w w':=by
 have ak:=QlH cap hL hA;have ae:=Qek key (by unfold maxLen;omega);have ap:=Qaa hL;have av:=(Qa8 hL).1;have aq:=(Qa8 hL).2;obtain ⟨H,hH⟩:∃ H,QbB key=H:=⟨_,rfl⟩;rw [hH] at ae;have HH:=Qaa hH;clear hA hL hH;go_enter func36,ntmps36
 go_wp2_with (first
  | (go_at_call 67;refine ak.mono ?_;rintro e w2 ⟨g,rc,R,rfl,hR,ac,an⟩;have HR:=Qaa hR;have HO:=Qaa ac;have HB:=Qaa an;have af:=Qaa (Qgd hR);clear hR ac an;obtain ⟨N,hN⟩:∃ N,R.length=N:=⟨_,rfl⟩;have HN:=Qaa hN;rw [hN] at af HO;rw [hN];clear hN)
  | (go_at_call 68;refine (ae _).mono ?_;rintro e w3 ⟨rfl,rfl⟩))
 have az:0<N:=by have:=af.out;omega
 have ax:N<=96:=by have:=af.out;omega
 have am:Hid (∀ s,s=Qrc R H->QaR L key s):=fun s hs=>.inl ⟨hk,ap,R,HR,by rw [hs,HH.out]⟩;clear ak ae
 go_loopw [7] (fun i wr=>wr=w3/\∃ k:Nat,k<=N/\i=.int .i64 k/\∀ (j:Nat) (b:Mk),j<k->R[j]?=some b->b.1<H) (fun i wr=>N - (Go.RowKit.intOf i).toNat)
 case atStart=>exact ⟨rfl,0,ZZj _,rfl,fun j b hj=>absurd hj (by omega)⟩
 case round=>
  obtain ⟨rfl,k,au,rfl,ab⟩:=hrel;have HL:=Qaa ab;clear ab;by_cases aw:k<N
  ·obtain ⟨⟨a,m⟩,ah⟩:∃ a,R[k]?=some a:=⟨R[k]'(by have:=HN.out;omega),ZZe _⟩
   obtain ⟨aj,ai⟩:=QdY HO HN.symm ah;have HK:=Qaa ah;clear ah;by_cases al:H<=a
   ·go_wp2
    go_ret;exact ⟨m,rfl,am.out m (QmQ HK al HL).symm,HB⟩
   ·have ar:decide (H<=a)=false:=ZZg al
    go_wp2;go_roundw
    case rel=>
     refine ⟨trivial,k+1,by omega,by go_num,fun j b hj hb=>?_⟩;by_cases e:j=k
     ·subst e;rw [HK.out] at hb;obtain rfl:=Option.some.inj hb;show a<H;omega
     ·exact HL.out j b (by omega) hb
    case measure=>simp [zI];omega
  ·obtain ⟨⟨a,m⟩,ag⟩:∃ a,R[0]?=some a:=⟨R[0]'(by have:=HN.out;omega),ZZe _⟩
   obtain ⟨aj,ai⟩:=QdY HO HN.symm ag;rw [Nat.zero_mul] at aj ai;have HK:=Qaa ag;have ay:(0:Int)<(N:Int):=by omega
   have aa:∀ (j:Nat) (b:Mk),R[j]?=some b->b.1<H:=fun j b hb=>HL.out j b (by have:=(ZZd.1 hb).1;have:=HN.out;omega) hb;have ad:=Qaa aa;clear ag aa;go_wp2;go_ret;exact ⟨m,rfl,am.out m (Qkl HK ad).symm,HB⟩
def mk8 (u:ByteArray):List Mk:=(List.range 8).map fun k=>(QbB (QcV u k),u)
theorem Qt2 (h:m∈mk8 u):m.2=u:=by
 unfold mk8 at h;obtain ⟨k,_,rfl⟩:=List.mem_map.1 h
 rfl
theorem Qma (L:List ByteArray):∀ p,p<=L.length->mks L (8*p)=(L.take p).flatMap mk8
 | 0,_=>rfl
 | p+1,h=>by
  obtain ⟨u,hu⟩:∃ u,L[p]?=some u:=⟨_,ZZe (by omega)⟩;have e:8*(p+1)=8*p+0+1+1+1+1+1+1+1+1:=by omega
  rw [e,Qce,Qce,Qce,Qce,Qce,Qce,Qce,Qce,Nat.add_zero,Qma L p (by omega)];rw [List.take_add_one,hu,Option.toList_some,List.flatMap_append];have e0:=QiW (k:=0) hu (by omega);have e1:=QiW (k:=1) hu (by omega);have e2:=QiW (k:=2) hu (by omega);have e3:=QiW (k:=3) hu (by omega);have e4:=QiW (k:=4) hu (by omega);have e5:=QiW (k:=5) hu (by omega);have e6:=QiW (k:=6) hu (by omega);have e7:=QiW (k:=7) hu (by omega);rw [Nat.add_zero] at e0;rw [e0,show 8*p+1+1=8*p+2 by omega,show 8*p+2+1=8*p+3 by omega,show 8*p+3+1=8*p+4 by omega,show 8*p+4+1=8*p+5 by omega,show 8*p+5+1=8*p+6 by omega,show 8*p+6+1=8*p+7 by omega,e1,e2,e3,e4,e5,e6,e7];have e8:List.flatMap mk8 [u]=mk8 u:=by simp
  rw [e8];have e9:mk8 u=[(QbB (QcV u 0),u),(QbB (QcV u 1),u),(QbB (QcV u 2),u),(QbB (QcV u 3),u),(QbB (QcV u 4),u),(QbB (QcV u 5),u),(QbB (QcV u 6),u),(QbB (QcV u 7),u)]:=rfl;rw [e9];simp
theorem Qsc (L:List ByteArray):mks L (8*L.length)=L.flatMap mk8:=by
 have:=Qma L L.length (ZZa _);rw [List.take_length] at this;exact this
theorem QaW (h:Qag L=true):L.Pairwise (fun a b=>QaM a b=true):=by
 rw [List.pairwise_iff_getElem];intro i j hi hj aa;have h2:L[i+(j - i - 1)+1]?=some L[j]:=by rw [show i+(j - i - 1)+1=j by omega];exact ZZe hj
 exact Qdk h (ZZe hi) _ h2
theorem Qiw (h1:1<=L.length) (h2:L.length<=12) (hn:∀ u∈L,QaB u=true) (hp:L.Pairwise (fun a b=>QaM a b=true)):Qag L=true:=by
 refine Qp9 (by omega) (by omega) ?_
 have ok:∀ k,k<=L.length->Qcg L k=true:=by
  intro k
  induction k with
  | zero=>intro _;rfl
  | succ k ih=>
   intro hk;obtain ⟨u,hu⟩:∃ u,L[k]?=some u:=⟨_,ZZe (by omega)⟩;have ac:=hn u (ZZn hu);unfold Qcg;rw [ih (by omega),Bool.true_and]
   match k,hu with
   | 0,hu=>rw [Qu7 hu];exact ac
   | j+1,hu=>
    obtain ⟨p,ab⟩:∃ p,L[j]?=some p:=⟨_,ZZe (by omega)⟩;have aa:=List.pairwise_iff_getElem.1 hp j (j+1) (by omega) (by omega) (by omega);rw [(List.getElem?_eq_some_iff.1 ab).2,(List.getElem?_eq_some_iff.1 hu).2] at aa;rw [Qsd ab hu,ac,aa];rfl
 exact ok _ (ZZa _)
def isM (u:ByteArray) (m:Mk):Bool:=m.2.toList == u.toList
theorem Qrg (hR:R≠[]):∃ m∈R,Qrc R h=m.2:=by
 have hf:∀ (R:List Mk) m,Qco h R=some m->m∈R:=by
  intro R
  induction R with
  | nil=>intro m hm;simp [Qco] at hm
  | cons a r ih=>
   intro m hm;unfold Qco at hm
   split at hm
   ·cases hm;exact List.mem_cons_self
   ·exact ZZm _ (ih m hm)
 unfold Qrc
 cases e:Qco h R with
 | some m=>exact ⟨m,hf R m e,rfl⟩
 | none=>
  match R,hR with
  | m :: r,_=>exact ⟨m,List.mem_cons_self,rfl⟩
theorem Qsp (hR:Qd8 L R) (hm:m∈R):m.2∈L:=by
 have:=hR.1.mem_iff.1 hm;rw [Qsc] at this;obtain ⟨u,hu,h⟩:=List.mem_flatMap.1 this;rw [Qt2 h];exact hu
theorem QsW {o:ByteArray} (hL:Qag L=true) (hk:key.size<=20000) (h:QaR L key o):o∈L:=by
 rcases h with ⟨_,_,R,hR,rfl⟩ | ⟨h1,_⟩
 ·have aa:R≠[]:=fun e=>by have:=Qgd hR;have:=(Qa8 hL).1;rw [e] at *; simp at *; omega
  obtain ⟨m,hm,e⟩:=Qrg (h:=QbB key) aa;rw [e];exact Qsp hR hm
 ·rcases h1 with h1 | h1
  ·exact absurd hk h1
  ·rw [hL] at h1;cases h1
def insN (L:List ByteArray) (q:Nat) (nm:ByteArray):List ByteArray:=L.take q ++ nm :: L.drop q
end Go.Proofs.YtlejlgldgafljaaGreatDoor
