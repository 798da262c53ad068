/-
 Numbers in digits. Of no program's walk.
-/
import Derived.Lib.ItoaNum
import Derived.Lib.ItoaLen
import Derived.Laws.BytesArg
import Derived.Test.YtmjogablacnlgaaGreatDoorOPA
import Derived.Sort.Statements
namespace Go.Proofs.YtmjogablacnlgaaGreatDoor
set_option linter.unusedVariables false
set_option linter.unusedSimpArgs false
open Go.ChangeShapes Go.WideShapes Go.ChangeAt Go.RowKit Go.PlainAid
theorem dec_ten {n:Nat} (h:¬ n<10):Lib.decDigits n=Lib.decDigits (n / 10) ++ [UInt8.ofNat (48+n % 10)]:=by
 rw [Lib.decDigits,dif_neg h]
def DecR (N m:Nat) (D:List UInt8):Prop:=(m=0→D=Lib.decDigits N)∧(m≠0→Lib.decDigits m ++ D=Lib.decDigits N)
theorem decR_step {N m:Nat} {D:List UInt8} (h:DecR N m D) (hm:m≠0):DecR N (m / 10) (UInt8.ofNat (48+m % 10) :: D):=by
 have h2:=h.2 hm;by_cases k:m<10
 ·rw [Lib.decDigits_one k] at h2
  refine ⟨fun _=>by rw [Nat.mod_eq_of_lt k];exact h2,fun h0=>absurd (Nat.div_eq_of_lt k) h0⟩
 ·rw [dec_ten k,List.append_assoc] at h2
  exact ⟨fun h0=>by omega,fun _=>h2⟩
theorem decR_len {N m:Nat} {D:List UInt8} (h:DecR N m D) (hN:(Lib.decDigits N).length≤21):D.length≤21:=by
 by_cases k:m=0
 ·rw [h.1 k];exact hN
 ·have:=congrArg List.length (h.2 k);simp at this;omega
theorem dec_len (N:Nat) (h:N≤9223372036854775807):(Lib.decDigits N).length≤21:=by
 have:=Lib.itoa_length_le (N:Int) (by omega) (by omega);have e:Lib.itoa (N:Int)=Lib.decDigits N:=by unfold Lib.itoa;rw [if_neg (by omega)];simp
 rw [e] at this;exact this
theorem ret_str {a b:ByteArray} (h:a=b):Ending.returned (.string a)=.returned (.string b):=by rw [h]
theorem str_cat (b:UInt8) (D:List UInt8):(⟨#[b]⟩:ByteArray) ++ ⟨D.toArray⟩=⟨(b :: D).toArray⟩:=by
 apply ByteArray.ext;rw [ByteArray.data_append];simp
set_option maxRecDepth 10000
theorem str_addH {a b:ByteArray} (h:a.size+b.size≤1000000):Op.stringOp .add a b=pure (.string (a ++ b)):=by
 unfold Op.stringOp
 have:¬ (((a.size+b.size:Nat):Int) > IntKind.i64.max):=by
  have e:IntKind.i64.max=9223372036854775807:=by decide
  rw [e];omega
 simp only [if_neg this]
def mtx (k:Nat):ByteArray:=⟨#[109]⟩ ++ ⟨(Lib.decDigits k).toArray⟩
set_option maxRecDepth 10000 in
set_option maxHeartbeats 1000000 in
theorem c_markText (N:Nat) (hN0:1≤N) (hN:N≤100000000) (w:World) :
  Calls Tryz.prog 56 #[.int .i64 N] w fun e w'=>e=.returned (.string (mtx N))∧Below w.heap.size w w':=by
 have hb1:¬ ((N:Int)≤0):=by omega
 go_enter Tryz.func56,Tryz.ntmps56;go_wp2
 go_loopw [0,3] (fun n o wr=>∃ (m:Nat) (D:List UInt8),m≤N∧n=.int .i64 m∧o=.string ⟨D.toArray⟩∧DecR N m D∧Below w.heap.size w wr) (fun n o wr=>(Go.RowKit.intOf n).toNat)
 case atStart=>exact ⟨N,[],Nat.le_refl _,rfl,rfl,⟨fun h=>absurd h (by omega),fun _=>by simp⟩,Below.refl _ _⟩
 case round=>
  obtain ⟨m,D,hm,rfl,rfl,hR,hbel⟩:=hrel;have hln:=decR_len hR (dec_len N (by omega));have hD:(⟨D.toArray⟩:ByteArray).size=D.length:=rfl;by_cases k:m=0
  ·subst k
   have HR:Hid (DecR N 0 D):=hR;have hadd:Op.stringOp .add ⟨#[109]⟩ ⟨D.toArray⟩=pure (.string ((⟨#[109]⟩:ByteArray) ++ ⟨D.toArray⟩)):=str_addH (by rw [hD];show 1+_≤_;omega);clear hR;go_wp2;go_ret;exact ⟨ret_str (by rw [HR.out.1 rfl];rfl),hbel⟩
  ·obtain ⟨d,hd⟩:∃ d,d=m % 10:=⟨_,rfl⟩
   obtain ⟨q,hq⟩:∃ q,q=m / 10:=⟨_,rfl⟩;have HR:Hid (DecR N q (UInt8.ofNat (48+d) :: D)):=by rw [hd,hq];exact decR_step hR k
   have e1:Int.tmod (m:Int) 10=(d:Int):=by rw [hd];rfl
   have e2:Int.tdiv (m:Int) 10=(q:Int):=by rw [hq];rfl
   have hk:(0:Int)<(m:Int):=by omega
   have hd9:d<10:=by omega
   have hqm:q<m:=by omega
   have e4:IntKind.u8.wrap (48+(d:Int))=48+(d:Int):=IntWalk.u8_in _ ⟨by omega,by omega⟩;obtain ⟨B,hB⟩:∃ B,B=strOfNums [48+(d:Int)]:=⟨_,rfl⟩
   have kc:=run_convert_bytes_arg (P:=Tryz.prog) (wr.alloc (.cells #[.int .u8 (48+(d:Int))] 5)) 126 5 Tryz.underlying126 Tryz.underlying5 wr.heap.size 0 1 1 [48+(d:Int)] rfl (fun i hi=>by
      obtain rfl:i=0:=by omega
      simp) 9 Tryz.underlying9
   rw [← hB] at kc;have hB1:B.size=1:=by rw [hB];rfl
   have HB:Hid (B ++ ⟨D.toArray⟩=(⟨(UInt8.ofNat (48+d) :: D).toArray⟩:ByteArray)):=(by
    rw [hB,← str_cat];congr 1;:B ++ ⟨D.toArray⟩=(⟨(UInt8.ofNat (48+d) :: D).toArray⟩:ByteArray))
   have HL:Hid (Below w.heap.size w wr):=hbel;have hz:=hbel.size;clear hR hd hq k hB hbel;go_wp2;go_roundw
   case rel=>exact ⟨q,UInt8.ofNat (48+d) :: D,by omega,rfl,by rw [HB.out],HR.out,HL.out.alloc (by omega) _⟩
   case measure=>simp [Go.RowKit.intOf];omega
open Go.Lib
def encS (u:ByteArray):List Value:=[.string u,.slice none 0 0]
def OwnS (w:World) (B:Nat) (v:Value) (L:List ByteArray):Prop:=w.ownsRow B 55 2 v L.length (fl encS L)
theorem c_l01IsP (n lo hi:Int) (w:World):Calls Tryz.prog 35 #[.int .i64 n,.int .i64 lo,.int .i64 hi] w fun e w'=>e=.returned (.bool (decide (lo≤n) && decide (n≤hi)))∧w'=w:=by
 by_cases h:lo≤n
 ·have h1:decide (lo≤n)=true:=decide_eq_true h
  rw [h1];go_enter Tryz.func35,Tryz.ntmps35;go_wp2;go_ret;exact ⟨by simp,rfl⟩
 ·have h1:decide (lo≤n)=false:=decide_eq_false h
  rw [h1];go_enter Tryz.func35,Tryz.ntmps35;go_wp2;go_ret;exact ⟨rfl,rfl⟩
def inB (n lo hi:Int):Bool:=decide (lo≤n) && decide (n≤hi)
theorem c_windowRightP (n:Int) (w:World):Calls Tryz.prog 81 #[.int .i64 n] w fun e w'=>e=.returned (.bool (inB n 0 1000000000))∧w'=w:=by
 unfold inB;by_cases h:0≤n
 ·have h1:decide (0≤n)=true:=decide_eq_true h
  rw [h1];go_enter Tryz.func81,Tryz.ntmps81;go_wp2;go_ret;exact ⟨by simp,rfl⟩
 ·have h1:decide (0≤n)=false:=decide_eq_false h
  rw [h1];go_enter Tryz.func81,Tryz.ntmps81;go_wp2;go_ret;exact ⟨rfl,rfl⟩
def clkB (a b c d:Int):Bool:=inB a 1 1000 && inB b 0 1000 && inB c 0 1000000000 && inB d 0 1000000000
theorem c_clockOf (v:Value) (ao:Option Addr) (n cp:Nat) (hv:v=.slice ao n cp) (a b c d:Int) (w:World):Calls Tryz.prog 42 #[.agg #[v,.int .i64 a,.int .i64 b,.int .i64 c,.int .i64 d]] w fun e w'=>e=.returned (.agg #[.int .i64 a,.int .i64 b,.int .i64 c,.int .i64 d])∧Below w.heap.size w w':=by
 subst hv;go_enter Tryz.func42,Tryz.ntmps42;go_wp2;exact bodyPost_ret (v:=.agg #[.int .i64 a,.int .i64 b,.int .i64 c,.int .i64 d]) (by simp [results,Tryz.results42,go_sem]) rfl ⟨rfl,((Below.refl _ _).alloc (Nat.le_refl _) _).alloc (by simp) _⟩
theorem c_clockRight (a b c d:Int) (w:World):Calls Tryz.prog 43 #[.agg #[.int .i64 a,.int .i64 b,.int .i64 c,.int .i64 d]] w fun e w'=>e=.returned (.bool (clkB a b c d))∧Below w.heap.size w w':=by
 have H0:∀ o,Hid (Below w.heap.size w (w.alloc o)):=fun o=>(Below.refl _ _).alloc (Nat.le_refl _) _;have H0:=hide H0;by_cases h1:inB a 1 1000=true
 ·by_cases h2:inB b 0 1000=true
  ·by_cases h3:inB c 0 1000000000=true
   ·obtain ⟨E,hE⟩:∃ E,clkB a b c d=E:=⟨_,rfl⟩
    have he:Hid (inB d 0 1000000000=E):=by show _=_;rw [← hE];unfold clkB;rw [h1,h2,h3];simp
    rw [hE];obtain ⟨p1,p2⟩:1≤a∧a≤1000:=by unfold inB at h1;simpa using h1
    obtain ⟨p3,p4⟩:0≤b∧b≤1000:=by unfold inB at h2;simpa using h2
    obtain ⟨p5,p6⟩:0≤c∧c≤1000000000:=by unfold inB at h3;simpa using h3
    clear h1 h2 h3 hE;go_enter Tryz.func43,Tryz.ntmps43;go_wp2_with (go_at_call 81;refine (c_windowRightP _ _).mono ?_;rintro e w1 ⟨rfl,hw⟩;obtain rfl:=hw.symm);go_ret;exact ⟨by rw [he.out];rfl,(H0.out _).out⟩
   ·have h3:inB c 0 1000000000=false:=by simpa using h3
    have e:clkB a b c d=false:=by unfold clkB;rw [h3];simp
    rw [e];obtain ⟨p1,p2⟩:1≤a∧a≤1000:=by unfold inB at h1;simpa using h1
    obtain ⟨p3,p4⟩:0≤b∧b≤1000:=by unfold inB at h2;simpa using h2
    by_cases q:0≤c
    ·have q2:¬ c≤1000000000:=by unfold inB at h3;simp [q] at h3;omega
     clear h1 h2 h3 e;go_enter Tryz.func43,Tryz.ntmps43;go_wp2;go_ret;exact ⟨rfl,(H0.out _).out⟩
    ·clear h1 h2 h3 e
     go_enter Tryz.func43,Tryz.ntmps43;go_wp2;go_ret;exact ⟨rfl,(H0.out _).out⟩
  ·have h2:inB b 0 1000=false:=by simpa using h2
   have e:clkB a b c d=false:=by unfold clkB;rw [h2];simp
   rw [e];obtain ⟨p1,p2⟩:1≤a∧a≤1000:=by unfold inB at h1;simpa using h1
   by_cases q:b<0
   ·clear h1 h2 e
    go_enter Tryz.func43,Tryz.ntmps43;go_wp2;go_ret;exact ⟨rfl,(H0.out _).out⟩
   ·have q2:1000<b:=by unfold inB at h2;simp [show 0≤b by omega] at h2;omega
    clear h1 h2 e;go_enter Tryz.func43,Tryz.ntmps43;go_wp2;go_ret;exact ⟨rfl,(H0.out _).out⟩
 ·have h1:inB a 1 1000=false:=by simpa using h1
  have e:clkB a b c d=false:=by unfold clkB;rw [h1];simp
  rw [e];by_cases q:a<1
  ·clear h1 e
   go_enter Tryz.func43,Tryz.ntmps43;go_wp2;go_ret;exact ⟨rfl,(H0.out _).out⟩
  ·have q2:1000<a:=by unfold inB at h1;simp [show 1≤a by omega] at h1;omega
   clear h1 e;go_enter Tryz.func43,Tryz.ntmps43;go_wp2;go_ret;exact ⟨rfl,(H0.out _).out⟩
end Go.Proofs.YtmjogablacnlgaaGreatDoor
namespace Go.Proofs.YtmjogablacnlgaaGreatDoor
open Go.ChangeShapes Go.WideShapes Go.ChangeAt Go.RowKit Go.PlainAid
def hx (s:ByteArray):Nat→Int
 | 0=>14695981039346656037
 | n+1=>IntKind.u64.wrap (bits BinOp.xor IntKind.u64 (hx s n) (bt s n)*1099511628211)
def hashT (s:ByteArray):Int:=hx s s.size
def hashF (s:ByteArray):Int:=if s.size≤20000 then hashT s else 0
theorem hashF_le {s:ByteArray} (h:s.size≤20000):hashF s=hashT s:=if_pos h
theorem hashF_gt {s:ByteArray} (h:¬ s.size≤20000):hashF s=0:=if_neg h
theorem ret_u {a b:Int} (h:a=b):Ending.returned (.int .u64 a)=.returned (.int .u64 b):=by rw [h]
theorem wrap_bt (s:ByteArray) (k:Nat):IntKind.u64.wrap (bt s k)=bt s k:=by
 have h0:=bt_nonneg s k;have h1:=bt_le s k;rw [IntKind.wrap_u64];omega
theorem c_textFitsH (s:ByteArray) (hs:s.size≤maxLen) (w:World) :
  Calls Tryz.prog 94 #[.string s] w fun e w'=>e=.returned (.bool (decide (s.size≤20000)))∧w'=w:=by
 unfold maxLen at hs;have e:decide ((s.size:Int)≤20000)=decide (s.size≤20000):=decide_eq_decide.2 (by omega);go_enter Tryz.func94,Tryz.ntmps94;go_wp2;go_ret;exact ⟨rfl,rfl⟩
set_option maxHeartbeats 1000000 in
theorem c_s_l02Hash (s:ByteArray) (hs:s.size≤maxLen) (w:World) :
  Calls Tryz.prog 79 #[.string s] w fun e w'=>e=.returned (.int .u64 (hashT s))∧w'=w:=by
 unfold maxLen at hs;have hbt:=get_bt s;go_enter Tryz.func79,Tryz.ntmps79;go_wp2
 go_loop [3,4] (fun h i=>∃ k:Nat,k≤s.size∧i=.int .i64 k∧h=.int .u64 (hx s k)) (fun h i=>s.size - (Go.RowKit.intOf i).toNat)
 case atStart=>exact ⟨0,Nat.zero_le _,rfl,rfl⟩
 case round=>
  obtain ⟨k,hk,rfl,rfl⟩:=hrel;by_cases hlt:k<s.size
  ·have hwb:=wrap_bt s k
   obtain ⟨B,hB⟩:∃ B,bt s k=B:=⟨_,rfl⟩;rw [hB] at hwb;obtain ⟨H,hH⟩:∃ H,hx s k=H:=⟨_,rfl⟩;have HS:Hid (IntKind.u64.wrap (bits BinOp.xor IntKind.u64 H B*1099511628211)=hx s (k+1)):=by rw [← hB,← hH];rfl
   go_wp2
   go_round
   case rel=>exact ⟨k+1,by omega,by go_num,by rw [← HS.out]⟩
   case measure=>simp [Go.RowKit.intOf];omega
  ·have e:k=s.size:=by omega
   have HB:Hid (hx s k=hashT s):=(by rw [e];rfl:hx s k=hashT s);clear e;go_wp2;go_ret;exact ⟨ret_u HB.out,rfl⟩
set_option maxHeartbeats 1000000 in
theorem c_i_Hash (s:ByteArray) (hs:s.size≤maxLen) (w:World) :
  Calls Tryz.prog 109 #[.string s] w fun e w'=>e=.returned (.int .u64 (hashF s))∧w'=w:=by
 have hz:s.size≤9223372036854775807:=hs;have hbt:=get_bt s;by_cases h:s.size≤20000
 ·have e1:decide (s.size≤20000)=true:=decide_eq_true h
  have HF:Hid (hashT s=hashF s):=(hashF_le h).symm;clear h;go_enter Tryz.func109,Tryz.ntmps109;go_wp2_with (go_at_call 94;refine (c_textFitsH _ hs _).mono ?_;rintro e w1 ⟨rfl,rfl⟩)
  go_loop [3,10,4] (fun h i _=>∃ k:Nat,k≤s.size∧i=.int .i64 k∧h=.int .u64 (hx s k)) (fun h i _=>s.size - (Go.RowKit.intOf i).toNat)
  case atStart=>exact ⟨0,Nat.zero_le _,rfl,rfl⟩
  case round=>
   obtain ⟨k,hk,rfl,rfl⟩:=hrel;by_cases hlt:k<s.size
   ·have hwb:=wrap_bt s k
    obtain ⟨B,hB⟩:∃ B,bt s k=B:=⟨_,rfl⟩;rw [hB] at hwb;obtain ⟨H,hH⟩:∃ H,hx s k=H:=⟨_,rfl⟩;have HS:Hid (IntKind.u64.wrap (bits BinOp.xor IntKind.u64 H B*1099511628211)=hx s (k+1)):=by rw [← hB,← hH];rfl
    go_wp2
    go_round
    case rel=>exact ⟨k+1,by omega,by go_num,by rw [← HS.out]⟩
    case measure=>simp [Go.RowKit.intOf];omega
   ·have e:k=s.size:=by omega
    have HB:Hid (hx s k=hashF s):=(by rw [← HF.out,e];rfl:hx s k=hashF s);clear e;go_wp2;go_ret;exact ⟨ret_u HB.out,rfl⟩
 ·have e1:decide (s.size≤20000)=false:=decide_eq_false h
  have HF:Hid (0=hashF s):=(hashF_gt h).symm;clear h;go_enter Tryz.func109,Tryz.ntmps109;go_wp2_with (go_at_call 94;refine (c_textFitsH _ hs _).mono ?_;rintro e w1 ⟨rfl,rfl⟩);go_ret;exact ⟨ret_u HF.out,rfl⟩
end Go.Proofs.YtmjogablacnlgaaGreatDoor
namespace Go.Proofs.YtmjogablacnlgaaGreatDoor
set_option linter.unusedVariables false
set_option linter.unusedSimpArgs false
open Go.PlainAid
abbrev Mk:=Int×ByteArray
def mle (a b:Mk):Prop:=a.1<b.1∨(a.1=b.1∧strLt b.2 a.2=false)
theorem mle_trans {a b c:Mk} (h:mle a b) (k:mle b c):mle a c:=by
 rcases h with h | ⟨e,h⟩ <;> rcases k with k | ⟨e2,k⟩
 ·exact .inl (by omega)
 ·exact .inl (by omega)
 ·exact .inl (by omega)
 ·exact .inr ⟨by omega,strLe_trans h k⟩
theorem mle_ant {a b:Mk} (h:mle a b) (k:mle b a):a=b:=by
 rcases h with h | ⟨e,h⟩ <;> rcases k with k | ⟨e2,k⟩
 ·omega
 ·omega
 ·omega
 ·rcases strLt_tot h with q | q
  ·rw [q] at k;cases k
  ·exact Prod.ext e q.symm
def mgt (a m:Mk):Bool:=decide (m.1<a.1) || (a.1 == m.1 && strLt m.2 a.2)
theorem mgt_f {a m:Mk} (h:mgt a m=false):mle a m:=by
 unfold mgt at h;simp only [Bool.or_eq_false_iff,Bool.and_eq_false_iff,decide_eq_false_iff_not,beq_eq_false_iff_ne] at h;by_cases e:a.1=m.1
 ·exact .inr ⟨e,by rcases h.2 with q | q;exact absurd e q;exact q⟩
 ·exact .inl (by omega)
theorem sorted_eq:∀ (l l':List Mk),l.Perm l'→l.Pairwise mle→l'.Pairwise mle→l=l'
 | [],l',h,_,_=>by simpa using h.symm
 | a :: l,[],h,_,_=>by simp at h
 | a :: l,b :: l',h,p,q=>by
  have e:a=b:=by
   have ha:a∈b :: l':=h.mem_iff.1 List.mem_cons_self;have hb:b∈a :: l:=h.mem_iff.2 List.mem_cons_self;rcases List.mem_cons.1 ha with e | ha
   ·exact e
   ·rcases List.mem_cons.1 hb with e | hb
    ·exact e.symm
    ·exact mle_ant ((List.pairwise_cons.1 p).1 b hb) ((List.pairwise_cons.1 q).1 a ha)
  subst e;rw [sorted_eq l l' (List.Perm.cons_inv h) (List.pairwise_cons.1 p).2 (List.pairwise_cons.1 q).2]
theorem put_sorted {R:List Mk} {m:Mk} {n:Nat} (hR:R.Pairwise mle) (hn:n≤R.length) (hlo:n=0∨∃ a,R[n - 1]?=some a∧mle a m) (hhi:∀ j a,n≤j→R[j]?=some a→mle m a) :
  (R.take n ++ m :: R.drop n).Pairwise mle:=by
 have hp:(R.take n ++ R.drop n).Pairwise mle:=by rw [List.take_append_drop];exact hR
 obtain ⟨p1,p2,p3⟩:=List.pairwise_append.1 hp;refine List.pairwise_append.2 ⟨p1,List.pairwise_cons.2 ⟨fun a ha=>?_,p2⟩,fun a ha b hb=>?_⟩
 ·obtain ⟨j,hj⟩:=List.getElem?_of_mem ha
  rw [List.getElem?_drop] at hj;exact hhi (n+j) a (by omega) hj
 ·rcases List.mem_cons.1 hb with rfl | hb
  ·obtain ⟨j,hj⟩:=List.getElem?_of_mem ha
   have hjl:=(List.getElem?_eq_some_iff.1 hj).1;rw [List.length_take] at hjl;rw [List.getElem?_take,if_pos (by omega)] at hj;rcases hlo with h0 | ⟨c,hc,hcm⟩
   ·omega
   ·by_cases e:j=n - 1
    ·rw [e,hc] at hj;obtain rfl:=Option.some.inj hj;exact hcm
    ·have hcl:=(List.getElem?_eq_some_iff.1 hc).1
     refine mle_trans ?_ hcm;have:=List.pairwise_iff_getElem.1 hR j (n - 1) (by omega) hcl (by omega);rw [(List.getElem?_eq_some_iff.1 hj).2,(List.getElem?_eq_some_iff.1 hc).2] at this;exact this
  ·exact p3 a ha b hb
theorem put_perm {α:Type} (R:List α) (m:α) (n:Nat):(R.take n ++ m :: R.drop n).Perm (R ++ [m]):=by
 have h1:(R.take n ++ m :: R.drop n).Perm (m :: (R.take n ++ R.drop n)):=List.perm_middle;rw [List.take_append_drop] at h1;exact h1.trans (List.perm_append_singleton m R).symm
def mkText (u:ByteArray) (k:Nat):ByteArray:=u ++ ⟨#[35]⟩ ++ ⟨(Lib.decDigits k).toArray⟩
def nth (L:List ByteArray) (p:Nat):ByteArray:=L.getD p ByteArray.empty
theorem nth_some {L:List ByteArray} {p:Nat} {u:ByteArray} (h:L[p]?=some u):nth L p=u:=by simp [nth,List.getD,h]
def atOf (L:List ByteArray) (j:Nat):Int:=hashT (mkText (nth L (j / 8)) (j % 8))
def prOf (L:List ByteArray) (j:Nat):Int×Nat:=(atOf L j,j / 8)
def mkOf (L:List ByteArray) (j:Nat):Mk:=(atOf L j,nth L (j / 8))
def prs (L:List ByteArray) (m:Nat):List (Int×Nat):=(List.range m).map (prOf L)
def mks (L:List ByteArray) (m:Nat):List Mk:=(List.range m).map (mkOf L)
theorem prs_succ (L:List ByteArray) (m:Nat):prs L (m+1)=prs L m ++ [prOf L m]:=by simp [prs,List.range_succ]
theorem mks_succ (L:List ByteArray) (m:Nat):mks L (m+1)=mks L m ++ [mkOf L m]:=by simp [mks,List.range_succ]
theorem prs_len (L:List ByteArray) (m:Nat):(prs L m).length=m:=by simp [prs]
theorem mks_len (L:List ByteArray) (m:Nat):(mks L m).length=m:=by simp [mks]
theorem at_eq {L:List ByteArray} {p k:Nat} {u:ByteArray} (h:L[p]?=some u) (hk:k<8):atOf L (8*p+k)=hashT (mkText u k):=by
 unfold atOf;rw [show (8*p+k) / 8=p by omega,show (8*p+k) % 8=k by omega,nth_some h]
theorem pr_eq {L:List ByteArray} {p k:Nat} {u:ByteArray} (h:L[p]?=some u) (hk:k<8):prOf L (8*p+k)=(hashT (mkText u k),p):=by
 unfold prOf;rw [at_eq h hk,show (8*p+k) / 8=p by omega]
theorem mk_eq {L:List ByteArray} {p k:Nat} {u:ByteArray} (h:L[p]?=some u) (hk:k<8):mkOf L (8*p+k)=(hashT (mkText u k),u):=by
 unfold mkOf;rw [at_eq h hk,show (8*p+k) / 8=p by omega,nth_some h]
def mkOfPr (L:List ByteArray) (x:Int×Nat):Mk:=(x.1,nth L x.2)
theorem mks_prs (L:List ByteArray) (m:Nat):mks L m=(prs L m).map (mkOfPr L):=by
 unfold mks prs;rw [List.map_map];rfl
theorem decDig (k:Nat) (hk:k<8):(Lib.decDigits k).length=1:=by rw [Lib.decDigits_one (by omega)];rfl
def IsRing (L:List ByteArray) (R:List Mk):Prop:=R.Perm (mks L (8*L.length))∧R.Pairwise mle
theorem ring_one {L:List ByteArray} {R R':List Mk} (h:IsRing L R) (k:IsRing L R'):R=R':=sorted_eq _ _ (h.1.trans k.1.symm) h.2 k.2
theorem ring_len {L:List ByteArray} {R:List Mk} (h:IsRing L R):R.length=8*L.length:=by rw [h.1.length_eq,mks_len]
theorem memb_len {L:List ByteArray} (h:membersB L=true):1≤L.length∧L.length≤12:=by
 unfold membersB at h;simp only [Bool.and_eq_true,decide_eq_true_eq] at h;exact ⟨h.1.1,h.1.2⟩
theorem memb_ok {L:List ByteArray} (h:membersB L=true) {k:Nat} (hk:k<L.length):okB L k=true:=by
 unfold membersB at h;simp only [Bool.and_eq_true,decide_eq_true_eq] at h;exact allOk_at _ hk h.2
theorem ok_name {L:List ByteArray} {k:Nat} {u:ByteArray} (h:okB L k=true) (hu:L[k]?=some u):nameB u=true:=by
 cases e:nameB u with
 | true=>rfl
 | false=>rw [okB_n hu e] at h;cases h
theorem memb_name {L:List ByteArray} (h:membersB L=true) {u:ByteArray} (hu:u∈L):nameB u=true:=by
 obtain ⟨k,hk⟩:=List.getElem?_of_mem hu;exact ok_name (memb_ok h (List.getElem?_eq_some_iff.1 hk).1) hk
theorem name_sizeM {u:ByteArray} (h:nameB u=true):1≤u.size∧u.size≤40:=by
 unfold nameB at h;simp only [Bool.and_eq_true,decide_eq_true_eq] at h;exact ⟨h.1.1.1,h.1.1.2⟩
theorem memb_step {L:List ByteArray} (h:membersB L=true) {j:Nat} {p u:ByteArray} (hp:L[j]?=some p) (hu:L[j+1]?=some u):strLt p u=true:=by
 have:=memb_ok h (List.getElem?_eq_some_iff.1 hu).1;rw [okB_s hp hu,Bool.and_eq_true] at this;exact this.2
theorem memb_rise {L:List ByteArray} (h:membersB L=true) {i:Nat} {p:ByteArray} (hp:L[i]?=some p):∀ (d:Nat) {u:ByteArray},L[i+d+1]?=some u→strLt p u=true
 | 0,u,hu=>memb_step h hp hu
 | d+1,u,hu=>by
  obtain ⟨q,hq⟩:∃ q,L[i+d+1]?=some q:=⟨_,List.getElem?_eq_getElem (by have:=(List.getElem?_eq_some_iff.1 hu).1;omega)⟩;exact strLt_trans (memb_rise h hp d hq) (memb_step h hq hu)
def cfP (x y:Int×Nat):Int:=if x=y then 0 else if x.1<y.1 then -1 else if x.1=y.1∧x.2<y.2 then -1 else 1
def ltP (x y:Int×Nat):Bool:=decide (x.1<y.1∨(x.1=y.1∧x.2<y.2))
theorem cfP_lt (x y:Int×Nat):decide (cfP x y<0)=ltP x y:=by
 unfold cfP ltP;by_cases e:x=y
 ·subst e;rw [if_pos rfl];simp
 ·rw [if_neg e]
  by_cases h1:x.1<y.1
  ·rw [if_pos h1,decide_eq_true (show (-1:Int)<0 by omega),decide_eq_true (.inl h1)]
  ·rw [if_neg h1]
   by_cases h2:x.1=y.1∧x.2<y.2
   ·rw [if_pos h2,decide_eq_true (show (-1:Int)<0 by omega),decide_eq_true (.inr h2)]
   ·rw [if_neg h2,decide_eq_false (show ¬ (1:Int)<0 by omega),decide_eq_false (by rintro (h | h);exact h1 h;exact h2 h)]
theorem swoP:Sort.SWO ltP where
 irrefl x:=by simp [ltP]
 trans x y z h1 h2:=by simp only [ltP,decide_eq_true_eq] at *; omega
 ntrans x y z h1 h2:=by simp only [ltP,decide_eq_false_iff_not] at *; omega
theorem toList_get {α:Type} [Inhabited α] (d:Array α) (i:Nat) (h:i<d.size):d.toList[i]'(by simpa using h)=d[i]!:=by
 simp [h]
theorem ring_of_pairs {L:List ByteArray} (hL:membersB L=true) {d d':Array (Int×Nat)} (hd:d.toList=prs L (8*L.length)) (hp:Sort.PermIn 0 d.size d d') (hs:Sort.SortedIn ltP 0 d.size d') :
  IsRing L (d'.toList.map (mkOfPr L))∧(∀ x∈d'.toList,x.2<L.length)∧d'.size=8*L.length:=by
 obtain ⟨hz,_,hpm⟩:=hp;have hsz:d.size=8*L.length:=by rw [← Array.length_toList,hd,prs_len]
 have e1:d'.extract 0 d.size=d':=by rw [← hz];simp
 have e2:d.extract 0 d.size=d:=by simp
 rw [e1,e2,hd] at hpm
 have hin:∀ x∈d'.toList,x.2<L.length:=fun x hx=>by
  have hx':=hpm.mem_iff.1 hx;unfold prs at hx';obtain ⟨j,hj,rfl⟩:=List.mem_map.1 hx';have:=List.mem_range.1 hj
  show j / 8<_
  omega
 refine ⟨⟨?_,?_⟩,hin,by omega⟩
 ·rw [mks_prs];exact hpm.map _
 ·rw [List.pairwise_map]
  rw [List.pairwise_iff_getElem];intro i j hi hj hij;have hi':i<d'.size:=by simpa using hi
  have hj':j<d'.size:=by simpa using hj
  have hlt:=hs i j (Nat.zero_le _) hij (by omega);rw [← toList_get d' i hi',← toList_get d' j hj'] at hlt;have ha:=hin _ (List.getElem_mem hi);have hb:=hin _ (List.getElem_mem hj);generalize d'.toList[i]=a at *;generalize d'.toList[j]=b at *;simp only [ltP,decide_eq_false_iff_not] at hlt;by_cases e:a.1=b.1
  ·refine .inr ⟨e,?_⟩
   show strLt (nth L b.2) (nth L a.2)=false
   by_cases e2:a.2=b.2
   ·rw [e2];exact strLt_irr _
   ·obtain ⟨p,hp⟩:∃ p,L[a.2]?=some p:=⟨_,List.getElem?_eq_getElem ha⟩
    obtain ⟨u,hu⟩:∃ u,L[b.2]?=some u:=⟨_,List.getElem?_eq_getElem hb⟩;rw [nth_some hp,nth_some hu];have hu':L[a.2+(b.2 - a.2 - 1)+1]?=some u:=by rw [show a.2+(b.2 - a.2 - 1)+1=b.2 by omega];exact hu
    exact strLt_ant (memb_rise hL hp _ hu')
  ·exact .inl (by show a.1<b.1;omega)
end Go.Proofs.YtmjogablacnlgaaGreatDoor
