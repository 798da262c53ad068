/-
 Parts.
-/
import Derived.Lib.DecodeN
import Derived.Test.YtdbaabbmcfnjbaaGreatDoorDWC
import Derived.Lib.OthersKept
set_option maxRecDepth 10000
set_option maxHeartbeats 8000000
set_option linter.all false
namespace Go.Proofs.YtdbaabbmcfnjbaaGreatDoor
open Go.ChangeShapes Go.WideShapes Go.ChangeAt Go.RowKit Go.PlainAid Go.Maps Tryz
theorem QpI (n b0 b1 b2 b3:Nat) (hn:0<n):(b0<128->Lib.decodeN n b0 b1 b2 b3=(b0,1))/\(128<=b0->128<=(Lib.decodeN n b0 b1 b2 b3).1)/\(Lib.decodeN n b0 b1 b2 b3).1<=1114111/\1<=(Lib.decodeN n b0 b1 b2 b3).2/\(Lib.decodeN n b0 b1 b2 b3).2<=n/\(1<(Lib.decodeN n b0 b1 b2 b3).2->128<=b1)/\(2<(Lib.decodeN n b0 b1 b2 b3).2->128<=b2)/\(3<(Lib.decodeN n b0 b1 b2 b3).2->128<=b3)/\(Lib.decodeN n b0 b1 b2 b3).2<=4:=by
 unfold Lib.decodeN
 repeat' split
 all_goals refine ⟨fun h=>?_,fun h=>?_,?_,?_,?_,?_,?_,?_,?_⟩
 all_goals first | (exfalso;omega) | rfl | (simp only;omega) | omega
variable {B b e i k n s0 z:Nat}
theorem Qso {s:ByteArray} (h:i<s.size):((s.get! i).toNat:Int)=bt s i:=by
 unfold bt;rw [dif_pos h]
 have:s.get! i=s[i]:=by
  obtain ⟨d⟩:=s;exact getElem!_pos d i h
 rw [this]
theorem QrW (s:ByteArray) (i:Nat) (hi:i<s.size):(∀ c:Int,0<=c->c<128->(((Utf8.decode s i).1:Int)=c↔bt s i=c))/\(bt s i<128->(Utf8.decode s i).2=1)/\(Utf8.decode s i).1<=1114111/\1<=(Utf8.decode s i).2/\i+(Utf8.decode s i).2<=s.size/\∀ j,i<j->j<i+(Utf8.decode s i).2->128<=bt s j:=by
 rw [Lib.decode_at];obtain ⟨h1,h2,h9,h3,h4,h5,h6,h7,h8⟩:=QpI (s.size - i) (s.get! i).toNat (s.get! (i+1)).toNat (s.get! (i+2)).toNat (s.get! (i+3)).toNat (by omega);have e0:=Qso hi;refine ⟨fun c c0 c1=>?_,fun h=>by rw [h1 (by omega)],h9,h3,by omega,fun j j1 j2=>?_⟩
 ·rcases Nat.lt_or_ge (s.get! i).toNat 128 with h | h
  ·rw [h1 h,<- e0]
  ·have:=h2 h
   constructor
   ·intro e;omega
   ·intro e;omega
 ·have ej:=Qso (s:=s) (i:=j) (by omega)
  rcases (by omega:j=i+1∨j=i+2∨j=i+3) with rfl | rfl | rfl
  ·have:=h5 (by omega);omega
  ·have:=h6 (by omega);omega
  ·have:=h7 (by omega);omega
def spo (t:ByteArray) (b:Int) (s0:Nat):Nat->List ByteArray×Nat
 | 0=>([],s0)
 | k+1=>if bt t (s0+k)=b then ((spo t b s0 k).1 ++ [t.extract (spo t b s0 k).2 (s0+k)],s0+k+1) else spo t b s0 k
variable {t u:ByteArray}
theorem QpA {b:Int} (h:bt t (s0+k)=b):spo t b s0 (k+1)=((spo t b s0 k).1 ++ [t.extract (spo t b s0 k).2 (s0+k)],s0+k+1):=by
 show (if _ then _ else _)=_
 rw [if_pos h]
theorem Qll {b:Int} (h:¬ bt t (s0+k)=b):spo t b s0 (k+1)=spo t b s0 k:=by
 show (if _ then _ else _)=_
 rw [if_neg h]
theorem QkU (t:ByteArray) (b:Int) (s0:Nat):∀ k,s0<=(spo t b s0 k).2/\(spo t b s0 k).2<=s0+k
 | 0=>⟨ZZa _,ZZa _⟩
 | k+1=>by
  have ih:=QkU t b s0 k;unfold spo
  split
  ·exact ⟨by show s0<=s0+k+1;omega,by show s0+k+1<=s0+(k+1);omega⟩
  ·omega
theorem QoP (t:ByteArray) {a j:Nat} (h:a+j<=e):(t.extract a e).extract i j=t.extract (a+i) (a+j):=by
 rw [ByteArray.extract_extract]
 congr 1
 omega
theorem Qnx (t:ByteArray) (b:Int) {s0 e:Nat} (he:e<=t.size) (h0:s0<=e):∀ k,k<=e - s0->spl (t.extract s0 e) b k=((spo t b s0 k).1,(spo t b s0 k).2 - s0)
 | 0,_=>by simp [spl,spo]
 | k+1,h=>by
  have ih:=Qnx t b he h0 k (by omega);have hb:bt (t.extract s0 e) k=bt t (s0+k):=QgV t s0 e k he (by omega);have hle:=QkU t b s0 k;by_cases hc:bt t (s0+k)=b
  ·rw [Qcu (hb.trans hc),ih,QpA hc]
   show (_ ++ [(t.extract s0 e).extract ((spo t b s0 k).2 - s0) k],k+1)=(_ ++ [_],s0+k+1 - s0)
   rw [QoP t (by omega)];rw [show s0+((spo t b s0 k).2 - s0)=(spo t b s0 k).2 by omega,show s0+k+1 - s0=k+1 by omega]
  ·rw [QbE (fun q=>hc (hb.symm.trans q)),ih,Qll hc]
theorem QrH (t:ByteArray) (b:Int) (he:e<=t.size) (h0:s0<=e):QaG (t.extract s0 e) b=(spo t b s0 (e - s0)).1 ++ [t.extract (spo t b s0 (e - s0)).2 e]:=by
 have hz:(t.extract s0 e).size=e - s0:=by rw [size_extract];omega
 have aa:=QkU t b s0 (e - s0);unfold QaG;rw [hz,Qnx t b he h0 _ (Nat.le_refl _),QoP t (by omega)];rw [show s0+((spo t b s0 (e - s0)).2 - s0)=(spo t b s0 (e - s0)).2 by omega,show s0+(e - s0)=e by omega]
structure Wd where
 ls:List (List ByteArray)
 ws:List ByteArray
 fr:Nat
def wdS (t:ByteArray):Nat->Wd
 | 0=>⟨[],[],0⟩
 | k+1=>if bt t k=32 then ⟨(wdS t k).ls,(wdS t k).ws ++ [t.extract (wdS t k).fr k],k+1⟩ else if bt t k=10 then ⟨(wdS t k).ls ++ [(wdS t k).ws ++ [t.extract (wdS t k).fr k]],[],k+1⟩ else wdS t k
theorem Qf2 (h:bt t k=32):wdS t (k+1)=⟨(wdS t k).ls,(wdS t k).ws ++ [t.extract (wdS t k).fr k],k+1⟩:=by
 show (if _ then _ else _)=_
 rw [if_pos h]
theorem QhF (h:bt t k=10):wdS t (k+1)=⟨(wdS t k).ls ++ [(wdS t k).ws ++ [t.extract (wdS t k).fr k]],[],k+1⟩:=by
 show (if _ then _ else _)=_
 rw [if_neg (by omega),if_pos h]
theorem Qet (h:bt t k≠32) (h2:bt t k≠10):wdS t (k+1)=wdS t k:=by
 show (if _ then _ else _)=_
 rw [if_neg h,if_neg h2]
theorem QnR {t:ByteArray} {k:Nat}:∀ n,(∀ j,k<=j->j<k+n->128<=bt t j)->wdS t (k+n)=wdS t k
 | 0,_=>rfl
 | n+1,h=>by
  have:=h (k+n) (by omega) (by omega)
  show wdS t (k+n+1)=_
  rw [Qet (by omega) (by omega)];exact QnR n (fun j h1 h2=>h j h1 (by omega))
theorem Qsw (t:ByteArray):∀ k,k<=t.size->(wdS t k).ls=(spl t 10 k).1.map (fun u=>QaG u 32)/\(wdS t k).ws=(spo t 32 (spl t 10 k).2 (k - (spl t 10 k).2)).1/\(wdS t k).fr=(spo t 32 (spl t 10 k).2 (k - (spl t 10 k).2)).2
 | 0,_=>⟨rfl,rfl,rfl⟩
 | k+1,h=>by
  obtain ⟨h1,h2,h3⟩:=Qsw t k (by omega);have hle:=Qfb t 10 k;by_cases hb:bt t k=32
  ·rw [Qf2 hb,QbE (by omega)]
   have e:k+1 - (spl t 10 k).2=(k - (spl t 10 k).2)+1:=by omega
   have ek:(spl t 10 k).2+(k - (spl t 10 k).2)=k:=by omega
   rw [e,QpA (by rw [ek];exact hb),ek];exact ⟨h1,by rw [h2,h3],rfl⟩
  ·by_cases hn:bt t k=10
   ·rw [QhF hn,Qcu hn]
    refine ⟨?_,by simp [spo],by simp [spo]⟩;rw [List.map_append,h1,List.map_singleton,QrH t 32 (by omega) hle.1,h2,h3]
   ·rw [Qet hb hn,QbE hn]
    have e:k+1 - (spl t 10 k).2=(k - (spl t 10 k).2)+1:=by omega
    have ek:(spl t 10 k).2+(k - (spl t 10 k).2)=k:=by omega
    rw [e,Qll (by rw [ek];exact hb)];exact ⟨h1,h2,h3⟩
theorem Qr5 (t:ByteArray):∀ k,(wdS t k).fr<=k/\(wdS t k).ls.length+(wdS t k).ws.length<=k
 | 0=>⟨ZZa _,ZZa _⟩
 | k+1=>by
  have ih:=Qr5 t k;by_cases h:bt t k=32
  ·rw [Qf2 h];simp;omega
  ·by_cases h2:bt t k=10
   ·rw [QhF h2];simp;omega
   ·rw [Qet h h2];omega
def wdL (t:ByteArray):List (List ByteArray):=(wdS t t.size).ls ++ (if 0<(wdS t t.size).ws.length∨(wdS t t.size).fr<t.size then [[]] else [])
def tlS (t:ByteArray):ByteArray:=t.extract (spl t 10 t.size).2 t.size
theorem Qr6 (t:ByteArray):QaG t 10=(spl t 10 t.size).1 ++ [tlS t]/\wdL t=(spl t 10 t.size).1.map (fun u=>QaG u 32) ++ (if tlS t=ByteArray.empty then [] else [[]]):=by
 refine ⟨rfl,?_⟩;obtain ⟨h1,h2,h3⟩:=Qsw t t.size (ZZa _);have ac:=Qfb t 10 t.size;have ho:=QkU t 32 (spl t 10 t.size).2 (t.size - (spl t 10 t.size).2);unfold wdL;rw [h1]
 congr 1
 have hz:(tlS t).size=t.size - (spl t 10 t.size).2:=by unfold tlS;rw [size_extract];omega
 by_cases he:tlS t=ByteArray.empty
 ·rw [if_pos he]
  have aa:t.size - (spl t 10 t.size).2=0:=by rw [<- hz,he];rfl
  rw [if_neg];rw [h2,h3,aa];simp [spo];omega
 ·rw [if_neg he]
  have aa:t.size - (spl t 10 t.size).2≠0:=fun q=>he (ByteArray.size_eq_zero_iff.1 (hz.trans q));rw [if_pos];rw [h2,h3];by_cases q:(spo t 32 (spl t 10 t.size).2 (t.size - (spl t 10 t.size).2)).2<t.size
  ·exact .inr q
  ·refine .inl ?_
   have ab:∀ k,(spo t 32 (spl t 10 t.size).2 k).2≠(spl t 10 t.size).2->0<(spo t 32 (spl t 10 t.size).2 k).1.length:=by
    intro k
    induction k with
    | zero=>intro q;exact absurd rfl q
    | succ k ih=>
     unfold spo
     split
     ·intro _;simp
     ·exact ih
   exact ab _ (by omega)
def QjU (t:ByteArray):Bool:=(rcO t).isSome && decide (t.size<=9)
def Qj0 (t:ByteArray):Bool:=decide (1<=t.size) && decide (t.size<=9) && !(decide (1<t.size) && decide (bt t 0=48)) && dgB t
theorem QnI (h:(Lib.decDigits n).length<=9):n<1000000000:=by
 have hd:=QdC n
 have aa:∀ (l:List UInt8) (a:Nat),tlD l->tlF a l<(a+1)*10 ^ l.length:=by
  intro l
  induction l with
  | nil=>intro a _;simp [tlF]
  | cons x l ih=>
   intro a hl;rw [QfA];have h1:=ih (a*10+(x.toNat - 48)) (fun y hy=>hl y (ZZm _ hy));have hx:=hl x List.mem_cons_self;refine Nat.lt_of_lt_of_le h1 ?_;rw [List.length_cons,Nat.pow_succ];have:a*10+(x.toNat - 48)+1<=(a+1)*10:=by omega
   calc (a*10+(x.toNat - 48)+1)*10 ^ l.length<=((a+1)*10)*10 ^ l.length:=Nat.mul_le_mul_right _ this
    _=(a+1)*(10 ^ l.length*10):=by rw [Nat.mul_assoc,Nat.mul_comm 10]
 have h1:=aa _ 0 hd.1;rw [hd.2.1] at h1;have h2:10 ^ (Lib.decDigits n).length<=10 ^ 9:=Nat.pow_le_pow_right (by omega) h;have h3:(10:Nat) ^ 9=1000000000:=by decide
 omega
theorem Qnm (t:ByteArray):QjU t=Qj0 t:=by
 rw [Bool.eq_iff_iff];unfold QjU Qj0;simp only [Bool.and_eq_true,decide_eq_true_eq,Bool.not_eq_true',Bool.and_eq_false_iff,decide_eq_false_iff_not];constructor
 ·rintro ⟨h1,h2⟩
  obtain ⟨n,hn⟩:=Option.isSome_iff_exists.1 h1
  have hs:toL t=Lib.decDigits n:=by
   unfold rcO at hn
   split at hn
   ·split at hn
    ·rename_i u _ e
     obtain rfl:=Option.some.inj hn;rw [<- e,Qbc]
    ·cases hn
   ·cases hn
  have hl:(Lib.decDigits n).length<=9:=by rw [<- hs,Qap];exact h2
  have hT:TimP t n:=⟨hs,by have:=QnI hl;omega⟩;obtain ⟨s1,s2,s3,s4,s5⟩:=TimP.spec.1 ⟨n,hT⟩;refine ⟨⟨⟨s1,h2⟩,?_⟩,?_⟩
  ·by_cases h:1<t.size
   ·exact .inr (s3 h)
   ·exact .inl h
  ·unfold dgB
   rw [(Qdw t).2 s4,decide_eq_true (by omega:0<t.size)]
   rfl
 ·rintro ⟨⟨⟨h1,h2⟩,h3⟩,h4⟩
  refine ⟨?_,h2⟩;unfold dgB at h4;rw [Bool.and_eq_true] at h4;have ha:=(Qdw t).1 h4.1
  have hb:tlF 0 (toL t)<=1000000000:=by
   have e:=Qih ha
   have:=Qh2 (s:=t) (o:=0) (n:=t.size) (fun j hj=>by
    have hk:j<(toL t).length:=by rw [Qap];exact hj
    rw [Nat.zero_add,QfU hk];have:=ha _ (List.getElem_mem hk);omega) (by omega)
   have b:=Qho (s:=t) (o:=0) t.size (fun j hj=>by
    have hk:j<(toL t).length:=by rw [Qap];exact hj
    rw [Nat.zero_add,QfU hk];have:=ha _ (List.getElem_mem hk);omega)
   have h5:(10:Int) ^ t.size<=10 ^ 9:=by
    have:=Nat.pow_le_pow_right (show 0<10 by omega) h2
    exact_mod_cast this
   have h6:(10:Int) ^ 9=1000000000:=by decide
   omega
  obtain ⟨n,hn⟩:=TimP.spec.2 ⟨h1,by omega,fun h=>by rcases h3 with h' | h'; exact absurd h h'; exact h',ha,hb⟩;rw [(rcO_iff.2 hn).1]
  rfl
def QtS:ByteArray:=⟨#[112,117,116]⟩
def Qkd:ByteArray:=⟨#[106,111,105,110]⟩
def Qgq:ByteArray:=⟨#[108,101,97,118,101]⟩
def Qkk:ByteArray:=⟨#[116,105,99,107]⟩
def Qgu:ByteArray:=⟨#[99,108,111,115,101]⟩
def Qgl:ByteArray:=⟨#[119,104,101,114,101]⟩
def QkG:ByteArray:=⟨#[114,97,110,107]⟩
def QkO:ByteArray:=⟨#[109,97,110,121]⟩
def Qtm:ByteArray:=⟨#[116,111,112]⟩
def Qc5 (u:ByteArray):Option (Bool×Bool):=
 if u=QtS∨u=Qkd∨u=Qgq∨u=Qgl∨u=QkO then some (true,false)
 else if u=Qkk then some (false,true)
 else if u=QkG then some (true,true)
 else if u=Qgu∨u=Qtm then some (false,false)
 else none
def Qik:List (ByteArray×Bool×Bool):=[(QtS,true,false),(Qkd,true,false),(Qgq,true,false),(Qkk,false,true),(Qgu,false,false),(Qgl,true,false),(QkG,true,true),(QkO,true,false),(Qtm,false,false)]
theorem Qrx {c:Bool×Bool} (h:Qc5 u=some c):(u,c)∈Qik:=by
 unfold Qc5 at h
 split at h
 ·rename_i e
  obtain rfl:=Option.some.inj h;rcases e with rfl | rfl | rfl | rfl | rfl <;> simp [Qik]
 ·split at h
  ·rename_i e
   obtain rfl:=Option.some.inj h;subst e;simp [Qik]
  ·split at h
   ·rename_i e
    obtain rfl:=Option.some.inj h;subst e;simp [Qik]
   ·split at h
    ·rename_i e
     obtain rfl:=Option.some.inj h;rcases e with rfl | rfl <;> simp [Qik]
    ·cases h
theorem QbZ:∀ x∈Qik,Qc5 x.1=some x.2:=by
 intro x hx;simp only [Qik,List.mem_cons,List.not_mem_nil,or_false] at hx;rcases hx with rfl | rfl | rfl | rfl | rfl | rfl | rfl | rfl | rfl <;> decide
theorem QnL (h:Qc5 u=none):u≠QtS/\u≠Qkd/\u≠Qgq/\u≠Qkk/\u≠Qgu/\u≠Qgl/\u≠QkG/\u≠QkO/\u≠Qtm:=by
 refine ⟨?_,?_,?_,?_,?_,?_,?_,?_,?_⟩ <;> (rintro rfl;exact absurd h (by decide))
def okP (W:List ByteArray):Bool:=!W.isEmpty && !(W.any (fun u=>decide (u=ByteArray.empty))) &&
 match Qc5 (W.headD ByteArray.empty) with
 | none=>false
 | some (a,b)=>decide (W.length=1+a.toNat+b.toNat) && (!b || QjU (W.getLastD ByteArray.empty))
def okS:List Bool->List ByteArray->Bool
 | [],_=>true
 | true :: s,W=>!(decide (W.headD ByteArray.empty=ByteArray.empty)) && okS s W.tail
 | false :: s,W=>Qj0 (W.headD ByteArray.empty) && okS s W.tail
def shp (c:Bool×Bool):List Bool:=(if c.1 then [true] else []) ++ (if c.2 then [false] else [])
def okM (W:List ByteArray):Bool:=match Qc5 (W.headD ByteArray.empty) with
 | none=>false
 | some c=>decide ((shp c).length=W.length - 1) && okS (shp c) W.tail
theorem Qnz:QjU ByteArray.empty=false:=by rw [Qnm];rfl
theorem Qs7:Qc5 ByteArray.empty=none:=by decide
theorem ok_eq {W:List ByteArray} (h:W≠[]):okP W=okM W:=by
 obtain ⟨u,R,rfl⟩:=List.exists_cons_of_ne_nil h;unfold okP okM
 show (!false && !(decide (u=ByteArray.empty) || R.any (fun u=>decide (u=ByteArray.empty))) && match Qc5 u with | none=>false | some (a,b)=>decide ((u :: R).length=1+a.toNat+b.toNat) && (!b || QjU ((u :: R).getLastD ByteArray.empty)))=match Qc5 u with | none=>false | some c=>decide ((shp c).length=(u :: R).length - 1) && okS (shp c) R
 cases hc:Qc5 u with
 | none=>simp
 | some c=>
  have hu:u≠ByteArray.empty:=fun e=>by rw [e,Qs7] at hc;cases hc
  obtain ⟨a,b⟩:=c;rw [decide_eq_false hu]
  match R with
  | []=>cases a <;> cases b <;> simp [shp,okS]
  | [x]=>
   cases a <;> cases b <;> simp [shp,okS,<- Qnm]
   intro e he;rw [he,Qnz] at e
   cases e
  | [x,y]=>
   cases a <;> cases b <;> simp [shp,okS,<- Qnm]
   by_cases hy:y=ByteArray.empty
   ·rw [hy,Qnz];simp
   ·simp [hy]
  | x :: y :: z :: R=>cases a <;> cases b <;> simp [shp,okS]
def dkF:Nat->List ByteArray->Option Nat
 | _,[]=>none
 | i,[u]=>if u=ByteArray.empty then none else some i
 | i,u :: v :: R=>if i<60/\okM (QaG u 32)=true then dkF (i+1) (v :: R) else some i
def dkP:Nat->List (List ByteArray)->Option Nat
 | _,[]=>none
 | i,W :: R=>if i<60/\okP W=true then dkP (i+1) R else some i
theorem Qpz:∀ (A:List ByteArray) (e:ByteArray) (i:Nat),dkP i (A.map (fun u=>QaG u 32) ++ (if e=ByteArray.empty then [] else [[]]))=dkF i (A ++ [e])
 | [],e,i=>by
  by_cases h:e=ByteArray.empty
  ·simp [h,dkP,dkF]
  ·simp [h,dkP,dkF,okP]
 | u :: A,e,i=>by
  have ih:=Qpz A e (i+1);have hs:QaG u 32≠[]:=fun q=>by have:=Qcs u 32;rw [q] at this;simp at this
  rw [List.map_cons,List.cons_append,List.cons_append];obtain ⟨v,R,e2⟩:∃ v R,A ++ [e]=v :: R:=List.exists_cons_of_ne_nil (by simp)
  show (if i<60/\okP (QaG u 32)=true then dkP (i+1) _ else some i)=_
  rw [ih,e2,ok_eq hs]
  rfl
theorem dk_all (t:ByteArray):dkP 0 (wdL t)=dkF 0 (QaG t 10):=by
 obtain ⟨h1,h2⟩:=Qr6 t;rw [h1,h2];exact Qpz _ _ 0
theorem infoTS:(prog.info? 30).map (fun i=>(i.zero,i.size,i.bytes))=some (some (.slice none 0 0),1,24):=by kernel_rfl
variable {w:World}
variable {T:TypeId}
variable {v:Value}
theorem QhB {B' z' n':Nat} {T':TypeId} {v':Value} {xs xs':List Value} (h:w.ownsRow B T z v n xs) (k:w.ownsRow B' T' z' v' n' xs') (hT:T≠T'):v.ownBlock=none∨v.ownBlock≠v'.ownBlock:=by
 rcases h.2 with ⟨rfl,_⟩ | ⟨g,ae,ad,rfl,_,hg,_⟩
 ·exact .inl rfl
 ·rcases k.2 with ⟨rfl,_⟩ | ⟨g',ac,ab,rfl,_,aa,_⟩
  ·exact .inr (by simp [Value.ownBlock])
  ·refine .inr (fun e=>?_)
   simp [Value.ownBlock] at e;subst e;rw [hg] at aa;injection aa with aa;injection aa with _ e;exact hT e
def LnsA (w:World) (B:Nat) (v:Value) (LL:List (List ByteArray)):Prop:=∃ xs,w.ownsRow B 30 1 v LL.length xs/\∀ (i:Nat) (x:Value) (L:List ByteArray),xs[i]?=some x->LL[i]?=some L->w.ownsRow B 9 1 x L.length (L.map Value.string)
structure LnW (w wr:World) (t:ByteArray) (LL:List (List ByteArray)) (L:List ByteArray) (k:Nat) (vl vw:Value) (Bw:Nat) (xs:List Value):Prop where
 it:wr.heap[w.heap.size]?=some (.stringIter t k)
 b:Below w.heap.size w wr
 b1:w.heap.size+1<=Bw
 b2:Bw<=wr.heap.size
 ow:wr.ownsRow Bw 9 1 vw L.length (L.map Value.string)
 ol:wr.ownsRow (w.heap.size+1) 30 1 vl LL.length xs
 e:∀ (i:Nat) (x:Value) (M:List ByteArray),xs[i]?=some x->LL[i]?=some M->wr.ownsRow (w.heap.size+1) 9 1 x M.length (M.map Value.string)/\∀ j,x.ownBlock=some j->j<Bw
section
variable {w wr w1 w2:World} {t u:ByteArray} {LL:List (List ByteArray)} {L:List ByteArray} {k k' Bw:Nat} {vl vw v':Value} {xs:List Value} {o:Obj}
theorem LnW.move (h:LnW w wr t LL L k vl vw Bw xs) (k':Nat):LnW w (wr.iterAt w.heap.size t k') t LL L k' vl vw Bw xs:=
 ⟨Lib.iterAt_heap wr w.heap.size t k k' h.it,Lib.below_iterAt h.b (Nat.le_refl _) t k',h.b1,by rw [Lib.iterAt_size];exact h.b2,ownsRow_iterAt h.ow (by have:=h.b1;omega) t k',ownsRow_iterAt h.ol (by omega) t k',fun i x M h1 h2=>⟨ownsRow_iterAt (h.e i x M h1 h2).1 (by omega) t k',(h.e i x M h1 h2).2⟩⟩
theorem LnW.lt (h:LnW w wr t LL L k vl vw Bw xs):w.heap.size<wr.heap.size:=(ZZc.1 h.it).1
theorem LnW.blk {ys:List Value} (h:LnW w wr t LL L k vl vw Bw xs) (q:wr.ownsRow B T z v' n ys) (hB:w.heap.size<B) (hg:(wr.alloc o).grownBy w2 v'.ownBlock):w2.heap[w.heap.size]?=some (.stringIter t k)/\Below w.heap.size w w2:=by
 have hl:=h.lt;refine ⟨?_,Below.grown (h.b.alloc (by omega) o) hg (by simp;omega) (fun j hj=>by have:=(q.lt _ hj).1;omega)⟩;rw [hg.block w.heap.size (by simp;omega) (fun e=>by have:=(q.lt _ e.symm).1;omega),Below.heap_alloc _ _ _ hl];exact h.it
theorem LnW.word (h:LnW w wr t LL L k vl vw Bw xs) (hw:w2.ownsRow Bw 9 1 v' (L.length+1) (L.map Value.string ++ [.string u])) (hg:(wr.alloc o).grownBy w2 vw.ownBlock):LnW w w2 t LL (L ++ [u]) k vl v' Bw xs:=by
 obtain ⟨h1,h2⟩:=h.blk h.ow (by have:=h.b1;omega) hg;have hs:wr.heap.size<=w2.heap.size:=by have:=hg.size;simp at this;omega
 refine ⟨h1,h2,h.b1,Nat.le_trans h.b2 hs,?_,(h.ol.alloc o).kept hg (QhB h.ol h.ow (by decide)),fun i x M h3 h4=>⟨((h.e i x M h3 h4).1.alloc o).kept hg ?_,(h.e i x M h3 h4).2⟩⟩
 ·have e1:(L ++ [u]).length=L.length+1:=by simp
  have e2:(L ++ [u]).map Value.string=L.map Value.string ++ [.string u]:=by simp
  rw [e1,e2];exact hw
 ·cases hx:x.ownBlock with
  | none=>exact .inl rfl
  | some j=>
   refine .inr (fun e=>?_);have:=(h.e i x M h3 h4).2 j hx;have:=(h.ow.lt j e.symm).1;omega
theorem LnW.line (h:LnW w wr t LL L k vl vw Bw xs) (hw:w2.ownsRow (w.heap.size+1) 30 1 v' (LL.length+1) (xs ++ [vw])) (hg:(wr.alloc o).grownBy w2 vl.ownBlock):LnW w w2 t (LL ++ [L]) [] k v' (.slice none 0 0) w2.heap.size (xs ++ [vw]):=by
 obtain ⟨h1,h2⟩:=h.blk h.ol (by omega) hg;have hs:wr.heap.size<=w2.heap.size:=by have:=hg.size;simp at this;omega
 have ab:xs.length=LL.length:=by have:=h.ol.1;omega
 have ac:=h.b1;have ad:=h.b2;refine ⟨h1,h2,by omega,ZZa _,⟨rfl,.inl ⟨rfl,rfl⟩⟩,?_,fun i x M h3 h4=>?_⟩
 ·rw [List.length_append]
  exact hw
 ·have aa:(x=vw/\M=L)∨(xs[i]?=some x/\LL[i]?=some M):=by
   rcases Nat.lt_trichotomy i xs.length with q | q | q
   ·rw [List.getElem?_append_left q] at h3
    rw [List.getElem?_append_left (by omega)] at h4;exact .inr ⟨h3,h4⟩
   ·rw [List.getElem?_append_right (by omega),q,Nat.sub_self] at h3
    rw [List.getElem?_append_right (by omega),show i - LL.length=0 by omega] at h4;simp at h3 h4;exact .inl ⟨h3.symm,h4.symm⟩
   ·rw [List.getElem?_eq_none (by simp;omega)] at h3
    cases h3
  rcases aa with ⟨rfl,rfl⟩ | ⟨h3,h4⟩
  ·have hk:=(h.ow.alloc o).kept hg (QhB h.ow h.ol (by decide))
   exact ⟨Qa1 hk (by omega),fun j q=>(hk.lt j q).2⟩
  ·have hk:=((h.e i x M h3 h4).1.alloc o).kept hg (QhB (h.e i x M h3 h4).1 h.ol (by decide))
   exact ⟨hk,fun j q=>(hk.lt j q).2⟩
theorem LnW.fin (h:LnW w wr t LL L k vl vw Bw xs):LnsA wr w.heap.size vl LL:=
 ⟨xs,Qa1 h.ol (by omega),fun i x M h1 h2=>Qa1 (h.e i x M h1 h2).1 (by omega)⟩
theorem LnW.start (w:World) (t:ByteArray):LnW w (w.iter t 0) t [] [] 0 (.slice none 0 0) (.slice none 0 0) (w.heap.size+1) []:=
 ⟨World.iter_heap w t 0,(Below.refl _ _).alloc (Nat.le_refl _) _,Nat.le_refl _,by simp [World.iter],⟨rfl,.inl ⟨rfl,rfl⟩⟩,⟨rfl,.inl ⟨rfl,rfl⟩⟩,fun i x M h=>by simp at h⟩
end
theorem QgF (t:ByteArray) (ht:t.size<=1000000) (w:World) :
  Calls prog 15 #[.string t] w fun e w'=>∃ v,e=.returned v/\LnsA w' w.heap.size v (wdL t)/\Below w.heap.size w w':=by
 obtain ⟨i0,hi,ak,am,an⟩:=info_parts infoS;obtain ⟨i1,ki,af,ah,aj⟩:=info_parts infoTS;have HT:=Qaa ht;have hS:=LnW.start w t;clear ht;go_enter func15,ntmps15;go_wp2
 go_loopw [3,4,5] (fun vl vw f wr=>∃ (k:Nat) (Bw:Nat) (xs:List Value),k<=t.size/\f=.int .i64 ((wdS t k).fr:Nat)/\Hid (LnW w wr t (wdS t k).ls (wdS t k).ws k vl vw Bw xs)) (fun _ _ _ wr=>t.size - wr.iterPos w.heap.size)
 case atStart=>exact ⟨0,_,_,ZZj _,rfl,Qaa hS⟩
 case round=>
  clear hS;obtain ⟨k,Bw,xs,hk,rfl,H⟩:=hrel;have ac:=iterPos_of H.out.it;have ad:=Qr5 t k;have HZ:Hid (k+(wdS t k).ls.length+(wdS t k).ws.length<=2*t.size):=(by omega:k+(wdS t k).ls.length+(wdS t k).ws.length<=2*t.size);by_cases hp:k<t.size
  ·have ai:∀ ty,(Instr.next (.pointer (some ⟨w.heap.size,0,none⟩)) true ty).run prog wr=_:=fun ty=>Lib.run_next_any_at wr w.heap.size t k ty H.out.it hp
   obtain ⟨d1,d0,d2,d3,d4,d5⟩:=QrW t k hp;have H2:=Qaa (H.out.move (k+(Utf8.decode t k).2));generalize wr.iterAt w.heap.size t (k+(Utf8.decode t k).2)=W1 at ai H2;generalize hr:(Utf8.decode t k).1=r at ai d1 d2;have ag:=Qaa ac;have ae:Hid (W1.iterPos w.heap.size=k+(Utf8.decode t k).2):=Qaa (iterPos_of H2.out.it);have aC:Hid (w.heap.size<W1.heap.size):=Qaa H2.out.lt;clear hr H ac;by_cases hb:bt t k=32
   ·have e1:(r:Int)=32:=(d1 32 (by omega) (by omega)).2 hb
    obtain rfl:r=32:=by omega
    have e2:=d0 (by omega);rw [e2] at H2 ae;have HF:Hid (wdS t (k+1)=⟨(wdS t k).ls,(wdS t k).ws ++ [t.extract (wdS t k).fr k],k+1⟩):=Qf2 hb;generalize (wdS t k).fr=F at ad HF ⊢;have ap:(F:Int)<=(k:Int):=by omega
    have ar:(k:Int)<=(t.size:Int):=by omega
    have ay:IntKind.i64.wrap ((k:Int)+1)=(k:Int)+1:=ZZi _ ⟨by omega,by have:=HT.out;omega⟩;clear d1 d0 d2 d3 d4 d5 e1 e2 hb
    go_wp2_with (first
     | (at_builtin;refine wpList_append_own _ rfl _ _ 30 rfl Bw 9 i0 (.string ByteArray.empty) 1 16 underlying30 hi ak am an rfl (by decide) _ _ _ rfl (H2.out.ow.alloc _) ⟨W1.heap.size,0,none⟩ 1 1 [.string (t.extract F k)] rfl rfl ?c1 ?c2 ?c3 ?c4 ?c5 ?_))
    case c1=>
     intro j u hj
     match j,hj with
     | 0,hj=>simp at hj;subst hj;simp [Addr.add]
    case c2=>intro u hu;simp at hu;subst hu;rfl
    case c3=>unfold maxLen;have:=HT.out;have:=HZ.out;omega
    case c4=>have:=HT.out;have:=HZ.out;omega
    case c5=>simp;have:=H2.out.b2;omega
    ·intro v' w2 aa ab _
     have H3:=Qaa (H2.out.word aa ab);have HI:Hid (w2.iterPos w.heap.size=k+1):=Qaa (iterPos_of H3.out.it);clear aa ab H2;go_wp2;go_roundw
     case rel=>exact ⟨k+1,Bw,xs,by omega,by rw [HF.out];rfl,Qaa (by rw [HF.out];exact H3.out)⟩
     case measure=>rw [HI.out,ag.out];omega
   ·by_cases hn:bt t k=10
    ·have e1:(r:Int)=10:=(d1 10 (by omega) (by omega)).2 hn
     obtain rfl:r=10:=by omega
     have e2:=d0 (by omega);rw [e2] at H2 ae;have HF:Hid (wdS t (k+1)=⟨(wdS t k).ls ++ [(wdS t k).ws ++ [t.extract (wdS t k).fr k]],[],k+1⟩):=QhF hn;generalize (wdS t k).fr=F at ad HF ⊢;have ap:(F:Int)<=(k:Int):=by omega
     have ar:(k:Int)<=(t.size:Int):=by omega
     have ay:IntKind.i64.wrap ((k:Int)+1)=(k:Int)+1:=ZZi _ ⟨by omega,by have:=HT.out;omega⟩;clear d1 d0 d2 d3 d4 d5 e1 e2 hb hn;go_wp2_with (first
     | (at_builtin;refine wpList_append_own _ rfl _ _ 30 rfl Bw 9 i0 (.string ByteArray.empty) 1 16 underlying30 hi ak am an rfl (by decide) _ _ _ rfl (H2.out.ow.alloc _) ⟨W1.heap.size,0,none⟩ 1 1 [.string (t.extract F k)] rfl rfl ?c1 ?c2 ?c3 ?c4 ?c5 ?_))
     case c1=>
      intro j u hj
      match j,hj with
      | 0,hj=>simp at hj;subst hj;simp [Addr.add]
     case c2=>intro u hu;simp at hu;subst hu;rfl
     case c3=>unfold maxLen;have:=HT.out;have:=HZ.out;omega
     case c4=>have:=HT.out;have:=HZ.out;omega
     case c5=>simp;have:=H2.out.b2;omega
     ·intro v' w2 aa ab _
      have H3:=Qaa (H2.out.word aa ab);clear aa ab H2
      obtain ⟨a3,n3,c3,rfl⟩:∃ a n c,v'=.slice a n c:=by
       rcases H3.out.ow.2 with ⟨rfl,_⟩ | ⟨g,ax,aq,rfl,_⟩ <;> exact ⟨_,_,_,rfl⟩
      go_wp2_with (first
       | (at_builtin;refine wpList_append_own _ rfl _ _ 50 rfl (w.heap.size+1) 30 i1 (.slice none 0 0) 1 24 underlying50 ki af ah aj rfl (by decide) _ _ _ rfl (H3.out.ol.alloc _) ⟨w2.heap.size,0,none⟩ 1 1 [.slice a3 n3 c3] rfl rfl ?f1 ?f2 ?f3 ?f4 ?f5 ?_))
      case f1=>
       intro j u hj
       match j,hj with
       | 0,hj=>simp at hj;subst hj;simp [Addr.add]
      case f2=>intro u hu;simp at hu;subst hu;rfl
      case f3=>unfold maxLen;have:=HT.out;have:=HZ.out;omega
      case f4=>have:=HT.out;have:=HZ.out;omega
      case f5=>simp;have:=H3.out.lt;omega
      ·intro v2 w3 aa ab _
       have H4:=Qaa (H3.out.line aa ab);have HI:Hid (w3.iterPos w.heap.size=k+1):=Qaa (iterPos_of H4.out.it);clear aa ab H3;go_wp2;go_roundw
       case rel=>exact ⟨k+1,_,_,by omega,by rw [HF.out];rfl,Qaa (by rw [HF.out];exact H4.out)⟩
       case measure=>rw [HI.out,ag.out];omega
    ·have e1:((r:Int) == 32)=false:=ZZf.2 (fun q=>hb ((d1 32 (by omega) (by omega)).1 q))
     have e2:((r:Int) == 10)=false:=ZZf.2 (fun q=>hn ((d1 10 (by omega) (by omega)).1 q));have e3:((r:Int) != 32)=true:=by rw [bne,e1];rfl
     have e4:((r:Int) != 10)=true:=by rw [bne,e2];rfl
     have HF:Hid (wdS t (k+(Utf8.decode t k).2)=wdS t k):=by
      rcases Int.lt_or_le (bt t k) 128 with q | q
      ·rw [d0 q];exact Qaa (Qet hb hn)
      ·exact Qaa (QnR _ (fun j j1 j2=>by
        rcases Nat.eq_or_lt_of_le j1 with q2 | q2
        ·rw [<- q2];exact q
        ·exact d5 j q2 j2))
     generalize (Utf8.decode t k).2=m at d3 d4 H2 ae HF ⊢;clear d1 d0 d2 d5 hb hn;go_wp2;go_roundw
     case rel=>exact ⟨k+m,Bw,xs,d4,by rw [HF.out],Qaa (by rw [HF.out];exact H2.out)⟩
     case measure=>rw [ae.out,ag.out];omega
  ·have av:k=t.size:=by omega
   subst av;have ai:∀ ty,(Instr.next (.pointer (some ⟨w.heap.size,0,none⟩)) true ty).run prog wr=_:=fun ty=>Lib.run_next_end_at wr w.heap.size t t.size ty H.out.it (by omega);have HL:Hid (wdL t=(wdS t t.size).ls ++ (if 0<(wdS t t.size).ws.length∨(wdS t t.size).fr<t.size then [[]] else [])):=rfl
   have HO:=Qaa H.out.ow.1
   obtain ⟨a3,c3,rfl⟩:∃ a c,u4=.slice a (wdS t t.size).ws.length c:=by
    rcases H.out.ow.2 with ⟨rfl,e⟩ | ⟨g,ax,aq,rfl,_⟩
    ·exact ⟨none,0,by rw [e]⟩
    ·exact ⟨_,_,rfl⟩
   generalize (wdS t t.size).fr=F at ad HL ⊢
   have fin:∀ (w2 w3:World) (v2:Value),Hid (LnW w w2 t (wdS t t.size).ls (wdS t t.size).ws t.size u3 (.slice a3 (wdS t t.size).ws.length c3) Bw xs)->w3.ownsRow (w.heap.size+1) 30 1 v2 ((wdS t t.size).ls.length+1) (xs ++ [.slice none 0 0])->∀ o,(w2.alloc o).grownBy w3 u3.ownBlock->LnsA w3 w.heap.size v2 ((wdS t t.size).ls ++ [[]])/\Below w.heap.size w w3:=fun w2 w3 v2 H ho o hg=>by
    obtain ⟨h1,h2⟩:=H.out.blk H.out.ol (by omega) hg;refine ⟨⟨xs ++ [.slice none 0 0],by rw [List.length_append];exact Qa1 ho (by omega),fun i x M h3 h4=>?_⟩,h2⟩;have aB:xs.length=(wdS t t.size).ls.length:=by have:=H.out.ol.1;omega
    rcases Nat.lt_trichotomy i xs.length with q | q | q
    ·rw [List.getElem?_append_left q] at h3
     rw [List.getElem?_append_left (by omega)] at h4;exact Qa1 (((H.out.e i x M h3 h4).1.alloc o).kept hg (QhB (H.out.e i x M h3 h4).1 H.out.ol (by decide))) (by omega)
    ·rw [List.getElem?_append_right (by omega),q,Nat.sub_self] at h3
     rw [List.getElem?_append_right (by omega),show i - (wdS t t.size).ls.length=0 by omega] at h4;simp at h3 h4;subst h3 h4;exact ⟨rfl,.inl ⟨rfl,rfl⟩⟩
    ·rw [List.getElem?_eq_none (by simp;omega)] at h3
     cases h3
   have al:=Qaa fin;have ao:Hid ((wdS t t.size).ws.length=(wdS t t.size).ws.length):=rfl;clear fin ac hk hp HO ao;by_cases hA:0<(wdS t t.size).ws.length
   ·have HE:Hid (wdL t=(wdS t t.size).ls ++ [[]]):=by rw [HL.out,if_pos (.inl hA)];exact Qaa rfl
    have aw:(0:Int)<((wdS t t.size).ws.length:Int):=by omega
    have az:decide (0<(wdS t t.size).ws.length)=true:=ZZh hA;clear ad
    go_wp2_with (first
     | (at_builtin;refine wpList_append_own _ rfl _ _ 50 rfl (w.heap.size+1) 30 i1 (.slice none 0 0) 1 24 underlying50 ki af ah aj rfl (by decide) _ _ _ rfl (H.out.ol.alloc _) ⟨wr.heap.size,0,none⟩ 1 1 [.slice none 0 0] rfl rfl ?c1 ?c2 ?c3 ?c4 ?c5 ?_))
    case c1=>
     intro j u hj
     match j,hj with
     | 0,hj=>simp at hj;subst hj;simp [Addr.add]
    case c2=>intro u hu;simp at hu;subst hu;rfl
    case c3=>unfold maxLen;have:=HT.out;have:=HZ.out;omega
    case c4=>have:=HT.out;have:=HZ.out;omega
    case c5=>simp;have:=H.out.lt;omega
    ·intro v2 w3 aa ab _
     obtain ⟨r1,r2⟩:=al.out _ _ _ H aa _ ab;have R1:=Qaa r1;have R2:=Qaa r2;clear r1 r2 aa ab;go_wp2;go_ret;exact ⟨_,rfl,by rw [HE.out];exact R1.out,R2⟩
   ·have aw:¬ (0:Int)<((wdS t t.size).ws.length:Int):=by omega
    have az:decide (0<(wdS t t.size).ws.length)=false:=ZZg hA;by_cases hB:F<t.size
    ·have HE:Hid (wdL t=(wdS t t.size).ls ++ [[]]):=by rw [HL.out,if_pos (.inr hB)];exact Qaa rfl
     have aA:(F:Int)<(t.size:Int):=by omega
     have au:decide (F<t.size)=true:=ZZh hB;clear ad
     go_wp2_with (first
      | (at_builtin;refine wpList_append_own _ rfl _ _ 50 rfl (w.heap.size+1) 30 i1 (.slice none 0 0) 1 24 underlying50 ki af ah aj rfl (by decide) _ _ _ rfl (H.out.ol.alloc _) ⟨wr.heap.size,0,none⟩ 1 1 [.slice none 0 0] rfl rfl ?c1 ?c2 ?c3 ?c4 ?c5 ?_))
     case c2=>rfl
     case c3=>unfold maxLen;have:=HT.out;have:=HZ.out;omega
     case c4=>have:=HT.out;have:=HZ.out;omega
     case c5=>have:=H.out.lt;omega
     ·intro v2 w3 aa ab _
      obtain ⟨r1,r2⟩:=al.out _ _ _ H aa _ ab;have R1:=Qaa r1;have R2:=Qaa r2;clear r1 r2 aa ab;go_wp2;go_ret;exact ⟨_,rfl,by rw [HE.out];exact R1.out,R2⟩
    ·have HE:Hid (wdL t=(wdS t t.size).ls):=by rw [HL.out,if_neg (by omega),List.append_nil];exact Qaa rfl
     have aA:¬ (F:Int)<(t.size:Int):=by omega
     have au:decide (F<t.size)=false:=ZZg hB;clear ad;go_wp2;go_ret;exact ⟨_,rfl,by rw [HE.out];exact H.out.fin,H.out.b⟩
def IxA (L:List ByteArray) (v:ByteArray) (e:Ending):Prop:=∃ n:Int,e=.returned (.int .i64 n)/\(v∈L↔0<=n)
variable {ao:Option Addr}
variable {L:List ByteArray}
theorem Qs6 (v:ByteArray) (cap:Nat) (hl:L.length<=1048576) (hA:Qaw w ao L) :
  Calls prog 107 #[.slice ao L.length cap,.string v] w fun e w'=>IxA L v e/\Below w.heap.size w w':=by
 obtain ⟨N,hN⟩:∃ N,L.length=N:=⟨_,rfl⟩;rw [hN] at hl;rw [hN];have HN:=Qaa hN;clear hN;go_enter func107,ntmps107;go_wp2
 go_loopw [8] (fun i wr=>Below w.heap.size w wr/\∃ k:Nat,k<=N/\i=.int .i64 k/\Hid (∀ j u,j<k->L[j]?=some u->u≠v)) (fun i wr=>N - (Go.RowKit.intOf i).toNat)
 case atStart=>exact ⟨ZZb _ _,0,ZZj _,rfl,Qaa (fun j u h=>by omega)⟩
 case round=>
  obtain ⟨aa,k,hk,rfl,HK⟩:=hrel;have HB:Hid (Below w.heap.size w wr):=aa;by_cases ag:k<N
  ·obtain ⟨b,ah,rfl,ab⟩:=hA (by have:=HN.out;omega)
   obtain ⟨u,ad⟩:∃ u,L[k]?=some u:=⟨L[k]'(by have:=HN.out;omega),ZZe (by have:=HN.out;omega)⟩;have hc:=Qab aa (ab k u ad);have HU:=Qaa ad;clear ab ad aa;by_cases ac:v=u
   ·have hq:(v.toList == u.toList)=true:=by rw [ac];simp
    clear hA;go_wp2;go_ret;exact ⟨⟨_,rfl,⟨fun _=>by omega,fun _=>by rw [ac];exact List.mem_of_getElem? HU⟩⟩,HB⟩
   ·have hq:(v.toList == u.toList)=false:=by
     cases h:(v.toList == u.toList)
     ·rfl
     ·exact absurd (QbV h) ac
    go_wp2;go_roundw
    case rel=>exact ⟨HB,k+1,by omega,by go_num,Qaa (fun j x hj hx=>by
     rcases Nat.lt_or_ge j k with q | q
     ·exact HK.out j x q hx
     ·rw [show j=k by omega,HU.out] at hx
      rw [<- Option.some.inj hx];exact fun e=>ac e.symm)⟩
    case measure=>simp [zI];omega
  ·clear aa hA
   have ae:v ∉ L:=fun h=>by
    obtain ⟨j,hj,e⟩:=List.mem_iff_getElem.1 h;exact HK.out j v (by have:=HN.out;omega) (by rw [List.getElem?_eq_getElem hj,e]) rfl
   have af:=Qaa ae;clear ae;go_wp2;go_ret;exact ⟨⟨_,rfl,⟨fun h=>absurd h af,fun h=>by omega⟩⟩,HB⟩
theorem QmK (v:ByteArray) (cap:Nat) (hl:L.length<=1048576) (hA:Qaw w ao L) :
  Calls prog 46 #[.slice ao L.length cap,.string v] w fun e w'=>e=.returned (.bool (L.any (fun u=>decide (u=v))))/\Below w.heap.size w w':=by
 have H:=Qaa (Qs6 v cap hl hA);obtain ⟨N,hN⟩:∃ N,L.length=N:=⟨_,rfl⟩;rw [hN] at H;rw [hN];clear hA hl hN;go_enter func46,ntmps46;go_wp2_with fail;refine H.out.mono ?_;rintro e w1 ⟨⟨n,rfl,hn⟩,hb⟩;have HB:=Qaa hb;have HN:=Qaa hn;clear hb hn;by_cases h0:0<=n
 ·have aa:decide (0<=n)=true:=ZZh h0
  have hd:Hid (L.any (fun u=>decide (u=v))=true):=Qaa <| List.any_eq_true.2 ⟨v,HN.out.2 h0,ZZh rfl⟩
  go_wp2;go_ret;exact ⟨by rw [hd.out];first | rfl | (rw [<- aa];rfl),HB⟩
 ·have aa:decide (0<=n)=false:=ZZg h0
  have hd:Hid (L.any (fun u=>decide (u=v))=false):=Qaa <| by
   rw [List.any_eq_false];intro u hu e;exact h0 (HN.out.1 (of_decide_eq_true e ▸ hu))
  go_wp2;go_ret;exact ⟨by rw [hd.out];first | rfl | (rw [<- aa];rfl),HB⟩
theorem Qgj (a b:Bool) (f:Value) (w:World) :
  Calls prog 47 #[.agg #[.bool a,.bool b,f]] w fun e w'=>e=.returned (.int .i64 ((1+a.toNat+b.toNat:Nat):Int))/\Below w.heap.size w w':=by
 have hb:=(ZZb w.heap.size w).alloc (ZZa _) (.cells #[.bool a,.bool b,f] 103);have HB:=Qaa hb;clear hb
 cases a <;> cases b
 all_goals
  go_enter func47,ntmps47;go_wp2;go_ret;exact ⟨rfl,HB⟩
section
theorem QmV {H:Type} {P:Program} (w:World) {ops:Array Oper} {rest:List Oper} {o:Oper} {a:Act} {Q:Exit->Act->World->Prop}
  (hg:o.guard=none) (m x v:Operand) (t:TypeId) (hop:o.op=Op.insert t m x v)
  (k e:TypeId) (K:Go.Maps.Keyed P k) (ht:P.underlying t=some (.map k e)) (R:Value->Option (DataW H×List MemPlace)) (b n:Nat) (D:DataW H)
  (hm:a.eval m=.map (some b)) (hown:w.ownsMap P k R b n D) (hn:n<maxLen) (key val:Value) (kl:Lit) (hx:a.eval x=key) (hv:a.eval v=val) (hkey:keyOf P k key=some kl)
  (d:DataW H) (ps:List MemPlace) (hval:R val=some (d,ps))
  (hK:∀ w',w'.ownsMap P k R b (n+1) (D.put kl d)->w.grownBy w' (some b)->wpList P ops Q rest (a.put o.dst undef) w') :
  wpList P ops Q (o :: rest) a w:=by
 refine wpList_plain hg fun K' hK'=>?_;obtain ⟨w',aa,r1,r2⟩:=hown.update K ht hn hkey hval;unfold Oper.wp;simp [execOp,hop,hm,hx,hv,aa,Result.andThen];exact hK' _ _ (hK w' r1 r2)
theorem lawS:Go.Maps.Keyed prog 9:=Go.Maps.string_keyed underlying9
theorem QlG {x:ByteArray} (h:x.size<=maxLen):Go.keyOf prog 9 (.string x)=some (QdZ x):=Go.WideMaps.keyOf_string_mk underlying9 h
def Qvc (d:Bool->Bool->DataW Unit):DataW Unit:=
 ((((((((((DataW.map []:DataW Unit).put (QdZ ⟨#[112,117,116]⟩) (d true false)).put (QdZ ⟨#[106,111,105,110]⟩) (d true false)).put (QdZ ⟨#[108,101,97,118,101]⟩) (d true false)).put (QdZ ⟨#[116,105,99,107]⟩) (d false true)).put (QdZ ⟨#[99,108,111,115,101]⟩) (d false false)).put (QdZ ⟨#[119,104,101,114,101]⟩) (d true false)).put (QdZ ⟨#[114,97,110,107]⟩) (d true true)).put (QdZ ⟨#[109,97,110,121]⟩) (d true false)).put (QdZ ⟨#[116,111,112]⟩) (d false false))
theorem QrO (w:World):(Instr.makeMap 48 none).run prog w=.ok (.map (some w.heap.size)) (w.alloc (.map #[] 0)):=by
 have h:=underlying48;simp [Instr.makeMap,h]
theorem Qfg (R:Value->Option (DataW Unit×List MemPlace)) (d:Bool->Bool->DataW Unit) (hR:∀ a b f g h,R (.agg #[.bool a,.bool b,.func f g h])=some (d a b,[])) (w:World) :
  Calls prog 14 #[] w fun e w'=>e=.returned (.map (some w.heap.size))/\w'.ownsMap prog 9 R w.heap.size 9 (Qvc d)/\Below w.heap.size w w':=by
 have M0:=Qaa (World.ownsMap_made w prog 9 R);have B0:Hid (Below w.heap.size w (w.alloc (.map #[] 0))):=(ZZb _ _).alloc (ZZa _) _;have HR:=Qaa hR;have ac:=QrO;clear hR;go_enter func14,ntmps14;go_wp2_with (refine QmV _ rfl _ _ _ 48 rfl 9 103 lawS underlying48 R w.heap.size _ _ rfl M0 (by unfold maxLen;omega) _ _ _ rfl rfl (QlG (by decide)) _ [] (HR.out _ _ _ _ _) ?_;intro w1 ab aa;have B0:=Qaa (B0.out.grown aa B0.out.size (fun j hj=>by cases hj;exact Nat.le_refl _));have M0:=Qaa ab;clear ab aa);go_ret;exact ⟨rfl,M0,B0⟩
end
def dC (a b:Bool):DataW Unit:=.agg [.lit (.bool a),.lit (.bool b)]
def rC:Value->Option (DataW Unit×List MemPlace)
 | .agg cs=>match cs.toList with
  | [.bool a,.bool b,.func _ _ _]=>some (dC a b,[])
  | [.bool a,.bool b,.nilFunc]=>some (dC a b,[])
  | _=>none
 | _=>none
theorem rC_inv {y:DataW Unit×List MemPlace} (h:rC v=some y):∃ a b f,v=.agg #[.bool a,.bool b,f]/\f.oneCell'=true/\y=(dC a b,[]):=by
 unfold rC at h
 split at h
 ·rename_i cs
  split at h
  ·rename_i a b f1 f2 f3 e
   refine ⟨a,b,.func f1 f2 f3,?_,rfl,(Option.some.inj h).symm⟩;rw [show cs=cs.toList.toArray by simp,e]
  ·rename_i a b e
   refine ⟨a,b,.nilFunc,?_,rfl,(Option.some.inj h).symm⟩;rw [show cs=cs.toList.toArray by simp,e]
  ·cases h
 ·cases h
theorem dC_inj {a b a' b':Bool} (h:dC a b=dC a' b'):a=a'/\b=b':=by
 unfold dC at h;injection h with h;injection h with h1 h2;injection h2 with h2 _;injection h1 with h1;injection h1 with h1;injection h2 with h2;injection h2 with h2;exact ⟨h1,h2⟩
theorem Qb3 {v:ByteArray} (h:QdZ u=QdZ v):u=v:=by
 unfold QdZ at h;injection h with h;exact Qbf h
theorem QrN:∀ x∈Qik,has (Qvc dC) (QdZ x.1)=true/\(Qvc dC).atKey (QdZ x.1) (dC false false)=dC x.2.1 x.2.2:=by
 intro x hx;simp only [Qik,List.mem_cons,List.not_mem_nil,or_false] at hx;rcases hx with rfl | rfl | rfl | rfl | rfl | rfl | rfl | rfl | rfl <;> exact ⟨by kernel_rfl,by kernel_rfl⟩
theorem Quu (h:Qc5 u=none):has (Qvc dC) (QdZ u)=false:=by
 obtain ⟨h1,h2,h3,h4,h5,h6,h7,h8,h9⟩:=QnL h;unfold Qvc
 change has ((((((((((DataW.map []:DataW Unit).put (QdZ QtS) (dC true false)).put (QdZ Qkd) (dC true false)).put (QdZ Qgq) (dC true false)).put (QdZ Qkk) (dC false true)).put (QdZ Qgu) (dC false false)).put (QdZ Qgl) (dC true false)).put (QdZ QkG) (dC true true)).put (QdZ QkO) (dC true false)).put (QdZ Qtm) (dC false false)) (QdZ u)=false
 rw [has_put_other (fun e=>h9 (Qb3 e)),has_put_other (fun e=>h8 (Qb3 e)),has_put_other (fun e=>h7 (Qb3 e)),has_put_other (fun e=>h6 (Qb3 e)),has_put_other (fun e=>h5 (Qb3 e)),has_put_other (fun e=>h4 (Qb3 e)),has_put_other (fun e=>h3 (Qb3 e)),has_put_other (fun e=>h2 (Qb3 e)),has_put_other (fun e=>h1 (Qb3 e))]
 rfl
theorem QtZ (w:World):(zeroValue 103).run prog w=.ok (.agg #[.bool false,.bool false,.nilFunc]) w:=by kernel_rfl
def CmdM (w:World) (b:Nat):Prop:=w.ownsMap prog 9 rC b 9 (Qvc dC)
theorem CmdM.past {w':World} (h:CmdM w b) (hb:Below w.heap.size w w'):CmdM w' b:=World.ownsMap.kept (row:=Option.none) h ⟨hb.os,hb.tape,hb.output,hb.size,fun i hi _=>hb.block i hi⟩ (by simp)
theorem CmdM.lt (h:CmdM w b):b<w.heap.size:=World.ownsMap.lt h
theorem CmdM.look (h:CmdM w b) (hu:u.size<=maxLen) :
  (Qc5 u=none->∃ a b2 f,f.oneCell'=true/\(Instr.lookup 48 (.map (some b)) (.string u) true).run prog w=.ok (.tuple #[.agg #[.bool a,.bool b2,f],.bool false]) w) /\
  ∀ a b2,Qc5 u=some (a,b2)->∃ f,f.oneCell'=true/\(Instr.lookup 48 (.map (some b)) (.string u) true).run prog w=.ok (.tuple #[.agg #[.bool a,.bool b2,f],.bool true]) w:=by
 obtain ⟨v,ps,aa,hv⟩:=World.ownsMap.look_ok (zd:=dC false false) (zp:=[]) h lawS underlying48 (QtZ w) rfl (QlG hu);obtain ⟨a,b2,f,rfl,h1,e⟩:=rC_inv hv;refine ⟨fun hn=>?_,fun a' b' hs=>?_⟩
 ·rw [Quu hn] at aa
  exact ⟨a,b2,f,h1,aa⟩
 ·obtain ⟨y1,y2⟩:=QrN _ (Qrx hs)
  have e1:=congrArg Prod.fst e;obtain ⟨rfl,rfl⟩:=dC_inj (y2.symm.trans e1);rw [y1] at aa;exact ⟨f,h1,aa⟩
theorem Qmy (w:World):Calls prog 14 #[] w fun e w'=>e=.returned (.map (some w.heap.size))/\CmdM w' w.heap.size/\Below w.heap.size w w':=
 Qfg rC dC (fun _ _ _ _ _=>rfl) w
end Go.Proofs.YtdbaabbmcfnjbaaGreatDoor
