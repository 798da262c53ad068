/-
 Parts.
-/
import Derived.Test.YtdbaabbmcfnjbaaGreatDoorDWC
import Derived.Lib.PathFns
import Derived.Lib.TrimByte
set_option maxHeartbeats 2000000
set_option maxRecDepth 10000
set_option linter.all false
namespace Go.Proofs.YtdbaabbmcfnjbaaGreatDoor
open Go.ChangeShapes Go.WideShapes Go.ChangeAt Go.RowKit Go.PlainAid Tryz
section
def smpV (k:Int) (se:ByteArray) (v:Int) (wd:ByteArray) (wt:Int) (tm:Bool) (ti:Int):Value:=.agg #[.int .i64 k,.string se,.int .i64 v,.string wd,.int .u64 wt,.bool tm,.int .i64 ti]
end
section
structure SBox (w0 w:World) (g:Nat) (k:Int) (se:ByteArray) (v:Int) (wd:ByteArray) (wt:Int) (tm:Bool) (ti:Int) (T:TypeId):Prop where
 row:w.heap[g]?=some (.cells #[.int .i64 k,.string se,.int .i64 v,.string wd,.int .u64 wt,.bool tm,.int .i64 ti] T (0,0))
 bel:Below w0.heap.size w0 w
section
variable {w0 w:World} {g:Nat} {k:Int} {se:ByteArray} {v:Int} {wd:ByteArray} {wt:Int} {tm:Bool} {ti:Int} {T:TypeId}
end
theorem c_l01IsM (n lo hi:Int) (w:World):Calls prog 18 #[.int .i64 n,.int .i64 lo,.int .i64 hi] w fun e w'=>e=.returned (.bool (decide (lo<=n) && decide (n<=hi)))/\w'=w:=by
 by_cases h1:lo<=n <;> by_cases h2:n<=hi <;> (go_enter func18,ntmps18;go_wp2;go_ret;exact ⟨by simp [h1,h2],rfl⟩)
end
variable {r:Nat}
variable {L':List UInt8}
section
def dgt (x:Nat):UInt8:=UInt8.ofNat (48+x)
theorem Qdr:∀ {x:Nat},x<10->dgt x=48->x=0:=by decide
def six (r:Nat):List UInt8:=[dgt (r / 100000 % 10),dgt (r / 10000 % 10),dgt (r / 1000 % 10),dgt (r / 100 % 10),dgt (r / 10 % 10),dgt (r % 10)]
theorem dec7 (h:r<1000000):Lib.decDigits (1000000+r)=49 :: six r:=by
 have st:∀ a b:Nat,1<=a->Lib.decDigits (10*a+b)=Lib.decDigits (a+b / 10) ++ [dgt (b % 10)]:=fun a b ha=>by
  rw [QdL (by omega),show (10*a+b) / 10=a+b / 10 by omega,show (10*a+b) % 10=b % 10 by omega];rfl
 rw [show 1000000+r=10*100000+r by omega,st _ _ (by omega),show 100000+r / 10=10*10000+r / 10 by omega,st _ _ (by omega),Nat.div_div_eq_div_mul,
  show 10000+r / (10*10)=10*1000+r / 100 by omega,st _ _ (by omega),Nat.div_div_eq_div_mul,
  show 1000+r / (100*10)=10*100+r / 1000 by omega,st _ _ (by omega),Nat.div_div_eq_div_mul,
  show 100+r / (1000*10)=10*10+r / 10000 by omega,st _ _ (by omega),Nat.div_div_eq_div_mul,
  show 10+r / (10000*10)=10*1+r / 100000 by omega,st _ _ (by omega),Nat.div_div_eq_div_mul,
  show 1+r / (100000*10)=1 by omega,Lib.decDigits_one (by omega)]
 rfl
theorem Qq9 (h:r<1000000) (h0:r≠0):∃ x∈six r,x≠48:=by
 refine Classical.byContradiction fun hn=>h0 ?_;have aa:∀ x∈six r,x=48:=fun x hx=>Classical.byContradiction fun hne=>hn ⟨x,hx,hne⟩;have a1:=Qdr (Nat.mod_lt _ (by omega)) (aa (dgt (r / 100000 % 10)) (by simp [six]));have a2:=Qdr (Nat.mod_lt _ (by omega)) (aa (dgt (r / 10000 % 10)) (by simp [six]));have a3:=Qdr (Nat.mod_lt _ (by omega)) (aa (dgt (r / 1000 % 10)) (by simp [six]));have a4:=Qdr (Nat.mod_lt _ (by omega)) (aa (dgt (r / 100 % 10)) (by simp [six]));have a5:=Qdr (Nat.mod_lt _ (by omega)) (aa (dgt (r / 10 % 10)) (by simp [six]));have a6:=Qdr (Nat.mod_lt _ (by omega)) (aa (dgt (r % 10)) (by simp [six]));omega
theorem QhY (L:List UInt8) (c:UInt8):Lib.trimRightB (L ++ [c]) c=Lib.trimRightB L c:=by
 unfold Lib.trimRightB;rw [List.reverse_append];simp
theorem QgC (L:List UInt8) (x c:UInt8) (h:x≠c):Lib.trimRightB (L ++ [x]) c=L ++ [x]:=by
 unfold Lib.trimRightB;rw [List.reverse_append];simp [h]
def TrR (r:Nat) (L:List UInt8):Prop:=Lib.trimRightB L 48=Lib.trimRightB (six r) 48/\(∃ x∈L,x≠48)/\L.length<=6
theorem QlB {L:List UInt8} (h:TrR r L):∃ L' x,L=L' ++ [x]:=by
 rcases List.eq_nil_or_concat L with e | ⟨L',x,e⟩
 ·obtain ⟨x,hx,_⟩:=h.2.1;rw [e] at hx;cases hx
 ·exact ⟨L',x,by rw [e,List.concat_eq_append]⟩
theorem Qk8 (h:TrR r (L' ++ [48])):TrR r L':=by
 refine ⟨by rw [<- h.1,QhY],?_,by have:=h.2.2;simp at this;omega⟩;obtain ⟨x,hx,aa⟩:=h.2.1;rcases List.mem_append.1 hx with k | k
 ·exact ⟨x,k,aa⟩
 ·exact absurd (List.mem_singleton.1 k) aa
theorem Qo0 {x:UInt8} (h:TrR r (L' ++ [x])) (hx:x≠48):Lib.trimRightB (six r) 48=L' ++ [x]:=by
 rw [<- h.1,QgC _ _ _ hx]
theorem QiF (h:r<1000000) (h0:r≠0):TrR r (six r):=⟨rfl,Qq9 h h0,ZZa _⟩
def ptx (r:Nat):ByteArray:=⟨(Lib.trimRightB (six r) 48).toArray⟩
def dtx (n:Nat):ByteArray:=⟨(Lib.decDigits n).toArray⟩
theorem QrI (r:Nat):(ptx r).size<=6:=by
 show (Lib.trimRightB (six r) 48).length<=6
 unfold Lib.trimRightB;rw [List.length_reverse];have h:=(List.dropWhile_sublist (fun x:UInt8=>x == 48) (l:=(six r).reverse)).length_le;rw [List.length_reverse] at h;exact h
theorem QhE (n:Nat) (h:n<=9223372036854775807):(dtx n).size<=21:=Qpc n h
def sgx (v:Int):ByteArray:=if v<0 then ⟨#[45]⟩ else ⟨#[]⟩
def vtx (v:Int):ByteArray:=
 if -999999999999999999<=v/\v<=999999999999999999 then (if v.natAbs % 1000000=0 then sgx v ++ dtx (v.natAbs / 1000000) else sgx v ++ dtx (v.natAbs / 1000000) ++ ⟨#[46]⟩ ++ ptx (v.natAbs % 1000000)) else ⟨#[]⟩
theorem tail7 (h:r<1000000):(dtx (1000000+r)).extract 1 (dtx (1000000+r)).size=⟨(six r).toArray⟩:=by
 rw [Lib.extract_from];unfold dtx;rw [dec7 h];rfl
end
section
theorem Qaf {a b:ByteArray} (h:a.size+b.size<=1000000):Op.stringOp .add a b=pure (.string (a ++ b)):=by
 unfold Op.stringOp
 have:¬ (((a.size+b.size:Nat):Int) > IntKind.i64.max):=by
  have e:IntKind.i64.max=9223372036854775807:=by decide
  rw [e];omega
 simp only;rw [if_neg this]
def whX (k v:Int) (wd:ByteArray):ByteArray:=if k=4 then wd else vtx v
def ltX (k:Int):ByteArray:=if k=1 then ⟨#[99]⟩ else if k=2 then ⟨#[103]⟩ else if k=3 then ⟨#[104]⟩ else ⟨#[115]⟩
def lnA (nm:ByteArray) (k v:Int) (wd:ByteArray):ByteArray:=nm ++ ⟨#[58]⟩ ++ whX k v wd ++ ⟨#[124]⟩ ++ ltX k
def lnB (a:ByteArray) (wt:Int):ByteArray:=if 1<wt then a ++ (⟨#[124,64]⟩ ++ vtx (1000000 / wt)) else a
def lnC (b:ByteArray) (K:List ByteArray):ByteArray:=if K.length=0 then b else b ++ (⟨#[124,35]⟩ ++ ⟨(Qb1 K).toArray⟩)
def lnD (c:ByteArray) (tm:Bool) (ti:Int):ByteArray:=if tm=true then c ++ (⟨#[124,84]⟩ ++ dtx ti.toNat) else c
def lnX (nm:ByteArray) (K:List ByteArray) (k v:Int) (wd:ByteArray) (wt:Int) (tm:Bool) (ti:Int):ByteArray:=lnD (lnC (lnB (lnA nm k v wd) wt) K) tm ti
structure LxO (nm:ByteArray) (K:List ByteArray) (k v:Int) (wd:ByteArray) (wt ti:Int):Prop where
 n:K.length<=8
 nm:nm.size<=40
 K:∀ x∈K,x.size<=20
 k:k=1∨k=2∨k=3∨k=4
 v:-999999999999999999<=v/\v<=999999999999999999
 wd:wd.size<=40
 wt:1<=wt/\wt<=1000000
 ti:0<=ti/\ti<=1000000000
end
section
def pdx (r:Nat):ByteArray:=if r=0 then ⟨#[]⟩ else ⟨#[46]⟩ ++ ptx r
theorem QtC (A:ByteArray) (r:Nat):A ++ pdx r=(if r=0 then A else A ++ ⟨#[46]⟩ ++ ptx r):=by
 unfold pdx;split
 ·apply ByteArray.ext;rw [ByteArray.data_append];simp
 ·rw [ByteArray.append_assoc]
theorem vtx_at {v:Int} {n:Nat} (hv:-999999999999999999<=v/\v<=999999999999999999) (hn:n=v.natAbs):sgx v ++ dtx (n / 1000000) ++ pdx (n % 1000000)=vtx v:=by
 unfold vtx;rw [if_pos hv,QtC,hn]
end
section
end
section
def eqL (s:Sm) (k:Int) (se:ByteArray) (v:Int) (wd:ByteArray) (wt:Int) (tm:Bool) (ti:Int):Bool:=(s.k == k) && ((s.se.toList == se.toList) && ((s.va == v) && ((s.wd.toList == wd.toList) && ((s.wt == wt) && ((s.td == tm) && (((s.ti:Int) == ti) && (s.c == 0)))))))
def TxR (t:ByteArray) (k:Int) (se:ByteArray) (v:Int) (wd:ByteArray) (wt:Int) (tm:Bool) (ti:Int) (r:ByteArray):Prop:=∃ s,LnR t s/\r=if eqL s k se v wd wt tm ti=true then t else ⟨#[]⟩
def LxA (k:Int) (se:ByteArray) (v:Int) (wd:ByteArray) (wt:Int) (tm:Bool) (ti:Int) (r:ByteArray):Prop:=(Qlt k se v wd wt tm ti=false/\r=⟨#[]⟩)∨(Qlt k se v wd wt tm ti=true/\∃ nm K,QkB se nm K/\TxR (lnX nm K k v wd wt tm ti) k se v wd wt tm ti r)
end
section
theorem Ql2 (N:Nat) (hN:N<=9223372036854775807) (w:World) :
  Calls prog 28 #[.int .i64 N] w fun e w'=>e=.returned (.string (dtx N))/\Below w.heap.size w w':=by
 by_cases h:N=0
 ·subst h
  have HE:Hid (⟨#[48]⟩=dtx 0):=(by unfold dtx;rw [Lib.decDigits_one (by omega)];rfl:⟨#[48]⟩=dtx 0);go_enter func28,ntmps28;go_wp2;go_ret;exact ⟨Qcy HE,ZZb _ _⟩
 ·exact Qe7 N h hN w
theorem QfZ (z:Int) (h0:0<=z) (h1:z<=9223372036854775807) (w:World) :
  Calls prog 28 #[.int .i64 z] w fun e w'=>e=.returned (.string (dtx z.toNat))/\Below w.heap.size w w':=by
 have:=Ql2 z.toNat (by omega) w
 rwa [Int.toNat_of_nonneg h0] at this
theorem Qs1 (v a b:Int) (w:World) :
  Calls prog 18 #[.int .i64 v,.int .i64 a,.int .i64 b] w fun e w'=>e=.returned (.bool (decide (a<=v) && decide (v<=b)))/\w'=w:=by
 by_cases h1:a<=v <;> by_cases h2:v<=b <;> (go_enter func18,ntmps18;go_wp2;go_ret;exact ⟨by simp [h1,h2],rfl⟩)
theorem QgX (v:Int) (w:World) :
  Calls prog 84 #[.int .i64 v] w fun e w'=>e=.returned (.bool (decide (-999999999999999999<=v) && decide (v<=999999999999999999)))/\w'=w:=by
 go_enter func84,ntmps84;go_wp2_with (go_at_call 18;refine (Qs1 _ _ _ _).mono ?_;rintro e w1 ⟨rfl,hw⟩;obtain rfl:=hw.symm);go_ret;exact ⟨rfl,rfl⟩
theorem QeG (v:Int) (h:¬ (-999999999999999999<=v/\v<=999999999999999999)) (w:World) :
  Calls prog 34 #[.int .i64 v] w fun e w'=>e=.returned (.string (vtx v))/\Below w.heap.size w w':=by
 have HE:Hid (⟨#[]⟩=vtx v):=(by unfold vtx;rw [if_neg h]:⟨#[]⟩=vtx v)
 have HC:Hid (∀ w,Calls prog 84 #[.int .i64 v] w fun e w'=>e=.returned (.bool false)/\w'=w):=fun w=>by
  have:=QgX v w
  rwa [show (decide (-999999999999999999<=v) && decide (v<=999999999999999999))=false by
   cases h':(decide (-999999999999999999<=v) && decide (v<=999999999999999999)) with
   | false=>rfl
   | true=>exact absurd ⟨of_decide_eq_true (Bool.and_eq_true_iff.1 h').1,of_decide_eq_true (Bool.and_eq_true_iff.1 h').2⟩ h] at this
 clear h;go_enter func34,ntmps34;go_wp2_with (go_at_call 84;refine (HC.out _).mono ?_;rintro e w1 ⟨rfl,hw⟩;obtain rfl:=hw.symm);go_ret;exact ⟨Qcy HE,ZZb _ _⟩
theorem QoI (L:List UInt8) (x:UInt8):bt ⟨(L ++ [x]).toArray⟩ L.length=(x.toNat:Int):=by
 unfold bt;rw [dif_pos (show L.length<ByteArray.size ⟨(L ++ [x]).toArray⟩ by show L.length<(L ++ [x]).length;simp)]
 show (((L ++ [x]).toArray[L.length]'_).toNat:Int)=_
 simp
theorem Ql5 (L:List UInt8) (x:UInt8):(⟨(L ++ [x]).toArray⟩:ByteArray).extract 0 L.length=⟨L.toArray⟩:=by
 rw [Lib.extract_upto];simp
def strSz:Value->Nat
 | .string s=>s.size
 | _=>0
theorem Qfe (v:Int) (h:-999999999999999999<=v/\v<=999999999999999999) (w:World) :
  Calls prog 34 #[.int .i64 v] w fun e w'=>e=.returned (.string (vtx v))/\Below w.heap.size w w':=by
 obtain ⟨n,hn⟩:∃ n,n=v.natAbs:=⟨_,rfl⟩;obtain ⟨q,hq⟩:∃ q,q=n / 1000000:=⟨_,rfl⟩;obtain ⟨r,hr⟩:∃ r,r=n % 1000000:=⟨_,rfl⟩;have ae:r<1000000:=by omega
 have af:q<=9223372036854775807:=by omega
 have HE:Hid (sgx v ++ dtx q ++ pdx r=vtx v):=(by rw [hq,hr];exact vtx_at h hn:sgx v ++ dtx q ++ pdx r=vtx v);have e1:Int.tdiv (n:Int) 1000000=(q:Int):=by rw [hq];rfl
 have e2:Int.tmod (n:Int) 1000000=(r:Int):=by rw [hr];rfl
 have hd:=QhE q af
 have HC:Hid (∀ w,Calls prog 84 #[.int .i64 v] w fun e w'=>e=.returned (.bool true)/\w'=w):=fun w=>by
  have:=QgX v w
  rwa [ZZh h.1,ZZh h.2] at this
 have HQ:Hid (∀ w,Calls prog 28 #[.int .i64 (q:Int)] w fun e w'=>e=.returned (.string (dtx q))/\Below w.heap.size w w'):=fun w=>Ql2 q af w;by_cases hv:v<0
 ·have ak:v=-(n:Int):=by omega
  obtain ⟨v0,ab⟩:∃ v0,v0=v:=⟨_,rfl⟩;have HS:Hid (sgx v0=⟨#[45]⟩):=(by rw [ab];exact if_pos hv:sgx v0=⟨#[45]⟩);rw [<- ab] at HE;clear hq hr hn;subst ak;have HV:Hid (v0=-(n:Int)):=ab;have HG:Hid (vtx v0=vtx (-(n:Int))):=(by rw [ab]:vtx v0=vtx (-(n:Int)));rw [<- HG.out];clear ab
  ·by_cases hz:r=0
   ·have HZ:Hid (pdx r=⟨#[]⟩):=(by unfold pdx;rw [if_pos hz]:pdx r=⟨#[]⟩)
    have aj:((r:Int) == 0)=true:=by simp [hz]
    have HA:Hid (⟨#[45]⟩ ++ dtx q=vtx v0):=(by rw [<- HE.out,HZ.out,HS.out];apply ByteArray.ext;rw [ByteArray.data_append];simp:⟨#[45]⟩ ++ dtx q=vtx v0);clear hz;go_enter func34,ntmps34
    go_wp2_with (first
     | (go_at_call 84;refine (HC.out _).mono ?_;rintro e w0 ⟨rfl,hw⟩;obtain rfl:=hw.symm)
     | (go_at_call 28;refine (HQ.out _).mono ?_;rintro e w1 ⟨rfl,ac⟩))
    go_ret;exact ⟨Qcy HA,ac⟩
   ·have HZ:Hid (pdx r=⟨#[46]⟩ ++ ptx r):=(by unfold pdx;rw [if_neg hz]:pdx r=⟨#[46]⟩ ++ ptx r)
    have aj:((r:Int) == 0)=false:=ZZf.2 (by omega);have HA:Hid (⟨#[45]⟩ ++ dtx q ++ ⟨#[46]⟩ ++ ptx r=vtx v0):=(by rw [<- HE.out,HZ.out,HS.out,ByteArray.append_assoc]:⟨#[45]⟩ ++ dtx q ++ ⟨#[46]⟩ ++ ptx r=vtx v0);have HT:Hid (TrR r (six r)):=QiF ae hz;have hx:(dtx (1000000+r)).extract 1 (dtx (1000000+r)).size=⟨(six r).toArray⟩:=tail7 ae;obtain ⟨S,hS⟩:∃ S,S=dtx (1000000+r):=⟨_,rfl⟩;have al:S.size=7:=by rw [hS];show (Lib.decDigits (1000000+r)).length=7;rw [dec7 ae];rfl
    have ao:dtx (1000000+(r:Int)).toNat=S:=by rw [hS];congr 1
    have au:(0:Int)<=(q:Int):=by omega
    have ar:(q:Int)<=9223372036854775807:=by omega
    have ap:dtx ((q:Int)).toNat=dtx q:=rfl;rw [<- hS,al] at hx;clear hz hS;have hB:Below w.heap.size w w:=ZZb _ _;go_enter func34,ntmps34
    go_wp2_with (first
     | (go_at_call 84;refine (HC.out _).mono ?_;rintro e w0 ⟨rfl,hw⟩;obtain rfl:=hw.symm)
     | (go_at_call 28;refine (QfZ _ (by omega) (by omega) _).mono ?_;rintro e w1 ⟨rfl,ac⟩;have hB:=hB.trans (ac.mono hB.size)))
    go_loopw [5] (fun d wr=>wr=w1/\∃ L,d=.string ⟨L.toArray⟩/\TrR r L) (fun d wr=>strSz d)
    case atStart=>exact ⟨rfl,six r,rfl,HT⟩
    case round=>
     obtain ⟨ah,L,rfl,hR⟩:=hrel;subst ah;obtain ⟨L',x,rfl⟩:=QlB hR;obtain ⟨D,hD⟩:∃ D,D=(⟨(L' ++ [x]).toArray⟩:ByteArray):=⟨_,rfl⟩;have aq:=get_bt D;have ag:D.size=L'.length+1:=by rw [hD];show (L' ++ [x]).length=_;simp
     have ad:bt D L'.length=(x.toNat:Int):=by rw [hD];exact QoI L' x
     have am:D.extract 0 L'.length=⟨L'.toArray⟩:=by rw [hD];exact Ql5 L' x
     have ai:L'.length+1<=6:=by have:=hR.2.2;simpa using this
     rw [<- hD];obtain ⟨m,hm⟩:∃ m,m=L'.length:=⟨_,rfl⟩;rw [<- hm] at ag ad am ai;by_cases aa:x=48
     ·have HR:Hid (TrR r L'):=Qk8 (by rw [aa] at hR;exact hR)
      have an:(bt D m == 48)=true:=by rw [ad,aa];rfl
      have HM:Hid (L'.length<D.size):=(by omega:L'.length<D.size);clear hR aa hD hm;go_wp2;go_roundw
      case rel=>exact ⟨trivial,L',rfl,HR⟩
      case measure=>exact HM.out
     ·have HR:Hid (ptx r=D):=(by rw [hD];unfold ptx;rw [Qo0 hR aa]:ptx r=D)
      have an:(bt D m == 48)=false:=ZZf.2 (by
       rw [ad];intro e;apply aa;apply UInt8.toNat_inj.1;have:(48:UInt8).toNat=48:=rfl;omega)
      clear hR aa hD hm;go_wp2;go_ret;exact ⟨Qcy (by rw [<- HA.out,HR.out]),hB⟩
 ·have ak:v=(n:Int):=by omega
  obtain ⟨v0,ab⟩:∃ v0,v0=v:=⟨_,rfl⟩;have HS:Hid (sgx v0=⟨#[]⟩):=(by rw [ab];exact if_neg hv:sgx v0=⟨#[]⟩);rw [<- ab] at HE;clear hq hr hn;subst ak;have HV:Hid (v0=(n:Int)):=ab;have HG:Hid (vtx v0=vtx (n:Int)):=(by rw [ab]:vtx v0=vtx (n:Int));rw [<- HG.out];clear ab
  ·by_cases hz:r=0
   ·have HZ:Hid (pdx r=⟨#[]⟩):=(by unfold pdx;rw [if_pos hz]:pdx r=⟨#[]⟩)
    have aj:((r:Int) == 0)=true:=by simp [hz]
    have HA:Hid (⟨#[]⟩ ++ dtx q=vtx v0):=(by rw [<- HE.out,HZ.out,HS.out];apply ByteArray.ext;rw [ByteArray.data_append];simp:⟨#[]⟩ ++ dtx q=vtx v0);clear hz;go_enter func34,ntmps34
    go_wp2_with (first
     | (go_at_call 84;refine (HC.out _).mono ?_;rintro e w0 ⟨rfl,hw⟩;obtain rfl:=hw.symm)
     | (go_at_call 28;refine (HQ.out _).mono ?_;rintro e w1 ⟨rfl,ac⟩))
    go_ret;exact ⟨Qcy HA,ac⟩
   ·have HZ:Hid (pdx r=⟨#[46]⟩ ++ ptx r):=(by unfold pdx;rw [if_neg hz]:pdx r=⟨#[46]⟩ ++ ptx r)
    have aj:((r:Int) == 0)=false:=ZZf.2 (by omega);have HA:Hid (⟨#[]⟩ ++ dtx q ++ ⟨#[46]⟩ ++ ptx r=vtx v0):=(by rw [<- HE.out,HZ.out,HS.out,ByteArray.append_assoc]:⟨#[]⟩ ++ dtx q ++ ⟨#[46]⟩ ++ ptx r=vtx v0);have HT:Hid (TrR r (six r)):=QiF ae hz;have hx:(dtx (1000000+r)).extract 1 (dtx (1000000+r)).size=⟨(six r).toArray⟩:=tail7 ae;obtain ⟨S,hS⟩:∃ S,S=dtx (1000000+r):=⟨_,rfl⟩;have al:S.size=7:=by rw [hS];show (Lib.decDigits (1000000+r)).length=7;rw [dec7 ae];rfl
    have ao:dtx (1000000+(r:Int)).toNat=S:=by rw [hS];congr 1
    have au:(0:Int)<=(q:Int):=by omega
    have ar:(q:Int)<=9223372036854775807:=by omega
    have ap:dtx ((q:Int)).toNat=dtx q:=rfl;rw [<- hS,al] at hx;clear hz hS;have hB:Below w.heap.size w w:=ZZb _ _;go_enter func34,ntmps34
    go_wp2_with (first
     | (go_at_call 84;refine (HC.out _).mono ?_;rintro e w0 ⟨rfl,hw⟩;obtain rfl:=hw.symm)
     | (go_at_call 28;refine (QfZ _ (by omega) (by omega) _).mono ?_;rintro e w1 ⟨rfl,ac⟩;have hB:=hB.trans (ac.mono hB.size)))
    go_loopw [5] (fun d wr=>wr=w1/\∃ L,d=.string ⟨L.toArray⟩/\TrR r L) (fun d wr=>strSz d)
    case atStart=>exact ⟨rfl,six r,rfl,HT⟩
    case round=>
     obtain ⟨ah,L,rfl,hR⟩:=hrel;subst ah;obtain ⟨L',x,rfl⟩:=QlB hR;obtain ⟨D,hD⟩:∃ D,D=(⟨(L' ++ [x]).toArray⟩:ByteArray):=⟨_,rfl⟩;have aq:=get_bt D;have ag:D.size=L'.length+1:=by rw [hD];show (L' ++ [x]).length=_;simp
     have ad:bt D L'.length=(x.toNat:Int):=by rw [hD];exact QoI L' x
     have am:D.extract 0 L'.length=⟨L'.toArray⟩:=by rw [hD];exact Ql5 L' x
     have ai:L'.length+1<=6:=by have:=hR.2.2;simpa using this
     rw [<- hD];obtain ⟨m,hm⟩:∃ m,m=L'.length:=⟨_,rfl⟩;rw [<- hm] at ag ad am ai;by_cases aa:x=48
     ·have HR:Hid (TrR r L'):=Qk8 (by rw [aa] at hR;exact hR)
      have an:(bt D m == 48)=true:=by rw [ad,aa];rfl
      have HM:Hid (L'.length<D.size):=(by omega:L'.length<D.size);clear hR aa hD hm;go_wp2;go_roundw
      case rel=>exact ⟨trivial,L',rfl,HR⟩
      case measure=>exact HM.out
     ·have HR:Hid (ptx r=D):=(by rw [hD];unfold ptx;rw [Qo0 hR aa]:ptx r=D)
      have an:(bt D m == 48)=false:=ZZf.2 (by
       rw [ad];intro e;apply aa;apply UInt8.toNat_inj.1;have:(48:UInt8).toNat=48:=rfl;omega)
      clear hR aa hD hm;go_wp2;go_ret;exact ⟨Qcy (by rw [<- HA.out,HR.out]),hB⟩
theorem QhD (v:Int) (w:World) :
  Calls prog 34 #[.int .i64 v] w fun e w'=>e=.returned (.string (vtx v))/\Below w.heap.size w w':=by
 by_cases h:-999999999999999999<=v/\v<=999999999999999999
 ·exact Qfe v h w
 ·exact QeG v h w
end
section
def lnP (b:ByteArray) (K:List ByteArray) (i:Nat):ByteArray:=if i=0 then b else b ++ (⟨#[124,35]⟩ ++ ⟨(Qb1 (K.take i)).toArray⟩)
end
section
end
end Go.Proofs.YtdbaabbmcfnjbaaGreatDoor
