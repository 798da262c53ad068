/-
 Parts.
-/
import Derived.Test.YtdbaabbmcfnjbaaGreatDoorDJB
set_option maxHeartbeats 4000000
set_option linter.all false
namespace Go.Proofs.YtdbaabbmcfnjbaaGreatDoor
open Go.ChangeShapes Go.WideShapes Go.ChangeAt Go.RowKit Go.PlainAid Go.Lib Tryz
def QcZ (v:Nat):Nat:=if h:v<256 then v else 128+QcZ (v / 2)
termination_by v
decreasing_by omega
def QgJ (a:Nat):Nat:=if h:a<256 then a else 2*QgJ (a - 128)
termination_by a
decreasing_by omega
variable {k nc nn pc pn v:Nat}
theorem QdP (h:v<256):QcZ v=v:=by rw [QcZ,dif_pos h]
theorem Qdd (h:¬ v<256):QcZ v=128+QcZ (v / 2):=by rw [QcZ,dif_neg h]
theorem Qj1 (h:v<256):QgJ v=v:=by rw [QgJ,dif_pos h]
theorem QoE (h:¬ v<256):QgJ v=2*QgJ (v - 128):=by rw [QgJ,dif_neg h]
theorem QjZ (v:Nat):QcZ v<=v:=by
  induction v using Nat.strongRecOn with
  | ind v ih=>
    by_cases h:v<256
    · rw [QdP h];exact Nat.le_refl _
    · rw [Qdd h];have:=ih (v / 2) (by omega);omega
theorem Qjo (v:Nat):∀ w,v<=w->QcZ v<=QcZ w:=by
  induction v using Nat.strongRecOn with
  | ind v ih=>
    intro w hw;by_cases h:v<256
    · rw [QdP h]
      by_cases k:w<256
      · rw [QdP k];exact hw
      · have g:∀ x,128<=x->128<=QcZ x:=by
          intro x
          induction x using Nat.strongRecOn with
          | ind x ix=>
            intro hx;by_cases z:x<256
            · rw [QdP z];exact hx
            · rw [Qdd z];omega
        rw [Qdd k];have:=g (w / 2) (by omega);omega
    · rw [Qdd h,Qdd (v:=w) (by omega)]
      have:=ih (v / 2) (by omega) (w / 2) (by omega);omega
theorem Qlo:QcZ 999999999999999999=6878:=by simp [QcZ]
theorem Qu8 (h:v<=999999999999999999):QcZ v<=6878:=by have:=Qjo v _ h;rwa [Qlo] at this
theorem Qm2 (a:Nat):QcZ (QgJ a)=a:=by
  induction a using Nat.strongRecOn with
  | ind a ih=>
    by_cases h:a<256
    · rw [Qj1 h,QdP h]
    · have g:128<=QgJ (a - 128):=by
        have:=QjZ (QgJ (a - 128));rw [ih (a - 128) (by omega)] at this;omega
      rw [QoE h,Qdd (by omega),show 2*QgJ (a - 128) / 2=QgJ (a - 128) by omega,ih (a - 128) (by omega)];omega
theorem Qnn (e m:Nat) (h:128<=m) (h2:m<256):m*2 ^ e=QgJ (128*e+m):=by
  induction e with
  | zero=>rw [Qj1 (by omega)];simp
  | succ n ih=>rw [QoE (by omega),show 128*(n+1)+m - 128=128*n+m by omega,<- ih,Nat.pow_succ];generalize 2 ^ n=p;rw [Nat.mul_comm p 2,<- Nat.mul_assoc,<- Nat.mul_assoc,Nat.mul_comm m 2]
theorem Qqs (a b:Nat) (h:a<=b):QgJ a<=QgJ b:=by
  rcases Nat.lt_or_ge (QgJ b) (QgJ a) with k | k
  · have:=Qjo _ _ (Nat.le_of_lt k)
    rw [Qm2,Qm2] at this;have e:a=b:=by omega
    rw [e];exact Nat.le_refl _
  · exact k
theorem QsO (a:Nat) (h:a<=7000):QgJ a<=2305843009213693952:=by
  have h1:=Qqs a 7000 h;have h2:QgJ 7000<=2305843009213693952:=by simp [QgJ]
  omega
def Qc7 (v:Int):Int:=if 1<=v/\v<=999999999999999999 then (QcZ v.toNat:Int) else 0
def QjR (a:Int):Int:=if 1<=a/\a<=7000 then (QgJ a.toNat:Int) else 0
theorem QhK (v:Int):0<=Qc7 v/\Qc7 v<=6878:=by
  unfold Qc7
  split
  · have:=Qu8 (v:=v.toNat) (by omega);omega
  · omega
theorem QuH (v:Int):0<=QjR v/\QjR v<=2305843009213693952:=by
  unfold QjR
  split
  · have:=QsO v.toNat (by omega);omega
  · omega
theorem Qfq {v:Int} (h:1<=v) (h2:v<=999999999999999999):Qc7 v=(QcZ v.toNat:Int):=if_pos ⟨h,h2⟩
theorem Qow {v:Int} (h:¬ (1<=v/\v<=999999999999999999)):Qc7 v=0:=if_neg h
theorem Ql6 {v:Int} (h:1<=v) (h2:v<=7000):QjR v=(QgJ v.toNat:Int):=if_pos ⟨h,h2⟩
theorem Qs4 {v:Int} (h:¬ (1<=v/\v<=7000)):QjR v=0:=if_neg h
theorem Qry {a z:Nat} (h:256<=a) (h7:(a:Int)<=7000) (h0:2<=z) (h1:128*z<=a) (h2:a<=128*z+127):wrap64 (((a:Int) - 128*((z:Int) - 1))*2 ^ (z - 1))=QjR a:=by
  have e:=Qnn (z - 1) (a - 128*(z - 1)) (by omega) (by omega);rw [show 128*(z - 1)+(a - 128*(z - 1))=a by omega] at e;have l:=QsO a (by omega);rw [Ql6 (by omega) h7,Int.toNat_natCast,<- e];rw [<- e] at l
  have c:((a:Int) - 128*((z:Int) - 1))*2 ^ (z - 1)=(((a - 128*(z - 1))*2 ^ (z - 1):Nat):Int):=by
    rw [Int.natCast_mul,Int.natCast_pow,show ((a - 128*(z - 1):Nat):Int)=(a:Int) - 128*((z:Int) - 1) by omega];rfl
  rw [c];generalize (a - 128*(z - 1))*2 ^ (z - 1)=n at l;unfold wrap64;omega
set_option maxRecDepth 10000
variable {a b:Int}
theorem Qek (h:a=b):Ending.returned (.int .i64 a)=.returned (.int .i64 b):=by rw [h]
theorem Qd7 (n a b:Int) (w:World) (hn:I64 n) (ha:I64 a) (hb:I64 b) :
    Calls prog 18 #[.int .i64 n,.int .i64 a,.int .i64 b] w fun e w'=>e=.returned (.bool (decide (a<=n/\n<=b)))/\w'=w:=by
  unfold I64 at hn ha hb;by_cases h1:a<=n
  · by_cases h2:n<=b
    · have e:decide (a<=n/\n<=b)=true:=decide_eq_true ⟨h1,h2⟩
      rw [e];go_enter func18,ntmps18;go_wp2;go_ret;exact ⟨rfl,rfl⟩
    · have e:decide (a<=n/\n<=b)=false:=decide_eq_false (fun h=>h2 h.2)
      rw [e];go_enter func18,ntmps18;go_wp2;go_ret;exact ⟨rfl,rfl⟩
  · have e:decide (a<=n/\n<=b)=false:=decide_eq_false (fun h=>h1 h.1)
    rw [e];go_enter func18,ntmps18;go_wp2;go_ret;exact ⟨rfl,rfl⟩
theorem QbP (v:Int) (w:World) (hv:I64 v) :
    Calls prog 175 #[.int .i64 v] w fun e w'=>e=.returned (.int .i64 (Qc7 v))/\w'=w:=by
  have aa:=hv;unfold I64 at hv;by_cases h:1<=v/\v<=999999999999999999
  · have e1:decide (1<=v/\v<=999999999999999999)=true:=decide_eq_true h
    have HB:Hid (Qc7 v=(QcZ v.toNat:Int)):=Qfq h.1 h.2;have HL:Hid (QcZ v.toNat<=v.toNat):=QjZ _;obtain ⟨h1,h2⟩:=h;go_enter func175,ntmps175;go_wp2_with (go_at_call 18;refine (Qd7 _ _ _ _ aa (by unfold I64;omega) (by unfold I64;omega)).mono ?_;rintro e w1 ⟨rfl,rfl⟩;rw [e1]);clear e1
    go_loop [0,3] (fun x i=>∃ y k:Nat,x=.int .i64 y/\i=.int .i64 k/\1<=y/\y<=999999999999999999/\Hid (128*k+QcZ y=QcZ v.toNat)) (fun x i=>(Go.RowKit.intOf x).toNat)
    case atStart=>exact ⟨v.toNat,0,by rw [Int.toNat_of_nonneg (by omega)],rfl,by omega,by omega,(by omega:128*0+QcZ v.toNat=QcZ v.toNat)⟩
    case round=>
      obtain ⟨y,k,rfl,rfl,hy,ab,HR⟩:=hrel;have hk:k<=999999999999999999:=by have:=HR.out;have:=HL.out;omega
      obtain ⟨z,hz,ad,ac⟩:∃ z:Nat,Hid (y / 2=z)/\2*z<=y/\y<=2*z+1:=⟨y / 2,(rfl:y / 2=y / 2),by omega,by omega⟩;have hd:Int.tdiv (y:Int) 2=(z:Int):=by rw [<- hz.out];rfl
      by_cases ae:(y:Int)<256
      · have HF:Hid ((128*(k:Int)+(y:Int))=Qc7 v):=by
          refine (?_:(128*(k:Int)+(y:Int))=Qc7 v);rw [HB.out,<- HR.out,QdP (by omega)];omega
        have h9:128*k<=999999999999999999:=by have:=HR.out;have:=HL.out;omega
        go_wp2;go_ret;exact ⟨Qek HF,rfl⟩
      · have HN:Hid (128*(k+1)+QcZ z=QcZ v.toNat):=by
          refine (?_:128*(k+1)+QcZ z=QcZ v.toNat);rw [<- HR.out,Qdd (v:=y) (by omega),hz.out];omega
        go_wp2
        go_round
        case rel=>exact ⟨z,k+1,by rfl,by go_num,by omega,by omega,HN⟩
        case measure=>simp [Go.RowKit.intOf];omega
  · have e1:decide (1<=v/\v<=999999999999999999)=false:=decide_eq_false h
    have HB:Hid (0=Qc7 v):=(Qow h).symm;clear h;go_enter func175,ntmps175;go_wp2_with (go_at_call 18;refine (Qd7 _ _ _ _ aa (by unfold I64;omega) (by unfold I64;omega)).mono ?_;rintro e w1 ⟨rfl,rfl⟩;rw [e1]);go_ret;exact ⟨Qek HB,rfl⟩
theorem Qea (v:Int) (w:World) (hv:I64 v) :
    Calls prog 350 #[.int .i64 v] w fun e w'=>e=.returned (.int .i64 (Qc7 v))/\w'=w:=by
  have ac:=hv;unfold I64 at hv;by_cases h:1<=v/\v<=999999999999999999
  · have HB:Hid (Qc7 v=(QcZ v.toNat:Int)):=Qfq h.1 h.2
    have HL:Hid (QcZ v.toNat<=v.toNat):=QjZ _;obtain ⟨h1,h2⟩:=h;go_enter func350,ntmps350;go_wp2
    go_loop [0,3] (fun x i=>∃ y k:Nat,x=.int .i64 y/\i=.int .i64 k/\1<=y/\y<=999999999999999999/\Hid (128*k+QcZ y=QcZ v.toNat)) (fun x i=>(Go.RowKit.intOf x).toNat)
    case atStart=>exact ⟨v.toNat,0,by rw [Int.toNat_of_nonneg (by omega)],rfl,by omega,by omega,(by omega:128*0+QcZ v.toNat=QcZ v.toNat)⟩
    case round=>
      obtain ⟨y,k,rfl,rfl,hy,aa,HR⟩:=hrel;have hk:k<=999999999999999999:=by have:=HR.out;have:=HL.out;omega
      obtain ⟨z,hz,ad,ab⟩:∃ z:Nat,Hid (y / 2=z)/\2*z<=y/\y<=2*z+1:=⟨y / 2,(rfl:y / 2=y / 2),by omega,by omega⟩;have hd:Int.tdiv (y:Int) 2=(z:Int):=by rw [<- hz.out];rfl
      by_cases ae:(y:Int)<256
      · have HF:Hid ((128*(k:Int)+(y:Int))=Qc7 v):=by
          refine (?_:(128*(k:Int)+(y:Int))=Qc7 v);rw [HB.out,<- HR.out,QdP (by omega)];omega
        have h9:128*k<=999999999999999999:=by have:=HR.out;have:=HL.out;omega
        go_wp2;go_ret;exact ⟨Qek HF,rfl⟩
      · have HN:Hid (128*(k+1)+QcZ z=QcZ v.toNat):=by
          refine (?_:128*(k+1)+QcZ z=QcZ v.toNat);rw [<- HR.out,Qdd (v:=y) (by omega),hz.out];omega
        go_wp2
        go_round
        case rel=>exact ⟨z,k+1,by rfl,by go_num,by omega,by omega,HN⟩
        case measure=>simp [Go.RowKit.intOf];omega
  · have HB:Hid (0=Qc7 v):=(Qow h).symm
    have hc:v<1∨¬ v<1/\999999999999999999<v:=by omega
    clear h;rcases hc with h | ⟨h,h2⟩
    all_goals
      go_enter func350,ntmps350;go_wp2;go_ret;exact ⟨Qek HB,rfl⟩
theorem QgP (v:Int) (w:World) (hv:I64 v) :
    Calls prog 125 #[.int .i64 v] w fun e w'=>e=.returned (.int .i64 (QjR v))/\w'=w:=by
  have aa:=hv;unfold I64 at hv;by_cases h:1<=v/\v<=7000
  · have e1:decide (1<=v/\v<=7000)=true:=decide_eq_true h
    obtain ⟨h1,h2⟩:=h;obtain ⟨a,rfl⟩:∃ a:Nat,v=a:=⟨v.toNat,by omega⟩;by_cases ad:(a:Int)<256
    · have HB:Hid ((a:Int)=QjR a):=by
        refine (?_:(a:Int)=QjR a);rw [Ql6 h1 h2,Int.toNat_natCast,Qj1 (by omega)]
      go_enter func125,ntmps125;go_wp2_with (go_at_call 18;refine (Qd7 _ _ _ _ aa (by unfold I64;omega) (by unfold I64;omega)).mono ?_;rintro e w1 ⟨rfl,rfl⟩;rw [e1]);go_ret;exact ⟨Qek HB,rfl⟩
    · obtain ⟨z,hz,ac,ab⟩:∃ z:Nat,Hid (a / 128=z)/\128*z<=a/\a<=128*z+127:=⟨a / 128,(rfl:a / 128=a / 128),by omega,by omega⟩
      have hd:Int.tdiv (a:Int) 128=(z:Int):=by rw [<- hz.out];rfl
      go_enter func125,ntmps125;go_wp2_with (go_at_call 18;refine (Qd7 _ _ _ _ aa (by unfold I64;omega) (by unfold I64;omega)).mono ?_;rintro e w1 ⟨rfl,rfl⟩;rw [e1]);go_ret;refine ⟨Qek ?_,rfl⟩;exact Qry (by omega) h2 (by omega) ac ab
  · have e1:decide (1<=v/\v<=7000)=false:=decide_eq_false h
    have HB:Hid (0=QjR v):=(Qs4 h).symm;clear h;go_enter func125,ntmps125;go_wp2_with (go_at_call 18;refine (Qd7 _ _ _ _ aa (by unfold I64;omega) (by unfold I64;omega)).mono ?_;rintro e w1 ⟨rfl,rfl⟩;rw [e1]);go_ret;exact ⟨Qek HB,rfl⟩
def Qbk:Int->List Bn->Bool
  | _,[]=>true
  | last,x :: r=>decide (last<x.1) && decide (x.1<=6878) && decide (x.2≠0) && Qbk x.1 r
def QaU (L:List Bn):Bool:=decide (L.length<=30) && Qbk 0 L
def Qff (L:List Bn) (k:Nat):Int:=match k with
  | 0=>0
  | j+1=>match L[j]? with
    | some x=>x.1
    | none=>0
variable {x:Bn}
theorem Qg3 {L:List Bn} (h:L[k]?=some x):Qff L (k+1)=x.1:=by simp [Qff,h]
theorem QjA {L:List Bn} (h:L[k]?=some x) (q:Int):Qbk q (L.drop k)=(decide (q<x.1) && decide (x.1<=6878) && decide (x.2≠0) && Qbk x.1 (L.drop (k+1))):=by
  have hk:=(List.getElem?_eq_some_iff.1 h).1;rw [List.drop_eq_getElem_cons hk,(List.getElem?_eq_some_iff.1 h).2];rfl
theorem QkW:Qc7 999999999999999999=6878:=by rw [Qfq (by omega) (by omega)];exact congrArg Int.ofNat Qlo
theorem QeY {a b:Bool} (h:a=b):Ending.returned (.bool a)=.returned (.bool b):=by rw [h]
variable {w:World}
variable {ao na pa:Option Addr}
theorem Qq6 {L:List Bn} (cap N:Nat) (hn:L.length=N) (hl:N<=1048576) (hA:QaJ w ao L) (hok:∀ x∈L,Qbw x) :
    Calls prog 287 #[.slice ao N cap] w fun e w'=>e=.returned (.bool (QaU L))/\Below w.heap.size w w':=by
  have HA:=Qaa hA;have HK:=Qaa hok;have HN:=Qaa hn;have hM:=QkW;by_cases ah:N<=30
  · have HF:Hid (QaU L=Qbk 0 L):=(by simp [QaU,hn,ah]:QaU L=Qbk 0 L)
    clear hA hok hn;go_enter func287,ntmps287;go_wp2
    go_loopw [3,11] (fun q i wr=>Below w.heap.size w wr/\∃ (k:Nat) (p:Int),k<=N/\i=.int .i64 k/\q=.int .i64 p/\Hid (Qbk 0 L=Qbk p (L.drop k))) (fun q i wr=>N - (Go.RowKit.intOf i).toNat)
    case atStart=>exact ⟨Below.refl _ _,0,0,Nat.zero_le _,rfl,rfl,(rfl:Qbk 0 L=Qbk 0 (L.drop 0))⟩
    case round=>
      obtain ⟨aa,k,p,hk,rfl,rfl,HR⟩:=hrel;have HB:=Qaa aa;by_cases am:k<N
      · obtain ⟨⟨a,u⟩,ac⟩:∃ a,L[k]?=some a:=⟨L[k]'(by have:=HN.out;omega),List.getElem?_eq_getElem _⟩
        obtain ⟨⟨ad,ae⟩,af,ai⟩:=HK.out _ (List.mem_of_getElem? ac);obtain ⟨b,ak,rfl,ab⟩:=HA.out (by have:=HN.out;omega);have al:=Qab aa (ab k _ ac).1;have aj:=Qab aa (ab k _ ac).2;have HD:=Qaa (QjA ac p);have hz:=aa.size;simp at ad ae af ai;clear aa ab ac;have ag:(a<=p)∨(¬ a<=p/\6878<a)∨(¬ a<=p/\¬ 6878<a/\u=0)∨(¬ a<=p/\¬ 6878<a/\u≠0):=by omega
        rcases ag with q1 | ⟨q1,q2⟩ | ⟨q1,q2,q3⟩ | ⟨q1,q2,q3⟩
        · have HE:Hid (false=QaU L):=(by rw [HF.out,HR.out,HD.out];simp;intro h;omega:false=QaU L)
          have d1:decide (a<=p)=true:=decide_eq_true q1;go_wp2
          go_quiet (first | (go_at_call 350;refine Calls.quiet_of_same (Qea _ _ (by unfold I64;omega))))
          go_wp2;go_ret;exact ⟨QeY HE,Qar (HB.out.alloc hz _) _⟩
        · have HE:Hid (false=QaU L):=(by rw [HF.out,HR.out,HD.out];simp;intro _ h;omega:false=QaU L)
          have d1:decide (a<=p)=false:=decide_eq_false q1;have d2:decide (6878<a)=true:=decide_eq_true q2;go_wp2
          go_quiet (first | (go_at_call 350;refine Calls.quiet_of_same (Qea _ _ (by unfold I64;omega))))
          go_wp2;go_ret;exact ⟨QeY HE,Qar (HB.out.alloc hz _) _⟩
        · have HE:Hid (false=QaU L):=(by rw [HF.out,HR.out,HD.out];simp [q3]:false=QaU L)
          have d1:decide (a<=p)=false:=decide_eq_false q1;have d2:decide (6878<a)=false:=decide_eq_false q2;subst q3;go_wp2
          go_quiet (first | (go_at_call 350;refine Calls.quiet_of_same (Qea _ _ (by unfold I64;omega))))
          go_wp2;go_ret;exact ⟨QeY HE,Qar (HB.out.alloc hz _) _⟩
        · have HE:Hid (Qbk 0 L=Qbk a (L.drop (k+1))):=by
            refine (?_:Qbk 0 L=Qbk a (L.drop (k+1)));rw [HR.out,HD.out,decide_eq_true (by show p<a;omega),decide_eq_true (by show a<=6878;omega),decide_eq_true (by show u≠0;exact q3)];rfl
          have d1:decide (a<=p)=false:=decide_eq_false q1;have d2:decide (6878<a)=false:=decide_eq_false q2;have d3:(u == 0)=false:=beq_eq_false_iff_ne.2 q3;go_wp2
          go_quiet (first | (go_at_call 350;refine Calls.quiet_of_same (Qea _ _ (by unfold I64;omega))))
          go_wp2;go_roundw
          case rel=>exact ⟨Qar (HB.out.alloc hz _) _,k+1,a,by omega,by go_num,rfl,HE⟩
          case measure=>simp [Go.RowKit.intOf];omega
      · have HE:Hid (true=QaU L):=(by rw [HF.out,HR.out,List.drop_eq_nil_of_le (by have:=HN.out;omega)];rfl:true=QaU L)
        clear aa;go_wp2;go_ret;exact ⟨QeY HE,HB⟩
  · have HE:Hid (false=QaU L):=(by simp [QaU,hn];intro h;omega:false=QaU L)
    clear hA hok hn;go_enter func287,ntmps287;go_wp2;go_ret;exact ⟨QeY HE,Below.refl _ _⟩
theorem QdS {L:List Bn} (cap N:Nat) (hn:L.length=N) (hl:N<=1048576) (hA:QaJ w ao L) (hok:∀ x∈L,Qbw x) :
    Calls prog 124 #[.slice ao N cap] w fun e w'=>e=.returned (.bool (QaU L))/\Below w.heap.size w w':=by
  have HA:=Qaa hA;have HK:=Qaa hok;have HN:=Qaa hn;have hM:=QkW;by_cases aj:N<=30
  · have HF:Hid (QaU L=Qbk 0 L):=(by simp [QaU,hn,aj]:QaU L=Qbk 0 L)
    clear hA hok hn;go_enter func124,ntmps124;go_wp2
    go_loopw [3] (fun i wr=>Below w.heap.size w wr/\∃ (k:Nat),k<=N/\i=.int .i64 k/\Hid (Qbk 0 L=Qbk (Qff L k) (L.drop k))/\((k=0/\Qff L k=0)∨(0<k/\1<=Qff L k))) (fun i wr=>N - (Go.RowKit.intOf i).toNat)
    case atStart=>exact ⟨Below.refl _ _,0,Nat.zero_le _,rfl,(rfl:Qbk 0 L=Qbk 0 (L.drop 0)),.inl ⟨rfl,rfl⟩⟩
    case round=>
      obtain ⟨ac,k,hk,rfl,HR,aa⟩:=hrel;have HB:=Qaa ac;by_cases ar:k<N
      · obtain ⟨⟨a,u⟩,ae⟩:∃ a,L[k]?=some a:=⟨L[k]'(by have:=HN.out;omega),List.getElem?_eq_getElem _⟩
        obtain ⟨⟨ai,ak⟩,ag,an⟩:=HK.out _ (List.mem_of_getElem? ae);obtain ⟨b,am,rfl,ab⟩:=HA.out (by have:=HN.out;omega);have aq:=Qab ac (ab k _ ae).1;have au:=Qab ac (ab k _ ae).2;have HD:=Qaa (QjA ae (Qff L k));have af:=Qaa (Qg3 ae)
        have ad:0<k->∃ j:Nat,k=j+1/\wr.cell? ⟨b,am+j*2,none⟩=some (.int .i64 (Qff L k)):=fun h0=>by
          obtain ⟨j,rfl⟩:∃ j,k=j+1:=⟨k - 1,by omega⟩;obtain ⟨x,hx⟩:∃ a,L[j]?=some a:=⟨L[j]'(by have:=HN.out;omega),List.getElem?_eq_getElem _⟩;exact ⟨j,rfl,by rw [Qg3 hx];exact Qab ac (ab j _ hx).1⟩
        have HP:=Qaa ad;simp at ai ak ag an;clear ac ab ae ad;obtain ⟨p,hp⟩:∃ p,Qff L k=p:=⟨_,rfl⟩;rw [hp] at HR HD HP aa;clear hp;have ah:(a<1)∨(¬ a<1/\6878<a)∨(¬ a<1/\¬ 6878<a/\u=0)∨(¬ a<1/\¬ 6878<a/\u≠0/\k=0)∨(¬ a<1/\¬ 6878<a/\u≠0/\0<k/\a<=p)∨(¬ a<1/\¬ 6878<a/\u≠0/\0<k/\¬ a<=p):=by omega
        rcases ah with q1 | ⟨q1,q2⟩ | ⟨q1,q2,q3⟩ | ⟨q1,q2,q3,q4⟩ | ⟨q1,q2,q3,q4,q5⟩ | ⟨q1,q2,q3,q4,q5⟩
        · have HE:Hid (false=QaU L):=(by rw [HF.out,HR.out,HD.out];simp;intro h;omega:false=QaU L)
          have d1:decide (a<1)=true:=decide_eq_true q1;clear aa;go_wp2
          go_quiet (first | (go_at_call 175;refine Calls.quiet_of_same (QbP _ _ (by unfold I64;omega))))
          go_wp2;go_ret;exact ⟨QeY HE,Qar HB _⟩
        · have HE:Hid (false=QaU L):=(by rw [HF.out,HR.out,HD.out];simp;intro _ h;omega:false=QaU L)
          have d1:decide (a<1)=false:=decide_eq_false q1;have d2:decide (6878<a)=true:=decide_eq_true q2;clear aa;go_wp2
          go_quiet (first | (go_at_call 175;refine Calls.quiet_of_same (QbP _ _ (by unfold I64;omega))))
          go_wp2;go_ret;exact ⟨QeY HE,Qar HB _⟩
        · have HE:Hid (false=QaU L):=(by rw [HF.out,HR.out,HD.out];simp [q3]:false=QaU L)
          have d1:decide (a<1)=false:=decide_eq_false q1;have d2:decide (6878<a)=false:=decide_eq_false q2;clear aa;subst q3;go_wp2
          go_quiet (first | (go_at_call 175;refine Calls.quiet_of_same (QbP _ _ (by unfold I64;omega))))
          go_wp2;go_ret;exact ⟨QeY HE,Qar HB _⟩
        · have HE:Hid (Qbk 0 L=Qbk (Qff L (k+1)) (L.drop (k+1))):=by
            refine (?_:Qbk 0 L=Qbk (Qff L (k+1)) (L.drop (k+1)));rw [af.out,HR.out,HD.out,decide_eq_true (by show p<a;omega),decide_eq_true (by show a<=6878;omega),decide_eq_true (by show u≠0;exact q3)];rfl
          have d1:decide (a<1)=false:=decide_eq_false q1;have d2:decide (6878<a)=false:=decide_eq_false q2;have d3:(u == 0)=false:=beq_eq_false_iff_ne.2 q3;have d4:decide (0<k)=false:=decide_eq_false (by omega);clear aa q4;go_wp2
          go_quiet (first | (go_at_call 175;refine Calls.quiet_of_same (QbP _ _ (by unfold I64;omega))))
          go_wp2;go_roundw
          case rel=>exact ⟨Qar HB _,k+1,by omega,by go_num,HE,by have:=af.out;omega⟩
          case measure=>simp [Go.RowKit.intOf];omega
        · have HE:Hid (false=QaU L):=(by rw [HF.out,HR.out,HD.out];simp;intro h;omega:false=QaU L)
          have d1:decide (a<1)=false:=decide_eq_false q1;have d2:decide (6878<a)=false:=decide_eq_false q2;have d3:(u == 0)=false:=beq_eq_false_iff_ne.2 q3;have d4:decide (0<k)=true:=decide_eq_true (by omega);have d5:decide (a<=p)=true:=decide_eq_true q5;obtain ⟨j,hj,ap⟩:=HP.out q4;have e1:(k:Int) - 1=(j:Int):=by omega
          have al:j<N:=by omega
          clear hj;clear aa;go_wp2
          go_quiet (first | (go_at_call 175;refine Calls.quiet_of_same (QbP _ _ (by unfold I64;omega))))
          go_wp2;go_ret;exact ⟨QeY HE,Qar HB _⟩
        · have HE:Hid (Qbk 0 L=Qbk (Qff L (k+1)) (L.drop (k+1))):=by
            refine (?_:Qbk 0 L=Qbk (Qff L (k+1)) (L.drop (k+1)));rw [af.out,HR.out,HD.out,decide_eq_true (by show p<a;omega),decide_eq_true (by show a<=6878;omega),decide_eq_true (by show u≠0;exact q3)];rfl
          have d1:decide (a<1)=false:=decide_eq_false q1;have d2:decide (6878<a)=false:=decide_eq_false q2;have d3:(u == 0)=false:=beq_eq_false_iff_ne.2 q3;have d4:decide (0<k)=true:=decide_eq_true (by omega);have d5:decide (a<=p)=false:=decide_eq_false q5;obtain ⟨j,hj,ap⟩:=HP.out q4;have e1:(k:Int) - 1=(j:Int):=by omega
          have al:j<N:=by omega
          clear hj;clear aa;go_wp2
          go_quiet (first | (go_at_call 175;refine Calls.quiet_of_same (QbP _ _ (by unfold I64;omega))))
          go_wp2;go_roundw
          case rel=>exact ⟨Qar HB _,k+1,by omega,by go_num,HE,by have:=af.out;omega⟩
          case measure=>simp [Go.RowKit.intOf];omega
      · have HE:Hid (true=QaU L):=(by rw [HF.out,HR.out,List.drop_eq_nil_of_le (by have:=HN.out;omega)];rfl:true=QaU L)
        clear ac;go_wp2;go_ret;exact ⟨QeY HE,HB⟩
  · have HE:Hid (false=QaU L):=(by simp [QaU,hn];intro h;omega:false=QaU L)
    clear hA hok hn;go_enter func124,ntmps124;go_wp2;go_ret;exact ⟨QeY HE,Below.refl _ _⟩
def skB (P N:List Bn):Bool:=QaU P && QaU N
theorem Qdb {z h l:Int} {P N:List Bn} (hp:P.length=pn) (hn:N.length=nn) (lp:pn<=1048576) (ln:nn<=1048576) (hP:QaJ w pa P) (hN:QaJ w na N) (kP:∀ x∈P,Qbw x) (kN:∀ x∈N,Qbw x) :
    Calls prog 85 #[.agg #[.int .u64 z,.slice pa pn pc,.slice na nn nc,.int .i64 h,.int .u64 l]] w fun e w'=>e=.returned (.bool (skB P N))/\Below w.heap.size w w':=by
  have HP:=Qaa hP;have HN:=Qaa hN;have KP:=Qaa kP;have KN:=Qaa kN;have hW:∀ o1,Below w.heap.size w (w.alloc o1):=fun o1=>(Below.refl _ _).alloc (Nat.le_refl _) _;have HW:=Qaa hW;clear hP hN kP kN hW;by_cases hr:QaU P=true
  · have HF:Hid (skB P N=QaU N):=(by simp [skB,hr]:skB P N=QaU N)
    go_enter func85,ntmps85;go_wp2_with fail;refine (QdS _ _ hp lp (Qak HP (HW.out _)) KP).mono ?_;rintro e w1 ⟨rfl,aa⟩;obtain ⟨ae,_⟩:=Qos aa;have ad:=(HW.out _).trans (aa.mono (by simp));simp at ae;have ab:=Qaa ad;clear aa ad;go_wp2_with fail;refine (QdS _ _ hn ln (Qak HN ab) KN).mono ?_;rintro e w2 ⟨rfl,ac⟩;have af:=Qaa (Qac ab ac);clear ac;go_wp2;go_ret;exact ⟨QeY HF.out.symm,af⟩
  · have hr:QaU P=false:=by simpa using hr
    have HF:Hid (false=skB P N):=(by simp [skB,hr]:false=skB P N);go_enter func85,ntmps85;go_wp2_with fail;refine (QdS _ _ hp lp (Qak HP (HW.out _)) KP).mono ?_;rintro e w1 ⟨rfl,aa⟩;have ab:=Qaa ((HW.out _).trans (aa.mono (by simp)));clear aa;go_wp2;go_ret;exact ⟨QeY HF,ab⟩
def upN:List Int->Bool
  | []=>true
  | [_]=>true
  | a :: b :: r=>decide (a<b) && upN (b :: r)
variable {L:List Int}
theorem Qts (h:L[k]?=some a) (g:L[k+1]?=some b):upN (L.drop k)=(decide (a<b) && upN (L.drop (k+1))):=by
  have hk:=(List.getElem?_eq_some_iff.1 h).1;have gk:=(List.getElem?_eq_some_iff.1 g).1;rw [List.drop_eq_getElem_cons hk,(List.getElem?_eq_some_iff.1 h).2,List.drop_eq_getElem_cons gk,(List.getElem?_eq_some_iff.1 g).2];rfl
theorem Qsc (h:L.length<=k+1):upN (L.drop k)=true:=by
  have hl:(L.drop k).length<=1:=by rw [List.length_drop];omega
  match h2:L.drop k,hl with
  | [],_=>rfl
  | [_],_=>rfl
  | _ :: _ :: _,h=>simp at h
def inR (x:Int):Bool:=decide (0<=x) && decide (x<=55)
theorem Qrk (h:L[k]?=some a):(L.drop k).all inR=(inR a && (L.drop (k+1)).all inR):=by
  have hk:=(List.getElem?_eq_some_iff.1 h).1;rw [List.drop_eq_getElem_cons hk,(List.getElem?_eq_some_iff.1 h).2];rfl
def exB (E:List Int):Bool:=decide (E.length<=40) && upN E
def QmG (R:List Int):Bool:=decide (R.length=64) && R.all inR
def hlB (E R:List Int):Bool:=if R.length=0 then exB E else decide (E.length=0) && QmG R
variable {B:Bool}
theorem QlU (h:L[k]?=some a) (g:L[k+1]?=some b) (e:B=upN (L.drop k)):(b<=a->false=B)/\(¬ b<=a->B=upN (L.drop (k+1))):=by
  rw [Qts h g] at e;exact ⟨fun q=>by rw [e,decide_eq_false (by omega)];rfl,fun q=>by rw [e,decide_eq_true (by omega),Bool.true_and]⟩
theorem QrD (h:L[k]?=some a) (e:B=(L.drop k).all inR):(a<0∨55<a->false=B)/\(0<=a->a<=55->B=(L.drop (k+1)).all inR):=by
  rw [Qrk h] at e;unfold inR at e
  exact ⟨fun q => by rw [e]; rcases q with q | q
                     · rw [decide_eq_false (by omega)];rfl
                     · rw [decide_eq_false (p:=a<=55) (by omega),Bool.and_false];rfl,fun q q'=>by rw [e,decide_eq_true q,decide_eq_true q'];rfl⟩
theorem QpP (cap N:Nat) (hn:L.length=N) (hl:N<=1048576) (hA:QaH .u64 w ao L) :
    Calls prog 226 #[.slice ao N cap] w fun e w'=>e=.returned (.bool (exB L))/\Below w.heap.size w w':=by
  have HA:=Qaa hA;have HN:=Qaa hn;by_cases ae:N<=40
  · have HF:Hid (exB L=upN L):=(by simp [exB,hn,ae]:exB L=upN L)
    clear hA hn;go_enter func226,ntmps226;go_wp2
    go_loopw [9] (fun i wr=>Below w.heap.size w wr/\∃ (k:Nat),k<=N/\i=.int .i64 k/\Hid (exB L=upN (L.drop (k - 1)))) (fun i wr=>N - (Go.RowKit.intOf i).toNat)
    case atStart=>exact ⟨Below.refl _ _,0,Nat.zero_le _,rfl,HF⟩
    case round=>
      obtain ⟨ab,k,hk,rfl,HR⟩:=hrel;have HB:=Qaa ab;by_cases ai:k<N
      · obtain ⟨u,ac⟩:∃ a,L[k]?=some a:=⟨L[k]'(by have:=HN.out;omega),List.getElem?_eq_getElem _⟩
        obtain ⟨b,ak,rfl,aa⟩:=HA.out (by have:=HN.out;omega);have ag:=Qab ab (aa k _ ac);by_cases af:k=0
        · subst af
          clear ab aa ac;go_wp2
          go_quiet (fail)
          go_wp2;go_roundw
          case rel=>exact ⟨Qar HB _,1,by omega,by go_num,HR⟩
          case measure=>simp [Go.RowKit.intOf];omega
        · obtain ⟨j,rfl⟩:∃ j,k=j+1:=⟨k - 1,by omega⟩
          obtain ⟨a,ad⟩:∃ a,L[j]?=some a:=⟨L[j]'(by have:=HN.out;omega),List.getElem?_eq_getElem _⟩;have ah:=Qab ab (aa j _ ad);have HU:=Qaa (QlU ad ac HR);clear ab aa ac ad HR;have aj:((j+1:Nat):Int) - 1=(j:Int):=by omega
          by_cases q:u<=a
          · have d1:decide (u<=a)=true:=decide_eq_true q
            go_wp2
            go_quiet (fail)
            go_wp2;go_ret;exact ⟨Qeo (HU.out.1 q),Qar HB _⟩
          · have d1:decide (u<=a)=false:=decide_eq_false q
            go_wp2
            go_quiet (fail)
            go_wp2;go_roundw
            case rel=>exact ⟨Qar HB _,j+1+1,by omega,by go_num,HU.out.2 q⟩
            case measure=>simp [Go.RowKit.intOf];omega
      · have HE:Hid (true=exB L):=(by rw [HR.out,Qsc (by have:=HN.out;omega)]:true=exB L)
        clear ab;go_wp2;go_ret;exact ⟨Qeo HE,HB⟩
  · have HE:Hid (false=exB L):=(by simp [exB,hn];intro h;omega:false=exB L)
    clear hA hn;go_enter func226,ntmps226;go_wp2;go_ret;exact ⟨Qeo HE,Below.refl _ _⟩
theorem Qjw (n lo hi:Int) (w:World) (hn:I64 n) :
    Calls prog 18 #[.int .i64 n,.int .i64 lo,.int .i64 hi] w fun e w'=>e=.returned (.bool (decide (lo<=n) && decide (n<=hi)))/\w'=w:=by
  by_cases h:lo<=n
  · have d1:decide (lo<=n)=true:=decide_eq_true h
    go_enter func18,ntmps18;go_wp2;go_ret;exact ⟨Qeo (by rw [d1,Bool.true_and]),rfl⟩
  · have d1:decide (lo<=n)=false:=decide_eq_false h
    go_enter func18,ntmps18;go_wp2;go_ret;exact ⟨rfl,rfl⟩
theorem Qcr {P N:List Int} (hp:P.length=pn) (hn:N.length=nn) (lp:pn<=1048576) (ln:nn<=1048576) (hP:QaH .u64 w pa P) (hN:QaH .i64 w na N) (kN:∀ x∈N,I64 x) :
    Calls prog 88 #[.agg #[.slice pa pn pc,.slice na nn nc]] w fun e w'=>e=.returned (.bool (hlB P N))/\Below w.heap.size w w':=by
  have HP:=Qaa hP;have HN:=Qaa hN;have EP:=Qaa hp;have EN:=Qaa hn;have KN:=Qaa kN;have hW:∀ o1,Below w.heap.size w (w.alloc o1):=fun o1=>(Below.refl _ _).alloc (Nat.le_refl _) _;have HW:=Qaa hW;clear hP hN hW kN;by_cases h0:nn=0
  · subst h0
    have HF:Hid (hlB P N=(decide (pn<=40) && upN P)):=(by simp [hlB,hn,exB,hp]:hlB P N=(decide (pn<=40) && upN P));clear hp hn;go_enter func88,ntmps88;go_wp2
    go_loopw [3] (fun i wr=>Below w.heap.size w wr/\QbC wr w.heap.size (.slice pa pn pc) (.slice na 0 nc)/\∃ (k:Nat),(k<=pn∨k=1)/\1<=k/\i=.int .i64 k/\Hid (upN P=upN (P.drop (k - 1)))) (fun i wr=>pn - (Go.RowKit.intOf i).toNat)
    case atStart=>exact ⟨HW.out _,Qf4 _ _ _ _,1,.inr rfl,Nat.le_refl _,rfl,(rfl:upN P=upN (P.drop 0))⟩
    case round=>
      obtain ⟨aa,hK,k,hk,ah,rfl,HR⟩:=hrel;have HB:=Qaa aa;have HK:=Qaa hK;by_cases af:k<pn
      · obtain ⟨j,rfl⟩:∃ j,k=j+1:=⟨k - 1,by omega⟩
        obtain ⟨u,ac⟩:∃ a,P[j+1]?=some a:=⟨P[j+1]'(by have:=EP.out;omega),List.getElem?_eq_getElem _⟩;obtain ⟨a,ad⟩:∃ a,P[j]?=some a:=⟨P[j]'(by have:=EP.out;omega),List.getElem?_eq_getElem _⟩;obtain ⟨b,ag,rfl,ab⟩:=HP.out (by have:=EP.out;omega);have ae:=Qab aa (ab _ _ ac);have ak:=Qab aa (ab j _ ad);have HU:=Qaa (QlU ad ac HR);have al:((j+1:Nat):Int) - 1=(j:Int):=by omega
        clear aa ab ac ad HR;by_cases q:u<=a
        · have d1:decide (u<=a)=true:=decide_eq_true q
          have HE:Hid (false=hlB P N):=(by rw [HF.out,<- HU.out.1 q,Bool.and_false]:false=hlB P N);go_wp2
          go_quiet (fail)
          go_wp2;go_ret;exact ⟨Qeo HE,Qar HB _⟩
        · have d1:decide (u<=a)=false:=decide_eq_false q
          go_wp2
          go_quiet (fail)
          go_wp2;go_roundw
          case rel=>exact ⟨Qar HB _,HK,j+1+1,by omega,by omega,by go_num,HU.out.2 q⟩
          case measure=>simp [Go.RowKit.intOf];omega
      · have HE:Hid (decide ((pn:Int)<=40)=hlB P N):=(by rw [HF.out,HR.out,Qsc (by have:=EP.out;omega),Bool.and_true];exact decide_eq_decide.2 (by omega):decide ((pn:Int)<=40)=hlB P N)
        clear aa;go_wp2;go_ret;exact ⟨Qeo HE,HB⟩
  · have ai:((nn:Int) == 0)=false:=beq_eq_false_iff_ne.2 (by omega)
    have HF:Hid (hlB P N=(decide (pn=0) && (decide (nn=64) && N.all inR))):=(by simp [hlB,hn,h0,hp,QmG]:hlB P N=(decide (pn=0) && (decide (nn=64) && N.all inR)));clear hp hn;go_enter func88,ntmps88;go_wp2
    go_loopw [4] (fun i wr=>Below w.heap.size w wr/\QbC wr w.heap.size (.slice pa pn pc) (.slice na nn nc)/\∃ (k:Nat),k<=nn/\i=.int .i64 k/\Hid (N.all inR=(N.drop k).all inR)) (fun i wr=>nn - (Go.RowKit.intOf i).toNat)
    case atStart=>exact ⟨HW.out _,Qf4 _ _ _ _,0,Nat.zero_le _,rfl,(rfl:N.all inR=(N.drop 0).all inR)⟩
    case round=>
      obtain ⟨aa,hK,k,hk,rfl,HR⟩:=hrel;have HB:=Qaa aa;have HK:=Qaa hK;by_cases af:k<nn
      · obtain ⟨u,ac⟩:∃ a,N[k]?=some a:=⟨N[k]'(by have:=EN.out;omega),List.getElem?_eq_getElem _⟩
        obtain ⟨b,ag,rfl,ab⟩:=HN.out (by have:=EN.out;omega);have ae:=Qab aa (ab k _ ac);have hu:=KN.out _ (List.mem_of_getElem? ac);have HU:=Qaa (QrD ac HR);clear aa ab ac HR;by_cases q:0<=u/\u<=55
        · have d1:(decide (0<=u) && decide (u<=55))=true:=by simp [q.1,q.2]
          have HQ:=Qaa q;clear q;go_wp2_with (go_at_call 18;refine (Qjw _ _ _ _ hu).mono ?_;rintro e w1 ⟨rfl,rfl⟩;rw [d1]);go_roundw
          case rel=>exact ⟨HB,HK,k+1,by omega,by go_num,HU.out.2 HQ.out.1 HQ.out.2⟩
          case measure=>simp [Go.RowKit.intOf];omega
        · have d1:(decide (0<=u) && decide (u<=55))=false:=by rw [Bool.eq_false_iff];intro h;simp at h;exact q h
          have HE:Hid (false=hlB P N):=(by rw [HF.out,<- HU.out.1 (by omega),Bool.and_false,Bool.and_false]:false=hlB P N);clear q;go_wp2_with (go_at_call 18;refine (Qjw _ _ _ _ hu).mono ?_;rintro e w1 ⟨rfl,rfl⟩;rw [d1]);go_ret;exact ⟨Qeo HE,HB⟩
      · have hE:hlB P N=(decide (pn=0) && decide (nn=64)):=by rw [HF.out,HR.out,List.drop_eq_nil_of_le (by have:=EN.out;omega)];simp
        by_cases h1:pn=0
        · subst h1
          have HE:Hid (((nn:Int) == 64)=hlB P N):=(by rw [hE];simp only [decide_true,Bool.true_and];by_cases h:nn=64 <;> simp [h] <;> omega:((nn:Int) == 64)=hlB P N);clear aa hE;go_wp2;go_ret;exact ⟨Qeo HE,HB⟩
        · have HE:Hid (false=hlB P N):=(by rw [hE,decide_eq_false h1];rfl:false=hlB P N)
          have aj:((pn:Int) == 0)=false:=beq_eq_false_iff_ne.2 (by omega);clear aa hE;go_wp2;go_ret;exact ⟨Qeo HE,HB⟩
def QpS (v:Int):Bool:=decide (-999999999999999999<=v) && decide (v<=999999999999999999)
def gauB (a t:Int):Bool:=if t=-1 then decide (a=0) else decide (0<=t) && decide (t<=1000000000) && QpS a
theorem QqW (v:Int) (w:World):Calls prog 157 #[.int .i64 v] w fun e w'=>e=.returned (.bool (QpS v))/\w'=w:=by
  by_cases h1:-999999999999999999<=v <;> by_cases h2:v<=999999999999999999 <;> (go_enter func157,ntmps157;go_wp2;go_ret;exact ⟨by simp [QpS,h1,h2],rfl⟩)
theorem QfB (n lo hi:Int) (w:World):Calls prog 18 #[.int .i64 n,.int .i64 lo,.int .i64 hi] w fun e w'=>e=.returned (.bool (decide (lo<=n) && decide (n<=hi)))/\w'=w:=by
  by_cases h1:lo<=n <;> by_cases h2:n<=hi <;> (go_enter func18,ntmps18;go_wp2;go_ret;exact ⟨by simp [h1,h2],rfl⟩)
theorem QkQ (v:Int) (w:World):Calls prog 84 #[.int .i64 v] w fun e w'=>e=.returned (.bool (QpS v))/\w'=w:=by
  go_enter func84,ntmps84;go_wp2_with (go_at_call 18;refine (QfB _ _ _ _).mono ?_;rintro e w1 ⟨rfl,aa⟩;obtain rfl:=aa);go_ret;exact ⟨rfl,rfl⟩
end Go.Proofs.YtdbaabbmcfnjbaaGreatDoor
