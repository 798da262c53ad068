/-
 Parts.
-/
import Derived.Test.YtlejlgldgafljaaGreatDoorVJB
set_option maxHeartbeats 4000000
set_option linter.all false
namespace Go.Proofs.YtlejlgldgafljaaGreatDoor
open Go.ChangeShapes Go.WideShapes Go.ChangeAt Go.RowKit Go.PlainAid Go.Lib Tryz
def Qde (v:Nat):Nat:=if h:v<256 then v else 128+Qde (v / 2)
termination_by v
decreasing_by omega
def lowW (a:Nat):Nat:=if h:a<256 then a else 2*lowW (a - 128)
termination_by a
decreasing_by omega
variable {k nc nn pc pn v:Nat}
theorem Qfd (h:v<256):Qde v=v:=by rw [Qde,dif_pos h]
theorem Qeo (h:¬ v<256):Qde v=128+Qde (v / 2):=by rw [Qde,dif_neg h]
theorem QqD (v:Nat):Qde v<=v:=by
  induction v using Nat.strongRecOn with
  | ind v ih=>
    by_cases h:v<256
    · rw [Qfd h];exact Nat.le_refl _
    · rw [Qeo h];have:=ih (v / 2) (by omega);omega
theorem QqB (v:Nat):∀ w,v<=w->Qde v<=Qde w:=by
  induction v using Nat.strongRecOn with
  | ind v ih=>
    intro w hw;by_cases h:v<256
    · rw [Qfd h]
      by_cases k:w<256
      · rw [Qfd k];exact hw
      · have g:∀ x,128<=x->128<=Qde x:=by
          intro x
          induction x using Nat.strongRecOn with
          | ind x ix=>
            intro hx;by_cases z:x<256
            · rw [Qfd z];exact hx
            · rw [Qeo z];omega
        rw [Qeo k];have:=g (w / 2) (by omega);omega
    · rw [Qeo h,Qeo (v:=w) (by omega)]
      have:=ih (v / 2) (by omega) (w / 2) (by omega);omega
theorem Qmm:Qde 999999999999999999=6878:=by simp [Qde]
theorem QtR (h:v<=999999999999999999):Qde v<=6878:=by have:=QqB v _ h;rwa [Qmm] at this
def QdC (v:Int):Int:=if 1<=v/\v<=999999999999999999 then (Qde v.toNat:Int) else 0
def lowI (a:Int):Int:=if 1<=a/\a<=7000 then (lowW a.toNat:Int) else 0
theorem QiV (v:Int):0<=QdC v/\QdC v<=6878:=by
  unfold QdC
  split
  · have:=QtR (v:=v.toNat) (by omega);omega
  · omega
theorem Qgc {v:Int} (h:1<=v) (h2:v<=999999999999999999):QdC v=(Qde v.toNat:Int):=if_pos ⟨h,h2⟩
theorem Qoz {v:Int} (h:¬ (1<=v/\v<=999999999999999999)):QdC v=0:=if_neg h
set_option maxRecDepth 10000
variable {a b h l z:Int}
theorem Qsg (h:a=b):Ending.returned (.int .i64 a)=.returned (.int .i64 b):=by rw [h]
theorem QmV (n a b:Int) (w:World) (hn:I64 n) (ha:I64 a) (hb:I64 b) :
    Calls prog 33 #[.int .i64 n,.int .i64 a,.int .i64 b] w fun e w'=>e=.returned (.bool (decide (a<=n/\n<=b)))/\w'=w:=by
  unfold I64 at hn ha hb;by_cases h1:a<=n
  · by_cases h2:n<=b
    · have e:decide (a<=n/\n<=b)=true:=decide_eq_true ⟨h1,h2⟩
      rw [e];go_enter func33,ntmps33;go_wp2;go_ret;exact ⟨rfl,rfl⟩
    · have e:decide (a<=n/\n<=b)=false:=decide_eq_false (fun h=>h2 h.2)
      rw [e];go_enter func33,ntmps33;go_wp2;go_ret;exact ⟨rfl,rfl⟩
  · have e:decide (a<=n/\n<=b)=false:=decide_eq_false (fun h=>h1 h.1)
    rw [e];go_enter func33,ntmps33;go_wp2;go_ret;exact ⟨rfl,rfl⟩
theorem Qb9 (v:Int) (w:World) (hv:I64 v) :
    Calls prog 168 #[.int .i64 v] w fun e w'=>e=.returned (.int .i64 (QdC v))/\w'=w:=by
  have aa:=hv;unfold I64 at hv;by_cases h:1<=v/\v<=999999999999999999
  · have e1:decide (1<=v/\v<=999999999999999999)=true:=decide_eq_true h
    have HB:Hid (QdC v=(Qde v.toNat:Int)):=Qgc h.1 h.2;have HL:Hid (Qde v.toNat<=v.toNat):=QqD _;obtain ⟨h1,h2⟩:=h;go_enter func168,ntmps168;go_wp2_with (go_at_call 33;refine (QmV _ _ _ _ aa (by unfold I64;omega) (by unfold I64;omega)).mono ?_;rintro e w1 ⟨rfl,rfl⟩;rw [e1]);clear e1
    go_loop [0,3] (fun x i=>∃ y k:Nat,x=.int .i64 y/\i=.int .i64 k/\1<=y/\y<=999999999999999999/\Hid (128*k+Qde y=Qde v.toNat)) (fun x i=>(Go.RowKit.intOf x).toNat)
    case atStart=>exact ⟨v.toNat,0,by rw [Int.toNat_of_nonneg (by omega)],rfl,by omega,by omega,(by omega:128*0+Qde v.toNat=Qde v.toNat)⟩
    case round=>
      obtain ⟨y,k,rfl,rfl,hy,ae,HR⟩:=hrel;have hk:k<=999999999999999999:=by have:=HR.out;have:=HL.out;omega
      obtain ⟨z,hz,ac,ad⟩:∃ z:Nat,Hid (y / 2=z)/\2*z<=y/\y<=2*z+1:=⟨y / 2,(rfl:y / 2=y / 2),by omega,by omega⟩;have hd:Int.tdiv (y:Int) 2=(z:Int):=by rw [<- hz.out];rfl
      by_cases ab:(y:Int)<256
      · have HF:Hid ((128*(k:Int)+(y:Int))=QdC v):=by
          refine (?_:(128*(k:Int)+(y:Int))=QdC v);rw [HB.out,<- HR.out,Qfd (by omega)];omega
        have h9:128*k<=999999999999999999:=by have:=HR.out;have:=HL.out;omega
        go_wp2;go_ret;exact ⟨Qsg HF,rfl⟩
      · have HN:Hid (128*(k+1)+Qde z=Qde v.toNat):=by
          refine (?_:128*(k+1)+Qde z=Qde v.toNat);rw [<- HR.out,Qeo (v:=y) (by omega),hz.out];omega
        go_wp2
        go_round
        case rel=>exact ⟨z,k+1,by rfl,by go_num,by omega,by omega,HN⟩
        case measure=>simp [Go.RowKit.intOf];omega
  · have e1:decide (1<=v/\v<=999999999999999999)=false:=decide_eq_false h
    have HB:Hid (0=QdC v):=(Qoz h).symm;clear h;go_enter func168,ntmps168;go_wp2_with (go_at_call 33;refine (QmV _ _ _ _ aa (by unfold I64;omega) (by unfold I64;omega)).mono ?_;rintro e w1 ⟨rfl,rfl⟩;rw [e1]);go_ret;exact ⟨Qsg HB,rfl⟩
theorem QeI (v:Int) (w:World) (hv:I64 v) :
    Calls prog 304 #[.int .i64 v] w fun e w'=>e=.returned (.int .i64 (QdC v))/\w'=w:=by
  have ab:=hv;unfold I64 at hv;by_cases h:1<=v/\v<=999999999999999999
  · have HB:Hid (QdC v=(Qde v.toNat:Int)):=Qgc h.1 h.2
    have HL:Hid (Qde v.toNat<=v.toNat):=QqD _;obtain ⟨h1,h2⟩:=h;go_enter func304,ntmps304;go_wp2
    go_loop [0,3] (fun x i=>∃ y k:Nat,x=.int .i64 y/\i=.int .i64 k/\1<=y/\y<=999999999999999999/\Hid (128*k+Qde y=Qde v.toNat)) (fun x i=>(Go.RowKit.intOf x).toNat)
    case atStart=>exact ⟨v.toNat,0,by rw [Int.toNat_of_nonneg (by omega)],rfl,by omega,by omega,(by omega:128*0+Qde v.toNat=Qde v.toNat)⟩
    case round=>
      obtain ⟨y,k,rfl,rfl,hy,ae,HR⟩:=hrel;have hk:k<=999999999999999999:=by have:=HR.out;have:=HL.out;omega
      obtain ⟨z,hz,ac,ad⟩:∃ z:Nat,Hid (y / 2=z)/\2*z<=y/\y<=2*z+1:=⟨y / 2,(rfl:y / 2=y / 2),by omega,by omega⟩;have hd:Int.tdiv (y:Int) 2=(z:Int):=by rw [<- hz.out];rfl
      by_cases aa:(y:Int)<256
      · have HF:Hid ((128*(k:Int)+(y:Int))=QdC v):=by
          refine (?_:(128*(k:Int)+(y:Int))=QdC v);rw [HB.out,<- HR.out,Qfd (by omega)];omega
        have h9:128*k<=999999999999999999:=by have:=HR.out;have:=HL.out;omega
        go_wp2;go_ret;exact ⟨Qsg HF,rfl⟩
      · have HN:Hid (128*(k+1)+Qde z=Qde v.toNat):=by
          refine (?_:128*(k+1)+Qde z=Qde v.toNat);rw [<- HR.out,Qeo (v:=y) (by omega),hz.out];omega
        go_wp2
        go_round
        case rel=>exact ⟨z,k+1,by rfl,by go_num,by omega,by omega,HN⟩
        case measure=>simp [Go.RowKit.intOf];omega
  · have HB:Hid (0=QdC v):=(Qoz h).symm
    have hc:v<1∨¬ v<1/\999999999999999999<v:=by omega
    clear h;rcases hc with h | ⟨h,h2⟩
    all_goals
      go_enter func304,ntmps304;go_wp2;go_ret;exact ⟨Qsg HB,rfl⟩
def QbH:Int->List Bn->Bool
  | _,[]=>true
  | last,x :: r=>decide (last<x.1) && decide (x.1<=6878) && decide (x.2≠0) && QbH x.1 r
def QaT (L:List Bn):Bool:=decide (L.length<=30) && QbH 0 L
def QfS (L:List Bn) (k:Nat):Int:=match k with
  | 0=>0
  | j+1=>match L[j]? with
    | some x=>x.1
    | none=>0
variable {x:Bn}
theorem QhR {L:List Bn} (h:L[k]?=some x):QfS L (k+1)=x.1:=by simp [QfS,h]
theorem QkD {L:List Bn} (h:L[k]?=some x) (q:Int):QbH q (L.drop k)=(decide (q<x.1) && decide (x.1<=6878) && decide (x.2≠0) && QbH x.1 (L.drop (k+1))):=by
  have hk:=(List.getElem?_eq_some_iff.1 h).1;rw [List.drop_eq_getElem_cons hk,(List.getElem?_eq_some_iff.1 h).2];rfl
theorem Qm5:QdC 999999999999999999=6878:=by rw [Qgc (by omega) (by omega)];exact congrArg Int.ofNat Qmm
theorem Qel {a b:Bool} (h:a=b):Ending.returned (.bool a)=.returned (.bool b):=by rw [h]
variable {w:World}
variable {ao na pa:Option Addr}
theorem Qc8 {L:List Bn} (cap N:Nat) (hn:L.length=N) (hl:N<=1048576) (hA:QaS w ao L) (hok:∀ x∈L,Qci x) :
    Calls prog 303 #[.slice ao N cap] w fun e w'=>e=.returned (.bool (QaT L))/\Bw w w':=by
  have HA:=Qaa hA;have HK:=Qaa hok;have HN:=Qaa hn;have hM:=Qm5;by_cases ai:N<=30
  · have HF:Hid (QaT L=QbH 0 L):=(by simp [QaT,hn,ai]:QaT L=QbH 0 L)
    clear hA hok hn;go_enter func303,ntmps303;go_wp2
    go_loopw [3,11] (fun q i wr=>Bw w wr/\∃ (k:Nat) (p:Int),k<=N/\i=.int .i64 k/\q=.int .i64 p/\Hid (QbH 0 L=QbH p (L.drop k))) (fun q i wr=>N - (Go.RowKit.intOf i).toNat)
    case atStart=>exact ⟨Below.refl _ _,0,0,Nat.zero_le _,rfl,rfl,(rfl:QbH 0 L=QbH 0 (L.drop 0))⟩
    case round=>
      obtain ⟨aa,k,p,hk,rfl,rfl,HR⟩:=hrel;have HB:=Qaa aa;by_cases aj:k<N
      · obtain ⟨⟨a,u⟩,ac⟩:∃ a,L[k]?=some a:=⟨L[k]'(by have:=HN.out;omega),List.getElem?_eq_getElem _⟩
        obtain ⟨⟨ag,ae⟩,ah,ad⟩:=HK.out _ (List.mem_of_getElem? ac);obtain ⟨b,am,rfl,ab⟩:=HA.out (by have:=HN.out;omega);have al:=Qab aa (ab k _ ac).1;have ak:=Qab aa (ab k _ ac).2;have HD:=Qaa (QkD ac p);have hz:=aa.size;simp at ag ae ah ad;clear aa ab ac;have af:(a<=p)∨(¬ a<=p/\6878<a)∨(¬ a<=p/\¬ 6878<a/\u=0)∨(¬ a<=p/\¬ 6878<a/\u≠0):=by omega
        rcases af with q1 | ⟨q1,q2⟩ | ⟨q1,q2,q3⟩ | ⟨q1,q2,q3⟩
        · have HE:Hid (false=QaT L):=(by rw [HF.out,HR.out,HD.out];simp;intro h;omega:false=QaT L)
          have d1:decide (a<=p)=true:=decide_eq_true q1;go_wp2
          go_quiet (first | (go_at_call 304;refine Calls.quiet_of_same (QeI _ _ (by unfold I64;omega))))
          go_wp2;go_ret;exact ⟨Qel HE,Qao (HB.alloc hz _) _⟩
        · have HE:Hid (false=QaT L):=(by rw [HF.out,HR.out,HD.out];simp;intro _ h;omega:false=QaT L)
          have d1:decide (a<=p)=false:=decide_eq_false q1;have d2:decide (6878<a)=true:=decide_eq_true q2;go_wp2
          go_quiet (first | (go_at_call 304;refine Calls.quiet_of_same (QeI _ _ (by unfold I64;omega))))
          go_wp2;go_ret;exact ⟨Qel HE,Qao (HB.alloc hz _) _⟩
        · have HE:Hid (false=QaT L):=(by rw [HF.out,HR.out,HD.out];simp [q3]:false=QaT L)
          have d1:decide (a<=p)=false:=decide_eq_false q1;have d2:decide (6878<a)=false:=decide_eq_false q2;subst q3;go_wp2
          go_quiet (first | (go_at_call 304;refine Calls.quiet_of_same (QeI _ _ (by unfold I64;omega))))
          go_wp2;go_ret;exact ⟨Qel HE,Qao (HB.alloc hz _) _⟩
        · have HE:Hid (QbH 0 L=QbH a (L.drop (k+1))):=by
            refine (?_:QbH 0 L=QbH a (L.drop (k+1)));rw [HR.out,HD.out,decide_eq_true (by show p<a;omega),decide_eq_true (by show a<=6878;omega),decide_eq_true (by show u≠0;exact q3)];rfl
          have d1:decide (a<=p)=false:=decide_eq_false q1;have d2:decide (6878<a)=false:=decide_eq_false q2;have d3:(u == 0)=false:=beq_eq_false_iff_ne.2 q3;go_wp2
          go_quiet (first | (go_at_call 304;refine Calls.quiet_of_same (QeI _ _ (by unfold I64;omega))))
          go_wp2;go_roundw
          case rel=>exact ⟨Qao (HB.alloc hz _) _,k+1,a,by omega,by go_num,rfl,HE⟩
          case measure=>simp [Go.RowKit.intOf];omega
      · have HE:Hid (true=QaT L):=(by rw [HF.out,HR.out,List.drop_eq_nil_of_le (by have:=HN.out;omega)];rfl:true=QaT L)
        clear aa;go_wp2;go_ret;exact ⟨Qel HE,HB⟩
  · have HE:Hid (false=QaT L):=(by simp [QaT,hn];intro h;omega:false=QaT L)
    clear hA hok hn;go_enter func303,ntmps303;go_wp2;go_ret;exact ⟨Qel HE,Below.refl _ _⟩
theorem Qef {L:List Bn} (cap N:Nat) (hn:L.length=N) (hl:N<=1048576) (hA:QaS w ao L) (hok:∀ x∈L,Qci x) :
    Calls prog 164 #[.slice ao N cap] w fun e w'=>e=.returned (.bool (QaT L))/\Bw w w':=by
  have HA:=Qaa hA;have HK:=Qaa hok;have HN:=Qaa hn;have hM:=Qm5;by_cases an:N<=30
  · have HF:Hid (QaT L=QbH 0 L):=(by simp [QaT,hn,an]:QaT L=QbH 0 L)
    clear hA hok hn;go_enter func164,ntmps164;go_wp2
    go_loopw [3] (fun i wr=>Bw w wr/\∃ (k:Nat),k<=N/\i=.int .i64 k/\Hid (QbH 0 L=QbH (QfS L k) (L.drop k))/\((k=0/\QfS L k=0)∨(0<k/\1<=QfS L k))) (fun i wr=>N - (Go.RowKit.intOf i).toNat)
    case atStart=>exact ⟨Below.refl _ _,0,Nat.zero_le _,rfl,(rfl:QbH 0 L=QbH 0 (L.drop 0)),.inl ⟨rfl,rfl⟩⟩
    case round=>
      obtain ⟨ac,k,hk,rfl,HR,aa⟩:=hrel;have HB:=Qaa ac;by_cases au:k<N
      · obtain ⟨⟨a,u⟩,ae⟩:∃ a,L[k]?=some a:=⟨L[k]'(by have:=HN.out;omega),List.getElem?_eq_getElem _⟩
        obtain ⟨⟨ak,ap⟩,am,ah⟩:=HK.out _ (List.mem_of_getElem? ae);obtain ⟨b,aj,rfl,ab⟩:=HA.out (by have:=HN.out;omega);have ar:=Qab ac (ab k _ ae).1;have aq:=Qab ac (ab k _ ae).2;have HD:=Qaa (QkD ae (QfS L k));have af:=Qaa (QhR ae)
        have ad:0<k->∃ j:Nat,k=j+1/\wr.cell? ⟨b,aj+j*2,none⟩=some (.int .i64 (QfS L k)):=fun h0=>by
          obtain ⟨j,rfl⟩:∃ j,k=j+1:=⟨k - 1,by omega⟩;obtain ⟨x,hx⟩:∃ a,L[j]?=some a:=⟨L[j]'(by have:=HN.out;omega),List.getElem?_eq_getElem _⟩;exact ⟨j,rfl,by rw [QhR hx];exact Qab ac (ab j _ hx).1⟩
        have HP:=Qaa ad;simp at ak ap am ah;clear ac ab ae ad;obtain ⟨p,hp⟩:∃ p,QfS L k=p:=⟨_,rfl⟩;rw [hp] at HR HD HP aa;clear hp;have ag:(a<1)∨(¬ a<1/\6878<a)∨(¬ a<1/\¬ 6878<a/\u=0)∨(¬ a<1/\¬ 6878<a/\u≠0/\k=0)∨(¬ a<1/\¬ 6878<a/\u≠0/\0<k/\a<=p)∨(¬ a<1/\¬ 6878<a/\u≠0/\0<k/\¬ a<=p):=by omega
        rcases ag with q1 | ⟨q1,q2⟩ | ⟨q1,q2,q3⟩ | ⟨q1,q2,q3,q4⟩ | ⟨q1,q2,q3,q4,q5⟩ | ⟨q1,q2,q3,q4,q5⟩
        · have HE:Hid (false=QaT L):=(by rw [HF.out,HR.out,HD.out];simp;intro h;omega:false=QaT L)
          have d1:decide (a<1)=true:=decide_eq_true q1;clear aa;go_wp2
          go_quiet (first | (go_at_call 168;refine Calls.quiet_of_same (Qb9 _ _ (by unfold I64;omega))))
          go_wp2;go_ret;exact ⟨Qel HE,Qao HB _⟩
        · have HE:Hid (false=QaT L):=(by rw [HF.out,HR.out,HD.out];simp;intro _ h;omega:false=QaT L)
          have d1:decide (a<1)=false:=decide_eq_false q1;have d2:decide (6878<a)=true:=decide_eq_true q2;clear aa;go_wp2
          go_quiet (first | (go_at_call 168;refine Calls.quiet_of_same (Qb9 _ _ (by unfold I64;omega))))
          go_wp2;go_ret;exact ⟨Qel HE,Qao HB _⟩
        · have HE:Hid (false=QaT L):=(by rw [HF.out,HR.out,HD.out];simp [q3]:false=QaT L)
          have d1:decide (a<1)=false:=decide_eq_false q1;have d2:decide (6878<a)=false:=decide_eq_false q2;clear aa;subst q3;go_wp2
          go_quiet (first | (go_at_call 168;refine Calls.quiet_of_same (Qb9 _ _ (by unfold I64;omega))))
          go_wp2;go_ret;exact ⟨Qel HE,Qao HB _⟩
        · have HE:Hid (QbH 0 L=QbH (QfS L (k+1)) (L.drop (k+1))):=by
            refine (?_:QbH 0 L=QbH (QfS L (k+1)) (L.drop (k+1)));rw [af.out,HR.out,HD.out,decide_eq_true (by show p<a;omega),decide_eq_true (by show a<=6878;omega),decide_eq_true (by show u≠0;exact q3)];rfl
          have d1:decide (a<1)=false:=decide_eq_false q1;have d2:decide (6878<a)=false:=decide_eq_false q2;have d3:(u == 0)=false:=beq_eq_false_iff_ne.2 q3;have d4:decide (0<k)=false:=decide_eq_false (by omega);clear aa q4;go_wp2
          go_quiet (first | (go_at_call 168;refine Calls.quiet_of_same (Qb9 _ _ (by unfold I64;omega))))
          go_wp2;go_roundw
          case rel=>exact ⟨Qao HB _,k+1,by omega,by go_num,HE,by have:=af.out;omega⟩
          case measure=>simp [Go.RowKit.intOf];omega
        · have HE:Hid (false=QaT L):=(by rw [HF.out,HR.out,HD.out];simp;intro h;omega:false=QaT L)
          have d1:decide (a<1)=false:=decide_eq_false q1;have d2:decide (6878<a)=false:=decide_eq_false q2;have d3:(u == 0)=false:=beq_eq_false_iff_ne.2 q3;have d4:decide (0<k)=true:=decide_eq_true (by omega);have d5:decide (a<=p)=true:=decide_eq_true q5;obtain ⟨j,hj,ai⟩:=HP.out q4;have e1:(k:Int) - 1=(j:Int):=by omega
          have al:j<N:=by omega
          clear hj;clear aa;go_wp2
          go_quiet (first | (go_at_call 168;refine Calls.quiet_of_same (Qb9 _ _ (by unfold I64;omega))))
          go_wp2;go_ret;exact ⟨Qel HE,Qao HB _⟩
        · have HE:Hid (QbH 0 L=QbH (QfS L (k+1)) (L.drop (k+1))):=by
            refine (?_:QbH 0 L=QbH (QfS L (k+1)) (L.drop (k+1)));rw [af.out,HR.out,HD.out,decide_eq_true (by show p<a;omega),decide_eq_true (by show a<=6878;omega),decide_eq_true (by show u≠0;exact q3)];rfl
          have d1:decide (a<1)=false:=decide_eq_false q1;have d2:decide (6878<a)=false:=decide_eq_false q2;have d3:(u == 0)=false:=beq_eq_false_iff_ne.2 q3;have d4:decide (0<k)=true:=decide_eq_true (by omega);have d5:decide (a<=p)=false:=decide_eq_false q5;obtain ⟨j,hj,ai⟩:=HP.out q4;have e1:(k:Int) - 1=(j:Int):=by omega
          have al:j<N:=by omega
          clear hj;clear aa;go_wp2
          go_quiet (first | (go_at_call 168;refine Calls.quiet_of_same (Qb9 _ _ (by unfold I64;omega))))
          go_wp2;go_roundw
          case rel=>exact ⟨Qao HB _,k+1,by omega,by go_num,HE,by have:=af.out;omega⟩
          case measure=>simp [Go.RowKit.intOf];omega
      · have HE:Hid (true=QaT L):=(by rw [HF.out,HR.out,List.drop_eq_nil_of_le (by have:=HN.out;omega)];rfl:true=QaT L)
        clear ac;go_wp2;go_ret;exact ⟨Qel HE,HB⟩
  · have HE:Hid (false=QaT L):=(by simp [QaT,hn];intro h;omega:false=QaT L)
    clear hA hok hn;go_enter func164,ntmps164;go_wp2;go_ret;exact ⟨Qel HE,Below.refl _ _⟩
def skB (P N:List Bn):Bool:=QaT P && QaT N
theorem Qgu {P N:List Bn} (hp:P.length=pn) (hn:N.length=nn) (lp:pn<=1048576) (ln:nn<=1048576) (hP:QaS w pa P) (hN:QaS w na N) (kP:∀ x∈P,Qci x) (kN:∀ x∈N,Qci x) :
    Calls prog 302 #[.agg #[.int .u64 z,.slice pa pn pc,.slice na nn nc,.int .i64 h,.int .u64 l]] w fun e w'=>e=.returned (.bool (skB P N))/\Bw w w':=by
  have HP:=Qaa hP;have HN:=Qaa hN;have KP:=Qaa kP;have KN:=Qaa kN;have hW:∀ o1,Bw w (w.alloc o1):=fun o1=>bA;have HW:=Qaa hW;have hz:∀ o1,(w.alloc o1).heap.size=w.heap.size+1:=fun o1=>by simp
  clear hP hN kP kN hW;by_cases hr:QaT P=true
  · have HF:Hid (skB P N=QaT N):=(by simp [skB,hr]:skB P N=QaT N)
    go_enter func302,ntmps302;go_wp2_with fail;refine (Qc8 _ _ hp lp (Qaj HP (HW.out _)) KP).mono ?_;rintro e w1 ⟨rfl,aa⟩;obtain ⟨ae,_⟩:=QhH aa;have ac:=(HW.out _).trans (aa.mono (by simp));simp at ae;have ab:=Qaa ac;clear aa ac;go_wp2_with fail;refine (Qc8 _ _ hn ln (Qaj HN ab) KN).mono ?_;rintro e w2 ⟨rfl,ad⟩;have af:=Qaa (Qac ab ad);clear ad;go_wp2;go_ret;exact ⟨Qel HF.symm,af⟩
  · have hr:QaT P=false:=by simpa using hr
    have HF:Hid (false=skB P N):=(by simp [skB,hr]:false=skB P N);go_enter func302,ntmps302;go_wp2_with fail;refine (Qc8 _ _ hp lp (Qaj HP (HW.out _)) KP).mono ?_;rintro e w1 ⟨rfl,aa⟩;have ab:=Qaa ((HW.out _).trans (aa.mono (by simp)));clear aa;go_wp2;go_ret;exact ⟨Qel HF,ab⟩
theorem Qgz {P N:List Bn} (hp:P.length=pn) (hn:N.length=nn) (lp:pn<=1048576) (ln:nn<=1048576) (hP:QaS w pa P) (hN:QaS w na N) (kP:∀ x∈P,Qci x) (kN:∀ x∈N,Qci x) :
    Calls prog 120 #[.agg #[.int .u64 z,.slice pa pn pc,.slice na nn nc,.int .i64 h,.int .u64 l]] w fun e w'=>e=.returned (.bool (skB P N))/\Bw w w':=by
  have HP:=Qaa hP;have HN:=Qaa hN;have KP:=Qaa kP;have KN:=Qaa kN;have hW:∀ o1,Bw w (w.alloc o1):=fun o1=>bA;have HW:=Qaa hW;clear hP hN kP kN hW;by_cases hr:QaT P=true
  · have HF:Hid (skB P N=QaT N):=(by simp [skB,hr]:skB P N=QaT N)
    go_enter func120,ntmps120;go_wp2_with fail;refine (Qef _ _ hp lp (Qaj HP (HW.out _)) KP).mono ?_;rintro e w1 ⟨rfl,aa⟩;obtain ⟨ae,_⟩:=QhH aa;have ac:=(HW.out _).trans (aa.mono (by simp));simp at ae;have ab:=Qaa ac;clear aa ac;go_wp2_with fail;refine (Qef _ _ hn ln (Qaj HN ab) KN).mono ?_;rintro e w2 ⟨rfl,ad⟩;have af:=Qaa (Qac ab ad);clear ad;go_wp2;go_ret;exact ⟨Qel HF.symm,af⟩
  · have hr:QaT P=false:=by simpa using hr
    have HF:Hid (false=skB P N):=(by simp [skB,hr]:false=skB P N);go_enter func120,ntmps120;go_wp2_with fail;refine (Qef _ _ hp lp (Qaj HP (HW.out _)) KP).mono ?_;rintro e w1 ⟨rfl,aa⟩;have ab:=Qaa ((HW.out _).trans (aa.mono (by simp)));clear aa;go_wp2;go_ret;exact ⟨Qel HF,ab⟩
def upN:List Int->Bool
  | []=>true
  | [_]=>true
  | a :: b :: r=>decide (a<b) && upN (b :: r)
variable {L N P:List Int}
theorem QuM (h:L[k]?=some a) (g:L[k+1]?=some b):upN (L.drop k)=(decide (a<b) && upN (L.drop (k+1))):=by
  have hk:=(List.getElem?_eq_some_iff.1 h).1;have gk:=(List.getElem?_eq_some_iff.1 g).1;rw [List.drop_eq_getElem_cons hk,(List.getElem?_eq_some_iff.1 h).2,List.drop_eq_getElem_cons gk,(List.getElem?_eq_some_iff.1 g).2];rfl
theorem QsM (h:L.length<=k+1):upN (L.drop k)=true:=by
  have hl:(L.drop k).length<=1:=by rw [List.length_drop];omega
  match h2:L.drop k,hl with
  | [],_=>rfl
  | [_],_=>rfl
  | _ :: _ :: _,h=>simp at h
def inR (x:Int):Bool:=decide (0<=x) && decide (x<=55)
theorem Qso (h:L[k]?=some a):(L.drop k).all inR=(inR a && (L.drop (k+1)).all inR):=by
  have hk:=(List.getElem?_eq_some_iff.1 h).1;rw [List.drop_eq_getElem_cons hk,(List.getElem?_eq_some_iff.1 h).2];rfl
def exB (E:List Int):Bool:=decide (E.length<=40) && upN E
def Qhm (R:List Int):Bool:=decide (R.length=64) && R.all inR
def hlB (E R:List Int):Bool:=if R.length=0 then exB E else decide (E.length=0) && Qhm R
variable {B:Bool}
theorem QmW (h:L[k]?=some a) (g:L[k+1]?=some b) (e:B=upN (L.drop k)):(b<=a->false=B)/\(¬ b<=a->B=upN (L.drop (k+1))):=by
  rw [QuM h g] at e;exact ⟨fun q=>by rw [e,decide_eq_false (by omega)];rfl,fun q=>by rw [e,decide_eq_true (by omega),Bool.true_and]⟩
theorem QmA (h:L[k]?=some a) (e:B=(L.drop k).all inR):(a<0∨55<a->false=B)/\(0<=a->a<=55->B=(L.drop (k+1)).all inR):=by
  rw [Qso h] at e;unfold inR at e
  exact ⟨fun q => by rw [e]; rcases q with q | q
                     · rw [decide_eq_false (by omega)];rfl
                     · rw [decide_eq_false (p:=a<=55) (by omega),Bool.and_false];rfl,fun q q'=>by rw [e,decide_eq_true q,decide_eq_true q'];rfl⟩
theorem QhC (cap N:Nat) (hn:L.length=N) (hl:N<=1048576) (hA:QaG .u64 w ao L) :
    Calls prog 309 #[.slice ao N cap] w fun e w'=>e=.returned (.bool (exB L))/\Bw w w':=by
  have HA:=Qaa hA;have HN:=Qaa hn;by_cases ae:N<=40
  · have HF:Hid (exB L=upN L):=(by simp [exB,hn,ae]:exB L=upN L)
    clear hA hn;go_enter func309,ntmps309;go_wp2
    go_loopw [9] (fun i wr=>Bw w wr/\∃ (k:Nat),k<=N/\i=.int .i64 k/\Hid (exB L=upN (L.drop (k - 1)))) (fun i wr=>N - (Go.RowKit.intOf i).toNat)
    case atStart=>exact ⟨Below.refl _ _,0,Nat.zero_le _,rfl,HF⟩
    case round=>
      obtain ⟨ab,k,hk,rfl,HR⟩:=hrel;have HB:=Qaa ab;by_cases ak:k<N
      · obtain ⟨u,ac⟩:∃ a,L[k]?=some a:=⟨L[k]'(by have:=HN.out;omega),List.getElem?_eq_getElem _⟩
        obtain ⟨b,ai,rfl,aa⟩:=HA.out (by have:=HN.out;omega);have ah:=Qab ab (aa k _ ac);by_cases af:k=0
        · subst af
          clear ab aa ac;go_wp2
          go_quiet (fail)
          go_wp2;go_roundw
          case rel=>exact ⟨Qao HB _,1,by omega,by go_num,HR⟩
          case measure=>simp [Go.RowKit.intOf];omega
        · obtain ⟨j,rfl⟩:∃ j,k=j+1:=⟨k - 1,by omega⟩
          obtain ⟨a,ad⟩:∃ a,L[j]?=some a:=⟨L[j]'(by have:=HN.out;omega),List.getElem?_eq_getElem _⟩;have ag:=Qab ab (aa j _ ad);have HU:=Qaa (QmW ad ac HR);clear ab aa ac ad HR;have aj:((j+1:Nat):Int) - 1=(j:Int):=by omega
          by_cases q:u<=a
          · have d1:decide (u<=a)=true:=decide_eq_true q
            go_wp2
            go_quiet (fail)
            go_wp2;go_ret;exact ⟨Qa6 (HU.1 q),Qao HB _⟩
          · have d1:decide (u<=a)=false:=decide_eq_false q
            go_wp2
            go_quiet (fail)
            go_wp2;go_roundw
            case rel=>exact ⟨Qao HB _,j+1+1,by omega,by go_num,HU.2 q⟩
            case measure=>simp [Go.RowKit.intOf];omega
      · have HE:Hid (true=exB L):=(by rw [HR.out,QsM (by have:=HN.out;omega)]:true=exB L)
        clear ab;go_wp2;go_ret;exact ⟨Qa6 HE,HB⟩
  · have HE:Hid (false=exB L):=(by simp [exB,hn];intro h;omega:false=exB L)
    clear hA hn;go_enter func309,ntmps309;go_wp2;go_ret;exact ⟨Qa6 HE,Below.refl _ _⟩
theorem Qjd (cap N:Nat) (hn:L.length=N) (hl:N<=1048576) (hA:QaG .i64 w ao L) :
    Calls prog 310 #[.slice ao N cap] w fun e w'=>e=.returned (.bool (Qhm L))/\Bw w w':=by
  have HA:=Qaa hA;have HN:=Qaa hn;by_cases ad:N=64
  · subst ad
    have HF:Hid (Qhm L=L.all inR):=(by simp [Qhm,hn]:Qhm L=L.all inR);clear hA hn;go_enter func310,ntmps310;go_wp2
    go_loopw [10] (fun i wr=>Bw w wr/\∃ (k:Nat),k<=64/\i=.int .i64 k/\Hid (Qhm L=(L.drop k).all inR)) (fun i wr=>64 - (Go.RowKit.intOf i).toNat)
    case atStart=>exact ⟨Below.refl _ _,0,Nat.zero_le _,rfl,HF⟩
    case round=>
      obtain ⟨aa,k,hk,rfl,HR⟩:=hrel;have HB:=Qaa aa;by_cases ag:k<64
      · obtain ⟨u,ac⟩:∃ a,L[k]?=some a:=⟨L[k]'(by have:=HN.out;omega),List.getElem?_eq_getElem _⟩
        obtain ⟨b,af,rfl,ab⟩:=HA.out (by have:=HN.out;omega);have ae:=Qab aa (ab k _ ac);have HU:=Qaa (QmA ac HR);clear aa ab ac HR;by_cases q:u<0
        · have d1:decide (u<0)=true:=decide_eq_true q
          go_wp2;go_ret;exact ⟨Qa6 (HU.1 (.inl q)),HB⟩
        · have d1:decide (u<0)=false:=decide_eq_false q
          by_cases q2:55<u
          · have d2:decide (55<u)=true:=decide_eq_true q2
            go_wp2;go_ret;exact ⟨Qa6 (HU.1 (.inr q2)),HB⟩
          · have d2:decide (55<u)=false:=decide_eq_false q2
            go_wp2;go_roundw
            case rel=>exact ⟨HB,k+1,by omega,by go_num,HU.2 (by omega) (by omega)⟩
            case measure=>simp [Go.RowKit.intOf];omega
      · have HE:Hid (true=Qhm L):=(by rw [HR.out,List.drop_eq_nil_of_le (by have:=HN.out;omega)];rfl:true=Qhm L)
        clear aa;go_wp2;go_ret;exact ⟨Qa6 HE,HB⟩
  · have HE:Hid (false=Qhm L):=(by simp [Qhm,hn,ad]:false=Qhm L)
    have hb:((N:Int) == 64)=false:=beq_eq_false_iff_ne.2 (by omega);clear hA hn;go_enter func310,ntmps310;go_wp2;go_ret;exact ⟨Qa6 HE,Below.refl _ _⟩
theorem Qjt (hp:P.length=pn) (hn:N.length=nn) (lp:pn<=1048576) (ln:nn<=1048576) (hP:QaG .u64 w pa P) (hN:QaG .i64 w na N) :
    Calls prog 308 #[.agg #[.slice pa pn pc,.slice na nn nc]] w fun e w'=>e=.returned (.bool (hlB P N))/\Bw w w':=by
  have HP:=Qaa hP;have HN:=Qaa hN;have hW:∀ o1,Bw w (w.alloc o1):=fun o1=>bA;have HW:=Qaa hW;clear hP hN hW;by_cases h0:nn=0
  · subst h0
    have HF:Hid (exB P=hlB P N):=(by simp [hlB,hn]:exB P=hlB P N);go_enter func308,ntmps308;go_wp2_with fail;refine (QhC _ _ hp lp (Qak HP (HW.out _))).mono ?_;rintro e w1 ⟨rfl,aa⟩;have ab:=Qaa (Qac (HW.out _) aa);clear aa;go_wp2;go_ret;exact ⟨Qa6 HF,ab⟩
  · have ac:((nn:Int) == 0)=false:=beq_eq_false_iff_ne.2 (by omega)
    by_cases h1:pn=0
    · subst h1
      have HF:Hid (Qhm N=hlB P N):=(by simp [hlB,hn,h0,hp]:Qhm N=hlB P N);go_enter func308,ntmps308;go_wp2_with fail;refine (Qjd _ _ hn ln (Qak HN (HW.out _))).mono ?_;rintro e w1 ⟨rfl,aa⟩;have ab:=Qaa (Qac (HW.out _) aa);clear aa;go_wp2;go_ret;exact ⟨Qa6 HF,ab⟩
    · have aa:((pn:Int) == 0)=false:=beq_eq_false_iff_ne.2 (by omega)
      have HF:Hid (false=hlB P N):=(by simp [hlB,hn,h0,hp,h1]:false=hlB P N);go_enter func308,ntmps308;go_wp2;go_ret;exact ⟨Qa6 HF,HW.out _⟩
theorem QkP (n lo hi:Int) (w:World) (hn:I64 n) :
    Calls prog 33 #[.int .i64 n,.int .i64 lo,.int .i64 hi] w fun e w'=>e=.returned (.bool (decide (lo<=n) && decide (n<=hi)))/\w'=w:=by
  by_cases h:lo<=n
  · have d1:decide (lo<=n)=true:=decide_eq_true h
    go_enter func33,ntmps33;go_wp2;go_ret;exact ⟨Qa6 (by rw [d1,Bool.true_and]),rfl⟩
  · have d1:decide (lo<=n)=false:=decide_eq_false h
    go_enter func33,ntmps33;go_wp2;go_ret;exact ⟨rfl,rfl⟩
theorem Qkx (hp:P.length=pn) (hn:N.length=nn) (lp:pn<=1048576) (ln:nn<=1048576) (hP:QaG .u64 w pa P) (hN:QaG .i64 w na N) (kN:∀ x∈N,I64 x) :
    Calls prog 121 #[.agg #[.slice pa pn pc,.slice na nn nc]] w fun e w'=>e=.returned (.bool (hlB P N))/\Bw w w':=by
  have HP:=Qaa hP;have HN:=Qaa hN;have EP:=Qaa hp;have EN:=Qaa hn;have KN:=Qaa kN;have hW:∀ o1,Bw w (w.alloc o1):=fun o1=>bA;have HW:=Qaa hW;clear hP hN hW kN;by_cases h0:nn=0
  · subst h0
    have HF:Hid (hlB P N=(decide (pn<=40) && upN P)):=(by simp [hlB,hn,exB,hp]:hlB P N=(decide (pn<=40) && upN P));clear hp hn;go_enter func121,ntmps121;go_wp2
    go_loopw [3] (fun i wr=>Bw w wr/\Qcw wr w.heap.size (.slice pa pn pc) (.slice na 0 nc)/\∃ (k:Nat),(k<=pn∨k=1)/\1<=k/\i=.int .i64 k/\Hid (upN P=upN (P.drop (k - 1)))) (fun i wr=>pn - (Go.RowKit.intOf i).toNat)
    case atStart=>exact ⟨HW.out _,QjY _ _ _ _,1,.inr rfl,Nat.le_refl _,rfl,(rfl:upN P=upN (P.drop 0))⟩
    case round=>
      obtain ⟨aa,hK,k,hk,al,rfl,HR⟩:=hrel;have HB:=Qaa aa;have HK:=Qaa hK;by_cases ag:k<pn
      · obtain ⟨j,rfl⟩:∃ j,k=j+1:=⟨k - 1,by omega⟩
        obtain ⟨u,ac⟩:∃ a,P[j+1]?=some a:=⟨P[j+1]'(by have:=EP.out;omega),List.getElem?_eq_getElem _⟩;obtain ⟨a,ad⟩:∃ a,P[j]?=some a:=⟨P[j]'(by have:=EP.out;omega),List.getElem?_eq_getElem _⟩;obtain ⟨b,af,rfl,ab⟩:=HP.out (by have:=EP.out;omega);have ae:=Qab aa (ab _ _ ac);have ah:=Qab aa (ab j _ ad);have HU:=Qaa (QmW ad ac HR);have aj:((j+1:Nat):Int) - 1=(j:Int):=by omega
        clear aa ab ac ad HR;by_cases q:u<=a
        · have d1:decide (u<=a)=true:=decide_eq_true q
          have HE:Hid (false=hlB P N):=(by rw [HF.out,<- HU.1 q,Bool.and_false]:false=hlB P N);go_wp2
          go_quiet (fail)
          go_wp2;go_ret;exact ⟨Qa6 HE,Qao HB _⟩
        · have d1:decide (u<=a)=false:=decide_eq_false q
          go_wp2
          go_quiet (fail)
          go_wp2;go_roundw
          case rel=>exact ⟨Qao HB _,HK,j+1+1,by omega,by omega,by go_num,HU.2 q⟩
          case measure=>simp [Go.RowKit.intOf];omega
      · have HE:Hid (decide ((pn:Int)<=40)=hlB P N):=(by rw [HF.out,HR.out,QsM (by have:=EP.out;omega),Bool.and_true];exact decide_eq_decide.2 (by omega):decide ((pn:Int)<=40)=hlB P N)
        clear aa;go_wp2;go_ret;exact ⟨Qa6 HE,HB⟩
  · have ak:((nn:Int) == 0)=false:=beq_eq_false_iff_ne.2 (by omega)
    have HF:Hid (hlB P N=(decide (pn=0) && (decide (nn=64) && N.all inR))):=(by simp [hlB,hn,h0,hp,Qhm]:hlB P N=(decide (pn=0) && (decide (nn=64) && N.all inR)));clear hp hn;go_enter func121,ntmps121;go_wp2
    go_loopw [4] (fun i wr=>Bw w wr/\Qcw wr w.heap.size (.slice pa pn pc) (.slice na nn nc)/\∃ (k:Nat),k<=nn/\i=.int .i64 k/\Hid (N.all inR=(N.drop k).all inR)) (fun i wr=>nn - (Go.RowKit.intOf i).toNat)
    case atStart=>exact ⟨HW.out _,QjY _ _ _ _,0,Nat.zero_le _,rfl,(rfl:N.all inR=(N.drop 0).all inR)⟩
    case round=>
      obtain ⟨aa,hK,k,hk,rfl,HR⟩:=hrel;have HB:=Qaa aa;have HK:=Qaa hK;by_cases ag:k<nn
      · obtain ⟨u,ac⟩:∃ a,N[k]?=some a:=⟨N[k]'(by have:=EN.out;omega),List.getElem?_eq_getElem _⟩
        obtain ⟨b,af,rfl,ab⟩:=HN.out (by have:=EN.out;omega);have ae:=Qab aa (ab k _ ac);have hu:=KN.out _ (List.mem_of_getElem? ac);have HU:=Qaa (QmA ac HR);clear aa ab ac HR;by_cases q:0<=u/\u<=55
        · have d1:(decide (0<=u) && decide (u<=55))=true:=by simp [q.1,q.2]
          have HQ:=Qaa q;clear q;go_wp2_with (go_at_call 33;refine (QkP _ _ _ _ hu).mono ?_;rintro e w1 ⟨rfl,rfl⟩;rw [d1]);go_roundw
          case rel=>exact ⟨HB,HK,k+1,by omega,by go_num,HU.2 HQ.1 HQ.2⟩
          case measure=>simp [Go.RowKit.intOf];omega
        · have d1:(decide (0<=u) && decide (u<=55))=false:=by rw [Bool.eq_false_iff];intro h;simp at h;exact q h
          have HE:Hid (false=hlB P N):=(by rw [HF.out,<- HU.1 (by omega),Bool.and_false,Bool.and_false]:false=hlB P N);clear q;go_wp2_with (go_at_call 33;refine (QkP _ _ _ _ hu).mono ?_;rintro e w1 ⟨rfl,rfl⟩;rw [d1]);go_ret;exact ⟨Qa6 HE,HB⟩
      · have hE:hlB P N=(decide (pn=0) && decide (nn=64)):=by rw [HF.out,HR.out,List.drop_eq_nil_of_le (by have:=EN.out;omega)];simp
        by_cases h1:pn=0
        · subst h1
          have HE:Hid (((nn:Int) == 64)=hlB P N):=(by rw [hE];simp only [decide_true,Bool.true_and];by_cases h:nn=64 <;> simp [h] <;> omega:((nn:Int) == 64)=hlB P N);clear aa hE;go_wp2;go_ret;exact ⟨Qa6 HE,HB⟩
        · have HE:Hid (false=hlB P N):=(by rw [hE,decide_eq_false h1];rfl:false=hlB P N)
          have ai:((pn:Int) == 0)=false:=beq_eq_false_iff_ne.2 (by omega);clear aa hE;go_wp2;go_ret;exact ⟨Qa6 HE,HB⟩
def Qn4 (v:Int):Bool:=decide (-999999999999999999<=v) && decide (v<=999999999999999999)
def Qny (a t:Int):Bool:=if t=-1 then decide (a=0) else decide (0<=t) && decide (t<=1000000000) && Qn4 a
theorem Qjg (v:Int) (w:World):Calls prog 298 #[.int .i64 v] w fun e w'=>e=.returned (.bool (Qn4 v))/\w'=w:=by
  by_cases h1:-999999999999999999<=v <;> by_cases h2:v<=999999999999999999 <;> (go_enter func298,ntmps298;go_wp2;go_ret;exact ⟨by simp [Qn4,h1,h2],rfl⟩)
theorem Qf4 (n lo hi:Int) (w:World):Calls prog 33 #[.int .i64 n,.int .i64 lo,.int .i64 hi] w fun e w'=>e=.returned (.bool (decide (lo<=n) && decide (n<=hi)))/\w'=w:=by
  by_cases h1:lo<=n <;> by_cases h2:n<=hi <;> (go_enter func33,ntmps33;go_wp2;go_ret;exact ⟨by simp [h1,h2],rfl⟩)
theorem Qlb (v:Int) (w:World):Calls prog 124 #[.int .i64 v] w fun e w'=>e=.returned (.bool (Qn4 v))/\w'=w:=by
  go_enter func124,ntmps124;go_wp2_with (go_at_call 33;refine (Qf4 _ _ _ _).mono ?_;rintro e w1 ⟨rfl,aa⟩;obtain rfl:=aa);go_ret;exact ⟨rfl,rfl⟩
theorem Qsa (h l:Int) (w:World):Calls prog 294 #[.agg #[.int .i64 h,.int .u64 l]] w fun e w'=>e=.returned (.bool true)/\Bw w w':=by
  go_enter func294,ntmps294;go_wp2;go_ret;exact ⟨rfl,(Below.refl _ _).alloc (Nat.le_refl _) _⟩
theorem QrM (a t:Int) (w:World):Calls prog 297 #[.agg #[.int .i64 a,.int .i64 t]] w fun e w'=>e=.returned (.bool (Qny a t))/\Bw w w':=by
  by_cases h1:t=-1
  · have b1:(t == -1)=true:=by simp [h1]
    have HE:Hid (decide (a=0)=Qny a t):=by unfold Qny;rw [if_pos h1];rfl
    clear h1;by_cases h2:a=0
    · go_enter func297,ntmps297
      go_wp2;go_ret;exact ⟨by rw [<- HE.out];simp [h2],(Below.refl _ _).alloc (Nat.le_refl _) _⟩
    · have b2:(a == 0)=false:=beq_eq_false_iff_ne.2 h2
      go_enter func297,ntmps297;go_wp2;go_ret;exact ⟨by rw [<- HE.out];simp [h2],(Below.refl _ _).alloc (Nat.le_refl _) _⟩
  · have b1:(t == -1)=false:=beq_eq_false_iff_ne.2 h1
    have HE:Hid ((decide (0<=t) && decide (t<=1000000000) && Qn4 a)=Qny a t):=by unfold Qny;rw [if_neg h1];rfl
    clear h1;have HB:Hid (∀ o,Bw w (w.alloc o)):=fun o=>(Below.refl _ _).alloc (Nat.le_refl _) o;by_cases h2:0<=t
    · by_cases h3:t<=1000000000
      · have aa:Hid (Qn4 a=Qny a t):=by have:=HE.out;simp [h2,h3] at this;exact this
        go_enter func297,ntmps297;go_wp2_with (go_at_call 298;refine (Qjg _ _).mono ?_;rintro e w1 ⟨rfl,hw⟩;subst hw);go_ret;exact ⟨Qat aa,HB.out _⟩
      · have aa:Hid (false=Qny a t):=by have:=HE.out;simp [h2,h3] at this;exact this.symm
        go_enter func297,ntmps297;go_wp2;go_ret;exact ⟨Qat aa,HB.out _⟩
    · have aa:Hid (false=Qny a t):=by have:=HE.out;simp [h2] at this;exact this.symm
      go_enter func297,ntmps297;go_wp2;go_ret;exact ⟨Qat aa,HB.out _⟩
theorem taCC (v:Value) (w:World):(Instr.typeAssert (.iface 254 v) 240 254 true).run prog w=.ok (.tuple #[v,.bool true]) w:=by kernel_rfl
theorem taGC (v:Value) (w:World):(Instr.typeAssert (.iface 256 v) 240 254 true).run prog w=.ok (.tuple zAj) w:=by kernel_rfl
theorem taGG (v:Value) (w:World):(Instr.typeAssert (.iface 256 v) 240 256 true).run prog w=.ok (.tuple #[v,.bool true]) w:=by kernel_rfl
theorem taHC (v:Value) (w:World):(Instr.typeAssert (.iface 258 v) 240 254 true).run prog w=.ok (.tuple zAj) w:=by kernel_rfl
theorem taHG (v:Value) (w:World):(Instr.typeAssert (.iface 258 v) 240 256 true).run prog w=.ok (.tuple #[.agg #[.int .i64 0,.int .i64 0],.bool false]) w:=by kernel_rfl
theorem taHH (v:Value) (w:World):(Instr.typeAssert (.iface 258 v) 240 258 true).run prog w=.ok (.tuple #[v,.bool true]) w:=by kernel_rfl
theorem taSC (v:Value) (w:World):(Instr.typeAssert (.iface 260 v) 240 254 true).run prog w=.ok (.tuple zAj) w:=by kernel_rfl
theorem taSG (v:Value) (w:World):(Instr.typeAssert (.iface 260 v) 240 256 true).run prog w=.ok (.tuple #[.agg #[.int .i64 0,.int .i64 0],.bool false]) w:=by kernel_rfl
theorem taSH (v:Value) (w:World):(Instr.typeAssert (.iface 260 v) 240 258 true).run prog w=.ok (.tuple #[.agg #[.int .u64 0,.slice none 0 0,.slice none 0 0,.int .i64 0,.int .u64 0],.bool false]) w:=by kernel_rfl
theorem taSS (v:Value) (w:World):(Instr.typeAssert (.iface 260 v) 240 260 true).run prog w=.ok (.tuple #[v,.bool true]) w:=by kernel_rfl
variable {g:Ag}
variable {p:Pl}
theorem Qov (w:World) (h:g.k=1):Calls prog 205 #[.agg (QaC g p)] w fun e w'=>e=.returned (.iface 254 (.agg #[.int .i64 g.h,.int .u64 g.l]))/\Bw w w':=by
  have b1:(g.k == 1)=true:=by simp [h]
  clear h;go_enter func205,ntmps205;go_wp2;go_ret;exact ⟨rfl,(Below.refl _ _).alloc (Nat.le_refl _) _⟩
theorem QnL (g:Ag) (p:Pl) (w:World):Calls prog 207 #[.int .u64 g.s,.iface 254 (.agg #[.int .i64 g.h,.int .u64 g.l])] w fun e w'=>e=.returned (.agg (QaC ⟨1,g.s,g.h,g.l,0,0,0,[],[],0,0,[],[]⟩ ⟨none,0,none,0,none,0,none,0⟩))/\Bw w w':=by
  have tC:=taCC (.agg #[.int .i64 g.h,.int .u64 g.l]);go_enter func207,ntmps207;go_wp2;exact bodyPost_ret (v:=.agg #[.int .i64 1,.int .u64 g.s,.int .i64 g.h,.int .u64 g.l,.int .i64 0,.int .i64 0,.int .u64 0,.slice none 0 0,.slice none 0 0,.int .i64 0,.int .u64 0,.slice none 0 0,.slice none 0 0]) (by simp [results,results207,go_sem]) rfl ⟨rfl,((Below.refl _ _).alloc (Nat.le_refl _) _).alloc (by simp) _⟩
theorem Qp1 (w:World) (h:g.k=2):Calls prog 205 #[.agg (QaC g p)] w fun e w'=>e=.returned (.iface 256 (.agg #[.int .i64 g.a,.int .i64 g.t]))/\Bw w w':=by
  have b1:(g.k == 1)=false:=beq_eq_false_iff_ne.2 (by omega);have b2:(g.k == 2)=true:=by simp [h]
  clear h;go_enter func205,ntmps205;go_wp2;go_ret;exact ⟨rfl,(Below.refl _ _).alloc (Nat.le_refl _) _⟩
theorem Qnt (g:Ag) (p:Pl) (w:World):Calls prog 207 #[.int .u64 g.s,.iface 256 (.agg #[.int .i64 g.a,.int .i64 g.t])] w fun e w'=>e=.returned (.agg (QaC ⟨2,g.s,0,0,g.a,g.t,0,[],[],0,0,[],[]⟩ ⟨none,0,none,0,none,0,none,0⟩))/\Bw w w':=by
  have tC:=taGC (.agg #[.int .i64 g.a,.int .i64 g.t]);have tG:=taGG (.agg #[.int .i64 g.a,.int .i64 g.t]);go_enter func207,ntmps207;go_wp2;exact bodyPost_ret (v:=.agg #[.int .i64 2,.int .u64 g.s,.int .i64 0,.int .u64 0,.int .i64 g.a,.int .i64 g.t,.int .u64 0,.slice none 0 0,.slice none 0 0,.int .i64 0,.int .u64 0,.slice none 0 0,.slice none 0 0]) (by simp [results,results207,go_sem]) rfl ⟨rfl,((Below.refl _ _).alloc (Nat.le_refl _) _).alloc (by simp) _⟩
theorem Qo9 (w:World) (h:g.k=3):Calls prog 205 #[.agg (QaC g p)] w fun e w'=>e=.returned (.iface 258 (.agg #[.int .u64 g.z,.slice p.pa g.P.length p.pc,.slice p.na g.N.length p.nc,.int .i64 g.x,.int .u64 g.y]))/\Bw w w':=by
  have b1:(g.k == 1)=false:=beq_eq_false_iff_ne.2 (by omega);have b2:(g.k == 2)=false:=beq_eq_false_iff_ne.2 (by omega);have b3:(g.k == 3)=true:=by simp [h]
  clear h;go_enter func205,ntmps205;go_wp2;go_ret;exact ⟨rfl,(Below.refl _ _).alloc (Nat.le_refl _) _⟩
theorem QnK (g:Ag) (p:Pl) (w:World):Calls prog 207 #[.int .u64 g.s,.iface 258 (.agg #[.int .u64 g.z,.slice p.pa g.P.length p.pc,.slice p.na g.N.length p.nc,.int .i64 g.x,.int .u64 g.y])] w fun e w'=>e=.returned (.agg (QaC ⟨3,g.s,0,0,0,0,g.z,g.P,g.N,g.x,g.y,[],[]⟩ ⟨p.pa,p.pc,p.na,p.nc,none,0,none,0⟩))/\Bw w w':=by
  have tC:=taHC (.agg #[.int .u64 g.z,.slice p.pa g.P.length p.pc,.slice p.na g.N.length p.nc,.int .i64 g.x,.int .u64 g.y]);have tG:=taHG (.agg #[.int .u64 g.z,.slice p.pa g.P.length p.pc,.slice p.na g.N.length p.nc,.int .i64 g.x,.int .u64 g.y]);have tH:=taHH (.agg #[.int .u64 g.z,.slice p.pa g.P.length p.pc,.slice p.na g.N.length p.nc,.int .i64 g.x,.int .u64 g.y]);go_enter func207,ntmps207;go_wp2;exact bodyPost_ret (v:=.agg #[.int .i64 3,.int .u64 g.s,.int .i64 0,.int .u64 0,.int .i64 0,.int .i64 0,.int .u64 g.z,.slice p.pa g.P.length p.pc,.slice p.na g.N.length p.nc,.int .i64 g.x,.int .u64 g.y,.slice none 0 0,.slice none 0 0]) (by simp [results,results207,go_sem]) rfl ⟨rfl,((Below.refl _ _).alloc (Nat.le_refl _) _).alloc (by simp) _⟩
theorem Qpn (w:World) (h:g.k=4):Calls prog 205 #[.agg (QaC g p)] w fun e w'=>e=.returned (.iface 260 (.agg #[.slice p.ea g.E.length p.ec,.slice p.ra g.R.length p.rc]))/\Bw w w':=by
  have b1:(g.k == 1)=false:=beq_eq_false_iff_ne.2 (by omega);have b2:(g.k == 2)=false:=beq_eq_false_iff_ne.2 (by omega);have b3:(g.k == 3)=false:=beq_eq_false_iff_ne.2 (by omega);have b4:(g.k == 4)=true:=by simp [h]
  clear h;go_enter func205,ntmps205;go_wp2;go_ret;exact ⟨rfl,(Below.refl _ _).alloc (Nat.le_refl _) _⟩
theorem QnJ (g:Ag) (p:Pl) (w:World):Calls prog 207 #[.int .u64 g.s,.iface 260 (.agg #[.slice p.ea g.E.length p.ec,.slice p.ra g.R.length p.rc])] w fun e w'=>e=.returned (.agg (QaC ⟨4,g.s,0,0,0,0,0,[],[],0,0,g.E,g.R⟩ ⟨none,0,none,0,p.ea,p.ec,p.ra,p.rc⟩))/\Bw w w':=by
  have tC:=taSC (.agg #[.slice p.ea g.E.length p.ec,.slice p.ra g.R.length p.rc]);have tG:=taSG (.agg #[.slice p.ea g.E.length p.ec,.slice p.ra g.R.length p.rc]);have tH:=taSH (.agg #[.slice p.ea g.E.length p.ec,.slice p.ra g.R.length p.rc]);have tS:=taSS (.agg #[.slice p.ea g.E.length p.ec,.slice p.ra g.R.length p.rc]);go_enter func207,ntmps207;go_wp2;exact bodyPost_ret (v:=.agg #[.int .i64 4,.int .u64 g.s,.int .i64 0,.int .u64 0,.int .i64 0,.int .i64 0,.int .u64 0,.slice none 0 0,.slice none 0 0,.int .i64 0,.int .u64 0,.slice p.ea g.E.length p.ec,.slice p.ra g.R.length p.rc]) (by simp [results,results207,go_sem]) rfl ⟨rfl,((Below.refl _ _).alloc (Nat.le_refl _) _).alloc (by simp) _⟩
theorem Qqv (w:World) (h1:¬ g.k=1) (h2:¬ g.k=2) (h3:¬ g.k=3) (h4:¬ g.k=4):Calls prog 205 #[.agg (QaC g p)] w fun e w'=>e=.returned .nilIface/\Bw w w':=by
  have b1:(g.k == 1)=false:=beq_eq_false_iff_ne.2 h1;have b2:(g.k == 2)=false:=beq_eq_false_iff_ne.2 h2;have b3:(g.k == 3)=false:=beq_eq_false_iff_ne.2 h3;have b4:(g.k == 4)=false:=beq_eq_false_iff_ne.2 h4;clear h1 h2 h3 h4;go_enter func205,ntmps205;go_wp2;go_ret;exact ⟨rfl,(Below.refl _ _).alloc (Nat.le_refl _) _⟩
end Go.Proofs.YtlejlgldgafljaaGreatDoor
