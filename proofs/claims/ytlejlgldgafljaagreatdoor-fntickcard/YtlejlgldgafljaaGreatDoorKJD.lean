/-
 Parts.
-/
import Derived.Test.YtlejlgldgafljaaGreatDoorKJB
set_option maxHeartbeats 4000000
set_option linter.all false
namespace Go.Proofs.YtlejlgldgafljaaGreatDoor
open Go.ChangeShapes Go.WideShapes Go.ChangeAt Go.RowKit Go.PlainAid Go.Lib Tryz
def Qc5 (v:Nat):Nat:=if h:v<256 then v else 128+Qc5 (v / 2)
termination_by v
decreasing_by omega
def lowW (a:Nat):Nat:=if h:a<256 then a else 2*lowW (a - 128)
termination_by a
decreasing_by omega
variable {k nc nn pc pn v:Nat}
theorem Qe7 (h:v<256):Qc5 v=v:=by rw [Qc5,dif_pos h]
theorem Qee (h:¬ v<256):Qc5 v=128+Qc5 (v / 2):=by rw [Qc5,dif_neg h]
theorem Qo0 (v:Nat):Qc5 v<=v:=by
  induction v using Nat.strongRecOn with
  | ind v ih=>
    by_cases h:v<256
    · rw [Qe7 h];exact Nat.le_refl _
    · rw [Qee h];have:=ih (v / 2) (by omega);omega
theorem Qoj (v:Nat):∀ w,v<=w->Qc5 v<=Qc5 w:=by
  induction v using Nat.strongRecOn with
  | ind v ih=>
    intro w hw;by_cases h:v<256
    · rw [Qe7 h]
      by_cases k:w<256
      · rw [Qe7 k];exact hw
      · have g:∀ x,128<=x->128<=Qc5 x:=by
          intro x
          induction x using Nat.strongRecOn with
          | ind x ix=>
            intro hx;by_cases z:x<256
            · rw [Qe7 z];exact hx
            · rw [Qee z];omega
        rw [Qee k];have:=g (w / 2) (by omega);omega
    · rw [Qee h,Qee (v:=w) (by omega)]
      have:=ih (v / 2) (by omega) (w / 2) (by omega);omega
theorem Qlq:Qc5 999999999999999999=6878:=by simp [Qc5]
theorem Qs2 (h:v<=999999999999999999):Qc5 v<=6878:=by have:=Qoj v _ h;rwa [Qlq] at this
def Qdf (v:Int):Int:=if 1<=v/\v<=999999999999999999 then (Qc5 v.toNat:Int) else 0
def lowI (a:Int):Int:=if 1<=a/\a<=7000 then (lowW a.toNat:Int) else 0
theorem QiA (v:Int):0<=Qdf v/\Qdf v<=6878:=by
  unfold Qdf
  split
  · have:=Qs2 (v:=v.toNat) (by omega);omega
  · omega
theorem QfS {v:Int} (h:1<=v) (h2:v<=999999999999999999):Qdf v=(Qc5 v.toNat:Int):=if_pos ⟨h,h2⟩
theorem Qop {v:Int} (h:¬ (1<=v/\v<=999999999999999999)):Qdf v=0:=if_neg h
set_option maxRecDepth 10000
variable {a b h l z:Int}
theorem Qrw (h:a=b):Ending.returned (.int .i64 a)=.returned (.int .i64 b):=by rw [h]
theorem Qln (n a b:Int) (w:World) (hn:I64 n) (ha:I64 a) (hb:I64 b) :
    Calls prog 33 #[.int .i64 n,.int .i64 a,.int .i64 b] w fun e w'=>e=.returned (.bool (decide (a<=n/\n<=b)))/\w'=w:=by
  unfold I64 at hn ha hb;by_cases h1:a<=n
  · by_cases h2:n<=b
    · have e:decide (a<=n/\n<=b)=true:=decide_eq_true ⟨h1,h2⟩
      rw [e];go_enter func33,ntmps33;go_wp2;go_ret;exact ⟨rfl,rfl⟩
    · have e:decide (a<=n/\n<=b)=false:=decide_eq_false (fun h=>h2 h.2)
      rw [e];go_enter func33,ntmps33;go_wp2;go_ret;exact ⟨rfl,rfl⟩
  · have e:decide (a<=n/\n<=b)=false:=decide_eq_false (fun h=>h1 h.1)
    rw [e];go_enter func33,ntmps33;go_wp2;go_ret;exact ⟨rfl,rfl⟩
theorem QbV (v:Int) (w:World) (hv:I64 v) :
    Calls prog 168 #[.int .i64 v] w fun e w'=>e=.returned (.int .i64 (Qdf v))/\w'=w:=by
  have aa:=hv;unfold I64 at hv;by_cases h:1<=v/\v<=999999999999999999
  · have e1:decide (1<=v/\v<=999999999999999999)=true:=decide_eq_true h
    have HB:Hid (Qdf v=(Qc5 v.toNat:Int)):=QfS h.1 h.2;have HL:Hid (Qc5 v.toNat<=v.toNat):=Qo0 _;obtain ⟨h1,h2⟩:=h;go_enter func168,ntmps168;go_wp2_with (go_at_call 33;refine (Qln _ _ _ _ aa (by unfold I64;omega) (by unfold I64;omega)).mono ?_;rintro e w1 ⟨rfl,rfl⟩;rw [e1]);clear e1
    go_loop [0,3] (fun x i=>∃ y k:Nat,x=.int .i64 y/\i=.int .i64 k/\1<=y/\y<=999999999999999999/\Hid (128*k+Qc5 y=Qc5 v.toNat)) (fun x i=>(Go.RowKit.intOf x).toNat)
    case atStart=>exact ⟨v.toNat,0,by rw [Int.toNat_of_nonneg (by omega)],rfl,by omega,by omega,(by omega:128*0+Qc5 v.toNat=Qc5 v.toNat)⟩
    case round=>
      obtain ⟨y,k,rfl,rfl,hy,ad,HR⟩:=hrel;have hk:k<=999999999999999999:=by have:=HR.out;have:=HL.out;omega
      obtain ⟨z,hz,ac,ab⟩:∃ z:Nat,Hid (y / 2=z)/\2*z<=y/\y<=2*z+1:=⟨y / 2,(rfl:y / 2=y / 2),by omega,by omega⟩;have hd:Int.tdiv (y:Int) 2=(z:Int):=by rw [<- hz.out];rfl
      by_cases ae:(y:Int)<256
      · have HF:Hid ((128*(k:Int)+(y:Int))=Qdf v):=by
          refine (?_:(128*(k:Int)+(y:Int))=Qdf v);rw [HB.out,<- HR.out,Qe7 (by omega)];omega
        have h9:128*k<=999999999999999999:=by have:=HR.out;have:=HL.out;omega
        go_wp2;go_ret;exact ⟨Qrw HF,rfl⟩
      · have HN:Hid (128*(k+1)+Qc5 z=Qc5 v.toNat):=by
          refine (?_:128*(k+1)+Qc5 z=Qc5 v.toNat);rw [<- HR.out,Qee (v:=y) (by omega),hz.out];omega
        go_wp2
        go_round
        case rel=>exact ⟨z,k+1,by rfl,by go_num,by omega,by omega,HN⟩
        case measure=>simp [Go.RowKit.intOf];omega
  · have e1:decide (1<=v/\v<=999999999999999999)=false:=decide_eq_false h
    have HB:Hid (0=Qdf v):=(Qop h).symm;clear h;go_enter func168,ntmps168;go_wp2_with (go_at_call 33;refine (Qln _ _ _ _ aa (by unfold I64;omega) (by unfold I64;omega)).mono ?_;rintro e w1 ⟨rfl,rfl⟩;rw [e1]);go_ret;exact ⟨Qrw HB,rfl⟩
theorem Qeq (v:Int) (w:World) (hv:I64 v) :
    Calls prog 304 #[.int .i64 v] w fun e w'=>e=.returned (.int .i64 (Qdf v))/\w'=w:=by
  have ab:=hv;unfold I64 at hv;by_cases h:1<=v/\v<=999999999999999999
  · have HB:Hid (Qdf v=(Qc5 v.toNat:Int)):=QfS h.1 h.2
    have HL:Hid (Qc5 v.toNat<=v.toNat):=Qo0 _;obtain ⟨h1,h2⟩:=h;go_enter func304,ntmps304;go_wp2
    go_loop [0,3] (fun x i=>∃ y k:Nat,x=.int .i64 y/\i=.int .i64 k/\1<=y/\y<=999999999999999999/\Hid (128*k+Qc5 y=Qc5 v.toNat)) (fun x i=>(Go.RowKit.intOf x).toNat)
    case atStart=>exact ⟨v.toNat,0,by rw [Int.toNat_of_nonneg (by omega)],rfl,by omega,by omega,(by omega:128*0+Qc5 v.toNat=Qc5 v.toNat)⟩
    case round=>
      obtain ⟨y,k,rfl,rfl,hy,aa,HR⟩:=hrel;have hk:k<=999999999999999999:=by have:=HR.out;have:=HL.out;omega
      obtain ⟨z,hz,ae,ad⟩:∃ z:Nat,Hid (y / 2=z)/\2*z<=y/\y<=2*z+1:=⟨y / 2,(rfl:y / 2=y / 2),by omega,by omega⟩;have hd:Int.tdiv (y:Int) 2=(z:Int):=by rw [<- hz.out];rfl
      by_cases ac:(y:Int)<256
      · have HF:Hid ((128*(k:Int)+(y:Int))=Qdf v):=by
          refine (?_:(128*(k:Int)+(y:Int))=Qdf v);rw [HB.out,<- HR.out,Qe7 (by omega)];omega
        have h9:128*k<=999999999999999999:=by have:=HR.out;have:=HL.out;omega
        go_wp2;go_ret;exact ⟨Qrw HF,rfl⟩
      · have HN:Hid (128*(k+1)+Qc5 z=Qc5 v.toNat):=by
          refine (?_:128*(k+1)+Qc5 z=Qc5 v.toNat);rw [<- HR.out,Qee (v:=y) (by omega),hz.out];omega
        go_wp2
        go_round
        case rel=>exact ⟨z,k+1,by rfl,by go_num,by omega,by omega,HN⟩
        case measure=>simp [Go.RowKit.intOf];omega
  · have HB:Hid (0=Qdf v):=(Qop h).symm
    have hc:v<1∨¬ v<1/\999999999999999999<v:=by omega
    clear h;rcases hc with h | ⟨h,h2⟩
    all_goals
      go_enter func304,ntmps304;go_wp2;go_ret;exact ⟨Qrw HB,rfl⟩
def Qbx:Int->List Bn->Bool
  | _,[]=>true
  | last,x :: r=>decide (last<x.1) && decide (x.1<=6878) && decide (x.2≠0) && Qbx x.1 r
def QaP (L:List Bn):Bool:=decide (L.length<=30) && Qbx 0 L
def Qfy (L:List Bn) (k:Nat):Int:=match k with
  | 0=>0
  | j+1=>match L[j]? with
    | some x=>x.1
    | none=>0
variable {x:Bn}
theorem Qho {L:List Bn} (h:L[k]?=some x):Qfy L (k+1)=x.1:=by simp [Qfy,h]
theorem Qi5 {L:List Bn} (h:L[k]?=some x) (q:Int):Qbx q (L.drop k)=(decide (q<x.1) && decide (x.1<=6878) && decide (x.2≠0) && Qbx x.1 (L.drop (k+1))):=by
  have hk:=(List.getElem?_eq_some_iff.1 h).1;rw [List.drop_eq_getElem_cons hk,(List.getElem?_eq_some_iff.1 h).2];rfl
theorem Qmk:Qdf 999999999999999999=6878:=by rw [QfS (by omega) (by omega)];exact congrArg Int.ofNat Qlq
theorem QdY {a b:Bool} (h:a=b):Ending.returned (.bool a)=.returned (.bool b):=by rw [h]
variable {w:World}
variable {ao na pa:Option Addr}
theorem QcX {L:List Bn} (cap N:Nat) (hn:L.length=N) (hl:N<=1048576) (hA:QaO w ao L) (hok:∀ x∈L,Qb4 x) :
    Calls prog 303 #[.slice ao N cap] w fun e w'=>e=.returned (.bool (QaP L))/\Below w.heap.size w w':=by
  have HA:=Qaa hA;have HK:=Qaa hok;have HN:=Qaa hn;have hM:=Qmk;by_cases ae:N<=30
  · have HF:Hid (QaP L=Qbx 0 L):=(by simp [QaP,hn,ae]:QaP L=Qbx 0 L)
    clear hA hok hn;go_enter func303,ntmps303;go_wp2
    go_loopw [3,11] (fun q i wr=>Below w.heap.size w wr/\∃ (k:Nat) (p:Int),k<=N/\i=.int .i64 k/\q=.int .i64 p/\Hid (Qbx 0 L=Qbx p (L.drop k))) (fun q i wr=>N - (Go.RowKit.intOf i).toNat)
    case atStart=>exact ⟨Below.refl _ _,0,0,Nat.zero_le _,rfl,rfl,(rfl:Qbx 0 L=Qbx 0 (L.drop 0))⟩
    case round=>
      obtain ⟨aa,k,p,hk,rfl,rfl,HR⟩:=hrel;have HB:=Qaa aa;by_cases am:k<N
      · obtain ⟨⟨a,u⟩,ac⟩:∃ a,L[k]?=some a:=⟨L[k]'(by have:=HN.out;omega),List.getElem?_eq_getElem _⟩
        obtain ⟨⟨ad,af⟩,ag,ah⟩:=HK.out _ (List.mem_of_getElem? ac);obtain ⟨b,al,rfl,ab⟩:=HA.out (by have:=HN.out;omega);have aj:=Qab aa (ab k _ ac).1;have ak:=Qab aa (ab k _ ac).2;have HD:=Qaa (Qi5 ac p);have hz:=aa.size;simp at ad af ag ah;clear aa ab ac;have ai:(a<=p)∨(¬ a<=p/\6878<a)∨(¬ a<=p/\¬ 6878<a/\u=0)∨(¬ a<=p/\¬ 6878<a/\u≠0):=by omega
        rcases ai with q1 | ⟨q1,q2⟩ | ⟨q1,q2,q3⟩ | ⟨q1,q2,q3⟩
        · have HE:Hid (false=QaP L):=(by rw [HF.out,HR.out,HD.out];simp;intro h;omega:false=QaP L)
          have d1:decide (a<=p)=true:=decide_eq_true q1;go_wp2
          go_quiet (first | (go_at_call 304;refine Calls.quiet_of_same (Qeq _ _ (by unfold I64;omega))))
          go_wp2;go_ret;exact ⟨QdY HE,Qao (HB.out.alloc hz _) _⟩
        · have HE:Hid (false=QaP L):=(by rw [HF.out,HR.out,HD.out];simp;intro _ h;omega:false=QaP L)
          have d1:decide (a<=p)=false:=decide_eq_false q1;have d2:decide (6878<a)=true:=decide_eq_true q2;go_wp2
          go_quiet (first | (go_at_call 304;refine Calls.quiet_of_same (Qeq _ _ (by unfold I64;omega))))
          go_wp2;go_ret;exact ⟨QdY HE,Qao (HB.out.alloc hz _) _⟩
        · have HE:Hid (false=QaP L):=(by rw [HF.out,HR.out,HD.out];simp [q3]:false=QaP L)
          have d1:decide (a<=p)=false:=decide_eq_false q1;have d2:decide (6878<a)=false:=decide_eq_false q2;subst q3;go_wp2
          go_quiet (first | (go_at_call 304;refine Calls.quiet_of_same (Qeq _ _ (by unfold I64;omega))))
          go_wp2;go_ret;exact ⟨QdY HE,Qao (HB.out.alloc hz _) _⟩
        · have HE:Hid (Qbx 0 L=Qbx a (L.drop (k+1))):=by
            refine (?_:Qbx 0 L=Qbx a (L.drop (k+1)));rw [HR.out,HD.out,decide_eq_true (by show p<a;omega),decide_eq_true (by show a<=6878;omega),decide_eq_true (by show u≠0;exact q3)];rfl
          have d1:decide (a<=p)=false:=decide_eq_false q1;have d2:decide (6878<a)=false:=decide_eq_false q2;have d3:(u == 0)=false:=beq_eq_false_iff_ne.2 q3;go_wp2
          go_quiet (first | (go_at_call 304;refine Calls.quiet_of_same (Qeq _ _ (by unfold I64;omega))))
          go_wp2;go_roundw
          case rel=>exact ⟨Qao (HB.out.alloc hz _) _,k+1,a,by omega,by go_num,rfl,HE⟩
          case measure=>simp [Go.RowKit.intOf];omega
      · have HE:Hid (true=QaP L):=(by rw [HF.out,HR.out,List.drop_eq_nil_of_le (by have:=HN.out;omega)];rfl:true=QaP L)
        clear aa;go_wp2;go_ret;exact ⟨QdY HE,HB⟩
  · have HE:Hid (false=QaP L):=(by simp [QaP,hn];intro h;omega:false=QaP L)
    clear hA hok hn;go_enter func303,ntmps303;go_wp2;go_ret;exact ⟨QdY HE,Below.refl _ _⟩
theorem Qeg {L:List Bn} (cap N:Nat) (hn:L.length=N) (hl:N<=1048576) (hA:QaO w ao L) (hok:∀ x∈L,Qb4 x) :
    Calls prog 164 #[.slice ao N cap] w fun e w'=>e=.returned (.bool (QaP L))/\Below w.heap.size w w':=by
  have HA:=Qaa hA;have HK:=Qaa hok;have HN:=Qaa hn;have hM:=Qmk;by_cases aj:N<=30
  · have HF:Hid (QaP L=Qbx 0 L):=(by simp [QaP,hn,aj]:QaP L=Qbx 0 L)
    clear hA hok hn;go_enter func164,ntmps164;go_wp2
    go_loopw [3] (fun i wr=>Below w.heap.size w wr/\∃ (k:Nat),k<=N/\i=.int .i64 k/\Hid (Qbx 0 L=Qbx (Qfy L k) (L.drop k))/\((k=0/\Qfy L k=0)∨(0<k/\1<=Qfy L k))) (fun i wr=>N - (Go.RowKit.intOf i).toNat)
    case atStart=>exact ⟨Below.refl _ _,0,Nat.zero_le _,rfl,(rfl:Qbx 0 L=Qbx 0 (L.drop 0)),.inl ⟨rfl,rfl⟩⟩
    case round=>
      obtain ⟨ac,k,hk,rfl,HR,aa⟩:=hrel;have HB:=Qaa ac;by_cases au:k<N
      · obtain ⟨⟨a,u⟩,ae⟩:∃ a,L[k]?=some a:=⟨L[k]'(by have:=HN.out;omega),List.getElem?_eq_getElem _⟩
        obtain ⟨⟨ai,an⟩,ap,ag⟩:=HK.out _ (List.mem_of_getElem? ae);obtain ⟨b,am,rfl,ab⟩:=HA.out (by have:=HN.out;omega);have aq:=Qab ac (ab k _ ae).1;have ar:=Qab ac (ab k _ ae).2;have HD:=Qaa (Qi5 ae (Qfy L k));have af:=Qaa (Qho ae)
        have ad:0<k->∃ j:Nat,k=j+1/\wr.cell? ⟨b,am+j*2,none⟩=some (.int .i64 (Qfy L k)):=fun h0=>by
          obtain ⟨j,rfl⟩:∃ j,k=j+1:=⟨k - 1,by omega⟩;obtain ⟨x,hx⟩:∃ a,L[j]?=some a:=⟨L[j]'(by have:=HN.out;omega),List.getElem?_eq_getElem _⟩;exact ⟨j,rfl,by rw [Qho hx];exact Qab ac (ab j _ hx).1⟩
        have HP:=Qaa ad;simp at ai an ap ag;clear ac ab ae ad;obtain ⟨p,hp⟩:∃ p,Qfy L k=p:=⟨_,rfl⟩;rw [hp] at HR HD HP aa;clear hp;have ak:(a<1)∨(¬ a<1/\6878<a)∨(¬ a<1/\¬ 6878<a/\u=0)∨(¬ a<1/\¬ 6878<a/\u≠0/\k=0)∨(¬ a<1/\¬ 6878<a/\u≠0/\0<k/\a<=p)∨(¬ a<1/\¬ 6878<a/\u≠0/\0<k/\¬ a<=p):=by omega
        rcases ak with q1 | ⟨q1,q2⟩ | ⟨q1,q2,q3⟩ | ⟨q1,q2,q3,q4⟩ | ⟨q1,q2,q3,q4,q5⟩ | ⟨q1,q2,q3,q4,q5⟩
        · have HE:Hid (false=QaP L):=(by rw [HF.out,HR.out,HD.out];simp;intro h;omega:false=QaP L)
          have d1:decide (a<1)=true:=decide_eq_true q1;clear aa;go_wp2
          go_quiet (first | (go_at_call 168;refine Calls.quiet_of_same (QbV _ _ (by unfold I64;omega))))
          go_wp2;go_ret;exact ⟨QdY HE,Qao HB _⟩
        · have HE:Hid (false=QaP L):=(by rw [HF.out,HR.out,HD.out];simp;intro _ h;omega:false=QaP L)
          have d1:decide (a<1)=false:=decide_eq_false q1;have d2:decide (6878<a)=true:=decide_eq_true q2;clear aa;go_wp2
          go_quiet (first | (go_at_call 168;refine Calls.quiet_of_same (QbV _ _ (by unfold I64;omega))))
          go_wp2;go_ret;exact ⟨QdY HE,Qao HB _⟩
        · have HE:Hid (false=QaP L):=(by rw [HF.out,HR.out,HD.out];simp [q3]:false=QaP L)
          have d1:decide (a<1)=false:=decide_eq_false q1;have d2:decide (6878<a)=false:=decide_eq_false q2;clear aa;subst q3;go_wp2
          go_quiet (first | (go_at_call 168;refine Calls.quiet_of_same (QbV _ _ (by unfold I64;omega))))
          go_wp2;go_ret;exact ⟨QdY HE,Qao HB _⟩
        · have HE:Hid (Qbx 0 L=Qbx (Qfy L (k+1)) (L.drop (k+1))):=by
            refine (?_:Qbx 0 L=Qbx (Qfy L (k+1)) (L.drop (k+1)));rw [af.out,HR.out,HD.out,decide_eq_true (by show p<a;omega),decide_eq_true (by show a<=6878;omega),decide_eq_true (by show u≠0;exact q3)];rfl
          have d1:decide (a<1)=false:=decide_eq_false q1;have d2:decide (6878<a)=false:=decide_eq_false q2;have d3:(u == 0)=false:=beq_eq_false_iff_ne.2 q3;have d4:decide (0<k)=false:=decide_eq_false (by omega);clear aa q4;go_wp2
          go_quiet (first | (go_at_call 168;refine Calls.quiet_of_same (QbV _ _ (by unfold I64;omega))))
          go_wp2;go_roundw
          case rel=>exact ⟨Qao HB _,k+1,by omega,by go_num,HE,by have:=af.out;omega⟩
          case measure=>simp [Go.RowKit.intOf];omega
        · have HE:Hid (false=QaP L):=(by rw [HF.out,HR.out,HD.out];simp;intro h;omega:false=QaP L)
          have d1:decide (a<1)=false:=decide_eq_false q1;have d2:decide (6878<a)=false:=decide_eq_false q2;have d3:(u == 0)=false:=beq_eq_false_iff_ne.2 q3;have d4:decide (0<k)=true:=decide_eq_true (by omega);have d5:decide (a<=p)=true:=decide_eq_true q5;obtain ⟨j,hj,al⟩:=HP.out q4;have e1:(k:Int) - 1=(j:Int):=by omega
          have ah:j<N:=by omega
          clear hj;clear aa;go_wp2
          go_quiet (first | (go_at_call 168;refine Calls.quiet_of_same (QbV _ _ (by unfold I64;omega))))
          go_wp2;go_ret;exact ⟨QdY HE,Qao HB _⟩
        · have HE:Hid (Qbx 0 L=Qbx (Qfy L (k+1)) (L.drop (k+1))):=by
            refine (?_:Qbx 0 L=Qbx (Qfy L (k+1)) (L.drop (k+1)));rw [af.out,HR.out,HD.out,decide_eq_true (by show p<a;omega),decide_eq_true (by show a<=6878;omega),decide_eq_true (by show u≠0;exact q3)];rfl
          have d1:decide (a<1)=false:=decide_eq_false q1;have d2:decide (6878<a)=false:=decide_eq_false q2;have d3:(u == 0)=false:=beq_eq_false_iff_ne.2 q3;have d4:decide (0<k)=true:=decide_eq_true (by omega);have d5:decide (a<=p)=false:=decide_eq_false q5;obtain ⟨j,hj,al⟩:=HP.out q4;have e1:(k:Int) - 1=(j:Int):=by omega
          have ah:j<N:=by omega
          clear hj;clear aa;go_wp2
          go_quiet (first | (go_at_call 168;refine Calls.quiet_of_same (QbV _ _ (by unfold I64;omega))))
          go_wp2;go_roundw
          case rel=>exact ⟨Qao HB _,k+1,by omega,by go_num,HE,by have:=af.out;omega⟩
          case measure=>simp [Go.RowKit.intOf];omega
      · have HE:Hid (true=QaP L):=(by rw [HF.out,HR.out,List.drop_eq_nil_of_le (by have:=HN.out;omega)];rfl:true=QaP L)
        clear ac;go_wp2;go_ret;exact ⟨QdY HE,HB⟩
  · have HE:Hid (false=QaP L):=(by simp [QaP,hn];intro h;omega:false=QaP L)
    clear hA hok hn;go_enter func164,ntmps164;go_wp2;go_ret;exact ⟨QdY HE,Below.refl _ _⟩
def skB (P N:List Bn):Bool:=QaP P && QaP N
theorem Qgr {P N:List Bn} (hp:P.length=pn) (hn:N.length=nn) (lp:pn<=1048576) (ln:nn<=1048576) (hP:QaO w pa P) (hN:QaO w na N) (kP:∀ x∈P,Qb4 x) (kN:∀ x∈N,Qb4 x) :
    Calls prog 302 #[.agg #[.int .u64 z,.slice pa pn pc,.slice na nn nc,.int .i64 h,.int .u64 l]] w fun e w'=>e=.returned (.bool (skB P N))/\Below w.heap.size w w':=by
  have HP:=Qaa hP;have HN:=Qaa hN;have KP:=Qaa kP;have KN:=Qaa kN;have hW:∀ o1,Below w.heap.size w (w.alloc o1):=fun o1=>(Below.refl _ _).alloc (Nat.le_refl _) _;have HW:=Qaa hW;have hz:∀ o1,(w.alloc o1).heap.size=w.heap.size+1:=fun o1=>by simp
  clear hP hN kP kN hW;by_cases hr:QaP P=true
  · have HF:Hid (skB P N=QaP N):=(by simp [skB,hr]:skB P N=QaP N)
    go_enter func302,ntmps302;go_wp2_with fail;refine (QcX _ _ hp lp (Qai HP (HW.out _)) KP).mono ?_;rintro e w1 ⟨rfl,aa⟩;obtain ⟨af,_⟩:=Qg6 aa;have ad:=(HW.out _).trans (aa.mono (by simp));simp at af;have ab:=Qaa ad;clear aa ad;go_wp2_with fail;refine (QcX _ _ hn ln (Qai HN ab) KN).mono ?_;rintro e w2 ⟨rfl,ac⟩;have ae:=Qaa (Qac ab ac);clear ac;go_wp2;go_ret;exact ⟨QdY HF.out.symm,ae⟩
  · have hr:QaP P=false:=by simpa using hr
    have HF:Hid (false=skB P N):=(by simp [skB,hr]:false=skB P N);go_enter func302,ntmps302;go_wp2_with fail;refine (QcX _ _ hp lp (Qai HP (HW.out _)) KP).mono ?_;rintro e w1 ⟨rfl,aa⟩;have ab:=Qaa ((HW.out _).trans (aa.mono (by simp)));clear aa;go_wp2;go_ret;exact ⟨QdY HF,ab⟩
theorem Qf1 {P N:List Bn} (hp:P.length=pn) (hn:N.length=nn) (lp:pn<=1048576) (ln:nn<=1048576) (hP:QaO w pa P) (hN:QaO w na N) (kP:∀ x∈P,Qb4 x) (kN:∀ x∈N,Qb4 x) :
    Calls prog 120 #[.agg #[.int .u64 z,.slice pa pn pc,.slice na nn nc,.int .i64 h,.int .u64 l]] w fun e w'=>e=.returned (.bool (skB P N))/\Below w.heap.size w w':=by
  have HP:=Qaa hP;have HN:=Qaa hN;have KP:=Qaa kP;have KN:=Qaa kN;have hW:∀ o1,Below w.heap.size w (w.alloc o1):=fun o1=>(Below.refl _ _).alloc (Nat.le_refl _) _;have HW:=Qaa hW;clear hP hN kP kN hW;by_cases hr:QaP P=true
  · have HF:Hid (skB P N=QaP N):=(by simp [skB,hr]:skB P N=QaP N)
    go_enter func120,ntmps120;go_wp2_with fail;refine (Qeg _ _ hp lp (Qai HP (HW.out _)) KP).mono ?_;rintro e w1 ⟨rfl,aa⟩;obtain ⟨af,_⟩:=Qg6 aa;have ad:=(HW.out _).trans (aa.mono (by simp));simp at af;have ab:=Qaa ad;clear aa ad;go_wp2_with fail;refine (Qeg _ _ hn ln (Qai HN ab) KN).mono ?_;rintro e w2 ⟨rfl,ac⟩;have ae:=Qaa (Qac ab ac);clear ac;go_wp2;go_ret;exact ⟨QdY HF.out.symm,ae⟩
  · have hr:QaP P=false:=by simpa using hr
    have HF:Hid (false=skB P N):=(by simp [skB,hr]:false=skB P N);go_enter func120,ntmps120;go_wp2_with fail;refine (Qeg _ _ hp lp (Qai HP (HW.out _)) KP).mono ?_;rintro e w1 ⟨rfl,aa⟩;have ab:=Qaa ((HW.out _).trans (aa.mono (by simp)));clear aa;go_wp2;go_ret;exact ⟨QdY HF,ab⟩
def upN:List Int->Bool
  | []=>true
  | [_]=>true
  | a :: b :: r=>decide (a<b) && upN (b :: r)
variable {L N P:List Int}
theorem QtP (h:L[k]?=some a) (g:L[k+1]?=some b):upN (L.drop k)=(decide (a<b) && upN (L.drop (k+1))):=by
  have hk:=(List.getElem?_eq_some_iff.1 h).1;have gk:=(List.getElem?_eq_some_iff.1 g).1;rw [List.drop_eq_getElem_cons hk,(List.getElem?_eq_some_iff.1 h).2,List.drop_eq_getElem_cons gk,(List.getElem?_eq_some_iff.1 g).2];rfl
theorem QrQ (h:L.length<=k+1):upN (L.drop k)=true:=by
  have hl:(L.drop k).length<=1:=by rw [List.length_drop];omega
  match h2:L.drop k,hl with
  | [],_=>rfl
  | [_],_=>rfl
  | _ :: _ :: _,h=>simp at h
def inR (x:Int):Bool:=decide (0<=x) && decide (x<=55)
theorem QqD (h:L[k]?=some a):(L.drop k).all inR=(inR a && (L.drop (k+1)).all inR):=by
  have hk:=(List.getElem?_eq_some_iff.1 h).1;rw [List.drop_eq_getElem_cons hk,(List.getElem?_eq_some_iff.1 h).2];rfl
def exB (E:List Int):Bool:=decide (E.length<=40) && upN E
def QgQ (R:List Int):Bool:=decide (R.length=64) && R.all inR
def hlB (E R:List Int):Bool:=if R.length=0 then exB E else decide (E.length=0) && QgQ R
variable {B:Bool}
theorem Ql2 (h:L[k]?=some a) (g:L[k+1]?=some b) (e:B=upN (L.drop k)):(b<=a->false=B)/\(¬ b<=a->B=upN (L.drop (k+1))):=by
  rw [QtP h g] at e;exact ⟨fun q=>by rw [e,decide_eq_false (by omega)];rfl,fun q=>by rw [e,decide_eq_true (by omega),Bool.true_and]⟩
theorem QlK (h:L[k]?=some a) (e:B=(L.drop k).all inR):(a<0∨55<a->false=B)/\(0<=a->a<=55->B=(L.drop (k+1)).all inR):=by
  rw [QqD h] at e;unfold inR at e
  exact ⟨fun q => by rw [e]; rcases q with q | q
                     · rw [decide_eq_false (by omega)];rfl
                     · rw [decide_eq_false (p:=a<=55) (by omega),Bool.and_false];rfl,fun q q'=>by rw [e,decide_eq_true q,decide_eq_true q'];rfl⟩
theorem QgX (cap N:Nat) (hn:L.length=N) (hl:N<=1048576) (hA:QaC .u64 w ao L) :
    Calls prog 309 #[.slice ao N cap] w fun e w'=>e=.returned (.bool (exB L))/\Below w.heap.size w w':=by
  have HA:=Qaa hA;have HN:=Qaa hn;by_cases ae:N<=40
  · have HF:Hid (exB L=upN L):=(by simp [exB,hn,ae]:exB L=upN L)
    clear hA hn;go_enter func309,ntmps309;go_wp2
    go_loopw [9] (fun i wr=>Below w.heap.size w wr/\∃ (k:Nat),k<=N/\i=.int .i64 k/\Hid (exB L=upN (L.drop (k - 1)))) (fun i wr=>N - (Go.RowKit.intOf i).toNat)
    case atStart=>exact ⟨Below.refl _ _,0,Nat.zero_le _,rfl,HF⟩
    case round=>
      obtain ⟨ab,k,hk,rfl,HR⟩:=hrel;have HB:=Qaa ab;by_cases ai:k<N
      · obtain ⟨u,ac⟩:∃ a,L[k]?=some a:=⟨L[k]'(by have:=HN.out;omega),List.getElem?_eq_getElem _⟩
        obtain ⟨b,ah,rfl,aa⟩:=HA.out (by have:=HN.out;omega);have ag:=Qab ab (aa k _ ac);by_cases af:k=0
        · subst af
          clear ab aa ac;go_wp2
          go_quiet (fail)
          go_wp2;go_roundw
          case rel=>exact ⟨Qao HB _,1,by omega,by go_num,HR⟩
          case measure=>simp [Go.RowKit.intOf];omega
        · obtain ⟨j,rfl⟩:∃ j,k=j+1:=⟨k - 1,by omega⟩
          obtain ⟨a,ad⟩:∃ a,L[j]?=some a:=⟨L[j]'(by have:=HN.out;omega),List.getElem?_eq_getElem _⟩;have aj:=Qab ab (aa j _ ad);have HU:=Qaa (Ql2 ad ac HR);clear ab aa ac ad HR;have ak:((j+1:Nat):Int) - 1=(j:Int):=by omega
          by_cases q:u<=a
          · have d1:decide (u<=a)=true:=decide_eq_true q
            go_wp2
            go_quiet (fail)
            go_wp2;go_ret;exact ⟨Qa2 (HU.out.1 q),Qao HB _⟩
          · have d1:decide (u<=a)=false:=decide_eq_false q
            go_wp2
            go_quiet (fail)
            go_wp2;go_roundw
            case rel=>exact ⟨Qao HB _,j+1+1,by omega,by go_num,HU.out.2 q⟩
            case measure=>simp [Go.RowKit.intOf];omega
      · have HE:Hid (true=exB L):=(by rw [HR.out,QrQ (by have:=HN.out;omega)]:true=exB L)
        clear ab;go_wp2;go_ret;exact ⟨Qa2 HE,HB⟩
  · have HE:Hid (false=exB L):=(by simp [exB,hn];intro h;omega:false=exB L)
    clear hA hn;go_enter func309,ntmps309;go_wp2;go_ret;exact ⟨Qa2 HE,Below.refl _ _⟩
theorem Qiw (cap N:Nat) (hn:L.length=N) (hl:N<=1048576) (hA:QaC .i64 w ao L) :
    Calls prog 310 #[.slice ao N cap] w fun e w'=>e=.returned (.bool (QgQ L))/\Below w.heap.size w w':=by
  have HA:=Qaa hA;have HN:=Qaa hn;by_cases ad:N=64
  · subst ad
    have HF:Hid (QgQ L=L.all inR):=(by simp [QgQ,hn]:QgQ L=L.all inR);clear hA hn;go_enter func310,ntmps310;go_wp2
    go_loopw [10] (fun i wr=>Below w.heap.size w wr/\∃ (k:Nat),k<=64/\i=.int .i64 k/\Hid (QgQ L=(L.drop k).all inR)) (fun i wr=>64 - (Go.RowKit.intOf i).toNat)
    case atStart=>exact ⟨Below.refl _ _,0,Nat.zero_le _,rfl,HF⟩
    case round=>
      obtain ⟨aa,k,hk,rfl,HR⟩:=hrel;have HB:=Qaa aa;by_cases ag:k<64
      · obtain ⟨u,ac⟩:∃ a,L[k]?=some a:=⟨L[k]'(by have:=HN.out;omega),List.getElem?_eq_getElem _⟩
        obtain ⟨b,af,rfl,ab⟩:=HA.out (by have:=HN.out;omega);have ae:=Qab aa (ab k _ ac);have HU:=Qaa (QlK ac HR);clear aa ab ac HR;by_cases q:u<0
        · have d1:decide (u<0)=true:=decide_eq_true q
          go_wp2;go_ret;exact ⟨Qa2 (HU.out.1 (.inl q)),HB⟩
        · have d1:decide (u<0)=false:=decide_eq_false q
          by_cases q2:55<u
          · have d2:decide (55<u)=true:=decide_eq_true q2
            go_wp2;go_ret;exact ⟨Qa2 (HU.out.1 (.inr q2)),HB⟩
          · have d2:decide (55<u)=false:=decide_eq_false q2
            go_wp2;go_roundw
            case rel=>exact ⟨HB,k+1,by omega,by go_num,HU.out.2 (by omega) (by omega)⟩
            case measure=>simp [Go.RowKit.intOf];omega
      · have HE:Hid (true=QgQ L):=(by rw [HR.out,List.drop_eq_nil_of_le (by have:=HN.out;omega)];rfl:true=QgQ L)
        clear aa;go_wp2;go_ret;exact ⟨Qa2 HE,HB⟩
  · have HE:Hid (false=QgQ L):=(by simp [QgQ,hn,ad]:false=QgQ L)
    have hb:((N:Int) == 64)=false:=beq_eq_false_iff_ne.2 (by omega);clear hA hn;go_enter func310,ntmps310;go_wp2;go_ret;exact ⟨Qa2 HE,Below.refl _ _⟩
theorem Qjb (hp:P.length=pn) (hn:N.length=nn) (lp:pn<=1048576) (ln:nn<=1048576) (hP:QaC .u64 w pa P) (hN:QaC .i64 w na N) :
    Calls prog 308 #[.agg #[.slice pa pn pc,.slice na nn nc]] w fun e w'=>e=.returned (.bool (hlB P N))/\Below w.heap.size w w':=by
  have HP:=Qaa hP;have HN:=Qaa hN;have hW:∀ o1,Below w.heap.size w (w.alloc o1):=fun o1=>(Below.refl _ _).alloc (Nat.le_refl _) _;have HW:=Qaa hW;clear hP hN hW;by_cases h0:nn=0
  · subst h0
    have HF:Hid (exB P=hlB P N):=(by simp [hlB,hn]:exB P=hlB P N);go_enter func308,ntmps308;go_wp2_with fail;refine (QgX _ _ hp lp (Qak HP (HW.out _))).mono ?_;rintro e w1 ⟨rfl,aa⟩;have ab:=Qaa (Qac (HW.out _) aa);clear aa;go_wp2;go_ret;exact ⟨Qa2 HF,ab⟩
  · have ac:((nn:Int) == 0)=false:=beq_eq_false_iff_ne.2 (by omega)
    by_cases h1:pn=0
    · subst h1
      have HF:Hid (QgQ N=hlB P N):=(by simp [hlB,hn,h0,hp]:QgQ N=hlB P N);go_enter func308,ntmps308;go_wp2_with fail;refine (Qiw _ _ hn ln (Qak HN (HW.out _))).mono ?_;rintro e w1 ⟨rfl,aa⟩;have ab:=Qaa (Qac (HW.out _) aa);clear aa;go_wp2;go_ret;exact ⟨Qa2 HF,ab⟩
    · have aa:((pn:Int) == 0)=false:=beq_eq_false_iff_ne.2 (by omega)
      have HF:Hid (false=hlB P N):=(by simp [hlB,hn,h0,hp,h1]:false=hlB P N);go_enter func308,ntmps308;go_wp2;go_ret;exact ⟨Qa2 HF,HW.out _⟩
theorem Qjl (n lo hi:Int) (w:World) (hn:I64 n) :
    Calls prog 33 #[.int .i64 n,.int .i64 lo,.int .i64 hi] w fun e w'=>e=.returned (.bool (decide (lo<=n) && decide (n<=hi)))/\w'=w:=by
  by_cases h:lo<=n
  · have d1:decide (lo<=n)=true:=decide_eq_true h
    go_enter func33,ntmps33;go_wp2;go_ret;exact ⟨Qa2 (by rw [d1,Bool.true_and]),rfl⟩
  · have d1:decide (lo<=n)=false:=decide_eq_false h
    go_enter func33,ntmps33;go_wp2;go_ret;exact ⟨rfl,rfl⟩
theorem QjZ (hp:P.length=pn) (hn:N.length=nn) (lp:pn<=1048576) (ln:nn<=1048576) (hP:QaC .u64 w pa P) (hN:QaC .i64 w na N) (kN:∀ x∈N,I64 x) :
    Calls prog 121 #[.agg #[.slice pa pn pc,.slice na nn nc]] w fun e w'=>e=.returned (.bool (hlB P N))/\Below w.heap.size w w':=by
  have HP:=Qaa hP;have HN:=Qaa hN;have EP:=Qaa hp;have EN:=Qaa hn;have KN:=Qaa kN;have hW:∀ o1,Below w.heap.size w (w.alloc o1):=fun o1=>(Below.refl _ _).alloc (Nat.le_refl _) _;have HW:=Qaa hW;clear hP hN hW kN;by_cases h0:nn=0
  · subst h0
    have HF:Hid (hlB P N=(decide (pn<=40) && upN P)):=(by simp [hlB,hn,exB,hp]:hlB P N=(decide (pn<=40) && upN P));clear hp hn;go_enter func121,ntmps121;go_wp2
    go_loopw [3] (fun i wr=>Below w.heap.size w wr/\Qck wr w.heap.size (.slice pa pn pc) (.slice na 0 nc)/\∃ (k:Nat),(k<=pn∨k=1)/\1<=k/\i=.int .i64 k/\Hid (upN P=upN (P.drop (k - 1)))) (fun i wr=>pn - (Go.RowKit.intOf i).toNat)
    case atStart=>exact ⟨HW.out _,Qjx _ _ _ _,1,.inr rfl,Nat.le_refl _,rfl,(rfl:upN P=upN (P.drop 0))⟩
    case round=>
      obtain ⟨aa,hK,k,hk,aj,rfl,HR⟩:=hrel;have HB:=Qaa aa;have HK:=Qaa hK;by_cases ag:k<pn
      · obtain ⟨j,rfl⟩:∃ j,k=j+1:=⟨k - 1,by omega⟩
        obtain ⟨u,ac⟩:∃ a,P[j+1]?=some a:=⟨P[j+1]'(by have:=EP.out;omega),List.getElem?_eq_getElem _⟩;obtain ⟨a,ad⟩:∃ a,P[j]?=some a:=⟨P[j]'(by have:=EP.out;omega),List.getElem?_eq_getElem _⟩;obtain ⟨b,af,rfl,ab⟩:=HP.out (by have:=EP.out;omega);have ae:=Qab aa (ab _ _ ac);have ai:=Qab aa (ab j _ ad);have HU:=Qaa (Ql2 ad ac HR);have al:((j+1:Nat):Int) - 1=(j:Int):=by omega
        clear aa ab ac ad HR;by_cases q:u<=a
        · have d1:decide (u<=a)=true:=decide_eq_true q
          have HE:Hid (false=hlB P N):=(by rw [HF.out,<- HU.out.1 q,Bool.and_false]:false=hlB P N);go_wp2
          go_quiet (fail)
          go_wp2;go_ret;exact ⟨Qa2 HE,Qao HB _⟩
        · have d1:decide (u<=a)=false:=decide_eq_false q
          go_wp2
          go_quiet (fail)
          go_wp2;go_roundw
          case rel=>exact ⟨Qao HB _,HK,j+1+1,by omega,by omega,by go_num,HU.out.2 q⟩
          case measure=>simp [Go.RowKit.intOf];omega
      · have HE:Hid (decide ((pn:Int)<=40)=hlB P N):=(by rw [HF.out,HR.out,QrQ (by have:=EP.out;omega),Bool.and_true];exact decide_eq_decide.2 (by omega):decide ((pn:Int)<=40)=hlB P N)
        clear aa;go_wp2;go_ret;exact ⟨Qa2 HE,HB⟩
  · have ah:((nn:Int) == 0)=false:=beq_eq_false_iff_ne.2 (by omega)
    have HF:Hid (hlB P N=(decide (pn=0) && (decide (nn=64) && N.all inR))):=(by simp [hlB,hn,h0,hp,QgQ]:hlB P N=(decide (pn=0) && (decide (nn=64) && N.all inR)));clear hp hn;go_enter func121,ntmps121;go_wp2
    go_loopw [4] (fun i wr=>Below w.heap.size w wr/\Qck wr w.heap.size (.slice pa pn pc) (.slice na nn nc)/\∃ (k:Nat),k<=nn/\i=.int .i64 k/\Hid (N.all inR=(N.drop k).all inR)) (fun i wr=>nn - (Go.RowKit.intOf i).toNat)
    case atStart=>exact ⟨HW.out _,Qjx _ _ _ _,0,Nat.zero_le _,rfl,(rfl:N.all inR=(N.drop 0).all inR)⟩
    case round=>
      obtain ⟨aa,hK,k,hk,rfl,HR⟩:=hrel;have HB:=Qaa aa;have HK:=Qaa hK;by_cases ag:k<nn
      · obtain ⟨u,ac⟩:∃ a,N[k]?=some a:=⟨N[k]'(by have:=EN.out;omega),List.getElem?_eq_getElem _⟩
        obtain ⟨b,af,rfl,ab⟩:=HN.out (by have:=EN.out;omega);have ae:=Qab aa (ab k _ ac);have hu:=KN.out _ (List.mem_of_getElem? ac);have HU:=Qaa (QlK ac HR);clear aa ab ac HR;by_cases q:0<=u/\u<=55
        · have d1:(decide (0<=u) && decide (u<=55))=true:=by simp [q.1,q.2]
          have HQ:=Qaa q;clear q;go_wp2_with (go_at_call 33;refine (Qjl _ _ _ _ hu).mono ?_;rintro e w1 ⟨rfl,rfl⟩;rw [d1]);go_roundw
          case rel=>exact ⟨HB,HK,k+1,by omega,by go_num,HU.out.2 HQ.out.1 HQ.out.2⟩
          case measure=>simp [Go.RowKit.intOf];omega
        · have d1:(decide (0<=u) && decide (u<=55))=false:=by rw [Bool.eq_false_iff];intro h;simp at h;exact q h
          have HE:Hid (false=hlB P N):=(by rw [HF.out,<- HU.out.1 (by omega),Bool.and_false,Bool.and_false]:false=hlB P N);clear q;go_wp2_with (go_at_call 33;refine (Qjl _ _ _ _ hu).mono ?_;rintro e w1 ⟨rfl,rfl⟩;rw [d1]);go_ret;exact ⟨Qa2 HE,HB⟩
      · have hE:hlB P N=(decide (pn=0) && decide (nn=64)):=by rw [HF.out,HR.out,List.drop_eq_nil_of_le (by have:=EN.out;omega)];simp
        by_cases h1:pn=0
        · subst h1
          have HE:Hid (((nn:Int) == 64)=hlB P N):=(by rw [hE];simp only [decide_true,Bool.true_and];by_cases h:nn=64 <;> simp [h] <;> omega:((nn:Int) == 64)=hlB P N);clear aa hE;go_wp2;go_ret;exact ⟨Qa2 HE,HB⟩
        · have HE:Hid (false=hlB P N):=(by rw [hE,decide_eq_false h1];rfl:false=hlB P N)
          have ak:((pn:Int) == 0)=false:=beq_eq_false_iff_ne.2 (by omega);clear aa hE;go_wp2;go_ret;exact ⟨Qa2 HE,HB⟩
def Qmv (v:Int):Bool:=decide (-999999999999999999<=v) && decide (v<=999999999999999999)
def QmB (a t:Int):Bool:=if t=-1 then decide (a=0) else decide (0<=t) && decide (t<=1000000000) && Qmv a
theorem Qim (v:Int) (w:World):Calls prog 298 #[.int .i64 v] w fun e w'=>e=.returned (.bool (Qmv v))/\w'=w:=by
  by_cases h1:-999999999999999999<=v <;> by_cases h2:v<=999999999999999999 <;> (go_enter func298,ntmps298;go_wp2;go_ret;exact ⟨by simp [Qmv,h1,h2],rfl⟩)
theorem QfH (n lo hi:Int) (w:World):Calls prog 33 #[.int .i64 n,.int .i64 lo,.int .i64 hi] w fun e w'=>e=.returned (.bool (decide (lo<=n) && decide (n<=hi)))/\w'=w:=by
  by_cases h1:lo<=n <;> by_cases h2:n<=hi <;> (go_enter func33,ntmps33;go_wp2;go_ret;exact ⟨by simp [h1,h2],rfl⟩)
theorem Qkn (v:Int) (w:World):Calls prog 124 #[.int .i64 v] w fun e w'=>e=.returned (.bool (Qmv v))/\w'=w:=by
  go_enter func124,ntmps124;go_wp2_with (go_at_call 33;refine (QfH _ _ _ _).mono ?_;rintro e w1 ⟨rfl,aa⟩;obtain rfl:=aa);go_ret;exact ⟨rfl,rfl⟩
theorem Qrs (h l:Int) (w:World):Calls prog 294 #[.agg #[.int .i64 h,.int .u64 l]] w fun e w'=>e=.returned (.bool true)/\Below w.heap.size w w':=by
  go_enter func294,ntmps294;go_wp2;go_ret;exact ⟨rfl,(Below.refl _ _).alloc (Nat.le_refl _) _⟩
theorem Qqj (a t:Int) (w:World):Calls prog 297 #[.agg #[.int .i64 a,.int .i64 t]] w fun e w'=>e=.returned (.bool (QmB a t))/\Below w.heap.size w w':=by
  by_cases h1:t=-1
  · have b1:(t == -1)=true:=by simp [h1]
    have HE:Hid (decide (a=0)=QmB a t):=by unfold QmB;rw [if_pos h1];rfl
    clear h1;by_cases h2:a=0
    · go_enter func297,ntmps297
      go_wp2;go_ret;exact ⟨by rw [<- HE.out];simp [h2],(Below.refl _ _).alloc (Nat.le_refl _) _⟩
    · have b2:(a == 0)=false:=beq_eq_false_iff_ne.2 h2
      go_enter func297,ntmps297;go_wp2;go_ret;exact ⟨by rw [<- HE.out];simp [h2],(Below.refl _ _).alloc (Nat.le_refl _) _⟩
  · have b1:(t == -1)=false:=beq_eq_false_iff_ne.2 h1
    have HE:Hid ((decide (0<=t) && decide (t<=1000000000) && Qmv a)=QmB a t):=by unfold QmB;rw [if_neg h1];rfl
    clear h1;have HB:Hid (∀ o,Below w.heap.size w (w.alloc o)):=fun o=>(Below.refl _ _).alloc (Nat.le_refl _) o;by_cases h2:0<=t
    · by_cases h3:t<=1000000000
      · have aa:Hid (Qmv a=QmB a t):=by have:=HE.out;simp [h2,h3] at this;exact this
        go_enter func297,ntmps297;go_wp2_with (go_at_call 298;refine (Qim _ _).mono ?_;rintro e w1 ⟨rfl,hw⟩;subst hw);go_ret;exact ⟨Qar aa,HB.out _⟩
      · have aa:Hid (false=QmB a t):=by have:=HE.out;simp [h2,h3] at this;exact this.symm
        go_enter func297,ntmps297;go_wp2;go_ret;exact ⟨Qar aa,HB.out _⟩
    · have aa:Hid (false=QmB a t):=by have:=HE.out;simp [h2] at this;exact this.symm
      go_enter func297,ntmps297;go_wp2;go_ret;exact ⟨Qar aa,HB.out _⟩
theorem taCC (v:Value) (w:World):(Instr.typeAssert (.iface 254 v) 240 254 true).run prog w=.ok (.tuple #[v,.bool true]) w:=by kernel_rfl
theorem taGC (v:Value) (w:World):(Instr.typeAssert (.iface 256 v) 240 254 true).run prog w=.ok (.tuple #[.agg #[.int .i64 0,.int .u64 0],.bool false]) w:=by kernel_rfl
theorem taGG (v:Value) (w:World):(Instr.typeAssert (.iface 256 v) 240 256 true).run prog w=.ok (.tuple #[v,.bool true]) w:=by kernel_rfl
theorem taHC (v:Value) (w:World):(Instr.typeAssert (.iface 258 v) 240 254 true).run prog w=.ok (.tuple #[.agg #[.int .i64 0,.int .u64 0],.bool false]) w:=by kernel_rfl
theorem taHG (v:Value) (w:World):(Instr.typeAssert (.iface 258 v) 240 256 true).run prog w=.ok (.tuple #[.agg #[.int .i64 0,.int .i64 0],.bool false]) w:=by kernel_rfl
theorem taHH (v:Value) (w:World):(Instr.typeAssert (.iface 258 v) 240 258 true).run prog w=.ok (.tuple #[v,.bool true]) w:=by kernel_rfl
theorem taSC (v:Value) (w:World):(Instr.typeAssert (.iface 260 v) 240 254 true).run prog w=.ok (.tuple #[.agg #[.int .i64 0,.int .u64 0],.bool false]) w:=by kernel_rfl
theorem taSG (v:Value) (w:World):(Instr.typeAssert (.iface 260 v) 240 256 true).run prog w=.ok (.tuple #[.agg #[.int .i64 0,.int .i64 0],.bool false]) w:=by kernel_rfl
theorem taSH (v:Value) (w:World):(Instr.typeAssert (.iface 260 v) 240 258 true).run prog w=.ok (.tuple #[.agg #[.int .u64 0,.slice none 0 0,.slice none 0 0,.int .i64 0,.int .u64 0],.bool false]) w:=by kernel_rfl
theorem taSS (v:Value) (w:World):(Instr.typeAssert (.iface 260 v) 240 260 true).run prog w=.ok (.tuple #[v,.bool true]) w:=by kernel_rfl
variable {g:Ag}
variable {p:Pl}
theorem Qnh (w:World) (h:g.k=1):Calls prog 205 #[.agg (Qav g p)] w fun e w'=>e=.returned (.iface 254 (.agg #[.int .i64 g.h,.int .u64 g.l]))/\Below w.heap.size w w':=by
  have b1:(g.k == 1)=true:=by simp [h]
  clear h;go_enter func205,ntmps205;go_wp2;go_ret;exact ⟨rfl,(Below.refl _ _).alloc (Nat.le_refl _) _⟩
theorem QmA (g:Ag) (p:Pl) (w:World):Calls prog 207 #[.int .u64 g.s,.iface 254 (.agg #[.int .i64 g.h,.int .u64 g.l])] w fun e w'=>e=.returned (.agg (Qav ⟨1,g.s,g.h,g.l,0,0,0,[],[],0,0,[],[]⟩ ⟨none,0,none,0,none,0,none,0⟩))/\Below w.heap.size w w':=by
  have tC:=taCC (.agg #[.int .i64 g.h,.int .u64 g.l]);go_enter func207,ntmps207;go_wp2;exact bodyPost_ret (v:=.agg #[.int .i64 1,.int .u64 g.s,.int .i64 g.h,.int .u64 g.l,.int .i64 0,.int .i64 0,.int .u64 0,.slice none 0 0,.slice none 0 0,.int .i64 0,.int .u64 0,.slice none 0 0,.slice none 0 0]) (by simp [results,results207,go_sem]) rfl ⟨rfl,((Below.refl _ _).alloc (Nat.le_refl _) _).alloc (by simp) _⟩
theorem Qpo (w:World) (h:g.k=2):Calls prog 205 #[.agg (Qav g p)] w fun e w'=>e=.returned (.iface 256 (.agg #[.int .i64 g.a,.int .i64 g.t]))/\Below w.heap.size w w':=by
  have b1:(g.k == 1)=false:=beq_eq_false_iff_ne.2 (by omega);have b2:(g.k == 2)=true:=by simp [h]
  clear h;go_enter func205,ntmps205;go_wp2;go_ret;exact ⟨rfl,(Below.refl _ _).alloc (Nat.le_refl _) _⟩
theorem QmK (g:Ag) (p:Pl) (w:World):Calls prog 207 #[.int .u64 g.s,.iface 256 (.agg #[.int .i64 g.a,.int .i64 g.t])] w fun e w'=>e=.returned (.agg (Qav ⟨2,g.s,0,0,g.a,g.t,0,[],[],0,0,[],[]⟩ ⟨none,0,none,0,none,0,none,0⟩))/\Below w.heap.size w w':=by
  have tC:=taGC (.agg #[.int .i64 g.a,.int .i64 g.t]);have tG:=taGG (.agg #[.int .i64 g.a,.int .i64 g.t]);go_enter func207,ntmps207;go_wp2;exact bodyPost_ret (v:=.agg #[.int .i64 2,.int .u64 g.s,.int .i64 0,.int .u64 0,.int .i64 g.a,.int .i64 g.t,.int .u64 0,.slice none 0 0,.slice none 0 0,.int .i64 0,.int .u64 0,.slice none 0 0,.slice none 0 0]) (by simp [results,results207,go_sem]) rfl ⟨rfl,((Below.refl _ _).alloc (Nat.le_refl _) _).alloc (by simp) _⟩
theorem QnR (w:World) (h:g.k=3):Calls prog 205 #[.agg (Qav g p)] w fun e w'=>e=.returned (.iface 258 (.agg #[.int .u64 g.z,.slice p.pa g.P.length p.pc,.slice p.na g.N.length p.nc,.int .i64 g.x,.int .u64 g.y]))/\Below w.heap.size w w':=by
  have b1:(g.k == 1)=false:=beq_eq_false_iff_ne.2 (by omega);have b2:(g.k == 2)=false:=beq_eq_false_iff_ne.2 (by omega);have b3:(g.k == 3)=true:=by simp [h]
  clear h;go_enter func205,ntmps205;go_wp2;go_ret;exact ⟨rfl,(Below.refl _ _).alloc (Nat.le_refl _) _⟩
theorem QmS (g:Ag) (p:Pl) (w:World):Calls prog 207 #[.int .u64 g.s,.iface 258 (.agg #[.int .u64 g.z,.slice p.pa g.P.length p.pc,.slice p.na g.N.length p.nc,.int .i64 g.x,.int .u64 g.y])] w fun e w'=>e=.returned (.agg (Qav ⟨3,g.s,0,0,0,0,g.z,g.P,g.N,g.x,g.y,[],[]⟩ ⟨p.pa,p.pc,p.na,p.nc,none,0,none,0⟩))/\Below w.heap.size w w':=by
  have tC:=taHC (.agg #[.int .u64 g.z,.slice p.pa g.P.length p.pc,.slice p.na g.N.length p.nc,.int .i64 g.x,.int .u64 g.y]);have tG:=taHG (.agg #[.int .u64 g.z,.slice p.pa g.P.length p.pc,.slice p.na g.N.length p.nc,.int .i64 g.x,.int .u64 g.y]);have tH:=taHH (.agg #[.int .u64 g.z,.slice p.pa g.P.length p.pc,.slice p.na g.N.length p.nc,.int .i64 g.x,.int .u64 g.y]);go_enter func207,ntmps207;go_wp2;exact bodyPost_ret (v:=.agg #[.int .i64 3,.int .u64 g.s,.int .i64 0,.int .u64 0,.int .i64 0,.int .i64 0,.int .u64 g.z,.slice p.pa g.P.length p.pc,.slice p.na g.N.length p.nc,.int .i64 g.x,.int .u64 g.y,.slice none 0 0,.slice none 0 0]) (by simp [results,results207,go_sem]) rfl ⟨rfl,((Below.refl _ _).alloc (Nat.le_refl _) _).alloc (by simp) _⟩
theorem Qpu (w:World) (h:g.k=4):Calls prog 205 #[.agg (Qav g p)] w fun e w'=>e=.returned (.iface 260 (.agg #[.slice p.ea g.E.length p.ec,.slice p.ra g.R.length p.rc]))/\Below w.heap.size w w':=by
  have b1:(g.k == 1)=false:=beq_eq_false_iff_ne.2 (by omega);have b2:(g.k == 2)=false:=beq_eq_false_iff_ne.2 (by omega);have b3:(g.k == 3)=false:=beq_eq_false_iff_ne.2 (by omega);have b4:(g.k == 4)=true:=by simp [h]
  clear h;go_enter func205,ntmps205;go_wp2;go_ret;exact ⟨rfl,(Below.refl _ _).alloc (Nat.le_refl _) _⟩
theorem QmW (g:Ag) (p:Pl) (w:World):Calls prog 207 #[.int .u64 g.s,.iface 260 (.agg #[.slice p.ea g.E.length p.ec,.slice p.ra g.R.length p.rc])] w fun e w'=>e=.returned (.agg (Qav ⟨4,g.s,0,0,0,0,0,[],[],0,0,g.E,g.R⟩ ⟨none,0,none,0,p.ea,p.ec,p.ra,p.rc⟩))/\Below w.heap.size w w':=by
  have tC:=taSC (.agg #[.slice p.ea g.E.length p.ec,.slice p.ra g.R.length p.rc]);have tG:=taSG (.agg #[.slice p.ea g.E.length p.ec,.slice p.ra g.R.length p.rc]);have tH:=taSH (.agg #[.slice p.ea g.E.length p.ec,.slice p.ra g.R.length p.rc]);have tS:=taSS (.agg #[.slice p.ea g.E.length p.ec,.slice p.ra g.R.length p.rc]);go_enter func207,ntmps207;go_wp2;exact bodyPost_ret (v:=.agg #[.int .i64 4,.int .u64 g.s,.int .i64 0,.int .u64 0,.int .i64 0,.int .i64 0,.int .u64 0,.slice none 0 0,.slice none 0 0,.int .i64 0,.int .u64 0,.slice p.ea g.E.length p.ec,.slice p.ra g.R.length p.rc]) (by simp [results,results207,go_sem]) rfl ⟨rfl,((Below.refl _ _).alloc (Nat.le_refl _) _).alloc (by simp) _⟩
theorem QpQ (w:World) (h1:¬ g.k=1) (h2:¬ g.k=2) (h3:¬ g.k=3) (h4:¬ g.k=4):Calls prog 205 #[.agg (Qav g p)] w fun e w'=>e=.returned .nilIface/\Below w.heap.size w w':=by
  have b1:(g.k == 1)=false:=beq_eq_false_iff_ne.2 h1;have b2:(g.k == 2)=false:=beq_eq_false_iff_ne.2 h2;have b3:(g.k == 3)=false:=beq_eq_false_iff_ne.2 h3;have b4:(g.k == 4)=false:=beq_eq_false_iff_ne.2 h4;clear h1 h2 h3 h4;go_enter func205,ntmps205;go_wp2;go_ret;exact ⟨rfl,(Below.refl _ _).alloc (Nat.le_refl _) _⟩
end Go.Proofs.YtlejlgldgafljaaGreatDoor
