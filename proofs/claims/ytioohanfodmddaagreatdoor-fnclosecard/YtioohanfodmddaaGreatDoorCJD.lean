/-
 Parts.
-/
import Derived.Test.YtioohanfodmddaaGreatDoorCJB
set_option maxHeartbeats 4000000
set_option linter.all false
namespace Go.Proofs.YtioohanfodmddaaGreatDoor
open Go.ChangeShapes Go.WideShapes Go.ChangeAt Go.RowKit Go.PlainAid Go.Lib Tryz
theorem mA8 {p:Prop} (h:p:=by
 go_wp2
 go_quiet (first | (go_at_call 202;refine Calls.quiet_of_same (QbW _ _ oO)))
 go_wp2;go_ret;exact ⟨Qet HE,Qap HB _⟩):p:=h
theorem mBi {p:Prop} (h:p:=by go_enter func192,ntmps192;go_wp2;go_ret;exact ⟨rfl,(Below.refl _ _).alloc (Nat.le_refl _) _⟩):p:=h
theorem mBk {p:Prop} (h:p:=by go_ret;exact ⟨rfl,rfl⟩):p:=h
theorem mBm {p:Prop} (h:p:=by
 go_wp2
 go_quiet (first | (go_at_call 374;refine Calls.quiet_of_same (QeX _ _ oO)))
 go_wp2;go_ret;exact ⟨Qet HE,Qap (HB.alloc hz _) _⟩):p:=h
theorem mCs {p:Prop} (h:p:=by refine (?_:Qbx 0 L=Qbx (Qf6 L (k+1)) (L.drop (k+1)));rw [af.out,HR.out,HD.out,decide_eq_true (by show p<a;omega),decide_eq_true xW,decide_eq_true xZ];rfl):p:=h
theorem mDb {p:Prop} (h:p:=by
 have h9:128*k<=999999999999999999:=by have:=HR.out;have:=HL.out;omega
 go_wp2;go_ret;exact ⟨Qth HF,rfl⟩):p:=h
theorem mDi {p:Prop} (h:p:=by have hk:=(List.getElem?_eq_some_iff.1 h).1;rw [List.drop_eq_getElem_cons hk,(List.getElem?_eq_some_iff.1 h).2];rfl):p:=h
theorem mDj {p:Prop} (h:p:=by rintro e w1 ⟨rfl,aa⟩;have ab:=Qaa ((HW.out _).trans (aa.mono oE));clear aa;go_wp2;go_ret;exact ⟨Qet HF,ab⟩):p:=h
theorem mDp {p:Prop} (h:p:=by rintro e w1 ⟨rfl,aa⟩;have ab:=Qaa (Qac (HW.out _) aa);clear aa;go_wp2;go_ret;exact ⟨Qa5 HF,ab⟩):p:=h
theorem mDq {p:Prop} (h:p:=by rintro e w2 ⟨rfl,ac⟩;have af:=Qaa (Qac ab ac);clear ac;go_wp2;go_ret;exact ⟨Qet HF.symm,af⟩):p:=h
theorem mDz {p:Prop} (h:p:=by go_wp2;go_ret;exact ⟨by rw [<- HE.out];simp [h2],(Below.refl _ _).alloc (Nat.le_refl _) _⟩):p:=h
theorem mD7 {p:Prop} (h:p:=by refine (?_:128*(k+1)+Qdf z=Qdf v.toNat);rw [<- HR.out,Qes (v:=y) oB,hz.out];omega):p:=h
def Qdf (v:Nat):Nat:=if h:v<256 then v else 128+Qdf (v / 2)
termination_by v
decreasing_by omega
def lowW (a:Nat):Nat:=if h:a<256 then a else 2*lowW (a - 128)
termination_by a
decreasing_by omega
variable {k nc nn pc pn v:Nat}
theorem Qfr (h:v<256):Qdf v=v:=by rw [Qdf,dif_pos h]
theorem Qes (h:¬ v<256):Qdf v=128+Qdf (v / 2):=by rw [Qdf,dif_neg h]
theorem Qrk (v:Nat):Qdf v<=v:=by
  induction v using Nat.strongRecOn with
  | ind v ih=>
    by_cases h:v<256
    · rw [Qfr h];exact Nat.le_refl _
    · rw [Qes h];have:=ih (v / 2) oB;omega
theorem Qrb (v:Nat):∀ w,v<=w->Qdf v<=Qdf w:=by
  induction v using Nat.strongRecOn with
  | ind v ih=>
    intro w hw;by_cases h:v<256
    · rw [Qfr h]
      by_cases k:w<256
      · rw [Qfr k];exact hw
      · have g:∀ x,128<=x->128<=Qdf x:=by
          intro x
          induction x using Nat.strongRecOn with
          | ind x ix=>
            intro hx;by_cases z:x<256
            · rw [Qfr z];exact hx
            · rw [Qes z];omega
        rw [Qes k];have:=g (w / 2) oB;omega
    · rw [Qes h,Qes (v:=w) oB]
      have:=ih (v / 2) oB (w / 2) oB;omega
theorem QmV:Qdf 999999999999999999=6878:=by simp [Qdf]
theorem Qvz (h:v<=999999999999999999):Qdf v<=6878:=by have:=Qrb v _ h;rwa [QmV] at this
def Qdg (v:Int):Int:=if 1<=v/\v<=999999999999999999 then (Qdf v.toNat:Int) else 0
def lowI (a:Int):Int:=if 1<=a/\a<=7000 then (lowW a.toNat:Int) else 0
theorem Qi2 (v:Int):0<=Qdg v/\Qdg v<=6878:=by
  unfold Qdg
  split
  · have:=Qvz (v:=v.toNat) oB;omega
  · omega
theorem Qgr {v:Int} (h:1<=v) (h2:v<=999999999999999999):Qdg v=(Qdf v.toNat:Int):=if_pos ⟨h,h2⟩
theorem QqL {v:Int} (h:¬ (1<=v/\v<=999999999999999999)):Qdg v=0:=if_neg h
set_option maxRecDepth 10000
variable {a b h l z:Int}
theorem Qth (h:a=b):Ending.returned (.int .i64 a)=.returned (.int .i64 b):=by rw [h]
theorem QmE (n a b:Int) (w:World) (hn:I64 n) (ha:I64 a) (hb:I64 b) :
    Calls prog 31 #[.int .i64 n,.int .i64 a,.int .i64 b] w fun e w'=>e=.returned (.bool (decide (a<=n/\n<=b)))/\w'=w:=by
  unfold I64 at hn ha hb;by_cases h1:a<=n
  · by_cases h2:n<=b
    · have e:decide (a<=n/\n<=b)=true:=decide_eq_true ⟨h1,h2⟩
      rw [e];go_enter func31,ntmps31;go_wp2;exact mBk
    · have e:decide (a<=n/\n<=b)=false:=decide_eq_false (fun h=>h2 h.2)
      rw [e];go_enter func31,ntmps31;go_wp2;exact mBk
  · have e:decide (a<=n/\n<=b)=false:=decide_eq_false (fun h=>h1 h.1)
    rw [e];go_enter func31,ntmps31;go_wp2;exact mBk
theorem QbW (v:Int) (w:World) (hv:I64 v) :
    Calls prog 202 #[.int .i64 v] w fun e w'=>e=.returned (.int .i64 (Qdg v))/\w'=w:=by
  have aa:=hv;unfold I64 at hv;by_cases h:1<=v/\v<=999999999999999999
  · have e1:decide (1<=v/\v<=999999999999999999)=true:=decide_eq_true h
    have HB:Hid (Qdg v=(Qdf v.toNat:Int)):=Qgr h.1 h.2;have HL:Hid (Qdf v.toNat<=v.toNat):=Qrk _;obtain ⟨h1,h2⟩:=h;go_enter func202,ntmps202;go_wp2_with (go_at_call 31;refine (QmE _ _ _ _ aa oO oO).mono ?_;rintro e w1 ⟨rfl,rfl⟩;rw [e1]);clear e1
    go_loop [0,3] (fun x i=>∃ y k:Nat,x=.int .i64 y/\i=.int .i64 k/\1<=y/\y<=999999999999999999/\Hid (128*k+Qdf y=Qdf v.toNat)) (fun x i=>(Go.RowKit.intOf x).toNat)
    case atStart=>exact ⟨v.toNat,0,by rw [Int.toNat_of_nonneg oB],rfl,by omega,by omega,(by omega:128*0+Qdf v.toNat=Qdf v.toNat)⟩
    case round=>
      obtain ⟨y,k,rfl,rfl,hy,ae,HR⟩:=hrel;have hk:k<=999999999999999999:=by have:=HR.out;have:=HL.out;omega
      obtain ⟨z,hz,ac,ad⟩:∃ z:Nat,Hid (y / 2=z)/\2*z<=y/\y<=2*z+1:=⟨y / 2,(rfl:y / 2=y / 2),by omega,by omega⟩;have hd:Int.tdiv (y:Int) 2=(z:Int):=by rw [<- hz.out];rfl
      by_cases ab:(y:Int)<256
      · have HF:Hid ((128*(k:Int)+(y:Int))=Qdg v):=by
          refine (?_:(128*(k:Int)+(y:Int))=Qdg v);rw [HB.out,<- HR.out,Qfr oB];omega
        exact mDb
      · have HN:Hid (128*(k+1)+Qdf z=Qdf v.toNat):=by
          exact mD7
        go_wp2
        go_round
        case rel=>exact ⟨z,k+1,by rfl,by go_num,by omega,by omega,HN⟩
        case measure=>simp [Go.RowKit.intOf];omega
  · have e1:decide (1<=v/\v<=999999999999999999)=false:=decide_eq_false h
    have HB:Hid (0=Qdg v):=(QqL h).symm;clear h;go_enter func202,ntmps202;go_wp2_with (go_at_call 31;refine (QmE _ _ _ _ aa oO oO).mono ?_;rintro e w1 ⟨rfl,rfl⟩;rw [e1]);go_ret;exact ⟨Qth HB,rfl⟩
theorem QeX (v:Int) (w:World) (hv:I64 v) :
    Calls prog 374 #[.int .i64 v] w fun e w'=>e=.returned (.int .i64 (Qdg v))/\w'=w:=by
  have ab:=hv;unfold I64 at hv;by_cases h:1<=v/\v<=999999999999999999
  · have HB:Hid (Qdg v=(Qdf v.toNat:Int)):=Qgr h.1 h.2
    have HL:Hid (Qdf v.toNat<=v.toNat):=Qrk _;obtain ⟨h1,h2⟩:=h;go_enter func374,ntmps374;go_wp2
    go_loop [0,3] (fun x i=>∃ y k:Nat,x=.int .i64 y/\i=.int .i64 k/\1<=y/\y<=999999999999999999/\Hid (128*k+Qdf y=Qdf v.toNat)) (fun x i=>(Go.RowKit.intOf x).toNat)
    case atStart=>exact ⟨v.toNat,0,by rw [Int.toNat_of_nonneg oB],rfl,by omega,by omega,(by omega:128*0+Qdf v.toNat=Qdf v.toNat)⟩
    case round=>
      obtain ⟨y,k,rfl,rfl,hy,ae,HR⟩:=hrel;have hk:k<=999999999999999999:=by have:=HR.out;have:=HL.out;omega
      obtain ⟨z,hz,ad,ac⟩:∃ z:Nat,Hid (y / 2=z)/\2*z<=y/\y<=2*z+1:=⟨y / 2,(rfl:y / 2=y / 2),by omega,by omega⟩;have hd:Int.tdiv (y:Int) 2=(z:Int):=by rw [<- hz.out];rfl
      by_cases aa:(y:Int)<256
      · have HF:Hid ((128*(k:Int)+(y:Int))=Qdg v):=by
          refine (?_:(128*(k:Int)+(y:Int))=Qdg v);rw [HB.out,<- HR.out,Qfr oB];omega
        exact mDb
      · have HN:Hid (128*(k+1)+Qdf z=Qdf v.toNat):=by
          exact mD7
        go_wp2
        go_round
        case rel=>exact ⟨z,k+1,by rfl,by go_num,by omega,by omega,HN⟩
        case measure=>simp [Go.RowKit.intOf];omega
  · have HB:Hid (0=Qdg v):=(QqL h).symm
    have hc:v<1∨¬ v<1/\999999999999999999<v:=oB
    clear h;rcases hc with h | ⟨h,h2⟩
    all_goals
      go_enter func374,ntmps374;go_wp2;go_ret;exact ⟨Qth HB,rfl⟩
def Qbx:Int->List Bn->Bool
  | _,[]=>true
  | last,x :: r=>decide (last<x.1) && decide (x.1<=6878) && decide (x.2≠0) && Qbx x.1 r
def QaT (L:List Bn):Bool:=decide (L.length<=30) && Qbx 0 L
def Qf6 (L:List Bn) (k:Nat):Int:=match k with
  | 0=>0
  | j+1=>match L[j]? with
    | some x=>x.1
    | none=>0
variable {x:Bn}
theorem Qh8 {L:List Bn} (h:L[k]?=some x):Qf6 L (k+1)=x.1:=by simp [Qf6,h]
theorem Qj3 {L:List Bn} (h:L[k]?=some x) (q:Int):Qbx q (L.drop k)=(decide (q<x.1) && decide (x.1<=6878) && decide (x.2≠0) && Qbx x.1 (L.drop (k+1))):=by
  exact mDi
theorem QmB:Qdg 999999999999999999=6878:=by rw [Qgr oB oB];exact congrArg Int.ofNat QmV
theorem Qet {a b:Bool} (h:a=b):Ending.returned (.bool a)=.returned (.bool b):=by rw [h]
variable {w:World}
variable {ao na pa:Option Addr}
theorem QcW {L:List Bn} (cap N:Nat) (hn:L.length=N) (hl:N<=1048576) (hA:QaR w ao L) (hok:∀ x∈L,Qb4 x) :
    Calls prog 375 #[.slice ao N cap] w fun e w'=>e=.returned (.bool (QaT L))/\Bw w w':=by
  have HA:=Qaa hA;have HK:=Qaa hok;have HN:=Qaa hn;have hM:=QmB;by_cases ah:N<=30
  · have HF:Hid (QaT L=Qbx 0 L):=Qaa (by simp [QaT,hn,ah])
    clear hA hok hn;go_enter func375,ntmps375;go_wp2
    go_loopw [3,11] (fun q i wr=>Bw w wr/\∃ (k:Nat) (p:Int),k<=N/\i=.int .i64 k/\q=.int .i64 p/\Hid (Qbx 0 L=Qbx p (L.drop k))) (fun q i wr=>N - (Go.RowKit.intOf i).toNat)
    case atStart=>exact ⟨Below.refl _ _,0,0,Nat.zero_le _,rfl,rfl,(rfl:Qbx 0 L=Qbx 0 (L.drop 0))⟩
    case round=>
      obtain ⟨aa,k,p,hk,rfl,rfl,HR⟩:=hrel;have HB:=Qaa aa;by_cases aj:k<N
      · obtain ⟨⟨a,u⟩,ac⟩:∃ a,L[k]?=some a:=⟨L[k]'(oA HN.out),List.getElem?_eq_getElem _⟩
        obtain ⟨⟨ai,ad⟩,ag,ae⟩:=HK.out _ (List.mem_of_getElem? ac);obtain ⟨b,am,rfl,ab⟩:=HA.out (oA HN.out);have al:=Qab aa (ab k _ ac).1;have ak:=Qab aa (ab k _ ac).2;have HD:=Qaa (Qj3 ac p);have hz:=aa.size;simp at ai ad ag ae;clear aa ab ac;have af:(a<=p)∨(¬ a<=p/\6878<a)∨(¬ a<=p/\¬ 6878<a/\u=0)∨(¬ a<=p/\¬ 6878<a/\u≠0):=oB
        rcases af with q1 | ⟨q1,q2⟩ | ⟨q1,q2,q3⟩ | ⟨q1,q2,q3⟩
        · have HE:Hid (false=QaT L):=Qaa OJ
          have d1:decide (a<=p)=true:=decide_eq_true q1;exact mBm
        · have HE:Hid (false=QaT L):=Qaa OY
          have d1:decide (a<=p)=false:=decide_eq_false q1;have d2:decide (6878<a)=true:=decide_eq_true q2;exact mBm
        · have HE:Hid (false=QaT L):=Qaa (by rw [HF.out,HR.out,HD.out];simp [q3])
          have d1:decide (a<=p)=false:=decide_eq_false q1;have d2:decide (6878<a)=false:=decide_eq_false q2;subst q3;exact mBm
        · have HE:Hid (Qbx 0 L=Qbx a (L.drop (k+1))):=by
            refine (?_:Qbx 0 L=Qbx a (L.drop (k+1)));rw [HR.out,HD.out,decide_eq_true (by show p<a;omega),decide_eq_true xW,decide_eq_true xZ];rfl
          have d1:decide (a<=p)=false:=decide_eq_false q1;have d2:decide (6878<a)=false:=decide_eq_false q2;have d3:(u == 0)=false:=beq_eq_false_iff_ne.2 q3;go_wp2
          go_quiet (first | (go_at_call 374;refine Calls.quiet_of_same (QeX _ _ oO)))
          go_wp2;go_roundw
          case rel=>exact ⟨Qap (HB.alloc hz _) _,k+1,a,by omega,by go_num,rfl,HE⟩
          case measure=>simp [Go.RowKit.intOf];omega
      · have HE:Hid (true=QaT L):=Qaa OH
        clear aa;go_wp2;go_ret;exact ⟨Qet HE,HB⟩
  · have HE:Hid (false=QaT L):=Qaa (by simp [QaT,hn];intro h;omega)
    clear hA hok hn;go_enter func375,ntmps375;go_wp2;go_ret;exact ⟨Qet HE,Below.refl _ _⟩
theorem Qel {L:List Bn} (cap N:Nat) (hn:L.length=N) (hl:N<=1048576) (hA:QaR w ao L) (hok:∀ x∈L,Qb4 x) :
    Calls prog 194 #[.slice ao N cap] w fun e w'=>e=.returned (.bool (QaT L))/\Bw w w':=by
  have HA:=Qaa hA;have HK:=Qaa hok;have HN:=Qaa hn;have hM:=QmB;by_cases am:N<=30
  · have HF:Hid (QaT L=Qbx 0 L):=Qaa (by simp [QaT,hn,am])
    clear hA hok hn;go_enter func194,ntmps194;go_wp2
    go_loopw [3] (fun i wr=>Bw w wr/\∃ (k:Nat),k<=N/\i=.int .i64 k/\Hid (Qbx 0 L=Qbx (Qf6 L k) (L.drop k))/\((k=0/\Qf6 L k=0)∨(0<k/\1<=Qf6 L k))) (fun i wr=>N - (Go.RowKit.intOf i).toNat)
    case atStart=>exact ⟨Below.refl _ _,0,Nat.zero_le _,rfl,(rfl:Qbx 0 L=Qbx 0 (L.drop 0)),.inl ⟨rfl,rfl⟩⟩
    case round=>
      obtain ⟨ac,k,hk,rfl,HR,aa⟩:=hrel;have HB:=Qaa ac;by_cases aq:k<N
      · obtain ⟨⟨a,u⟩,ae⟩:∃ a,L[k]?=some a:=⟨L[k]'(oA HN.out),List.getElem?_eq_getElem _⟩
        obtain ⟨⟨an,ai⟩,ah,al⟩:=HK.out _ (List.mem_of_getElem? ae);obtain ⟨b,ap,rfl,ab⟩:=HA.out (oA HN.out);have au:=Qab ac (ab k _ ae).1;have ar:=Qab ac (ab k _ ae).2;have HD:=Qaa (Qj3 ae (Qf6 L k));have af:=Qaa (Qh8 ae)
        have ad:0<k->∃ j:Nat,k=j+1/\wr.cell? ⟨b,ap+j*2,none⟩=some (.int .i64 (Qf6 L k)):=fun h0=>by
          obtain ⟨j,rfl⟩:∃ j,k=j+1:=⟨k - 1,by omega⟩;obtain ⟨x,hx⟩:∃ a,L[j]?=some a:=⟨L[j]'(oA HN.out),List.getElem?_eq_getElem _⟩;exact ⟨j,rfl,by rw [Qh8 hx];exact Qab ac (ab j _ hx).1⟩
        have HP:=Qaa ad;simp at an ai ah al;clear ac ab ae ad;obtain ⟨p,hp⟩:∃ p,Qf6 L k=p:=⟨_,rfl⟩;rw [hp] at HR HD HP aa;clear hp;have ag:(a<1)∨(¬ a<1/\6878<a)∨(¬ a<1/\¬ 6878<a/\u=0)∨(¬ a<1/\¬ 6878<a/\u≠0/\k=0)∨(¬ a<1/\¬ 6878<a/\u≠0/\0<k/\a<=p)∨(¬ a<1/\¬ 6878<a/\u≠0/\0<k/\¬ a<=p):=oB
        rcases ag with q1 | ⟨q1,q2⟩ | ⟨q1,q2,q3⟩ | ⟨q1,q2,q3,q4⟩ | ⟨q1,q2,q3,q4,q5⟩ | ⟨q1,q2,q3,q4,q5⟩
        · have HE:Hid (false=QaT L):=Qaa OJ
          have d1:decide (a<1)=true:=decide_eq_true q1;clear aa;exact mA8
        · have HE:Hid (false=QaT L):=Qaa OY
          have d1:decide (a<1)=false:=decide_eq_false q1;have d2:decide (6878<a)=true:=decide_eq_true q2;clear aa;exact mA8
        · have HE:Hid (false=QaT L):=Qaa (by rw [HF.out,HR.out,HD.out];simp [q3])
          have d1:decide (a<1)=false:=decide_eq_false q1;have d2:decide (6878<a)=false:=decide_eq_false q2;clear aa;subst q3;exact mA8
        · have HE:Hid (Qbx 0 L=Qbx (Qf6 L (k+1)) (L.drop (k+1))):=by
            exact mCs
          have d1:decide (a<1)=false:=decide_eq_false q1;have d2:decide (6878<a)=false:=decide_eq_false q2;have d3:(u == 0)=false:=beq_eq_false_iff_ne.2 q3;have d4:decide (0<k)=false:=decide_eq_false oB;clear aa q4;go_wp2
          go_quiet (first | (go_at_call 202;refine Calls.quiet_of_same (QbW _ _ oO)))
          go_wp2;go_roundw
          case rel=>exact ⟨Qap HB _,k+1,by omega,by go_num,HE,by have:=af.out;omega⟩
          case measure=>simp [Go.RowKit.intOf];omega
        · have HE:Hid (false=QaT L):=Qaa OJ
          have d1:decide (a<1)=false:=decide_eq_false q1;have d2:decide (6878<a)=false:=decide_eq_false q2;have d3:(u == 0)=false:=beq_eq_false_iff_ne.2 q3;have d4:decide (0<k)=true:=decide_eq_true oB;have d5:decide (a<=p)=true:=decide_eq_true q5;obtain ⟨j,hj,ak⟩:=HP.out q4;have e1:(k:Int) - 1=(j:Int):=oB
          have aj:j<N:=oB
          clear hj;clear aa;exact mA8
        · have HE:Hid (Qbx 0 L=Qbx (Qf6 L (k+1)) (L.drop (k+1))):=by
            exact mCs
          have d1:decide (a<1)=false:=decide_eq_false q1;have d2:decide (6878<a)=false:=decide_eq_false q2;have d3:(u == 0)=false:=beq_eq_false_iff_ne.2 q3;have d4:decide (0<k)=true:=decide_eq_true oB;have d5:decide (a<=p)=false:=decide_eq_false q5;obtain ⟨j,hj,ak⟩:=HP.out q4;have e1:(k:Int) - 1=(j:Int):=oB
          have aj:j<N:=oB
          clear hj;clear aa;go_wp2
          go_quiet (first | (go_at_call 202;refine Calls.quiet_of_same (QbW _ _ oO)))
          go_wp2;go_roundw
          case rel=>exact ⟨Qap HB _,k+1,by omega,by go_num,HE,by have:=af.out;omega⟩
          case measure=>simp [Go.RowKit.intOf];omega
      · have HE:Hid (true=QaT L):=Qaa OH
        clear ac;go_wp2;go_ret;exact ⟨Qet HE,HB⟩
  · have HE:Hid (false=QaT L):=Qaa (by simp [QaT,hn];intro h;omega)
    clear hA hok hn;go_enter func194,ntmps194;go_wp2;go_ret;exact ⟨Qet HE,Below.refl _ _⟩
def skB (P N:List Bn):Bool:=QaT P && QaT N
theorem Qgz {P N:List Bn} (hp:P.length=pn) (hn:N.length=nn) (lp:pn<=1048576) (ln:nn<=1048576) (hP:QaR w pa P) (hN:QaR w na N) (kP:∀ x∈P,Qb4 x) (kN:∀ x∈N,Qb4 x) :
    Calls prog 371 #[.agg #[.int .u64 z,.slice pa pn pc,.slice na nn nc,.int .i64 h,.int .u64 l]] w fun e w'=>e=.returned (.bool (skB P N))/\Bw w w':=by
  have HP:=Qaa hP;have HN:=Qaa hN;have KP:=Qaa kP;have KN:=Qaa kN;have hW:∀ o1,Bw w (w.alloc o1):=fun o1=>bAA;have HW:=Qaa hW;have hz:∀ o1,(w.alloc o1).heap.size=w.heap.size+1:=fun o1=>by simp
  clear hP hN kP kN hW;by_cases hr:QaT P=true
  · have HF:Hid (skB P N=QaT N):=Qaa xT
    go_enter func371,ntmps371;go_wp2_with fail;refine (QcW _ _ hp lp (Qai HP (HW.out _)) KP).mono ?_;rintro e w1 ⟨rfl,aa⟩;obtain ⟨ae,_⟩:=QhC aa;have ad:=(HW.out _).trans (aa.mono oE);simp at ae;have ab:=Qaa ad;clear aa ad;go_wp2_with fail;refine (QcW _ _ hn ln (Qai HN ab) KN).mono ?_;exact mDq
  · have hr:QaT P=false:=by simpa using hr
    have HF:Hid (false=skB P N):=Qaa xT;go_enter func371,ntmps371;go_wp2_with fail;refine (QcW _ _ hp lp (Qai HP (HW.out _)) KP).mono ?_;exact mDj
theorem Qhg {P N:List Bn} (hp:P.length=pn) (hn:N.length=nn) (lp:pn<=1048576) (ln:nn<=1048576) (hP:QaR w pa P) (hN:QaR w na N) (kP:∀ x∈P,Qb4 x) (kN:∀ x∈N,Qb4 x) :
    Calls prog 127 #[.agg #[.int .u64 z,.slice pa pn pc,.slice na nn nc,.int .i64 h,.int .u64 l]] w fun e w'=>e=.returned (.bool (skB P N))/\Bw w w':=by
  have HP:=Qaa hP;have HN:=Qaa hN;have KP:=Qaa kP;have KN:=Qaa kN;have hW:∀ o1,Bw w (w.alloc o1):=fun o1=>bAA;have HW:=Qaa hW;clear hP hN kP kN hW;by_cases hr:QaT P=true
  · have HF:Hid (skB P N=QaT N):=Qaa xT
    go_enter func127,ntmps127;go_wp2_with fail;refine (Qel _ _ hp lp (Qai HP (HW.out _)) KP).mono ?_;rintro e w1 ⟨rfl,aa⟩;obtain ⟨ae,_⟩:=QhC aa;have ad:=(HW.out _).trans (aa.mono oE);simp at ae;have ab:=Qaa ad;clear aa ad;go_wp2_with fail;refine (Qel _ _ hn ln (Qai HN ab) KN).mono ?_;exact mDq
  · have hr:QaT P=false:=by simpa using hr
    have HF:Hid (false=skB P N):=Qaa xT;go_enter func127,ntmps127;go_wp2_with fail;refine (Qel _ _ hp lp (Qai HP (HW.out _)) KP).mono ?_;exact mDj
def upN:List Int->Bool
  | []=>true
  | [_]=>true
  | a :: b :: r=>decide (a<b) && upN (b :: r)
variable {L N P:List Int}
theorem Qt9 (h:L[k]?=some a) (g:L[k+1]?=some b):upN (L.drop k)=(decide (a<b) && upN (L.drop (k+1))):=by
  have hk:=(List.getElem?_eq_some_iff.1 h).1;have gk:=(List.getElem?_eq_some_iff.1 g).1;rw [List.drop_eq_getElem_cons hk,(List.getElem?_eq_some_iff.1 h).2,List.drop_eq_getElem_cons gk,(List.getElem?_eq_some_iff.1 g).2];rfl
theorem QtY (h:L.length<=k+1):upN (L.drop k)=true:=by
  have hl:(L.drop k).length<=1:=by rw [List.length_drop];omega
  match h2:L.drop k,hl with
  | [],_=>rfl
  | [_],_=>rfl
  | _ :: _ :: _,h=>simp at h
def inR (x:Int):Bool:=decide (0<=x) && decide (x<=55)
theorem Qsj (h:L[k]?=some a):(L.drop k).all inR=(inR a && (L.drop (k+1)).all inR):=by
  exact mDi
def exB (E:List Int):Bool:=decide (E.length<=40) && upN E
def Qhv (R:List Int):Bool:=decide (R.length=64) && R.all inR
def hlB (E R:List Int):Bool:=if R.length=0 then exB E else decide (E.length=0) && Qhv R
variable {B:Bool}
theorem QmD (h:L[k]?=some a) (g:L[k+1]?=some b) (e:B=upN (L.drop k)):(b<=a->false=B)/\(¬ b<=a->B=upN (L.drop (k+1))):=by
  rw [Qt9 h g] at e;exact ⟨fun q=>by rw [e,decide_eq_false oB];rfl,fun q=>by rw [e,decide_eq_true oB,Bool.true_and]⟩
theorem QmK (h:L[k]?=some a) (e:B=(L.drop k).all inR):(a<0∨55<a->false=B)/\(0<=a->a<=55->B=(L.drop (k+1)).all inR):=by
  rw [Qsj h] at e;unfold inR at e
  exact ⟨fun q => by rw [e]; rcases q with q | q
                     · rw [decide_eq_false oB];rfl
                     · rw [decide_eq_false (p:=a<=55) oB,Bool.and_false];rfl,fun q q'=>by rw [e,decide_eq_true q,decide_eq_true q'];rfl⟩
theorem QhK (cap N:Nat) (hn:L.length=N) (hl:N<=1048576) (hA:QaE .u64 w ao L) :
    Calls prog 393 #[.slice ao N cap] w fun e w'=>e=.returned (.bool (exB L))/\Bw w w':=by
  have HA:=Qaa hA;have HN:=Qaa hn;by_cases af:N<=40
  · have HF:Hid (exB L=upN L):=Qaa (by simp [exB,hn,af])
    clear hA hn;go_enter func393,ntmps393;go_wp2
    go_loopw [9] (fun i wr=>Bw w wr/\∃ (k:Nat),k<=N/\i=.int .i64 k/\Hid (exB L=upN (L.drop (k - 1)))) (fun i wr=>N - (Go.RowKit.intOf i).toNat)
    case atStart=>exact ⟨Below.refl _ _,0,Nat.zero_le _,rfl,HF⟩
    case round=>
      obtain ⟨ab,k,hk,rfl,HR⟩:=hrel;have HB:=Qaa ab;by_cases ag:k<N
      · obtain ⟨u,ac⟩:∃ a,L[k]?=some a:=⟨L[k]'(oA HN.out),List.getElem?_eq_getElem _⟩
        obtain ⟨b,ak,rfl,aa⟩:=HA.out (oA HN.out);have aj:=Qab ab (aa k _ ac);by_cases ae:k=0
        · subst ae
          clear ab aa ac;go_wp2
          go_quiet (fail)
          go_wp2;go_roundw
          case rel=>exact ⟨Qap HB _,1,by omega,by go_num,HR⟩
          case measure=>simp [Go.RowKit.intOf];omega
        · obtain ⟨j,rfl⟩:∃ j,k=j+1:=⟨k - 1,by omega⟩
          obtain ⟨a,ad⟩:∃ a,L[j]?=some a:=⟨L[j]'(oA HN.out),List.getElem?_eq_getElem _⟩;have ah:=Qab ab (aa j _ ad);have HU:=Qaa (QmD ad ac HR);clear ab aa ac ad HR;have ai:((j+1:Nat):Int) - 1=(j:Int):=oB
          by_cases q:u<=a
          · have d1:decide (u<=a)=true:=decide_eq_true q
            go_wp2
            go_quiet (fail)
            go_wp2;go_ret;exact ⟨Qa5 (HU.1 q),Qap HB _⟩
          · have d1:decide (u<=a)=false:=decide_eq_false q
            go_wp2
            go_quiet (fail)
            go_wp2;go_roundw
            case rel=>exact ⟨Qap HB _,j+1+1,by omega,by go_num,HU.2 q⟩
            case measure=>simp [Go.RowKit.intOf];omega
      · have HE:Hid (true=exB L):=Qaa (by rw [HR.out,QtY (oA HN.out)])
        clear ab;exact mCa
  · have HE:Hid (false=exB L):=Qaa (by simp [exB,hn];intro h;omega)
    clear hA hn;go_enter func393,ntmps393;exact mDa
theorem QiA (cap N:Nat) (hn:L.length=N) (hl:N<=1048576) (hA:QaE .i64 w ao L) :
    Calls prog 394 #[.slice ao N cap] w fun e w'=>e=.returned (.bool (Qhv L))/\Bw w w':=by
  have HA:=Qaa hA;have HN:=Qaa hn;by_cases ad:N=64
  · subst ad
    have HF:Hid (Qhv L=L.all inR):=Qaa (by simp [Qhv,hn]);clear hA hn;go_enter func394,ntmps394;go_wp2
    go_loopw [10] (fun i wr=>Bw w wr/\∃ (k:Nat),k<=64/\i=.int .i64 k/\Hid (Qhv L=(L.drop k).all inR)) (fun i wr=>64 - (Go.RowKit.intOf i).toNat)
    case atStart=>exact ⟨Below.refl _ _,0,Nat.zero_le _,rfl,HF⟩
    case round=>
      obtain ⟨aa,k,hk,rfl,HR⟩:=hrel;have HB:=Qaa aa;by_cases ae:k<64
      · obtain ⟨u,ac⟩:∃ a,L[k]?=some a:=⟨L[k]'(oA HN.out),List.getElem?_eq_getElem _⟩
        obtain ⟨b,ag,rfl,ab⟩:=HA.out (oA HN.out);have af:=Qab aa (ab k _ ac);have HU:=Qaa (QmK ac HR);clear aa ab ac HR;by_cases q:u<0
        · have d1:decide (u<0)=true:=decide_eq_true q
          go_wp2;go_ret;exact ⟨Qa5 (HU.1 (.inl q)),HB⟩
        · have d1:decide (u<0)=false:=decide_eq_false q
          by_cases q2:55<u
          · have d2:decide (55<u)=true:=decide_eq_true q2
            go_wp2;go_ret;exact ⟨Qa5 (HU.1 (.inr q2)),HB⟩
          · have d2:decide (55<u)=false:=decide_eq_false q2
            go_wp2;go_roundw
            case rel=>exact ⟨HB,k+1,by omega,by go_num,HU.2 oB oB⟩
            case measure=>simp [Go.RowKit.intOf];omega
      · have HE:Hid (true=Qhv L):=Qaa (by rw [HR.out,List.drop_eq_nil_of_le (oA HN.out)];rfl)
        clear aa;exact mCa
  · have HE:Hid (false=Qhv L):=Qaa (by simp [Qhv,hn,ad])
    have hb:((N:Int) == 64)=false:=beq_eq_false_iff_ne.2 oB;clear hA hn;go_enter func394,ntmps394;exact mDa
theorem QkT (hp:P.length=pn) (hn:N.length=nn) (lp:pn<=1048576) (ln:nn<=1048576) (hP:QaE .u64 w pa P) (hN:QaE .i64 w na N) :
    Calls prog 391 #[.agg #[.slice pa pn pc,.slice na nn nc]] w fun e w'=>e=.returned (.bool (hlB P N))/\Bw w w':=by
  have HP:=Qaa hP;have HN:=Qaa hN;have hW:∀ o1,Bw w (w.alloc o1):=fun o1=>bAA;have HW:=Qaa hW;clear hP hN hW;by_cases h0:nn=0
  · subst h0
    have HF:Hid (exB P=hlB P N):=Qaa (by simp [hlB,hn]);go_enter func391,ntmps391;go_wp2_with fail;refine (QhK _ _ hp lp (Qak HP (HW.out _))).mono ?_;exact mDp
  · have ac:((nn:Int) == 0)=false:=beq_eq_false_iff_ne.2 oB
    by_cases h1:pn=0
    · subst h1
      have HF:Hid (Qhv N=hlB P N):=Qaa (by simp [hlB,hn,h0,hp]);go_enter func391,ntmps391;go_wp2_with fail;refine (QiA _ _ hn ln (Qak HN (HW.out _))).mono ?_;exact mDp
    · have aa:((pn:Int) == 0)=false:=beq_eq_false_iff_ne.2 oB
      have HF:Hid (false=hlB P N):=Qaa (by simp [hlB,hn,h0,hp,h1]);go_enter func391,ntmps391;go_wp2;go_ret;exact ⟨Qa5 HF,HW.out _⟩
theorem Qky (n lo hi:Int) (w:World) (hn:I64 n) :
    Calls prog 31 #[.int .i64 n,.int .i64 lo,.int .i64 hi] w fun e w'=>e=.returned (.bool (decide (lo<=n) && decide (n<=hi)))/\w'=w:=by
  by_cases h:lo<=n
  · have d1:decide (lo<=n)=true:=decide_eq_true h
    go_enter func31,ntmps31;go_wp2;go_ret;exact ⟨Qa5 (by rw [d1,Bool.true_and]),rfl⟩
  · have d1:decide (lo<=n)=false:=decide_eq_false h
    go_enter func31,ntmps31;go_wp2;exact mBk
theorem QjZ (hp:P.length=pn) (hn:N.length=nn) (lp:pn<=1048576) (ln:nn<=1048576) (hP:QaE .u64 w pa P) (hN:QaE .i64 w na N) (kN:∀ x∈N,I64 x) :
    Calls prog 128 #[.agg #[.slice pa pn pc,.slice na nn nc]] w fun e w'=>e=.returned (.bool (hlB P N))/\Bw w w':=by
  have HP:=Qaa hP;have HN:=Qaa hN;have EP:=Qaa hp;have EN:=Qaa hn;have KN:=Qaa kN;have hW:∀ o1,Bw w (w.alloc o1):=fun o1=>bAA;have HW:=Qaa hW;clear hP hN hW kN;by_cases h0:nn=0
  · subst h0
    have HF:Hid (hlB P N=(decide (pn<=40) && upN P)):=Qaa (by simp [hlB,hn,exB,hp]);clear hp hn;go_enter func128,ntmps128;go_wp2
    go_loopw [3] (fun i wr=>Bw w wr/\Qce wr w.heap.size (.slice pa pn pc) (.slice na 0 nc)/\∃ (k:Nat),(k<=pn∨k=1)/\1<=k/\i=.int .i64 k/\Hid (upN P=upN (P.drop (k - 1)))) (fun i wr=>pn - (Go.RowKit.intOf i).toNat)
    case atStart=>exact ⟨HW.out _,QkG _ _ _ _,1,.inr rfl,Nat.le_refl _,rfl,(rfl:upN P=upN (P.drop 0))⟩
    case round=>
      obtain ⟨aa,hK,k,hk,ah,rfl,HR⟩:=hrel;have HB:=Qaa aa;have HK:=Qaa hK;by_cases ae:k<pn
      · obtain ⟨j,rfl⟩:∃ j,k=j+1:=⟨k - 1,by omega⟩
        obtain ⟨u,ac⟩:∃ a,P[j+1]?=some a:=⟨P[j+1]'(oA EP.out),List.getElem?_eq_getElem _⟩;obtain ⟨a,ad⟩:∃ a,P[j]?=some a:=⟨P[j]'(oA EP.out),List.getElem?_eq_getElem _⟩;obtain ⟨b,ag,rfl,ab⟩:=HP.out (oA EP.out);have af:=Qab aa (ab _ _ ac);have ai:=Qab aa (ab j _ ad);have HU:=Qaa (QmD ad ac HR);have ak:((j+1:Nat):Int) - 1=(j:Int):=oB
        clear aa ab ac ad HR;by_cases q:u<=a
        · have d1:decide (u<=a)=true:=decide_eq_true q
          have HE:Hid (false=hlB P N):=Qaa (by rw [HF.out,<- HU.1 q,Bool.and_false]);exact mBt
        · have d1:decide (u<=a)=false:=decide_eq_false q
          go_wp2
          go_quiet (fail)
          go_wp2;go_roundw
          case rel=>exact ⟨Qap HB _,HK,j+1+1,by omega,by omega,by go_num,HU.2 q⟩
          case measure=>simp [Go.RowKit.intOf];omega
      · have HE:Hid (decide ((pn:Int)<=40)=hlB P N):=Qaa (by rw [HF.out,HR.out,QtY (oA EP.out),Bool.and_true];exact decide_eq_decide.2 oB)
        clear aa;exact mCa
  · have aj:((nn:Int) == 0)=false:=beq_eq_false_iff_ne.2 oB
    have HF:Hid (hlB P N=(decide (pn=0) && (decide (nn=64) && N.all inR))):=Qaa (by simp [hlB,hn,h0,hp,Qhv]);clear hp hn;go_enter func128,ntmps128;go_wp2
    go_loopw [4] (fun i wr=>Bw w wr/\Qce wr w.heap.size (.slice pa pn pc) (.slice na nn nc)/\∃ (k:Nat),k<=nn/\i=.int .i64 k/\Hid (N.all inR=(N.drop k).all inR)) (fun i wr=>nn - (Go.RowKit.intOf i).toNat)
    case atStart=>exact ⟨HW.out _,QkG _ _ _ _,0,Nat.zero_le _,rfl,(rfl:N.all inR=(N.drop 0).all inR)⟩
    case round=>
      obtain ⟨aa,hK,k,hk,rfl,HR⟩:=hrel;have HB:=Qaa aa;have HK:=Qaa hK;by_cases ae:k<nn
      · obtain ⟨u,ac⟩:∃ a,N[k]?=some a:=⟨N[k]'(oA EN.out),List.getElem?_eq_getElem _⟩
        obtain ⟨b,ag,rfl,ab⟩:=HN.out (oA EN.out);have af:=Qab aa (ab k _ ac);have hu:=KN.out _ (List.mem_of_getElem? ac);have HU:=Qaa (QmK ac HR);clear aa ab ac HR;by_cases q:0<=u/\u<=55
        · have d1:(decide (0<=u) && decide (u<=55))=true:=by simp [q.1,q.2]
          have HQ:=Qaa q;clear q;go_wp2_with (go_at_call 31;refine (Qky _ _ _ _ hu).mono ?_;rintro e w1 ⟨rfl,rfl⟩;rw [d1]);go_roundw
          case rel=>exact ⟨HB,HK,k+1,by omega,by go_num,HU.2 HQ.1 HQ.2⟩
          case measure=>simp [Go.RowKit.intOf];omega
        · have d1:(decide (0<=u) && decide (u<=55))=false:=by rw [Bool.eq_false_iff];intro h;simp at h;exact q h
          have HE:Hid (false=hlB P N):=Qaa (by rw [HF.out,<- HU.1 oB,Bool.and_false,Bool.and_false]);clear q;go_wp2_with (go_at_call 31;refine (Qky _ _ _ _ hu).mono ?_;rintro e w1 ⟨rfl,rfl⟩;rw [d1]);go_ret;exact ⟨Qa5 HE,HB⟩
      · have hE:hlB P N=(decide (pn=0) && decide (nn=64)):=by rw [HF.out,HR.out,List.drop_eq_nil_of_le (oA EN.out)];simp
        by_cases h1:pn=0
        · subst h1
          have HE:Hid (((nn:Int) == 64)=hlB P N):=Qaa (by rw [hE];simp only [decide_true,Bool.true_and];by_cases h:nn=64 <;> simp [h] <;> omega);clear aa hE;exact mCa
        · have HE:Hid (false=hlB P N):=Qaa (by rw [hE,decide_eq_false h1];rfl)
          have al:((pn:Int) == 0)=false:=beq_eq_false_iff_ne.2 oB;clear aa hE;exact mCa
def QnY (v:Int):Bool:=decide (-999999999999999999<=v) && decide (v<=999999999999999999)
def QnW (a t:Int):Bool:=if t=-1 then decide (a=0) else decide (0<=t) && decide (t<=1000000000) && QnY a
theorem QiC (v:Int) (w:World):Calls prog 237 #[.int .i64 v] w fun e w'=>e=.returned (.bool (QnY v))/\w'=w:=by
  by_cases h1:-999999999999999999<=v <;> by_cases h2:v<=999999999999999999 <;> (go_enter func237,ntmps237;go_wp2;go_ret;exact ⟨by simp [QnY,h1,h2],rfl⟩)
theorem Qgo (n lo hi:Int) (w:World):Calls prog 31 #[.int .i64 n,.int .i64 lo,.int .i64 hi] w fun e w'=>e=.returned (.bool (decide (lo<=n) && decide (n<=hi)))/\w'=w:=by
  by_cases h1:lo<=n <;> by_cases h2:n<=hi <;> (go_enter func31,ntmps31;go_wp2;go_ret;exact ⟨by simp [h1,h2],rfl⟩)
theorem Qll (v:Int) (w:World):Calls prog 131 #[.int .i64 v] w fun e w'=>e=.returned (.bool (QnY v))/\w'=w:=by
  go_enter func131,ntmps131;go_wp2_with (go_at_call 31;refine (Qgo _ _ _ _).mono ?_;rintro e w1 ⟨rfl,aa⟩;obtain rfl:=aa);exact mBk
theorem QrQ (h l:Int) (w:World):Calls prog 360 #[.agg #[.int .i64 h,.int .u64 l]] w fun e w'=>e=.returned (.bool true)/\Bw w w':=by
  go_enter func360,ntmps360;go_wp2;go_ret;exact ⟨rfl,(Below.refl _ _).alloc (Nat.le_refl _) _⟩
theorem QrT (a t:Int) (w:World):Calls prog 366 #[.agg #[.int .i64 a,.int .i64 t]] w fun e w'=>e=.returned (.bool (QnW a t))/\Bw w w':=by
  by_cases h1:t=-1
  · have b1:(t == -1)=true:=by simp [h1]
    have HE:Hid (decide (a=0)=QnW a t):=by unfold QnW;rw [if_pos h1];rfl
    clear h1;by_cases h2:a=0
    · go_enter func366,ntmps366
      exact mDz
    · have b2:(a == 0)=false:=beq_eq_false_iff_ne.2 h2
      go_enter func366,ntmps366;exact mDz
  · have b1:(t == -1)=false:=beq_eq_false_iff_ne.2 h1
    have HE:Hid ((decide (0<=t) && decide (t<=1000000000) && QnY a)=QnW a t):=by unfold QnW;rw [if_neg h1];rfl
    clear h1;have HB:Hid (∀ o,Bw w (w.alloc o)):=fun o=>(Below.refl _ _).alloc (Nat.le_refl _) o;by_cases h2:0<=t
    · by_cases h3:t<=1000000000
      · have aa:Hid (QnY a=QnW a t):=by have:=HE.out;simp [h2,h3] at this;exact this
        go_enter func366,ntmps366;go_wp2_with (go_at_call 237;refine (QiC _ _).mono ?_;rintro e w1 ⟨rfl,hw⟩;subst hw);go_ret;exact ⟨Qas aa,HB.out _⟩
      · have aa:Hid (false=QnW a t):=by have:=HE.out;simp [h2,h3] at this;exact this.symm
        go_enter func366,ntmps366;go_wp2;go_ret;exact ⟨Qas aa,HB.out _⟩
    · have aa:Hid (false=QnW a t):=by have:=HE.out;simp [h2] at this;exact this.symm
      go_enter func366,ntmps366;go_wp2;go_ret;exact ⟨Qas aa,HB.out _⟩
theorem taCC (v:Value) (w:World):(Instr.typeAssert (.iface 304 v) 247 304 true).run prog w=.ok (.tuple #[v,.bool true]) w:=oG
theorem taGC (v:Value) (w:World):(Instr.typeAssert (.iface 306 v) 247 304 true).run prog w=.ok (.tuple zAl) w:=oG
theorem taGG (v:Value) (w:World):(Instr.typeAssert (.iface 306 v) 247 306 true).run prog w=.ok (.tuple #[v,.bool true]) w:=oG
theorem taHC (v:Value) (w:World):(Instr.typeAssert (.iface 308 v) 247 304 true).run prog w=.ok (.tuple zAl) w:=oG
theorem taHG (v:Value) (w:World):(Instr.typeAssert (.iface 308 v) 247 306 true).run prog w=.ok (.tuple #[.agg #[.int .i64 0,.int .i64 0],.bool false]) w:=oG
theorem taHH (v:Value) (w:World):(Instr.typeAssert (.iface 308 v) 247 308 true).run prog w=.ok (.tuple #[v,.bool true]) w:=oG
theorem taSC (v:Value) (w:World):(Instr.typeAssert (.iface 310 v) 247 304 true).run prog w=.ok (.tuple zAl) w:=oG
theorem taSG (v:Value) (w:World):(Instr.typeAssert (.iface 310 v) 247 306 true).run prog w=.ok (.tuple #[.agg #[.int .i64 0,.int .i64 0],.bool false]) w:=oG
theorem taSH (v:Value) (w:World):(Instr.typeAssert (.iface 310 v) 247 308 true).run prog w=.ok (.tuple #[.agg #[.int .u64 0,.slice none 0 0,.slice none 0 0,.int .i64 0,.int .u64 0],.bool false]) w:=oG
theorem taSS (v:Value) (w:World):(Instr.typeAssert (.iface 310 v) 247 310 true).run prog w=.ok (.tuple #[v,.bool true]) w:=oG
variable {g:Ag}
variable {p:Pl}
theorem QoV (w:World) (h:g.k=1):Calls prog 192 #[.agg (Qau g p)] w fun e w'=>e=.returned (.iface 304 (.agg #[.int .i64 g.h,.int .u64 g.l]))/\Bw w w':=by
  have b1:(g.k == 1)=true:=by simp [h]
  clear h;exact mBi
theorem Qoa (g:Ag) (p:Pl) (w:World):Calls prog 190 #[.int .u64 g.s,.iface 304 (.agg #[.int .i64 g.h,.int .u64 g.l])] w fun e w'=>e=.returned (.agg (Qau ⟨1,g.s,g.h,g.l,0,0,0,[],[],0,0,[],[]⟩ ⟨none,0,none,0,none,0,none,0⟩))/\Bw w w':=by
  have tC:=taCC (.agg #[.int .i64 g.h,.int .u64 g.l]);go_enter func190,ntmps190;go_wp2;exact bodyPost_ret (v:=.agg #[.int .i64 1,.int .u64 g.s,.int .i64 g.h,.int .u64 g.l,.int .i64 0,.int .i64 0,.int .u64 0,.slice none 0 0,.slice none 0 0,.int .i64 0,.int .u64 0,.slice none 0 0,.slice none 0 0]) (by simp [results,results190,go_sem]) rfl ⟨rfl,((Below.refl _ _).alloc (Nat.le_refl _) _).alloc oE _⟩
theorem QqR (w:World) (h:g.k=2):Calls prog 192 #[.agg (Qau g p)] w fun e w'=>e=.returned (.iface 306 (.agg #[.int .i64 g.a,.int .i64 g.t]))/\Bw w w':=by
  have b1:(g.k == 1)=false:=beq_eq_false_iff_ne.2 oB;have b2:(g.k == 2)=true:=by simp [h]
  clear h;exact mBi
theorem QnP (g:Ag) (p:Pl) (w:World):Calls prog 190 #[.int .u64 g.s,.iface 306 (.agg #[.int .i64 g.a,.int .i64 g.t])] w fun e w'=>e=.returned (.agg (Qau ⟨2,g.s,0,0,g.a,g.t,0,[],[],0,0,[],[]⟩ ⟨none,0,none,0,none,0,none,0⟩))/\Bw w w':=by
  have tC:=taGC (.agg #[.int .i64 g.a,.int .i64 g.t]);have tG:=taGG (.agg #[.int .i64 g.a,.int .i64 g.t]);go_enter func190,ntmps190;go_wp2;exact bodyPost_ret (v:=.agg #[.int .i64 2,.int .u64 g.s,.int .i64 0,.int .u64 0,.int .i64 g.a,.int .i64 g.t,.int .u64 0,.slice none 0 0,.slice none 0 0,.int .i64 0,.int .u64 0,.slice none 0 0,.slice none 0 0]) (by simp [results,results190,go_sem]) rfl ⟨rfl,((Below.refl _ _).alloc (Nat.le_refl _) _).alloc oE _⟩
theorem QpH (w:World) (h:g.k=3):Calls prog 192 #[.agg (Qau g p)] w fun e w'=>e=.returned (.iface 308 (.agg #[.int .u64 g.z,.slice p.pa g.P.length p.pc,.slice p.na g.N.length p.nc,.int .i64 g.x,.int .u64 g.y]))/\Bw w w':=by
  have b1:(g.k == 1)=false:=beq_eq_false_iff_ne.2 oB;have b2:(g.k == 2)=false:=beq_eq_false_iff_ne.2 oB;have b3:(g.k == 3)=true:=by simp [h]
  clear h;exact mBi
theorem Qon (g:Ag) (p:Pl) (w:World):Calls prog 190 #[.int .u64 g.s,.iface 308 (.agg #[.int .u64 g.z,.slice p.pa g.P.length p.pc,.slice p.na g.N.length p.nc,.int .i64 g.x,.int .u64 g.y])] w fun e w'=>e=.returned (.agg (Qau ⟨3,g.s,0,0,0,0,g.z,g.P,g.N,g.x,g.y,[],[]⟩ ⟨p.pa,p.pc,p.na,p.nc,none,0,none,0⟩))/\Bw w w':=by
  have tC:=taHC (.agg #[.int .u64 g.z,.slice p.pa g.P.length p.pc,.slice p.na g.N.length p.nc,.int .i64 g.x,.int .u64 g.y]);have tG:=taHG (.agg #[.int .u64 g.z,.slice p.pa g.P.length p.pc,.slice p.na g.N.length p.nc,.int .i64 g.x,.int .u64 g.y]);have tH:=taHH (.agg #[.int .u64 g.z,.slice p.pa g.P.length p.pc,.slice p.na g.N.length p.nc,.int .i64 g.x,.int .u64 g.y]);go_enter func190,ntmps190;go_wp2;exact bodyPost_ret (v:=.agg #[.int .i64 3,.int .u64 g.s,.int .i64 0,.int .u64 0,.int .i64 0,.int .i64 0,.int .u64 g.z,.slice p.pa g.P.length p.pc,.slice p.na g.N.length p.nc,.int .i64 g.x,.int .u64 g.y,.slice none 0 0,.slice none 0 0]) (by simp [results,results190,go_sem]) rfl ⟨rfl,((Below.refl _ _).alloc (Nat.le_refl _) _).alloc oE _⟩
theorem QqU (w:World) (h:g.k=4):Calls prog 192 #[.agg (Qau g p)] w fun e w'=>e=.returned (.iface 310 (.agg #[.slice p.ea g.E.length p.ec,.slice p.ra g.R.length p.rc]))/\Bw w w':=by
  have b1:(g.k == 1)=false:=beq_eq_false_iff_ne.2 oB;have b2:(g.k == 2)=false:=beq_eq_false_iff_ne.2 oB;have b3:(g.k == 3)=false:=beq_eq_false_iff_ne.2 oB;have b4:(g.k == 4)=true:=by simp [h]
  clear h;exact mBi
theorem Qn7 (g:Ag) (p:Pl) (w:World):Calls prog 190 #[.int .u64 g.s,.iface 310 (.agg #[.slice p.ea g.E.length p.ec,.slice p.ra g.R.length p.rc])] w fun e w'=>e=.returned (.agg (Qau ⟨4,g.s,0,0,0,0,0,[],[],0,0,g.E,g.R⟩ ⟨none,0,none,0,p.ea,p.ec,p.ra,p.rc⟩))/\Bw w w':=by
  have tC:=taSC (.agg #[.slice p.ea g.E.length p.ec,.slice p.ra g.R.length p.rc]);have tG:=taSG (.agg #[.slice p.ea g.E.length p.ec,.slice p.ra g.R.length p.rc]);have tH:=taSH (.agg #[.slice p.ea g.E.length p.ec,.slice p.ra g.R.length p.rc]);have tS:=taSS (.agg #[.slice p.ea g.E.length p.ec,.slice p.ra g.R.length p.rc]);go_enter func190,ntmps190;go_wp2;exact bodyPost_ret (v:=.agg #[.int .i64 4,.int .u64 g.s,.int .i64 0,.int .u64 0,.int .i64 0,.int .i64 0,.int .u64 0,.slice none 0 0,.slice none 0 0,.int .i64 0,.int .u64 0,.slice p.ea g.E.length p.ec,.slice p.ra g.R.length p.rc]) (by simp [results,results190,go_sem]) rfl ⟨rfl,((Below.refl _ _).alloc (Nat.le_refl _) _).alloc oE _⟩
theorem Qq8 (w:World) (h1:¬ g.k=1) (h2:¬ g.k=2) (h3:¬ g.k=3) (h4:¬ g.k=4):Calls prog 192 #[.agg (Qau g p)] w fun e w'=>e=.returned .nilIface/\Bw w w':=by
  have b1:(g.k == 1)=false:=beq_eq_false_iff_ne.2 h1;have b2:(g.k == 2)=false:=beq_eq_false_iff_ne.2 h2;have b3:(g.k == 3)=false:=beq_eq_false_iff_ne.2 h3;have b4:(g.k == 4)=false:=beq_eq_false_iff_ne.2 h4;clear h1 h2 h3 h4;exact mBi
end Go.Proofs.YtioohanfodmddaaGreatDoor
