/-
 Parts.
-/
import Derived.Test.YtandnmpllheniaaGreatDoorCJC
set_option linter.all false
set_option maxHeartbeats 4000000
namespace Go.Proofs.YtandnmpllheniaaGreatDoor
open Go.ChangeShapes Go.WideShapes Go.ChangeAt Go.RowKit
def Qdx (v:Nat):Nat:=if h:v<256 then v else 128+Qdx (v / 2)
termination_by v
decreasing_by omega
def lowW (a:Nat):Nat:=if h:a<256 then a else 2*lowW (a - 128)
termination_by a
decreasing_by omega
theorem Qfr {v:Nat} (h:v<256):Qdx v=v:=by rw [Qdx,dif_pos h]
theorem Qez {v:Nat} (h:¬ v<256):Qdx v=128+Qdx (v / 2):=by rw [Qdx,dif_neg h]
theorem Qnb (v:Nat):Qdx v<=v:=by
  induction v using Nat.strongRecOn with
  | ind v ih=>
    by_cases h:v<256
    · rw [Qfr h];exact ZZa _
    · rw [Qez h];have:=ih (v / 2) (by omega);omega
theorem QnV (v:Nat):∀ w,v<=w->Qdx v<=Qdx w:=by
  induction v using Nat.strongRecOn with
  | ind v ih=>
    intro w hw;by_cases h:v<256
    · rw [Qfr h]
      by_cases k:w<256
      · rw [Qfr k];exact hw
      · have g:∀ x,128<=x->128<=Qdx x:=by
          intro x
          induction x using Nat.strongRecOn with
          | ind x ix=>
            intro hx;by_cases z:x<256
            · rw [Qfr z];exact hx
            · rw [Qez z];omega
        rw [Qez k];have:=g (w / 2) (by omega);omega
    · rw [Qez h,Qez (v:=w) (by omega)]
      have:=ih (v / 2) (by omega) (w / 2) (by omega);omega
theorem QlO:Qdx 999999999999999999=6878:=by simp [Qdx]
theorem Qrd {v:Nat} (h:v<=999999999999999999):Qdx v<=6878:=by have:=QnV v _ h;rwa [QlO] at this
def Qdv (v:Int):Int:=if 1<=v/\v<=999999999999999999 then (Qdx v.toNat:Int) else 0
def lowI (a:Int):Int:=if 1<=a/\a<=7000 then (lowW a.toNat:Int) else 0
theorem QfH (v:Int):0<=Qdv v/\Qdv v<=6878:=by
  unfold Qdv
  split
  · have:=Qrd (v:=v.toNat) (by omega);omega
  · omega
theorem Qgk {v:Int} (h:1<=v) (h2:v<=999999999999999999):Qdv v=(Qdx v.toNat:Int):=if_pos ⟨h,h2⟩
theorem Qn6 {v:Int} (h:¬ (1<=v/\v<=999999999999999999)):Qdv v=0:=if_neg h
set_option maxRecDepth 10000
open Go.PlainAid
theorem Qkv {a b:Int} (h:a=b):Ending.returned (.int .i64 a)=.returned (.int .i64 b):=by rw [h]
theorem QlT (n a b:Int) (w:World) (hn:I64 n) (ha:I64 a) (hb:I64 b) :
    Calls Tryz.prog 90 #[.int .i64 n,.int .i64 a,.int .i64 b] w fun e w'=>e=.returned (.bool (decide (a<=n/\n<=b)))/\w'=w:=by
  unfold I64 at hn ha hb;by_cases h1:a<=n
  · by_cases h2:n<=b
    · have e:decide (a<=n/\n<=b)=true:=ZZh ⟨h1,h2⟩
      rw [e];go_enter Tryz.func90,Tryz.ntmps90;go_wp2;go_ret;exact ⟨rfl,rfl⟩
    · have e:decide (a<=n/\n<=b)=false:=ZZg (fun h=>h2 h.2)
      rw [e];go_enter Tryz.func90,Tryz.ntmps90;go_wp2;go_ret;exact ⟨rfl,rfl⟩
  · have e:decide (a<=n/\n<=b)=false:=ZZg (fun h=>h1 h.1)
    rw [e];go_enter Tryz.func90,Tryz.ntmps90;go_wp2;go_ret;exact ⟨rfl,rfl⟩
theorem Qca (v:Int) (w:World) (hv:I64 v) :
    Calls Tryz.prog 179 #[.int .i64 v] w fun e w'=>e=.returned (.int .i64 (Qdv v))/\w'=w:=by
  have aa:=hv;unfold I64 at hv;by_cases h:1<=v/\v<=999999999999999999
  · have e1:decide (1<=v/\v<=999999999999999999)=true:=ZZh h
    have HB:Hid (Qdv v=(Qdx v.toNat:Int)):=Qgk h.1 h.2;have HL:Hid (Qdx v.toNat<=v.toNat):=Qnb _;obtain ⟨h1,h2⟩:=h;go_enter Tryz.func179,Tryz.ntmps179;go_wp2_with (go_at_call 90;refine (QlT _ _ _ _ aa (by unfold I64;omega) (by unfold I64;omega)).mono ?_;rintro e w1 ⟨rfl,rfl⟩;rw [e1]);clear e1
    go_loop [0,3] (fun x i=>∃ y k:Nat,x=.int .i64 y/\i=.int .i64 k/\1<=y/\y<=999999999999999999/\Hid (128*k+Qdx y=Qdx v.toNat)) (fun x i=>(Go.RowKit.intOf x).toNat)
    case atStart=>exact ⟨v.toNat,0,by rw [Int.toNat_of_nonneg (by omega)],rfl,by omega,by omega,(by omega:128*0+Qdx v.toNat=Qdx v.toNat)⟩
    case round=>
      obtain ⟨y,k,rfl,rfl,hy,ae,HR⟩:=hrel;have hk:k<=999999999999999999:=by have:=HR.out;have:=HL.out;omega
      obtain ⟨z,hz,ac,ad⟩:∃ z:Nat,Hid (y / 2=z)/\2*z<=y/\y<=2*z+1:=⟨y / 2,(rfl:y / 2=y / 2),by omega,by omega⟩;have hd:Int.tdiv (y:Int) 2=(z:Int):=by rw [<- hz.out];rfl
      by_cases ab:(y:Int)<256
      · have HF:Hid ((128*(k:Int)+(y:Int))=Qdv v):=by
          refine (?_:(128*(k:Int)+(y:Int))=Qdv v);rw [HB.out,<- HR.out,Qfr (by omega)];omega
        have h9:128*k<=999999999999999999:=by have:=HR.out;have:=HL.out;omega
        go_wp2;go_ret;exact ⟨Qkv HF,rfl⟩
      · have HN:Hid (128*(k+1)+Qdx z=Qdx v.toNat):=by
          refine (?_:128*(k+1)+Qdx z=Qdx v.toNat);rw [<- HR.out,Qez (v:=y) (by omega),hz.out];omega
        go_wp2
        go_round
        case rel=>exact ⟨z,k+1,by rfl,by go_num,by omega,by omega,HN⟩
        case measure=>simp [zI];omega
  · have e1:decide (1<=v/\v<=999999999999999999)=false:=ZZg h
    have HB:Hid (0=Qdv v):=(Qn6 h).symm;clear h;go_enter Tryz.func179,Tryz.ntmps179;go_wp2_with (go_at_call 90;refine (QlT _ _ _ _ aa (by unfold I64;omega) (by unfold I64;omega)).mono ?_;rintro e w1 ⟨rfl,rfl⟩;rw [e1]);go_ret;exact ⟨Qkv HB,rfl⟩
theorem Qc3 (v:Int) (w:World) (hv:I64 v) :
    Calls Tryz.prog 293 #[.int .i64 v] w fun e w'=>e=.returned (.int .i64 (Qdv v))/\w'=w:=by
  have aa:=hv;unfold I64 at hv;by_cases h:1<=v/\v<=999999999999999999
  · have HB:Hid (Qdv v=(Qdx v.toNat:Int)):=Qgk h.1 h.2
    have HL:Hid (Qdx v.toNat<=v.toNat):=Qnb _;obtain ⟨h1,h2⟩:=h;go_enter Tryz.func293,Tryz.ntmps293;go_wp2
    go_loop [0,3] (fun x i=>∃ y k:Nat,x=.int .i64 y/\i=.int .i64 k/\1<=y/\y<=999999999999999999/\Hid (128*k+Qdx y=Qdx v.toNat)) (fun x i=>(Go.RowKit.intOf x).toNat)
    case atStart=>exact ⟨v.toNat,0,by rw [Int.toNat_of_nonneg (by omega)],rfl,by omega,by omega,(by omega:128*0+Qdx v.toNat=Qdx v.toNat)⟩
    case round=>
      obtain ⟨y,k,rfl,rfl,hy,ac,HR⟩:=hrel;have hk:k<=999999999999999999:=by have:=HR.out;have:=HL.out;omega
      obtain ⟨z,hz,ad,ae⟩:∃ z:Nat,Hid (y / 2=z)/\2*z<=y/\y<=2*z+1:=⟨y / 2,(rfl:y / 2=y / 2),by omega,by omega⟩;have hd:Int.tdiv (y:Int) 2=(z:Int):=by rw [<- hz.out];rfl
      by_cases ab:(y:Int)<256
      · have HF:Hid ((128*(k:Int)+(y:Int))=Qdv v):=by
          refine (?_:(128*(k:Int)+(y:Int))=Qdv v);rw [HB.out,<- HR.out,Qfr (by omega)];omega
        have h9:128*k<=999999999999999999:=by have:=HR.out;have:=HL.out;omega
        go_wp2;go_ret;exact ⟨Qkv HF,rfl⟩
      · have HN:Hid (128*(k+1)+Qdx z=Qdx v.toNat):=by
          refine (?_:128*(k+1)+Qdx z=Qdx v.toNat);rw [<- HR.out,Qez (v:=y) (by omega),hz.out];omega
        go_wp2
        go_round
        case rel=>exact ⟨z,k+1,by rfl,by go_num,by omega,by omega,HN⟩
        case measure=>simp [zI];omega
  · have HB:Hid (0=Qdv v):=(Qn6 h).symm
    have hc:v<1∨¬ v<1/\999999999999999999<v:=by omega
    clear h;rcases hc with h | ⟨h,h2⟩
    all_goals
      go_enter Tryz.func293,Tryz.ntmps293;go_wp2;go_ret;exact ⟨Qkv HB,rfl⟩
open Go.Lib
def QbF:Int->List Bn->Bool
  | _,[]=>true
  | last,x :: r=>decide (last<x.1) && decide (x.1<=6878) && decide (x.2≠0) && QbF x.1 r
def QaR (L:List Bn):Bool:=decide (L.length<=30) && QbF 0 L
def Qf8 (L:List Bn) (k:Nat):Int:=match k with
  | 0=>0
  | j+1=>match L[j]? with
    | some x=>x.1
    | none=>0
theorem Qhy {L:List Bn} {k:Nat} {x:Bn} (h:L[k]?=some x):Qf8 L (k+1)=x.1:=by simp [Qf8,h]
theorem Qi0 {L:List Bn} {k:Nat} {x:Bn} (h:L[k]?=some x) (q:Int):QbF q (L.drop k)=(decide (q<x.1) && decide (x.1<=6878) && decide (x.2≠0) && QbF x.1 (L.drop (k+1))):=by
  have hk:=(ZZd.1 h).1;rw [List.drop_eq_getElem_cons hk,(List.getElem?_eq_some_iff.1 h).2];rfl
theorem Qlz:Qdv 999999999999999999=6878:=by rw [Qgk (by omega) (by omega)];exact congrArg Int.ofNat QlO
theorem QeB {a b:Bool} (h:a=b):Ending.returned (.bool a)=.returned (.bool b):=by rw [h]
theorem Qdj {w:World} {ao:Option Addr} {L:List Bn} (cap N:Nat) (hn:L.length=N) (hl:N<=1048576) (hA:QaA w ao L) (hok:∀ x∈L,Qa8 x) :
    Calls Tryz.prog 294 #[.slice ao N cap] w fun e w'=>e=.returned (.bool (QaR L))/\Below w.heap.size w w':=by
  have HA:=Qaa hA;have HK:=Qaa hok;have HN:=Qaa hn;have hM:=Qlz;by_cases ad:N<=30
  · have HF:Hid (QaR L=QbF 0 L):=(by simp [QaR,hn,ad]:QaR L=QbF 0 L)
    clear hA hok hn;go_enter Tryz.func294,Tryz.ntmps294;go_wp2
    go_loopw [3,11] (fun q i wr=>Below w.heap.size w wr/\∃ (k:Nat) (p:Int),k<=N/\i=.int .i64 k/\q=.int .i64 p/\Hid (QbF 0 L=QbF p (L.drop k))) (fun q i wr=>N - (Go.RowKit.intOf i).toNat)
    case atStart=>exact ⟨ZZb _ _,0,0,ZZj _,rfl,rfl,(rfl:QbF 0 L=QbF 0 (L.drop 0))⟩
    case round=>
      obtain ⟨aa,k,p,hk,rfl,rfl,HR⟩:=hrel;have HB:=Qaa aa;by_cases al:k<N
      · obtain ⟨⟨a,u⟩,ac⟩:∃ a,L[k]?=some a:=⟨L[k]'(by have:=HN.out;omega),ZZe _⟩
        obtain ⟨⟨af,ai⟩,ae,ag⟩:=HK.out _ (ZZn ac);obtain ⟨b,aj,rfl,ab⟩:=HA.out (by have:=HN.out;omega);have am:=Qab aa (ab k _ ac).1;have ak:=Qab aa (ab k _ ac).2;have HD:=Qaa (Qi0 ac p);have hz:=aa.size;simp at af ai ae ag;clear aa ab ac;have ah:(a<=p)∨(¬ a<=p/\6878<a)∨(¬ a<=p/\¬ 6878<a/\u=0)∨(¬ a<=p/\¬ 6878<a/\u≠0):=by omega
        rcases ah with q1 | ⟨q1,q2⟩ | ⟨q1,q2,q3⟩ | ⟨q1,q2,q3⟩
        · have HE:Hid (false=QaR L):=(by rw [HF.out,HR.out,HD.out];simp;intro h;omega:false=QaR L)
          have d1:decide (a<=p)=true:=ZZh q1;go_wp2
          go_quiet (first | (go_at_call 293;refine Calls.quiet_of_same (Qc3 _ _ (by unfold I64;omega))))
          go_wp2;go_ret;exact ⟨QeB HE,Qah (HB.out.alloc hz _) _⟩
        · have HE:Hid (false=QaR L):=(by rw [HF.out,HR.out,HD.out];simp;intro _ h;omega:false=QaR L)
          have d1:decide (a<=p)=false:=ZZg q1;have d2:decide (6878<a)=true:=ZZh q2;go_wp2
          go_quiet (first | (go_at_call 293;refine Calls.quiet_of_same (Qc3 _ _ (by unfold I64;omega))))
          go_wp2;go_ret;exact ⟨QeB HE,Qah (HB.out.alloc hz _) _⟩
        · have HE:Hid (false=QaR L):=(by rw [HF.out,HR.out,HD.out];simp [q3]:false=QaR L)
          have d1:decide (a<=p)=false:=ZZg q1;have d2:decide (6878<a)=false:=ZZg q2;subst q3;go_wp2
          go_quiet (first | (go_at_call 293;refine Calls.quiet_of_same (Qc3 _ _ (by unfold I64;omega))))
          go_wp2;go_ret;exact ⟨QeB HE,Qah (HB.out.alloc hz _) _⟩
        · have HE:Hid (QbF 0 L=QbF a (L.drop (k+1))):=by
            refine (?_:QbF 0 L=QbF a (L.drop (k+1)));rw [HR.out,HD.out,decide_eq_true (by show p<a;omega),decide_eq_true (by show a<=6878;omega),decide_eq_true (by show u≠0;exact q3)];rfl
          have d1:decide (a<=p)=false:=ZZg q1;have d2:decide (6878<a)=false:=ZZg q2;have d3:(u == 0)=false:=ZZf.2 q3;go_wp2
          go_quiet (first | (go_at_call 293;refine Calls.quiet_of_same (Qc3 _ _ (by unfold I64;omega))))
          go_wp2;go_roundw
          case rel=>exact ⟨Qah (HB.out.alloc hz _) _,k+1,a,by omega,by go_num,rfl,HE⟩
          case measure=>simp [zI];omega
      · have HE:Hid (true=QaR L):=(by rw [HF.out,HR.out,List.drop_eq_nil_of_le (by have:=HN.out;omega)];rfl:true=QaR L)
        clear aa;go_wp2;go_ret;exact ⟨QeB HE,HB⟩
  · have HE:Hid (false=QaR L):=(by simp [QaR,hn];intro h;omega:false=QaR L)
    clear hA hok hn;go_enter Tryz.func294,Tryz.ntmps294;go_wp2;go_ret;exact ⟨QeB HE,ZZb _ _⟩
theorem QeL {w:World} {ao:Option Addr} {L:List Bn} (cap N:Nat) (hn:L.length=N) (hl:N<=1048576) (hA:QaA w ao L) (hok:∀ x∈L,Qa8 x) :
    Calls Tryz.prog 148 #[.slice ao N cap] w fun e w'=>e=.returned (.bool (QaR L))/\Below w.heap.size w w':=by
  have HA:=Qaa hA;have HK:=Qaa hok;have HN:=Qaa hn;have hM:=Qlz;by_cases ah:N<=30
  · have HF:Hid (QaR L=QbF 0 L):=(by simp [QaR,hn,ah]:QaR L=QbF 0 L)
    clear hA hok hn;go_enter Tryz.func148,Tryz.ntmps148;go_wp2
    go_loopw [3] (fun i wr=>Below w.heap.size w wr/\∃ (k:Nat),k<=N/\i=.int .i64 k/\Hid (QbF 0 L=QbF (Qf8 L k) (L.drop k))/\((k=0/\Qf8 L k=0)∨(0<k/\1<=Qf8 L k))) (fun i wr=>N - (Go.RowKit.intOf i).toNat)
    case atStart=>exact ⟨ZZb _ _,0,ZZj _,rfl,(rfl:QbF 0 L=QbF 0 (L.drop 0)),.inl ⟨rfl,rfl⟩⟩
    case round=>
      obtain ⟨ac,k,hk,rfl,HR,aa⟩:=hrel;have HB:=Qaa ac;by_cases ar:k<N
      · obtain ⟨⟨a,u⟩,ae⟩:∃ a,L[k]?=some a:=⟨L[k]'(by have:=HN.out;omega),ZZe _⟩
        obtain ⟨⟨am,ap⟩,ak,ag⟩:=HK.out _ (ZZn ae);obtain ⟨b,al,rfl,ab⟩:=HA.out (by have:=HN.out;omega);have au:=Qab ac (ab k _ ae).1;have aq:=Qab ac (ab k _ ae).2;have HD:=Qaa (Qi0 ae (Qf8 L k));have af:=Qaa (Qhy ae)
        have ad:0<k->∃ j:Nat,k=j+1/\wr.cell? ⟨b,al+j*2,none⟩=some (.int .i64 (Qf8 L k)):=fun h0=>by
          obtain ⟨j,rfl⟩:∃ j,k=j+1:=⟨k - 1,by omega⟩;obtain ⟨x,hx⟩:∃ a,L[j]?=some a:=⟨L[j]'(by have:=HN.out;omega),ZZe _⟩;exact ⟨j,rfl,by rw [Qhy hx];exact Qab ac (ab j _ hx).1⟩
        have HP:=Qaa ad;simp at am ap ak ag;clear ac ab ae ad;obtain ⟨p,hp⟩:∃ p,Qf8 L k=p:=⟨_,rfl⟩;rw [hp] at HR HD HP aa;clear hp;have aj:(a<1)∨(¬ a<1/\6878<a)∨(¬ a<1/\¬ 6878<a/\u=0)∨(¬ a<1/\¬ 6878<a/\u≠0/\k=0)∨(¬ a<1/\¬ 6878<a/\u≠0/\0<k/\a<=p)∨(¬ a<1/\¬ 6878<a/\u≠0/\0<k/\¬ a<=p):=by omega
        rcases aj with q1 | ⟨q1,q2⟩ | ⟨q1,q2,q3⟩ | ⟨q1,q2,q3,q4⟩ | ⟨q1,q2,q3,q4,q5⟩ | ⟨q1,q2,q3,q4,q5⟩
        · have HE:Hid (false=QaR L):=(by rw [HF.out,HR.out,HD.out];simp;intro h;omega:false=QaR L)
          have d1:decide (a<1)=true:=ZZh q1;clear aa;go_wp2
          go_quiet (first | (go_at_call 179;refine Calls.quiet_of_same (Qca _ _ (by unfold I64;omega))))
          go_wp2;go_ret;exact ⟨QeB HE,Qah HB _⟩
        · have HE:Hid (false=QaR L):=(by rw [HF.out,HR.out,HD.out];simp;intro _ h;omega:false=QaR L)
          have d1:decide (a<1)=false:=ZZg q1;have d2:decide (6878<a)=true:=ZZh q2;clear aa;go_wp2
          go_quiet (first | (go_at_call 179;refine Calls.quiet_of_same (Qca _ _ (by unfold I64;omega))))
          go_wp2;go_ret;exact ⟨QeB HE,Qah HB _⟩
        · have HE:Hid (false=QaR L):=(by rw [HF.out,HR.out,HD.out];simp [q3]:false=QaR L)
          have d1:decide (a<1)=false:=ZZg q1;have d2:decide (6878<a)=false:=ZZg q2;clear aa;subst q3;go_wp2
          go_quiet (first | (go_at_call 179;refine Calls.quiet_of_same (Qca _ _ (by unfold I64;omega))))
          go_wp2;go_ret;exact ⟨QeB HE,Qah HB _⟩
        · have HE:Hid (QbF 0 L=QbF (Qf8 L (k+1)) (L.drop (k+1))):=by
            refine (?_:QbF 0 L=QbF (Qf8 L (k+1)) (L.drop (k+1)));rw [af.out,HR.out,HD.out,decide_eq_true (by show p<a;omega),decide_eq_true (by show a<=6878;omega),decide_eq_true (by show u≠0;exact q3)];rfl
          have d1:decide (a<1)=false:=ZZg q1;have d2:decide (6878<a)=false:=ZZg q2;have d3:(u == 0)=false:=ZZf.2 q3;have d4:decide (0<k)=false:=ZZg (by omega);clear aa q4;go_wp2
          go_quiet (first | (go_at_call 179;refine Calls.quiet_of_same (Qca _ _ (by unfold I64;omega))))
          go_wp2;go_roundw
          case rel=>exact ⟨Qah HB _,k+1,by omega,by go_num,HE,by have:=af.out;omega⟩
          case measure=>simp [zI];omega
        · have HE:Hid (false=QaR L):=(by rw [HF.out,HR.out,HD.out];simp;intro h;omega:false=QaR L)
          have d1:decide (a<1)=false:=ZZg q1;have d2:decide (6878<a)=false:=ZZg q2;have d3:(u == 0)=false:=ZZf.2 q3;have d4:decide (0<k)=true:=ZZh (by omega);have d5:decide (a<=p)=true:=ZZh q5;obtain ⟨j,hj,ai⟩:=HP.out q4;have e1:(k:Int) - 1=(j:Int):=by omega
          have an:j<N:=by omega
          clear hj;clear aa;go_wp2
          go_quiet (first | (go_at_call 179;refine Calls.quiet_of_same (Qca _ _ (by unfold I64;omega))))
          go_wp2;go_ret;exact ⟨QeB HE,Qah HB _⟩
        · have HE:Hid (QbF 0 L=QbF (Qf8 L (k+1)) (L.drop (k+1))):=by
            refine (?_:QbF 0 L=QbF (Qf8 L (k+1)) (L.drop (k+1)));rw [af.out,HR.out,HD.out,decide_eq_true (by show p<a;omega),decide_eq_true (by show a<=6878;omega),decide_eq_true (by show u≠0;exact q3)];rfl
          have d1:decide (a<1)=false:=ZZg q1;have d2:decide (6878<a)=false:=ZZg q2;have d3:(u == 0)=false:=ZZf.2 q3;have d4:decide (0<k)=true:=ZZh (by omega);have d5:decide (a<=p)=false:=ZZg q5;obtain ⟨j,hj,ai⟩:=HP.out q4;have e1:(k:Int) - 1=(j:Int):=by omega
          have an:j<N:=by omega
          clear hj;clear aa;go_wp2
          go_quiet (first | (go_at_call 179;refine Calls.quiet_of_same (Qca _ _ (by unfold I64;omega))))
          go_wp2;go_roundw
          case rel=>exact ⟨Qah HB _,k+1,by omega,by go_num,HE,by have:=af.out;omega⟩
          case measure=>simp [zI];omega
      · have HE:Hid (true=QaR L):=(by rw [HF.out,HR.out,List.drop_eq_nil_of_le (by have:=HN.out;omega)];rfl:true=QaR L)
        clear ac;go_wp2;go_ret;exact ⟨QeB HE,HB⟩
  · have HE:Hid (false=QaR L):=(by simp [QaR,hn];intro h;omega:false=QaR L)
    clear hA hok hn;go_enter Tryz.func148,Tryz.ntmps148;go_wp2;go_ret;exact ⟨QeB HE,ZZb _ _⟩
def skB (P N:List Bn):Bool:=QaR P && QaR N
theorem Qa0 {w:World} {z h l:Int} {pa na:Option Addr} {pn pc nn nc:Nat} {P N:List Bn} (hp:P.length=pn) (hn:N.length=nn) (lp:pn<=1048576) (ln:nn<=1048576) (hP:QaA w pa P) (hN:QaA w na N) (kP:∀ x∈P,Qa8 x) (kN:∀ x∈N,Qa8 x) :
    Calls Tryz.prog 290 #[.agg #[.int .u64 z,.slice pa pn pc,.slice na nn nc,.int .i64 h,.int .u64 l]] w fun e w'=>e=.returned (.bool (skB P N))/\Below w.heap.size w w':=by
  have HP:=Qaa hP;have HN:=Qaa hN;have KP:=Qaa kP;have KN:=Qaa kN;have hW:∀ o1,Below w.heap.size w (w.alloc o1):=fun o1=>(ZZb _ _).alloc (ZZa _) _;have HW:=Qaa hW;have hz:∀ o1,(w.alloc o1).heap.size=w.heap.size+1:=fun o1=>by simp
  clear hP hN kP kN hW;by_cases hr:QaR P=true
  · have HF:Hid (skB P N=QaR N):=(by simp [skB,hr]:skB P N=QaR N)
    go_enter Tryz.func290,Tryz.ntmps290;go_wp2_with fail;refine (Qdj _ _ hp lp (Qae HP (HW.out _)) KP).mono ?_;rintro e w1 ⟨rfl,aa⟩;obtain ⟨ae,_⟩:=QiC aa;have ad:=(HW.out _).trans (aa.mono (by simp));simp at ae;have ab:=Qaa ad;clear aa ad;go_wp2_with fail;refine (Qdj _ _ hn ln (Qae HN ab) KN).mono ?_;rintro e w2 ⟨rfl,ac⟩;have af:=Qaa (Qac ab ac);clear ac;go_wp2;go_ret;exact ⟨QeB HF.out.symm,af⟩
  · have hr:QaR P=false:=by simpa using hr
    have HF:Hid (false=skB P N):=(by simp [skB,hr]:false=skB P N);go_enter Tryz.func290,Tryz.ntmps290;go_wp2_with fail;refine (Qdj _ _ hp lp (Qae HP (HW.out _)) KP).mono ?_;rintro e w1 ⟨rfl,aa⟩;have ab:=Qaa ((HW.out _).trans (aa.mono (by simp)));clear aa;go_wp2;go_ret;exact ⟨QeB HF,ab⟩
theorem QgV {w:World} {z h l:Int} {pa na:Option Addr} {pn pc nn nc:Nat} {P N:List Bn} (hp:P.length=pn) (hn:N.length=nn) (lp:pn<=1048576) (ln:nn<=1048576) (hP:QaA w pa P) (hN:QaA w na N) (kP:∀ x∈P,Qa8 x) (kN:∀ x∈N,Qa8 x) :
    Calls Tryz.prog 104 #[.agg #[.int .u64 z,.slice pa pn pc,.slice na nn nc,.int .i64 h,.int .u64 l]] w fun e w'=>e=.returned (.bool (skB P N))/\Below w.heap.size w w':=by
  have HP:=Qaa hP;have HN:=Qaa hN;have KP:=Qaa kP;have KN:=Qaa kN;have hW:∀ o1,Below w.heap.size w (w.alloc o1):=fun o1=>(ZZb _ _).alloc (ZZa _) _;have HW:=Qaa hW;clear hP hN kP kN hW;by_cases hr:QaR P=true
  · have HF:Hid (skB P N=QaR N):=(by simp [skB,hr]:skB P N=QaR N)
    go_enter Tryz.func104,Tryz.ntmps104;go_wp2_with fail;refine (QeL _ _ hp lp (Qae HP (HW.out _)) KP).mono ?_;rintro e w1 ⟨rfl,aa⟩;obtain ⟨ae,_⟩:=QiC aa;have ad:=(HW.out _).trans (aa.mono (by simp));simp at ae;have ab:=Qaa ad;clear aa ad;go_wp2_with fail;refine (QeL _ _ hn ln (Qae HN ab) KN).mono ?_;rintro e w2 ⟨rfl,ac⟩;have af:=Qaa (Qac ab ac);clear ac;go_wp2;go_ret;exact ⟨QeB HF.out.symm,af⟩
  · have hr:QaR P=false:=by simpa using hr
    have HF:Hid (false=skB P N):=(by simp [skB,hr]:false=skB P N);go_enter Tryz.func104,Tryz.ntmps104;go_wp2_with fail;refine (QeL _ _ hp lp (Qae HP (HW.out _)) KP).mono ?_;rintro e w1 ⟨rfl,aa⟩;have ab:=Qaa ((HW.out _).trans (aa.mono (by simp)));clear aa;go_wp2;go_ret;exact ⟨QeB HF,ab⟩
def upN:List Int->Bool
  | []=>true
  | [_]=>true
  | a :: b :: r=>decide (a<b) && upN (b :: r)
theorem Qri {L:List Int} {k:Nat} {a b:Int} (h:L[k]?=some a) (g:L[k+1]?=some b):upN (L.drop k)=(decide (a<b) && upN (L.drop (k+1))):=by
  have hk:=(ZZd.1 h).1;have gk:=(ZZd.1 g).1;rw [List.drop_eq_getElem_cons hk,(List.getElem?_eq_some_iff.1 h).2,List.drop_eq_getElem_cons gk,(List.getElem?_eq_some_iff.1 g).2];rfl
theorem Qqe {L:List Int} {k:Nat} (h:L.length<=k+1):upN (L.drop k)=true:=by
  have hl:(L.drop k).length<=1:=by rw [List.length_drop];omega
  match h2:L.drop k,hl with
  | [],_=>rfl
  | [_],_=>rfl
  | _ :: _ :: _,h=>simp at h
def inR (x:Int):Bool:=decide (0<=x) && decide (x<=55)
theorem QoW {L:List Int} {k:Nat} {a:Int} (h:L[k]?=some a):(L.drop k).all inR=(inR a && (L.drop (k+1)).all inR):=by
  have hk:=(ZZd.1 h).1;rw [List.drop_eq_getElem_cons hk,(List.getElem?_eq_some_iff.1 h).2];rfl
def exB (E:List Int):Bool:=decide (E.length<=40) && upN E
def Qhj (R:List Int):Bool:=decide (R.length=64) && R.all inR
def hlB (E R:List Int):Bool:=if R.length=0 then exB E else decide (E.length=0) && Qhj R
theorem Qly {L:List Int} {k:Nat} {a b:Int} {B:Bool} (h:L[k]?=some a) (g:L[k+1]?=some b) (e:B=upN (L.drop k)):(b<=a->false=B)/\(¬ b<=a->B=upN (L.drop (k+1))):=by
  rw [Qri h g] at e;exact ⟨fun q=>by rw [e,decide_eq_false (by omega)];rfl,fun q=>by rw [e,decide_eq_true (by omega),Bool.true_and]⟩
theorem QlY {L:List Int} {k:Nat} {a:Int} {B:Bool} (h:L[k]?=some a) (e:B=(L.drop k).all inR):(a<0∨55<a->false=B)/\(0<=a->a<=55->B=(L.drop (k+1)).all inR):=by
  rw [QoW h] at e;unfold inR at e
  exact ⟨fun q => by rw [e]; rcases q with q | q
                     · rw [decide_eq_false (by omega)];rfl
                     · rw [decide_eq_false (p:=a<=55) (by omega),Bool.and_false];rfl,fun q q'=>by rw [e,decide_eq_true q,decide_eq_true q'];rfl⟩
theorem Qhs {w:World} {ao:Option Addr} {L:List Int} (cap N:Nat) (hn:L.length=N) (hl:N<=1048576) (hA:Qaq .u64 w ao L) :
    Calls Tryz.prog 315 #[.slice ao N cap] w fun e w'=>e=.returned (.bool (exB L))/\Below w.heap.size w w':=by
  have HA:=Qaa hA;have HN:=Qaa hn;by_cases af:N<=40
  · have HF:Hid (exB L=upN L):=(by simp [exB,hn,af]:exB L=upN L)
    clear hA hn;go_enter Tryz.func315,Tryz.ntmps315;go_wp2
    go_loopw [9] (fun i wr=>Below w.heap.size w wr/\∃ (k:Nat),k<=N/\i=.int .i64 k/\Hid (exB L=upN (L.drop (k - 1)))) (fun i wr=>N - (Go.RowKit.intOf i).toNat)
    case atStart=>exact ⟨ZZb _ _,0,ZZj _,rfl,HF⟩
    case round=>
      obtain ⟨ab,k,hk,rfl,HR⟩:=hrel;have HB:=Qaa ab;by_cases ah:k<N
      · obtain ⟨u,ac⟩:∃ a,L[k]?=some a:=⟨L[k]'(by have:=HN.out;omega),ZZe _⟩
        obtain ⟨b,ak,rfl,aa⟩:=HA.out (by have:=HN.out;omega);have aj:=Qab ab (aa k _ ac);by_cases ae:k=0
        · subst ae
          clear ab aa ac;go_wp2
          go_quiet (fail)
          go_wp2;go_roundw
          case rel=>exact ⟨Qah HB _,1,by omega,by go_num,HR⟩
          case measure=>simp [zI];omega
        · obtain ⟨j,rfl⟩:∃ j,k=j+1:=⟨k - 1,by omega⟩
          obtain ⟨a,ad⟩:∃ a,L[j]?=some a:=⟨L[j]'(by have:=HN.out;omega),ZZe _⟩;have ag:=Qab ab (aa j _ ad);have HU:=Qaa (Qly ad ac HR);clear ab aa ac ad HR;have ai:((j+1:Nat):Int) - 1=(j:Int):=by omega
          by_cases q:u<=a
          · have d1:decide (u<=a)=true:=ZZh q
            go_wp2
            go_quiet (fail)
            go_wp2;go_ret;exact ⟨Qa5 (HU.out.1 q),Qah HB _⟩
          · have d1:decide (u<=a)=false:=ZZg q
            go_wp2
            go_quiet (fail)
            go_wp2;go_roundw
            case rel=>exact ⟨Qah HB _,j+1+1,by omega,by go_num,HU.out.2 q⟩
            case measure=>simp [zI];omega
      · have HE:Hid (true=exB L):=(by rw [HR.out,Qqe (by have:=HN.out;omega)]:true=exB L)
        clear ab;go_wp2;go_ret;exact ⟨Qa5 HE,HB⟩
  · have HE:Hid (false=exB L):=(by simp [exB,hn];intro h;omega:false=exB L)
    clear hA hn;go_enter Tryz.func315,Tryz.ntmps315;go_wp2;go_ret;exact ⟨Qa5 HE,ZZb _ _⟩
theorem Qie {w:World} {ao:Option Addr} {L:List Int} (cap N:Nat) (hn:L.length=N) (hl:N<=1048576) (hA:Qaq .i64 w ao L) :
    Calls Tryz.prog 316 #[.slice ao N cap] w fun e w'=>e=.returned (.bool (Qhj L))/\Below w.heap.size w w':=by
  have HA:=Qaa hA;have HN:=Qaa hn;by_cases ad:N=64
  · subst ad
    have HF:Hid (Qhj L=L.all inR):=(by simp [Qhj,hn]:Qhj L=L.all inR);clear hA hn;go_enter Tryz.func316,Tryz.ntmps316;go_wp2
    go_loopw [10] (fun i wr=>Below w.heap.size w wr/\∃ (k:Nat),k<=64/\i=.int .i64 k/\Hid (Qhj L=(L.drop k).all inR)) (fun i wr=>64 - (Go.RowKit.intOf i).toNat)
    case atStart=>exact ⟨ZZb _ _,0,ZZj _,rfl,HF⟩
    case round=>
      obtain ⟨aa,k,hk,rfl,HR⟩:=hrel;have HB:=Qaa aa;by_cases ae:k<64
      · obtain ⟨u,ac⟩:∃ a,L[k]?=some a:=⟨L[k]'(by have:=HN.out;omega),ZZe _⟩
        obtain ⟨b,af,rfl,ab⟩:=HA.out (by have:=HN.out;omega);have ag:=Qab aa (ab k _ ac);have HU:=Qaa (QlY ac HR);clear aa ab ac HR;by_cases q:u<0
        · have d1:decide (u<0)=true:=ZZh q
          go_wp2;go_ret;exact ⟨Qa5 (HU.out.1 (.inl q)),HB⟩
        · have d1:decide (u<0)=false:=ZZg q
          by_cases q2:55<u
          · have d2:decide (55<u)=true:=ZZh q2
            go_wp2;go_ret;exact ⟨Qa5 (HU.out.1 (.inr q2)),HB⟩
          · have d2:decide (55<u)=false:=ZZg q2
            go_wp2;go_roundw
            case rel=>exact ⟨HB,k+1,by omega,by go_num,HU.out.2 (by omega) (by omega)⟩
            case measure=>simp [zI];omega
      · have HE:Hid (true=Qhj L):=(by rw [HR.out,List.drop_eq_nil_of_le (by have:=HN.out;omega)];rfl:true=Qhj L)
        clear aa;go_wp2;go_ret;exact ⟨Qa5 HE,HB⟩
  · have HE:Hid (false=Qhj L):=(by simp [Qhj,hn,ad]:false=Qhj L)
    have hb:((N:Int) == 64)=false:=ZZf.2 (by omega);clear hA hn;go_enter Tryz.func316,Tryz.ntmps316;go_wp2;go_ret;exact ⟨Qa5 HE,ZZb _ _⟩
theorem QcI {w:World} {pa na:Option Addr} {pn pc nn nc:Nat} {P N:List Int} (hp:P.length=pn) (hn:N.length=nn) (lp:pn<=1048576) (ln:nn<=1048576) (hP:Qaq .u64 w pa P) (hN:Qaq .i64 w na N) :
    Calls Tryz.prog 312 #[.agg #[.slice pa pn pc,.slice na nn nc]] w fun e w'=>e=.returned (.bool (hlB P N))/\Below w.heap.size w w':=by
  have HP:=Qaa hP;have HN:=Qaa hN;have hW:∀ o1,Below w.heap.size w (w.alloc o1):=fun o1=>(ZZb _ _).alloc (ZZa _) _;have HW:=Qaa hW;clear hP hN hW;by_cases h0:nn=0
  · subst h0
    have HF:Hid (exB P=hlB P N):=(by simp [hlB,hn]:exB P=hlB P N);go_enter Tryz.func312,Tryz.ntmps312;go_wp2_with fail;refine (Qhs _ _ hp lp (Qaf HP (HW.out _))).mono ?_;rintro e w1 ⟨rfl,aa⟩;have ab:=Qaa (Qac (HW.out _) aa);clear aa;go_wp2;go_ret;exact ⟨Qa5 HF,ab⟩
  · have ac:((nn:Int) == 0)=false:=ZZf.2 (by omega)
    by_cases h1:pn=0
    · subst h1
      have HF:Hid (Qhj N=hlB P N):=(by simp [hlB,hn,h0,hp]:Qhj N=hlB P N);go_enter Tryz.func312,Tryz.ntmps312;go_wp2_with fail;refine (Qie _ _ hn ln (Qaf HN (HW.out _))).mono ?_;rintro e w1 ⟨rfl,aa⟩;have ab:=Qaa (Qac (HW.out _) aa);clear aa;go_wp2;go_ret;exact ⟨Qa5 HF,ab⟩
    · have aa:((pn:Int) == 0)=false:=ZZf.2 (by omega)
      have HF:Hid (false=hlB P N):=(by simp [hlB,hn,h0,hp,h1]:false=hlB P N);go_enter Tryz.func312,Tryz.ntmps312;go_wp2;go_ret;exact ⟨Qa5 HF,HW.out _⟩
theorem QjP (n lo hi:Int) (w:World) (hn:I64 n) :
    Calls Tryz.prog 90 #[.int .i64 n,.int .i64 lo,.int .i64 hi] w fun e w'=>e=.returned (.bool (decide (lo<=n) && decide (n<=hi)))/\w'=w:=by
  by_cases h:lo<=n
  · have d1:decide (lo<=n)=true:=ZZh h
    go_enter Tryz.func90,Tryz.ntmps90;go_wp2;go_ret;exact ⟨Qa5 (by rw [d1,Bool.true_and]),rfl⟩
  · have d1:decide (lo<=n)=false:=ZZg h
    go_enter Tryz.func90,Tryz.ntmps90;go_wp2;go_ret;exact ⟨rfl,rfl⟩
theorem QjM {w:World} {pa na:Option Addr} {pn pc nn nc:Nat} {P N:List Int} (hp:P.length=pn) (hn:N.length=nn) (lp:pn<=1048576) (ln:nn<=1048576) (hP:Qaq .u64 w pa P) (hN:Qaq .i64 w na N) (kN:∀ x∈N,I64 x) :
    Calls Tryz.prog 105 #[.agg #[.slice pa pn pc,.slice na nn nc]] w fun e w'=>e=.returned (.bool (hlB P N))/\Below w.heap.size w w':=by
  have HP:=Qaa hP;have HN:=Qaa hN;have EP:=Qaa hp;have EN:=Qaa hn;have KN:=Qaa kN;have hW:∀ o1,Below w.heap.size w (w.alloc o1):=fun o1=>(ZZb _ _).alloc (ZZa _) _;have HW:=Qaa hW;clear hP hN hW kN;by_cases h0:nn=0
  · subst h0
    have HF:Hid (hlB P N=(decide (pn<=40) && upN P)):=(by simp [hlB,hn,exB,hp]:hlB P N=(decide (pn<=40) && upN P));clear hp hn;go_enter Tryz.func105,Tryz.ntmps105;go_wp2
    go_loopw [3] (fun i wr=>Below w.heap.size w wr/\Qbm wr w.heap.size (.slice pa pn pc) (.slice na 0 nc)/\∃ (k:Nat),(k<=pn∨k=1)/\1<=k/\i=.int .i64 k/\Hid (upN P=upN (P.drop (k - 1)))) (fun i wr=>pn - (Go.RowKit.intOf i).toNat)
    case atStart=>exact ⟨HW.out _,QgI _ _ _ _,1,.inr rfl,ZZa _,rfl,(rfl:upN P=upN (P.drop 0))⟩
    case round=>
      obtain ⟨aa,hK,k,hk,aj,rfl,HR⟩:=hrel;have HB:=Qaa aa;have HK:=Qaa hK;by_cases ae:k<pn
      · obtain ⟨j,rfl⟩:∃ j,k=j+1:=⟨k - 1,by omega⟩
        obtain ⟨u,ac⟩:∃ a,P[j+1]?=some a:=⟨P[j+1]'(by have:=EP.out;omega),ZZe _⟩;obtain ⟨a,ad⟩:∃ a,P[j]?=some a:=⟨P[j]'(by have:=EP.out;omega),ZZe _⟩;obtain ⟨b,af,rfl,ab⟩:=HP.out (by have:=EP.out;omega);have ag:=Qab aa (ab _ _ ac);have ah:=Qab aa (ab j _ ad);have HU:=Qaa (Qly ad ac HR);have ai:((j+1:Nat):Int) - 1=(j:Int):=by omega
        clear aa ab ac ad HR;by_cases q:u<=a
        · have d1:decide (u<=a)=true:=ZZh q
          have HE:Hid (false=hlB P N):=(by rw [HF.out,<- HU.out.1 q,Bool.and_false]:false=hlB P N);go_wp2
          go_quiet (fail)
          go_wp2;go_ret;exact ⟨Qa5 HE,Qah HB _⟩
        · have d1:decide (u<=a)=false:=ZZg q
          go_wp2
          go_quiet (fail)
          go_wp2;go_roundw
          case rel=>exact ⟨Qah HB _,HK,j+1+1,by omega,by omega,by go_num,HU.out.2 q⟩
          case measure=>simp [zI];omega
      · have HE:Hid (decide ((pn:Int)<=40)=hlB P N):=(by rw [HF.out,HR.out,Qqe (by have:=EP.out;omega),Bool.and_true];exact decide_eq_decide.2 (by omega):decide ((pn:Int)<=40)=hlB P N)
        clear aa;go_wp2;go_ret;exact ⟨Qa5 HE,HB⟩
  · have al:((nn:Int) == 0)=false:=ZZf.2 (by omega)
    have HF:Hid (hlB P N=(decide (pn=0) && (decide (nn=64) && N.all inR))):=(by simp [hlB,hn,h0,hp,Qhj]:hlB P N=(decide (pn=0) && (decide (nn=64) && N.all inR)));clear hp hn;go_enter Tryz.func105,Tryz.ntmps105;go_wp2
    go_loopw [4] (fun i wr=>Below w.heap.size w wr/\Qbm wr w.heap.size (.slice pa pn pc) (.slice na nn nc)/\∃ (k:Nat),k<=nn/\i=.int .i64 k/\Hid (N.all inR=(N.drop k).all inR)) (fun i wr=>nn - (Go.RowKit.intOf i).toNat)
    case atStart=>exact ⟨HW.out _,QgI _ _ _ _,0,ZZj _,rfl,(rfl:N.all inR=(N.drop 0).all inR)⟩
    case round=>
      obtain ⟨aa,hK,k,hk,rfl,HR⟩:=hrel;have HB:=Qaa aa;have HK:=Qaa hK;by_cases ae:k<nn
      · obtain ⟨u,ac⟩:∃ a,N[k]?=some a:=⟨N[k]'(by have:=EN.out;omega),ZZe _⟩
        obtain ⟨b,af,rfl,ab⟩:=HN.out (by have:=EN.out;omega);have ag:=Qab aa (ab k _ ac);have hu:=KN.out _ (ZZn ac);have HU:=Qaa (QlY ac HR);clear aa ab ac HR;by_cases q:0<=u/\u<=55
        · have d1:(decide (0<=u) && decide (u<=55))=true:=by simp [q.1,q.2]
          have HQ:=Qaa q;clear q;go_wp2_with (go_at_call 90;refine (QjP _ _ _ _ hu).mono ?_;rintro e w1 ⟨rfl,rfl⟩;rw [d1]);go_roundw
          case rel=>exact ⟨HB,HK,k+1,by omega,by go_num,HU.out.2 HQ.out.1 HQ.out.2⟩
          case measure=>simp [zI];omega
        · have d1:(decide (0<=u) && decide (u<=55))=false:=by rw [Bool.eq_false_iff];intro h;simp at h;exact q h
          have HE:Hid (false=hlB P N):=(by rw [HF.out,<- HU.out.1 (by omega),Bool.and_false,Bool.and_false]:false=hlB P N);clear q;go_wp2_with (go_at_call 90;refine (QjP _ _ _ _ hu).mono ?_;rintro e w1 ⟨rfl,rfl⟩;rw [d1]);go_ret;exact ⟨Qa5 HE,HB⟩
      · have hE:hlB P N=(decide (pn=0) && decide (nn=64)):=by rw [HF.out,HR.out,List.drop_eq_nil_of_le (by have:=EN.out;omega)];simp
        by_cases h1:pn=0
        · subst h1
          have HE:Hid (((nn:Int) == 64)=hlB P N):=(by rw [hE];simp only [decide_true,Bool.true_and];by_cases h:nn=64 <;> simp [h] <;> omega:((nn:Int) == 64)=hlB P N);clear aa hE;go_wp2;go_ret;exact ⟨Qa5 HE,HB⟩
        · have HE:Hid (false=hlB P N):=(by rw [hE,decide_eq_false h1];rfl:false=hlB P N)
          have ak:((pn:Int) == 0)=false:=ZZf.2 (by omega);clear aa hE;go_wp2;go_ret;exact ⟨Qa5 HE,HB⟩
def Qmd (v:Int):Bool:=decide (-999999999999999999<=v) && decide (v<=999999999999999999)
def Qme (a t:Int):Bool:=if t=-1 then decide (a=0) else decide (0<=t) && decide (t<=1000000000) && Qmd a
theorem QiA (v:Int) (w:World):Calls Tryz.prog 124 #[.int .i64 v] w fun e w'=>e=.returned (.bool (Qmd v))/\w'=w:=by
  by_cases h1:-999999999999999999<=v <;> by_cases h2:v<=999999999999999999 <;> (go_enter Tryz.func124,Tryz.ntmps124;go_wp2;go_ret;exact ⟨by simp [Qmd,h1,h2],rfl⟩)
theorem Qgd (n lo hi:Int) (w:World):Calls Tryz.prog 90 #[.int .i64 n,.int .i64 lo,.int .i64 hi] w fun e w'=>e=.returned (.bool (decide (lo<=n) && decide (n<=hi)))/\w'=w:=by
  by_cases h1:lo<=n <;> by_cases h2:n<=hi <;> (go_enter Tryz.func90,Tryz.ntmps90;go_wp2;go_ret;exact ⟨by simp [h1,h2],rfl⟩)
theorem Qj6 (v:Int) (w:World):Calls Tryz.prog 91 #[.int .i64 v] w fun e w'=>e=.returned (.bool (Qmd v))/\w'=w:=by
  go_enter Tryz.func91,Tryz.ntmps91;go_wp2_with (go_at_call 90;refine (Qgd _ _ _ _).mono ?_;rintro e w1 ⟨rfl,aa⟩;obtain rfl:=aa);go_ret;exact ⟨rfl,rfl⟩
theorem Qpu (h l:Int) (w:World):Calls Tryz.prog 278 #[.agg #[.int .i64 h,.int .u64 l]] w fun e w'=>e=.returned (.bool true)/\Below w.heap.size w w':=by
  go_enter Tryz.func278,Tryz.ntmps278;go_wp2;go_ret;exact ⟨rfl,(ZZb _ _).alloc (ZZa _) _⟩
theorem QpD (a t:Int) (w:World):Calls Tryz.prog 284 #[.agg #[.int .i64 a,.int .i64 t]] w fun e w'=>e=.returned (.bool (Qme a t))/\Below w.heap.size w w':=by
  by_cases h1:t=-1
  · have b1:(t == -1)=true:=by simp [h1]
    have HE:Hid (decide (a=0)=Qme a t):=by unfold Qme;rw [if_pos h1];rfl
    clear h1;by_cases h2:a=0
    · go_enter Tryz.func284,Tryz.ntmps284
      go_wp2;go_ret;exact ⟨by rw [<- HE.out];simp [h2],(Below.refl _ _).alloc (Nat.le_refl _) _⟩
    · have b2:(a == 0)=false:=ZZf.2 h2
      go_enter Tryz.func284,Tryz.ntmps284;go_wp2;go_ret;exact ⟨by rw [<- HE.out];simp [h2],(Below.refl _ _).alloc (Nat.le_refl _) _⟩
  · have b1:(t == -1)=false:=ZZf.2 h1
    have HE:Hid ((decide (0<=t) && decide (t<=1000000000) && Qmd a)=Qme a t):=by unfold Qme;rw [if_neg h1];rfl
    clear h1;have HB:Hid (∀ o,Below w.heap.size w (w.alloc o)):=fun o=>(ZZb _ _).alloc (ZZa _) o;by_cases h2:0<=t
    · by_cases h3:t<=1000000000
      · have aa:Hid (Qmd a=Qme a t):=by have:=HE.out;simp [h2,h3] at this;exact this
        go_enter Tryz.func284,Tryz.ntmps284;go_wp2_with (go_at_call 124;refine (QiA _ _).mono ?_;rintro e w1 ⟨rfl,hw⟩;subst hw);go_ret;exact ⟨Qat aa,HB.out _⟩
      · have aa:Hid (false=Qme a t):=by have:=HE.out;simp [h2,h3] at this;exact this.symm
        go_enter Tryz.func284,Tryz.ntmps284;go_wp2;go_ret;exact ⟨Qat aa,HB.out _⟩
    · have aa:Hid (false=Qme a t):=by have:=HE.out;simp [h2] at this;exact this.symm
      go_enter Tryz.func284,Tryz.ntmps284;go_wp2;go_ret;exact ⟨Qat aa,HB.out _⟩
theorem taCC (v:Value) (w:World):(Instr.typeAssert (.iface 170 v) 129 170 true).run Tryz.prog w=.ok (.tuple #[v,.bool true]) w:=by kernel_rfl
theorem taGC (v:Value) (w:World):(Instr.typeAssert (.iface 172 v) 129 170 true).run Tryz.prog w=.ok (.tuple #[.agg #[.int .i64 0,.int .u64 0],.bool false]) w:=by kernel_rfl
theorem taGG (v:Value) (w:World):(Instr.typeAssert (.iface 172 v) 129 172 true).run Tryz.prog w=.ok (.tuple #[v,.bool true]) w:=by kernel_rfl
theorem taHC (v:Value) (w:World):(Instr.typeAssert (.iface 174 v) 129 170 true).run Tryz.prog w=.ok (.tuple #[.agg #[.int .i64 0,.int .u64 0],.bool false]) w:=by kernel_rfl
theorem taHG (v:Value) (w:World):(Instr.typeAssert (.iface 174 v) 129 172 true).run Tryz.prog w=.ok (.tuple #[.agg #[.int .i64 0,.int .i64 0],.bool false]) w:=by kernel_rfl
theorem taHH (v:Value) (w:World):(Instr.typeAssert (.iface 174 v) 129 174 true).run Tryz.prog w=.ok (.tuple #[v,.bool true]) w:=by kernel_rfl
theorem taSC (v:Value) (w:World):(Instr.typeAssert (.iface 176 v) 129 170 true).run Tryz.prog w=.ok (.tuple #[.agg #[.int .i64 0,.int .u64 0],.bool false]) w:=by kernel_rfl
theorem taSG (v:Value) (w:World):(Instr.typeAssert (.iface 176 v) 129 172 true).run Tryz.prog w=.ok (.tuple #[.agg #[.int .i64 0,.int .i64 0],.bool false]) w:=by kernel_rfl
theorem taSH (v:Value) (w:World):(Instr.typeAssert (.iface 176 v) 129 174 true).run Tryz.prog w=.ok (.tuple #[.agg #[.int .u64 0,.slice none 0 0,.slice none 0 0,.int .i64 0,.int .u64 0],.bool false]) w:=by kernel_rfl
theorem taSS (v:Value) (w:World):(Instr.typeAssert (.iface 176 v) 129 176 true).run Tryz.prog w=.ok (.tuple #[v,.bool true]) w:=by kernel_rfl
theorem Qe6 {g:Ag} {p:Pl} (w:World) (h:g.k=1):Calls Tryz.prog 87 #[.agg (Qak g p)] w fun e w'=>e=.returned (.iface 170 (.agg #[.int .i64 g.h,.int .u64 g.l]))/\Below w.heap.size w w':=by
  have b1:(g.k == 1)=true:=by simp [h]
  clear h;go_enter Tryz.func87,Tryz.ntmps87;go_wp2;go_ret;exact ⟨rfl,(ZZb _ _).alloc (ZZa _) _⟩
theorem Qfu (g:Ag) (p:Pl) (w:World):Calls Tryz.prog 85 #[.int .u64 g.s,.iface 170 (.agg #[.int .i64 g.h,.int .u64 g.l])] w fun e w'=>e=.returned (.agg (Qak ⟨1,g.s,g.h,g.l,0,0,0,[],[],0,0,[],[]⟩ ⟨none,0,none,0,none,0,none,0⟩))/\Below w.heap.size w w':=by
  have tC:=taCC (.agg #[.int .i64 g.h,.int .u64 g.l]);go_enter Tryz.func85,Tryz.ntmps85;go_wp2;exact bodyPost_ret (v:=.agg #[.int .i64 1,.int .u64 g.s,.int .i64 g.h,.int .u64 g.l,.int .i64 0,.int .i64 0,.int .u64 0,.slice none 0 0,.slice none 0 0,.int .i64 0,.int .u64 0,.slice none 0 0,.slice none 0 0]) (by simp [results,Tryz.results85,go_sem]) rfl ⟨rfl,((Below.refl _ _).alloc (Nat.le_refl _) _).alloc (by simp) _⟩
theorem QeT {g:Ag} {p:Pl} (w:World) (h:g.k=2):Calls Tryz.prog 87 #[.agg (Qak g p)] w fun e w'=>e=.returned (.iface 172 (.agg #[.int .i64 g.a,.int .i64 g.t]))/\Below w.heap.size w w':=by
  have b1:(g.k == 1)=false:=ZZf.2 (by omega);have b2:(g.k == 2)=true:=by simp [h]
  clear h;go_enter Tryz.func87,Tryz.ntmps87;go_wp2;go_ret;exact ⟨rfl,(ZZb _ _).alloc (ZZa _) _⟩
theorem QfJ (g:Ag) (p:Pl) (w:World):Calls Tryz.prog 85 #[.int .u64 g.s,.iface 172 (.agg #[.int .i64 g.a,.int .i64 g.t])] w fun e w'=>e=.returned (.agg (Qak ⟨2,g.s,0,0,g.a,g.t,0,[],[],0,0,[],[]⟩ ⟨none,0,none,0,none,0,none,0⟩))/\Below w.heap.size w w':=by
  have tC:=taGC (.agg #[.int .i64 g.a,.int .i64 g.t]);have tG:=taGG (.agg #[.int .i64 g.a,.int .i64 g.t]);go_enter Tryz.func85,Tryz.ntmps85;go_wp2;exact bodyPost_ret (v:=.agg #[.int .i64 2,.int .u64 g.s,.int .i64 0,.int .u64 0,.int .i64 g.a,.int .i64 g.t,.int .u64 0,.slice none 0 0,.slice none 0 0,.int .i64 0,.int .u64 0,.slice none 0 0,.slice none 0 0]) (by simp [results,Tryz.results85,go_sem]) rfl ⟨rfl,((Below.refl _ _).alloc (Nat.le_refl _) _).alloc (by simp) _⟩
theorem Qfk {g:Ag} {p:Pl} (w:World) (h:g.k=3):Calls Tryz.prog 87 #[.agg (Qak g p)] w fun e w'=>e=.returned (.iface 174 (.agg #[.int .u64 g.z,.slice p.pa g.P.length p.pc,.slice p.na g.N.length p.nc,.int .i64 g.x,.int .u64 g.y]))/\Below w.heap.size w w':=by
  have b1:(g.k == 1)=false:=ZZf.2 (by omega);have b2:(g.k == 2)=false:=ZZf.2 (by omega);have b3:(g.k == 3)=true:=by simp [h]
  clear h;go_enter Tryz.func87,Tryz.ntmps87;go_wp2;go_ret;exact ⟨rfl,(ZZb _ _).alloc (ZZa _) _⟩
theorem Qfv (g:Ag) (p:Pl) (w:World):Calls Tryz.prog 85 #[.int .u64 g.s,.iface 174 (.agg #[.int .u64 g.z,.slice p.pa g.P.length p.pc,.slice p.na g.N.length p.nc,.int .i64 g.x,.int .u64 g.y])] w fun e w'=>e=.returned (.agg (Qak ⟨3,g.s,0,0,0,0,g.z,g.P,g.N,g.x,g.y,[],[]⟩ ⟨p.pa,p.pc,p.na,p.nc,none,0,none,0⟩))/\Below w.heap.size w w':=by
  have tC:=taHC (.agg #[.int .u64 g.z,.slice p.pa g.P.length p.pc,.slice p.na g.N.length p.nc,.int .i64 g.x,.int .u64 g.y]);have tG:=taHG (.agg #[.int .u64 g.z,.slice p.pa g.P.length p.pc,.slice p.na g.N.length p.nc,.int .i64 g.x,.int .u64 g.y]);have tH:=taHH (.agg #[.int .u64 g.z,.slice p.pa g.P.length p.pc,.slice p.na g.N.length p.nc,.int .i64 g.x,.int .u64 g.y]);go_enter Tryz.func85,Tryz.ntmps85;go_wp2;exact bodyPost_ret (v:=.agg #[.int .i64 3,.int .u64 g.s,.int .i64 0,.int .u64 0,.int .i64 0,.int .i64 0,.int .u64 g.z,.slice p.pa g.P.length p.pc,.slice p.na g.N.length p.nc,.int .i64 g.x,.int .u64 g.y,.slice none 0 0,.slice none 0 0]) (by simp [results,Tryz.results85,go_sem]) rfl ⟨rfl,((Below.refl _ _).alloc (Nat.le_refl _) _).alloc (by simp) _⟩
theorem QeX {g:Ag} {p:Pl} (w:World) (h:g.k=4):Calls Tryz.prog 87 #[.agg (Qak g p)] w fun e w'=>e=.returned (.iface 176 (.agg #[.slice p.ea g.E.length p.ec,.slice p.ra g.R.length p.rc]))/\Below w.heap.size w w':=by
  have b1:(g.k == 1)=false:=ZZf.2 (by omega);have b2:(g.k == 2)=false:=ZZf.2 (by omega);have b3:(g.k == 3)=false:=ZZf.2 (by omega);have b4:(g.k == 4)=true:=by simp [h]
  clear h;go_enter Tryz.func87,Tryz.ntmps87;go_wp2;go_ret;exact ⟨rfl,(ZZb _ _).alloc (ZZa _) _⟩
theorem QfT (g:Ag) (p:Pl) (w:World):Calls Tryz.prog 85 #[.int .u64 g.s,.iface 176 (.agg #[.slice p.ea g.E.length p.ec,.slice p.ra g.R.length p.rc])] w fun e w'=>e=.returned (.agg (Qak ⟨4,g.s,0,0,0,0,0,[],[],0,0,g.E,g.R⟩ ⟨none,0,none,0,p.ea,p.ec,p.ra,p.rc⟩))/\Below w.heap.size w w':=by
  have tC:=taSC (.agg #[.slice p.ea g.E.length p.ec,.slice p.ra g.R.length p.rc]);have tG:=taSG (.agg #[.slice p.ea g.E.length p.ec,.slice p.ra g.R.length p.rc]);have tH:=taSH (.agg #[.slice p.ea g.E.length p.ec,.slice p.ra g.R.length p.rc]);have tS:=taSS (.agg #[.slice p.ea g.E.length p.ec,.slice p.ra g.R.length p.rc]);go_enter Tryz.func85,Tryz.ntmps85;go_wp2;exact bodyPost_ret (v:=.agg #[.int .i64 4,.int .u64 g.s,.int .i64 0,.int .u64 0,.int .i64 0,.int .i64 0,.int .u64 0,.slice none 0 0,.slice none 0 0,.int .i64 0,.int .u64 0,.slice p.ea g.E.length p.ec,.slice p.ra g.R.length p.rc]) (by simp [results,Tryz.results85,go_sem]) rfl ⟨rfl,((Below.refl _ _).alloc (Nat.le_refl _) _).alloc (by simp) _⟩
theorem Qm6 {g:Ag} {p:Pl} (w:World) (h1:¬ g.k=1) (h2:¬ g.k=2) (h3:¬ g.k=3) (h4:¬ g.k=4):Calls Tryz.prog 87 #[.agg (Qak g p)] w fun e w'=>e=.returned .nilIface/\Below w.heap.size w w':=by
  have b1:(g.k == 1)=false:=ZZf.2 h1;have b2:(g.k == 2)=false:=ZZf.2 h2;have b3:(g.k == 3)=false:=ZZf.2 h3;have b4:(g.k == 4)=false:=ZZf.2 h4;clear h1 h2 h3 h4;go_enter Tryz.func87,Tryz.ntmps87;go_wp2;go_ret;exact ⟨rfl,(ZZb _ _).alloc (ZZa _) _⟩
end Go.Proofs.YtandnmpllheniaaGreatDoor
