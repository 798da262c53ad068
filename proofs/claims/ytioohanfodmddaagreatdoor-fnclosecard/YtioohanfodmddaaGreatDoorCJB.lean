/-
 Parts.
-/
import Derived.Test.YtioohanfodmddaaGreatDoorCJA
set_option maxHeartbeats 4000000
set_option linter.all false
namespace Go.Proofs.YtioohanfodmddaaGreatDoor
open Go.ChangeShapes Go.WideShapes Go.ChangeAt Go.RowKit Go.PlainAid Go.Lib Tryz
set_option maxRecDepth 10000
theorem mAe {p:Prop} (h:p:=by
 obtain ⟨aa,k,hk,rfl,HR⟩:=hrel;have HB:=Qaa aa;by_cases aj:k<n
 ·obtain ⟨⟨a,u⟩,ae⟩:∃ a,L[k]?=some a:=⟨L[k]'(oA HN.out),List.getElem?_eq_getElem _⟩
  obtain ⟨⟨a',u'⟩,ad⟩:∃ a,M[k]?=some a:=⟨M[k]'(oA HM.out),List.getElem?_eq_getElem _⟩;obtain ⟨b,ap,rfl,ac⟩:=HA.out (oA HN.out);obtain ⟨b',ag,rfl,ab⟩:=ah.out (oA HM.out);have an:=Qab aa (ac k _ ae).1;have al:=Qab aa (ac k _ ae).2;have ak:=Qab aa (ab k _ ad).1;have ai:=Qab aa (ab k _ ad).2;have HD:=Qaa (QkP ae ad);have hq:=QpC a u a' u';clear aa ae ad ac ab;by_cases he:a=a'/\u=u'
  ·have hb:(a == a' && u == u')=true:=by simp [he.1,he.2]
   have HE:Hid (decide (L=M)=decide (L.drop (k+1)=M.drop (k+1))):=by
    refine (?_:decide (L=M)=decide (L.drop (k+1)=M.drop (k+1)));rw [HR.out,HD.out,hb,Bool.true_and]
   rw [hb] at hq;clear he hb;go_wp2
   go_quiet (fail)
   go_wp2;go_roundw
   case rel=>exact ⟨Qap HB _,k+1,by omega,by go_num,HE⟩
   case measure=>simp [Go.RowKit.intOf];omega
  ·have hb:(a == a' && u == u')=false:=by
    rw [Bool.eq_false_iff];intro hh;simp at hh;exact he hh
   have HE:Hid (false=decide (L=M)):=by
    refine (?_:false=decide (L=M));rw [HR.out,HD.out,hb,Bool.false_and]
   rw [hb] at hq;clear he hb;go_wp2
   go_quiet (fail)
   go_wp2;go_ret;exact ⟨Qas HE,Qap HB _⟩
 ·have HE:Hid (true=decide (L=M)):=by
   refine (?_:true=decide (L=M));rw [HR.out,List.drop_eq_nil_of_le (oA HN.out),List.drop_eq_nil_of_le (oA HM.out)];rfl
  clear aa;go_wp2;go_ret;exact ⟨Qas HE,HB⟩):p:=h
theorem mAl {p:Prop} (h:p:=by
 obtain ⟨aa,k,hk,rfl,HR⟩:=hrel;have HB:=Qaa aa;by_cases ag:k<n
 ·obtain ⟨a,ae⟩:∃ a,L[k]?=some a:=⟨L[k]'(oA HN.out),List.getElem?_eq_getElem _⟩
  obtain ⟨a',ad⟩:∃ a,M[k]?=some a:=⟨M[k]'(oA HM.out),List.getElem?_eq_getElem _⟩;obtain ⟨b,am,rfl,ac⟩:=HA.out (oA HN.out);obtain ⟨b',ah,rfl,ab⟩:=ai.out (oA HM.out);have al:=Qab aa (ac k _ ae);have aj:=Qab aa (ab k _ ad);have HD:=Qaa (Qe2 ae ad HR);clear aa ae ad ac ab HR;by_cases he:a=a'
  ·subst he
   have HE:=Qaa (HD.1 rfl);clear HD;go_wp2
   go_quiet (fail)
   go_wp2;go_roundw
   case rel=>exact ⟨Qap HB _,k+1,by omega,by go_num,HE⟩
   case measure=>simp [Go.RowKit.intOf];omega
  ·have hq:(a == a')=false:=beq_eq_false_iff_ne.2 he
   have HE:=Qaa (HD.2 he);clear he;go_wp2
   go_quiet (fail)
   go_wp2;go_ret;exact ⟨Qa5 HE,Qap HB _⟩
 ·have HE:=Qaa (Qfh HN HM ag HR)
  clear aa;go_wp2;go_ret;exact ⟨Qa5 HE,HB⟩):p:=h
theorem mA5 {p:Prop} (h:p:=by go_wp2;go_ret;exact ⟨Qas HE,HW.out _ _⟩):p:=h
theorem mBt {p:Prop} (h:p:=by
 go_wp2
 go_quiet (fail)
 go_wp2;go_ret;exact ⟨Qa5 HE,Qap HB _⟩):p:=h
theorem mB7 {p:Prop} (h:p:=by
 have HE:Hid (false=QaI ⟨k,s,h,l,a,t,z,P,N,x,y,E,R⟩ ⟨k,s,h,l,a,t,z',P',N',x',y',E',R'⟩):=by have:=HS.out;rw [hsk,Bool.false_and] at this;exact this.symm
 go_wp2;go_ret;exact ⟨Qas HE,aa⟩):p:=h
theorem mCa {p:Prop} (h:p:=by go_wp2;go_ret;exact ⟨Qa5 HE,HB⟩):p:=h
theorem mCb {p:Prop} (h:p:=by go_wp2;go_ret;exact ⟨Qas HE,am⟩):p:=h
theorem mCl {p:Prop} (h:p:=by go_simp;by_cases h1:a=b <;> by_cases h2:p=q <;> simp [h1,h2]):p:=h
theorem mC9 {p:Prop} (h:p:=by rintro e w1 ⟨rfl,aa⟩;rw [d3];have ab:=Qaa ((HW.out _ _).trans (aa.mono oJ));clear aa;go_wp2;go_ret;exact ⟨Qas HE,ab⟩):p:=h
theorem mDa {p:Prop} (h:p:=by go_wp2;go_ret;exact ⟨Qa5 HE,Below.refl _ _⟩):p:=h
theorem mDc {p:Prop} (h:p:=by refine (?_:false=decide (L=M));rw [eq_comm,decide_eq_false_iff_not];intro e;have:=HN.out;have:=HM.out;rw [e] at *; omega):p:=h
theorem mDf {p:Prop} (h:p:=by exact ⟨by rw [cell_of_row _ w.heap.size 0 _ _ (0,0) hb];rfl,by rw [cell_of_row _ w.heap.size 1 _ _ (0,0) hb];rfl⟩):p:=h
theorem mDm {p:Prop} (h:p:=by refine (?_:decide (N=N')=Qa8 z h l P N z h' l' P' N');simp only [Qa8,hb,d3,beq_self_eq_true,Bool.true_and]):p:=h
theorem mDw {p:Prop} (h:p:=by rintro e w2 ⟨rfl,ae⟩;have ah:=Qaa (Qac ab ae);clear ae;go_wp2;go_ret;exact ⟨Qas HE,ah⟩):p:=h
theorem mDx {p:Prop} (h:p:=by refine (?_:false=Qa8 z h l P N z h' l' P' N');simp only [Qa8,d3,Bool.and_false,Bool.false_and]):p:=h
theorem mDy {p:Prop} (h:p:=by refine (?_:false=Qa8 z h l P N z h' l' P' N');simp only [Qa8,hb,Bool.and_false,Bool.false_and]):p:=h
theorem mEa {p:Prop} (h:p:=by refine (?_:false=Qa8 z h l P N z' h' l' P' N');simp only [Qa8,d1,Bool.false_and]):p:=h
def QaE (kd:IntKind) (w:World) (ao:Option Addr) (L:List Int):Prop:=
 0<L.length->∃ b off,ao=some ⟨b,off,none⟩/\∀ i x,L[i]?=some x->w.cell? ⟨b,off+i,none⟩=some (.int kd x)
variable {w w':World}
variable {ao bo na nb pa pb:Option Addr}
variable {L M N N' P P':List Int}
theorem Qak {kd:IntKind} (h:QaE kd w ao L) (hb:Bw w w'):QaE kd w' ao L:=fun h0=>by
 obtain ⟨b,off,e,hc⟩:=h h0;exact ⟨b,off,e,fun i x hx=>Qab hb (hc i x hx)⟩
variable {B b:Bool}
theorem Qa5 {a:Bool} (h:a=b):Ending.returned (.bool a)=.returned (.bool b):=by rw [h]
def fillN (L:List Int) (k:Nat):List Int:=L.take k ++ List.replicate (L.length - k) 0
theorem QqT (kd:IntKind) (n:Nat):(madeCells (Value.int kd 0).cells (n*1)).toList=(List.replicate n (0:Int)).map (Value.int kd):=by
 rw [Nat.mul_one,List.map_replicate];exact toList_madeCells_one _ _
variable {a a' h h' l l' z z':Int}
variable {k n nc nd nm nn pc pd pm pn:Nat}
theorem QnR (h:L[k]?=some a) (g:M[k]?=some a'):decide (L.drop k=M.drop k)=((a == a') && decide (L.drop (k+1)=M.drop (k+1))):=by
 have hk:=(List.getElem?_eq_some_iff.1 h).1;have gk:=(List.getElem?_eq_some_iff.1 g).1;rw [List.drop_eq_getElem_cons hk,(List.getElem?_eq_some_iff.1 h).2,List.drop_eq_getElem_cons gk,(List.getElem?_eq_some_iff.1 g).2];by_cases h1:a=a' <;> simp [h1]
theorem Qex:(prog.info? 33).map (fun i=>(i.zero,i.size,i.bytes))=some (some (.int .u64 0),1,8):=oG
theorem Qfn:(prog.info? 2).map (fun i=>(i.zero,i.size,i.bytes))=some (some (.int .i64 0),1,8):=oG
abbrev Qce (w:World) (g:Nat) (p n:Value):Prop:=w.cell? ⟨g,0,none⟩=some p/\w.cell? ⟨g,1,none⟩=some n
theorem Qhq {g:Nat} {p n:Value} (k:Qce w g p n) (hb:Bw w w'):Qce w' g p n:=
 ⟨Qab hb k.1,Qab hb k.2⟩
theorem QkG (w:World) (t:TypeId) (p n:Value):Qce (w.alloc (.cells #[p,n] t)) w.heap.size p n:=by
 have hb:=heap_alloc_new w (.cells #[p,n] t);exact mDf
structure Ag where
 k:Int
 s:Int
 h:Int
 l:Int
 a:Int
 t:Int
 z:Int
 P:List Bn
 N:List Bn
 x:Int
 y:Int
 E:List Int
 R:List Int
structure Pl where
 pa:Option Addr
 pc:Nat
 na:Option Addr
 nc:Nat
 ea:Option Addr
 ec:Nat
 ra:Option Addr
 rc:Nat
abbrev Qau (g:Ag) (p:Pl):Array Value:=#[.int .i64 g.k,.int .u64 g.s,.int .i64 g.h,.int .u64 g.l,.int .i64 g.a,.int .i64 g.t,.int .u64 g.z,.slice p.pa g.P.length p.pc,.slice p.na g.N.length p.nc,.int .i64 g.x,.int .u64 g.y,.slice p.ea g.E.length p.ec,.slice p.ra g.R.length p.rc]
structure AgAt (w:World) (g:Ag) (p:Pl):Prop where
 P:QaR w p.pa g.P
 N:QaR w p.na g.N
 E:QaE .u64 w p.ea g.E
 R:QaE .i64 w p.ra g.R
variable {g g':Ag}
variable {p p':Pl}
theorem QaD (h:AgAt w g p) (hb:Bw w w'):AgAt w' g p:=⟨Qai h.P hb,Qai h.N hb,Qak h.E hb,Qak h.R hb⟩
structure AgSm (g:Ag):Prop where
 P:g.P.length<=1048576
 N:g.N.length<=1048576
 E:g.E.length<=1048576
 R:g.R.length<=1048576
structure AgLen (g:Ag):Prop where
 P:g.P.length<=maxLen
 N:g.N.length<=maxLen
 E:g.E.length<=maxLen
 R:g.R.length<=maxLen
abbrev Qdk (w:World) (b:Nat) (g:Ag) (p:Pl):Prop:=
 w.cell? ⟨b,0,none⟩=some (.int .i64 g.k)/\w.cell? ⟨b,1,none⟩=some (.int .u64 g.s)/\w.cell? ⟨b,2,none⟩=some (.int .i64 g.h)/\w.cell? ⟨b,3,none⟩=some (.int .u64 g.l)/\w.cell? ⟨b,4,none⟩=some (.int .i64 g.a)/\w.cell? ⟨b,5,none⟩=some (.int .i64 g.t)/\w.cell? ⟨b,6,none⟩=some (.int .u64 g.z)/\w.cell? ⟨b,7,none⟩=some (.slice p.pa g.P.length p.pc)/\w.cell? ⟨b,8,none⟩=some (.slice p.na g.N.length p.nc)/\w.cell? ⟨b,9,none⟩=some (.int .i64 g.x)/\w.cell? ⟨b,10,none⟩=some (.int .u64 g.y)/\w.cell? ⟨b,11,none⟩=some (.slice p.ea g.E.length p.ec)/\w.cell? ⟨b,12,none⟩=some (.slice p.ra g.R.length p.rc)
theorem QaV {b:Nat} (k:Qdk w b g p) (hb:Bw w w'):Qdk w' b g p:=by
 obtain ⟨k0,k1,k2,k3,k4,k5,k6,k7,k8,k9,ab,ac,aa⟩:=k;exact ⟨Qab hb k0,Qab hb k1,Qab hb k2,Qab hb k3,Qab hb k4,Qab hb k5,Qab hb k6,Qab hb k7,Qab hb k8,Qab hb k9,Qab hb ab,Qab hb ac,Qab hb aa⟩
theorem QgK (w:World) (t:TypeId) (g:Ag) (p:Pl):Qdk (w.alloc (.cells (Qau g p) t)) w.heap.size g p:=by
 have hb:=heap_alloc_new w (.cells (Qau g p) t);have h:∀ j,(w.alloc (.cells (Qau g p) t)).cell? ⟨w.heap.size,j,none⟩=(Qau g p)[j]?:=fun j=>cell_of_row _ w.heap.size j _ _ (0,0) hb;exact ⟨by rw [h];rfl,by rw [h];rfl,by rw [h];rfl,by rw [h];rfl,by rw [h];rfl,by rw [h];rfl,by rw [h];rfl,by rw [h];rfl,by rw [h];rfl,by rw [h];rfl,by rw [h];rfl,by rw [h];rfl,by rw [h];rfl⟩
abbrev plNew (g:Ag) (gp gn ge gr:Nat):Pl:=⟨some ⟨gp,0,none⟩,g.P.length,some ⟨gn,0,none⟩,g.N.length,some ⟨ge,0,none⟩,g.E.length,some ⟨gr,0,none⟩,g.R.length⟩
structure AgOwn (w:World) (B:Nat) (g:Ag) (p:Pl):Prop where
 P:w.ownsRow B 218 2 (.slice p.pa g.P.length p.pc) g.P.length (fl QcQ g.P)
 N:w.ownsRow B 218 2 (.slice p.na g.N.length p.nc) g.N.length (fl QcQ g.N)
 E:w.ownsRow B 33 1 (.slice p.ea g.E.length p.ec) g.E.length (g.E.map (Value.int .u64))
 R:w.ownsRow B 2 1 (.slice p.ra g.R.length p.rc) g.R.length (g.R.map (Value.int .i64))
theorem QiF (a p b q:Int) (w:World):(binOp .eql 35 (.agg #[.int .i64 a,.int .u64 p]) (.agg #[.int .i64 b,.int .u64 q])).run prog w=.ok (.bool (a == b && p == q)) w:=by
 have hS:prog.underlying 35=some (.struct (prog.fieldsOf 35)):=oG
 have hp:prog.stoodInHeld 35=false:=oG
 rw [run_eql_struct,show (10000:Nat)=9999+1 from rfl,run_equalIn_agg w 9999 35 _ _ hS hp];simp only [Program.fieldsOf,underlying35];exact mCl
theorem QpC (a p b q:Int) (w:World):(binOp .neq 218 (.agg #[.int .i64 a,.int .u64 p]) (.agg #[.int .i64 b,.int .u64 q])).run prog w=.ok (.bool (!(a == b && p == q))) w:=by
 have hS:prog.underlying 218=some (.struct (prog.fieldsOf 218)):=oG
 have hp:prog.stoodInHeld 218=false:=oG
 rw [run_neq_struct,show (10000:Nat)=9999+1 from rfl,run_equalIn_agg w 9999 218 _ _ hS hp];simp only [Program.fieldsOf,underlying218];exact mCl
theorem Qas {a:Bool} (h:a=b):Ending.returned (.bool a)=.returned (.bool b):=by rw [h]
theorem QkP {L M:List Bn} {u u':Int} (h:L[k]?=some (a,u)) (g:M[k]?=some (a',u')):decide (L.drop k=M.drop k)=((a == a' && u == u') && decide (L.drop (k+1)=M.drop (k+1))):=by
 have hk:=(List.getElem?_eq_some_iff.1 h).1;have gk:=(List.getElem?_eq_some_iff.1 g).1;rw [List.drop_eq_getElem_cons hk,(List.getElem?_eq_some_iff.1 h).2,List.drop_eq_getElem_cons gk,(List.getElem?_eq_some_iff.1 g).2];by_cases h1:a=a' <;> by_cases h2:u=u' <;> simp [h1,h2]
def Qa8 (z h l:Int) (P N:List Bn) (z' h' l':Int) (P' N':List Bn):Bool:=(z == z') && (h == h' && l == l') && decide (P=P') && decide (N=N')
theorem Qch {L M:List Bn} (c c' n m:Nat) (hn:L.length=n) (hm:M.length=m) (ln:n<=1048576) (lm:m<=1048576) (hA:QaR w ao L) (hB:QaR w bo M) :
  Calls prog 112 #[.slice ao n c,.slice bo m c'] w fun e w'=>e=.returned (.bool (decide (L=M)))/\Bw w w':=by
 have HN:=Qaa hn;have HM:=Qaa hm;have HA:=Qaa hA;have ah:=Qaa hB;clear hn hm hA hB;by_cases af:n=m
 ·subst af
  go_enter func112,ntmps112;go_wp2
  go_loopw [5] (fun i wr=>Bw w wr/\∃ k:Nat,k<=n/\i=.int .i64 k/\Hid (decide (L=M)=decide (L.drop k=M.drop k))) (fun i wr=>n - (Go.RowKit.intOf i).toNat)
  case atStart=>exact ⟨Below.refl _ _,0,Nat.zero_le _,rfl,(rfl:decide (L=M)=decide (L.drop 0=M.drop 0))⟩
  case round=>
   exact mAe
 ·have am:((n:Int) == (m:Int))=false:=beq_eq_false_iff_ne.2 oB
  have HE:Hid (false=decide (L=M)):=by
   exact mDc
  go_enter func112,ntmps112;go_wp2;go_ret;exact ⟨Qas HE,Below.refl _ _⟩
theorem QcA {L M:List Bn} (c c' n m:Nat) (hn:L.length=n) (hm:M.length=m) (ln:n<=1048576) (lm:m<=1048576) (hA:QaR w ao L) (hB:QaR w bo M) :
  Calls prog 294 #[.slice ao n c,.slice bo m c'] w fun e w'=>e=.returned (.bool (decide (L=M)))/\Bw w w':=by
 have HN:=Qaa hn;have HM:=Qaa hm;have HA:=Qaa hA;have ah:=Qaa hB;clear hn hm hA hB;by_cases af:n=m
 ·subst af
  go_enter func294,ntmps294;go_wp2
  go_loopw [13] (fun i wr=>Bw w wr/\∃ k:Nat,k<=n/\i=.int .i64 k/\Hid (decide (L=M)=decide (L.drop k=M.drop k))) (fun i wr=>n - (Go.RowKit.intOf i).toNat)
  case atStart=>exact ⟨Below.refl _ _,0,Nat.zero_le _,rfl,(rfl:decide (L=M)=decide (L.drop 0=M.drop 0))⟩
  case round=>
   exact mAe
 ·have am:((n:Int) == (m:Int))=false:=beq_eq_false_iff_ne.2 oB
  have HE:Hid (false=decide (L=M)):=by
   exact mDc
  go_enter func294,ntmps294;go_wp2;go_ret;exact ⟨Qas HE,Below.refl _ _⟩
theorem Qea {P N P' N':List Bn} (hp:P.length=pn) (hn:N.length=nn) (hp':P'.length=pm) (hn':N'.length=nm) (lp:pn<=1048576) (ln:nn<=1048576) (lp':pm<=1048576) (ln':nm<=1048576) (hP:QaR w pa P) (hN:QaR w na N) (hP2:QaR w pb P') (hN2:QaR w nb N') :
  Calls prog 64 #[.agg #[.int .u64 z,.slice pa pn pc,.slice na nn nc,.int .i64 h,.int .u64 l],.agg #[.int .u64 z',.slice pb pm pd,.slice nb nm nd,.int .i64 h',.int .u64 l']] w fun e w'=>e=.returned (.bool (Qa8 z h l P N z' h' l' P' N'))/\Bw w w':=by
 have HP:=Qaa hP;have HN:=Qaa hN;have ac:=Qaa hP2;have ag:=Qaa hN2;clear hP hN hP2 hN2;have hW:∀ o1 o2,Bw w ((w.alloc o1).alloc o2):=fun o1 o2=>((Below.refl _ _).alloc (Nat.le_refl _) _).alloc oE _;have HW:=Qaa hW;clear hW;have hq:=QiF h l h' l';by_cases h1:z=z'
 ·subst h1
  cases hb:(h == h' && l == l') with
  | true=>
   rw [hb] at hq;by_cases h3:P=P'
   ·have d3:decide (P=P')=true:=decide_eq_true h3
    have HE:Hid (decide (N=N')=Qa8 z h l P N z h' l' P' N'):=by
     exact mDm
    clear hb h3;go_enter func64,ntmps64;go_wp2_with fail;refine (Qch _ _ _ _ hp hp' lp lp' (Qai HP (HW.out _ _)) (Qai ac (HW.out _ _))).mono ?_;rintro e w1 ⟨rfl,aa⟩;rw [d3];have ad:=(HW.out _ _).trans (aa.mono oJ);obtain ⟨af,_⟩:=QhC aa;simp at af;have ab:=Qaa ad;clear aa ad;go_wp2_with fail;refine (Qch _ _ _ _ hn hn' ln ln' (Qai HN ab) (Qai ag ab)).mono ?_;exact mDw
   ·have d3:decide (P=P')=false:=decide_eq_false h3
    have HE:Hid (false=Qa8 z h l P N z h' l' P' N'):=by
     exact mDx
    clear hb h3;go_enter func64,ntmps64;go_wp2_with fail;refine (Qch _ _ _ _ hp hp' lp lp' (Qai HP (HW.out _ _)) (Qai ac (HW.out _ _))).mono ?_;exact mC9
  | false=>
   rw [hb] at hq
   have HE:Hid (false=Qa8 z h l P N z h' l' P' N'):=by
    exact mDy
   clear hb;go_enter func64,ntmps64;exact mA5
 ·have d1:(z == z')=false:=beq_eq_false_iff_ne.2 h1
  have HE:Hid (false=Qa8 z h l P N z' h' l' P' N'):=by
   exact mEa
  clear h1;go_enter func64,ntmps64;exact mA5
theorem Qhx {P N P' N':List Bn} (hp:P.length=pn) (hn:N.length=nn) (hp':P'.length=pm) (hn':N'.length=nm) (lp:pn<=1048576) (ln:nn<=1048576) (lp':pm<=1048576) (ln':nm<=1048576) (hP:QaR w pa P) (hN:QaR w na N) (hP2:QaR w pb P') (hN2:QaR w nb N') :
  Calls prog 269 #[.agg #[.int .u64 z,.slice pa pn pc,.slice na nn nc,.int .i64 h,.int .u64 l],.agg #[.int .u64 z',.slice pb pm pd,.slice nb nm nd,.int .i64 h',.int .u64 l']] w fun e w'=>e=.returned (.bool (Qa8 z h l P N z' h' l' P' N'))/\Bw w w':=by
 have HP:=Qaa hP;have HN:=Qaa hN;have ac:=Qaa hP2;have ag:=Qaa hN2;clear hP hN hP2 hN2;have hW:∀ o1 o2,Bw w ((w.alloc o1).alloc o2):=fun o1 o2=>((Below.refl _ _).alloc (Nat.le_refl _) _).alloc oE _;have HW:=Qaa hW;clear hW;have hq:=QiF h l h' l';by_cases h1:z=z'
 ·subst h1
  cases hb:(h == h' && l == l') with
  | true=>
   rw [hb] at hq;by_cases h3:P=P'
   ·have d3:decide (P=P')=true:=decide_eq_true h3
    have HE:Hid (decide (N=N')=Qa8 z h l P N z h' l' P' N'):=by
     exact mDm
    clear hb h3;go_enter func269,ntmps269;go_wp2_with fail;refine (QcA _ _ _ _ hp hp' lp lp' (Qai HP (HW.out _ _)) (Qai ac (HW.out _ _))).mono ?_;rintro e w1 ⟨rfl,aa⟩;rw [d3];have ad:=(HW.out _ _).trans (aa.mono oJ);obtain ⟨af,_⟩:=QhC aa;simp at af;have ab:=Qaa ad;clear aa ad;go_wp2_with fail;refine (QcA _ _ _ _ hn hn' ln ln' (Qai HN ab) (Qai ag ab)).mono ?_;exact mDw
   ·have d3:decide (P=P')=false:=decide_eq_false h3
    have HE:Hid (false=Qa8 z h l P N z h' l' P' N'):=by
     exact mDx
    clear hb h3;go_enter func269,ntmps269;go_wp2_with fail;refine (QcA _ _ _ _ hp hp' lp lp' (Qai HP (HW.out _ _)) (Qai ac (HW.out _ _))).mono ?_;exact mC9
  | false=>
   rw [hb] at hq
   have HE:Hid (false=Qa8 z h l P N z h' l' P' N'):=by
    exact mDy
   clear hb;go_enter func269,ntmps269;exact mA5
 ·have d1:(z == z')=false:=beq_eq_false_iff_ne.2 h1
  have HE:Hid (false=Qa8 z h l P N z' h' l' P' N'):=by
   exact mEa
  clear h1;go_enter func269,ntmps269;exact mA5
theorem Qgc {m:Nat} (hn:L.length=n) (hm:M.length=m) (h:n≠m):false=decide (L=M):=by
 rw [eq_comm,decide_eq_false_iff_not];intro e;rw [e] at hn;omega
theorem Qe2 (h:L[k]?=some a) (g:M[k]?=some a') (e:B=decide (L.drop k=M.drop k)):(a=a'->B=decide (L.drop (k+1)=M.drop (k+1)))/\(a≠a'->false=B):=by
 rw [QnR h g] at e;exact ⟨fun q=>by rw [e,q,beq_self_eq_true,Bool.true_and],fun q=>by rw [e,beq_eq_false_iff_ne.2 q];rfl⟩
theorem Qfh (hn:L.length=n) (hm:M.length=n) (hk:¬ k<n) (e:B=decide (L.drop k=M.drop k)):true=B:=by
 rw [e,List.drop_eq_nil_of_le oB,List.drop_eq_nil_of_le oB];rfl
def Qbm (E R E' R':List Int):Bool:=decide (E=E') && decide (R=R')
theorem Qd8 (c c' n m:Nat) (hn:L.length=n) (hm:M.length=m) (ln:n<=1048576) (lm:m<=1048576) (hA:QaE .u64 w ao L) (hB:QaE .u64 w bo M) :
  Calls prog 295 #[.slice ao n c,.slice bo m c'] w fun e w'=>e=.returned (.bool (decide (L=M)))/\Bw w w':=by
 have HN:=Qaa hn;have HM:=Qaa hm;have HA:=Qaa hA;have ai:=Qaa hB;clear hn hm hA hB;by_cases af:n=m
 ·subst af
  go_enter func295,ntmps295;go_wp2
  go_loopw [13] (fun i wr=>Bw w wr/\∃ k:Nat,k<=n/\i=.int .i64 k/\Hid (decide (L=M)=decide (L.drop k=M.drop k))) (fun i wr=>n - (Go.RowKit.intOf i).toNat)
  case atStart=>exact ⟨Below.refl _ _,0,Nat.zero_le _,rfl,(rfl:decide (L=M)=decide (L.drop 0=M.drop 0))⟩
  case round=>
   exact mAl
 ·have ak:((n:Int) == (m:Int))=false:=beq_eq_false_iff_ne.2 oB
  have HE:=Qaa (Qgc HN HM af);go_enter func295,ntmps295;exact mDa
theorem Qjh (c c' n m:Nat) (hn:L.length=n) (hm:M.length=m) (ln:n<=1048576) (lm:m<=1048576) (hA:QaE .i64 w ao L) (hB:QaE .i64 w bo M) :
  Calls prog 296 #[.slice ao n c,.slice bo m c'] w fun e w'=>e=.returned (.bool (decide (L=M)))/\Bw w w':=by
 have HN:=Qaa hn;have HM:=Qaa hm;have HA:=Qaa hA;have ai:=Qaa hB;clear hn hm hA hB;by_cases af:n=m
 ·subst af
  go_enter func296,ntmps296;go_wp2
  go_loopw [13] (fun i wr=>Bw w wr/\∃ k:Nat,k<=n/\i=.int .i64 k/\Hid (decide (L=M)=decide (L.drop k=M.drop k))) (fun i wr=>n - (Go.RowKit.intOf i).toNat)
  case atStart=>exact ⟨Below.refl _ _,0,Nat.zero_le _,rfl,(rfl:decide (L=M)=decide (L.drop 0=M.drop 0))⟩
  case round=>
   exact mAl
 ·have ak:((n:Int) == (m:Int))=false:=beq_eq_false_iff_ne.2 oB
  have HE:=Qaa (Qgc HN HM af);go_enter func296,ntmps296;exact mDa
theorem Qlk (hp:P.length=pn) (hn:N.length=nn) (hp':P'.length=pm) (hn':N'.length=nm) (lp:pn<=1048576) (ln:nn<=1048576) (lp':pm<=1048576) (ln':nm<=1048576) (hP:QaE .u64 w pa P) (hN:QaE .i64 w na N) (hP2:QaE .u64 w pb P') (hN2:QaE .i64 w nb N') :
  Calls prog 270 #[.agg #[.slice pa pn pc,.slice na nn nc],.agg #[.slice pb pm pd,.slice nb nm nd]] w fun e w'=>e=.returned (.bool (Qbm P N P' N'))/\Bw w w':=by
 have HP:=Qaa hP;have HN:=Qaa hN;have ad:=Qaa hP2;have af:=Qaa hN2;clear hP hN hP2 hN2;have hW:∀ o1 o2,Bw w ((w.alloc o1).alloc o2):=fun o1 o2=>((Below.refl _ _).alloc (Nat.le_refl _) _).alloc oE _;have HW:=Qaa hW;clear hW;by_cases h3:P=P'
 ·have d3:decide (P=P')=true:=decide_eq_true h3
  have HE:Hid (decide (N=N')=Qbm P N P' N'):=Qaa (by simp only [Qbm,d3,Bool.true_and]);clear h3;go_enter func270,ntmps270;go_wp2_with fail;refine (Qd8 _ _ _ _ hp hp' lp lp' (Qak HP (HW.out _ _)) (Qak ad (HW.out _ _))).mono ?_;rintro e w1 ⟨rfl,aa⟩;rw [d3];have ae:=(HW.out _ _).trans (aa.mono oJ);obtain ⟨ag,_⟩:=QhC aa;simp at ag;have ab:=Qaa ae;clear aa ae;go_wp2_with fail;refine (Qjh _ _ _ _ hn hn' ln ln' (Qak HN ab) (Qak af ab)).mono ?_;rintro e w2 ⟨rfl,ac⟩;have ah:=Qaa (Qac ab ac);clear ac;go_wp2;go_ret;exact ⟨Qa5 HE,ah⟩
 ·have d3:decide (P=P')=false:=decide_eq_false h3
  have HE:Hid (false=Qbm P N P' N'):=Qaa (by simp only [Qbm,d3,Bool.false_and]);clear h3;go_enter func270,ntmps270;go_wp2_with fail;refine (Qd8 _ _ _ _ hp hp' lp lp' (Qak HP (HW.out _ _)) (Qak ad (HW.out _ _))).mono ?_;rintro e w1 ⟨rfl,aa⟩;rw [d3];have ab:=Qaa ((HW.out _ _).trans (aa.mono oJ));clear aa;go_wp2;go_ret;exact ⟨Qa5 HE,ab⟩
theorem Qtx (w:World) (t:TypeId) (p n p' n':Value):Qce ((w.alloc (.cells #[p,n] t)).alloc (.cells #[p',n'] t)) w.heap.size p n/\Qce ((w.alloc (.cells #[p,n] t)).alloc (.cells #[p',n'] t)) (w.heap.size+1) p' n':=by
 refine ⟨Qhq (QkG w t p n) bAA,?_⟩;have:=QkG (w.alloc (.cells #[p,n] t)) t p' n'
 simpa using this
theorem Ql0 (hp:P.length=pn) (hn:N.length=nn) (hp':P'.length=pm) (hn':N'.length=nm) (lp:pn<=1048576) (ln:nn<=1048576) (lp':pm<=1048576) (ln':nm<=1048576) (hP:QaE .u64 w pa P) (hN:QaE .i64 w na N) (hP2:QaE .u64 w pb P') (hN2:QaE .i64 w nb N') :
  Calls prog 65 #[.agg #[.slice pa pn pc,.slice na nn nc],.agg #[.slice pb pm pd,.slice nb nm nd]] w fun e w'=>e=.returned (.bool (Qbm P N P' N'))/\Bw w w':=by
 have HP:=Qaa hP;have HN:=Qaa hN;have aj:=Qaa hP2;have al:=Qaa hN2;have EP:=Qaa hp;have EN:=Qaa hn;have af:=Qaa hp';have ag:=Qaa hn';clear hP hN hP2 hN2 hp hn hp' hn';have hW:∀ o1 o2,Bw w ((w.alloc o1).alloc o2):=fun o1 o2=>((Below.refl _ _).alloc (Nat.le_refl _) _).alloc oE _;have HW:=Qaa hW;clear hW;by_cases h1:pn=pm
 ·subst h1
  by_cases h2:nn=nm
  ·subst h2
   go_enter func65,ntmps65;go_wp2
   go_loopw [5] (fun i wr=>Bw w wr/\Qce wr w.heap.size (.slice pa pn pc) (.slice na nn nc)/\Qce wr (w.heap.size+1) (.slice pb pn pd) (.slice nb nn nd)/\∃ k:Nat,k<=pn/\i=.int .i64 k/\Hid (decide (P=P')=decide (P.drop k=P'.drop k))) (fun i wr=>pn - (Go.RowKit.intOf i).toNat)
   case atStart=>exact ⟨HW.out _ _,(Qtx _ _ _ _ _ _).1,(Qtx _ _ _ _ _ _).2,0,Nat.zero_le _,rfl,(rfl:decide (P=P')=decide (P.drop 0=P'.drop 0))⟩
   case round=>
    obtain ⟨aa,hK,hJ,k,hk,rfl,HR⟩:=hrel;have HB:=Qaa aa;have HK:=Qaa hK;have HJ:=Qaa hJ;by_cases ai:k<pn
    ·obtain ⟨a,ae⟩:∃ a,P[k]?=some a:=⟨P[k]'(oA EP.out),List.getElem?_eq_getElem _⟩
     obtain ⟨a',ad⟩:∃ a,P'[k]?=some a:=⟨P'[k]'(oA af.out),List.getElem?_eq_getElem _⟩;obtain ⟨b,aq,rfl,ac⟩:=HP.out (oA EP.out);obtain ⟨b',ah,rfl,ab⟩:=aj.out (oA af.out);have ak:=Qab aa (ac k _ ae);have am:=Qab aa (ab k _ ad);have HD:=Qaa (Qe2 ae ad HR);clear aa ae ad ac ab HR;by_cases he:a=a'
     ·subst he
      have HE:=Qaa (HD.1 rfl);clear HD;go_wp2
      go_quiet (fail)
      go_wp2;go_roundw
      case rel=>exact ⟨Qap HB _,HK,HJ,k+1,by omega,by go_num,HE⟩
      case measure=>simp [Go.RowKit.intOf];omega
     ·have hq:(a == a')=false:=beq_eq_false_iff_ne.2 he
      have HE:Hid (false=Qbm P N P' N'):=Qaa (by simp only [Qbm,<- HD.2 he,Bool.false_and]);clear he;exact mBt
    ·have an:=Qaa (Qfh EP af ai HR)
     clear aa HR;go_wp2
     go_loopw [6] (fun i wr=>Bw w wr/\Qce wr w.heap.size (.slice pa pn pc) (.slice na nn nc)/\Qce wr (w.heap.size+1) (.slice pb pn pd) (.slice nb nn nd)/\∃ k:Nat,k<=nn/\i=.int .i64 k/\Hid (decide (N=N')=decide (N.drop k=N'.drop k))) (fun i wr=>nn - (Go.RowKit.intOf i).toNat)
     case atStart=>exact ⟨HB,HK,HJ,0,Nat.zero_le _,rfl,(rfl:decide (N=N')=decide (N.drop 0=N'.drop 0))⟩
     case round=>
      clear HB HK HJ hK hJ;obtain ⟨aa,hK,hJ,j,hj,rfl,HR⟩:=hrel;have HB:=Qaa aa;have HK:=Qaa hK;have HJ:=Qaa hJ;by_cases ap:j<nn
      ·obtain ⟨a,ae⟩:∃ a,N[j]?=some a:=⟨N[j]'(oA EN.out),List.getElem?_eq_getElem _⟩
       obtain ⟨a',ad⟩:∃ a,N'[j]?=some a:=⟨N'[j]'(oA ag.out),List.getElem?_eq_getElem _⟩;obtain ⟨b,aq,rfl,ac⟩:=HN.out (oA EN.out);obtain ⟨b',ah,rfl,ab⟩:=al.out (oA ag.out);have ak:=Qab aa (ac j _ ae);have am:=Qab aa (ab j _ ad);have HD:=Qaa (Qe2 ae ad HR);clear aa ae ad ac ab HR;by_cases he:a=a'
       ·subst he
        have HE:=Qaa (HD.1 rfl);clear HD;go_wp2
        go_quiet (fail)
        go_wp2;go_roundw
        case rel=>exact ⟨Qap HB _,HK,HJ,j+1,by omega,by go_num,HE⟩
        case measure=>simp [Go.RowKit.intOf];omega
       ·have hq:(a == a')=false:=beq_eq_false_iff_ne.2 he
        have HE:Hid (false=Qbm P N P' N'):=Qaa (by simp only [Qbm,<- HD.2 he,Bool.and_false]);clear he;exact mBt
      ·have HE:Hid (true=Qbm P N P' N'):=Qaa (by simp only [Qbm,<- an.out,<- Qfh EN.out ag.out ap HR.out,Bool.and_true])
       clear aa HR;exact mCa
  ·have ao:((nn:Int) == (nm:Int))=false:=beq_eq_false_iff_ne.2 oB
   have HE:Hid (false=Qbm P N P' N'):=Qaa (by simp only [Qbm,<- Qgc EN.out ag.out h2,Bool.and_false]);go_enter func65,ntmps65;go_wp2;go_ret;exact ⟨Qa5 HE,HW.out _ _⟩
 ·have ao:((pn:Int) == (pm:Int))=false:=beq_eq_false_iff_ne.2 oB
  have HE:Hid (false=Qbm P N P' N'):=Qaa (by simp only [Qbm,<- Qgc EP.out af.out h1,Bool.false_and]);go_enter func65,ntmps65;go_wp2;go_ret;exact ⟨Qa5 HE,HW.out _ _⟩
theorem Qdh (a p b q:Int) (w:World):(binOp .neq 35 (.agg #[.int .i64 a,.int .u64 p]) (.agg #[.int .i64 b,.int .u64 q])).run prog w=.ok (.bool (!(a == b && p == q))) w:=by
 have hS:prog.underlying 35=some (.struct (prog.fieldsOf 35)):=oG
 have hp:prog.stoodInHeld 35=false:=oG
 rw [run_neq_struct,show (10000:Nat)=9999+1 from rfl,run_equalIn_agg w 9999 35 _ _ hS hp];simp only [Program.fieldsOf,underlying35];exact mCl
def QaI (g g':Ag):Bool:=(g.k == g'.k) && (g.s == g'.s) && (g.h == g'.h && g.l == g'.l) && (g.a == g'.a) && (g.t == g'.t) && Qa8 g.z g.x g.y g.P g.N g'.z g'.x g'.y g'.P g'.N && Qbm g.E g.R g'.E g'.R
theorem Qc4 (hs:AgSm g) (hs':AgSm g') (hA:AgAt w g p) (hB:AgAt w g' p') :
  Calls prog 238 #[.agg (Qau g p),.agg (Qau g' p')] w fun e w'=>e=.returned (.bool (QaI g g'))/\Bw w w':=by
 obtain ⟨k,s,h,l,a,t,z,P,N,x,y,E,R⟩:=g;obtain ⟨k',s',h',l',a',t',z',P',N',x',y',E',R'⟩:=g';obtain ⟨pa,pc,na,nc,ea,ec,ra,rc⟩:=p;obtain ⟨av,aw,aA,ay,ax,ar,az,au⟩:=p';obtain ⟨gP,gN,gE,gR⟩:=hs;obtain ⟨ag,af,ah,aj⟩:=hs';obtain ⟨aP,aN,aE,aR⟩:=hA;obtain ⟨bP,bN,bE,bR⟩:=hB;simp only at gP gN gE gR ag af ah aj aP aN aE aR bP bN bE bR;have HA:=Qaa (And.intro (And.intro aP aN) (And.intro aE aR));have HB:=Qaa (And.intro (And.intro bP bN) (And.intro bE bR));simp only [Qau];obtain ⟨pn,ep⟩:∃ n,P.length=n:=⟨_,rfl⟩;obtain ⟨nn,en⟩:∃ n,N.length=n:=⟨_,rfl⟩;obtain ⟨xn,ex⟩:∃ n,E.length=n:=⟨_,rfl⟩;obtain ⟨rn,er⟩:∃ n,R.length=n:=⟨_,rfl⟩;obtain ⟨pm,ae⟩:∃ n,P'.length=n:=⟨_,rfl⟩;obtain ⟨nm,ad⟩:∃ n,N'.length=n:=⟨_,rfl⟩;obtain ⟨xm,ab⟩:∃ n,E'.length=n:=⟨_,rfl⟩;obtain ⟨rm,ac⟩:∃ n,R'.length=n:=⟨_,rfl⟩;rw [ep] at gP;rw [en] at gN;rw [ex] at gE;rw [er] at gR;rw [ae] at ag; rw [ad] at af; rw [ab] at ah; rw [ac] at aj;rw [ep,en,ex,er,ae,ad,ab,ac];have EP:=Qaa ep;have EN:=Qaa en;have EX:=Qaa ex;have ER:=Qaa er;have aq:=Qaa ae;have ao:=Qaa ad;have an:=Qaa ab;have ap:=Qaa ac;clear ep en ex er ae ad ab ac aP aN aE aR bP bN bE bR;have HW:Hid (∀ o1 o2,Bw w ((w.alloc o1).alloc o2)):=fun o1 o2=>((Below.refl _ _).alloc (Nat.le_refl _) _).alloc oE _;by_cases qk:k=k'
 rotate_left
 ·have bk:(k == k')=false:=beq_eq_false_iff_ne.2 qk
  have HE:Hid (false=QaI ⟨k,s,h,l,a,t,z,P,N,x,y,E,R⟩ ⟨k',s',h',l',a',t',z',P',N',x',y',E',R'⟩):=Qaa (by simp [QaI,qk]);go_enter func238,ntmps238;exact mA5
 subst qk;by_cases qs:s=s'
 rotate_left
 ·have bs:(s == s')=false:=beq_eq_false_iff_ne.2 qs
  have HE:Hid (false=QaI ⟨k,s,h,l,a,t,z,P,N,x,y,E,R⟩ ⟨k,s',h',l',a',t',z',P',N',x',y',E',R'⟩):=Qaa (by simp [QaI,qs]);go_enter func238,ntmps238;exact mA5
 subst qs;by_cases qw:h=h'/\l=l'
 rotate_left
 ·have bw:(h == h' && l == l')=false:=by rw [Bool.eq_false_iff];intro hh;simp at hh;exact qw hh
  have hq:=Qdh h l h' l';rw [bw] at hq;clear qw;have HE:Hid (false=QaI ⟨k,s,h,l,a,t,z,P,N,x,y,E,R⟩ ⟨k,s,h',l',a',t',z',P',N',x',y',E',R'⟩):=Qaa (by simp [QaI,bw]);go_enter func238,ntmps238;exact mA5
 obtain ⟨qh,ql⟩:=qw;subst qh;subst ql;have hq:=Qdh h l h l;rw [show (h == h && l == l)=true by simp] at hq;by_cases qa:a=a'
 rotate_left
 ·have ba:(a == a')=false:=beq_eq_false_iff_ne.2 qa
  have HE:Hid (false=QaI ⟨k,s,h,l,a,t,z,P,N,x,y,E,R⟩ ⟨k,s,h,l,a',t',z',P',N',x',y',E',R'⟩):=Qaa (by simp [QaI,qa]);go_enter func238,ntmps238;exact mA5
 subst qa;by_cases qt:t=t'
 rotate_left
 ·have bt:(t == t')=false:=beq_eq_false_iff_ne.2 qt
  have HE:Hid (false=QaI ⟨k,s,h,l,a,t,z,P,N,x,y,E,R⟩ ⟨k,s,h,l,a,t',z',P',N',x',y',E',R'⟩):=Qaa (by simp [QaI,qt]);go_enter func238,ntmps238;exact mA5
 subst qt;have HS:Hid (QaI ⟨k,s,h,l,a,t,z,P,N,x,y,E,R⟩ ⟨k,s,h,l,a,t,z',P',N',x',y',E',R'⟩=(Qa8 z x y P N z' x' y' P' N' && Qbm E R E' R')):=Qaa (by simp [QaI]);go_enter func238,ntmps238;go_wp2_with fail;refine (Qhx EP EN aq ao gP gN ag af (Qai HA.1.1 (HW.out _ _)) (Qai HA.1.2 (HW.out _ _)) (Qai HB.1.1 (HW.out _ _)) (Qai HB.1.2 (HW.out _ _))).mono ?_;rintro e w1 ⟨rfl,ai⟩;have aa:=Qaa ((HW.out _ _).trans (ai.mono oJ));obtain ⟨al,_⟩:=QhC ai;simp at al;clear ai
 cases hsk:Qa8 z x y P N z' x' y' P' N' with
 | false=>
  exact mB7
 | true=>
  have HE:Hid (Qbm E R E' R'=QaI ⟨k,s,h,l,a,t,z,P,N,x,y,E,R⟩ ⟨k,s,h,l,a,t,z',P',N',x',y',E',R'⟩):=by have:=HS.out;rw [hsk,Bool.true_and] at this;exact this.symm
  go_wp2_with fail;refine (Qlk EX ER an ap gE gR ah aj (Qak HA.2.1 aa) (Qak HA.2.2 aa) (Qak HB.2.1 aa) (Qak HB.2.2 aa)).mono ?_;rintro e w2 ⟨rfl,ak⟩;have am:=Qaa (Qac aa ak);clear ak;exact mCb
theorem Qlx (hs:AgSm g) (hs':AgSm g') (hA:AgAt w g p) (hB:AgAt w g' p') :
  Calls prog 28 #[.agg (Qau g p),.agg (Qau g' p')] w fun e w'=>e=.returned (.bool (QaI g g'))/\Bw w w':=by
 obtain ⟨k,s,h,l,a,t,z,P,N,x,y,E,R⟩:=g;obtain ⟨k',s',h',l',a',t',z',P',N',x',y',E',R'⟩:=g';obtain ⟨pa,pc,na,nc,ea,ec,ra,rc⟩:=p;obtain ⟨av,aw,aA,ay,ax,ar,az,au⟩:=p';obtain ⟨gP,gN,gE,gR⟩:=hs;obtain ⟨ag,af,ah,aj⟩:=hs';obtain ⟨aP,aN,aE,aR⟩:=hA;obtain ⟨bP,bN,bE,bR⟩:=hB;simp only at gP gN gE gR ag af ah aj aP aN aE aR bP bN bE bR;have HA:=Qaa (And.intro (And.intro aP aN) (And.intro aE aR));have HB:=Qaa (And.intro (And.intro bP bN) (And.intro bE bR));simp only [Qau];obtain ⟨pn,ep⟩:∃ n,P.length=n:=⟨_,rfl⟩;obtain ⟨nn,en⟩:∃ n,N.length=n:=⟨_,rfl⟩;obtain ⟨xn,ex⟩:∃ n,E.length=n:=⟨_,rfl⟩;obtain ⟨rn,er⟩:∃ n,R.length=n:=⟨_,rfl⟩;obtain ⟨pm,ae⟩:∃ n,P'.length=n:=⟨_,rfl⟩;obtain ⟨nm,ad⟩:∃ n,N'.length=n:=⟨_,rfl⟩;obtain ⟨xm,ab⟩:∃ n,E'.length=n:=⟨_,rfl⟩;obtain ⟨rm,ac⟩:∃ n,R'.length=n:=⟨_,rfl⟩;rw [ep] at gP;rw [en] at gN;rw [ex] at gE;rw [er] at gR;rw [ae] at ag; rw [ad] at af; rw [ab] at ah; rw [ac] at aj;rw [ep,en,ex,er,ae,ad,ab,ac];have EP:=Qaa ep;have EN:=Qaa en;have EX:=Qaa ex;have ER:=Qaa er;have aq:=Qaa ae;have ao:=Qaa ad;have an:=Qaa ab;have ap:=Qaa ac;clear ep en ex er ae ad ab ac aP aN aE aR bP bN bE bR;have HW:Hid (∀ o1 o2,Bw w ((w.alloc o1).alloc o2)):=fun o1 o2=>((Below.refl _ _).alloc (Nat.le_refl _) _).alloc oE _;by_cases qk:k=k'
 rotate_left
 ·have bk:(k == k')=false:=beq_eq_false_iff_ne.2 qk
  have HE:Hid (false=QaI ⟨k,s,h,l,a,t,z,P,N,x,y,E,R⟩ ⟨k',s',h',l',a',t',z',P',N',x',y',E',R'⟩):=Qaa (by simp [QaI,qk]);go_enter func28,ntmps28;exact mA5
 subst qk;by_cases qs:s=s'
 rotate_left
 ·have bs:(s == s')=false:=beq_eq_false_iff_ne.2 qs
  have HE:Hid (false=QaI ⟨k,s,h,l,a,t,z,P,N,x,y,E,R⟩ ⟨k,s',h',l',a',t',z',P',N',x',y',E',R'⟩):=Qaa (by simp [QaI,qs]);go_enter func28,ntmps28;exact mA5
 subst qs;by_cases qw:h=h'/\l=l'
 rotate_left
 ·have bw:(h == h' && l == l')=false:=by rw [Bool.eq_false_iff];intro hh;simp at hh;exact qw hh
  have hq:=QiF h l h' l';rw [bw] at hq;clear qw;have HE:Hid (false=QaI ⟨k,s,h,l,a,t,z,P,N,x,y,E,R⟩ ⟨k,s,h',l',a',t',z',P',N',x',y',E',R'⟩):=Qaa (by simp [QaI,bw]);go_enter func28,ntmps28;exact mA5
 obtain ⟨qh,ql⟩:=qw;subst qh;subst ql;have hq:=QiF h l h l;rw [show (h == h && l == l)=true by simp] at hq;by_cases qa:a=a'
 rotate_left
 ·have ba:(a == a')=false:=beq_eq_false_iff_ne.2 qa
  have HE:Hid (false=QaI ⟨k,s,h,l,a,t,z,P,N,x,y,E,R⟩ ⟨k,s,h,l,a',t',z',P',N',x',y',E',R'⟩):=Qaa (by simp [QaI,qa]);go_enter func28,ntmps28;exact mA5
 subst qa;by_cases qt:t=t'
 rotate_left
 ·have bt:(t == t')=false:=beq_eq_false_iff_ne.2 qt
  have HE:Hid (false=QaI ⟨k,s,h,l,a,t,z,P,N,x,y,E,R⟩ ⟨k,s,h,l,a,t',z',P',N',x',y',E',R'⟩):=Qaa (by simp [QaI,qt]);go_enter func28,ntmps28;exact mA5
 subst qt;have HS:Hid (QaI ⟨k,s,h,l,a,t,z,P,N,x,y,E,R⟩ ⟨k,s,h,l,a,t,z',P',N',x',y',E',R'⟩=(Qa8 z x y P N z' x' y' P' N' && Qbm E R E' R')):=Qaa (by simp [QaI]);go_enter func28,ntmps28;go_wp2_with fail;refine (Qea EP EN aq ao gP gN ag af (Qai HA.1.1 (HW.out _ _)) (Qai HA.1.2 (HW.out _ _)) (Qai HB.1.1 (HW.out _ _)) (Qai HB.1.2 (HW.out _ _))).mono ?_;rintro e w1 ⟨rfl,ai⟩;have aa:=Qaa ((HW.out _ _).trans (ai.mono oJ));obtain ⟨al,_⟩:=QhC ai;simp at al;clear ai
 cases hsk:Qa8 z x y P N z' x' y' P' N' with
 | false=>
  exact mB7
 | true=>
  have HE:Hid (Qbm E R E' R'=QaI ⟨k,s,h,l,a,t,z,P,N,x,y,E,R⟩ ⟨k,s,h,l,a,t,z',P',N',x',y',E',R'⟩):=by have:=HS.out;rw [hsk,Bool.true_and] at this;exact this.symm
  go_wp2_with fail;refine (Ql0 EX ER an ap gE gR ah aj (Qak HA.2.1 aa) (Qak HA.2.2 aa) (Qak HB.2.1 aa) (Qak HB.2.2 aa)).mono ?_;rintro e w2 ⟨rfl,ak⟩;have am:=Qaa (Qac aa ak);clear ak;exact mCb
end Go.Proofs.YtioohanfodmddaaGreatDoor
