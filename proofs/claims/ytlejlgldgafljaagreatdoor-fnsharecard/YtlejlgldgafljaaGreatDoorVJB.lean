/-
 Parts.
-/
import Derived.Test.YtlejlgldgafljaaGreatDoorVJA
set_option maxHeartbeats 4000000
set_option linter.all false
namespace Go.Proofs.YtlejlgldgafljaaGreatDoor
open Go.ChangeShapes Go.WideShapes Go.ChangeAt Go.RowKit Go.PlainAid Go.Lib Tryz
set_option maxRecDepth 10000
def QaG (kd:IntKind) (w:World) (ao:Option Addr) (L:List Int):Prop:=
 0<L.length->∃ b off,ao=some ⟨b,off,none⟩/\∀ i x,L[i]?=some x->w.cell? ⟨b,off+i,none⟩=some (.int kd x)
variable {w w':World}
variable {ao bo na nb pa pb:Option Addr}
variable {L M N N' P P':List Int}
theorem Qak {kd:IntKind} (h:QaG kd w ao L) (hb:Bw w w'):QaG kd w' ao L:=fun h0=>by
 obtain ⟨b,off,e,hc⟩:=h h0;exact ⟨b,off,e,fun i x hx=>Qab hb (hc i x hx)⟩
variable {B b:Bool}
theorem Qa6 {a:Bool} (h:a=b):Ending.returned (.bool a)=.returned (.bool b):=by rw [h]
def fillN (L:List Int) (k:Nat):List Int:=L.take k ++ List.replicate (L.length - k) 0
theorem Qpp (kd:IntKind) (n:Nat):(madeCells (Value.int kd 0).cells (n*1)).toList=(List.replicate n (0:Int)).map (Value.int kd):=by
 rw [Nat.mul_one,List.map_replicate];exact toList_madeCells_one _ _
variable {a a' h h' l l' z z':Int}
variable {k n nc nd nm nn pc pd pm pn:Nat}
theorem QnY (h:L[k]?=some a) (g:M[k]?=some a'):decide (L.drop k=M.drop k)=((a == a') && decide (L.drop (k+1)=M.drop (k+1))):=by
 have hk:=(List.getElem?_eq_some_iff.1 h).1;have gk:=(List.getElem?_eq_some_iff.1 g).1;rw [List.drop_eq_getElem_cons hk,(List.getElem?_eq_some_iff.1 h).2,List.drop_eq_getElem_cons gk,(List.getElem?_eq_some_iff.1 g).2];by_cases h1:a=a' <;> simp [h1]
theorem Qed:(prog.info? 62).map (fun i=>(i.zero,i.size,i.bytes))=some (some (.int .u64 0),1,8):=by kernel_rfl
theorem Qfo:(prog.info? 2).map (fun i=>(i.zero,i.size,i.bytes))=some (some (.int .i64 0),1,8):=by kernel_rfl
abbrev Qcw (w:World) (g:Nat) (p n:Value):Prop:=w.cell? ⟨g,0,none⟩=some p/\w.cell? ⟨g,1,none⟩=some n
theorem Qgx {g:Nat} {p n:Value} (k:Qcw w g p n) (hb:Bw w w'):Qcw w' g p n:=
 ⟨Qab hb k.1,Qab hb k.2⟩
theorem QjY (w:World) (t:TypeId) (p n:Value):Qcw (w.alloc (.cells #[p,n] t)) w.heap.size p n:=by
 have hb:=heap_alloc_new w (.cells #[p,n] t);exact ⟨by rw [cell_of_row _ w.heap.size 0 _ _ (0,0) hb];rfl,by rw [cell_of_row _ w.heap.size 1 _ _ (0,0) hb];rfl⟩
structure Ag where
 k:Int
 s:Int
 h:Int
 l:Int
 a:Int
 t:Int
 z:Int
 P:List Bn
 N:List Bn
 x:Int
 y:Int
 E:List Int
 R:List Int
structure Pl where
 pa:Option Addr
 pc:Nat
 na:Option Addr
 nc:Nat
 ea:Option Addr
 ec:Nat
 ra:Option Addr
 rc:Nat
abbrev QaC (g:Ag) (p:Pl):Array Value:=#[.int .i64 g.k,.int .u64 g.s,.int .i64 g.h,.int .u64 g.l,.int .i64 g.a,.int .i64 g.t,.int .u64 g.z,.slice p.pa g.P.length p.pc,.slice p.na g.N.length p.nc,.int .i64 g.x,.int .u64 g.y,.slice p.ea g.E.length p.ec,.slice p.ra g.R.length p.rc]
structure AgAt (w:World) (g:Ag) (p:Pl):Prop where
 P:QaS w p.pa g.P
 N:QaS w p.na g.N
 E:QaG .u64 w p.ea g.E
 R:QaG .i64 w p.ra g.R
variable {g g':Ag}
variable {p p':Pl}
theorem QaI (h:AgAt w g p) (hb:Bw w w'):AgAt w' g p:=⟨Qaj h.P hb,Qaj h.N hb,Qak h.E hb,Qak h.R hb⟩
structure AgSm (g:Ag):Prop where
 P:g.P.length<=1048576
 N:g.N.length<=1048576
 E:g.E.length<=1048576
 R:g.R.length<=1048576
structure AgLen (g:Ag):Prop where
 P:g.P.length<=maxLen
 N:g.N.length<=maxLen
 E:g.E.length<=maxLen
 R:g.R.length<=maxLen
abbrev Qdy (w:World) (b:Nat) (g:Ag) (p:Pl):Prop:=
 w.cell? ⟨b,0,none⟩=some (.int .i64 g.k)/\w.cell? ⟨b,1,none⟩=some (.int .u64 g.s)/\w.cell? ⟨b,2,none⟩=some (.int .i64 g.h)/\w.cell? ⟨b,3,none⟩=some (.int .u64 g.l)/\w.cell? ⟨b,4,none⟩=some (.int .i64 g.a)/\w.cell? ⟨b,5,none⟩=some (.int .i64 g.t)/\w.cell? ⟨b,6,none⟩=some (.int .u64 g.z)/\w.cell? ⟨b,7,none⟩=some (.slice p.pa g.P.length p.pc)/\w.cell? ⟨b,8,none⟩=some (.slice p.na g.N.length p.nc)/\w.cell? ⟨b,9,none⟩=some (.int .i64 g.x)/\w.cell? ⟨b,10,none⟩=some (.int .u64 g.y)/\w.cell? ⟨b,11,none⟩=some (.slice p.ea g.E.length p.ec)/\w.cell? ⟨b,12,none⟩=some (.slice p.ra g.R.length p.rc)
theorem QaV {b:Nat} (k:Qdy w b g p) (hb:Bw w w'):Qdy w' b g p:=by
 obtain ⟨k0,k1,k2,k3,k4,k5,k6,k7,k8,k9,aa,ab,ac⟩:=k;exact ⟨Qab hb k0,Qab hb k1,Qab hb k2,Qab hb k3,Qab hb k4,Qab hb k5,Qab hb k6,Qab hb k7,Qab hb k8,Qab hb k9,Qab hb aa,Qab hb ab,Qab hb ac⟩
theorem Qg9 (w:World) (t:TypeId) (g:Ag) (p:Pl):Qdy (w.alloc (.cells (QaC g p) t)) w.heap.size g p:=by
 have hb:=heap_alloc_new w (.cells (QaC g p) t);have h:∀ j,(w.alloc (.cells (QaC g p) t)).cell? ⟨w.heap.size,j,none⟩=(QaC g p)[j]?:=fun j=>cell_of_row _ w.heap.size j _ _ (0,0) hb;exact ⟨by rw [h];rfl,by rw [h];rfl,by rw [h];rfl,by rw [h];rfl,by rw [h];rfl,by rw [h];rfl,by rw [h];rfl,by rw [h];rfl,by rw [h];rfl,by rw [h];rfl,by rw [h];rfl,by rw [h];rfl,by rw [h];rfl⟩
abbrev plNew (g:Ag) (gp gn ge gr:Nat):Pl:=⟨some ⟨gp,0,none⟩,g.P.length,some ⟨gn,0,none⟩,g.N.length,some ⟨ge,0,none⟩,g.E.length,some ⟨gr,0,none⟩,g.R.length⟩
structure AgOwn (w:World) (B:Nat) (g:Ag) (p:Pl):Prop where
 P:w.ownsRow B 181 2 (.slice p.pa g.P.length p.pc) g.P.length (fl QcW g.P)
 N:w.ownsRow B 181 2 (.slice p.na g.N.length p.nc) g.N.length (fl QcW g.N)
 E:w.ownsRow B 62 1 (.slice p.ea g.E.length p.ec) g.E.length (g.E.map (Value.int .u64))
 R:w.ownsRow B 2 1 (.slice p.ra g.R.length p.rc) g.R.length (g.R.map (Value.int .i64))
theorem Qi4 (a p b q:Int) (w:World):(binOp .eql 64 (.agg #[.int .i64 a,.int .u64 p]) (.agg #[.int .i64 b,.int .u64 q])).run prog w=.ok (.bool (a == b && p == q)) w:=by
 have hS:prog.underlying 64=some (.struct (prog.fieldsOf 64)):=by kernel_rfl
 have hp:prog.stoodInHeld 64=false:=by kernel_rfl
 rw [run_eql_struct,show (10000:Nat)=9999+1 from rfl,run_equalIn_agg w 9999 64 _ _ hS hp];simp only [Program.fieldsOf,underlying64];go_simp;by_cases h1:a=b <;> by_cases h2:p=q <;> simp [h1,h2]
theorem QqG (a p b q:Int) (w:World):(binOp .neq 181 (.agg #[.int .i64 a,.int .u64 p]) (.agg #[.int .i64 b,.int .u64 q])).run prog w=.ok (.bool (!(a == b && p == q))) w:=by
 have hS:prog.underlying 181=some (.struct (prog.fieldsOf 181)):=by kernel_rfl
 have hp:prog.stoodInHeld 181=false:=by kernel_rfl
 rw [run_neq_struct,show (10000:Nat)=9999+1 from rfl,run_equalIn_agg w 9999 181 _ _ hS hp];simp only [Program.fieldsOf,underlying181];go_simp;by_cases h1:a=b <;> by_cases h2:p=q <;> simp [h1,h2]
theorem Qat {a:Bool} (h:a=b):Ending.returned (.bool a)=.returned (.bool b):=by rw [h]
theorem QjH {L M:List Bn} {u u':Int} (h:L[k]?=some (a,u)) (g:M[k]?=some (a',u')):decide (L.drop k=M.drop k)=((a == a' && u == u') && decide (L.drop (k+1)=M.drop (k+1))):=by
 have hk:=(List.getElem?_eq_some_iff.1 h).1;have gk:=(List.getElem?_eq_some_iff.1 g).1;rw [List.drop_eq_getElem_cons hk,(List.getElem?_eq_some_iff.1 h).2,List.drop_eq_getElem_cons gk,(List.getElem?_eq_some_iff.1 g).2];by_cases h1:a=a' <;> by_cases h2:u=u' <;> simp [h1,h2]
def Qbb (z h l:Int) (P N:List Bn) (z' h' l':Int) (P' N':List Bn):Bool:=(z == z') && (h == h' && l == l') && decide (P=P') && decide (N=N')
theorem Qct {L M:List Bn} (c c' n m:Nat) (hn:L.length=n) (hm:M.length=m) (ln:n<=1048576) (lm:m<=1048576) (hA:QaS w ao L) (hB:QaS w bo M) :
  Calls prog 105 #[.slice ao n c,.slice bo m c'] w fun e w'=>e=.returned (.bool (decide (L=M)))/\Bw w w':=by
 have HN:=Qaa hn;have HM:=Qaa hm;have HA:=Qaa hA;have af:=Qaa hB;clear hn hm hA hB;by_cases ag:n=m
 ·subst ag
  go_enter func105,ntmps105;go_wp2
  go_loopw [5] (fun i wr=>Bw w wr/\∃ k:Nat,k<=n/\i=.int .i64 k/\Hid (decide (L=M)=decide (L.drop k=M.drop k))) (fun i wr=>n - (Go.RowKit.intOf i).toNat)
  case atStart=>exact ⟨Below.refl _ _,0,Nat.zero_le _,rfl,(rfl:decide (L=M)=decide (L.drop 0=M.drop 0))⟩
  case round=>
   obtain ⟨aa,k,hk,rfl,HR⟩:=hrel;have HB:=Qaa aa;by_cases ap:k<n
   ·obtain ⟨⟨a,u⟩,ae⟩:∃ a,L[k]?=some a:=⟨L[k]'(by have:=HN.out;omega),List.getElem?_eq_getElem _⟩
    obtain ⟨⟨a',u'⟩,ad⟩:∃ a,M[k]?=some a:=⟨M[k]'(by have:=HM.out;omega),List.getElem?_eq_getElem _⟩;obtain ⟨b,am,rfl,ac⟩:=HA.out (by have:=HN.out;omega);obtain ⟨b',ah,rfl,ab⟩:=af.out (by have:=HM.out;omega);have aj:=Qab aa (ac k _ ae).1;have ai:=Qab aa (ac k _ ae).2;have an:=Qab aa (ab k _ ad).1;have ak:=Qab aa (ab k _ ad).2;have HD:=Qaa (QjH ae ad);have hq:=QqG a u a' u';clear aa ae ad ac ab;by_cases he:a=a'/\u=u'
    ·have hb:(a == a' && u == u')=true:=by simp [he.1,he.2]
     have HE:Hid (decide (L=M)=decide (L.drop (k+1)=M.drop (k+1))):=by
      refine (?_:decide (L=M)=decide (L.drop (k+1)=M.drop (k+1)));rw [HR.out,HD.out,hb,Bool.true_and]
     rw [hb] at hq;clear he hb;go_wp2
     go_quiet (fail)
     go_wp2;go_roundw
     case rel=>exact ⟨Qao HB _,k+1,by omega,by go_num,HE⟩
     case measure=>simp [Go.RowKit.intOf];omega
    ·have hb:(a == a' && u == u')=false:=by
      rw [Bool.eq_false_iff];intro hh;simp at hh;exact he hh
     have HE:Hid (false=decide (L=M)):=by
      refine (?_:false=decide (L=M));rw [HR.out,HD.out,hb,Bool.false_and]
     rw [hb] at hq;clear he hb;go_wp2
     go_quiet (fail)
     go_wp2;go_ret;exact ⟨Qat HE,Qao HB _⟩
   ·have HE:Hid (true=decide (L=M)):=by
     refine (?_:true=decide (L=M));rw [HR.out,List.drop_eq_nil_of_le (by have:=HN.out;omega),List.drop_eq_nil_of_le (by have:=HM.out;omega)];rfl
    clear aa;go_wp2;go_ret;exact ⟨Qat HE,HB⟩
 ·have al:((n:Int) == (m:Int))=false:=beq_eq_false_iff_ne.2 (by omega)
  have HE:Hid (false=decide (L=M)):=by
   refine (?_:false=decide (L=M));rw [eq_comm,decide_eq_false_iff_not];intro e;have:=HN.out;have:=HM.out;rw [e] at *; omega
  go_enter func105,ntmps105;go_wp2;go_ret;exact ⟨Qat HE,Below.refl _ _⟩
theorem QcN {L M:List Bn} (c c' n m:Nat) (hn:L.length=n) (hm:M.length=m) (ln:n<=1048576) (lm:m<=1048576) (hA:QaS w ao L) (hB:QaS w bo M) :
  Calls prog 239 #[.slice ao n c,.slice bo m c'] w fun e w'=>e=.returned (.bool (decide (L=M)))/\Bw w w':=by
 have HN:=Qaa hn;have HM:=Qaa hm;have HA:=Qaa hA;have af:=Qaa hB;clear hn hm hA hB;by_cases ag:n=m
 ·subst ag
  go_enter func239,ntmps239;go_wp2
  go_loopw [13] (fun i wr=>Bw w wr/\∃ k:Nat,k<=n/\i=.int .i64 k/\Hid (decide (L=M)=decide (L.drop k=M.drop k))) (fun i wr=>n - (Go.RowKit.intOf i).toNat)
  case atStart=>exact ⟨Below.refl _ _,0,Nat.zero_le _,rfl,(rfl:decide (L=M)=decide (L.drop 0=M.drop 0))⟩
  case round=>
   obtain ⟨aa,k,hk,rfl,HR⟩:=hrel;have HB:=Qaa aa;by_cases ap:k<n
   ·obtain ⟨⟨a,u⟩,ae⟩:∃ a,L[k]?=some a:=⟨L[k]'(by have:=HN.out;omega),List.getElem?_eq_getElem _⟩
    obtain ⟨⟨a',u'⟩,ad⟩:∃ a,M[k]?=some a:=⟨M[k]'(by have:=HM.out;omega),List.getElem?_eq_getElem _⟩;obtain ⟨b,am,rfl,ac⟩:=HA.out (by have:=HN.out;omega);obtain ⟨b',ah,rfl,ab⟩:=af.out (by have:=HM.out;omega);have aj:=Qab aa (ac k _ ae).1;have ai:=Qab aa (ac k _ ae).2;have an:=Qab aa (ab k _ ad).1;have ak:=Qab aa (ab k _ ad).2;have HD:=Qaa (QjH ae ad);have hq:=QqG a u a' u';clear aa ae ad ac ab;by_cases he:a=a'/\u=u'
    ·have hb:(a == a' && u == u')=true:=by simp [he.1,he.2]
     have HE:Hid (decide (L=M)=decide (L.drop (k+1)=M.drop (k+1))):=by
      refine (?_:decide (L=M)=decide (L.drop (k+1)=M.drop (k+1)));rw [HR.out,HD.out,hb,Bool.true_and]
     rw [hb] at hq;clear he hb;go_wp2
     go_quiet (fail)
     go_wp2;go_roundw
     case rel=>exact ⟨Qao HB _,k+1,by omega,by go_num,HE⟩
     case measure=>simp [Go.RowKit.intOf];omega
    ·have hb:(a == a' && u == u')=false:=by
      rw [Bool.eq_false_iff];intro hh;simp at hh;exact he hh
     have HE:Hid (false=decide (L=M)):=by
      refine (?_:false=decide (L=M));rw [HR.out,HD.out,hb,Bool.false_and]
     rw [hb] at hq;clear he hb;go_wp2
     go_quiet (fail)
     go_wp2;go_ret;exact ⟨Qat HE,Qao HB _⟩
   ·have HE:Hid (true=decide (L=M)):=by
     refine (?_:true=decide (L=M));rw [HR.out,List.drop_eq_nil_of_le (by have:=HN.out;omega),List.drop_eq_nil_of_le (by have:=HM.out;omega)];rfl
    clear aa;go_wp2;go_ret;exact ⟨Qat HE,HB⟩
 ·have al:((n:Int) == (m:Int))=false:=beq_eq_false_iff_ne.2 (by omega)
  have HE:Hid (false=decide (L=M)):=by
   refine (?_:false=decide (L=M));rw [eq_comm,decide_eq_false_iff_not];intro e;have:=HN.out;have:=HM.out;rw [e] at *; omega
  go_enter func239,ntmps239;go_wp2;go_ret;exact ⟨Qat HE,Below.refl _ _⟩
theorem Qd7 {P N P' N':List Bn} (hp:P.length=pn) (hn:N.length=nn) (hp':P'.length=pm) (hn':N'.length=nm) (lp:pn<=1048576) (ln:nn<=1048576) (lp':pm<=1048576) (ln':nm<=1048576) (hP:QaS w pa P) (hN:QaS w na N) (hP2:QaS w pb P') (hN2:QaS w nb N') :
  Calls prog 74 #[.agg #[.int .u64 z,.slice pa pn pc,.slice na nn nc,.int .i64 h,.int .u64 l],.agg #[.int .u64 z',.slice pb pm pd,.slice nb nm nd,.int .i64 h',.int .u64 l']] w fun e w'=>e=.returned (.bool (Qbb z h l P N z' h' l' P' N'))/\Bw w w':=by
 have HP:=Qaa hP;have HN:=Qaa hN;have ae:=Qaa hP2;have ag:=Qaa hN2;clear hP hN hP2 hN2;have hW:∀ o1 o2,Bw w ((w.alloc o1).alloc o2):=fun o1 o2=>((Below.refl _ _).alloc (Nat.le_refl _) _).alloc (by simp) _;have HW:=Qaa hW;clear hW;have hq:=Qi4 h l h' l';by_cases h1:z=z'
 ·subst h1
  cases hb:(h == h' && l == l') with
  | true=>
   rw [hb] at hq;by_cases h3:P=P'
   ·have d3:decide (P=P')=true:=decide_eq_true h3
    have HE:Hid (decide (N=N')=Qbb z h l P N z h' l' P' N'):=by
     refine (?_:decide (N=N')=Qbb z h l P N z h' l' P' N');simp only [Qbb,hb,d3,beq_self_eq_true,Bool.true_and]
    clear hb h3;go_enter func74,ntmps74;go_wp2_with fail;refine (Qct _ _ _ _ hp hp' lp lp' (Qaj HP (HW.out _ _)) (Qaj ae (HW.out _ _))).mono ?_;rintro e w1 ⟨rfl,aa⟩;rw [d3];have ac:=(HW.out _ _).trans (aa.mono (by simp <;> omega));obtain ⟨af,_⟩:=QhH aa;simp at af;have ab:=Qaa ac;clear aa ac;go_wp2_with fail;refine (Qct _ _ _ _ hn hn' ln ln' (Qaj HN ab) (Qaj ag ab)).mono ?_;rintro e w2 ⟨rfl,ad⟩;have ah:=Qaa (Qac ab ad);clear ad;go_wp2;go_ret;exact ⟨Qat HE,ah⟩
   ·have d3:decide (P=P')=false:=decide_eq_false h3
    have HE:Hid (false=Qbb z h l P N z h' l' P' N'):=by
     refine (?_:false=Qbb z h l P N z h' l' P' N');simp only [Qbb,d3,Bool.and_false,Bool.false_and]
    clear hb h3;go_enter func74,ntmps74;go_wp2_with fail;refine (Qct _ _ _ _ hp hp' lp lp' (Qaj HP (HW.out _ _)) (Qaj ae (HW.out _ _))).mono ?_;rintro e w1 ⟨rfl,aa⟩;rw [d3];have ab:=Qaa ((HW.out _ _).trans (aa.mono (by simp <;> omega)));clear aa;go_wp2;go_ret;exact ⟨Qat HE,ab⟩
  | false=>
   rw [hb] at hq
   have HE:Hid (false=Qbb z h l P N z h' l' P' N'):=by
    refine (?_:false=Qbb z h l P N z h' l' P' N');simp only [Qbb,hb,Bool.and_false,Bool.false_and]
   clear hb;go_enter func74,ntmps74;go_wp2;go_ret;exact ⟨Qat HE,HW.out _ _⟩
 ·have d1:(z == z')=false:=beq_eq_false_iff_ne.2 h1
  have HE:Hid (false=Qbb z h l P N z' h' l' P' N'):=by
   refine (?_:false=Qbb z h l P N z' h' l' P' N');simp only [Qbb,d1,Bool.false_and]
  clear h1;go_enter func74,ntmps74;go_wp2;go_ret;exact ⟨Qat HE,HW.out _ _⟩
theorem QhA {P N P' N':List Bn} (hp:P.length=pn) (hn:N.length=nn) (hp':P'.length=pm) (hn':N'.length=nm) (lp:pn<=1048576) (ln:nn<=1048576) (lp':pm<=1048576) (ln':nm<=1048576) (hP:QaS w pa P) (hN:QaS w na N) (hP2:QaS w pb P') (hN2:QaS w nb N') :
  Calls prog 220 #[.agg #[.int .u64 z,.slice pa pn pc,.slice na nn nc,.int .i64 h,.int .u64 l],.agg #[.int .u64 z',.slice pb pm pd,.slice nb nm nd,.int .i64 h',.int .u64 l']] w fun e w'=>e=.returned (.bool (Qbb z h l P N z' h' l' P' N'))/\Bw w w':=by
 have HP:=Qaa hP;have HN:=Qaa hN;have ae:=Qaa hP2;have ag:=Qaa hN2;clear hP hN hP2 hN2;have hW:∀ o1 o2,Bw w ((w.alloc o1).alloc o2):=fun o1 o2=>((Below.refl _ _).alloc (Nat.le_refl _) _).alloc (by simp) _;have HW:=Qaa hW;clear hW;have hq:=Qi4 h l h' l';by_cases h1:z=z'
 ·subst h1
  cases hb:(h == h' && l == l') with
  | true=>
   rw [hb] at hq;by_cases h3:P=P'
   ·have d3:decide (P=P')=true:=decide_eq_true h3
    have HE:Hid (decide (N=N')=Qbb z h l P N z h' l' P' N'):=by
     refine (?_:decide (N=N')=Qbb z h l P N z h' l' P' N');simp only [Qbb,hb,d3,beq_self_eq_true,Bool.true_and]
    clear hb h3;go_enter func220,ntmps220;go_wp2_with fail;refine (QcN _ _ _ _ hp hp' lp lp' (Qaj HP (HW.out _ _)) (Qaj ae (HW.out _ _))).mono ?_;rintro e w1 ⟨rfl,aa⟩;rw [d3];have ac:=(HW.out _ _).trans (aa.mono (by simp <;> omega));obtain ⟨af,_⟩:=QhH aa;simp at af;have ab:=Qaa ac;clear aa ac;go_wp2_with fail;refine (QcN _ _ _ _ hn hn' ln ln' (Qaj HN ab) (Qaj ag ab)).mono ?_;rintro e w2 ⟨rfl,ad⟩;have ah:=Qaa (Qac ab ad);clear ad;go_wp2;go_ret;exact ⟨Qat HE,ah⟩
   ·have d3:decide (P=P')=false:=decide_eq_false h3
    have HE:Hid (false=Qbb z h l P N z h' l' P' N'):=by
     refine (?_:false=Qbb z h l P N z h' l' P' N');simp only [Qbb,d3,Bool.and_false,Bool.false_and]
    clear hb h3;go_enter func220,ntmps220;go_wp2_with fail;refine (QcN _ _ _ _ hp hp' lp lp' (Qaj HP (HW.out _ _)) (Qaj ae (HW.out _ _))).mono ?_;rintro e w1 ⟨rfl,aa⟩;rw [d3];have ab:=Qaa ((HW.out _ _).trans (aa.mono (by simp <;> omega)));clear aa;go_wp2;go_ret;exact ⟨Qat HE,ab⟩
  | false=>
   rw [hb] at hq
   have HE:Hid (false=Qbb z h l P N z h' l' P' N'):=by
    refine (?_:false=Qbb z h l P N z h' l' P' N');simp only [Qbb,hb,Bool.and_false,Bool.false_and]
   clear hb;go_enter func220,ntmps220;go_wp2;go_ret;exact ⟨Qat HE,HW.out _ _⟩
 ·have d1:(z == z')=false:=beq_eq_false_iff_ne.2 h1
  have HE:Hid (false=Qbb z h l P N z' h' l' P' N'):=by
   refine (?_:false=Qbb z h l P N z' h' l' P' N');simp only [Qbb,d1,Bool.false_and]
  clear h1;go_enter func220,ntmps220;go_wp2;go_ret;exact ⟨Qat HE,HW.out _ _⟩
theorem Qf0 {m:Nat} (hn:L.length=n) (hm:M.length=m) (h:n≠m):false=decide (L=M):=by
 rw [eq_comm,decide_eq_false_iff_not];intro e;rw [e] at hn;omega
theorem QeV (h:L[k]?=some a) (g:M[k]?=some a') (e:B=decide (L.drop k=M.drop k)):(a=a'->B=decide (L.drop (k+1)=M.drop (k+1)))/\(a≠a'->false=B):=by
 rw [QnY h g] at e;exact ⟨fun q=>by rw [e,q,beq_self_eq_true,Bool.true_and],fun q=>by rw [e,beq_eq_false_iff_ne.2 q];rfl⟩
theorem Qe5 (hn:L.length=n) (hm:M.length=n) (hk:¬ k<n) (e:B=decide (L.drop k=M.drop k)):true=B:=by
 rw [e,List.drop_eq_nil_of_le (by omega),List.drop_eq_nil_of_le (by omega)];rfl
def Qbu (E R E' R':List Int):Bool:=decide (E=E') && decide (R=R')
theorem Qd4 (c c' n m:Nat) (hn:L.length=n) (hm:M.length=m) (ln:n<=1048576) (lm:m<=1048576) (hA:QaG .u64 w ao L) (hB:QaG .u64 w bo M) :
  Calls prog 240 #[.slice ao n c,.slice bo m c'] w fun e w'=>e=.returned (.bool (decide (L=M)))/\Bw w w':=by
 have HN:=Qaa hn;have HM:=Qaa hm;have HA:=Qaa hA;have ag:=Qaa hB;clear hn hm hA hB;by_cases af:n=m
 ·subst af
  go_enter func240,ntmps240;go_wp2
  go_loopw [13] (fun i wr=>Bw w wr/\∃ k:Nat,k<=n/\i=.int .i64 k/\Hid (decide (L=M)=decide (L.drop k=M.drop k))) (fun i wr=>n - (Go.RowKit.intOf i).toNat)
  case atStart=>exact ⟨Below.refl _ _,0,Nat.zero_le _,rfl,(rfl:decide (L=M)=decide (L.drop 0=M.drop 0))⟩
  case round=>
   obtain ⟨aa,k,hk,rfl,HR⟩:=hrel;have HB:=Qaa aa;by_cases ai:k<n
   ·obtain ⟨a,ae⟩:∃ a,L[k]?=some a:=⟨L[k]'(by have:=HN.out;omega),List.getElem?_eq_getElem _⟩
    obtain ⟨a',ad⟩:∃ a,M[k]?=some a:=⟨M[k]'(by have:=HM.out;omega),List.getElem?_eq_getElem _⟩;obtain ⟨b,al,rfl,ac⟩:=HA.out (by have:=HN.out;omega);obtain ⟨b',ah,rfl,ab⟩:=ag.out (by have:=HM.out;omega);have aj:=Qab aa (ac k _ ae);have am:=Qab aa (ab k _ ad);have HD:=Qaa (QeV ae ad HR);clear aa ae ad ac ab HR;by_cases he:a=a'
    ·subst he
     have HE:=Qaa (HD.1 rfl);clear HD;go_wp2
     go_quiet (fail)
     go_wp2;go_roundw
     case rel=>exact ⟨Qao HB _,k+1,by omega,by go_num,HE⟩
     case measure=>simp [Go.RowKit.intOf];omega
    ·have hq:(a == a')=false:=beq_eq_false_iff_ne.2 he
     have HE:=Qaa (HD.2 he);clear he;go_wp2
     go_quiet (fail)
     go_wp2;go_ret;exact ⟨Qa6 HE,Qao HB _⟩
   ·have HE:=Qaa (Qe5 HN HM ai HR)
    clear aa;go_wp2;go_ret;exact ⟨Qa6 HE,HB⟩
 ·have ak:((n:Int) == (m:Int))=false:=beq_eq_false_iff_ne.2 (by omega)
  have HE:=Qaa (Qf0 HN HM af);go_enter func240,ntmps240;go_wp2;go_ret;exact ⟨Qa6 HE,Below.refl _ _⟩
theorem Qiz (c c' n m:Nat) (hn:L.length=n) (hm:M.length=m) (ln:n<=1048576) (lm:m<=1048576) (hA:QaG .i64 w ao L) (hB:QaG .i64 w bo M) :
  Calls prog 241 #[.slice ao n c,.slice bo m c'] w fun e w'=>e=.returned (.bool (decide (L=M)))/\Bw w w':=by
 have HN:=Qaa hn;have HM:=Qaa hm;have HA:=Qaa hA;have ag:=Qaa hB;clear hn hm hA hB;by_cases af:n=m
 ·subst af
  go_enter func241,ntmps241;go_wp2
  go_loopw [13] (fun i wr=>Bw w wr/\∃ k:Nat,k<=n/\i=.int .i64 k/\Hid (decide (L=M)=decide (L.drop k=M.drop k))) (fun i wr=>n - (Go.RowKit.intOf i).toNat)
  case atStart=>exact ⟨Below.refl _ _,0,Nat.zero_le _,rfl,(rfl:decide (L=M)=decide (L.drop 0=M.drop 0))⟩
  case round=>
   obtain ⟨aa,k,hk,rfl,HR⟩:=hrel;have HB:=Qaa aa;by_cases ai:k<n
   ·obtain ⟨a,ae⟩:∃ a,L[k]?=some a:=⟨L[k]'(by have:=HN.out;omega),List.getElem?_eq_getElem _⟩
    obtain ⟨a',ad⟩:∃ a,M[k]?=some a:=⟨M[k]'(by have:=HM.out;omega),List.getElem?_eq_getElem _⟩;obtain ⟨b,al,rfl,ac⟩:=HA.out (by have:=HN.out;omega);obtain ⟨b',ah,rfl,ab⟩:=ag.out (by have:=HM.out;omega);have aj:=Qab aa (ac k _ ae);have am:=Qab aa (ab k _ ad);have HD:=Qaa (QeV ae ad HR);clear aa ae ad ac ab HR;by_cases he:a=a'
    ·subst he
     have HE:=Qaa (HD.1 rfl);clear HD;go_wp2
     go_quiet (fail)
     go_wp2;go_roundw
     case rel=>exact ⟨Qao HB _,k+1,by omega,by go_num,HE⟩
     case measure=>simp [Go.RowKit.intOf];omega
    ·have hq:(a == a')=false:=beq_eq_false_iff_ne.2 he
     have HE:=Qaa (HD.2 he);clear he;go_wp2
     go_quiet (fail)
     go_wp2;go_ret;exact ⟨Qa6 HE,Qao HB _⟩
   ·have HE:=Qaa (Qe5 HN HM ai HR)
    clear aa;go_wp2;go_ret;exact ⟨Qa6 HE,HB⟩
 ·have ak:((n:Int) == (m:Int))=false:=beq_eq_false_iff_ne.2 (by omega)
  have HE:=Qaa (Qf0 HN HM af);go_enter func241,ntmps241;go_wp2;go_ret;exact ⟨Qa6 HE,Below.refl _ _⟩
theorem Qlg (hp:P.length=pn) (hn:N.length=nn) (hp':P'.length=pm) (hn':N'.length=nm) (lp:pn<=1048576) (ln:nn<=1048576) (lp':pm<=1048576) (ln':nm<=1048576) (hP:QaG .u64 w pa P) (hN:QaG .i64 w na N) (hP2:QaG .u64 w pb P') (hN2:QaG .i64 w nb N') :
  Calls prog 221 #[.agg #[.slice pa pn pc,.slice na nn nc],.agg #[.slice pb pm pd,.slice nb nm nd]] w fun e w'=>e=.returned (.bool (Qbu P N P' N'))/\Bw w w':=by
 have HP:=Qaa hP;have HN:=Qaa hN;have ad:=Qaa hP2;have ah:=Qaa hN2;clear hP hN hP2 hN2;have hW:∀ o1 o2,Bw w ((w.alloc o1).alloc o2):=fun o1 o2=>((Below.refl _ _).alloc (Nat.le_refl _) _).alloc (by simp) _;have HW:=Qaa hW;clear hW;by_cases h3:P=P'
 ·have d3:decide (P=P')=true:=decide_eq_true h3
  have HE:Hid (decide (N=N')=Qbu P N P' N'):=(by simp only [Qbu,d3,Bool.true_and]:decide (N=N')=Qbu P N P' N');clear h3;go_enter func221,ntmps221;go_wp2_with fail;refine (Qd4 _ _ _ _ hp hp' lp lp' (Qak HP (HW.out _ _)) (Qak ad (HW.out _ _))).mono ?_;rintro e w1 ⟨rfl,aa⟩;rw [d3];have ac:=(HW.out _ _).trans (aa.mono (by simp <;> omega));obtain ⟨af,_⟩:=QhH aa;simp at af;have ab:=Qaa ac;clear aa ac;go_wp2_with fail;refine (Qiz _ _ _ _ hn hn' ln ln' (Qak HN ab) (Qak ah ab)).mono ?_;rintro e w2 ⟨rfl,ae⟩;have ag:=Qaa (Qac ab ae);clear ae;go_wp2;go_ret;exact ⟨Qa6 HE,ag⟩
 ·have d3:decide (P=P')=false:=decide_eq_false h3
  have HE:Hid (false=Qbu P N P' N'):=(by simp only [Qbu,d3,Bool.false_and]:false=Qbu P N P' N');clear h3;go_enter func221,ntmps221;go_wp2_with fail;refine (Qd4 _ _ _ _ hp hp' lp lp' (Qak HP (HW.out _ _)) (Qak ad (HW.out _ _))).mono ?_;rintro e w1 ⟨rfl,aa⟩;rw [d3];have ab:=Qaa ((HW.out _ _).trans (aa.mono (by simp <;> omega)));clear aa;go_wp2;go_ret;exact ⟨Qa6 HE,ab⟩
theorem QsR (w:World) (t:TypeId) (p n p' n':Value):Qcw ((w.alloc (.cells #[p,n] t)).alloc (.cells #[p',n'] t)) w.heap.size p n/\Qcw ((w.alloc (.cells #[p,n] t)).alloc (.cells #[p',n'] t)) (w.heap.size+1) p' n':=by
 refine ⟨Qgx (QjY w t p n) bA,?_⟩;have:=QjY (w.alloc (.cells #[p,n] t)) t p' n'
 simpa using this
theorem Qlv (hp:P.length=pn) (hn:N.length=nn) (hp':P'.length=pm) (hn':N'.length=nm) (lp:pn<=1048576) (ln:nn<=1048576) (lp':pm<=1048576) (ln':nm<=1048576) (hP:QaG .u64 w pa P) (hN:QaG .i64 w na N) (hP2:QaG .u64 w pb P') (hN2:QaG .i64 w nb N') :
  Calls prog 75 #[.agg #[.slice pa pn pc,.slice na nn nc],.agg #[.slice pb pm pd,.slice nb nm nd]] w fun e w'=>e=.returned (.bool (Qbu P N P' N'))/\Bw w w':=by
 have HP:=Qaa hP;have HN:=Qaa hN;have aq:=Qaa hP2;have ai:=Qaa hN2;have EP:=Qaa hp;have EN:=Qaa hn;have af:=Qaa hp';have ag:=Qaa hn';clear hP hN hP2 hN2 hp hn hp' hn';have hW:∀ o1 o2,Bw w ((w.alloc o1).alloc o2):=fun o1 o2=>((Below.refl _ _).alloc (Nat.le_refl _) _).alloc (by simp) _;have HW:=Qaa hW;clear hW;by_cases h1:pn=pm
 ·subst h1
  by_cases h2:nn=nm
  ·subst h2
   go_enter func75,ntmps75;go_wp2
   go_loopw [5] (fun i wr=>Bw w wr/\Qcw wr w.heap.size (.slice pa pn pc) (.slice na nn nc)/\Qcw wr (w.heap.size+1) (.slice pb pn pd) (.slice nb nn nd)/\∃ k:Nat,k<=pn/\i=.int .i64 k/\Hid (decide (P=P')=decide (P.drop k=P'.drop k))) (fun i wr=>pn - (Go.RowKit.intOf i).toNat)
   case atStart=>exact ⟨HW.out _ _,(QsR _ _ _ _ _ _).1,(QsR _ _ _ _ _ _).2,0,Nat.zero_le _,rfl,(rfl:decide (P=P')=decide (P.drop 0=P'.drop 0))⟩
   case round=>
    obtain ⟨aa,hK,hJ,k,hk,rfl,HR⟩:=hrel;have HB:=Qaa aa;have HK:=Qaa hK;have HJ:=Qaa hJ;by_cases aj:k<pn
    ·obtain ⟨a,ae⟩:∃ a,P[k]?=some a:=⟨P[k]'(by have:=EP.out;omega),List.getElem?_eq_getElem _⟩
     obtain ⟨a',ad⟩:∃ a,P'[k]?=some a:=⟨P'[k]'(by have:=af.out;omega),List.getElem?_eq_getElem _⟩;obtain ⟨b,an,rfl,ac⟩:=HP.out (by have:=EP.out;omega);obtain ⟨b',ah,rfl,ab⟩:=aq.out (by have:=af.out;omega);have al:=Qab aa (ac k _ ae);have ao:=Qab aa (ab k _ ad);have HD:=Qaa (QeV ae ad HR);clear aa ae ad ac ab HR;by_cases he:a=a'
     ·subst he
      have HE:=Qaa (HD.1 rfl);clear HD;go_wp2
      go_quiet (fail)
      go_wp2;go_roundw
      case rel=>exact ⟨Qao HB _,HK,HJ,k+1,by omega,by go_num,HE⟩
      case measure=>simp [Go.RowKit.intOf];omega
     ·have hq:(a == a')=false:=beq_eq_false_iff_ne.2 he
      have HE:Hid (false=Qbu P N P' N'):=(by simp only [Qbu,<- HD.2 he,Bool.false_and]:false=Qbu P N P' N');clear he;go_wp2
      go_quiet (fail)
      go_wp2;go_ret;exact ⟨Qa6 HE,Qao HB _⟩
    ·have ak:=Qaa (Qe5 EP af aj HR)
     clear aa HR;go_wp2
     go_loopw [6] (fun i wr=>Bw w wr/\Qcw wr w.heap.size (.slice pa pn pc) (.slice na nn nc)/\Qcw wr (w.heap.size+1) (.slice pb pn pd) (.slice nb nn nd)/\∃ k:Nat,k<=nn/\i=.int .i64 k/\Hid (decide (N=N')=decide (N.drop k=N'.drop k))) (fun i wr=>nn - (Go.RowKit.intOf i).toNat)
     case atStart=>exact ⟨HB,HK,HJ,0,Nat.zero_le _,rfl,(rfl:decide (N=N')=decide (N.drop 0=N'.drop 0))⟩
     case round=>
      clear HB HK HJ hK hJ;obtain ⟨aa,hK,hJ,j,hj,rfl,HR⟩:=hrel;have HB:=Qaa aa;have HK:=Qaa hK;have HJ:=Qaa hJ;by_cases ap:j<nn
      ·obtain ⟨a,ae⟩:∃ a,N[j]?=some a:=⟨N[j]'(by have:=EN.out;omega),List.getElem?_eq_getElem _⟩
       obtain ⟨a',ad⟩:∃ a,N'[j]?=some a:=⟨N'[j]'(by have:=ag.out;omega),List.getElem?_eq_getElem _⟩;obtain ⟨b,an,rfl,ac⟩:=HN.out (by have:=EN.out;omega);obtain ⟨b',ah,rfl,ab⟩:=ai.out (by have:=ag.out;omega);have al:=Qab aa (ac j _ ae);have ao:=Qab aa (ab j _ ad);have HD:=Qaa (QeV ae ad HR);clear aa ae ad ac ab HR;by_cases he:a=a'
       ·subst he
        have HE:=Qaa (HD.1 rfl);clear HD;go_wp2
        go_quiet (fail)
        go_wp2;go_roundw
        case rel=>exact ⟨Qao HB _,HK,HJ,j+1,by omega,by go_num,HE⟩
        case measure=>simp [Go.RowKit.intOf];omega
       ·have hq:(a == a')=false:=beq_eq_false_iff_ne.2 he
        have HE:Hid (false=Qbu P N P' N'):=(by simp only [Qbu,<- HD.2 he,Bool.and_false]:false=Qbu P N P' N');clear he;go_wp2
        go_quiet (fail)
        go_wp2;go_ret;exact ⟨Qa6 HE,Qao HB _⟩
      ·have HE:Hid (true=Qbu P N P' N'):=(by simp only [Qbu,<- ak.out,<- Qe5 EN.out ag.out ap HR.out,Bool.and_true]:true=Qbu P N P' N')
       clear aa HR;go_wp2;go_ret;exact ⟨Qa6 HE,HB⟩
  ·have am:((nn:Int) == (nm:Int))=false:=beq_eq_false_iff_ne.2 (by omega)
   have HE:Hid (false=Qbu P N P' N'):=(by simp only [Qbu,<- Qf0 EN.out ag.out h2,Bool.and_false]:false=Qbu P N P' N');go_enter func75,ntmps75;go_wp2;go_ret;exact ⟨Qa6 HE,HW.out _ _⟩
 ·have am:((pn:Int) == (pm:Int))=false:=beq_eq_false_iff_ne.2 (by omega)
  have HE:Hid (false=Qbu P N P' N'):=(by simp only [Qbu,<- Qf0 EP.out af.out h1,Bool.false_and]:false=Qbu P N P' N');go_enter func75,ntmps75;go_wp2;go_ret;exact ⟨Qa6 HE,HW.out _ _⟩
theorem Qdx (a p b q:Int) (w:World):(binOp .neq 64 (.agg #[.int .i64 a,.int .u64 p]) (.agg #[.int .i64 b,.int .u64 q])).run prog w=.ok (.bool (!(a == b && p == q))) w:=by
 have hS:prog.underlying 64=some (.struct (prog.fieldsOf 64)):=by kernel_rfl
 have hp:prog.stoodInHeld 64=false:=by kernel_rfl
 rw [run_neq_struct,show (10000:Nat)=9999+1 from rfl,run_equalIn_agg w 9999 64 _ _ hS hp];simp only [Program.fieldsOf,underlying64];go_simp;by_cases h1:a=b <;> by_cases h2:p=q <;> simp [h1,h2]
def QaK (g g':Ag):Bool:=(g.k == g'.k) && (g.s == g'.s) && (g.h == g'.h && g.l == g'.l) && (g.a == g'.a) && (g.t == g'.t) && Qbb g.z g.x g.y g.P g.N g'.z g'.x g'.y g'.P g'.N && Qbu g.E g.R g'.E g'.R
theorem Qc5 (hs:AgSm g) (hs':AgSm g') (hA:AgAt w g p) (hB:AgAt w g' p') :
  Calls prog 206 #[.agg (QaC g p),.agg (QaC g' p')] w fun e w'=>e=.returned (.bool (QaK g g'))/\Bw w w':=by
 obtain ⟨k,s,h,l,a,t,z,P,N,x,y,E,R⟩:=g;obtain ⟨k',s',h',l',a',t',z',P',N',x',y',E',R'⟩:=g';obtain ⟨pa,pc,na,nc,ea,ec,ra,rc⟩:=p;obtain ⟨az,av,aA,ay,au,aw,ax,ar⟩:=p';obtain ⟨gP,gN,gE,gR⟩:=hs;obtain ⟨ai,ah,ag,af⟩:=hs';obtain ⟨aP,aN,aE,aR⟩:=hA;obtain ⟨bP,bN,bE,bR⟩:=hB;simp only at gP gN gE gR ai ah ag af aP aN aE aR bP bN bE bR;have HA:=Qaa (And.intro (And.intro aP aN) (And.intro aE aR));have HB:=Qaa (And.intro (And.intro bP bN) (And.intro bE bR));simp only [QaC];obtain ⟨pn,ep⟩:∃ n,P.length=n:=⟨_,rfl⟩;obtain ⟨nn,en⟩:∃ n,N.length=n:=⟨_,rfl⟩;obtain ⟨xn,ex⟩:∃ n,E.length=n:=⟨_,rfl⟩;obtain ⟨rn,er⟩:∃ n,R.length=n:=⟨_,rfl⟩;obtain ⟨pm,ad⟩:∃ n,P'.length=n:=⟨_,rfl⟩;obtain ⟨nm,ab⟩:∃ n,N'.length=n:=⟨_,rfl⟩;obtain ⟨xm,ae⟩:∃ n,E'.length=n:=⟨_,rfl⟩;obtain ⟨rm,ac⟩:∃ n,R'.length=n:=⟨_,rfl⟩;rw [ep] at gP;rw [en] at gN;rw [ex] at gE;rw [er] at gR;rw [ad] at ai; rw [ab] at ah; rw [ae] at ag; rw [ac] at af;rw [ep,en,ex,er,ad,ab,ae,ac];have EP:=Qaa ep;have EN:=Qaa en;have EX:=Qaa ex;have ER:=Qaa er;have ap:=Qaa ad;have am:=Qaa ab;have ao:=Qaa ae;have aq:=Qaa ac;clear ep en ex er ad ab ae ac aP aN aE aR bP bN bE bR;have HW:Hid (∀ o1 o2,Bw w ((w.alloc o1).alloc o2)):=fun o1 o2=>((Below.refl _ _).alloc (Nat.le_refl _) _).alloc (by simp) _;by_cases qk:k=k'
 rotate_left
 ·have bk:(k == k')=false:=beq_eq_false_iff_ne.2 qk
  have HE:Hid (false=QaK ⟨k,s,h,l,a,t,z,P,N,x,y,E,R⟩ ⟨k',s',h',l',a',t',z',P',N',x',y',E',R'⟩):=(by simp [QaK,qk]:false=QaK ⟨k,s,h,l,a,t,z,P,N,x,y,E,R⟩ ⟨k',s',h',l',a',t',z',P',N',x',y',E',R'⟩);go_enter func206,ntmps206;go_wp2;go_ret;exact ⟨Qat HE,HW.out _ _⟩
 subst qk;by_cases qs:s=s'
 rotate_left
 ·have bs:(s == s')=false:=beq_eq_false_iff_ne.2 qs
  have HE:Hid (false=QaK ⟨k,s,h,l,a,t,z,P,N,x,y,E,R⟩ ⟨k,s',h',l',a',t',z',P',N',x',y',E',R'⟩):=(by simp [QaK,qs]:false=QaK ⟨k,s,h,l,a,t,z,P,N,x,y,E,R⟩ ⟨k,s',h',l',a',t',z',P',N',x',y',E',R'⟩);go_enter func206,ntmps206;go_wp2;go_ret;exact ⟨Qat HE,HW.out _ _⟩
 subst qs;by_cases qw:h=h'/\l=l'
 rotate_left
 ·have bw:(h == h' && l == l')=false:=by rw [Bool.eq_false_iff];intro hh;simp at hh;exact qw hh
  have hq:=Qdx h l h' l';rw [bw] at hq;clear qw;have HE:Hid (false=QaK ⟨k,s,h,l,a,t,z,P,N,x,y,E,R⟩ ⟨k,s,h',l',a',t',z',P',N',x',y',E',R'⟩):=(by simp [QaK,bw]:false=QaK ⟨k,s,h,l,a,t,z,P,N,x,y,E,R⟩ ⟨k,s,h',l',a',t',z',P',N',x',y',E',R'⟩);go_enter func206,ntmps206;go_wp2;go_ret;exact ⟨Qat HE,HW.out _ _⟩
 obtain ⟨qh,ql⟩:=qw;subst qh;subst ql;have hq:=Qdx h l h l;rw [show (h == h && l == l)=true by simp] at hq;by_cases qa:a=a'
 rotate_left
 ·have ba:(a == a')=false:=beq_eq_false_iff_ne.2 qa
  have HE:Hid (false=QaK ⟨k,s,h,l,a,t,z,P,N,x,y,E,R⟩ ⟨k,s,h,l,a',t',z',P',N',x',y',E',R'⟩):=(by simp [QaK,qa]:false=QaK ⟨k,s,h,l,a,t,z,P,N,x,y,E,R⟩ ⟨k,s,h,l,a',t',z',P',N',x',y',E',R'⟩);go_enter func206,ntmps206;go_wp2;go_ret;exact ⟨Qat HE,HW.out _ _⟩
 subst qa;by_cases qt:t=t'
 rotate_left
 ·have bt:(t == t')=false:=beq_eq_false_iff_ne.2 qt
  have HE:Hid (false=QaK ⟨k,s,h,l,a,t,z,P,N,x,y,E,R⟩ ⟨k,s,h,l,a,t',z',P',N',x',y',E',R'⟩):=(by simp [QaK,qt]:false=QaK ⟨k,s,h,l,a,t,z,P,N,x,y,E,R⟩ ⟨k,s,h,l,a,t',z',P',N',x',y',E',R'⟩);go_enter func206,ntmps206;go_wp2;go_ret;exact ⟨Qat HE,HW.out _ _⟩
 subst qt;have HS:Hid (QaK ⟨k,s,h,l,a,t,z,P,N,x,y,E,R⟩ ⟨k,s,h,l,a,t,z',P',N',x',y',E',R'⟩=(Qbb z x y P N z' x' y' P' N' && Qbu E R E' R')):=(by simp [QaK]:QaK ⟨k,s,h,l,a,t,z,P,N,x,y,E,R⟩ ⟨k,s,h,l,a,t,z',P',N',x',y',E',R'⟩=(Qbb z x y P N z' x' y' P' N' && Qbu E R E' R'));go_enter func206,ntmps206;go_wp2_with fail;refine (QhA EP EN ap am gP gN ai ah (Qaj HA.1.1 (HW.out _ _)) (Qaj HA.1.2 (HW.out _ _)) (Qaj HB.1.1 (HW.out _ _)) (Qaj HB.1.2 (HW.out _ _))).mono ?_;rintro e w1 ⟨rfl,aj⟩;have aa:=Qaa ((HW.out _ _).trans (aj.mono (by simp <;> omega)));obtain ⟨an,_⟩:=QhH aj;simp at an;clear aj
 cases hsk:Qbb z x y P N z' x' y' P' N' with
 | false=>
  have HE:Hid (false=QaK ⟨k,s,h,l,a,t,z,P,N,x,y,E,R⟩ ⟨k,s,h,l,a,t,z',P',N',x',y',E',R'⟩):=by have:=HS.out;rw [hsk,Bool.false_and] at this;exact this.symm
  go_wp2;go_ret;exact ⟨Qat HE,aa⟩
 | true=>
  have HE:Hid (Qbu E R E' R'=QaK ⟨k,s,h,l,a,t,z,P,N,x,y,E,R⟩ ⟨k,s,h,l,a,t,z',P',N',x',y',E',R'⟩):=by have:=HS.out;rw [hsk,Bool.true_and] at this;exact this.symm
  go_wp2_with fail;refine (Qlg EX ER ao aq gE gR ag af (Qak HA.2.1 aa) (Qak HA.2.2 aa) (Qak HB.2.1 aa) (Qak HB.2.2 aa)).mono ?_;rintro e w2 ⟨rfl,ak⟩;have al:=Qaa (Qac aa ak);clear ak;go_wp2;go_ret;exact ⟨Qat HE,al⟩
theorem Qlj (hs:AgSm g) (hs':AgSm g') (hA:AgAt w g p) (hB:AgAt w g' p') :
  Calls prog 49 #[.agg (QaC g p),.agg (QaC g' p')] w fun e w'=>e=.returned (.bool (QaK g g'))/\Bw w w':=by
 obtain ⟨k,s,h,l,a,t,z,P,N,x,y,E,R⟩:=g;obtain ⟨k',s',h',l',a',t',z',P',N',x',y',E',R'⟩:=g';obtain ⟨pa,pc,na,nc,ea,ec,ra,rc⟩:=p;obtain ⟨az,av,aA,ay,au,aw,ax,ar⟩:=p';obtain ⟨gP,gN,gE,gR⟩:=hs;obtain ⟨ai,ah,ag,af⟩:=hs';obtain ⟨aP,aN,aE,aR⟩:=hA;obtain ⟨bP,bN,bE,bR⟩:=hB;simp only at gP gN gE gR ai ah ag af aP aN aE aR bP bN bE bR;have HA:=Qaa (And.intro (And.intro aP aN) (And.intro aE aR));have HB:=Qaa (And.intro (And.intro bP bN) (And.intro bE bR));simp only [QaC];obtain ⟨pn,ep⟩:∃ n,P.length=n:=⟨_,rfl⟩;obtain ⟨nn,en⟩:∃ n,N.length=n:=⟨_,rfl⟩;obtain ⟨xn,ex⟩:∃ n,E.length=n:=⟨_,rfl⟩;obtain ⟨rn,er⟩:∃ n,R.length=n:=⟨_,rfl⟩;obtain ⟨pm,ad⟩:∃ n,P'.length=n:=⟨_,rfl⟩;obtain ⟨nm,ab⟩:∃ n,N'.length=n:=⟨_,rfl⟩;obtain ⟨xm,ae⟩:∃ n,E'.length=n:=⟨_,rfl⟩;obtain ⟨rm,ac⟩:∃ n,R'.length=n:=⟨_,rfl⟩;rw [ep] at gP;rw [en] at gN;rw [ex] at gE;rw [er] at gR;rw [ad] at ai; rw [ab] at ah; rw [ae] at ag; rw [ac] at af;rw [ep,en,ex,er,ad,ab,ae,ac];have EP:=Qaa ep;have EN:=Qaa en;have EX:=Qaa ex;have ER:=Qaa er;have ap:=Qaa ad;have am:=Qaa ab;have ao:=Qaa ae;have aq:=Qaa ac;clear ep en ex er ad ab ae ac aP aN aE aR bP bN bE bR;have HW:Hid (∀ o1 o2,Bw w ((w.alloc o1).alloc o2)):=fun o1 o2=>((Below.refl _ _).alloc (Nat.le_refl _) _).alloc (by simp) _;by_cases qk:k=k'
 rotate_left
 ·have bk:(k == k')=false:=beq_eq_false_iff_ne.2 qk
  have HE:Hid (false=QaK ⟨k,s,h,l,a,t,z,P,N,x,y,E,R⟩ ⟨k',s',h',l',a',t',z',P',N',x',y',E',R'⟩):=(by simp [QaK,qk]:false=QaK ⟨k,s,h,l,a,t,z,P,N,x,y,E,R⟩ ⟨k',s',h',l',a',t',z',P',N',x',y',E',R'⟩);go_enter func49,ntmps49;go_wp2;go_ret;exact ⟨Qat HE,HW.out _ _⟩
 subst qk;by_cases qs:s=s'
 rotate_left
 ·have bs:(s == s')=false:=beq_eq_false_iff_ne.2 qs
  have HE:Hid (false=QaK ⟨k,s,h,l,a,t,z,P,N,x,y,E,R⟩ ⟨k,s',h',l',a',t',z',P',N',x',y',E',R'⟩):=(by simp [QaK,qs]:false=QaK ⟨k,s,h,l,a,t,z,P,N,x,y,E,R⟩ ⟨k,s',h',l',a',t',z',P',N',x',y',E',R'⟩);go_enter func49,ntmps49;go_wp2;go_ret;exact ⟨Qat HE,HW.out _ _⟩
 subst qs;by_cases qw:h=h'/\l=l'
 rotate_left
 ·have bw:(h == h' && l == l')=false:=by rw [Bool.eq_false_iff];intro hh;simp at hh;exact qw hh
  have hq:=Qi4 h l h' l';rw [bw] at hq;clear qw;have HE:Hid (false=QaK ⟨k,s,h,l,a,t,z,P,N,x,y,E,R⟩ ⟨k,s,h',l',a',t',z',P',N',x',y',E',R'⟩):=(by simp [QaK,bw]:false=QaK ⟨k,s,h,l,a,t,z,P,N,x,y,E,R⟩ ⟨k,s,h',l',a',t',z',P',N',x',y',E',R'⟩);go_enter func49,ntmps49;go_wp2;go_ret;exact ⟨Qat HE,HW.out _ _⟩
 obtain ⟨qh,ql⟩:=qw;subst qh;subst ql;have hq:=Qi4 h l h l;rw [show (h == h && l == l)=true by simp] at hq;by_cases qa:a=a'
 rotate_left
 ·have ba:(a == a')=false:=beq_eq_false_iff_ne.2 qa
  have HE:Hid (false=QaK ⟨k,s,h,l,a,t,z,P,N,x,y,E,R⟩ ⟨k,s,h,l,a',t',z',P',N',x',y',E',R'⟩):=(by simp [QaK,qa]:false=QaK ⟨k,s,h,l,a,t,z,P,N,x,y,E,R⟩ ⟨k,s,h,l,a',t',z',P',N',x',y',E',R'⟩);go_enter func49,ntmps49;go_wp2;go_ret;exact ⟨Qat HE,HW.out _ _⟩
 subst qa;by_cases qt:t=t'
 rotate_left
 ·have bt:(t == t')=false:=beq_eq_false_iff_ne.2 qt
  have HE:Hid (false=QaK ⟨k,s,h,l,a,t,z,P,N,x,y,E,R⟩ ⟨k,s,h,l,a,t',z',P',N',x',y',E',R'⟩):=(by simp [QaK,qt]:false=QaK ⟨k,s,h,l,a,t,z,P,N,x,y,E,R⟩ ⟨k,s,h,l,a,t',z',P',N',x',y',E',R'⟩);go_enter func49,ntmps49;go_wp2;go_ret;exact ⟨Qat HE,HW.out _ _⟩
 subst qt;have HS:Hid (QaK ⟨k,s,h,l,a,t,z,P,N,x,y,E,R⟩ ⟨k,s,h,l,a,t,z',P',N',x',y',E',R'⟩=(Qbb z x y P N z' x' y' P' N' && Qbu E R E' R')):=(by simp [QaK]:QaK ⟨k,s,h,l,a,t,z,P,N,x,y,E,R⟩ ⟨k,s,h,l,a,t,z',P',N',x',y',E',R'⟩=(Qbb z x y P N z' x' y' P' N' && Qbu E R E' R'));go_enter func49,ntmps49;go_wp2_with fail;refine (Qd7 EP EN ap am gP gN ai ah (Qaj HA.1.1 (HW.out _ _)) (Qaj HA.1.2 (HW.out _ _)) (Qaj HB.1.1 (HW.out _ _)) (Qaj HB.1.2 (HW.out _ _))).mono ?_;rintro e w1 ⟨rfl,aj⟩;have aa:=Qaa ((HW.out _ _).trans (aj.mono (by simp <;> omega)));obtain ⟨an,_⟩:=QhH aj;simp at an;clear aj
 cases hsk:Qbb z x y P N z' x' y' P' N' with
 | false=>
  have HE:Hid (false=QaK ⟨k,s,h,l,a,t,z,P,N,x,y,E,R⟩ ⟨k,s,h,l,a,t,z',P',N',x',y',E',R'⟩):=by have:=HS.out;rw [hsk,Bool.false_and] at this;exact this.symm
  go_wp2;go_ret;exact ⟨Qat HE,aa⟩
 | true=>
  have HE:Hid (Qbu E R E' R'=QaK ⟨k,s,h,l,a,t,z,P,N,x,y,E,R⟩ ⟨k,s,h,l,a,t,z',P',N',x',y',E',R'⟩):=by have:=HS.out;rw [hsk,Bool.true_and] at this;exact this.symm
  go_wp2_with fail;refine (Qlv EX ER ao aq gE gR ag af (Qak HA.2.1 aa) (Qak HA.2.2 aa) (Qak HB.2.1 aa) (Qak HB.2.2 aa)).mono ?_;rintro e w2 ⟨rfl,ak⟩;have al:=Qaa (Qac aa ak);clear ak;go_wp2;go_ret;exact ⟨Qat HE,al⟩
end Go.Proofs.YtlejlgldgafljaaGreatDoor
