/-
 Parts.
-/
import Derived.Test.YtdbaabbmcfnjbaaGreatDoorDJA
set_option maxHeartbeats 2000000
set_option linter.all false
namespace Go.Proofs.YtdbaabbmcfnjbaaGreatDoor
open Go.ChangeShapes Go.WideShapes Go.ChangeAt Go.RowKit Go.PlainAid Go.Lib Tryz
set_option maxRecDepth 10000
def QaH (kd:IntKind) (w:World) (ao:Option Addr) (L:List Int):Prop:=
 0<L.length->∃ b off,ao=some ⟨b,off,none⟩/\∀ i x,L[i]?=some x->w.cell? ⟨b,off+i,none⟩=some (.int kd x)
variable {w w':World}
variable {ao:Option Addr}
theorem Qah {kd:IntKind} {L:List Int} (h:QaH kd w ao L) (hb:Below w.heap.size w w'):QaH kd w' ao L:=fun h0=>by
 obtain ⟨b,off,e,hc⟩:=h h0;exact ⟨b,off,e,fun i x hx=>Qab hb (hc i x hx)⟩
variable {a b:Bool}
theorem Qeo (h:a=b):Ending.returned (.bool a)=.returned (.bool b):=by rw [h]
def fillN (L:List Int) (k:Nat):List Int:=L.take k ++ List.replicate (L.length - k) 0
theorem Qn0 (kd:IntKind) (n:Nat):(madeCells (Value.int kd 0).cells (n*1)).toList=(List.replicate n (0:Int)).map (Value.int kd):=by
 rw [Nat.mul_one,List.map_replicate];exact toList_madeCells_one _ _
theorem QdM:(prog.info? 69).map (fun i=>(i.zero,i.size,i.bytes))=some (some (.int .u64 0),1,8):=by kernel_rfl
theorem Qg8:(prog.info? 2).map (fun i=>(i.zero,i.size,i.bytes))=some (some (.int .i64 0),1,8):=by kernel_rfl
abbrev QbC (w:World) (g:Nat) (p n:Value):Prop:=w.cell? ⟨g,0,none⟩=some p/\w.cell? ⟨g,1,none⟩=some n
theorem Qbi {g:Nat} {p n:Value} (k:QbC w g p n) (hb:Below w.heap.size w w'):QbC w' g p n:=
 ⟨Qab hb k.1,Qab hb k.2⟩
theorem Qf4 (w:World) (t:TypeId) (p n:Value):QbC (w.alloc (.cells #[p,n] t)) w.heap.size p n:=by
 have hb:=heap_alloc_new w (.cells #[p,n] t);exact ⟨by rw [cell_of_row _ w.heap.size 0 _ _ (0,0) hb];rfl,by rw [cell_of_row _ w.heap.size 1 _ _ (0,0) hb];rfl⟩
structure Ag where
 k:Int
 s:Int
 h:Int
 l:Int
 a:Int
 t:Int
 z:Int
 P:List Bn
 N:List Bn
 x:Int
 y:Int
 E:List Int
 R:List Int
structure Pl where
 pa:Option Addr
 pc:Nat
 na:Option Addr
 nc:Nat
 ea:Option Addr
 ec:Nat
 ra:Option Addr
 rc:Nat
abbrev Qan (g:Ag) (p:Pl):Array Value:=#[.int .i64 g.k,.int .u64 g.s,.int .i64 g.h,.int .u64 g.l,.int .i64 g.a,.int .i64 g.t,.int .u64 g.z,.slice p.pa g.P.length p.pc,.slice p.na g.N.length p.nc,.int .i64 g.x,.int .u64 g.y,.slice p.ea g.E.length p.ec,.slice p.ra g.R.length p.rc]
structure AgAt (w:World) (g:Ag) (p:Pl):Prop where
 P:QaJ w p.pa g.P
 N:QaJ w p.na g.N
 E:QaH .u64 w p.ea g.E
 R:QaH .i64 w p.ra g.R
variable {g:Ag}
variable {p:Pl}
theorem Qbj (h:AgAt w g p) (hb:Below w.heap.size w w'):AgAt w' g p:=⟨Qak h.P hb,Qak h.N hb,Qah h.E hb,Qah h.R hb⟩
structure AgSm (g:Ag):Prop where
 P:g.P.length<=1048576
 N:g.N.length<=1048576
 E:g.E.length<=1048576
 R:g.R.length<=1048576
structure AgLen (g:Ag):Prop where
 P:g.P.length<=maxLen
 N:g.N.length<=maxLen
 E:g.E.length<=maxLen
 R:g.R.length<=maxLen
abbrev Qgm (w:World) (b:Nat) (g:Ag) (p:Pl):Prop:=
 w.cell? ⟨b,0,none⟩=some (.int .i64 g.k)/\w.cell? ⟨b,1,none⟩=some (.int .u64 g.s)/\w.cell? ⟨b,2,none⟩=some (.int .i64 g.h)/\w.cell? ⟨b,3,none⟩=some (.int .u64 g.l)/\w.cell? ⟨b,4,none⟩=some (.int .i64 g.a)/\w.cell? ⟨b,5,none⟩=some (.int .i64 g.t)/\w.cell? ⟨b,6,none⟩=some (.int .u64 g.z)/\w.cell? ⟨b,7,none⟩=some (.slice p.pa g.P.length p.pc)/\w.cell? ⟨b,8,none⟩=some (.slice p.na g.N.length p.nc)/\w.cell? ⟨b,9,none⟩=some (.int .i64 g.x)/\w.cell? ⟨b,10,none⟩=some (.int .u64 g.y)/\w.cell? ⟨b,11,none⟩=some (.slice p.ea g.E.length p.ec)/\w.cell? ⟨b,12,none⟩=some (.slice p.ra g.R.length p.rc)
theorem Qbh {b:Nat} (k:Qgm w b g p) (hb:Below w.heap.size w w'):Qgm w' b g p:=by
 obtain ⟨k0,k1,k2,k3,k4,k5,k6,k7,k8,k9,ac,ab,aa⟩:=k;exact ⟨Qab hb k0,Qab hb k1,Qab hb k2,Qab hb k3,Qab hb k4,Qab hb k5,Qab hb k6,Qab hb k7,Qab hb k8,Qab hb k9,Qab hb ac,Qab hb ab,Qab hb aa⟩
theorem Qkc (w:World) (t:TypeId) (g:Ag) (p:Pl):Qgm (w.alloc (.cells (Qan g p) t)) w.heap.size g p:=by
 have hb:=heap_alloc_new w (.cells (Qan g p) t);have h:∀ j,(w.alloc (.cells (Qan g p) t)).cell? ⟨w.heap.size,j,none⟩=(Qan g p)[j]?:=fun j=>cell_of_row _ w.heap.size j _ _ (0,0) hb;exact ⟨by rw [h];rfl,by rw [h];rfl,by rw [h];rfl,by rw [h];rfl,by rw [h];rfl,by rw [h];rfl,by rw [h];rfl,by rw [h];rfl,by rw [h];rfl,by rw [h];rfl,by rw [h];rfl,by rw [h];rfl,by rw [h];rfl⟩
abbrev plNew (g:Ag) (gp gn ge gr:Nat):Pl:=⟨some ⟨gp,0,none⟩,g.P.length,some ⟨gn,0,none⟩,g.N.length,some ⟨ge,0,none⟩,g.E.length,some ⟨gr,0,none⟩,g.R.length⟩
structure AgOwn (w:World) (B:Nat) (g:Ag) (p:Pl):Prop where
 P:w.ownsRow B 176 2 (.slice p.pa g.P.length p.pc) g.P.length (fl Qc2 g.P)
 N:w.ownsRow B 176 2 (.slice p.na g.N.length p.nc) g.N.length (fl Qc2 g.N)
 E:w.ownsRow B 69 1 (.slice p.ea g.E.length p.ec) g.E.length (g.E.map (Value.int .u64))
 R:w.ownsRow B 2 1 (.slice p.ra g.R.length p.rc) g.R.length (g.R.map (Value.int .i64))
theorem Qs9 (a p b q:Int) (w:World):(binOp .eql 81 (.agg #[.int .i64 a,.int .u64 p]) (.agg #[.int .i64 b,.int .u64 q])).run prog w=.ok (.bool (a == b && p == q)) w:=by
 have hS:prog.underlying 81=some (.struct (prog.fieldsOf 81)):=by kernel_rfl
 have hp:prog.stoodInHeld 81=false:=by kernel_rfl
 rw [run_eql_struct,show (10000:Nat)=9999+1 from rfl,run_equalIn_agg w 9999 81 _ _ hS hp];simp only [Program.fieldsOf,underlying81];go_simp;by_cases h1:a=b <;> by_cases h2:p=q <;> simp [h1,h2]
theorem Qty (a p b q:Int) (w:World):(binOp .neq 176 (.agg #[.int .i64 a,.int .u64 p]) (.agg #[.int .i64 b,.int .u64 q])).run prog w=.ok (.bool (!(a == b && p == q))) w:=by
 have hS:prog.underlying 176=some (.struct (prog.fieldsOf 176)):=by kernel_rfl
 have hp:prog.stoodInHeld 176=false:=by kernel_rfl
 rw [run_neq_struct,show (10000:Nat)=9999+1 from rfl,run_equalIn_agg w 9999 176 _ _ hS hp];simp only [Program.fieldsOf,underlying176];go_simp;by_cases h1:a=b <;> by_cases h2:p=q <;> simp [h1,h2]
theorem QaS (h:a=b):Ending.returned (.bool a)=.returned (.bool b):=by rw [h]
variable {L M:List Bn}
theorem QpH {k:Nat} {a u a' u':Int} (h:L[k]?=some (a,u)) (g:M[k]?=some (a',u')):decide (L.drop k=M.drop k)=((a == a' && u == u') && decide (L.drop (k+1)=M.drop (k+1))):=by
 have hk:=(List.getElem?_eq_some_iff.1 h).1;have gk:=(List.getElem?_eq_some_iff.1 g).1;rw [List.drop_eq_getElem_cons hk,(List.getElem?_eq_some_iff.1 h).2,List.drop_eq_getElem_cons gk,(List.getElem?_eq_some_iff.1 g).2];by_cases h1:a=a' <;> by_cases h2:u=u' <;> simp [h1,h2]
def QcN (z h l:Int) (P N:List Bn) (z' h' l':Int) (P' N':List Bn):Bool:=(z == z') && (h == h' && l == l') && decide (P=P') && decide (N=N')
theorem Qcb {bo:Option Addr} (c c' n m:Nat) (hn:L.length=n) (hm:M.length=m) (ln:n<=1048576) (lm:m<=1048576) (hA:QaJ w ao L) (hB:QaJ w bo M) :
  Calls prog 402 #[.slice ao n c,.slice bo m c'] w fun e w'=>e=.returned (.bool (decide (L=M)))/\Below w.heap.size w w':=by
 have HN:=Qaa hn;have HM:=Qaa hm;have HA:=Qaa hA;have ag:=Qaa hB;clear hn hm hA hB;by_cases af:n=m
 ·subst af
  go_enter func402,ntmps402;go_wp2
  go_loopw [5] (fun i wr=>Below w.heap.size w wr/\∃ k:Nat,k<=n/\i=.int .i64 k/\Hid (decide (L=M)=decide (L.drop k=M.drop k))) (fun i wr=>n - (Go.RowKit.intOf i).toNat)
  case atStart=>exact ⟨Below.refl _ _,0,Nat.zero_le _,rfl,(rfl:decide (L=M)=decide (L.drop 0=M.drop 0))⟩
  case round=>
   obtain ⟨ab,k,hk,rfl,HR⟩:=hrel;have HB:=Qaa ab;by_cases am:k<n
   ·obtain ⟨⟨a,u⟩,ad⟩:∃ a,L[k]?=some a:=⟨L[k]'(by have:=HN.out;omega),List.getElem?_eq_getElem _⟩
    obtain ⟨⟨a',u'⟩,ae⟩:∃ a,M[k]?=some a:=⟨M[k]'(by have:=HM.out;omega),List.getElem?_eq_getElem _⟩;obtain ⟨b,an,rfl,ac⟩:=HA.out (by have:=HN.out;omega);obtain ⟨b',ah,rfl,aa⟩:=ag.out (by have:=HM.out;omega);have aj:=Qab ab (ac k _ ad).1;have ak:=Qab ab (ac k _ ad).2;have al:=Qab ab (aa k _ ae).1;have ap:=Qab ab (aa k _ ae).2;have HD:=Qaa (QpH ad ae);have hq:=Qty a u a' u';clear ab ad ae ac aa;by_cases he:a=a'/\u=u'
    ·have hb:(a == a' && u == u')=true:=by simp [he.1,he.2]
     have HE:Hid (decide (L=M)=decide (L.drop (k+1)=M.drop (k+1))):=by
      refine (?_:decide (L=M)=decide (L.drop (k+1)=M.drop (k+1)));rw [HR.out,HD.out,hb,Bool.true_and]
     rw [hb] at hq;clear he hb;go_wp2
     go_quiet (fail)
     go_wp2;go_roundw
     case rel=>exact ⟨Qar HB _,k+1,by omega,by go_num,HE⟩
     case measure=>simp [Go.RowKit.intOf];omega
    ·have hb:(a == a' && u == u')=false:=by
      rw [Bool.eq_false_iff];intro hh;simp at hh;exact he hh
     have HE:Hid (false=decide (L=M)):=by
      refine (?_:false=decide (L=M));rw [HR.out,HD.out,hb,Bool.false_and]
     rw [hb] at hq;clear he hb;go_wp2
     go_quiet (fail)
     go_wp2;go_ret;exact ⟨QaS HE,Qar HB _⟩
   ·have HE:Hid (true=decide (L=M)):=by
     refine (?_:true=decide (L=M));rw [HR.out,List.drop_eq_nil_of_le (by have:=HN.out;omega),List.drop_eq_nil_of_le (by have:=HM.out;omega)];rfl
    clear ab;go_wp2;go_ret;exact ⟨QaS HE,HB⟩
 ·have ai:((n:Int) == (m:Int))=false:=beq_eq_false_iff_ne.2 (by omega)
  have HE:Hid (false=decide (L=M)):=by
   refine (?_:false=decide (L=M));rw [eq_comm,decide_eq_false_iff_not];intro e;have:=HN.out;have:=HM.out;rw [e] at *; omega
  go_enter func402,ntmps402;go_wp2;go_ret;exact ⟨QaS HE,Below.refl _ _⟩
theorem Qgz {z h l z' h' l':Int} {pa na pb nb:Option Addr} {pn pc nn nc pm pd nm nd:Nat} {P N P' N':List Bn} (hp:P.length=pn) (hn:N.length=nn) (hp':P'.length=pm) (hn':N'.length=nm) (lp:pn<=1048576) (ln:nn<=1048576) (lp':pm<=1048576) (ln':nm<=1048576) (hP:QaJ w pa P) (hN:QaJ w na N) (hP2:QaJ w pb P') (hN2:QaJ w nb N') :
  Calls prog 353 #[.agg #[.int .u64 z,.slice pa pn pc,.slice na nn nc,.int .i64 h,.int .u64 l],.agg #[.int .u64 z',.slice pb pm pd,.slice nb nm nd,.int .i64 h',.int .u64 l']] w fun e w'=>e=.returned (.bool (QcN z h l P N z' h' l' P' N'))/\Below w.heap.size w w':=by
 have HP:=Qaa hP;have HN:=Qaa hN;have ad:=Qaa hP2;have af:=Qaa hN2;clear hP hN hP2 hN2;have hW:∀ o1 o2,Below w.heap.size w ((w.alloc o1).alloc o2):=fun o1 o2=>((Below.refl _ _).alloc (Nat.le_refl _) _).alloc (by simp) _;have HW:=Qaa hW;clear hW;have hq:=Qs9 h l h' l';by_cases h1:z=z'
 ·subst h1
  cases hb:(h == h' && l == l') with
  | true=>
   rw [hb] at hq;by_cases h3:P=P'
   ·have d3:decide (P=P')=true:=decide_eq_true h3
    have HE:Hid (decide (N=N')=QcN z h l P N z h' l' P' N'):=by
     refine (?_:decide (N=N')=QcN z h l P N z h' l' P' N');simp only [QcN,hb,d3,beq_self_eq_true,Bool.true_and]
    clear hb h3;go_enter func353,ntmps353;go_wp2_with fail;refine (Qcb _ _ _ _ hp hp' lp lp' (Qak HP (HW.out _ _)) (Qak ad (HW.out _ _))).mono ?_;rintro e w1 ⟨rfl,aa⟩;rw [d3];have ae:=(HW.out _ _).trans (aa.mono (by simp <;> omega));obtain ⟨ag,_⟩:=Qos aa;simp at ag;have ab:=Qaa ae;clear aa ae;go_wp2_with fail;refine (Qcb _ _ _ _ hn hn' ln ln' (Qak HN ab) (Qak af ab)).mono ?_;rintro e w2 ⟨rfl,ac⟩;have ah:=Qaa (Qac ab ac);clear ac;go_wp2;go_ret;exact ⟨QaS HE,ah⟩
   ·have d3:decide (P=P')=false:=decide_eq_false h3
    have HE:Hid (false=QcN z h l P N z h' l' P' N'):=by
     refine (?_:false=QcN z h l P N z h' l' P' N');simp only [QcN,d3,Bool.and_false,Bool.false_and]
    clear hb h3;go_enter func353,ntmps353;go_wp2_with fail;refine (Qcb _ _ _ _ hp hp' lp lp' (Qak HP (HW.out _ _)) (Qak ad (HW.out _ _))).mono ?_;rintro e w1 ⟨rfl,aa⟩;rw [d3];have ab:=Qaa ((HW.out _ _).trans (aa.mono (by simp <;> omega)));clear aa;go_wp2;go_ret;exact ⟨QaS HE,ab⟩
  | false=>
   rw [hb] at hq
   have HE:Hid (false=QcN z h l P N z h' l' P' N'):=by
    refine (?_:false=QcN z h l P N z h' l' P' N');simp only [QcN,hb,Bool.and_false,Bool.false_and]
   clear hb;go_enter func353,ntmps353;go_wp2;go_ret;exact ⟨QaS HE,HW.out _ _⟩
 ·have d1:(z == z')=false:=beq_eq_false_iff_ne.2 h1
  have HE:Hid (false=QcN z h l P N z' h' l' P' N'):=by
   refine (?_:false=QcN z h l P N z' h' l' P' N');simp only [QcN,d1,Bool.false_and]
  clear h1;go_enter func353,ntmps353;go_wp2;go_ret;exact ⟨QaS HE,HW.out _ _⟩
def sameH (E R E' R':List Int):Bool:=decide (E=E') && decide (R=R')
theorem Qf0 (a p b q:Int) (w:World):(binOp .neq 81 (.agg #[.int .i64 a,.int .u64 p]) (.agg #[.int .i64 b,.int .u64 q])).run prog w=.ok (.bool (!(a == b && p == q))) w:=by
 have hS:prog.underlying 81=some (.struct (prog.fieldsOf 81)):=by kernel_rfl
 have hp:prog.stoodInHeld 81=false:=by kernel_rfl
 rw [run_neq_struct,show (10000:Nat)=9999+1 from rfl,run_equalIn_agg w 9999 81 _ _ hS hp];simp only [Program.fieldsOf,underlying81];go_simp;by_cases h1:a=b <;> by_cases h2:p=q <;> simp [h1,h2]
def QoK (g g':Ag):Bool:=(g.k == g'.k) && (g.s == g'.s) && (g.h == g'.h && g.l == g'.l) && (g.a == g'.a) && (g.t == g'.t) && QcN g.z g.x g.y g.P g.N g'.z g'.x g'.y g'.P g'.N && sameH g.E g.R g'.E g'.R
end Go.Proofs.YtdbaabbmcfnjbaaGreatDoor
