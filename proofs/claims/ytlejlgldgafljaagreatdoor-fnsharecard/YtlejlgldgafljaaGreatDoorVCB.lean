/-
 Parts.
-/
import Derived.Test.YtlejlgldgafljaaGreatDoorVCA
import Derived.Lib.Bytealg
import Derived.Lib.Walk
import Derived.Test.YtlejlgldgafljaaGreatDoorVSC
set_option maxRecDepth 10000
set_option maxHeartbeats 8000000
set_option linter.all false
namespace Go.Proofs.YtlejlgldgafljaaGreatDoor
open Go.ChangeShapes Go.WideShapes Go.ChangeAt Go.RowKit Go.PlainAid Go.Lib Tryz
def cAh (c d:Ce):Bool:=decide (c.n<d.n) || ((c.n == d.n) && QaM c.s d.s)
def Qjn (n:Int):Bool:=decide (0<=n) && decide (n<=1000000000)
noncomputable def cRi (c:Ce):Bool:=Qjn c.n && Qbt c.s && agB c.g && !(c.g.s == 0)
noncomputable def cRs:Option Ce->List Ce->Bool
 | _,[]=>true
 | none,c :: L=>cRi c && cRs (some c) L
 | some b,c :: L=>(cRi c && cAh b c) && cRs (some c) L
def Qdd (L:List Ce) (k:Nat):Option Ce:=if k=0 then none else L[k - 1]?
variable {L:List Ce}
variable {c c':Ce}
theorem Qmh (hc:L[0]?=some c):cRs (Qdd L 0) (L.drop 0)=(cRi c && cRs (Qdd L 1) (L.drop 1)):=by
 cases L with
 | nil=>cases hc
 | cons d M=>
  obtain rfl:d=c:=by simpa using hc
  simp [Qdd,cRs]
theorem Ql2 {k:Nat} {b:Ce} (hb:L[k]?=some b) (hc:L[k+1]?=some c):cRs (Qdd L (k+1)) (L.drop (k+1))=((cRi c && cAh b c) && cRs (Qdd L (k+1+1)) (L.drop (k+1+1))):=by
 have h1:=(ZZd.1 hc).1;rw [List.drop_eq_getElem_cons h1,(List.getElem?_eq_some_iff.1 hc).2];have e1:Qdd L (k+1)=some b:=by unfold Qdd;rw [if_neg (by omega)];simpa using hb
 have e2:Qdd L (k+1+1)=some c:=by unfold Qdd;rw [if_neg (by omega)];simpa using hc
 rw [e1,e2]
 rfl
noncomputable def csR (L:List Ce):Bool:=decide (L.length<=60) && cRs none L
theorem QlB (h:c.key=c'.key):cRi c=cRi c':=by
 obtain ⟨q,rfl⟩:=Qia h
 rfl
theorem QpC {d d':Ce} (h:c.key=c'.key) (k:d.key=d'.key):cAh c d=cAh c' d':=by
 obtain ⟨q,rfl⟩:=Qia h;obtain ⟨q',rfl⟩:=Qia k
 rfl
theorem QlJ:∀ {L L':List Ce} {b b':Option Ce},b.map Ce.key=b'.map Ce.key->L.map Ce.key=L'.map Ce.key->cRs b L=cRs b' L'
 | [],[],b,b',_,_=>by cases b <;> cases b' <;> rfl
 | c :: L,c' :: L',none,none,_,h=>by
  simp only [List.map_cons,List.cons.injEq] at h;unfold cRs;rw [QlB h.1,QlJ (b:=some c) (b':=some c') (by simp [h.1]) h.2]
 | c :: L,c' :: L',some b,some b',k,h=>by
  simp only [List.map_cons,List.cons.injEq] at h;simp only [Option.map_some,Option.some.injEq] at k;unfold cRs;rw [QlB h.1,QpC k h.1,QlJ (b:=some c) (b':=some c') (by simp [h.1]) h.2]
 | _ :: _,_ :: _,none,some _,k,_=>by simp at k
 | _ :: _,_ :: _,some _,none,k,_=>by simp at k
 | [],_ :: _,_,_,_,h=>by simp at h
 | _ :: _,[],_,_,_,h=>by simp at h
theorem QoI {L':List Ce} (h:L.map Ce.key=L'.map Ce.key):csR L=csR L':=by
 have e1:L.length=L'.length:=by have:=congrArg List.length h;simpa using this
 unfold csR;rw [e1,QlJ rfl h]
def Ql5 (a b:ByteArray):Int:=Lib.compareBytes a.data.toList b.data.toList
theorem Qqr:∀ a b:List UInt8,decide (Lib.compareBytes a b<0)=Op.bytesLess a b
 | [],[]=>by simp [Lib.compareBytes,Op.bytesLess]
 | [],_ :: _=>by simp [Lib.compareBytes,Op.bytesLess]
 | _ :: _,[]=>by simp [Lib.compareBytes,Op.bytesLess]
 | a :: x,b :: y=>by
  unfold Lib.compareBytes Op.bytesLess;by_cases h:a<b
  ·simp [h]
  ·by_cases h2:b<a
   ·have:a≠b:=fun e=>by subst e;exact h h2
    simp [h,h2,this]
   ·have e:a=b:=by
     simp only [UInt8.lt_iff_toNat_lt] at h h2;exact UInt8.toNat_inj.1 (by omega)
    simp [h,h2,e,Qqr x y]
theorem QtE (a b:ByteArray):decide (Ql5 a b<0)=QaM a b:=by
 unfold Ql5 QaM;rw [ByteArray.toList_eq,ByteArray.toList_eq];exact Qqr _ _
set_option maxRecDepth 100000 in
theorem Qhf (a b:ByteArray) (w:World) :
  Calls prog 184 #[.string a,.string b] w fun e w'=>e=.returned (.int .i64 (Ql5 a b))/\w'=w:=by
 go_enter func184,ntmps184;go_wp2;rw [run_callFunc_extern func202 (by kernel_rfl) (by kernel_rfl) (by kernel_rfl) (e:=Extern.BytealgCompare.compare) (by kernel_rfl),Lib.run_compareString];simp only [Result.andThen];rw [Oper.upon_value];go_wp2;go_ret;exact ⟨rfl,rfl⟩
theorem Qkf (a b:ByteArray) (w:World) :
  Calls prog 157 #[.string a,.string b] w fun e w'=>e=.returned (.int .i64 (Ql5 a b))/\w'=w:=by
 go_enter func157,ntmps157;go_wp2_with (go_at_call 184;refine (Qhf _ _ _).mono ?_;rintro e w' ⟨rfl,rfl⟩);go_ret;exact ⟨rfl,rfl⟩
def Qjo (a b:Int):Int:=if a<b then -1 else if b<a then 1 else 0
def Qp0 (n:Int) (s:ByteArray) (n':Int) (s':ByteArray):Int:=if Qjo n n'=0 then Ql5 s s' else Qjo n n'
theorem Qpz (c d:Ce):decide (0<=Qp0 c.n c.s d.n d.s)=!cAh c d:=by
 unfold Qp0 cAh Qjo;have h:=QtE c.s d.s;by_cases h1:c.n<d.n
 ·simp [h1]
 ·by_cases h2:d.n<c.n
  ·have h3:¬ c.n=d.n:=by omega
   simp [h1,h2,h3]
  ·have h3:c.n=d.n:=by omega
   rw [h3];simp only [Int.lt_irrefl,if_false,if_true,decide_false,Bool.false_or,beq_self_eq_true,Bool.true_and];rw [<- h];by_cases q:Ql5 c.s d.s<0
   ·simp [q]
   ·rw [decide_eq_false q,decide_eq_true (by omega)];rfl
theorem Qib {a b:Int} (h:a=b):Ending.returned (.int .i64 a)=.returned (.int .i64 b):=by rw [h]
theorem QkU (a:Int) (w:World):Calls prog 183 #[.int .i64 a] w fun e w'=>e=.returned (.bool false)/\w'=w:=by
 have e1:(a != a)=false:=by simp
 go_enter func183,ntmps183;go_wp2;go_ret;exact ⟨rfl,rfl⟩
theorem QfK (a b:Int) (w:World) :
  Calls prog 156 #[.int .i64 a,.int .i64 b] w fun e w'=>e=.returned (.int .i64 (Qjo a b))/\w'=w:=by
 have e1:(a != a)=false:=by simp
 have e2:(b != b)=false:=by simp
 by_cases h1:a<b
 ·have HE:Hid (Qjo a b=-1):=(if_pos h1:Qjo a b=-1)
  go_enter func156,ntmps156;go_wp2_with (go_at_call 183;refine (QkU _ _).mono ?_;rintro e w1 ⟨rfl,aa⟩;obtain rfl:=aa);go_ret;exact ⟨Qib HE.symm,rfl⟩
 ·by_cases h2:b<a
  ·have HE:Hid (Qjo a b=1):=((if_neg h1).trans (if_pos h2):Qjo a b=1)
   go_enter func156,ntmps156;go_wp2_with (go_at_call 183;refine (QkU _ _).mono ?_;rintro e w1 ⟨rfl,aa⟩;obtain rfl:=aa);go_ret;exact ⟨Qib HE.symm,rfl⟩
  ·have HE:Hid (Qjo a b=0):=((if_neg h1).trans (if_neg h2):Qjo a b=0)
   go_enter func156,ntmps156;go_wp2_with (go_at_call 183;refine (QkU _ _).mono ?_;rintro e w1 ⟨rfl,aa⟩;obtain rfl:=aa);go_ret;exact ⟨Qib HE.symm,rfl⟩
def orI (x y:Int):Int:=if x=0 then y else x
variable {w:World}
theorem Qok {b:Nat} (x y:Int) (h0:w.cell? ⟨b,0,none⟩=some (.int .i64 x)) (h1:w.cell? ⟨b,1,none⟩=some (.int .i64 y)) :
  Calls prog 155 #[.slice (some ⟨b,0,none⟩) 2 2] w fun e w'=>e=.returned (.int .i64 (orI x y))/\w'=w:=by
 have H0:=Qaa h0;have H1:=Qaa h1;clear h0 h1;go_enter func155,ntmps155;go_wp2
 go_loopw [8] (fun i wr=>(i=.int .i64 0∨(i=.int .i64 1/\Hid (x=0))∨(i=.int .i64 2/\Hid (x=0/\y=0)))/\wr=w) (fun i wr=>2 - (Go.RowKit.intOf i).toNat)
 case atStart=>exact ⟨.inl rfl,rfl⟩
 case round=>
  obtain ⟨hi,rfl⟩:=hrel;rcases hi with rfl | ⟨rfl,HX⟩ | ⟨rfl,HX⟩
  ·have h0:=H0.out
   by_cases hx:x=0
   ·have HX:=Qaa hx
    have bx:(x != 0)=false:=by simp [hx]
    clear hx;go_wp2;go_roundw
    case rel=>exact ⟨.inr (.inl ⟨by go_num,HX⟩),by first | rfl | trivial⟩
    case measure=>simp [zI]
   ·have bx:(x != 0)=true:=by simp [hx]
    have HF:Hid (orI x y=x):=(if_neg hx:orI x y=x);clear hx;go_wp2;go_ret;exact ⟨Qib HF.symm,rfl⟩
  ·have h1:=H1.out
   have HF:Hid (orI x y=y):=(if_pos HX.out:orI x y=y);by_cases hy:y=0
   ·have HY:=Qaa (And.intro HX hy)
    have aa:(y != 0)=false:=by simp [hy]
    clear hy;go_wp2;go_roundw
    case rel=>exact ⟨.inr (.inr ⟨by go_num,HY⟩),by first | rfl | trivial⟩
    case measure=>simp [zI]
   ·have aa:(y != 0)=true:=by simp [hy]
    clear hy;go_wp2;go_ret;exact ⟨Qib HF.symm,rfl⟩
  ·have HF:Hid (orI x y=0):=(by unfold orI;rw [if_pos HX.1];exact HX.2:orI x y=0)
   go_wp2;go_ret;exact ⟨Qib HF.symm,rfl⟩
theorem Qis (n:Int) (s:ByteArray) (n':Int) (s':ByteArray) (w:World) :
  Calls prog 108 #[.agg #[.int .i64 n,.string s],.agg #[.int .i64 n',.string s']] w fun e w'=>e=.returned (.int .i64 (Qp0 n s n' s'))/\Bw w w':=by
 have ae:Hid (∀ o o',Bw w ((w.alloc o).alloc o')):=fun o o'=>((Below.refl _ _).alloc (Nat.le_refl _) o).alloc (by simp) o'
 have HN:Hid (∀ T,((w.alloc (.cells #[.int .i64 n,.string s] T)).alloc (.cells #[.int .i64 n',.string s'] T)).heap[w.heap.size]?=some (.cells #[.int .i64 n,.string s] T (0,0))/\((w.alloc (.cells #[.int .i64 n,.string s] T)).alloc (.cells #[.int .i64 n',.string s'] T)).heap[w.heap.size+1]?=some (.cells #[.int .i64 n',.string s'] T (0,0))):=fun T=>by
  have k0:=ZZk w (.cells #[.int .i64 n,.string s] T);have k1:=ZZk (w.alloc (.cells #[.int .i64 n,.string s] T)) (.cells #[.int .i64 n',.string s'] T);simp only [World.size_alloc] at k1;exact ⟨(((Below.refl (w.alloc (.cells #[.int .i64 n,.string s] T)).heap.size (w.alloc (.cells #[.int .i64 n,.string s] T))).alloc (Nat.le_refl _) (.cells #[.int .i64 n',.string s'] T)).block _ (by simp)).trans k0,k1⟩
 go_enter func108,ntmps108;go_wp2_with fail;have HR:=Qaa (HN.out 151);have ad:=Qaa (ae.out (.cells #[.int .i64 n,.string s] 151) (.cells #[.int .i64 n',.string s'] 151));have ac:((w.alloc (.cells #[.int .i64 n,.string s] 151)).alloc (.cells #[.int .i64 n',.string s'] 151)).heap.size=w.heap.size+1+1:=by simp
 generalize (w.alloc _).alloc _=W0 at HR ad ac ⊢;clear HN ae;have R0:(fun W=>W.heap[w.heap.size]?=some (.cells #[.int .i64 n,.string s] 151 (0,0))/\W.heap[w.heap.size+1]?=some (.cells #[.int .i64 n',.string s'] 151 (0,0))) W0.drew:=HR.out;refine Qal (fun W=>W.heap[w.heap.size]?=some (.cells #[.int .i64 n,.string s] 151 (0,0))/\W.heap[w.heap.size+1]?=some (.cells #[.int .i64 n',.string s'] 151 (0,0))) 12 (by kernel_rfl) ?_;refine tkL 0 (.pointer (some ⟨w.heap.size,0,none⟩)) R0 (fun W hW=>?_) ?_
 ·have x0:=QaX hW.1 0 rfl
  have x1:=Qah hW.1 1 rfl;have y0:=Qah hW.2 0 rfl;have y1:=Qah hW.2 1 rfl;clear hW;go_simp
 refine tkL 1 (.int .i64 n) R0 (fun W hW=>?_) ?_
 ·have x0:=QaX hW.1 0 rfl
  have x1:=Qah hW.1 1 rfl;have y0:=Qah hW.2 0 rfl;have y1:=Qah hW.2 1 rfl;clear hW;go_simp
 refine tkL 2 (.pointer (some ⟨w.heap.size+1,0,none⟩)) R0 (fun W hW=>?_) ?_
 ·have x0:=QaX hW.1 0 rfl
  have x1:=Qah hW.1 1 rfl;have y0:=Qah hW.2 0 rfl;have y1:=Qah hW.2 1 rfl;clear hW;go_simp
 simp only [sX];refine tkL 3 (.int .i64 n') R0 (fun W hW=>?_) ?_
 ·have x0:=QaX hW.1 0 rfl
  have x1:=Qah hW.1 1 rfl;have y0:=Qah hW.2 0 rfl;have y1:=Qah hW.2 1 rfl;clear hW;go_simp
 refine tkL 5 (.pointer (some ⟨w.heap.size,1,none⟩)) R0 (fun W hW=>?_) ?_
 ·have x0:=QaX hW.1 0 rfl
  have x1:=Qah hW.1 1 rfl;have y0:=Qah hW.2 0 rfl;have y1:=Qah hW.2 1 rfl;clear hW;go_simp
 refine tkL 6 (.string s) R0 (fun W hW=>?_) ?_
 ·have x0:=QaX hW.1 0 rfl
  have x1:=Qah hW.1 1 rfl;have y0:=Qah hW.2 0 rfl;have y1:=Qah hW.2 1 rfl;clear hW;go_simp
 simp only [sX];refine tkL 7 (.pointer (some ⟨w.heap.size+1,1,none⟩)) R0 (fun W hW=>?_) ?_
 ·have x0:=QaX hW.1 0 rfl
  have x1:=Qah hW.1 1 rfl;have y0:=Qah hW.2 0 rfl;have y1:=Qah hW.2 1 rfl;clear hW;go_simp
 refine tkL 8 (.string s') R0 (fun W hW=>?_) ?_
 ·have x0:=QaX hW.1 0 rfl
  have x1:=Qah hW.1 1 rfl;have y0:=Qah hW.2 0 rfl;have y1:=Qah hW.2 1 rfl;clear hW;go_simp
 simp only [sX];refine onE 4 fun K hK=>?_;go_simp;refine (QfK n n' _).mono ?_;rintro e wz ⟨rfl,aa⟩;obtain rfl:=aa.symm;dsimp only;refine gK hK R0 ?_
 try simp only [sX]
 refine onE 9 fun K hK=>?_;go_simp;refine (Qkf s s' _).mono ?_;rintro e wz ⟨rfl,aa⟩;obtain rfl:=aa.symm;dsimp only;refine gK hK R0 ?_
 try simp only [sX]
 have k2:=ZZk W0 (.cells #[.int .i64 (Qjo n n'),.int .i64 (Ql5 s s')] 3);rw [ac] at k2;have k3:(W0.alloc (.cells #[.int .i64 (Qjo n n'),.int .i64 (Ql5 s s')] 3)).drew.heap[w.heap.size+1+1]?=some (.cells #[.int .i64 (Qjo n n'),.int .i64 (Ql5 s s')] 3 (0,0)):=k2;have HC:=Qaa (And.intro (QaX k3 0 rfl) (QaX k3 1 rfl));clear k2 k3;have ab:Bw W0 (W0.alloc (.cells #[.int .i64 (Qjo n n'),.int .i64 (Ql5 s s')] 3)).drew:=((ZZb _ _).alloc (ZZa _) _).drew;have R1:=And.intro ((ab.block w.heap.size (by omega)).trans HR.1) ((ab.block (w.heap.size+1) (by omega)).trans HR.2);have af:=Qaa (Qac ad ab);clear ab;refine onE 10 fun K hK=>?_;go_simp;refine gK hK R1 ?_
 try simp only [sX]
 refine onE 11 fun K hK=>?_;go_simp;refine (Qok _ _ HC.1 HC.2).mono ?_;rintro e wz ⟨rfl,aa⟩;obtain rfl:=aa.symm;dsimp only;refine gK hK R1 ?_
 try simp only [sX]
 refine onE 12 fun K hK=>?_;go_simp;refine hK.out _ _ (fun h=>absurd rfl h) ?_
 try simp only [sX]
 refine dnE ?_ _;go_wp2;go_ret;exact ⟨rfl,af⟩
theorem QfL {a b:Bool} (h:a=b):Ending.returned (.bool a)=.returned (.bool b):=by rw [h]
theorem Qio (n:Int) (w:World):Calls prog 90 #[.int .i64 n] w fun e w'=>e=.returned (.bool (Qjn n))/\w'=w:=by
 by_cases h1:0<=n <;> by_cases h2:n<=1000000000 <;> (go_enter func90,ntmps90;go_wp2;go_ret;exact ⟨by simp [Qjn,h1,h2],rfl⟩)
theorem QcB (c:Ce) (ok:AgOk c.g) (sm:AgSm c.g) (hs:c.s.size<=maxLen) (hm:MX w) (hA:AgAt w c.g c.p) :
  Calls prog 171 #[.agg (Qan c)] w fun e w'=>e=.returned (.bool (cRi c))/\Bw w w':=by
 have ae:Bw w (w.alloc (.cells (Qan c) 75)):=bA;have K0:=Qaa (Qg8 w 75 c);have HA:=Qaa hA;have OK:=Qaa ok;have SM:=Qaa sm;have ak:=Qaa (hm.past ae);have ag:=Qaa ae;clear hA ok sm hm ae;go_enter func171,ntmps171;go_wp2_with fail;generalize w.alloc _=W0 at K0 ak ag ⊢;refine (Qio _ _).mono ?_;rintro e wz ⟨rfl,al⟩;obtain rfl:=al.symm;obtain ⟨x0,x1,x2,x3,x4,x5,x6,x7,x8,x9,ah,af,ac,ad,ai⟩:=K0.out
 cases h1:Qjn c.n with
 | false=>
  have HE:Hid (false=cRi c):=(by simp [cRi,h1]:false=cRi c);go_wp2;go_ret;exact ⟨QfL HE,ag⟩
 | true=>
  go_wp2_with fail;clear x0 x1 x2 x3 x4 x5 x6 x7 x8 x9 ah af ac ad ai;refine (Qgn c.s ak hs).mono ?_;rintro e w1 ⟨rfl,aa⟩;obtain ⟨x0,x1,x2,x3,x4,x5,x6,x7,x8,x9,ah,af,ac,ad,ai⟩:=Qas K0 aa;have ab:=Qaa (Qac ag aa);have an:=Qaa aa;clear aa
  cases h2:Qbt c.s with
  | false=>
   have HE:Hid (false=cRi c):=(by simp [cRi,h2]:false=cRi c);go_wp2;go_ret;exact ⟨QfL HE,ab⟩
  | true=>
   by_cases h3:c.g.s=0
   ·have HE:Hid (false=cRi c):=(by simp [cRi,h3]:false=cRi c)
    have d3:decide (0<c.g.s)=false:=ZZg (by omega);clear h3;go_wp2;go_ret;exact ⟨QfL HE,ab⟩
   ·have d3:decide (0<c.g.s)=true:=decide_eq_true (by have:=OK.s;unfold U64 at this;omega)
    have HE:Hid (agB c.g=cRi c):=(by simp [cRi,h1,h2,h3]:agB c.g=cRi c);clear h3;go_wp2_with fail;clear x0 x1 x2 x3 x4 x5 x6 x7 x8 x9 ah af ac ad ai;refine (QjZ (g:=c.g) (p:=c.p) OK SM (QaI HA ab)).mono ?_;rintro e w2 ⟨rfl,aj⟩;obtain ⟨B,hB⟩:∃ B,agB c.g=B:=⟨_,rfl⟩;rw [ag_one,hB];have HF:Hid (B=cRi c):=by rw [<- hB];exact HE
    have am:=Qaa (Qac ab aj);clear aj hB HE
    cases B <;> (go_wp2;go_ret;exact ⟨QfL HF,am⟩)
theorem Qd3 (c d:Ce) :
  Calls prog 77 #[.agg (Qan c),.agg (Qan d)] w fun e w'=>e=.returned (.int .i64 (Qp0 c.n c.s d.n d.s))/\Bw w w':=by
 have ah:Hid (Bw w ((w.alloc (.cells (Qan c) 75)).alloc (.cells (Qan d) 75))):=((Below.refl _ _).alloc (Nat.le_refl _) _).alloc (by simp) _;have HC:=Qaa (Qs6 w 75 c d);go_enter func77,ntmps77;go_wp2_with fail;generalize (w.alloc _).alloc _=W0 at HC ah ⊢;have aa:(fun W=>Bw W0 W) W0.drew:=(ZZb _ _).drew;refine Qal (fun W=>Bw W0 W) 5 (by kernel_rfl) ?_;refine tkL 0 (.agg (Qan c)) aa (fun W hW=>?_) ?_
 ·obtain ⟨⟨x0,x1,x2,x3,x4,x5,x6,x7,x8,x9,aq,an,aj,ak,ar⟩,⟨y0,y1,y2,y3,y4,y5,y6,y7,y8,y9,ao,ai,am,ap,al⟩⟩:=HC.out W hW
  clear hW;go_simp
 refine tkL 2 (.agg (Qan d)) aa (fun W hW=>?_) ?_
 ·obtain ⟨⟨x0,x1,x2,x3,x4,x5,x6,x7,x8,x9,aq,an,aj,ak,ar⟩,⟨y0,y1,y2,y3,y4,y5,y6,y7,y8,y9,ao,ai,am,ap,al⟩⟩:=HC.out W hW
  clear hW;go_simp
 simp only [sX];refine onE 1 fun K hK=>?_;go_simp;refine (QqE c _).mono ?_;rintro e w1 ⟨rfl,ab⟩;have af:Hid (Bw W0 w1):=(aa:Bw W0 W0.drew).trans (ab.mono (ZZa _));clear ab;dsimp only;refine gK hK af.out ?_
 try simp only [sX]
 refine onE 3 fun K hK=>?_;go_simp;refine (QqE d _).mono ?_;rintro e w2 ⟨rfl,ad⟩;have ac:Hid (Bw W0 w2):=Qac af ad;clear ad;dsimp only;refine gK hK ac.out ?_
 try simp only [sX]
 refine onE 4 fun K hK=>?_;go_simp;refine (Qis c.n c.s d.n d.s _).mono ?_;rintro e w3 ⟨rfl,ag⟩;have ae:Hid (Bw W0 w3):=Qac ac ag;clear ag;dsimp only;refine gK hK ae.out ?_
 try simp only [sX]
 refine onE 5 fun K hK=>?_;go_simp;refine hK.out _ _ (fun h=>absurd rfl h) ?_
 try simp only [sX]
 refine dnE ?_ _;go_wp2;go_ret;exact ⟨rfl,Qac ah ae⟩
theorem QhB {ao:Option Addr} {N ca:Nat} (hN:L.length=N) (lN:N<=1048576) (ok:∀ c∈L,AgOk c.g) (sm:∀ c∈L,AgSm c.g) (ss:∀ c∈L,c.s.size<=maxLen) (hm:MX w) (hA:QbV w ao L) :
  Calls prog 134 #[.slice ao N ca] w fun e w'=>e=.returned (.bool (csR L))/\Bw w w':=by
 have HE:Hid (csR L=(decide (N<=60) && cRs none L)):=by unfold csR;rw [hN];exact Qaa rfl
 have HN:=Qaa hN;have OK:=Qaa ok;have SM:=Qaa sm;have SS:=Qaa ss;have HA:=Qaa hA;have ar:=Qaa hm;clear hN ok sm ss hA hm;by_cases h1:N<=60
 ·have d1:decide ((60:Int)<(N:Int))=false:=ZZg (by omega)
  have HF:Hid (cRs (Qdd L 0) (L.drop 0)=csR L):=by rw [HE.out,decide_eq_true h1];exact Qaa rfl
  go_enter func134,ntmps134;go_wp2
  go_loopw [10] (fun i wr=>∃ k:Nat,k<=N/\i=.int .i64 k/\Hid (cRs (Qdd L k) (L.drop k)=csR L)/\Hid (Bw w wr)) (fun i wr=>N - (Go.RowKit.intOf i).toNat)
  case atStart=>exact ⟨0,ZZj _,rfl,HF,ZZb _ _⟩
  case round=>
   obtain ⟨k,hk,rfl,an,ax⟩:=hrel;by_cases aN:k<N
   ·have aI:(k:Int)<(N:Int):=by omega
    obtain ⟨b,aw,e,af⟩:=HA.1 (by have:=HN.out;omega);subst e;obtain ⟨c,hc⟩:∃ c,L[k]?=some c:=⟨L[k]'(by have:=HN.out;omega),ZZe _⟩;have aD:=ZZn hc;have ac:=Qaa aD;have aB:=Qaa hc;obtain ⟨x0,x1,x2,x3,x4,x5,x6,x7,x8,x9,ah,al,aj,ak,ai⟩:=Qas (af k c hc) ax;have aC:=Qaa af;clear af hc aD;go_upto_region 6 with fail;clear x0 x1 x2 x3 x4 x5 x6 x7 x8 x9 ah al aj ak ai;have ay:Bw wr (wr.alloc (.cells (Qan c) 75)):=bA;have K0:=Qg8 wr 75 c;generalize hW0:wr.alloc _=W0 at ay K0 ⊢;have ad:=Qaa (Qac ax ay);have am:=Qaa K0;clear hW0 ay K0
    cases k with
    | zero=>
     have HS:=Qaa (Qmh aB)
     go_cut [31] (fun v w'=>v=.bool (!cRi c)/\Hid (Bw w w'))
     case first=>
      cases hri:cRi c with
      | false=>
       have ab:(fun W=>Bw W0 W) W0.drew:=(ZZb _ _).drew;refine Qal (fun W=>Bw W0 W) 99 (by kernel_rfl) ?_;refine tkL 0 (.agg (Qan c)) ab (fun W hW=>?_) ?_
       ·obtain ⟨x0,x1,x2,x3,x4,x5,x6,x7,x8,x9,ah,al,aj,ak,ai⟩:=Qas am hW
        clear hW;go_simp
       simp only [sX];refine onE 1 fun K hK=>?_;go_simp;refine (QcB c (OK.out c ac) (SM.out c ac) (SS.out c ac) (ar.past (Qac ad ab)) (QaI (HA.2 c ac) (Qac ad ab))).mono ?_;rintro e w1 ⟨rfl,ae⟩;rw [hri];have aa:Hid (Bw W0 w1):=(ab:Bw W0 W0.drew).trans (ae.mono (ZZa _));clear ae;dsimp only;refine gK hK aa.out ?_
       try simp only [sX]
       refine tkS 2 (.bool true) aa ?_;refine tkS 3 (.bool true) aa ?_;refine tkU 4 aa ?_;simp only [sX];refine tkU 5 aa ?_;refine tkU 6 aa ?_;refine tkU 7 aa ?_;simp only [sX];refine tkU 8 aa ?_;refine tkU 9 aa ?_;refine tkU 10 aa ?_;simp only [sX];refine tkU 11 aa ?_;refine tkU 12 aa ?_;simp only [sX];refine onE 13 fun K hK=>?_;refine Eq.mpr (if_neg (fun h=>Bool.noConfusion (show false=true from h))) ?_;refine gK hK aa.out ?_
       try simp only [sX]
       refine tkU 14 aa ?_;refine tkU 15 aa ?_;refine tkS 16 (.bool true) aa ?_;simp only [sX];refine dnE ?_ _;go_wp2;go_meet;exact ⟨by rw [hri];rfl,Qaa (Qac ad aa)⟩
      | true=>
       have ab:(fun W=>Bw W0 W) W0.drew:=(ZZb _ _).drew;refine Qal (fun W=>Bw W0 W) 99 (by kernel_rfl) ?_;refine tkL 0 (.agg (Qan c)) ab (fun W hW=>?_) ?_
       ·obtain ⟨x0,x1,x2,x3,x4,x5,x6,x7,x8,x9,ah,al,aj,ak,ai⟩:=Qas am hW
        clear hW;go_simp
       simp only [sX];refine onE 1 fun K hK=>?_;go_simp;refine (QcB c (OK.out c ac) (SM.out c ac) (SS.out c ac) (ar.past (Qac ad ab)) (QaI (HA.2 c ac) (Qac ad ab))).mono ?_;rintro e w1 ⟨rfl,ae⟩;rw [hri];have aa:Hid (Bw W0 w1):=(ab:Bw W0 W0.drew).trans (ae.mono (ZZa _));clear ae;dsimp only;refine gK hK aa.out ?_
       try simp only [sX]
       refine tkS 2 (.bool false) aa ?_;refine tkS 3 (.bool false) aa ?_;refine tkS 4 (.int .i64 0) aa ?_;simp only [sX];refine tkS 5 (.bool false) aa ?_;refine tkS 6 (.bool false) aa ?_;refine tkU 7 aa ?_;simp only [sX];refine tkU 8 aa ?_;refine tkU 9 aa ?_;refine tkU 10 aa ?_;simp only [sX];refine tkU 11 aa ?_;refine tkU 12 aa ?_;simp only [sX];refine onE 13 fun K hK=>?_;refine Eq.mpr (if_neg (fun h=>Bool.noConfusion (show false=true from h))) ?_;refine gK hK aa.out ?_
       try simp only [sX]
       refine tkU 14 aa ?_;refine tkS 15 (.bool false) aa ?_;refine tkS 16 (.bool false) aa ?_;simp only [sX];refine dnE ?_ _;go_wp2;go_meet;exact ⟨by rw [hri];rfl,Qaa (Qac ad aa)⟩
     case rest=>
      obtain ⟨rfl,aq⟩:=hcut
      cases hri:cRi c with
      | false=>
       have ap:Hid (false=csR L):=by rw [<- an.out,HS.out,hri];exact Qaa rfl
       go_wp2;go_ret;exact ⟨QfL ap,aq⟩
      | true=>
       have az:Hid (cRs (Qdd L (0+1)) (L.drop (0+1))=csR L):=by
        have:=an.out;rw [HS.out,hri,Bool.true_and] at this;exact this
       go_wp2;go_roundw
       case rel=>exact ⟨0+1,by omega,by go_num,az,aq⟩
       case measure=>simp [zI];omega
    | succ k=>
     obtain ⟨b0,aA⟩:∃ c,L[k]?=some c:=⟨L[k]'(by have:=HN.out;omega),ZZe _⟩;have HS:=Qaa (Ql2 aA aB);have av:=Qaa (Qpz b0 c)
     go_cut [31] (fun v w'=>v=.bool (!(cRi c && cAh b0 c))/\Hid (Bw w w'))
     case first=>
      cases hri:cRi c with
      | false=>
       have ab:(fun W=>Bw W0 W) W0.drew:=(ZZb _ _).drew;refine Qal (fun W=>Bw W0 W) 99 (by kernel_rfl) ?_;refine tkL 0 (.agg (Qan c)) ab (fun W hW=>?_) ?_
       ·obtain ⟨x0,x1,x2,x3,x4,x5,x6,x7,x8,x9,ah,al,aj,ak,ai⟩:=Qas am hW
        clear hW;go_simp
       simp only [sX];refine onE 1 fun K hK=>?_;go_simp;refine (QcB c (OK.out c ac) (SM.out c ac) (SS.out c ac) (ar.past (Qac ad ab)) (QaI (HA.2 c ac) (Qac ad ab))).mono ?_;rintro e w1 ⟨rfl,ae⟩;rw [hri];have aa:Hid (Bw W0 w1):=(ab:Bw W0 W0.drew).trans (ae.mono (ZZa _));clear ae;dsimp only;refine gK hK aa.out ?_
       try simp only [sX]
       refine tkS 2 (.bool true) aa ?_;refine tkS 3 (.bool true) aa ?_;refine tkU 4 aa ?_;simp only [sX];refine tkU 5 aa ?_;refine tkU 6 aa ?_;refine tkU 7 aa ?_;simp only [sX];refine tkU 8 aa ?_;refine tkU 9 aa ?_;refine tkU 10 aa ?_;simp only [sX];refine tkU 11 aa ?_;refine tkU 12 aa ?_;simp only [sX];refine onE 13 fun K hK=>?_;refine Eq.mpr (if_neg (fun h=>Bool.noConfusion (show false=true from h))) ?_;refine gK hK aa.out ?_
       try simp only [sX]
       refine tkU 14 aa ?_;refine tkU 15 aa ?_;refine tkS 16 (.bool true) aa ?_;simp only [sX];refine dnE ?_ _;go_wp2;go_meet;exact ⟨by rw [hri];rfl,Qaa (Qac ad aa)⟩
      | true=>
       cases hah:cAh b0 c with
       | false=>
        have aK:decide (0<=Qp0 b0.n b0.s c.n c.s)=true:=by rw [av.out,hah];rfl
        have HH:=Qaa hah;clear av hah;have ab:(fun W=>Bw W0 W) W0.drew:=(ZZb _ _).drew;refine Qal (fun W=>Bw W0 W) 99 (by kernel_rfl) ?_;refine tkL 0 (.agg (Qan c)) ab (fun W hW=>?_) ?_
        ·obtain ⟨x0,x1,x2,x3,x4,x5,x6,x7,x8,x9,ah,al,aj,ak,ai⟩:=Qas am hW
         clear hW;go_simp
        simp only [sX];refine onE 1 fun K hK=>?_;go_simp;refine (QcB c (OK.out c ac) (SM.out c ac) (SS.out c ac) (ar.past (Qac ad ab)) (QaI (HA.2 c ac) (Qac ad ab))).mono ?_;rintro e w1 ⟨rfl,ae⟩;rw [hri];have aa:Hid (Bw W0 w1):=(ab:Bw W0 W0.drew).trans (ae.mono (ZZa _));clear ae;dsimp only;refine gK hK aa.out ?_
        try simp only [sX]
        refine tkS 2 (.bool false) aa ?_;refine tkS 3 (.bool false) aa ?_;refine tkS 4 (.int .i64 ((k+1:Nat):Int)) aa ?_;simp only [sX];refine tkS 5 (.bool true) aa ?_;refine tkS 6 (.bool true) aa ?_;refine tkS 7 (.slice (some ⟨b,aw,none⟩) N ca) aa ?_;simp only [sX];refine tkS 8 (.int .i64 ((k+1:Nat):Int)) aa ?_;refine tkL 9 (.int .i64 (k:Int)) aa (fun W hW=>?_) ?_
        ·have aH:IntKind.i64.wrap (k:Int)=(k:Int):=by rw [IntKind.wrap_i64];omega
         clear hW;go_simp
        refine tkL 10 (.pointer (some ⟨b,aw+k*15,none⟩)) aa (fun W hW=>?_) ?_
        ·have aF:¬ N<=k:=by omega
         clear hW;go_simp
        simp only [sX];refine tkL 11 (.agg (Qan b0)) aa (fun W hW=>?_) ?_
        ·obtain ⟨y0,y1,y2,y3,y4,y5,y6,y7,y8,y9,aL,aE,aG,aM,aJ⟩:=Qas (aC.out k b0 aA) (Qac ad hW)
         clear hW;go_simp
        refine tkL 12 (.agg (Qan c)) aa (fun W hW=>?_) ?_
        ·obtain ⟨x0,x1,x2,x3,x4,x5,x6,x7,x8,x9,ah,al,aj,ak,ai⟩:=Qas am hW
         clear hW;go_simp
        simp only [sX];refine onE 13 fun K hK=>?_;go_simp;refine (Qd3 b0 c).mono ?_;rintro e w2 ⟨rfl,au⟩;have ag:Hid (Bw W0 w2):=Qac aa au;clear au;dsimp only;refine gK hK ag.out ?_
        try simp only [sX]
        refine tkS 14 (.bool true) ag ?_;refine tkS 15 (.bool true) ag ?_;refine tkS 16 (.bool true) ag ?_;simp only [sX];refine dnE ?_ _;go_wp2;go_meet;exact ⟨by rw [hri,HH.out];rfl,Qaa (Qac ad ag)⟩
       | true=>
        have aK:decide (0<=Qp0 b0.n b0.s c.n c.s)=false:=by rw [av.out,hah];rfl
        have HH:=Qaa hah;clear av hah;have ab:(fun W=>Bw W0 W) W0.drew:=(ZZb _ _).drew;refine Qal (fun W=>Bw W0 W) 99 (by kernel_rfl) ?_;refine tkL 0 (.agg (Qan c)) ab (fun W hW=>?_) ?_
        ·obtain ⟨x0,x1,x2,x3,x4,x5,x6,x7,x8,x9,ah,al,aj,ak,ai⟩:=Qas am hW
         clear hW;go_simp
        simp only [sX];refine onE 1 fun K hK=>?_;go_simp;refine (QcB c (OK.out c ac) (SM.out c ac) (SS.out c ac) (ar.past (Qac ad ab)) (QaI (HA.2 c ac) (Qac ad ab))).mono ?_;rintro e w1 ⟨rfl,ae⟩;rw [hri];have aa:Hid (Bw W0 w1):=(ab:Bw W0 W0.drew).trans (ae.mono (ZZa _));clear ae;dsimp only;refine gK hK aa.out ?_
        try simp only [sX]
        refine tkS 2 (.bool false) aa ?_;refine tkS 3 (.bool false) aa ?_;refine tkS 4 (.int .i64 ((k+1:Nat):Int)) aa ?_;simp only [sX];refine tkS 5 (.bool true) aa ?_;refine tkS 6 (.bool true) aa ?_;refine tkS 7 (.slice (some ⟨b,aw,none⟩) N ca) aa ?_;simp only [sX];refine tkS 8 (.int .i64 ((k+1:Nat):Int)) aa ?_;refine tkL 9 (.int .i64 (k:Int)) aa (fun W hW=>?_) ?_
        ·have aH:IntKind.i64.wrap (k:Int)=(k:Int):=by rw [IntKind.wrap_i64];omega
         clear hW;go_simp
        refine tkL 10 (.pointer (some ⟨b,aw+k*15,none⟩)) aa (fun W hW=>?_) ?_
        ·have aF:¬ N<=k:=by omega
         clear hW;go_simp
        simp only [sX];refine tkL 11 (.agg (Qan b0)) aa (fun W hW=>?_) ?_
        ·obtain ⟨y0,y1,y2,y3,y4,y5,y6,y7,y8,y9,aL,aE,aG,aM,aJ⟩:=Qas (aC.out k b0 aA) (Qac ad hW)
         clear hW;go_simp
        refine tkL 12 (.agg (Qan c)) aa (fun W hW=>?_) ?_
        ·obtain ⟨x0,x1,x2,x3,x4,x5,x6,x7,x8,x9,ah,al,aj,ak,ai⟩:=Qas am hW
         clear hW;go_simp
        simp only [sX];refine onE 13 fun K hK=>?_;go_simp;refine (Qd3 b0 c).mono ?_;rintro e w2 ⟨rfl,au⟩;have ag:Hid (Bw W0 w2):=Qac aa au;clear au;dsimp only;refine gK hK ag.out ?_
        try simp only [sX]
        refine tkS 14 (.bool false) ag ?_;refine tkS 15 (.bool false) ag ?_;refine tkS 16 (.bool false) ag ?_;simp only [sX];refine dnE ?_ _;go_wp2;go_meet;exact ⟨by rw [hri,HH.out];rfl,Qaa (Qac ad ag)⟩
     case rest=>
      obtain ⟨rfl,aq⟩:=hcut
      cases hri:(cRi c && cAh b0 c) with
      | false=>
       have ap:Hid (false=csR L):=by rw [<- an.out,HS.out,hri];exact Qaa rfl
       go_wp2;go_ret;exact ⟨QfL ap,aq⟩
      | true=>
       have az:Hid (cRs (Qdd L (k+1+1)) (L.drop (k+1+1))=csR L):=by
        have:=an.out;rw [HS.out,hri,Bool.true_and] at this;exact this
       go_wp2;go_roundw
       case rel=>exact ⟨k+1+1,by omega,by go_num,az,aq⟩
       case measure=>simp [zI];omega
   ·obtain rfl:N=k:=by omega
    have ap:Hid (true=csR L):=by
     rw [<- an.out,List.drop_eq_nil_of_le (by have:=HN.out;omega)]
     cases Qdd L N <;> exact Qaa rfl
    go_wp2;go_ret;exact ⟨QfL ap,ax⟩
 ·have d1:decide ((60:Int)<(N:Int))=true:=ZZh (by omega)
  have HF:Hid (false=csR L):=by rw [HE.out,decide_eq_false h1];exact Qaa rfl
  go_enter func134,ntmps134;go_wp2;go_ret;exact ⟨QfL HF,ZZb _ _⟩
end Go.Proofs.YtlejlgldgafljaaGreatDoor
