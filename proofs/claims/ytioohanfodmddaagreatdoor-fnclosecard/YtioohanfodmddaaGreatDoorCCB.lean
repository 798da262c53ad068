/-
 Parts.
-/
import Derived.Test.YtioohanfodmddaaGreatDoorCCA
import Derived.Lib.Bytealg
import Derived.Lib.Walk
import Derived.Test.YtioohanfodmddaaGreatDoorCSC
set_option maxRecDepth 10000
set_option maxHeartbeats 8000000
set_option linter.all false
namespace Go.Proofs.YtioohanfodmddaaGreatDoor
open Go.ChangeShapes Go.WideShapes Go.ChangeAt Go.RowKit Go.PlainAid Go.Lib Tryz
theorem mAi {p:Prop} (h:p:=by
 have ab:(fun W=>Bw W0 W) W0.drew:=(ZZb _ _).drew;refine Qal (fun W=>Bw W0 W) 99 oG ?_;refine tkL 0 (.agg (Qao c)) ab (fun W hW=>?_) ?_
 ·obtain ⟨x0,x1,x2,x3,x4,x5,x6,x7,x8,x9,al,ai,aj,ak,ah⟩:=Qaq am hW
  clear hW;go_simp
 simp only [sX];refine onE 1 fun K hK=>?_;go_simp;refine (Qcr c (OK.out c ac) (SM.out c ac) (SS.out c ac) (au.past (Qac ad ab)) (QaD (HA.2 c ac) (Qac ad ab))).mono ?_;rintro e w1 ⟨rfl,ae⟩;rw [hri];have aa:Hid (Bw W0 w1):=(ab:Bw W0 W0.drew).trans (ae.mono (ZZa _));clear ae;dsimp only;refine gK hK aa.out ?_
 try simp only [sX]
 refine tkS 2 (.bool true) aa ?_;refine tkS 3 (.bool true) aa ?_;refine tkU 4 aa ?_;simp only [sX];refine tkU 5 aa ?_;refine tkU 6 aa ?_;refine tkU 7 aa ?_;simp only [sX];refine tkU 8 aa ?_;refine tkU 9 aa ?_;refine tkU 10 aa ?_;simp only [sX];refine tkU 11 aa ?_;refine tkU 12 aa ?_;simp only [sX];refine onE 13 fun K hK=>?_;refine Eq.mpr (if_neg (fun h=>Bool.noConfusion (show false=true from h))) ?_;refine gK hK aa.out ?_
 try simp only [sX]
 refine tkU 14 aa ?_;refine tkU 15 aa ?_;refine tkS 16 (.bool true) aa ?_;simp only [sX];refine dnE ?_ _;go_wp2;go_meet;exact ⟨by rw [hri];rfl,Qaa (Qac ad aa)⟩):p:=h
theorem mAj {p:Prop} (h:p:=by have x1:=Qaf hW.1 1 rfl;have y0:=Qaf hW.2 0 rfl;have y1:=Qaf hW.2 1 rfl;clear hW;go_simp):p:=h
theorem mA2 {p:Prop} (h:p:=by
 obtain ⟨x0,x1,x2,x3,x4,x5,x6,x7,x8,x9,al,ai,aj,ak,ah⟩:=Qaq am hW
 clear hW;go_simp):p:=h
theorem mBc {p:Prop} (h:p:=by have k0:=ZZk w (.cells #[.int .i64 n,.string s] T);have k1:=ZZk (w.alloc (.cells #[.int .i64 n,.string s] T)) (.cells #[.int .i64 n',.string s'] T);simp only [World.size_alloc] at k1;exact ⟨(((Below.refl (w.alloc (.cells #[.int .i64 n,.string s] T)).heap.size (w.alloc (.cells #[.int .i64 n,.string s] T))).alloc (Nat.le_refl _) (.cells #[.int .i64 n',.string s'] T)).block _ oE).trans k0,k1⟩):p:=h
theorem mBr {p:Prop} (h:p:=by go_enter func165,ntmps165;go_wp2_with (go_at_call 216;refine (QlU _ _).mono ?_;rintro e w1 ⟨rfl,aa⟩;obtain rfl:=aa);go_ret;exact ⟨Qik HE.symm,rfl⟩):p:=h
theorem mB8 {p:Prop} (h:p:=by
 have aK:IntKind.i64.wrap (k:Int)=(k:Int):=by rw [IntKind.wrap_i64];omega
 clear hW;go_simp):p:=h
theorem mCu {p:Prop} (h:p:=by
 obtain ⟨⟨x0,x1,x2,x3,x4,x5,x6,x7,x8,x9,ap,ak,al,am,aj⟩,⟨y0,y1,y2,y3,y4,y5,y6,y7,y8,y9,ai,ao,aq,ar,an⟩⟩:=HC.out W hW
 clear hW;go_simp):p:=h
theorem mC7 {p:Prop} (h:p:=by
 obtain ⟨y0,y1,y2,y3,y4,y5,y6,y7,y8,y9,aE,aG,aL,aM,aF⟩:=Qaq (aD.out k b0 ay) (Qac ad hW)
 clear hW;go_simp):p:=h
theorem mDe {p:Prop} (h:p:=by
 have ap:Hid (false=csR L):=by rw [<- ar.out,HS.out,hri];exact Qaa rfl
 go_wp2;go_ret;exact ⟨QfW ap,aq⟩):p:=h
theorem mDu {p:Prop} (h:p:=by simp only [sX];refine dnE ?_ _;go_wp2;go_meet;exact ⟨by rw [hri,HH.out];rfl,Qaa (Qac ad ag)⟩):p:=h
theorem mD3 {p:Prop} (h:p:=by rw [HS.out,hri,Bool.true_and] at this;exact this):p:=h
def cAh (c d:Ce):Bool:=decide (c.n<d.n) || ((c.n == d.n) && QaJ c.s d.s)
def Qf7 (n:Int):Bool:=decide (0<=n) && decide (n<=1000000000)
noncomputable def cRi (c:Ce):Bool:=Qf7 c.n && Qbl c.s && agB c.g && !(c.g.s == 0)
noncomputable def cRs:Option Ce->List Ce->Bool
 | _,[]=>true
 | none,c :: L=>cRi c && cRs (some c) L
 | some b,c :: L=>(cRi c && cAh b c) && cRs (some c) L
def Qc8 (L:List Ce) (k:Nat):Option Ce:=if k=0 then none else L[k - 1]?
variable {L:List Ce}
variable {c c':Ce}
theorem QmW (hc:L[0]?=some c):cRs (Qc8 L 0) (L.drop 0)=(cRi c && cRs (Qc8 L 1) (L.drop 1)):=by
 cases L with
 | nil=>cases hc
 | cons d M=>
  obtain rfl:d=c:=by simpa using hc
  simp [Qc8,cRs]
theorem Qmq {k:Nat} {b:Ce} (hb:L[k]?=some b) (hc:L[k+1]?=some c):cRs (Qc8 L (k+1)) (L.drop (k+1))=((cRi c && cAh b c) && cRs (Qc8 L (k+1+1)) (L.drop (k+1+1))):=by
 have h1:=(ZZd.1 hc).1;rw [List.drop_eq_getElem_cons h1,(List.getElem?_eq_some_iff.1 hc).2];have e1:Qc8 L (k+1)=some b:=by unfold Qc8;rw [if_neg oB];simpa using hb
 have e2:Qc8 L (k+1+1)=some c:=by unfold Qc8;rw [if_neg oB];simpa using hc
 rw [e1,e2]
 rfl
noncomputable def csR (L:List Ce):Bool:=decide (L.length<=60) && cRs none L
theorem QiB (h:c.key=c'.key):cRi c=cRi c':=by
 obtain ⟨q,rfl⟩:=Qh0 h
 rfl
theorem Qpd {d d':Ce} (h:c.key=c'.key) (k:d.key=d'.key):cAh c d=cAh c' d':=by
 obtain ⟨q,rfl⟩:=Qh0 h;obtain ⟨q',rfl⟩:=Qh0 k
 rfl
theorem QlG:∀ {L L':List Ce} {b b':Option Ce},b.map Ce.key=b'.map Ce.key->L.map Ce.key=L'.map Ce.key->cRs b L=cRs b' L'
 | [],[],b,b',_,_=>by cases b <;> cases b' <;> rfl
 | c :: L,c' :: L',none,none,_,h=>by
  simp only [List.map_cons,List.cons.injEq] at h;unfold cRs;rw [QiB h.1,QlG (b:=some c) (b':=some c') (by simp [h.1]) h.2]
 | c :: L,c' :: L',some b,some b',k,h=>by
  simp only [List.map_cons,List.cons.injEq] at h;simp only [Option.map_some,Option.some.injEq] at k;unfold cRs;rw [QiB h.1,Qpd k h.1,QlG (b:=some c) (b':=some c') (by simp [h.1]) h.2]
 | _ :: _,_ :: _,none,some _,k,_=>by simp at k
 | _ :: _,_ :: _,some _,none,k,_=>by simp at k
 | [],_ :: _,_,_,_,h=>by simp at h
 | _ :: _,[],_,_,_,h=>by simp at h
theorem QqK {L':List Ce} (h:L.map Ce.key=L'.map Ce.key):csR L=csR L':=by
 have e1:L.length=L'.length:=by have:=congrArg List.length h;simpa using this
 unfold csR;rw [e1,QlG rfl h]
def Qng (a b:ByteArray):Int:=Lib.compareBytes a.data.toList b.data.toList
theorem Qqr:∀ a b:List UInt8,decide (Lib.compareBytes a b<0)=Op.bytesLess a b
 | [],[]=>by simp [Lib.compareBytes,Op.bytesLess]
 | [],_ :: _=>by simp [Lib.compareBytes,Op.bytesLess]
 | _ :: _,[]=>by simp [Lib.compareBytes,Op.bytesLess]
 | a :: x,b :: y=>by
  unfold Lib.compareBytes Op.bytesLess;by_cases h:a<b
  ·simp [h]
  ·by_cases h2:b<a
   ·have:a≠b:=fun e=>by subst e;exact h h2
    simp [h,h2,this]
   ·have e:a=b:=by
     simp only [UInt8.lt_iff_toNat_lt] at h h2;exact UInt8.toNat_inj.1 oB
    simp [h,h2,e,Qqr x y]
theorem Qu5 (a b:ByteArray):decide (Qng a b<0)=QaJ a b:=by
 unfold Qng QaJ;rw [ByteArray.toList_eq,ByteArray.toList_eq];exact Qqr _ _
set_option maxRecDepth 100000 in
theorem Qg4 (a b:ByteArray) (w:World) :
  Calls prog 217 #[.string a,.string b] w fun e w'=>e=.returned (.int .i64 (Qng a b))/\w'=w:=by
 go_enter func217,ntmps217;go_wp2;rw [run_callFunc_extern func253 oG oG oG (e:=Extern.BytealgCompare.compare) oG,Lib.run_compareString];simp only [Result.andThen];rw [Oper.upon_value];go_wp2;exact mBk
theorem QjF (a b:ByteArray) (w:World) :
  Calls prog 166 #[.string a,.string b] w fun e w'=>e=.returned (.int .i64 (Qng a b))/\w'=w:=by
 go_enter func166,ntmps166;go_wp2_with (go_at_call 217;refine (Qg4 _ _ _).mono ?_;rintro e w' ⟨rfl,rfl⟩);exact mBk
def Qjx (a b:Int):Int:=if a<b then -1 else if b<a then 1 else 0
def QpV (n:Int) (s:ByteArray) (n':Int) (s':ByteArray):Int:=if Qjx n n'=0 then Qng s s' else Qjx n n'
theorem Qqs (c d:Ce):decide (0<=QpV c.n c.s d.n d.s)=!cAh c d:=by
 unfold QpV cAh Qjx;have h:=Qu5 c.s d.s;by_cases h1:c.n<d.n
 ·simp [h1]
 ·by_cases h2:d.n<c.n
  ·have h3:¬ c.n=d.n:=by omega
   simp [h1,h2,h3]
  ·have h3:c.n=d.n:=by omega
   rw [h3];simp only [Int.lt_irrefl,if_false,if_true,decide_false,Bool.false_or,beq_self_eq_true,Bool.true_and];rw [<- h];by_cases q:Qng c.s d.s<0
   ·simp [q]
   ·rw [decide_eq_false q,decide_eq_true oB];rfl
theorem Qik {a b:Int} (h:a=b):Ending.returned (.int .i64 a)=.returned (.int .i64 b):=by rw [h]
theorem QlU (a:Int) (w:World):Calls prog 216 #[.int .i64 a] w fun e w'=>e=.returned (.bool false)/\w'=w:=by
 have e1:(a != a)=false:=oE
 go_enter func216,ntmps216;go_wp2;exact mBk
theorem QfX (a b:Int) (w:World) :
  Calls prog 165 #[.int .i64 a,.int .i64 b] w fun e w'=>e=.returned (.int .i64 (Qjx a b))/\w'=w:=by
 have e1:(a != a)=false:=oE
 have e2:(b != b)=false:=oE
 by_cases h1:a<b
 ·have HE:Hid (Qjx a b=-1):=Qaa (if_pos h1)
  exact mBr
 ·by_cases h2:b<a
  ·have HE:Hid (Qjx a b=1):=Qaa ((if_neg h1).trans (if_pos h2))
   exact mBr
  ·have HE:Hid (Qjx a b=0):=Qaa ((if_neg h1).trans (if_neg h2))
   exact mBr
def orI (x y:Int):Int:=if x=0 then y else x
variable {w:World}
theorem Qqw {b:Nat} (x y:Int) (h0:w.cell? ⟨b,0,none⟩=some (.int .i64 x)) (h1:w.cell? ⟨b,1,none⟩=some (.int .i64 y)) :
  Calls prog 164 #[.slice (some ⟨b,0,none⟩) 2 2] w fun e w'=>e=.returned (.int .i64 (orI x y))/\w'=w:=by
 have H0:=Qaa h0;have H1:=Qaa h1;clear h0 h1;go_enter func164,ntmps164;go_wp2
 go_loopw [8] (fun i wr=>(i=.int .i64 0∨(i=.int .i64 1/\Hid (x=0))∨(i=.int .i64 2/\Hid (x=0/\y=0)))/\wr=w) (fun i wr=>2 - (Go.RowKit.intOf i).toNat)
 case atStart=>exact ⟨.inl rfl,rfl⟩
 case round=>
  obtain ⟨hi,rfl⟩:=hrel;rcases hi with rfl | ⟨rfl,HX⟩ | ⟨rfl,HX⟩
  ·have h0:=H0.out
   by_cases hx:x=0
   ·have HX:=Qaa hx
    have bx:(x != 0)=false:=by simp [hx]
    clear hx;go_wp2;go_roundw
    case rel=>exact ⟨.inr (.inl ⟨by go_num,HX⟩),by first | rfl | trivial⟩
    case measure=>simp [zI]
   ·have bx:(x != 0)=true:=by simp [hx]
    have HF:Hid (orI x y=x):=Qaa (if_neg hx);clear hx;go_wp2;go_ret;exact ⟨Qik HF.symm,rfl⟩
  ·have h1:=H1.out
   have HF:Hid (orI x y=y):=Qaa (if_pos HX.out);by_cases hy:y=0
   ·have HY:=Qaa (And.intro HX hy)
    have aa:(y != 0)=false:=by simp [hy]
    clear hy;go_wp2;go_roundw
    case rel=>exact ⟨.inr (.inr ⟨by go_num,HY⟩),by first | rfl | trivial⟩
    case measure=>simp [zI]
   ·have aa:(y != 0)=true:=by simp [hy]
    clear hy;go_wp2;go_ret;exact ⟨Qik HF.symm,rfl⟩
  ·have HF:Hid (orI x y=0):=Qaa (by unfold orI;rw [if_pos HX.1];exact HX.2)
   go_wp2;go_ret;exact ⟨Qik HF.symm,rfl⟩
theorem Qjr (n:Int) (s:ByteArray) (n':Int) (s':ByteArray) (w:World) :
  Calls prog 105 #[.agg #[.int .i64 n,.string s],.agg #[.int .i64 n',.string s']] w fun e w'=>e=.returned (.int .i64 (QpV n s n' s'))/\Bw w w':=by
 have ad:Hid (∀ o o',Bw w ((w.alloc o).alloc o')):=fun o o'=>((Below.refl _ _).alloc (Nat.le_refl _) o).alloc oE o'
 have HN:Hid (∀ T,((w.alloc (.cells #[.int .i64 n,.string s] T)).alloc (.cells #[.int .i64 n',.string s'] T)).heap[w.heap.size]?=some (.cells #[.int .i64 n,.string s] T (0,0))/\((w.alloc (.cells #[.int .i64 n,.string s] T)).alloc (.cells #[.int .i64 n',.string s'] T)).heap[w.heap.size+1]?=some (.cells #[.int .i64 n',.string s'] T (0,0))):=fun T=>by
  exact mBc
 go_enter func105,ntmps105;go_wp2_with fail;have HR:=Qaa (HN.out 128);have ac:=Qaa (ad.out (.cells #[.int .i64 n,.string s] 128) (.cells #[.int .i64 n',.string s'] 128));have ae:((w.alloc (.cells #[.int .i64 n,.string s] 128)).alloc (.cells #[.int .i64 n',.string s'] 128)).heap.size=w.heap.size+1+1:=oE
 generalize (w.alloc _).alloc _=W0 at HR ac ae ⊢;clear HN ad;have R0:(fun W=>W.heap[w.heap.size]?=some (.cells #[.int .i64 n,.string s] 128 (0,0))/\W.heap[w.heap.size+1]?=some (.cells #[.int .i64 n',.string s'] 128 (0,0))) W0.drew:=HR.out;refine Qal (fun W=>W.heap[w.heap.size]?=some (.cells #[.int .i64 n,.string s] 128 (0,0))/\W.heap[w.heap.size+1]?=some (.cells #[.int .i64 n',.string s'] 128 (0,0))) 12 oG ?_;refine tkL 0 (.pointer (some ⟨w.heap.size,0,none⟩)) R0 (fun W hW=>?_) ?_
 ·have x0:=QaG hW.1 0 rfl
  exact mAj
 refine tkL 1 (.int .i64 n) R0 (fun W hW=>?_) ?_
 ·have x0:=QaG hW.1 0 rfl
  exact mAj
 refine tkL 2 (.pointer (some ⟨w.heap.size+1,0,none⟩)) R0 (fun W hW=>?_) ?_
 ·have x0:=QaG hW.1 0 rfl
  exact mAj
 simp only [sX];refine tkL 3 (.int .i64 n') R0 (fun W hW=>?_) ?_
 ·have x0:=QaG hW.1 0 rfl
  exact mAj
 refine tkL 5 (.pointer (some ⟨w.heap.size,1,none⟩)) R0 (fun W hW=>?_) ?_
 ·have x0:=QaG hW.1 0 rfl
  exact mAj
 refine tkL 6 (.string s) R0 (fun W hW=>?_) ?_
 ·have x0:=QaG hW.1 0 rfl
  exact mAj
 simp only [sX];refine tkL 7 (.pointer (some ⟨w.heap.size+1,1,none⟩)) R0 (fun W hW=>?_) ?_
 ·have x0:=QaG hW.1 0 rfl
  exact mAj
 refine tkL 8 (.string s') R0 (fun W hW=>?_) ?_
 ·have x0:=QaG hW.1 0 rfl
  exact mAj
 simp only [sX];refine onE 4 fun K hK=>?_;go_simp;refine (QfX n n' _).mono ?_;rintro e wz ⟨rfl,aa⟩;obtain rfl:=aa.symm;dsimp only;refine gK hK R0 ?_
 try simp only [sX]
 refine onE 9 fun K hK=>?_;go_simp;refine (QjF s s' _).mono ?_;rintro e wz ⟨rfl,aa⟩;obtain rfl:=aa.symm;dsimp only;refine gK hK R0 ?_
 try simp only [sX]
 have k2:=ZZk W0 (.cells #[.int .i64 (Qjx n n'),.int .i64 (Qng s s')] 3);rw [ae] at k2;have k3:(W0.alloc (.cells #[.int .i64 (Qjx n n'),.int .i64 (Qng s s')] 3)).drew.heap[w.heap.size+1+1]?=some (.cells #[.int .i64 (Qjx n n'),.int .i64 (Qng s s')] 3 (0,0)):=k2;have HC:=Qaa (And.intro (QaG k3 0 rfl) (QaG k3 1 rfl));clear k2 k3;have ab:Bw W0 (W0.alloc (.cells #[.int .i64 (Qjx n n'),.int .i64 (Qng s s')] 3)).drew:=((ZZb _ _).alloc (ZZa _) _).drew;have R1:=And.intro ((ab.block w.heap.size oB).trans HR.1) ((ab.block (w.heap.size+1) oB).trans HR.2);have af:=Qaa (Qac ac ab);clear ab;refine onE 10 fun K hK=>?_;go_simp;refine gK hK R1 ?_
 try simp only [sX]
 refine onE 11 fun K hK=>?_;go_simp;refine (Qqw _ _ HC.1 HC.2).mono ?_;rintro e wz ⟨rfl,aa⟩;obtain rfl:=aa.symm;dsimp only;refine gK hK R1 ?_
 try simp only [sX]
 refine onE 12 fun K hK=>?_;go_simp;refine hK.out _ _ (fun h=>absurd rfl h) ?_
 try simp only [sX]
 refine dnE ?_ _;go_wp2;go_ret;exact ⟨rfl,af⟩
theorem QfW {a b:Bool} (h:a=b):Ending.returned (.bool a)=.returned (.bool b):=by rw [h]
theorem QeL (n:Int) (w:World):Calls prog 92 #[.int .i64 n] w fun e w'=>e=.returned (.bool (Qf7 n))/\w'=w:=by
 by_cases h1:0<=n <;> by_cases h2:n<=1000000000 <;> (go_enter func92,ntmps92;go_wp2;go_ret;exact ⟨by simp [Qf7,h1,h2],rfl⟩)
theorem Qcr (c:Ce) (ok:AgOk c.g) (sm:AgSm c.g) (hs:c.s.size<=maxLen) (hm:MX w) (hA:AgAt w c.g c.p) :
  Calls prog 205 #[.agg (Qao c)] w fun e w'=>e=.returned (.bool (cRi c))/\Bw w w':=by
 have ah:Bw w (w.alloc (.cells (Qao c) 46)):=bAA;have K0:=Qaa (QfC w 46 c);have HA:=Qaa hA;have OK:=Qaa ok;have SM:=Qaa sm;have ak:=Qaa (hm.past ah);have ae:=Qaa ah;clear hA ok sm hm ah;go_enter func205,ntmps205;go_wp2_with fail;generalize w.alloc _=W0 at K0 ak ae ⊢;refine (QeL _ _).mono ?_;rintro e wz ⟨rfl,al⟩;obtain rfl:=al.symm;obtain ⟨x0,x1,x2,x3,x4,x5,x6,x7,x8,x9,ai,ad,af,ag,ac⟩:=K0.out
 cases h1:Qf7 c.n with
 | false=>
  have HE:Hid (false=cRi c):=Qaa (by simp [cRi,h1]);go_wp2;go_ret;exact ⟨QfW HE,ae⟩
 | true=>
  go_wp2_with fail;clear x0 x1 x2 x3 x4 x5 x6 x7 x8 x9 ai ad af ag ac;refine (Qhd c.s ak hs).mono ?_;rintro e w1 ⟨rfl,ab⟩;obtain ⟨x0,x1,x2,x3,x4,x5,x6,x7,x8,x9,ai,ad,af,ag,ac⟩:=Qaq K0 ab;have aa:=Qaa (Qac ae ab);have an:=Qaa ab;clear ab
  cases h2:Qbl c.s with
  | false=>
   have HE:Hid (false=cRi c):=Qaa (by simp [cRi,h2]);go_wp2;go_ret;exact ⟨QfW HE,aa⟩
  | true=>
   by_cases h3:c.g.s=0
   ·have HE:Hid (false=cRi c):=Qaa (by simp [cRi,h3])
    have d3:decide (0<c.g.s)=false:=ZZg oB;clear h3;go_wp2;go_ret;exact ⟨QfW HE,aa⟩
   ·have d3:decide (0<c.g.s)=true:=decide_eq_true (by have:=OK.s;unfold U64 at this;omega)
    have HE:Hid (agB c.g=cRi c):=Qaa (by simp [cRi,h1,h2,h3]);clear h3;go_wp2_with fail;clear x0 x1 x2 x3 x4 x5 x6 x7 x8 x9 ai ad af ag ac;refine (QkM (g:=c.g) (p:=c.p) OK SM (QaD HA aa)).mono ?_;rintro e w2 ⟨rfl,aj⟩;obtain ⟨B,hB⟩:∃ B,agB c.g=B:=⟨_,rfl⟩;rw [ag_one,hB];have HF:Hid (B=cRi c):=by rw [<- hB];exact HE
    have am:=Qaa (Qac aa aj);clear aj hB HE
    cases B <;> (go_wp2;go_ret;exact ⟨QfW HF,am⟩)
theorem Qec (c d:Ce) :
  Calls prog 60 #[.agg (Qao c),.agg (Qao d)] w fun e w'=>e=.returned (.int .i64 (QpV c.n c.s d.n d.s))/\Bw w w':=by
 have ac:Hid (Bw w ((w.alloc (.cells (Qao c) 46)).alloc (.cells (Qao d) 46))):=((Below.refl _ _).alloc (Nat.le_refl _) _).alloc oE _;have HC:=Qaa (QtE w 46 c d);go_enter func60,ntmps60;go_wp2_with fail;generalize (w.alloc _).alloc _=W0 at HC ac ⊢;have aa:(fun W=>Bw W0 W) W0.drew:=(ZZb _ _).drew;refine Qal (fun W=>Bw W0 W) 5 oG ?_;refine tkL 0 (.agg (Qao c)) aa (fun W hW=>?_) ?_
 ·exact mCu
 refine tkL 2 (.agg (Qao d)) aa (fun W hW=>?_) ?_
 ·exact mCu
 simp only [sX];refine onE 1 fun K hK=>?_;go_simp;refine (Qlv c _).mono ?_;rintro e w1 ⟨rfl,ad⟩;have ab:Hid (Bw W0 w1):=(aa:Bw W0 W0.drew).trans (ad.mono (ZZa _));clear ad;dsimp only;refine gK hK ab.out ?_
 try simp only [sX]
 refine onE 3 fun K hK=>?_;go_simp;refine (Qlv d _).mono ?_;rintro e w2 ⟨rfl,af⟩;have ae:Hid (Bw W0 w2):=Qac ab af;clear af;dsimp only;refine gK hK ae.out ?_
 try simp only [sX]
 refine onE 4 fun K hK=>?_;go_simp;refine (Qjr c.n c.s d.n d.s _).mono ?_;rintro e w3 ⟨rfl,ag⟩;have ah:Hid (Bw W0 w3):=Qac ae ag;clear ag;dsimp only;refine gK hK ah.out ?_
 try simp only [sX]
 refine onE 5 fun K hK=>?_;go_simp;refine hK.out _ _ (fun h=>absurd rfl h) ?_
 try simp only [sX]
 refine dnE ?_ _;go_wp2;go_ret;exact ⟨rfl,Qac ac ah⟩
theorem QhB {ao:Option Addr} {N ca:Nat} (hN:L.length=N) (lN:N<=1048576) (ok:∀ c∈L,AgOk c.g) (sm:∀ c∈L,AgSm c.g) (ss:∀ c∈L,c.s.size<=maxLen) (hm:MX w) (hA:QbG w ao L) :
  Calls prog 148 #[.slice ao N ca] w fun e w'=>e=.returned (.bool (csR L))/\Bw w w':=by
 have HE:Hid (csR L=(decide (N<=60) && cRs none L)):=by unfold csR;rw [hN];exact Qaa rfl
 have HN:=Qaa hN;have OK:=Qaa ok;have SM:=Qaa sm;have SS:=Qaa ss;have HA:=Qaa hA;have au:=Qaa hm;clear hN ok sm ss hA hm;by_cases h1:N<=60
 ·have d1:decide ((60:Int)<(N:Int))=false:=ZZg oB
  have HF:Hid (cRs (Qc8 L 0) (L.drop 0)=csR L):=by rw [HE.out,decide_eq_true h1];exact Qaa rfl
  go_enter func148,ntmps148;go_wp2
  go_loopw [10] (fun i wr=>∃ k:Nat,k<=N/\i=.int .i64 k/\Hid (cRs (Qc8 L k) (L.drop k)=csR L)/\Hid (Bw w wr)) (fun i wr=>N - (Go.RowKit.intOf i).toNat)
  case atStart=>exact ⟨0,ZZj _,rfl,HF,ZZb _ _⟩
  case round=>
   obtain ⟨k,hk,rfl,ar,ax⟩:=hrel;by_cases aN:k<N
   ·have aI:(k:Int)<(N:Int):=by omega
    obtain ⟨b,aw,e,af⟩:=HA.1 (oA HN.out);subst e;obtain ⟨c,hc⟩:∃ c,L[k]?=some c:=⟨L[k]'(oA HN.out),ZZe _⟩;have aB:=ZZn hc;have ac:=Qaa aB;have aC:=Qaa hc;obtain ⟨x0,x1,x2,x3,x4,x5,x6,x7,x8,x9,al,ai,aj,ak,ah⟩:=Qaq (af k c hc) ax;have aD:=Qaa af;clear af hc aB;go_upto_region 6 with fail;clear x0 x1 x2 x3 x4 x5 x6 x7 x8 x9 al ai aj ak ah;have az:Bw wr (wr.alloc (.cells (Qao c) 46)):=bAA;have K0:=QfC wr 46 c;generalize hW0:wr.alloc _=W0 at az K0 ⊢;have ad:=Qaa (Qac ax az);have am:=Qaa K0;clear hW0 az K0
    cases k with
    | zero=>
     have HS:=Qaa (QmW aC)
     go_cut [31] (fun v w'=>v=.bool (!cRi c)/\Hid (Bw w w'))
     case first=>
      cases hri:cRi c with
      | false=>
       exact mAi
      | true=>
       have ab:(fun W=>Bw W0 W) W0.drew:=(ZZb _ _).drew;refine Qal (fun W=>Bw W0 W) 99 oG ?_;refine tkL 0 (.agg (Qao c)) ab (fun W hW=>?_) ?_
       ·exact mA2
       simp only [sX];refine onE 1 fun K hK=>?_;go_simp;refine (Qcr c (OK.out c ac) (SM.out c ac) (SS.out c ac) (au.past (Qac ad ab)) (QaD (HA.2 c ac) (Qac ad ab))).mono ?_;rintro e w1 ⟨rfl,ae⟩;rw [hri];have aa:Hid (Bw W0 w1):=(ab:Bw W0 W0.drew).trans (ae.mono (ZZa _));clear ae;dsimp only;refine gK hK aa.out ?_
       try simp only [sX]
       refine tkS 2 (.bool false) aa ?_;refine tkS 3 (.bool false) aa ?_;refine tkS 4 (.int .i64 0) aa ?_;simp only [sX];refine tkS 5 (.bool false) aa ?_;refine tkS 6 (.bool false) aa ?_;refine tkU 7 aa ?_;simp only [sX];refine tkU 8 aa ?_;refine tkU 9 aa ?_;refine tkU 10 aa ?_;simp only [sX];refine tkU 11 aa ?_;refine tkU 12 aa ?_;simp only [sX];refine onE 13 fun K hK=>?_;refine Eq.mpr (if_neg (fun h=>Bool.noConfusion (show false=true from h))) ?_;refine gK hK aa.out ?_
       try simp only [sX]
       refine tkU 14 aa ?_;refine tkS 15 (.bool false) aa ?_;refine tkS 16 (.bool false) aa ?_;simp only [sX];refine dnE ?_ _;go_wp2;go_meet;exact ⟨by rw [hri];rfl,Qaa (Qac ad aa)⟩
     case rest=>
      obtain ⟨rfl,aq⟩:=hcut
      cases hri:cRi c with
      | false=>
       exact mDe
      | true=>
       have aA:Hid (cRs (Qc8 L (0+1)) (L.drop (0+1))=csR L):=by
        have:=ar.out;exact mD3
       go_wp2;go_roundw
       case rel=>exact ⟨0+1,by omega,by go_num,aA,aq⟩
       case measure=>simp [zI];omega
    | succ k=>
     obtain ⟨b0,ay⟩:∃ c,L[k]?=some c:=⟨L[k]'(oA HN.out),ZZe _⟩;have HS:=Qaa (Qmq ay aC);have av:=Qaa (Qqs b0 c)
     go_cut [31] (fun v w'=>v=.bool (!(cRi c && cAh b0 c))/\Hid (Bw w w'))
     case first=>
      cases hri:cRi c with
      | false=>
       exact mAi
      | true=>
       cases hah:cAh b0 c with
       | false=>
        have aH:decide (0<=QpV b0.n b0.s c.n c.s)=true:=by rw [av.out,hah];rfl
        have HH:=Qaa hah;clear av hah;have ab:(fun W=>Bw W0 W) W0.drew:=(ZZb _ _).drew;refine Qal (fun W=>Bw W0 W) 99 oG ?_;refine tkL 0 (.agg (Qao c)) ab (fun W hW=>?_) ?_
        ·exact mA2
        simp only [sX];refine onE 1 fun K hK=>?_;go_simp;refine (Qcr c (OK.out c ac) (SM.out c ac) (SS.out c ac) (au.past (Qac ad ab)) (QaD (HA.2 c ac) (Qac ad ab))).mono ?_;rintro e w1 ⟨rfl,ae⟩;rw [hri];have aa:Hid (Bw W0 w1):=(ab:Bw W0 W0.drew).trans (ae.mono (ZZa _));clear ae;dsimp only;refine gK hK aa.out ?_
        try simp only [sX]
        refine tkS 2 (.bool false) aa ?_;refine tkS 3 (.bool false) aa ?_;refine tkS 4 (.int .i64 ((k+1:Nat):Int)) aa ?_;simp only [sX];refine tkS 5 (.bool true) aa ?_;refine tkS 6 (.bool true) aa ?_;refine tkS 7 (.slice (some ⟨b,aw,none⟩) N ca) aa ?_;simp only [sX];refine tkS 8 (.int .i64 ((k+1:Nat):Int)) aa ?_;refine tkL 9 (.int .i64 (k:Int)) aa (fun W hW=>?_) ?_
        ·exact mB8
        refine tkL 10 (.pointer (some ⟨b,aw+k*15,none⟩)) aa (fun W hW=>?_) ?_
        ·have aJ:¬ N<=k:=by omega
         clear hW;go_simp
        simp only [sX];refine tkL 11 (.agg (Qao b0)) aa (fun W hW=>?_) ?_
        ·exact mC7
        refine tkL 12 (.agg (Qao c)) aa (fun W hW=>?_) ?_
        ·exact mA2
        simp only [sX];refine onE 13 fun K hK=>?_;go_simp;refine (Qec b0 c).mono ?_;rintro e w2 ⟨rfl,an⟩;have ag:Hid (Bw W0 w2):=Qac aa an;clear an;dsimp only;refine gK hK ag.out ?_
        try simp only [sX]
        refine tkS 14 (.bool true) ag ?_;refine tkS 15 (.bool true) ag ?_;refine tkS 16 (.bool true) ag ?_;exact mDu
       | true=>
        have aH:decide (0<=QpV b0.n b0.s c.n c.s)=false:=by rw [av.out,hah];rfl
        have HH:=Qaa hah;clear av hah;have ab:(fun W=>Bw W0 W) W0.drew:=(ZZb _ _).drew;refine Qal (fun W=>Bw W0 W) 99 oG ?_;refine tkL 0 (.agg (Qao c)) ab (fun W hW=>?_) ?_
        ·exact mA2
        simp only [sX];refine onE 1 fun K hK=>?_;go_simp;refine (Qcr c (OK.out c ac) (SM.out c ac) (SS.out c ac) (au.past (Qac ad ab)) (QaD (HA.2 c ac) (Qac ad ab))).mono ?_;rintro e w1 ⟨rfl,ae⟩;rw [hri];have aa:Hid (Bw W0 w1):=(ab:Bw W0 W0.drew).trans (ae.mono (ZZa _));clear ae;dsimp only;refine gK hK aa.out ?_
        try simp only [sX]
        refine tkS 2 (.bool false) aa ?_;refine tkS 3 (.bool false) aa ?_;refine tkS 4 (.int .i64 ((k+1:Nat):Int)) aa ?_;simp only [sX];refine tkS 5 (.bool true) aa ?_;refine tkS 6 (.bool true) aa ?_;refine tkS 7 (.slice (some ⟨b,aw,none⟩) N ca) aa ?_;simp only [sX];refine tkS 8 (.int .i64 ((k+1:Nat):Int)) aa ?_;refine tkL 9 (.int .i64 (k:Int)) aa (fun W hW=>?_) ?_
        ·exact mB8
        refine tkL 10 (.pointer (some ⟨b,aw+k*15,none⟩)) aa (fun W hW=>?_) ?_
        ·have aJ:¬ N<=k:=by omega
         clear hW;go_simp
        simp only [sX];refine tkL 11 (.agg (Qao b0)) aa (fun W hW=>?_) ?_
        ·exact mC7
        refine tkL 12 (.agg (Qao c)) aa (fun W hW=>?_) ?_
        ·exact mA2
        simp only [sX];refine onE 13 fun K hK=>?_;go_simp;refine (Qec b0 c).mono ?_;rintro e w2 ⟨rfl,an⟩;have ag:Hid (Bw W0 w2):=Qac aa an;clear an;dsimp only;refine gK hK ag.out ?_
        try simp only [sX]
        refine tkS 14 (.bool false) ag ?_;refine tkS 15 (.bool false) ag ?_;refine tkS 16 (.bool false) ag ?_;exact mDu
     case rest=>
      obtain ⟨rfl,aq⟩:=hcut
      cases hri:(cRi c && cAh b0 c) with
      | false=>
       exact mDe
      | true=>
       have aA:Hid (cRs (Qc8 L (k+1+1)) (L.drop (k+1+1))=csR L):=by
        have:=ar.out;exact mD3
       go_wp2;go_roundw
       case rel=>exact ⟨k+1+1,by omega,by go_num,aA,aq⟩
       case measure=>simp [zI];omega
   ·obtain rfl:N=k:=by omega
    have ap:Hid (true=csR L):=by
     rw [<- ar.out,List.drop_eq_nil_of_le (oA HN.out)]
     cases Qc8 L N <;> exact Qaa rfl
    go_wp2;go_ret;exact ⟨QfW ap,ax⟩
 ·have d1:decide ((60:Int)<(N:Int))=true:=ZZh oB
  have HF:Hid (false=csR L):=by rw [HE.out,decide_eq_false h1];exact Qaa rfl
  go_enter func148,ntmps148;go_wp2;go_ret;exact ⟨QfW HF,ZZb _ _⟩
end Go.Proofs.YtioohanfodmddaaGreatDoor
