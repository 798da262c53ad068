/-
 Parts.
-/
import Derived.Test.YtlejlgldgafljaaGreatDoorVWA
import Derived.Lib.IndexBytes
import Derived.Deep.LoopGhost
import Derived.Lib.AppendIntMem
import Derived.Lib.ItoaMem
import Derived.Lib.ParseIntB
set_option maxRecDepth 10000
set_option maxHeartbeats 4000000
set_option linter.all false
namespace Go.Proofs.YtlejlgldgafljaaGreatDoor
open Go.RowKit Go.PlainAid Go.ChangeShapes Go.WideShapes Go.ChangeAt Go.Lib Tryz
section
def Qon (s:ByteArray):Bool:=decide (s.size<=20000)
def QuK (s:ByteArray):Bool:=decide (0<s.size) && (bt s 0 == 45)
def Qhv (s:ByteArray):ByteArray:=if QuK s=true then s.extract 1 s.size else s
end
variable {kd nm nm' p s t u wh y:ByteArray}
variable {B a i n o tc:Nat}
section
def Qlp (c:Int):Bool:=decide (48<=c) && decide (c<=57)
theorem QpZ {c:Int} (h:Qlp c=true):48<=c/\c<=57:=by
 unfold Qlp at h;have:=Bool.and_eq_true_iff.1 h;exact ⟨of_decide_eq_true this.1,of_decide_eq_true this.2⟩
def dig (s:ByteArray) (o n:Nat):Prop:=∀ j,j<n->48<=bt s (o+j)/\bt s (o+j)<=57
def Qkj (s:ByteArray) (o:Nat):Nat->Int
 | 0=>0
 | n+1=>Qkj s o n*10+(bt s (o+n) - 48)
theorem Qnb (h:dig s o n) (hd:Qlp (bt s (o+n))=true):dig s o (n+1):=by
 intro j hj;rcases Nat.lt_or_ge j n with k | k
 ·exact h j k
 ·rw [show j=n by omega];exact QpZ hd
theorem Qln {s:ByteArray} {o:Nat}:∀ n,dig s o n->0<=Qkj s o n/\Qkj s o n<10 ^ n
 | 0,_=>by simp [Qkj]
 | n+1,h=>by
  have ih:=Qln n (fun j hj=>h j (by omega));have hl:=h n (by omega);unfold Qkj;rw [Int.pow_succ];omega
theorem Qof (h:dig s o n) (hn:n<=12):0<=Qkj s o n/\Qkj s o n<=999999999999:=by
 have b:=Qln n h;have h0:=Nat.pow_le_pow_right (show 0<10 by omega) hn;have h1:(10:Int) ^ n<=10 ^ 12:=by exact_mod_cast h0
 have h2:(10:Int) ^ 12=1000000000000:=by decide
 omega
end
section
def QqV (u:ByteArray):Nat->Bool
 | 0=>true
 | k+1=>QqV u k && Qlp (bt u k)
theorem Qgi {u:ByteArray}:∀ k,QqV u k=true->dig u 0 k
 | 0,_=>fun j hj=>absurd hj (by omega)
 | k+1,h=>by
  have h':=Bool.and_eq_true_iff.1 h;exact Qnb (Qgi k h'.1) (by rw [Nat.zero_add];exact h'.2)
theorem QpR {u:ByteArray}:∀ k,dig u 0 k->QqV u k=true
 | 0,_=>rfl
 | k+1,h=>by
  have h1:=h k (by omega);rw [Nat.zero_add] at h1;exact Bool.and_eq_true_iff.2 ⟨QpR k (fun j hj=>h j (by omega)),by simp [Qlp,h1]⟩
def dgV (u:ByteArray):Int:=if QqV u u.size=true then Qkj u 0 u.size else 0
def dgB (u:ByteArray):Bool:=QqV u u.size && decide (0<u.size)
theorem Qpd {a c:Int} {p q:Bool} (h:a=c) (k:p=q):Ending.returned (.tuple #[.int .i64 a,.bool p])=.returned (.tuple #[.int .i64 c,.bool q]):=by rw [h,k]
theorem Qc0 (u:ByteArray) (hu:u.size<=12) (w:World) :
  Calls prog 160 #[.string u] w fun e w'=>e=.returned (.tuple #[.int .i64 (dgV u),.bool (dgB u)])/\w'=w:=by
 have aj:=get_bt u;go_enter func160,ntmps160;go_wp2
 go_loopw [4,5] (fun n i wr=>wr=w/\∃ k:Nat,k<=u.size/\i=.int .i64 k/\n=.int .i64 (Qkj u 0 k)/\dig u 0 k) (fun n i wr=>u.size - (Go.RowKit.intOf i).toNat)
 case atStart=>exact ⟨rfl,0,ZZj _,rfl,rfl,fun j hj=>absurd hj (by omega)⟩
 case round=>
  obtain ⟨rfl,k,hk,rfl,rfl,aa⟩:=hrel;have ai:=bt_nonneg u k;have al:=bt_le u k;have ab:=Qof aa (by omega);obtain ⟨V,hV⟩:∃ V,V=Qkj u 0 k:=⟨_,rfl⟩;rw [<- hV] at ab;rw [<- hV];by_cases ac:k<u.size
  ·have af:(k:Int)<(u.size:Int):=by omega
   have ad:(bt u k<48)∨(decide (bt u k<48)=false/\57<bt u k)∨(decide (bt u k<48)=false/\decide (57<bt u k)=false/\48<=bt u k/\bt u k<=57):=by
    simp only [decide_eq_false_iff_not];omega
   have HA:Hid (¬ (48<=bt u k/\bt u k<=57)->0=dgV u/\false=dgB u):=by
    intro hn
    have:QqV u u.size=false:=by
     cases h:QqV u u.size with
     | false=>rfl
     | true=>have:=Qgi _ h k ac;rw [Nat.zero_add] at this;exact absurd this hn
    unfold dgV dgB;rw [this];exact ⟨rfl,rfl⟩
   rcases ad with hd | ⟨hd,ae⟩ | ⟨hd,ae,ah,ag⟩
   ·clear aa hV
    go_wp2;go_ret2;exact ⟨Qpd (HA.out (by omega)).1 (HA.out (by omega)).2,rfl⟩
   ·clear aa hV
    go_wp2;go_ret2;exact ⟨Qpd (HA.out (by omega)).1 (HA.out (by omega)).2,rfl⟩
   ·have HD:Hid (dig u 0 (k+1)):=Qnb aa (by rw [Nat.zero_add];simp [Qlp,ah,ag])
    have HV:Hid (Qkj u 0 (k+1)=10*V+(bt u k - 48)):=(by show Qkj u 0 k*10+(bt u (0+k) - 48)=_;rw [Nat.zero_add,hV];omega:Qkj u 0 (k+1)=10*V+(bt u k - 48));clear aa hV;have ao:IntKind.u8.wrap (bt u k - 48)=bt u k - 48:=IntWalk.u8_in _ ⟨by omega,by omega⟩;have am:IntKind.i64.wrap (bt u k - 48)=bt u k - 48:=ZZi _ ⟨by omega,by omega⟩;have an:IntKind.i64.wrap (10*V)=10*V:=ZZi _ ⟨by omega,by omega⟩;have ak:IntKind.i64.wrap (10*V+(bt u k - 48))=10*V+(bt u k - 48):=ZZi _ ⟨by omega,by omega⟩;go_wp2;go_roundw
    case rel=>exact ⟨trivial,k+1,by omega,by go_num,by rw [HV.out],HD⟩
    case measure=>simp [zI];omega
  ·have e:k=u.size:=by omega
   subst e;have af:¬ (u.size:Int)<(u.size:Int):=by omega
   have HD:Hid (V=dgV u/\decide (0<u.size)=dgB u):=(by
    unfold dgV dgB;rw [QpR _ aa];exact ⟨hV,by simp⟩:V=dgV u/\decide (0<u.size)=dgB u)
   clear aa hV;go_wp2;go_ret2;exact ⟨Qpd HD.1 HD.2,rfl⟩
end
section
end
section
theorem Qox (hu:u.size<=12):0<=dgV u/\dgV u<=999999999999:=by
 unfold dgV;split
 ·exact Qof (Qgi _ ‹_›) hu
 ·omega
theorem dgV_6 (hu:u.size<=6):0<=dgV u*10 ^ (6 - u.size)/\dgV u*10 ^ (6 - u.size)<=999999:=by
 unfold dgV;split
 ·have b:=Qln u.size (Qgi _ ‹_›)
  revert b
  generalize Qkj u 0 u.size=x;generalize u.size=p at hu;have hc:p=0∨p=1∨p=2∨p=3∨p=4∨p=5∨p=6:=by omega
  intro b;rcases hc with rfl | rfl | rfl | rfl | rfl | rfl | rfl <;> simp only [show (10:Int) ^ 1=10 from rfl,show (10:Int) ^ 2=100 from rfl,show (10:Int) ^ 3=1000 from rfl,show (10:Int) ^ 4=10000 from rfl,show (10:Int) ^ 5=100000 from rfl,show (10:Int) ^ 6=1000000 from rfl,Nat.reduceSub,show (10:Int) ^ 0=1 from rfl] at b ⊢ <;> omega
 ·simp
end
section
theorem QgC (t:ByteArray) (b:Int) (ht:t.size<=1048576) (hb:0<=b/\b<=255) (w:World) :
  Calls prog 111 #[.string t,.int .u8 b] w fun e w'=>∃ g cap,e=.returned (.slice (some ⟨g,0,none⟩) (Qbh t b).length cap)/\w.heap.size<=g/\(Qbh t b).length<=cap/\(∀ j u,(Qbh t b)[j]?=some u->w'.cell? ⟨g,j,none⟩=some (.string u))/\Bw w w':=Qka t b ht hb w
end
section
theorem QsF (t:ByteArray) (b:Int):1<=(Qbh t b).length:=by rw [Qgg];omega
end
def vr0 (L:List ByteArray):ByteArray:=L[0]?.getD ByteArray.empty
def vr1 (L:List ByteArray):ByteArray:=L[1]?.getD ByteArray.empty
def Qg7 (L:List ByteArray):Bool:=decide (2<L.length) || (decide (12<(vr0 L).size) || (decide (1<(vr0 L).size) && (bt (vr0 L) 0 == 48)))
def vrTwo (L:List ByteArray):Bool:=dgB (vr0 L) && decide (L.length=2)
def Qmq (L:List ByteArray):Bool:=dgB (vr0 L) && (decide (L.length≠2) || (decide ((vr1 L).size<=6) && dgB (vr1 L)))
def vrN (L:List ByteArray):Int:=dgV (vr0 L)*1000000+if L.length=2 then dgV (vr1 L)*10 ^ (6 - (vr1 L).size) else 0
def rvC (s:ByteArray):Int:=if Qon s=true then (if Qg7 (Qbh (Qhv s) 46)=false/\Qmq (Qbh (Qhv s) 46)=true then 0 else 3) else 2
def rvV (s:ByteArray):Int:=if Qon s=true/\Qg7 (Qbh (Qhv s) 46)=false/\Qmq (Qbh (Qhv s) 46)=true then (if QuK s=true then -vrN (Qbh (Qhv s) 46) else vrN (Qbh (Qhv s) 46)) else 0
theorem Qsj {b:Nat} (h:a<=b):(0:Int)<10 ^ a/\(10:Int) ^ a<=10 ^ b:=by
 have aa:∀ n:Nat,(0:Int)<10 ^ n:=fun n=>by
  induction n with
  | zero=>decide
  | succ n ih=>rw [Int.pow_succ];omega
 refine ⟨aa a,?_⟩;obtain ⟨d,rfl⟩:=Nat.exists_eq_add_of_le h;clear h
 induction d with
 | zero=>exact Int.le_refl _
 | succ d ih=>rw [<- Nat.add_assoc,Int.pow_succ];have:=aa (a+d);omega
variable {L ps:List ByteArray}
theorem Qtf (h:Qg7 L=false) (k:Qmq L=true):0<=vrN L/\vrN L<=999999999999999999:=by
 unfold Qg7 at h;unfold Qmq at k;simp only [Bool.or_eq_false_iff,decide_eq_false_iff_not,yB,Bool.or_eq_true,decide_eq_true_eq] at h k;obtain ⟨a,b⟩:=Qox (u:=vr0 L) (by omega);unfold vrN
 split
 ·rename_i h2
  obtain ⟨c,d⟩:=dgV_6 (u:=vr1 L) (by rcases k.2 with q | q;exact absurd h2 q;exact q.1);omega
 ·omega
theorem rv_bd (s:ByteArray):-999999999999999999<=rvV s/\rvV s<=999999999999999999:=by
 unfold rvV
 split
 ·rename_i h
  have:=Qtf h.2.1 h.2.2
  split <;> omega
 ·omega
variable {W w w' wr:World}
theorem vr_box {r:Nat} (h:w.heap[r]?=some (.cells #[.int .i64 0,.int .i64 0] 163 (0,0))):w.cell? ⟨r,0,none⟩=some (.int .i64 0)/\w.cell? ⟨r,1,none⟩=some (.int .i64 0):=⟨by rw [cell_of_row w r 0 _ _ _ h];rfl,by rw [cell_of_row w r 1 _ _ _ h];rfl⟩
theorem QeP (s:ByteArray) (hs:s.size<=maxLen) (w:World) :
  Calls prog 116 #[.string s] w fun e w'=>e=.returned (.agg #[.int .i64 (rvV s),.int .i64 (rvC s)])/\Bw w w':=by
 have a0:Bw w (w.alloc (.cells #[.int .i64 0,.int .i64 0] 163)):=bA;unfold maxLen at hs
 cases hf:Qon s with
 | false=>
  have hz:(20000:Int)<(s.size:Int):=by unfold Qon at hf;have:=of_decide_eq_false hf;omega
  have HE:Hid (rvV s=0/\rvC s=2):=Qaa ⟨by unfold rvV;rw [if_neg (by rw [hf];simp)],by unfold rvC;rw [if_neg (by rw [hf];simp)]⟩;clear hf a0;go_enter func116,ntmps116;go_wp2;exact bodyPost_ret (v:=.agg #[.int .i64 0,.int .i64 2]) (by simp [results,results116,go_sem]) rfl ⟨by rw [HE.1,HE.2],(Below.refl _ _).alloc (Nat.le_refl _) _⟩
 | true=>
  have aW:s.size<=20000:=of_decide_eq_true hf;have hz:¬ (20000:Int)<(s.size:Int):=by omega
  obtain ⟨T,hT⟩:∃ T,Qhv s=T:=⟨_,rfl⟩;obtain ⟨L,hL⟩:∃ L,Qbh T 46=L:=⟨_,rfl⟩
  have aS:T.size<=20000:=by
   rw [<- hT];unfold Qhv
   split
   ·simp;omega
   ·omega
  have an:=Qaa (QgC T 46 (by omega) ⟨by omega,by omega⟩);have h1:1<=L.length:=by rw [<- hL];exact QsF T 46
  have aq:∀ u∈L,u.size<=20000:=fun u hu=>by rw [<- hL] at hu;have:=QdZ T 46 u hu;omega
  have HC:Hid (rvC s=if Qg7 L=false/\Qmq L=true then 0 else 3):=Qaa (by unfold rvC;rw [if_pos hf,hT,hL]);have HV:Hid (rvV s=if Qg7 L=false/\Qmq L=true then (if QuK s=true then -vrN L else vrN L) else 0):=Qaa (by unfold rvV;rw [hT,hL];simp only [hf,true_and])
  rw [hL] at an;obtain ⟨u0,h0⟩:∃ u,L[0]?=some u:=⟨L[0]'(by omega),ZZe _⟩;have e0:vr0 L=u0:=by unfold vr0;rw [h0];rfl
  have aP:=aq u0 (ZZn h0);obtain ⟨nb,ar⟩:∃ b,QuK s=b:=⟨_,rfl⟩;obtain ⟨db,aw⟩:∃ b,dgB u0=b:=⟨_,rfl⟩;rw [ar] at HV;have ad:=Qaa ar;have aj:=Qaa aw;have ae:=Qaa (ZZk w (.cells #[.int .i64 0,.int .i64 0] 163));have am:=Qaa a0;have ah:=Qaa hT;have H0:=Qaa h0;have E0:=Qaa e0;have aA:=Qaa aq;clear hf hL a0 hT h0 e0 aq ar aw;go_enter func116,ntmps116;go_upto_region 3 with fail;generalize w.alloc _=W0 at ae am ⊢
  go_cut [3] (fun b w'=>b=.bool nb/\w'=W0)
  case first=>
   have aV:=get_bt s;by_cases k:0<s.size
   ·have ki:(0:Int)<(s.size:Int):=by omega
    have e:nb=(bt s 0 == 45):=by rw [<- ad.out];unfold QuK;rw [decide_eq_true k];rfl
    have E:=Qaa e;clear e;go_wp2;go_meet;exact ⟨by rw [E.out],rfl⟩
   ·have ki:¬ (0:Int)<(s.size:Int):=by omega
    have E:Hid (nb=false):=Qaa (by rw [<- ad.out];unfold QuK;rw [decide_eq_false k];rfl);go_wp2;go_meet;exact ⟨by rw [E.out],rfl⟩
  case rest=>
  obtain ⟨rfl,hw⟩:=hcut;obtain rfl:=hw.symm;go_upto_if 21 with fail
  go_cut [0] (fun t w'=>t=.string T/\w'=W0)
  case first=>
   cases nb with
   | true=>
    have aM:(1:Int)<=(s.size:Int):=by have hn:=ad.out;unfold QuK at hn;have:=of_decide_eq_true (Bool.and_eq_true_iff.1 hn).1;omega
    have E:Hid (s.extract 1 s.size=T):=Qaa (by rw [<- ah.out];unfold Qhv;rw [if_pos ad.out]);go_wp2;go_meet;exact ⟨by rw [<- E.out],rfl⟩
   | false=>
    have E:Hid (s=T):=Qaa (by rw [<- ah.out];unfold Qhv;rw [if_neg (by rw [ad.out];simp)]);go_wp2;go_meet;exact ⟨by rw [<- E.out],rfl⟩
  case rest=>
  obtain ⟨rfl,hw⟩:=hcut;obtain rfl:=hw.symm;go_wp2_with fail;refine (an.out W0).mono ?_;rintro e w1 ⟨g,aL,rfl,hg,aH,aa,ao⟩;have af:=Qaa (Qac am ao);have al:Hid (w1.heap[w.heap.size]?=some (.cells #[.int .i64 0,.int .i64 0] 163 (0,0))):=Qaa (by rw [ao.block _ (Array.getElem?_eq_some_iff.1 ae.out).1];exact ae.out);have c0:=aa 0 u0 H0;have aC:=Qaa aa;have aD:L.length<=20001∨True:=.inr trivial;have aO:(0:Int)<(L.length:Int):=by omega
  clear aa ao an ae am ah aD hg aH;go_upto_region 7 with fail
  go_cut [49] (fun b w'=>b=.bool (Qg7 L)/\w'=w1)
  case first=>
   have aU:=get_bt u0;have EB:Hid (Qg7 L=(decide (2<L.length) || (decide (12<u0.size) || (decide (1<u0.size) && (bt u0 0 == 48))))):=Qaa (by unfold Qg7;rw [E0.out]);by_cases n2:2<L.length
   ·have aF:(2:Int)<(L.length:Int):=by omega
    go_wp2;go_meet;exact ⟨by rw [EB.out,decide_eq_true n2];rfl,rfl⟩
   ·have aF:¬ (2:Int)<(L.length:Int):=by omega
    by_cases ak:12<u0.size
    ·have au:(12:Int)<(u0.size:Int):=by omega
     go_wp2;go_meet;exact ⟨by rw [EB.out,decide_eq_true ak];simp,rfl⟩
    ·have au:¬ (12:Int)<(u0.size:Int):=by omega
     by_cases l1:1<u0.size
     ·have aI:(1:Int)<(u0.size:Int):=by omega
      go_wp2;go_meet;exact ⟨by rw [EB.out,decide_eq_false n2,decide_eq_false ak,decide_eq_true l1];rfl,rfl⟩
     ·have aI:¬ (1:Int)<(u0.size:Int):=by omega
      go_wp2;go_meet;exact ⟨by rw [EB.out,decide_eq_false n2,decide_eq_false ak,decide_eq_false l1];rfl,rfl⟩
  case rest=>
  obtain ⟨rfl,hw⟩:=hcut;obtain rfl:=hw.symm;obtain ⟨s0,s1⟩:=vr_box al;have f0:=fzR 0 al;have f1:=fzR 1 al
  cases hbad:Qg7 L with
  | true=>
   have HE:Hid (rvV s=0/\rvC s=3):=Qaa ⟨by rw [HV.out,if_neg (by rw [hbad];simp)],by rw [HC.out,if_neg (by rw [hbad];simp)]⟩;clear hbad;go_wp2;exact bodyPost_ret (v:=.agg #[.int .i64 0,.int .i64 3]) (by simp [results,results116,go_sem,s0,s1]) rfl ⟨by rw [HE.1,HE.2],(af.setCell (by simp) _).setCell (by simp) _⟩
  | false=>
   have hB:=hbad;unfold Qg7 at hB;simp only [Bool.or_eq_false_iff,decide_eq_false_iff_not,E0.out] at hB;have l2:L.length<=2:=by omega
   have av:u0.size<=12:=by omega
   obtain ⟨d0,d1⟩:=Qox av;have aQ:IntKind.i64.wrap (dgV u0*1000000)=dgV u0*1000000:=ZZi _ ⟨by omega,by omega⟩;have ab:=Qaa hbad;clear hB hbad;go_wp2_with fail;refine (Qc0 u0 av w1).mono ?_;rintro e w2 ⟨rfl,hw⟩;obtain rfl:=hw.symm;rw [aj.out];obtain ⟨qb,ax⟩:∃ b,(db && decide (L.length=2))=b:=⟨_,rfl⟩;have ac:=Qaa ax;clear ax;go_upto_region 11 with fail
   go_cut [65] (fun b w'=>b=.bool qb/\w'=w1)
   case first=>
    cases db with
    | false=>
     go_wp2;go_meet;exact ⟨by rw [<- ac.out];rfl,rfl⟩
    | true=>
     by_cases e2:L.length=2
     ·have aJ:((L.length:Int) == 2)=true:=by simp [e2]
      go_wp2;go_meet;exact ⟨by rw [<- ac.out,decide_eq_true e2];rfl,rfl⟩
     ·have aJ:((L.length:Int) == 2)=false:=ZZf.2 (by omega)
      go_wp2;go_meet;exact ⟨by rw [<- ac.out,decide_eq_false e2];rfl,rfl⟩
   case rest=>
   obtain ⟨rfl,hw⟩:=hcut;obtain rfl:=hw.symm;go_upto_if 65 with fail
   go_cut [5,6] (fun nv okv w'=>∃ nn:Int,nv=.int .i64 nn/\okv=.bool (Qmq L)/\(Qmq L=true->nn=vrN L)/\w'=w1)
   case first=>
    cases qb with
    | false=>
     have EO:Hid (Qmq L=db/\(Qmq L=true->dgV u0*1000000=vrN L)):=Qaa (by
      have hq:=ac.out;unfold Qmq vrN;rw [E0.out,aj.out]
      cases db with
      | false=>exact ⟨rfl,fun h=>by simp at h⟩
      | true=>
       have h2:¬ L.length=2:=by simpa using hq
       exact ⟨by simp [h2],fun _=>by rw [if_neg h2];omega⟩)
     go_wp2;go_meet;exact ⟨_,rfl,by rw [EO.1],EO.2,rfl⟩
    | true=>
     have h2:L.length=2:=by simpa using (Bool.and_eq_true_iff.1 ac).2
     have ay:dgB u0=true:=by rw [aj.out];exact (Bool.and_eq_true_iff.1 ac).1
     obtain ⟨u1,ag⟩:∃ u,L[1]?=some u:=⟨L[1]'(by omega),ZZe _⟩;have c1:=aC.out 1 u1 ag;have aN:=aA.out u1 (ZZn ag);have aY:(1:Int)<(L.length:Int):=by omega
     have EO:Hid (Qmq L=(decide (u1.size<=6) && dgB u1)/\vrN L=dgV u0*1000000+dgV u1*10 ^ (6 - u1.size)):=Qaa (by
      have e1:vr1 L=u1:=by unfold vr1;rw [ag];rfl
      unfold Qmq vrN;rw [E0.out,e1,if_pos h2,ay];exact ⟨by simp [h2],rfl⟩)
     clear ay ag h2;by_cases h6:u1.size<=6
     ·have az:(u1.size:Int)<=6:=by omega
      go_wp2_with fail;refine (Qc0 u1 (by omega) w1).mono ?_;rintro e w2 ⟨rfl,hw⟩;obtain rfl:=hw.symm;obtain ⟨m0,m1⟩:=dgV_6 h6;go_wp2_with fail
      go_loopw [7,8] (fun mv kv wr=>wr=w1/\∃ kk:Nat,u1.size<=kk/\kk<=6/\kv=.int .i64 kk/\mv=.int .i64 (dgV u1*10 ^ (kk - u1.size))) (fun mv kv wr=>6 - (Go.RowKit.intOf kv).toNat)
      case atStart=>exact ⟨rfl,u1.size,Nat.le_refl _,h6,rfl,by simp⟩
      case round=>
       obtain ⟨rfl,kk,k1,k2,rfl,rfl⟩:=hrel;by_cases hk:kk<6
       ·have aG:(kk:Int)<6:=by omega
        have aT:IntKind.i64.wrap ((kk:Int)+1)=((kk+1:Nat):Int):=by rw [show (kk:Int)+1=((kk+1:Nat):Int) by omega];exact ZZi _ ⟨by omega,by omega⟩
        have hp:(10:Int) ^ (kk+1 - u1.size)=10 ^ (kk - u1.size)*10:=by rw [show kk+1 - u1.size=(kk - u1.size)+1 by omega,Int.pow_succ]
        obtain ⟨z0,z1⟩:=Qsj (a:=kk - u1.size) (b:=6 - u1.size) (by omega);obtain ⟨y0,y1⟩:=Qox (u:=u1) (by omega);have q0:0<=dgV u1*10 ^ (kk - u1.size):=Int.mul_nonneg y0 (by omega);have q1:dgV u1*10 ^ (kk - u1.size)<=dgV u1*10 ^ (6 - u1.size):=Int.mul_le_mul_of_nonneg_left z1 y0;have aK:IntKind.i64.wrap (dgV u1*10 ^ (kk - u1.size)*10)=dgV u1*10 ^ (kk - u1.size)*10:=ZZi _ ⟨by omega,by omega⟩;have HE:Hid (dgV u1*10 ^ (kk - u1.size)*10=dgV u1*10 ^ (kk+1 - u1.size)):=Qaa (by rw [hp,Int.mul_assoc]);clear hp z0 z1 y0 y1 q0 q1;go_wp2;go_roundw
        case rel=>exact ⟨by first | rfl | trivial,kk+1,by omega,by omega,by first | rfl | trivial | go_num,by first | rfl | rw [HE.out]⟩
        case measure=>simp [zI];omega
       ·obtain rfl:kk=6:=by omega
        have aG:¬ ((6:Nat):Int)<6:=by omega
        have aB:IntKind.i64.wrap (dgV u0*1000000+dgV u1*10 ^ (6 - u1.size))=dgV u0*1000000+dgV u1*10 ^ (6 - u1.size):=ZZi _ ⟨by omega,by omega⟩;go_wp2;go_meet;exact ⟨_,rfl,by rw [EO.1,decide_eq_true h6];rfl,fun _=>EO.2.symm,rfl⟩
     ·have az:¬ (u1.size:Int)<=6:=by omega
      have aR:¬ (u1.size:Int)<6:=by omega
      have aX:IntKind.i64.wrap (dgV u0*1000000+0)=dgV u0*1000000+0:=ZZi _ ⟨by omega,by omega⟩;go_wp2_with fail
      go_loopw [7,8] (fun mv kv wr=>wr=w1/\kv=.int .i64 (u1.size:Int)/\mv=.int .i64 0) (fun mv kv wr=>0)
      case atStart=>exact ⟨rfl,rfl,rfl⟩
      case round=>
       obtain ⟨rfl,rfl,rfl⟩:=hrel;go_wp2;go_meet;exact ⟨_,rfl,by rw [EO.1,decide_eq_false h6];rfl,fun h=>(by rw [EO.1,decide_eq_false h6] at h;cases h),rfl⟩
   case rest=>
   obtain ⟨nn,rfl,rfl,ap,hw⟩:=hcut;obtain rfl:=hw.symm
   cases hok:Qmq L with
   | false=>
    have HE:Hid (rvV s=0/\rvC s=3):=Qaa ⟨by rw [HV.out,if_neg (by rw [hok];simp)],by rw [HC.out,if_neg (by rw [hok];simp)]⟩;clear hok ap;go_wp2;exact bodyPost_ret (v:=.agg #[.int .i64 0,.int .i64 3]) (by simp [results,results116,go_sem,s0,s1]) rfl ⟨by rw [HE.1,HE.2],(af.setCell (by simp) _).setCell (by simp) _⟩
   | true=>
    have aE:=ap hok;subst aE;obtain ⟨b0,b1⟩:=Qtf ab hok;have aB:IntKind.i64.wrap (-vrN L)=-vrN L:=ZZi _ ⟨by omega,by omega⟩;have HE:Hid (rvV s=(if nb=true then -vrN L else vrN L)/\rvC s=0):=Qaa ⟨by rw [HV.out,if_pos ⟨ab.out,hok⟩],by rw [HC.out,if_pos ⟨ab.out,hok⟩]⟩;clear hok ap
    cases nb with
    | true=>
     have ai:Hid (rvV s=-vrN L):=Qaa (by rw [HE.1,if_pos rfl]);go_wp2;exact bodyPost_ret (v:=.agg #[.int .i64 (-vrN L),.int .i64 0]) (by simp [results,results116,go_sem,s0,s1]) rfl ⟨by rw [ai.out,HE.2],(af.setCell (by simp) _).setCell (by simp) _⟩
    | false=>
     have ai:Hid (rvV s=vrN L):=Qaa (by rw [HE.1,if_neg (by simp)]);go_wp2;exact bodyPost_ret (v:=.agg #[.int .i64 (vrN L),.int .i64 0]) (by simp [results,results116,go_sem,s0,s1]) rfl ⟨by rw [ai.out,HE.2],(af.setCell (by simp) _).setCell (by simp) _⟩
variable {c:UInt8}
section
def Qdg (c:UInt8) (K:List ByteArray):List UInt8:=Lib.join (K.map toL) [c]
theorem Qhh (c:UInt8) (x:ByteArray):Qdg c [x]=toL x:=Lib.join_one _ _
theorem Qfl (c:UInt8) (y z:ByteArray) (r:List ByteArray):Qdg c (y :: z :: r)=toL y ++ c :: Qdg c (z :: r):=by
 unfold Qdg;rw [List.map_cons,List.map_cons,Lib.join_cons,Lib.join_cons];simp [Lib.joinTail]
theorem QnM {K:List ByteArray} (h:K≠[]) (x:ByteArray):Qdg c (K ++ [x])=Qdg c K ++ c :: toL x:=by
 cases K with
 | nil=>exact absurd rfl h
 | cons y r=>
  unfold Qdg;rw [List.cons_append,List.map_cons,List.map_cons,Lib.join_cons,Lib.join_cons,List.map_append,List.map_cons,List.map_nil,QjE];simp
theorem QfO {c:UInt8}:∀ {K:List ByteArray} {n:Nat},K≠[]->(∀ x∈K,c ∉ toL x)->K.length<=n+1->Lib.splitK [c] 0 n (Qdg c K)=K.map toL
 | [],n,h,_,_=>absurd rfl h
 | [y],n,_,hn,_=>by
  have hi:=QeM (hn y List.mem_cons_self);rw [Qhh]
  cases n with
  | zero=>rfl
  | succ n=>unfold Lib.splitK;rw [hi];rfl
 | y :: z :: r,n,_,hn,hl=>by
  cases n with
  | zero=>simp at hl
  | succ n=>
   have hi:=QdP (r:=Qdg c (z :: r)) (hn y List.mem_cons_self);have ih:=QfO (c:=c) (K:=z :: r) (n:=n) (by simp) (fun x hx=>hn x (List.mem_cons_of_mem _ hx)) (by simp at hl ⊢; omega);rw [Qfl];unfold Lib.splitK;rw [hi,if_neg (by simp)];simp only [Int.toNat_natCast,Nat.add_zero,List.length_cons,List.length_nil];rw [List.take_left,show (toL y ++ c :: Qdg c (z :: r)).drop ((toL y).length+(0+1))=Qdg c (z :: r) by rw [<- List.drop_drop,List.drop_left];rfl,ih]
   rfl
theorem QgG {c:UInt8}:∀ {K:List ByteArray} {f:Nat},K≠[]->(∀ x∈K,c ∉ toL x)->K.length<=f->Lib.countFrom [c] f (Qdg c K)+1=K.length
 | [],f,h,_,_=>absurd rfl h
 | [y],f,_,hn,hl=>by
  have hi:=QeM (hn y List.mem_cons_self);rw [Qhh]
  cases f with
  | zero=>simp at hl
  | succ f=>unfold Lib.countFrom;rw [hi];rfl
 | y :: z :: r,f,_,hn,hl=>by
  cases f with
  | zero=>simp at hl
  | succ f=>
   have hi:=QdP (r:=Qdg c (z :: r)) (hn y List.mem_cons_self);have ih:=QgG (c:=c) (K:=z :: r) (f:=f) (by simp) (fun x hx=>hn x (List.mem_cons_of_mem _ hx)) (by simp at hl ⊢; omega);rw [Qfl];unfold Lib.countFrom;rw [hi,if_neg (by simp)];simp only [Int.toNat_natCast,List.length_cons,List.length_nil];rw [show (toL y ++ c :: Qdg c (z :: r)).drop ((toL y).length+(0+1))=Qdg c (z :: r) by rw [<- List.drop_drop,List.drop_left];rfl];simp only [List.length_cons] at ih;omega
theorem QdD (c:UInt8):∀ (K:List ByteArray),K.length<=(Qdg c K).length+1
 | []=>by simp
 | [y]=>by simp
 | y :: z :: r=>by
  have ih:=QdD c (z :: r);rw [Qfl];simp only [List.length_append,List.length_cons] at ih ⊢;omega
theorem Qo1 {c:UInt8}:∀ {l:List UInt8},c∈l->∃ u x,l=u ++ c :: x/\c ∉ x
 | y :: l,h=>by
  by_cases hl:c∈l
  ·obtain ⟨u,x,e,hx⟩:=Qo1 hl
   exact ⟨y :: u,x,by rw [e];rfl,hx⟩
  ·rcases List.mem_cons.1 h with rfl | h
   ·exact ⟨[],l,rfl,hl⟩
   ·exact absurd h hl
theorem QdR {c:UInt8}:∀ (n:Nat) (t:ByteArray),t.size<=n->Qbh t (c.toNat:Int)≠[]/\(∀ x∈Qbh t (c.toNat:Int),c ∉ toL x)/\Qdg c (Qbh t (c.toNat:Int))=toL t
 | n,t,hn=>by
  by_cases h:c∈toL t
  ·obtain ⟨u,x,e,hx⟩:=Qo1 h
   have hs:=QgF (t:=t) (u:=⟨u.toArray⟩) (x:=⟨x.toArray⟩) (c:=c) (by rw [Qba,Qba];exact e) (by rw [Qba];exact hx);have hl:u.length<t.size:=by rw [<- Qaq,e];simp
   match n,hn with
   | 0,hn=>omega
   | n+1,hn=>
    have aa:(⟨u.toArray⟩:ByteArray).size=u.length:=by rw [<- Qaq,Qba]
    obtain ⟨i1,i2,i3⟩:=QdR n ⟨u.toArray⟩ (by rw [aa];omega);rw [hs];refine ⟨by simp,fun y hy=>?_,?_⟩
    ·rcases List.mem_append.1 hy with hy | hy
     ·exact i2 y hy
     ·obtain rfl:=List.mem_singleton.1 hy
      rw [Qba];exact hx
    ·rw [QnM i1,i3,Qba,Qba,e]
  ·rw [QgM h]
   exact ⟨by simp,fun x hx=>by obtain rfl:=List.mem_singleton.1 hx;exact h,Qhh c t⟩
theorem Qhd (c:UInt8) (t:ByteArray):Lib.splitB ⟨#[c]⟩ 0 (Lib.countB t ⟨#[c]⟩) t=Qbh t (c.toNat:Int):=by
 obtain ⟨h1,h2,h3⟩:=QdR (c:=c) t.size t (ZZa _)
 have hc:Lib.countB t ⟨#[c]⟩+1=(Qbh t (c.toNat:Int)).length:=by
  have e:Lib.countB t ⟨#[c]⟩=Lib.countFrom [c] ((toL t).length+1) (toL t):=by
   show Lib.count _ _=_
   unfold Lib.count toL;simp
  rw [e,<- h3];exact QgG h1 h2 (by have:=QdD c (Qbh t (c.toNat:Int));omega)
 have hd:=Lib.splitB_data ⟨#[c]⟩ 0 (Lib.countB t ⟨#[c]⟩) t;have hs:=QfO (n:=Lib.countB t ⟨#[c]⟩) h1 h2 (by omega);rw [h3] at hs;have aa:(Lib.splitB ⟨#[c]⟩ 0 (Lib.countB t ⟨#[c]⟩) t).map toL=(Qbh t (c.toNat:Int)).map toL:=hd.trans (by simpa [toL] using hs);exact (List.map_inj_right (fun a b e=>Qbc e)).1 aa
end
section
def tlF (a:Nat) (l:List UInt8):Nat:=l.foldl (fun a x=>a*10+(x.toNat - 48)) a
def tlD (l:List UInt8):Prop:=∀ x∈l,48<=x.toNat/\x.toNat<=57
theorem QiT (a:Nat) (l:List UInt8) (x:UInt8):tlF a (l ++ [x])=tlF a l*10+(x.toNat - 48):=by unfold tlF;rw [List.foldl_append];rfl
theorem Qi7 (a:Nat) (l:List UInt8) (x:UInt8):tlF a (x :: l)=tlF (a*10+(x.toNat - 48)) l:=by unfold tlF;rw [List.foldl_cons]
theorem QqO:∀ (l:List UInt8) (a:Nat),a<=tlF a l
 | [],a=>ZZa _
 | x :: l,a=>by rw [Qi7];have:=QqO l (a*10+(x.toNat - 48));omega
theorem QbX {d:Nat} (h:d<10):(UInt8.ofNat (48+d)).toNat=48+d:=by
 rw [UInt8.toNat_ofNat'];exact Nat.mod_eq_of_lt (by omega)
theorem Qg2 {x:UInt8} (h:48<=x.toNat/\x.toNat<=57):UInt8.ofNat (48+(x.toNat - 48))=x:=by
 apply UInt8.toNat_inj.1;rw [QbX (by omega)];omega
theorem QsY:∀ (n:Nat) (l:List UInt8),l.length=n+1->tlD l->(1<l.length->l[0]?≠some 48)->Lib.decDigits (tlF 0 l)=l
 | 0,l,hl,hd,_=>by
  obtain ⟨x,rfl⟩:=List.length_eq_one_iff.1 hl;have hx:=hd x (by simp);have e:tlF 0 [x]=x.toNat - 48:=by simp [tlF]
  rw [e,Lib.decDigits_one (by omega),Qg2 hx]
 | n+1,l,hl,hd,h0=>by
  rcases List.eq_nil_or_concat l with rfl | ⟨l',x,rfl⟩
  ·simp at hl
  ·rw [List.concat_eq_append] at hl hd h0 ⊢
   have ac:l'.length=n+1:=by simpa using hl
   have hx:=hd x (by simp);have aa:tlD l':=fun y hy=>hd y (List.mem_append_left _ hy)
   have ab:l'[0]?≠some 48:=by
    have:=h0 (by simp;omega)
    rwa [List.getElem?_append_left (by omega)] at this
   have ih:=QsY n l' ac aa (fun _=>ab)
   have ad:1<=tlF 0 l':=by
    cases l' with
    | nil=>simp at ac
    | cons y r=>
     rw [Qi7];have hy:=aa y (by simp);have ae:y≠48:=fun e=>ab (by rw [e];rfl);have af:y.toNat≠48:=fun e=>ae (UInt8.toNat_inj.1 e);have:=QqO r (0*10+(y.toNat - 48));omega
   rw [QiT,Qeq (by omega),show (tlF 0 l'*10+(x.toNat - 48)) / 10=tlF 0 l' by omega,show (tlF 0 l'*10+(x.toNat - 48)) % 10=x.toNat - 48 by omega,ih,Qg2 hx]
theorem Qfa (n:Nat):tlD (Lib.decDigits n)/\tlF 0 (Lib.decDigits n)=n/\1<=(Lib.decDigits n).length:=by
 induction n using Nat.strongRecOn with
 | _ n ih=>
  by_cases h:n<10
  ·rw [Lib.decDigits_one h]
   refine ⟨fun x hx=>?_,?_,by simp⟩
   ·rw [List.mem_singleton.1 hx,QbX h];omega
   ·show 0*10+((UInt8.ofNat (48+n)).toNat - 48)=n
    rw [QbX h];omega
  ·obtain ⟨i1,i2,i3⟩:=ih (n / 10) (by omega)
   rw [Qeq h];refine ⟨fun x hx=>?_,?_,by simp⟩
   ·rcases List.mem_append.1 hx with hx | hx
    ·exact i1 x hx
    ·rw [List.mem_singleton.1 hx,QbX (Nat.mod_lt n (by omega))];have:=Nat.mod_lt n (show 10 > 0 by omega);omega
   ·rw [QiT,i2,QbX (Nat.mod_lt n (by omega))];omega
theorem Qh1:∀ (l:List UInt8) (a:Nat),tlD l->tlF a l<=1000000000000->Lib.parseUintM (2 ^ 64 - 1) a l=.ok (tlF a l)
 | [],a,_,_=>rfl
 | x :: l,a,hd,hm=>by
  have hx:=hd x (by simp);rw [Qi7] at hm ⊢;have h1:=QqO l (a*10+(x.toNat - 48));unfold Lib.parseUintM;rw [if_pos hx,if_neg (by omega),if_neg (by omega)];exact Qh1 l _ (fun y hy=>hd y (ZZm _ hy)) hm
def TimP (t:ByteArray) (n:Nat):Prop:=toL t=Lib.decDigits n/\n<=1000000000
theorem TimP.parse (h:TimP t n):Lib.parseUintB 64 (toL t)=.ok n:=by
 obtain ⟨h1,h2,h3⟩:=Qfa n;unfold Lib.parseUintB;rw [h.1,if_neg (fun e=>by rw [e] at h3;simp at h3)];have:=Qh1 (Lib.decDigits n) 0 h1 (by rw [h2];have:=h.2;omega);rw [this,h2]
theorem Qm2:∀ (k n:Nat),n<10 ^ (k+1)->(Lib.decDigits n).length<=k+1
 | 0,n,h=>by rw [Lib.decDigits_one (by simpa using h)];simp
 | k+1,n,h=>by
  by_cases hn:n<10
  ·rw [Lib.decDigits_one hn];simp
  ·rw [Qeq hn,List.length_append]
   have:=Qm2 k (n / 10) (by rw [Nat.pow_succ] at h;omega);simp only [List.length_cons,List.length_nil];omega
theorem QrV (n:Nat):1<(Lib.decDigits n).length->(Lib.decDigits n)[0]?≠some 48:=by
 induction n using Nat.strongRecOn with
 | _ n ih=>
  by_cases h:n<10
  ·rw [Lib.decDigits_one h];intro hl;simp at hl
  ·intro _
   have h3:=(Qfa (n / 10)).2.2;rw [Qeq h,List.getElem?_append_left (by omega)];by_cases h2:n / 10<10
   ·rw [Lib.decDigits_one h2]
    intro e;have e2:UInt8.ofNat (48+n / 10)=48:=by simpa using e
    have e3:=congrArg UInt8.toNat e2;rw [QbX h2] at e3;have:(48:UInt8).toNat=48:=rfl;omega
   ·refine ih (n / 10) (by omega) ?_
    have h4:=(Qfa (n / 10 / 10)).2.2;rw [Qeq h2,List.length_append];simp only [List.length_cons,List.length_nil];omega
theorem TimP.spec:(∃ n,TimP t n)↔1<=t.size/\t.size<=10/\(1<t.size->bt t 0≠48)/\tlD (toL t)/\tlF 0 (toL t)<=1000000000:=by
 constructor
 ·rintro ⟨n,h,hn⟩
  obtain ⟨h1,h2,h3⟩:=Qfa n;have hl:t.size=(Lib.decDigits n).length:=by rw [<- h,Qaq]
  refine ⟨by omega,?_,fun hs e=>?_,by rw [h];exact h1,by rw [h,h2];exact hn⟩
  ·rw [hl];exact Qm2 9 n (Nat.lt_of_le_of_lt hn (by decide))
  ·refine QrV n (by omega) ?_
   rw [<- h];rw [QfQ] at e;have h4:0<(toL t).length:=by rw [Qaq];omega
   rw [List.getElem?_eq_getElem h4] at e ⊢
   have e1:(toL t)[0].toNat=48:=by
    simp only [Option.map_some,Option.getD_some] at e;omega
   exact congrArg some (UInt8.toNat_inj.1 e1)
 ·rintro ⟨h1,h2,h3,h4,h5⟩
  refine ⟨tlF 0 (toL t),(QsY (t.size - 1) (toL t) (by rw [Qaq];omega) h4 (fun hl e=>?_)).symm,h5⟩;rw [Qaq] at hl;refine h3 hl ?_;rw [QfQ,e];rfl
end
section
open Go.Sort
def rcO (t:ByteArray):Option Nat:=match Lib.parseUintB 64 (toL t) with
 | .ok u=>if (⟨(Lib.decDigits u).toArray⟩:ByteArray)=t then some u else none
 | _=>none
theorem Quj:(rcO t=some n/\n<=1000000000)↔TimP t n:=by
 constructor
 ·rintro ⟨h,hn⟩
  unfold rcO at h
  split at h
  ·split at h
   ·cases h
    rename_i he;exact ⟨by rw [<- he,Qba],hn⟩
   ·cases h
  ·cases h
 ·intro h
  refine ⟨?_,h.2⟩;unfold rcO;rw [h.parse]
  show (if (⟨(Lib.decDigits n).toArray⟩:ByteArray)=t then some n else none)=some n
  rw [if_pos (Qbc (by rw [Qba];exact h.1.symm))]
def Qjq (t:ByteArray):Option Nat:=match rcO t with
 | some n=>if n<=1000000000 then some n else none
 | none=>none
theorem timO_iff:Qjq t=some n↔TimP t n:=by
 rw [<- Quj];unfold Qjq;constructor
 ·intro h
  split at h
  ·split at h
   ·cases h;rename_i h1 h2;exact ⟨h1,h2⟩
   ·cases h
  ·cases h
 ·rintro ⟨h,hn⟩
  rw [h]
  show (if n<=1000000000 then some n else none)=some n
  rw [if_pos hn]
end
section
open Classical
def Qbg (t:ByteArray):Int:=if toL t=[99] then 1 else if toL t=[103] then 2 else if toL t=[104] then 3 else if toL t=[115] then 4 else 0
theorem Quh (t:ByteArray):Qbg t=0∨Qbg t=1∨Qbg t=2∨Qbg t=3∨Qbg t=4:=by
 unfold Qbg;repeat' split
 all_goals simp
def Qa4 (t:ByteArray):Nat:=if t.size=0 then 0 else if bt t 0=64 then 1 else if bt t 0=35 then 2 else if bt t 0=84 then 3 else 0
theorem Qnd (t:ByteArray):Qa4 t<=3:=by
 unfold Qa4;repeat' split
 all_goals omega
noncomputable def whV (k:Int) (t:ByteArray):Int:=if k=4 then 0 else rvV t
def whW (k:Int) (t:ByteArray):ByteArray:=if k=4 then t else ByteArray.empty
noncomputable def whB (k:Int) (t:ByteArray):Bool:=if k=4 then Qbn t else decide (rvC t=0)
def raP (k:Int) (r:ByteArray):Prop:=rvC r=0/\1<=rvV r/\rvV r<=1000000/\(k=1∨k=3)
noncomputable def wtV (k:Int) (rd:Bool) (r:ByteArray):Int:=if rd=true then (if raP k r then 1000000 / rvV r else 0) else 1
noncomputable def wtB (k:Int) (rd:Bool) (r:ByteArray):Bool:=if rd=true then (if raP k r then true else false) else true
end
section
structure Pt where
 rd:Bool
 rt:ByteArray
 tg:List ByteArray
 td:Bool
 ti:Nat
def pt0:Pt:=⟨false,ByteArray.empty,[],false,0⟩
def tl1 (p:ByteArray):ByteArray:=p.extract 1 p.size
def QcM (r:Pt) (p:ByteArray):Option Pt:=
 if Qa4 p=1 then some { r with rd:=true,rt:=tl1 p } else
 if Qa4 p=2 then some { r with tg:=Qbh (tl1 p) 44 } else
 if Qa4 p=3 then (Qjq (tl1 p)).map fun n=>{ r with td:=true,ti:=n } else none
def Qhx:Nat->Pt->List ByteArray->Option Pt
 | _,r,[]=>some r
 | a,r,p :: ps=>if Qa4 p<=a then none else match QcM r p with
  | some r'=>Qhx (Qa4 p) r' ps
  | none=>none
def Qa5:Nat->Pt->List ByteArray->Option Pt
 | _,r,[]=>some r
 | a,r,p :: ps=>if Qa4 p<=a then none else match QcM r p with
  | some r'=>if Qa4 p=2/\¬ r'.tg.all Qbn=true then none else Qa5 (Qa4 p) r' ps
  | none=>none
theorem QoT {r:Pt} (h:Qa4 p<=a):Qhx a r (p :: ps)=none:=by
 unfold Qhx;rw [if_pos h]
theorem Qj6 {r r':Pt} (h:¬ Qa4 p<=a) (hs:QcM r p=some r'):Qhx a r (p :: ps)=Qhx (Qa4 p) r' ps:=by
 rw [Qhx,if_neg h,hs]
theorem Qmu {r:Pt} (hs:QcM r p=none):Qhx a r (p :: ps)=none:=by
 rw [Qhx];split
 ·rfl
 ·rw [hs]
theorem QlX {r:Pt} (h:Qa4 p<=a):Qa5 a r (p :: ps)=none:=by
 unfold Qa5;rw [if_pos h]
theorem QcQ {r r':Pt} (h:¬ Qa4 p<=a) (hs:QcM r p=some r') (ht:Qa4 p=2->r'.tg.all Qbn=true):Qa5 a r (p :: ps)=Qa5 (Qa4 p) r' ps:=by
 rw [Qa5,if_neg h,hs]
 show (if Qa4 p=2/\¬ r'.tg.all Qbn=true then none else Qa5 (Qa4 p) r' ps)=_
 rw [if_neg (fun k=>k.2 (ht k.1))]
theorem QkK {r r':Pt} (hs:QcM r p=some r') (h2:Qa4 p=2) (ht:¬ r'.tg.all Qbn=true):Qa5 a r (p :: ps)=none:=by
 rw [Qa5];split
 ·rfl
 ·rw [hs]
  show (if Qa4 p=2/\¬ r'.tg.all Qbn=true then none else Qa5 (Qa4 p) r' ps)=_
  rw [if_pos ⟨h2,ht⟩]
theorem QkA {r:Pt} (hs:QcM r p=none):Qa5 a r (p :: ps)=none:=by
 rw [Qa5];split
 ·rfl
 ·rw [hs]
theorem step1 {r:Pt} (h:Qa4 p=1):QcM r p=some { r with rd:=true,rt:=tl1 p }:=by unfold QcM;rw [if_pos h]
theorem step2 {r:Pt} (h:Qa4 p=2):QcM r p=some { r with tg:=Qbh (tl1 p) 44 }:=by unfold QcM;rw [if_neg (by omega),if_pos h]
theorem QtP {r:Pt} (h:Qa4 p=3):QcM r p=(Qjq (tl1 p)).map fun n=>{ r with td:=true,ti:=n }:=by unfold QcM;rw [if_neg (by omega),if_neg (by omega),if_pos h]
theorem step0 {r:Pt} (h:Qa4 p=0):QcM r p=none:=by unfold QcM;rw [if_neg (by omega),if_neg (by omega),if_neg (by omega)]
theorem Qpv {r r':Pt} (h:QcM r p=some r') (h2:Qa4 p≠2):r'.tg=r.tg:=by
 have hb:=Qnd p;have hc:Qa4 p=0∨Qa4 p=1∨Qa4 p=3:=by omega
 rcases hc with h0 | h1 | h3
 ·rw [step0 h0] at h;cases h
 ·rw [step1 h1] at h;cases h;rfl
 ·rw [QtP h3] at h
  obtain ⟨n,_,rfl⟩:=Option.map_eq_some_iff.1 h;rfl
theorem QpU:∀ (ps:List ByteArray) (a:Nat) (r r':Pt),2<=a->Qhx a r ps=some r'->r'.tg=r.tg
 | [],a,r,r',_,h=>by unfold Qhx at h;cases h;rfl
 | p :: ps,a,r,r',ha,h=>by
  by_cases hm:Qa4 p<=a
  ·rw [QoT hm] at h;cases h
  ·cases hs:QcM r p with
   | none=>rw [Qmu hs] at h;cases h
   | some r1=>
    rw [Qj6 hm hs] at h;rw [QpU ps _ r1 r' (by omega) h,Qpv hs (by omega)]
def QqI (r:Pt):Option Pt:=if r.tg.all Qbn=true then some r else none
theorem Qey:∀ (ps:List ByteArray) (a:Nat) (r:Pt),r.tg.all Qbn=true->Qa5 a r ps=(Qhx a r ps).bind QqI
 | [],a,r,h=>by unfold Qa5 Qhx;show _=QqI r;unfold QqI;rw [if_pos h]
 | p :: ps,a,r,h=>by
  by_cases hm:Qa4 p<=a
  ·rw [QoT hm,QlX hm];rfl
  ·cases hs:QcM r p with
   | none=>rw [Qmu hs,QkA hs];rfl
   | some r1=>
    rw [Qj6 hm hs];by_cases h2:Qa4 p=2
    ·by_cases ht:r1.tg.all Qbn=true
     ·rw [QcQ hm hs (fun _=>ht),Qey ps _ r1 ht]
     ·rw [QkK hs h2 ht]
      cases hq:Qhx (Qa4 p) r1 ps with
      | none=>rfl
      | some r2=>
       show none=QqI r2
       unfold QqI;rw [QpU ps _ r1 r2 (by omega) hq,if_neg ht]
    ·rw [QcQ hm hs (fun e=>absurd e h2),Qey ps _ r1 (by rw [Qpv hs h2];exact h)]
end
variable {ta:Option Addr}
variable {u0 u1 u2 u3 u4 u5 u6 u7 v:Value}
section
theorem QdW (h:Qau wr ta L) (hne:∀ x,ta=some x->x.block≠B):Qau (wr.setCell ⟨B,i,none⟩ v) ta L:=fun h0=>by
 obtain ⟨b,off,e,hc⟩:=h h0;exact ⟨b,off,e,fun j u hj=>by rw [World.cell?_setCell_other _ _ _ _ (by have:=hne _ e;intro e2;exact this (congrArg Addr.block e2).symm)];exact hc j u hj⟩
theorem Qt0 {k:Nat} (h:L[k]?=some y):L.drop k=y :: L.drop (k+1):=by
 obtain ⟨hk,e⟩:=ZZd.1 h;rw [List.drop_eq_getElem_cons hk,e]
theorem Qjm {m:Nat} (h:Qa4 y=m) (hm:1<=m):0<y.size/\(m=1->bt y 0=64)/\(m=2->bt y 0=35)/\(m=3->bt y 0=84):=by
 unfold Qa4 at h;by_cases h0:y.size=0
 ·rw [if_pos h0] at h;omega
 rw [if_neg h0] at h;refine ⟨by omega,?_⟩;by_cases h1:bt y 0=64
 ·rw [if_pos h1] at h;exact ⟨fun _=>h1,fun e=>by omega,fun e=>by omega⟩
 rw [if_neg h1] at h;by_cases h2:bt y 0=35
 ·rw [if_pos h2] at h;exact ⟨fun e=>by omega,fun _=>h2,fun e=>by omega⟩
 rw [if_neg h2] at h;by_cases h3:bt y 0=84
 ·rw [if_pos h3] at h;exact ⟨fun e=>by omega,fun e=>by omega,fun _=>h3⟩
 rw [if_neg h3] at h;omega
theorem Qr3 (y:ByteArray):(tl1 y).size<=y.size:=by unfold tl1;rw [ByteArray.size_extract];omega
theorem Qpu (t:ByteArray):(∀ u∈Qbh t 44,u.size<=t.size)/\(Qbh t 44).length<=t.size+1:=by
 have e:Qbh t 44=Lib.splitB ⟨#[44]⟩ 0 (Lib.countB t ⟨#[44]⟩) t:=(Qhd 44 t).symm;refine ⟨fun u hu=>Qdb _ _ _ u (by rw [<- e];exact hu),?_⟩;have:=QdD 44 (Qbh t 44);have h2:Qdg 44 (Qbh t 44)=toL t:=(QdR (c:=44) t.size t (ZZa _)).2.2;rw [h2,Qaq] at this;exact this
end
variable {T:TypeId}
variable {cs:Array Value}
section
def LP (t nm wh kd:ByteArray) (ps:List ByteArray):Prop:=∃ R,toL t=toL nm ++ 58 :: toL R/\(58:UInt8) ∉ toL nm/\Qbh R 124=wh :: kd :: ps
theorem QjI {p r p' r':List UInt8} (h:p ++ c :: r=p' ++ c :: r') (hp:c ∉ p) (hp':c ∉ p'):p=p'/\r=r':=by
 have e:=QpY (r:=r) hp;rw [h,QpY hp'] at e
 cases e
 exact ⟨rfl,rfl⟩
theorem LP.one {wh' kd':ByteArray} {ps':List ByteArray} (h:LP t nm wh kd ps) (k:LP t nm' wh' kd' ps'):nm=nm'/\wh=wh'/\kd=kd'/\ps=ps':=by
 obtain ⟨R,h1,h2,h3⟩:=h;obtain ⟨R',k1,k2,k3⟩:=k;obtain ⟨e1,e2⟩:=QjI (h1.symm.trans k1) h2 k2;have e3:=Qbc e2;subst e3;rw [h3] at k3
 cases k3
 exact ⟨Qbc e1,rfl,rfl,rfl⟩
theorem LP.no1 (hn:(58:UInt8) ∉ toL t) (h:LP t nm wh kd ps):False:=by
 obtain ⟨R,h1,_,_⟩:=h;exact hn (by rw [h1];simp)
theorem QlD (h:Below B w w') {r:Nat} (hr:B<=r) (v0 v1 v2 v3 v4 v5 v6 v7:Value) :
  Below B w ((((((((w'.setCell ⟨r,0,none⟩ v0).setCell ⟨r,1,none⟩ v1).setCell ⟨r,2,none⟩ v2).setCell ⟨r,3,none⟩ v3).setCell ⟨r,4,none⟩ v4).setCell ⟨r,5,none⟩ v5).setCell ⟨r,6,none⟩ v6).setCell ⟨r,7,none⟩ v7):=
 (((((((h.setCell (p:=⟨r,0,none⟩) hr v0).setCell (p:=⟨r,1,none⟩) hr v1).setCell (p:=⟨r,2,none⟩) hr v2).setCell (p:=⟨r,3,none⟩) hr v3).setCell (p:=⟨r,4,none⟩) hr v4).setCell (p:=⟨r,5,none⟩) hr v5).setCell (p:=⟨r,6,none⟩) hr v6).setCell (p:=⟨r,7,none⟩) hr v7
theorem Qnk (t:ByteArray) (c:UInt8):(∀ u∈Qbh t (c.toNat:Int),u.size<=t.size)/\(Qbh t (c.toNat:Int)).length<=t.size+1:=by
 have e:Qbh t (c.toNat:Int)=Lib.splitB ⟨#[c]⟩ 0 (Lib.countB t ⟨#[c]⟩) t:=(Qhd c t).symm;refine ⟨fun u hu=>Qdb _ _ _ u (by rw [<- e];exact hu),?_⟩;have:=QdD c (Qbh t (c.toNat:Int));rw [(QdR (c:=c) t.size t (Nat.le_refl _)).2.2,Qaq] at this;exact this
theorem Qd0 {r:Nat} (h:w.heap[r]?=some (.cells #[u0,u1,u2,u3,u4,u5,u6,u7] T (0,0))) :
  w.cell? ⟨r,0,none⟩=some u0/\w.cell? ⟨r,1,none⟩=some u1/\w.cell? ⟨r,2,none⟩=some u2/\w.cell? ⟨r,3,none⟩=some u3/\w.cell? ⟨r,4,none⟩=some u4/\w.cell? ⟨r,5,none⟩=some u5/\w.cell? ⟨r,6,none⟩=some u6/\w.cell? ⟨r,7,none⟩=some u7:=
 ⟨by rw [cell_of_row w r 0 _ _ (0,0) h];rfl,by rw [cell_of_row w r 1 _ _ (0,0) h];rfl,by rw [cell_of_row w r 2 _ _ (0,0) h];rfl,by rw [cell_of_row w r 3 _ _ (0,0) h];rfl,by rw [cell_of_row w r 4 _ _ (0,0) h];rfl,by rw [cell_of_row w r 5 _ _ (0,0) h];rfl,by rw [cell_of_row w r 6 _ _ (0,0) h];rfl,by rw [cell_of_row w r 7 _ _ (0,0) h];rfl⟩
theorem Qeb {r:Nat} (h:w.heap[r]?=some (.cells cs T (0,0))) :
  w.frozen? ⟨r,0,none⟩=false/\w.frozen? ⟨r,1,none⟩=false/\w.frozen? ⟨r,2,none⟩=false/\w.frozen? ⟨r,3,none⟩=false/\w.frozen? ⟨r,4,none⟩=false/\w.frozen? ⟨r,5,none⟩=false/\w.frozen? ⟨r,6,none⟩=false/\w.frozen? ⟨r,7,none⟩=false:=
 ⟨frozen_of_row w r 0 _ _ h,frozen_of_row w r 1 _ _ h,frozen_of_row w r 2 _ _ h,frozen_of_row w r 3 _ _ h,frozen_of_row w r 4 _ _ h,frozen_of_row w r 5 _ _ h,frozen_of_row w r 6 _ _ h,frozen_of_row w r 7 _ _ h⟩
theorem row8 {r:Nat} (v0 v1 v2 v3 v4 v5 v6 v7:Value) (h:w.heap[r]?=some (.cells #[u0,u1,u2,u3,u4,u5,u6,u7] T (0,0))) :
  ((((((((w.setCell ⟨r,0,none⟩ v0).setCell ⟨r,1,none⟩ v1).setCell ⟨r,2,none⟩ v2).setCell ⟨r,3,none⟩ v3).setCell ⟨r,4,none⟩ v4).setCell ⟨r,5,none⟩ v5).setCell ⟨r,6,none⟩ v6).setCell ⟨r,7,none⟩ v7).heap[r]?=some (.cells #[v0,v1,v2,v3,v4,v5,v6,v7] T (0,0)):=by
 have h0:(w.setCell ⟨r,0,none⟩ v0).heap[r]?=some (.cells #[v0,u1,u2,u3,u4,u5,u6,u7] T (0,0)):=ZZl _ r 0 _ _ v0 h;have h1:((w.setCell ⟨r,0,none⟩ v0).setCell ⟨r,1,none⟩ v1).heap[r]?=some (.cells #[v0,v1,u2,u3,u4,u5,u6,u7] T (0,0)):=ZZl _ r 1 _ _ v1 h0;have h2:(((w.setCell ⟨r,0,none⟩ v0).setCell ⟨r,1,none⟩ v1).setCell ⟨r,2,none⟩ v2).heap[r]?=some (.cells #[v0,v1,v2,u3,u4,u5,u6,u7] T (0,0)):=ZZl _ r 2 _ _ v2 h1;have h3:((((w.setCell ⟨r,0,none⟩ v0).setCell ⟨r,1,none⟩ v1).setCell ⟨r,2,none⟩ v2).setCell ⟨r,3,none⟩ v3).heap[r]?=some (.cells #[v0,v1,v2,v3,u4,u5,u6,u7] T (0,0)):=ZZl _ r 3 _ _ v3 h2;have h4:(((((w.setCell ⟨r,0,none⟩ v0).setCell ⟨r,1,none⟩ v1).setCell ⟨r,2,none⟩ v2).setCell ⟨r,3,none⟩ v3).setCell ⟨r,4,none⟩ v4).heap[r]?=some (.cells #[v0,v1,v2,v3,v4,u5,u6,u7] T (0,0)):=ZZl _ r 4 _ _ v4 h3;have h5:((((((w.setCell ⟨r,0,none⟩ v0).setCell ⟨r,1,none⟩ v1).setCell ⟨r,2,none⟩ v2).setCell ⟨r,3,none⟩ v3).setCell ⟨r,4,none⟩ v4).setCell ⟨r,5,none⟩ v5).heap[r]?=some (.cells #[v0,v1,v2,v3,v4,v5,u6,u7] T (0,0)):=ZZl _ r 5 _ _ v5 h4;have h6:(((((((w.setCell ⟨r,0,none⟩ v0).setCell ⟨r,1,none⟩ v1).setCell ⟨r,2,none⟩ v2).setCell ⟨r,3,none⟩ v3).setCell ⟨r,4,none⟩ v4).setCell ⟨r,5,none⟩ v5).setCell ⟨r,6,none⟩ v6).heap[r]?=some (.cells #[v0,v1,v2,v3,v4,v5,v6,u7] T (0,0)):=ZZl _ r 6 _ _ v6 h5;have h7:((((((((w.setCell ⟨r,0,none⟩ v0).setCell ⟨r,1,none⟩ v1).setCell ⟨r,2,none⟩ v2).setCell ⟨r,3,none⟩ v3).setCell ⟨r,4,none⟩ v4).setCell ⟨r,5,none⟩ v5).setCell ⟨r,6,none⟩ v6).setCell ⟨r,7,none⟩ v7).heap[r]?=some (.cells #[v0,v1,v2,v3,v4,v5,v6,v7] T (0,0)):=ZZl _ r 7 _ _ v7 h6;exact h7
end
section
structure Sm where
 k:Int
 se:ByteArray
 va:Int
 wd:ByteArray
 wt:Int
 td:Bool
 ti:Nat
 c:Int
def QdB (c:Int):Sm:=⟨0,ByteArray.empty,0,ByteArray.empty,0,false,0,c⟩
noncomputable def QnS (nm wh kd:ByteArray) (r:Pt):Sm:=
 if Qbg kd=0 then QdB 9 else
 if whB (Qbg kd) wh=false then QdB 3 else
 if wtB (Qbg kd) r.rd r.rt=false then QdB 10 else
 ⟨Qbg kd,Qcp nm r.tg,whV (Qbg kd) wh,whW (Qbg kd) wh,wtV (Qbg kd) r.rd r.rt,r.td,r.ti,0⟩
def LnR (t:ByteArray) (s:Sm):Prop:=(Qon t=false/\s=QdB 2)∨(Qon t=true/\((∃ nm wh kd ps r,LP t nm wh kd ps/\Qhx 0 pt0 ps=some r/\Qcp nm r.tg≠ByteArray.empty/\s=QnS nm wh kd r)∨((∀ nm wh kd ps r,LP t nm wh kd ps->Qhx 0 pt0 ps=some r->Qcp nm r.tg=ByteArray.empty)/\s=QdB 3)))
def Qvi (s:Sm):Value:=.agg #[.int .i64 s.k,.string s.se,.int .i64 s.va,.string s.wd,.int .u64 s.wt,.bool s.td,.int .i64 s.ti,.int .i64 s.c]
theorem Qjj {x:ByteArray} (h:x≠ByteArray.empty):x.toList.isEmpty=false:=by
 rw [ByteArray.toList_eq]
 cases e:x.data.toList with
 | nil=>exact absurd (Qbc (show toL x=toL ByteArray.empty from e)) h
 | cons a b=>rfl
theorem Qke {r:Nat} (h:w.heap[r]?=some (.cells #[u0,u1,u2,u3,u4,u5,u6] T (0,0))) :
  w.cell? ⟨r,0,none⟩=some u0/\w.cell? ⟨r,1,none⟩=some u1/\w.cell? ⟨r,2,none⟩=some u2/\w.cell? ⟨r,3,none⟩=some u3/\w.cell? ⟨r,4,none⟩=some u4/\w.cell? ⟨r,5,none⟩=some u5/\w.cell? ⟨r,6,none⟩=some u6:=
 ⟨by rw [cell_of_row w r 0 _ _ (0,0) h];rfl,by rw [cell_of_row w r 1 _ _ (0,0) h];rfl,by rw [cell_of_row w r 2 _ _ (0,0) h];rfl,by rw [cell_of_row w r 3 _ _ (0,0) h];rfl,by rw [cell_of_row w r 4 _ _ (0,0) h];rfl,by rw [cell_of_row w r 5 _ _ (0,0) h];rfl,by rw [cell_of_row w r 6 _ _ (0,0) h];rfl⟩
theorem QkR {r:Nat} (h:w.heap[r]?=some (.cells cs T (0,0))) :
  w.frozen? ⟨r,0,none⟩=false/\w.frozen? ⟨r,1,none⟩=false/\w.frozen? ⟨r,2,none⟩=false/\w.frozen? ⟨r,3,none⟩=false/\w.frozen? ⟨r,4,none⟩=false/\w.frozen? ⟨r,5,none⟩=false/\w.frozen? ⟨r,6,none⟩=false:=
 ⟨frozen_of_row w r 0 _ _ h,frozen_of_row w r 1 _ _ h,frozen_of_row w r 2 _ _ h,frozen_of_row w r 3 _ _ h,frozen_of_row w r 4 _ _ h,frozen_of_row w r 5 _ _ h,frozen_of_row w r 6 _ _ h⟩
end
section
theorem QmU (t:ByteArray) (l:List UInt8):(t.toList == l)=decide (toL t=l):=by
 rw [ByteArray.toList_eq];by_cases h:toL t=l
 ·rw [decide_eq_true h];have:t.data.toList=l:=h;rw [this];simp
 ·rw [decide_eq_false h]
  cases e:(t.data.toList == l) with
  | false=>rfl
  | true=>exact absurd (eq_of_beq e) h
theorem Qkt (t:ByteArray) (w:World) :
  Calls prog 113 #[.string t] w fun e w'=>e=.returned (.int .i64 (Qbg t))/\w'=w:=by
 have h1:=QmU t [99];have h2:=QmU t [103];have h3:=QmU t [104];have h4:=QmU t [115];have HK:Hid (Qbg t=if toL t=[99] then 1 else if toL t=[103] then 2 else if toL t=[104] then 3 else if toL t=[115] then 4 else 0):=(rfl:Qbg t=_);by_cases k1:toL t=[99]
 ·rw [decide_eq_true k1] at h1
  go_enter func113,ntmps113;go_wp2;go_ret;exact ⟨by rw [HK.out,if_pos k1];rfl,rfl⟩
 rw [decide_eq_false k1] at h1;by_cases k2:toL t=[103]
 ·rw [decide_eq_true k2] at h2
  go_enter func113,ntmps113;go_wp2;go_ret;exact ⟨by rw [HK.out,if_neg k1,if_pos k2];rfl,rfl⟩
 rw [decide_eq_false k2] at h2;by_cases k3:toL t=[104]
 ·rw [decide_eq_true k3] at h3
  go_enter func113,ntmps113;go_wp2;go_ret;exact ⟨by rw [HK.out,if_neg k1,if_neg k2,if_pos k3];rfl,rfl⟩
 rw [decide_eq_false k3] at h3;by_cases k4:toL t=[115]
 ·rw [decide_eq_true k4] at h4
  go_enter func113,ntmps113;go_wp2;go_ret;exact ⟨by rw [HK.out,if_neg k1,if_neg k2,if_neg k3,if_pos k4];rfl,rfl⟩
 rw [decide_eq_false k4] at h4;go_enter func113,ntmps113;go_wp2;go_ret;exact ⟨by rw [HK.out,if_neg k1,if_neg k2,if_neg k3,if_neg k4];rfl,rfl⟩
theorem Ql0 {k:Nat} (hk:k<(toL u).length):bt u k=(((toL u)[k]).toNat:Int):=by
 rw [QfQ,List.getElem?_eq_getElem hk];rfl
theorem QkL (u:ByteArray):∀ k,k<=(toL u).length->(QqV u k=true↔tlD ((toL u).take k))
 | 0,_=>⟨fun _ x hx=>by simp at hx,fun _=>rfl⟩
 | k+1,h=>by
  have ih:=QkL u k (by omega);have hk:k<(toL u).length:=by omega
  unfold QqV;rw [yB,ih,List.take_succ_eq_append_getElem hk,Ql0 hk];constructor
  ·rintro ⟨h1,h2⟩ x hx
   rcases List.mem_append.1 hx with hx | hx
   ·exact h1 x hx
   ·rw [List.mem_singleton.1 hx];have:=QpZ h2;omega
  ·intro h1
   refine ⟨fun x hx=>h1 x (List.mem_append_left _ hx),?_⟩;have:=h1 _ (List.mem_append_right _ (List.mem_singleton.2 rfl));unfold Qlp;rw [decide_eq_true (by omega),decide_eq_true (by omega)];rfl
theorem QjQ (u:ByteArray):∀ k,k<=(toL u).length->tlD ((toL u).take k)->Qkj u 0 k=(tlF 0 ((toL u).take k):Nat)
 | 0,_,_=>rfl
 | k+1,h,hd=>by
  have hk:k<(toL u).length:=by omega
  rw [List.take_succ_eq_append_getElem hk] at hd ⊢;have ih:=QjQ u k (by omega) (fun x hx=>hd x (List.mem_append_left _ hx));have hx:=hd _ (List.mem_append_right _ (List.mem_singleton.2 rfl));rw [QiT];unfold Qkj;rw [ih,Nat.zero_add,Ql0 hk];omega
theorem QiD (u:ByteArray):QqV u u.size=true↔tlD (toL u):=by
 have:=QkL u u.size (by rw [Qaq];exact Nat.le_refl _)
 rwa [List.take_of_length_le (by rw [Qaq];exact Nat.le_refl _)] at this
theorem Qly (h:tlD (toL u)):Qkj u 0 u.size=(tlF 0 (toL u):Nat):=by
 have e:(toL u).take u.size=toL u:=List.take_of_length_le (by rw [Qaq];exact Nat.le_refl _);have:=QjQ u u.size (by rw [Qaq];exact Nat.le_refl _) (by rw [e];exact h)
 rwa [e] at this
theorem Qiv (h:¬ ∃ n,TimP t n):Qjq t=none:=by
 cases e:Qjq t with
 | none=>rfl
 | some n=>exact absurd ⟨n,timO_iff.1 e⟩ h
abbrev lnZ (c:Int):Array Value:=#[.int .i64 0,.string ⟨#[]⟩,.int .i64 0,.string ⟨#[]⟩,.int .u64 0,.bool false,.int .i64 0,.int .i64 c]
theorem Qr0 (c:Int) (w:World) :
  Calls prog 110 #[.int .i64 c] w fun e w'=>e=.returned (Qvi (QdB c))/\Bw w w':=by
 go_enter func110,ntmps110;go_wp2;refine bodyPost_ret (v:=.agg (lnZ c)) (by simp [results,results110,go_sem]) rfl ?_;exact ⟨rfl,(ZZb _ _).alloc (ZZa _) _⟩
theorem QpG (t:ByteArray) (hz:t.size<=100000) (w:World) :
  Calls prog 159 #[.string t] w fun e w'=>∃ n,e=.returned (.tuple #[.int .i64 n,.bool (Qjq t).isSome])/\(∀ m,Qjq t=some m->n=m)/\w'=w:=by
 have ak:=get_bt t;have ab:=Qaa (TimP.spec (t:=t));by_cases h0:t.size<1
 ·have ah:(t.size:Int)<1:=by omega
  have HE:Hid (Qjq t=none):=Qiv (fun h=>by have:=(ab.1 h).1;omega);go_enter func159,ntmps159;go_wp2;go_ret2;exact ⟨0,by rw [HE.out];rfl,(fun m h=>by rw [HE.out] at h;cases h),rfl⟩
 have ah:¬ (t.size:Int)<1:=by omega
 by_cases h1:10<t.size
 ·have ag:(10:Int)<(t.size:Int):=by omega
  have HE:Hid (Qjq t=none):=Qiv (fun h=>by have:=(ab.1 h).2.1;omega);go_enter func159,ntmps159;go_wp2;go_ret2;exact ⟨0,by rw [HE.out];rfl,(fun m h=>by rw [HE.out] at h;cases h),rfl⟩
 have ag:¬ (10:Int)<(t.size:Int):=by omega
 have ai:(0:Int)<(t.size:Int):=by omega
 by_cases h2:1<t.size/\bt t 0=48
 ·have al:(1:Int)<(t.size:Int):=by omega
  have aj:=h2.2;have HE:Hid (Qjq t=none):=Qiv (fun h=>absurd h2.2 ((ab.1 h).2.2.1 h2.1));go_enter func159,ntmps159;go_wp2;go_ret2;exact ⟨0,by rw [HE.out];rfl,(fun m h=>by rw [HE.out] at h;cases h),rfl⟩
 have HV:Hid (Qjq t=if dgB t=true/\dgV t<=1000000000 then some (dgV t).toNat else none):=(by
  by_cases hd:dgB t=true/\dgV t<=1000000000
  ·rw [if_pos hd]
   obtain ⟨d1,d2⟩:=hd;unfold dgB at d1;rw [yB] at d1;have ac:=(QiD t).1 d1.1;unfold dgV at d2 ⊢;rw [if_pos d1.1,Qly ac] at d2 ⊢;have hs:=ab.2 ⟨by omega,by omega,fun hx hy=>h2 ⟨hx,hy⟩,ac,by omega⟩;obtain ⟨n,hn⟩:=hs;rw [timO_iff.2 hn];have e:=(Qfa n).2.1;rw [<- hn.1] at e;rw [e];simp
  ·rw [if_neg hd]
   refine Qiv (fun h=>hd ?_);obtain ⟨s1,s2,s3,s4,s5⟩:=ab.1 h;have ha:=(QiD t).2 s4;refine ⟨?_,?_⟩
   ·unfold dgB;rw [ha,decide_eq_true (by omega:0<t.size)];rfl
   ·unfold dgV;rw [if_pos ha,Qly s4];omega:Qjq t=_)
 have ad:dgB t=true->0<=dgV t:=fun hb=>by
  unfold dgB at hb;rw [yB] at hb;unfold dgV;rw [if_pos hb.1,Qly ((QiD t).1 hb.1)];omega
 have HN:=Qaa ad;clear ad
 have aa:(¬ (1:Int)<(t.size:Int))∨((1:Int)<(t.size:Int)/\¬ bt t 0=48):=by
  by_cases hx:1<t.size
  ·exact Or.inr ⟨by omega,fun hy=>h2 ⟨hx,hy⟩⟩
  ·exact Or.inl (by omega)
 have ae:∀ b:Bool,b=(dgB t && decide (dgV t<=1000000000))->b=(Qjq t).isSome/\(∀ m,Qjq t=some m->dgV t=m):=fun b hb=>by
  rw [HV.out];by_cases hd:dgB t=true/\dgV t<=1000000000
  ·rw [if_pos hd,hb,hd.1,decide_eq_true hd.2]
   exact ⟨rfl,fun m h=>by cases h;have:=HN.out hd.1;omega⟩
  ·rw [if_neg hd,hb]
   refine ⟨?_,fun m h=>by cases h⟩
   cases hg:dgB t with
   | false=>rfl
   | true=>rw [decide_eq_false (fun h=>hd ⟨hg,h⟩)];rfl
 have HF:=Qaa ae;clear ae HV HN ab h2
 cases hg:dgB t with
 | false=>
  rcases aa with hc | ⟨hc,af⟩
  all_goals
   go_enter func159,ntmps159;go_wp2_with (go_at_call 160;refine (Qc0 t (by omega) _).mono ?_;rw [hg];rintro e w1 ⟨rfl,hw⟩;obtain rfl:=hw.symm);go_ret2;exact ⟨dgV t,by rw [<- (HF.out false (by rw [hg];rfl)).1];rfl,(HF.out false (by rw [hg];rfl)).2,rfl⟩
 | true=>
  rcases aa with hc | ⟨hc,af⟩
  all_goals
   go_enter func159,ntmps159;go_wp2_with (go_at_call 160;refine (Qc0 t (by omega) _).mono ?_;rw [hg];rintro e w1 ⟨rfl,hw⟩;obtain rfl:=hw.symm);go_ret2;exact ⟨dgV t,by rw [<- (HF.out (decide (dgV t<=1000000000)) (by rw [hg];rfl)).1];rfl,(HF.out (decide (dgV t<=1000000000)) (by rw [hg];rfl)).2,rfl⟩
end
section
theorem bel5L (h:Below B w w') {r:Nat} (hr:B<=r) (v0 v1 v2 v3 v4:Value):Below B w (((((w'.setCell ⟨r,0,none⟩ v0).setCell ⟨r,1,none⟩ v1).setCell ⟨r,2,none⟩ v2).setCell ⟨r,3,none⟩ v3).setCell ⟨r,4,none⟩ v4):=(((((h.setCell (p:=⟨r,0,none⟩) hr v0).setCell (p:=⟨r,1,none⟩) hr v1).setCell (p:=⟨r,2,none⟩) hr v2).setCell (p:=⟨r,3,none⟩) hr v3).setCell (p:=⟨r,4,none⟩) hr v4)
theorem QqA {r:Nat} (h:Qau w' ta L) (hn:∀ x,ta=some x->x.block≠r) (v0 v1 v2 v3 v4:Value):Qau (((((w'.setCell ⟨r,0,none⟩ v0).setCell ⟨r,1,none⟩ v1).setCell ⟨r,2,none⟩ v2).setCell ⟨r,3,none⟩ v3).setCell ⟨r,4,none⟩ v4) ta L:=QdW (QdW (QdW (QdW (QdW (h) hn) hn) hn) hn) hn
theorem QfJ {r:Nat} (h:w.heap[r]?=some (.cells #[u0,u1,u2,u3,u4] T (0,0))) :
  w.cell? ⟨r,0,none⟩=some u0/\w.cell? ⟨r,1,none⟩=some u1/\w.cell? ⟨r,2,none⟩=some u2/\w.cell? ⟨r,3,none⟩=some u3/\w.cell? ⟨r,4,none⟩=some u4:=
 ⟨by rw [cell_of_row w r 0 _ _ (0,0) h];rfl,by rw [cell_of_row w r 1 _ _ (0,0) h];rfl,by rw [cell_of_row w r 2 _ _ (0,0) h];rfl,by rw [cell_of_row w r 3 _ _ (0,0) h];rfl,by rw [cell_of_row w r 4 _ _ (0,0) h];rfl⟩
theorem Qh3 {r:Nat} (h:w.heap[r]?=some (.cells cs T (0,0))) :
  w.frozen? ⟨r,0,none⟩=false/\w.frozen? ⟨r,1,none⟩=false/\w.frozen? ⟨r,2,none⟩=false/\w.frozen? ⟨r,3,none⟩=false/\w.frozen? ⟨r,4,none⟩=false:=
 ⟨frozen_of_row w r 0 _ _ h,frozen_of_row w r 1 _ _ h,frozen_of_row w r 2 _ _ h,frozen_of_row w r 3 _ _ h,frozen_of_row w r 4 _ _ h⟩
structure MS (w wr:World) (r:Pt) (ta:Option Addr) (tc:Nat):Prop where
 res:wr.heap[w.heap.size]?=some (.cells zAf 156 (0,0))
 box:wr.heap[w.heap.size+1]?=some (.cells #[.string r.rt,.bool r.rd,.slice ta r.tg.length tc,.bool r.td,.int .i64 r.ti] 156 (0,0))
 tags:Qau wr ta r.tg
 tne:∀ x,ta=some x->w.heap.size+1<x.block
 bel:Bw w wr
theorem MS.lt {r:Pt} (h:MS w wr r ta tc):w.heap.size+1<wr.heap.size:=by
 rcases Nat.lt_or_ge (w.heap.size+1) wr.heap.size with h' | h'
 ·exact h'
 ·have:=h.box;rw [Array.getElem?_eq_none h'] at this;cases this
theorem MS.past {w2:World} {r:Pt} (h:MS w wr r ta tc) (hb:Bw wr w2):MS w w2 r ta tc:=
 ⟨by rw [hb.block _ (by have:=h.lt;omega)];exact h.res,by rw [hb.block _ h.lt];exact h.box,QaA h.tags hb,h.tne,Qac h.bel hb⟩
theorem MS.set {r r':Pt} {tb:Option Addr} {td:Nat} (h:MS w wr r ta tc) (hb:(wr.setCell ⟨w.heap.size+1,i,none⟩ v).heap[w.heap.size+1]?=some (.cells #[.string r'.rt,.bool r'.rd,.slice tb r'.tg.length td,.bool r'.td,.int .i64 r'.ti] 156 (0,0))) (hT:Qau wr tb r'.tg) (hn:∀ x,tb=some x->w.heap.size+1<x.block):MS w (wr.setCell ⟨w.heap.size+1,i,none⟩ v) r' tb td:=
 ⟨by rw [Below.heap_setCell _ _ _ _ (by show w.heap.size≠w.heap.size+1;omega)];exact h.res,hb,QdW hT (fun x e=>by have:=hn x e;omega),hn,h.bel.setCell (by show w.heap.size<=w.heap.size+1;omega) _⟩
theorem MS.fin {r:Pt} (h:MS w wr r ta tc) (v0 v1 v2 v3 v4:Value):Qau (((((wr.setCell ⟨w.heap.size,0,none⟩ v0).setCell ⟨w.heap.size,1,none⟩ v1).setCell ⟨w.heap.size,2,none⟩ v2).setCell ⟨w.heap.size,3,none⟩ v3).setCell ⟨w.heap.size,4,none⟩ v4) ta r.tg/\Bw w (((((wr.setCell ⟨w.heap.size,0,none⟩ v0).setCell ⟨w.heap.size,1,none⟩ v1).setCell ⟨w.heap.size,2,none⟩ v2).setCell ⟨w.heap.size,3,none⟩ v3).setCell ⟨w.heap.size,4,none⟩ v4):=
 ⟨QqA h.tags (fun x e=>by have:=h.tne x e;omega) _ _ _ _ _,bel5L h.bel (ZZa _) _ _ _ _ _⟩
theorem Qt9 (h:Qa4 y=0) (h0:¬ y.size=0):¬ bt y 0=64/\¬ bt y 0=35/\¬ bt y 0=84:=by
 unfold Qa4 at h;rw [if_neg h0] at h;refine ⟨fun e=>?_,fun e=>?_,fun e=>?_⟩
 ·rw [if_pos e] at h;omega
 ·rw [if_neg (by omega),if_pos e] at h;omega
 ·rw [if_neg (by omega),if_neg (by omega),if_pos e] at h;omega
def MoO (w:World) (L:List ByteArray) (e:Ending) (w':World):Prop:=∃ r ta tc,e=.returned (.tuple #[.agg #[.string r.rt,.bool r.rd,.slice ta r.tg.length tc,.bool r.td,.int .i64 r.ti],.bool (Qa5 0 pt0 L).isSome])/\(∀ r',Qa5 0 pt0 L=some r'->r'=r)/\Qau w' ta r.tg/\(∀ u∈r.tg,u.size<=20000)/\r.tg.length<=20001/\r.rt.size<=20000/\Bw w w'
theorem Qj9 {ao:Option Addr} (c n:Nat) (hn:L.length=n) (hl:n<=20100) (hu:∀ u∈L,u.size<=20000) (hA:Qau w ao L) :
  Calls prog 112 #[.slice ao n c] w (MoO w L):=by
 have HA:=Qaa hA;have HN:=Qaa hn;have HU:=Qaa hu;clear hA hn hu;go_enter func112,ntmps112;go_wp2
 go_loopw [5,6] (fun la i wr=>∃ (k a:Nat) (r:Pt) (ta:Option Addr) (tc:Nat),k<=n/\a<=3/\i=.int .i64 k/\la=.int .i64 a/\Hid (Qa5 0 pt0 L=Qa5 a r (L.drop k))/\Hid (MS w wr r ta tc)/\Hid ((∀ u∈r.tg,u.size<=20000)/\r.tg.length<=20001/\r.rt.size<=20000)) (fun la i wr=>n - (Go.RowKit.intOf i).toNat)
 case atStart=>
  refine ⟨0,0,pt0,none,0,ZZj _,by omega,rfl,rfl,rfl,?_,⟨(fun u hu=>by cases hu),(by show 0<=20001;omega),(by show 0<=20000;omega)⟩⟩;have e1:=ZZk w (.cells zAf 156);have e2:=ZZk (w.alloc (.cells zAf 156)) (.cells zAf 156);rw [World.size_alloc] at e2;exact ⟨by rw [Below.heap_alloc _ _ _ (by rw [World.size_alloc];omega)];exact e1,e2,(fun h=>absurd h (Nat.lt_irrefl 0)),(fun x e=>by cases e),((Below.refl _ _).alloc (Nat.le_refl _) _).alloc (by rw [World.size_alloc];omega) _⟩
 case round=>
  obtain ⟨k,a,r,ta,tc,hk,ha,rfl,rfl,HI,HT,HS⟩:=hrel;by_cases av:k<n
  ·obtain ⟨b,ax,e,ab⟩:=QaA HA HT.bel (by have:=HN.out;omega)
   obtain ⟨y,hy⟩:∃ y,L[k]?=some y:=⟨L[k]'(by have:=HN.out;omega),ZZe _⟩;subst e;have an:=ab k y hy;have HY:=Qaa (Qt0 hy);have aw:=HU.out y (ZZn hy);clear ab hy;have ay:=get_bt y;have az:=Qnd y;obtain ⟨r0,r1,r2,r3,r4⟩:=QfJ HT.res;obtain ⟨f0,f1,f2,f3,f4⟩:=Qh3 HT.res;obtain ⟨q0,q1,q2,q3,q4⟩:=QfJ HT.box;obtain ⟨g0,g1,g2,g3,g4⟩:=Qh3 HT.box;by_cases hm:Qa4 y<=a
   ·have HE:Hid (Qa5 0 pt0 L=none):=(by rw [HI.out,HY.out,QlX hm]:Qa5 0 pt0 L=none)
    by_cases h0:y.size=0
    ·have e:y=ByteArray.empty:=Qbc (List.eq_nil_of_length_eq_zero (by rw [Qaq];exact h0))
     subst e;go_wp2;refine bodyPost_ret (v:=.tuple #[.agg #[.string r.rt,.bool r.rd,.slice ta r.tg.length tc,.bool r.td,.int .i64 r.ti],.bool false]) (by simp [results,results112,go_sem,r0,r1,r2,r3,r4]) rfl ?_;unfold MoO;exact ⟨r,ta,tc,by rw [HE.out];rfl,(fun r' h=>by rw [HE.out] at h;cases h),(HT.fin _ _ _ _ _).1,HS.1,HS.2.1,HS.2.2,(HT.fin _ _ _ _ _).2⟩
    ·have aq:y.toList.isEmpty=false:=Qjj (fun e=>h0 (by rw [e];rfl))
     have ah:(0:Int)<(y.size:Int):=by omega
     have aj:Qa4 y=0∨Qa4 y=1∨Qa4 y=2∨Qa4 y=3:=by omega
     rcases aj with h4 | h1 | h2 | h3
     ·obtain ⟨n1,n2,n3⟩:=Qt9 h4 h0
      go_wp2;refine bodyPost_ret (v:=.tuple #[.agg #[.string r.rt,.bool r.rd,.slice ta r.tg.length tc,.bool r.td,.int .i64 r.ti],.bool false]) (by simp [results,results112,go_sem,r0,r1,r2,r3,r4]) rfl ?_;unfold MoO;exact ⟨r,ta,tc,by rw [HE.out];rfl,(fun r' h=>by rw [HE.out] at h;cases h),(HT.fin _ _ _ _ _).1,HS.1,HS.2.1,HS.2.2,(HT.fin _ _ _ _ _).2⟩
     ·have ag:=(Qjm h1 (by omega)).2.1 rfl
      have ae:¬ (a:Int)<1:=by omega
      go_wp2;refine bodyPost_ret (v:=.tuple #[.agg #[.string r.rt,.bool r.rd,.slice ta r.tg.length tc,.bool r.td,.int .i64 r.ti],.bool false]) (by simp [results,results112,go_sem,r0,r1,r2,r3,r4]) rfl ?_;unfold MoO;exact ⟨r,ta,tc,by rw [HE.out];rfl,(fun r' h=>by rw [HE.out] at h;cases h),(HT.fin _ _ _ _ _).1,HS.1,HS.2.1,HS.2.2,(HT.fin _ _ _ _ _).2⟩
     ·have ag:=(Qjm h2 (by omega)).2.2.1 rfl
      have ae:¬ (a:Int)<2:=by omega
      go_wp2;refine bodyPost_ret (v:=.tuple #[.agg #[.string r.rt,.bool r.rd,.slice ta r.tg.length tc,.bool r.td,.int .i64 r.ti],.bool false]) (by simp [results,results112,go_sem,r0,r1,r2,r3,r4]) rfl ?_;unfold MoO;exact ⟨r,ta,tc,by rw [HE.out];rfl,(fun r' h=>by rw [HE.out] at h;cases h),(HT.fin _ _ _ _ _).1,HS.1,HS.2.1,HS.2.2,(HT.fin _ _ _ _ _).2⟩
     ·have ag:=(Qjm h3 (by omega)).2.2.2 rfl
      have ae:¬ (a:Int)<3:=by omega
      go_wp2;refine bodyPost_ret (v:=.tuple #[.agg #[.string r.rt,.bool r.rd,.slice ta r.tg.length tc,.bool r.td,.int .i64 r.ti],.bool false]) (by simp [results,results112,go_sem,r0,r1,r2,r3,r4]) rfl ?_;unfold MoO;exact ⟨r,ta,tc,by rw [HE.out];rfl,(fun r' h=>by rw [HE.out] at h;cases h),(HT.fin _ _ _ _ _).1,HS.1,HS.2.1,HS.2.2,(HT.fin _ _ _ _ _).2⟩
   ·obtain ⟨ak,p1,p2,p3⟩:=Qjm (y:=y) rfl (by omega)
    have aq:y.toList.isEmpty=false:=Qjj (fun e=>by rw [e] at ak;exact absurd ak (Nat.lt_irrefl 0));have ah:(0:Int)<(y.size:Int):=by omega
    have au:=Qr3 y;have aj:Qa4 y=1∨Qa4 y=2∨Qa4 y=3:=by omega
    rcases aj with h1 | h2 | h3
    ·have ag:=p1 h1
     have ae:(a:Int)<1:=by omega
     have HX:Hid (Qa5 0 pt0 L=Qa5 1 { r with rd:=true,rt:=tl1 y } (L.drop (k+1))):=(by rw [HI.out,HY.out,QcQ hm (step1 h1) (fun e=>by omega),h1]:Qa5 0 pt0 L=Qa5 1 { r with rd:=true,rt:=tl1 y } (L.drop (k+1)));have aa:=Qaa (HT.set (r':={ r with rd:=true }) (tb:=ta) (td:=tc) (i:=1) (v:=.bool true) (ZZl wr (w.heap.size+1) 1 _ _ (.bool true) HT.box) HT.tags HT.tne);have ai:=Qaa (aa.set (r':={ r with rd:=true,rt:=tl1 y }) (tb:=ta) (td:=tc) (i:=0) (v:=.string (tl1 y)) (ZZl _ (w.heap.size+1) 0 _ _ (.string (tl1 y)) aa.box) aa.tags aa.tne);go_wp2;go_roundw
     case rel=>exact ⟨k+1,1,_,ta,tc,by omega,by omega,by go_num,rfl,HX,ai,HS.1,HS.2.1,(by show (tl1 y).size<=20000;omega)⟩
     case measure=>simp [zI];omega
    ·have ag:=p2 h2
     have ae:(a:Int)<2:=by omega
     have HZ:=Qaa (Qpu (tl1 y));go_wp2_with fail;refine (QdE (tl1 y) 44 (by omega) ⟨by omega,by omega⟩ _).mono ?_;rintro e w2 ⟨g,ac,rfl,hg,hS,al⟩;have af:=Qaa (HT.past al);have ar:=HT.lt;have am:Hid (Qau w2 (some ⟨g,0,none⟩) (Qbh (tl1 y) 44)):=(fun _=>⟨g,0,rfl,fun j u hj=>by rw [Nat.zero_add];exact hS j u hj⟩:Qau w2 (some ⟨g,0,none⟩) (Qbh (tl1 y) 44));have ad:=Qaa (af.set (r':={ r with tg:=Qbh (tl1 y) 44 }) (tb:=some ⟨g,0,none⟩) (td:=ac) (i:=2) (v:=.slice (some ⟨g,0,none⟩) (Qbh (tl1 y) 44).length ac) (ZZl w2 (w.heap.size+1) 2 _ _ (.slice (some ⟨g,0,none⟩) (Qbh (tl1 y) 44).length ac) af.box) am (fun x e=>by cases e;show w.heap.size+1<g;omega));clear hS al r0 r1 r2 r3 r4 f0 f1 f2 f3 f4 q0 q1 q2 q3 q4 g0 g1 g2 g3 g4 an;obtain ⟨q0,q1,q2,q3,q4⟩:=QfJ af.box;obtain ⟨g0,g1,g2,g3,g4⟩:=Qh3 af.box;go_wp2_with fail;generalize World.setCell _ _ _=w3 at ad ⊢;clear q0 q1 q2 q3 q4 g0 g1 g2 g3 g4 af am;refine (QcD ac _ rfl (by have:=HZ.2;show (Qbh (tl1 y) 44).length<=1048576;omega) (fun u hu=>by have:=HZ.1 u hu;unfold maxLen;omega) ad.tags).mono ?_;rintro e w4 ⟨rfl,hw⟩;obtain rfl:=hw.symm;obtain ⟨r0,r1,r2,r3,r4⟩:=QfJ ad.res;obtain ⟨f0,f1,f2,f3,f4⟩:=Qh3 ad.res;obtain ⟨q0,q1,q2,q3,q4⟩:=QfJ ad.box
     cases hta:(Qbh (tl1 y) 44).all Qbn with
     | false=>
      have HE:Hid (Qa5 0 pt0 L=none):=(by rw [HI.out,HY.out,QkK (step2 h2) h2 (by rw [hta];simp)]:Qa5 0 pt0 L=none);go_wp2;refine bodyPost_ret (v:=.tuple #[.agg #[.string r.rt,.bool r.rd,.slice (some ⟨g,0,none⟩) (Qbh (tl1 y) 44).length ac,.bool r.td,.int .i64 r.ti],.bool false]) (by simp [results,results112,go_sem,r0,r1,r2,r3,r4]) rfl ?_;unfold MoO;exact ⟨{ r with tg:=Qbh (tl1 y) 44 },some ⟨g,0,none⟩,ac,by rw [HE.out];rfl,(fun r' h=>by rw [HE.out] at h;cases h),(ad.fin _ _ _ _ _).1,(fun u hu=>by have:=HZ.1 u hu;omega),(by have:=HZ.2;show (Qbh (tl1 y) 44).length<=20001;omega),HS.2.2,(ad.fin _ _ _ _ _).2⟩
     | true=>
      have HX:Hid (Qa5 0 pt0 L=Qa5 2 { r with tg:=Qbh (tl1 y) 44 } (L.drop (k+1))):=(by rw [HI.out,HY.out,QcQ hm (step2 h2) (fun _=>hta),h2]:Qa5 0 pt0 L=Qa5 2 { r with tg:=Qbh (tl1 y) 44 } (L.drop (k+1)));go_wp2;go_roundw
      case rel=>exact ⟨k+1,2,_,_,ac,by omega,by omega,by go_num,rfl,HX,ad,(fun u hu=>by have:=HZ.1 u hu;omega),(by have:=HZ.2;show (Qbh (tl1 y) 44).length<=20001;omega),HS.2.2⟩
      case measure=>simp [zI];omega
    ·have ag:=p3 h3
     have ae:(a:Int)<3:=by omega
     go_wp2_with fail;refine (QpG (tl1 y) (by omega) _).mono ?_;rintro e w2 ⟨nn,rfl,ap,hw⟩;obtain rfl:=hw.symm
     cases ht:Qjq (tl1 y) with
     | none=>
      have HE:Hid (Qa5 0 pt0 L=none):=(by rw [HI.out,HY.out,QkA (by rw [QtP h3,ht];rfl)]:Qa5 0 pt0 L=none);go_wp2;refine bodyPost_ret (v:=.tuple #[.agg #[.string r.rt,.bool r.rd,.slice ta r.tg.length tc,.bool r.td,.int .i64 r.ti],.bool false]) (by simp [results,results112,go_sem,r0,r1,r2,r3,r4]) rfl ?_;unfold MoO;exact ⟨r,ta,tc,by rw [HE.out];rfl,(fun r' h=>by rw [HE.out] at h;cases h),(HT.fin _ _ _ _ _).1,HS.1,HS.2.1,HS.2.2,(HT.fin _ _ _ _ _).2⟩
     | some m=>
      obtain rfl:=ap m ht;have HX:Hid (Qa5 0 pt0 L=Qa5 3 { r with td:=true,ti:=m } (L.drop (k+1))):=(by rw [HI.out,HY.out,QcQ hm (r':={ r with td:=true,ti:=m }) (by rw [QtP h3,ht];rfl) (fun e=>by omega),h3]:Qa5 0 pt0 L=Qa5 3 { r with td:=true,ti:=m } (L.drop (k+1)));have aa:=Qaa (HT.set (r':={ r with td:=true }) (tb:=ta) (td:=tc) (i:=3) (v:=.bool true) (ZZl wr (w.heap.size+1) 3 _ _ (.bool true) HT.box) HT.tags HT.tne);have ai:=Qaa (aa.set (r':={ r with td:=true,ti:=m }) (tb:=ta) (td:=tc) (i:=4) (v:=.int .i64 m) (ZZl _ (w.heap.size+1) 4 _ _ (.int .i64 m) aa.box) aa.tags aa.tne);go_wp2;go_roundw
      case rel=>exact ⟨k+1,3,_,ta,tc,by omega,by omega,by go_num,rfl,HX,ai,HS⟩
      case measure=>simp [zI];omega
  ·have HE:Hid (Qa5 0 pt0 L=some r):=(by rw [HI.out,List.drop_eq_nil_of_le (by have:=HN.out;omega)];unfold Qa5;rfl:Qa5 0 pt0 L=some r)
   obtain ⟨r0,r1,r2,r3,r4⟩:=QfJ HT.res;obtain ⟨f0,f1,f2,f3,f4⟩:=Qh3 HT.res;obtain ⟨q0,q1,q2,q3,q4⟩:=QfJ HT.box;obtain ⟨g0,g1,g2,g3,g4⟩:=Qh3 HT.box;go_wp2;refine bodyPost_ret (v:=.tuple #[.agg #[.string r.rt,.bool r.rd,.slice ta r.tg.length tc,.bool r.td,.int .i64 r.ti],.bool true]) (by simp [results,results112,go_sem,r0,r1,r2,r3,r4]) rfl ?_;unfold MoO;exact ⟨r,ta,tc,by rw [HE.out];rfl,(fun r' h=>by rw [HE.out] at h;cases h;rfl),(HT.fin _ _ _ _ _).1,HS.1,HS.2.1,HS.2.2,(HT.fin _ _ _ _ _).2⟩
end
variable {k:Int}
section
def SmB (w:World) (b:Nat) (k:Int) (se:ByteArray) (va:Int) (wd:ByteArray) (wt:Int) (td:Bool) (ti:Int):Prop:=w.heap[b]?=some (.cells #[.int .i64 k,.string se,.int .i64 va,.string wd,.int .u64 wt,.bool td,.int .i64 ti] 97 (0,0))
theorem Qp3 (b:Nat) {se:ByteArray} {wt:Int} {td:Bool} {ti:Int} (t:ByteArray) (hz:t.size<=100000) (hB:SmB w b k se 0 ByteArray.empty wt td ti) :
  Calls prog 115 #[.pointer (some ⟨b,0,none⟩),.string t] w fun e w'=>∃ c,e=.returned (.int .i64 c)/\(c=0↔whB k t=true)/\(whB k t=true->SmB w' b k se (whV k t) (whW k t) wt td ti)/\(∀ x,x≠b->x<w.heap.size->w'.heap[x]?=w.heap[x]?)/\Below b w w':=by
 have hm:t.size<=maxLen:=by unfold maxLen;omega
 have hb:b<w.heap.size:=by
  rcases Nat.lt_or_ge b w.heap.size with h' | h'
  ·exact h'
  ·unfold SmB at hB;rw [Array.getElem?_eq_none h'] at hB;cases hB
 have HB:=Qaa hB;unfold SmB at hB;obtain ⟨q0,q1,q2,q3,q4,q5,q6⟩:=Qke hB;obtain ⟨g0,g1,g2,g3,g4,g5,g6⟩:=QkR hB;by_cases h:k=4
 ·have H1:Hid (whV k t=0/\whW k t=t/\whB k t=Qbn t):=(by unfold whV whW whB;rw [if_pos h,if_pos h,if_pos h];exact ⟨rfl,rfl,rfl⟩:whV k t=0/\whW k t=t/\whB k t=Qbn t)
  have H2:=Qaa (ZZl w b 3 _ _ (.string t) hB);clear hB
  cases ht:Qbn t with
  | false=>
   go_enter func115,ntmps115;go_wp2_with (go_at_call 125;refine (Qbw _ _ hm).mono ?_;rw [ht];rintro e w1 ⟨rfl,hw⟩;obtain rfl:=hw.symm);go_ret;refine ⟨3,rfl,?_,?_,(fun x hx _=>Below.heap_setCell w ⟨b,3,none⟩ _ x hx),(ZZb b w).setCell (p:=⟨b,3,none⟩) (ZZa _) _⟩
   ·rw [H1.2.2,ht];simp
   ·rw [H1.2.2,ht];simp
  | true=>
   go_enter func115,ntmps115;go_wp2_with (go_at_call 125;refine (Qbw _ _ hm).mono ?_;rw [ht];rintro e w1 ⟨rfl,hw⟩;obtain rfl:=hw.symm);go_ret;refine ⟨0,rfl,?_,?_,(fun x hx _=>Below.heap_setCell w ⟨b,3,none⟩ _ x hx),(ZZb b w).setCell (p:=⟨b,3,none⟩) (ZZa _) _⟩
   ·rw [H1.2.2,ht];simp
   ·intro _;rw [H1.1,H1.2.1];exact H2.out
 ·have H1:Hid (whV k t=rvV t/\whW k t=ByteArray.empty/\whB k t=decide (rvC t=0)):=(by unfold whV whW whB;rw [if_neg h,if_neg h,if_neg h];exact ⟨rfl,rfl,rfl⟩:whV k t=rvV t/\whW k t=ByteArray.empty/\whB k t=decide (rvC t=0))
  clear hB;go_enter func115,ntmps115;go_wp2_with fail;refine (QeP t hm w).mono ?_;rintro e w1 ⟨rfl,ad⟩;have aa:SmB w1 b k se 0 ByteArray.empty wt td ti:=by unfold SmB;rw [ad.block _ hb];exact HB.out
  have ac:=Qaa ad;clear q0 q1 q2 q3 q4 q5 q6 g0 g1 g2 g3 g4 g5 g6 ad;unfold SmB at aa;obtain ⟨q0,q1,q2,q3,q4,q5,q6⟩:=Qke aa;obtain ⟨g0,g1,g2,g3,g4,g5,g6⟩:=QkR aa;have H2:=Qaa (ZZl w1 b 2 _ _ (.int .i64 (rvV t)) aa);have ab:b<w1.heap.size:=Nat.lt_of_lt_of_le hb ac.size;have ae:¬ b=w1.heap.size:=by omega
  have ag:¬ w1.heap.size=b:=by omega
  have ai:∀ o,(w1.alloc o).frozen? ⟨b,2,none⟩=false:=fun o=>frozen_of_row _ b 2 _ _ (by rw [Below.heap_alloc _ _ _ ab];exact aa);have ah:∀ o x,((w1.alloc o).setCell ⟨b,2,none⟩ x).cell? ⟨w1.heap.size,1,none⟩=(w1.alloc o).cell? ⟨w1.heap.size,1,none⟩:=fun o x=>World.cell?_setCell_far _ _ _ _ ae;clear aa;go_wp2;go_ret;have af:=((ZZb b w1).setCell (p:=⟨b,2,none⟩) (ZZa _) (.int .i64 (rvV t))).size;refine ⟨rvC t,rfl,?_,fun _=>?_,fun x hx hxl=>?_,((ac.mono (Nat.le_of_lt hb)).setCell (p:=⟨b,2,none⟩) (ZZa _) _).alloc (Nat.le_trans (Nat.le_of_lt ab) af) _⟩
  ·rw [H1.2.2];simp
  ·unfold SmB
   rw [Below.heap_alloc _ _ _ (by omega),H1.1,H1.2.1];exact H2.out
  ·rw [Below.heap_alloc _ _ _ (by have:=ac.size;omega),Below.heap_setCell _ _ _ _ (by show x≠b;exact hx),ac.block _ hxl]
theorem QrL (h:QaB nm=false):Qcp nm L=ByteArray.empty:=by unfold Qcp;rw [if_neg (by rw [h];simp)]
theorem Qr1 (h:¬ L.all Qbn=true):Qcp nm L=ByteArray.empty:=by unfold Qcp;rw [if_neg (fun k=>h k.2)]
theorem Qqa (h:QaB nm=true) (k:L.all Qbn=true):Qcp nm L=Qch nm L:=by unfold Qcp;rw [if_pos ⟨h,k⟩]
theorem LnR.bad (hf:Qon t=true) (h:∀ nm wh kd ps r,LP t nm wh kd ps->Qhx 0 pt0 ps=some r->Qcp nm r.tg=ByteArray.empty):LnR t (QdB 3):=Or.inr ⟨hf,Or.inr ⟨h,rfl⟩⟩
theorem LnR.good {r:Pt} (hf:Qon t=true) (h:LP t nm wh kd ps) (hm:Qa5 0 pt0 ps=some r) (hn:QaB nm=true) (hs:Qch nm r.tg≠ByteArray.empty):LnR t (QnS nm wh kd r)/\Qcp nm r.tg=Qch nm r.tg:=by
 rw [Qey ps 0 pt0 rfl] at hm
 cases hq:Qhx 0 pt0 ps with
 | none=>rw [hq] at hm;cases hm
 | some r1=>
  rw [hq] at hm;have aa:QqI r1=some r:=hm;unfold QqI at aa
  split at aa
  ·cases aa
   rename_i ht;have e:=Qqa hn ht;exact ⟨Or.inr ⟨hf,Or.inl ⟨nm,wh,kd,ps,r,h,hq,by rw [e];exact hs,rfl⟩⟩,e⟩
  ·cases aa
theorem Qkz {r:Pt} (hm:Qa5 0 pt0 ps=some r):Qhx 0 pt0 ps=some r/\r.tg.all Qbn=true:=by
 rw [Qey ps 0 pt0 rfl] at hm
 cases hq:Qhx 0 pt0 ps with
 | none=>rw [hq] at hm;cases hm
 | some r1=>
  rw [hq] at hm;have aa:QqI r1=some r:=hm;unfold QqI at aa
  split at aa
  ·cases aa;rename_i ht;exact ⟨rfl,ht⟩
  ·cases aa
theorem LnR.bad2 (hf:Qon t=true) (h:LP t nm wh kd ps) (hm:Qa5 0 pt0 ps=none):LnR t (QdB 3):=LnR.bad hf (fun nm' wh' kd' ps' r' k1 k2=>by
 obtain ⟨rfl,rfl,rfl,rfl⟩:=h.one k1;refine Qr1 (fun hall=>?_);rw [Qey ps 0 pt0 rfl,k2] at hm;have hf1:QqI r'=none:=hm;unfold QqI at hf1;rw [if_pos hall] at hf1;cases hf1)
theorem LnR.bad3 {r:Pt} (hf:Qon t=true) (h:LP t nm wh kd ps) (hm:Qa5 0 pt0 ps=some r) (hn:QaB nm=true) (hs:Qch nm r.tg=ByteArray.empty):LnR t (QdB 3):=LnR.bad hf (fun nm' wh' kd' ps' r' k1 k2=>by
 obtain ⟨rfl,rfl,rfl,rfl⟩:=h.one k1;obtain ⟨m1,m2⟩:=Qkz hm;rw [m1] at k2;cases k2;rw [Qqa hn m2];exact hs)
end
variable {rd:Bool}
section
theorem QsV {b:UInt8} (h:∀ j,j<t.size->¬ bt t j=(b.toNat:Int)):b ∉ toL t:=fun hm=>by
 obtain ⟨j,hj,e⟩:=List.mem_iff_getElem.1 hm;refine h j (by rw [<- Qaq];exact hj) ?_;rw [Ql0 hj,e]
theorem at_bt {k:Nat} (hk:k<t.size) (hb:bt t k=58) (h:∀ j,j<k->¬ bt t j=58):toL t=toL (t.extract 0 k) ++ 58 :: toL (t.extract (k+1) t.size)/\(58:UInt8) ∉ toL (t.extract 0 k):=by
 have hl:k<(toL t).length:=by rw [Qaq];exact hk
 have aa:(toL t)[k]=58:=by
  rw [Ql0 hl] at hb;refine UInt8.toNat_inj.1 ?_;have:(58:UInt8).toNat=58:=rfl;omega
 constructor
 ·have e1:toL (t.extract 0 k)=(toL t).take k:=by rw [Qbk,List.drop_zero]
  have e2:toL (t.extract (k+1) t.size)=(toL t).drop (k+1):=by rw [Qbk,List.take_of_length_le (by rw [Qaq];exact Nat.le_refl _)]
  rw [e1,e2,<- aa,<- List.drop_eq_getElem_cons hl];exact (List.take_append_drop k (toL t)).symm
 ·refine QsV (fun j hj=>?_)
  rw [ByteArray.size_extract] at hj;rw [QnO t 0 k j (by omega) (by omega),Nat.zero_add];exact h j (by omega)
theorem Qbe (c:Int) (w:World) :
  Calls prog 110 #[.int .i64 c] w fun e w'=>e=.returned (.agg (lnZ c))/\Bw w w':=Qr0 c w
theorem row7 {r:Nat} (v0 v1 v2 v3 v4 v5 v6:Value) (h:w.heap[r]?=some (.cells #[u0,u1,u2,u3,u4,u5,u6] T (0,0))) :
  (((((((w.setCell ⟨r,0,none⟩ v0).setCell ⟨r,1,none⟩ v1).setCell ⟨r,2,none⟩ v2).setCell ⟨r,3,none⟩ v3).setCell ⟨r,4,none⟩ v4).setCell ⟨r,5,none⟩ v5).setCell ⟨r,6,none⟩ v6).heap[r]?=some (.cells #[v0,v1,v2,v3,v4,v5,v6] T (0,0)):=by
 have h0:(w.setCell ⟨r,0,none⟩ v0).heap[r]?=some (.cells #[v0,u1,u2,u3,u4,u5,u6] T (0,0)):=ZZl _ r 0 _ _ v0 h;have h1:((w.setCell ⟨r,0,none⟩ v0).setCell ⟨r,1,none⟩ v1).heap[r]?=some (.cells #[v0,v1,u2,u3,u4,u5,u6] T (0,0)):=ZZl _ r 1 _ _ v1 h0;have h2:=ZZl _ r 2 _ _ v2 h1;have h3:=ZZl _ r 3 _ _ v3 h2;have h4:=ZZl _ r 4 _ _ v4 h3;have h5:=ZZl _ r 5 _ _ v5 h4;exact ZZl _ r 6 _ _ v6 h5
theorem emptyL:ByteArray.empty.toList.isEmpty=true:=by rw [ByteArray.toList_eq];rfl
theorem ans_k {r:Pt} (h:Qbg kd=0):QnS nm wh kd r=QdB 9:=by unfold QnS;rw [if_pos h]
theorem ans_w {r:Pt} (h:¬ Qbg kd=0) (h1:whB (Qbg kd) wh=false):QnS nm wh kd r=QdB 3:=by unfold QnS;rw [if_neg h,if_pos h1]
theorem ans_r {r:Pt} (h:¬ Qbg kd=0) (h1:whB (Qbg kd) wh=true) (h2:wtB (Qbg kd) r.rd r.rt=false):QnS nm wh kd r=QdB 10:=by unfold QnS;rw [if_neg h,if_neg (by rw [h1];simp),if_pos h2]
theorem QsZ {r:Pt} (h:¬ Qbg kd=0) (h1:whB (Qbg kd) wh=true) (h2:wtB (Qbg kd) r.rd r.rt=true):QnS nm wh kd r=⟨Qbg kd,Qcp nm r.tg,whV (Qbg kd) wh,whW (Qbg kd) wh,wtV (Qbg kd) r.rd r.rt,r.td,r.ti,0⟩:=by unfold QnS;rw [if_neg h,if_neg (by rw [h1];simp),if_neg (by rw [h2];simp)]
theorem Qqh (t:ByteArray):0<=Qbg t/\Qbg t<=4:=by unfold Qbg;split <;> (try split) <;> (try split) <;> (try split) <;> omega
theorem wt_no {r:ByteArray} (h:rd=true) (h2:¬ raP k r):wtB k rd r=false:=by unfold wtB;rw [if_pos h,if_neg h2]
theorem wt_yes {r:ByteArray} (h:rd=true) (h2:raP k r):wtB k rd r=true/\wtV k rd r=1000000 / rvV r:=by unfold wtB wtV;rw [if_pos h,if_pos h2,if_pos h,if_pos h2];exact ⟨rfl,rfl⟩
theorem QpX {r:ByteArray} (h:rd=false):wtB k rd r=true/\wtV k rd r=1:=by unfold wtB wtV;rw [if_neg (by rw [h];simp),if_neg (by rw [h];simp)];exact ⟨rfl,rfl⟩
def RS (w W:World):Prop:=W.heap[w.heap.size]?=some (.cells (lnZ 0) 122 (0,0))/\Bw w W
theorem RS.lt (h:RS w W):w.heap.size<W.heap.size:=by
 rcases Nat.lt_or_ge w.heap.size W.heap.size with h' | h'
 ·exact h'
 ·have:=h.1;rw [Array.getElem?_eq_none h'] at this;cases this
theorem RS.past {W':World} (h:RS w W) (hb:Bw W W'):RS w W':=⟨by rw [hb.block _ h.lt];exact h.1,Qac h.2 hb⟩
theorem Qux {k:Nat} (h:∀ j,j<k->¬ bt t j=58) (hb:¬ bt t k=58):∀ j,j<k+1->¬ bt t j=58:=fun j hj=>by
 by_cases e:j=k
 ·rw [e];exact hb
 ·exact h j (by omega)
theorem two_of (h:2<=L.length):∃ a b l,L=a :: b :: l:=by
 match L,h with
 | a :: b :: l,_=>exact ⟨a,b,l,rfl⟩
theorem LP.len {R:ByteArray} (ht:toL t=toL nm' ++ 58 :: toL R) (hp:(58:UInt8) ∉ toL nm') (h:LP t nm wh kd ps):nm=nm'/\Qbh R 124=wh :: kd :: ps:=by
 obtain ⟨R',h1,h2,h3⟩:=h;obtain ⟨e1,e2⟩:=QjI (ht.symm.trans h1) hp h2;have e3:=Qbc e2;subst e3;exact ⟨(Qbc e1).symm,h3⟩
theorem QfN (t:ByteArray) (hz:t.size<=maxLen) :
  Calls prog 79 #[.string t] w fun e w'=>∃ s,e=.returned (Qvi s)/\LnR t s/\Bw w w':=by
 have bY:=get_bt t;have b7:t.size<=9223372036854775807:=hz;have ae:Hid (RS w (w.alloc (.cells (lnZ 0) 122))):=(⟨ZZk w _,(ZZb _ _).alloc (ZZa _) _⟩:RS w _)
 cases hf:Qon t with
 | false=>
  have bH:(20000:Int)<(t.size:Int):=by have:¬ t.size<=20000:=of_decide_eq_false hf;omega
  have HR:Hid (LnR t (QdB 2)):=(Or.inl ⟨hf,rfl⟩:LnR t (QdB 2));go_enter func79,ntmps79;go_wp2_with fail;refine (Qbe 2 _).mono ?_;rintro e wz ⟨rfl,ac⟩;have aa:=Qaa (ae.past ac);clear ac;obtain ⟨r0,r1,r2,r3,r4,r5,r6,r7⟩:=Qd0 aa.1;obtain ⟨f0,f1,f2,f3,f4,f5,f6,f7⟩:=Qeb aa.1;go_wp2;refine bodyPost_ret (v:=.agg (lnZ 2)) (by simp [results,results79,go_sem,r0,r1,r2,r3,r4,r5,r6,r7]) rfl ?_;exact ⟨QdB 2,rfl,HR,QlD aa.2 (ZZa _) _ _ _ _ _ _ _ _⟩
 | true=>
  have bH:t.size<=20000:=of_decide_eq_true hf;have bD:¬ (20000:Int)<(t.size:Int):=by omega
  go_enter func79,ntmps79;go_wp2_with fail;generalize (w.alloc _)=W0 at ae ⊢
  go_loopw [3] (fun kv wr=>wr=W0/\∃ k:Nat,k<=t.size/\kv=.int .i64 k/\Hid (∀ j,j<k->¬ bt t j=58)) (fun kv wr=>t.size - (Go.RowKit.intOf kv).toNat)
  case atStart=>exact ⟨rfl,0,ZZj _,rfl,fun j hj=>absurd hj (by omega)⟩
  case round=>
   obtain ⟨rfl,k,hk,rfl,HI⟩:=hrel;by_cases bC:k<t.size
   ·have b4:(k:Int)<(t.size:Int):=by omega
    by_cases ay:bt t k=58
    ·obtain ⟨bf,bb⟩:=at_bt bC ay HI
     have bo:¬ (k:Int)=(t.size:Int):=by omega
     have aA:=Qaa bf;have aK:=Qaa bb;clear bf bb HI;have bF:(t.extract 0 k).size<=20000:=by rw [ByteArray.size_extract];omega
     have bQ:(t.extract (k+1) t.size).size<=20000:=by rw [ByteArray.size_extract];omega
     go_wp2_with fail;generalize hNm:t.extract 0 k=nm at aA aK bF ⊢;refine (QaH nm _ (by unfold maxLen;omega)).mono ?_;rintro e w1 ⟨rfl,hw⟩;obtain rfl:=hw.symm
     cases hnb:QaB nm with
     | false=>
      have HR:Hid (LnR t (QdB 3)):=LnR.bad hf (fun nm' wh kd ps r k1 _=>by obtain ⟨rfl,_⟩:=LP.len aA aK k1;exact QrL hnb);go_wp2_with fail;refine (Qbe 3 _).mono ?_;rintro e wz ⟨rfl,ac⟩;have aa:=Qaa (ae.past ac);clear ac;obtain ⟨r0,r1,r2,r3,r4,r5,r6,r7⟩:=Qd0 aa.1;obtain ⟨f0,f1,f2,f3,f4,f5,f6,f7⟩:=Qeb aa.1;go_wp2;refine bodyPost_ret (v:=.agg (lnZ 3)) (by simp [results,results79,go_sem,r0,r1,r2,r3,r4,r5,r6,r7]) rfl ?_;exact ⟨QdB 3,rfl,HR,QlD aa.2 (ZZa _) _ _ _ _ _ _ _ _⟩
     | true=>
      go_wp2_with fail;generalize t.extract (k+1) t.size=R at aA bQ ⊢;refine (QgC R 124 (by omega) ⟨by omega,by omega⟩ _).mono ?_;rintro e w2 ⟨g,bh,rfl,hg,bB,hS,bi⟩;have aW:=Qaa (ae.past bi);have aG:Hid ((∀ u∈Qbh R 124,u.size<=R.size)/\(Qbh R 124).length<=R.size+1):=Qnk R 124;have aJ:=Qaa hS;clear bi ae hS;generalize hll:(Qbh R 124).length=ln at aG aJ bB;have aZ:=Qaa hll;clear hll;by_cases bP:ln<2
      ·have bAq:(ln:Int)<2:=by omega
       have HR:Hid (LnR t (QdB 3)):=LnR.bad hf (fun nm' wh kd ps r k1 _=>by obtain ⟨_,e⟩:=LP.len aA aK k1;have e2:=aZ.out;rw [e] at e2;simp at e2;omega);go_wp2_with fail;refine (Qbe 3 _).mono ?_;rintro e wz ⟨rfl,ac⟩;have aa:=Qaa (aW.past ac);clear ac;obtain ⟨r0,r1,r2,r3,r4,r5,r6,r7⟩:=Qd0 aa.1;obtain ⟨f0,f1,f2,f3,f4,f5,f6,f7⟩:=Qeb aa.1;go_wp2;refine bodyPost_ret (v:=.agg (lnZ 3)) (by simp [results,results79,go_sem,r0,r1,r2,r3,r4,r5,r6,r7]) rfl ?_;exact ⟨QdB 3,rfl,HR,QlD aa.2 (ZZa _) _ _ _ _ _ _ _ _⟩
      ·have bAq:¬ (ln:Int)<2:=by omega
       obtain ⟨wh,kd,ps,an⟩:=two_of (L:=Qbh R 124) (by have:=aZ.out;omega);have hP:LP t nm wh kd ps:=⟨R,aA,aK,an⟩;have a1:ps.length=ln - 2:=by have:=aZ.out;rw [an] at this;simp at this;omega
       have a5:∀ u∈ps,u.size<=20000:=fun u hu=>by have:=aG.1 u (by rw [an];exact List.mem_cons_of_mem _ (List.mem_cons_of_mem _ hu));omega
       have cc:wh.size<=20000:=by have:=aG.1 wh (by rw [an];exact List.mem_cons_self);omega
       have bk:kd.size<=20000:=by have:=aG.1 kd (by rw [an];exact List.mem_cons_of_mem _ List.mem_cons_self);omega
       have b3:ln<=20001:=by have:=aG.2;omega
       have am:=aJ.out 0 wh (by rw [an];rfl);have a6:=aJ.out 1 kd (by rw [an];rfl);go_upto_region 11 with fail
       go_cut [5,6] (fun v5 v6 w'=>∃ (b5:Nat) (r:Pt) (ta:Option Addr) (tc:Nat),v5=.pointer (some ⟨b5,0,none⟩)/\v6=.bool (Qa5 0 pt0 ps).isSome/\(∀ r',Qa5 0 pt0 ps=some r'->r'=r)/\Qau w' ta r.tg/\r.tg.length<=20001/\r.rt.size<=20000/\w'.heap[b5]?=some (.cells #[.string r.rt,.bool r.rd,.slice ta r.tg.length tc,.bool r.td,.int .i64 r.ti] 156 (0,0))/\Bw w2 w')
       case first=>
        by_cases bI:bh=2
        ·have aQ:ln=2:=by omega
         subst bI;subst aQ;have bO:=Qaa (List.eq_nil_of_length_eq_zero a1);go_wp2_with fail;refine (Qj9 _ _ a1 (by omega) a5 (fun h=>by rw [bO.out] at h;exact absurd h (Nat.lt_irrefl 0))).mono ?_;intro e w3 aB;unfold MoO at aB;obtain ⟨r,ta,tc,rfl,aq,hT,aL,aj,al,ax⟩:=aB;have HF:=Qaa (And.intro aq (And.intro hT (And.intro aj (And.intro al ax))));clear aq hT aL aj al ax;go_wp2_with fail;go_meet;exact ⟨w3.heap.size,r,ta,tc,rfl,rfl,HF.1,QaA HF.2.1 bA,HF.2.2.1,HF.2.2.2.1,ZZk w3 _,HF.2.2.2.2.alloc HF.2.2.2.2.size _⟩
        ·have bv:Hid (Qau w2 (some ⟨g,2,none⟩) ps):=(fun _=>⟨g,2,rfl,fun j u hj=>by have:=aJ.out (j+2) u (by rw [an];exact hj);rwa [Nat.add_comm] at this⟩:Qau w2 (some ⟨g,2,none⟩) ps)
         go_wp2_with fail;refine (Qj9 _ _ a1 (by omega) a5 bv).mono ?_;intro e w3 aB;unfold MoO at aB;obtain ⟨r,ta,tc,rfl,aq,hT,aL,aj,al,ax⟩:=aB;have HF:=Qaa (And.intro aq (And.intro hT (And.intro aj (And.intro al ax))));clear aq hT aL aj al ax;go_wp2_with fail;go_meet;exact ⟨w3.heap.size,r,ta,tc,rfl,rfl,HF.1,QaA HF.2.1 bA,HF.2.2.1,HF.2.2.2.1,ZZk w3 _,HF.2.2.2.2.alloc HF.2.2.2.2.size _⟩
       case rest=>
        obtain ⟨b5,r,ta,tc,rfl,rfl,aq,hT,aj,al,aN,aP⟩:=hcut;obtain ⟨W5,rfl⟩:∃ W,W=wc:=⟨_,rfl⟩;have aH:=Qaa (aW.past aP);have aX:=Qaa hT;have aY:=Qab aP am;have a9:=Qab aP a6;have bK:b5<W5.heap.size:=(ZZc.1 aN).1;have HQ:=Qaa (And.intro aj (And.intro aj al));clear aP hT am a6 aj al aW
        cases hmo:Qa5 0 pt0 ps with
        | none=>
         have HR:Hid (LnR t (QdB 3)):=LnR.bad2 hf hP hmo;clear aN;go_wp2_with fail;refine (Qbe 3 _).mono ?_;rintro e wz ⟨rfl,ac⟩;have aa:=Qaa (aH.past ac);clear ac;obtain ⟨r0,r1,r2,r3,r4,r5,r6,r7⟩:=Qd0 aa.1;obtain ⟨f0,f1,f2,f3,f4,f5,f6,f7⟩:=Qeb aa.1;go_wp2;refine bodyPost_ret (v:=.agg (lnZ 3)) (by simp [results,results79,go_sem,r0,r1,r2,r3,r4,r5,r6,r7]) rfl ?_;exact ⟨QdB 3,rfl,HR,QlD aa.2 (ZZa _) _ _ _ _ _ _ _ _⟩
        | some r'=>
         obtain rfl:=aq r' hmo;go_upto_region 14 with fail;have aU:=(Qkz hmo).2;have bZ:=Qb3 hnb;have a0:=Qaa (QeD aU);have ad:=Qaa (And.intro hP (And.intro hmo hnb));obtain ⟨y0,y1,y2,y3,y4⟩:=QfJ aN;have cb:(1:Int)<(ln:Int):=by omega
         have bs:1<ln:=by omega
         have bS:(0:Int)<(ln:Int):=by omega
         have bk:(k:Int)<=(t.size:Int):=by omega
         have bm:k<=t.size:=by omega
         clear aN;have bV:g<W5.heap.size:=World.block_lt_of_cell? _ _ aY;generalize hN5:r'.tg.length=n5 at y2 ⊢;have a4:=Qaa hN5;have b0:n5<=20001:=by rw [<- hN5];exact HQ.2.1
         clear hN5;have ag:Hid (∀ W,Bw W5 W->W.cell? ⟨g,1,none⟩=some (.string kd)/\W.cell? ⟨b5,0,none⟩=some (.string r'.rt)/\W.cell? ⟨b5,1,none⟩=some (.bool r'.rd)/\W.cell? ⟨b5,2,none⟩=some (.slice ta n5 tc)/\W.cell? ⟨b5,3,none⟩=some (.bool r'.td)/\W.cell? ⟨b5,4,none⟩=some (.int .i64 r'.ti)):=fun W hW=>⟨Qab hW a9,Qab hW y0,Qab hW y1,Qab hW y2,Qab hW y3,Qab hW y4⟩
         go_cut [7] (fun v w'=>∃ g5:Nat,v=.pointer (some ⟨g5,0,none⟩)/\SmB w' g5 (Qbg kd) (Qch nm r'.tg) 0 ByteArray.empty 1 r'.td r'.ti/\W5.heap.size<=g5/\Bw W5 w')
         case first=>
          have ae:(fun W=>Bw W5 W) W5.drew:=(ZZb _ _).drew;refine Qal (fun W=>Bw W5 W) 17 (by kernel_rfl) ?_;refine tkL 0 (.slice (some ⟨g,0,none⟩) ln bh) ae (fun W hW=>?_) ?_
          ·obtain ⟨z0,z1,z2,z3,z4,z5⟩:=ag.out W hW
           go_simp
          refine tkL 1 (.pointer (some ⟨g,1,none⟩)) ae (fun W hW=>?_) ?_
          ·obtain ⟨z0,z1,z2,z3,z4,z5⟩:=ag.out W hW
           go_simp
          refine tkL 2 (.string kd) ae (fun W hW=>?_) ?_
          ·obtain ⟨z0,z1,z2,z3,z4,z5⟩:=ag.out W hW
           go_simp
          simp only [sX];refine tkL 4 (.string t) ae (fun W hW=>?_) ?_
          ·obtain ⟨z0,z1,z2,z3,z4,z5⟩:=ag.out W hW
           go_simp
          refine tkL 5 (.int .i64 k) ae (fun W hW=>?_) ?_
          ·obtain ⟨z0,z1,z2,z3,z4,z5⟩:=ag.out W hW
           go_simp
          refine tkL 6 (.string nm) ae (fun W hW=>?_) ?_
          ·obtain ⟨z0,z1,z2,z3,z4,z5⟩:=ag.out W hW
           go_simp
          simp only [sX];refine tkL 7 (.pointer (some ⟨b5,2,none⟩)) ae (fun W hW=>?_) ?_
          ·obtain ⟨z0,z1,z2,z3,z4,z5⟩:=ag.out W hW
           go_simp
          refine tkL 8 (.slice ta n5 tc) ae (fun W hW=>?_) ?_
          ·obtain ⟨z0,z1,z2,z3,z4,z5⟩:=ag.out W hW
           go_simp
          refine tkL 10 (.pointer (some ⟨b5,3,none⟩)) ae (fun W hW=>?_) ?_
          ·obtain ⟨z0,z1,z2,z3,z4,z5⟩:=ag.out W hW
           go_simp
          simp only [sX];refine tkL 11 (.bool r'.td) ae (fun W hW=>?_) ?_
          ·obtain ⟨z0,z1,z2,z3,z4,z5⟩:=ag.out W hW
           go_simp
          refine tkL 12 (.pointer (some ⟨b5,4,none⟩)) ae (fun W hW=>?_) ?_
          ·obtain ⟨z0,z1,z2,z3,z4,z5⟩:=ag.out W hW
           go_simp
          refine tkL 13 (.int .i64 r'.ti) ae (fun W hW=>?_) ?_
          ·obtain ⟨z0,z1,z2,z3,z4,z5⟩:=ag.out W hW
           go_simp
          simp only [sX];refine QqX (i:=3) (j:=15) (by kernel_rfl) rfl rfl (fun K hK=>?_) (fun K hK=>?_)
          ·go_simp
           refine (Qkt kd _).mono ?_;rintro e Wk ⟨rfl,aV⟩;subst aV;dsimp only;refine gK hK ae ?_
           try simp only [sX]
           refine QqX (i:=9) (j:=15) (by kernel_rfl) rfl rfl (fun K hK=>?_) (fun K hK=>?_)
           ·go_simp
            refine (QbA nm _ _ (by omega) a4 (by omega) a0 (QaA aX (ae:Bw W5 _))).mono ?_;rintro e W6 ⟨rfl,hb⟩;dsimp only;have ab:=Qaa ((ae:Bw W5 _).trans (hb.mono (ae:Bw W5 _).size));have ai:=Qaa hb;clear hb;refine gK hK ab.out ?_
            try simp only [sX]
            refine tkL 14 (.agg #[.int .i64 (Qbg kd),.string (Qch nm r'.tg),.int .i64 0,.string ⟨#[]⟩,.int .u64 1,.bool r'.td,.int .i64 r'.ti]) ab (fun W hW=>?_) ?_
            ·obtain ⟨z0,z1,z2,z3,z4,z5⟩:=ag.out W hW
             go_simp
            simp only [sX];refine onE 15 fun K hK=>?_;go_simp;have af:=Qaa (Below.alloc (ab.out:Bw W5 W6) (ab.out:Bw W5 W6).size (.cells zAa 97));refine gK hK af.out ?_
            try simp only [sX]
            have R5:=ZZk W6 (.cells zAa 97);obtain ⟨q0,q1,q2,q3,q4,q5,q6⟩:=Qke R5;obtain ⟨f0,f1,f2,f3,f4,f5,f6⟩:=QkR R5;refine onE 16 fun K hK=>?_;go_simp;refine hK.out _ _ (fun _=>Below.alloc ab ab.size _) ?_
            try simp only [sX]
            refine dnE ?_ _;go_wp2;go_meet;exact ⟨W6.heap.size,rfl,ZZk W6 _,ab.size,Below.alloc ab ab.size _⟩
           ·go_simp
            have af:=Qaa (Below.alloc (ae:Bw W5 W5.drew) (ae:Bw W5 W5.drew).size (.cells zAa 97));refine gK hK af.out ?_
            try simp only [sX]
            refine onE 9 fun K hK=>?_;go_simp;refine (QbA nm _ _ (by omega) a4 (by omega) a0 (QaA aX (af.out:Bw W5 _))).mono ?_;rintro e W6 ⟨rfl,hb⟩;dsimp only;have ab:=Qaa ((af.out:Bw W5 _).trans (hb.mono (af.out:Bw W5 _).size));have ai:=Qaa hb;clear hb;refine gK hK ab.out ?_
            try simp only [sX]
            have R5:W6.heap[W5.heap.size]?=some (.cells zAa 97 (0,0)):=by rw [ai.block _ (by simp)];exact ZZk W5.drew _
            obtain ⟨q0,q1,q2,q3,q4,q5,q6⟩:=Qke R5;obtain ⟨f0,f1,f2,f3,f4,f5,f6⟩:=QkR R5;refine onE 14 fun K hK=>?_;go_simp;refine gK hK ab.out ?_
            try simp only [sX]
            refine onE 16 fun K hK=>?_;go_simp;refine hK.out _ _ (fun _=>(((((((ab.setCell (p:=⟨W5.heap.size,0,none⟩) (ZZa _) _).setCell (p:=⟨W5.heap.size,1,none⟩) (ZZa _) _).setCell (p:=⟨W5.heap.size,2,none⟩) (ZZa _) _).setCell (p:=⟨W5.heap.size,3,none⟩) (ZZa _) _).setCell (p:=⟨W5.heap.size,4,none⟩) (ZZa _) _).setCell (p:=⟨W5.heap.size,5,none⟩) (ZZa _) _).setCell (p:=⟨W5.heap.size,6,none⟩) (ZZa _) _)) ?_
            try simp only [sX]
            refine dnE ?_ _;go_wp2;go_meet;exact ⟨W5.heap.size,rfl,row7 _ _ _ _ _ _ _ R5,ZZa _,(((((((ab.setCell (p:=⟨W5.heap.size,0,none⟩) (ZZa _) _).setCell (p:=⟨W5.heap.size,1,none⟩) (ZZa _) _).setCell (p:=⟨W5.heap.size,2,none⟩) (ZZa _) _).setCell (p:=⟨W5.heap.size,3,none⟩) (ZZa _) _).setCell (p:=⟨W5.heap.size,4,none⟩) (ZZa _) _).setCell (p:=⟨W5.heap.size,5,none⟩) (ZZa _) _).setCell (p:=⟨W5.heap.size,6,none⟩) (ZZa _) _)⟩
          ·go_simp
           have af:=Qaa (Below.alloc (ae:Bw W5 W5.drew) (ae:Bw W5 W5.drew).size (.cells zAa 97));refine gK hK af.out ?_
           try simp only [sX]
           refine onE 3 fun K hK=>?_;go_simp;refine (Qkt kd _).mono ?_;rintro e Wk ⟨rfl,aV⟩;subst aV;dsimp only;refine gK hK af.out ?_
           try simp only [sX]
           refine onE 9 fun K hK=>?_;go_simp;refine (QbA nm _ _ (by omega) a4 (by omega) a0 (QaA aX (af.out:Bw W5 _))).mono ?_;rintro e W6 ⟨rfl,hb⟩;dsimp only;have ab:=Qaa ((af.out:Bw W5 _).trans (hb.mono (af.out:Bw W5 _).size));have ai:=Qaa hb;clear hb;refine gK hK ab.out ?_
           try simp only [sX]
           have R5:W6.heap[W5.heap.size]?=some (.cells zAa 97 (0,0)):=by rw [ai.block _ (by simp)];exact ZZk W5.drew _
           obtain ⟨q0,q1,q2,q3,q4,q5,q6⟩:=Qke R5;obtain ⟨f0,f1,f2,f3,f4,f5,f6⟩:=QkR R5;refine onE 14 fun K hK=>?_;go_simp;refine gK hK ab.out ?_
           try simp only [sX]
           refine onE 16 fun K hK=>?_;go_simp;refine hK.out _ _ (fun _=>(((((((ab.setCell (p:=⟨W5.heap.size,0,none⟩) (ZZa _) _).setCell (p:=⟨W5.heap.size,1,none⟩) (ZZa _) _).setCell (p:=⟨W5.heap.size,2,none⟩) (ZZa _) _).setCell (p:=⟨W5.heap.size,3,none⟩) (ZZa _) _).setCell (p:=⟨W5.heap.size,4,none⟩) (ZZa _) _).setCell (p:=⟨W5.heap.size,5,none⟩) (ZZa _) _).setCell (p:=⟨W5.heap.size,6,none⟩) (ZZa _) _)) ?_
           try simp only [sX]
           refine dnE ?_ _;go_wp2;go_meet;exact ⟨W5.heap.size,rfl,row7 _ _ _ _ _ _ _ R5,ZZa _,(((((((ab.setCell (p:=⟨W5.heap.size,0,none⟩) (ZZa _) _).setCell (p:=⟨W5.heap.size,1,none⟩) (ZZa _) _).setCell (p:=⟨W5.heap.size,2,none⟩) (ZZa _) _).setCell (p:=⟨W5.heap.size,3,none⟩) (ZZa _) _).setCell (p:=⟨W5.heap.size,4,none⟩) (ZZa _) _).setCell (p:=⟨W5.heap.size,5,none⟩) (ZZa _) _).setCell (p:=⟨W5.heap.size,6,none⟩) (ZZa _) _)⟩
         case rest=>
          obtain ⟨g5,rfl,aO,bl,hB⟩:=hcut;have au:=Qaa (aH.past hB);obtain ⟨_,x0,x1,_,_,_⟩:=ag.out _ hB;have br:=Qab hB aY;have bj:b5<g5:=by omega
          have b2:g<g5:=by omega
          have ba:w.heap.size<g5:=Nat.lt_of_lt_of_le aH.lt bl;have bN:=Qaa aO;unfold SmB at aO;obtain ⟨s0,s1,s2,s3,s4,s5,s6⟩:=Qke aO;clear aO hB y0 y1 y2 y3 y4 aY a9 aH;by_cases av:Qch nm r'.tg=ByteArray.empty
          ·have bu:(Qch nm r'.tg).toList.isEmpty=true:=by rw [av];exact emptyL
           have HR:Hid (LnR t (QdB 3)):=LnR.bad3 hf ad.1 ad.2.1 ad.2.2 av;clear av;go_wp2_with fail;refine (Qbe 3 _).mono ?_;rintro e wz ⟨rfl,ac⟩;have aa:=Qaa (au.past ac);clear ac;obtain ⟨r0,r1,r2,r3,r4,r5,r6,r7⟩:=Qd0 aa.1;obtain ⟨f0,f1,f2,f3,f4,f5,f6,f7⟩:=Qeb aa.1;go_wp2;refine bodyPost_ret (v:=.agg (lnZ 3)) (by simp [results,results79,go_sem,r0,r1,r2,r3,r4,r5,r6,r7]) rfl ?_;exact ⟨QdB 3,rfl,HR,QlD aa.2 (ZZa _) _ _ _ _ _ _ _ _⟩
          ·have bu:(Qch nm r'.tg).toList.isEmpty=false:=Qjj av
           obtain ⟨ao,be⟩:=LnR.good hf ad.1 ad.2.1 ad.2.2 av;have HG:=Qaa (And.intro ao be);clear ao be av;by_cases aw:Qbg kd=0
           ·have bE:(Qbg kd == 0)=true:=by simp [aw]
            have HR:Hid (LnR t (QdB 9)):=by rw [<- ans_k (nm:=nm) (wh:=wh) (r:=r') aw];exact HG.1
            clear aw;go_wp2_with fail;refine (Qbe 9 _).mono ?_;rintro e wz ⟨rfl,ac⟩;have aa:=Qaa (au.past ac);clear ac;obtain ⟨r0,r1,r2,r3,r4,r5,r6,r7⟩:=Qd0 aa.1;obtain ⟨f0,f1,f2,f3,f4,f5,f6,f7⟩:=Qeb aa.1;go_wp2;refine bodyPost_ret (v:=.agg (lnZ 9)) (by simp [results,results79,go_sem,r0,r1,r2,r3,r4,r5,r6,r7]) rfl ?_;exact ⟨QdB 9,rfl,HR,QlD aa.2 (ZZa _) _ _ _ _ _ _ _ _⟩
           ·have bE:(Qbg kd == 0)=false:=ZZf.2 aw
            have az:=Qaa aw;clear aw;go_wp2_with fail;refine (Qp3 g5 wh (by omega) bN).mono ?_;rintro e w7 ⟨c,rfl,am,ar,aD,aM⟩;have aI:Hid (RS w w7):=⟨by rw [aD _ (by omega) au.lt];exact au.1,au.2.trans (aM.mono (Nat.le_of_lt ba))⟩;have v0:w7.cell? ⟨b5,0,none⟩=some (.string r'.rt):=by rw [aM.cell (p:=⟨b5,0,none⟩) bj];exact x0
            have v1:w7.cell? ⟨b5,1,none⟩=some (.bool r'.rd):=by rw [aM.cell (p:=⟨b5,1,none⟩) bj];exact x1
            clear aD aM x0 x1 br s0 s1 s2 s3 s4 s5 s6 au
            cases hwh:whB (Qbg kd) wh with
            | false=>
             have bL:¬ c=0:=fun e=>by rw [hwh] at am;exact absurd (am.1 e) (by simp)
             have bR:(c == 0)=false:=ZZf.2 bL;have HR:Hid (LnR t (QdB 3)):=by rw [<- ans_w (nm:=nm) (r:=r') az.out hwh];exact HG.1
             clear am ar;go_wp2_with fail;refine (Qbe 3 _).mono ?_;rintro e wz ⟨rfl,ac⟩;have aa:=Qaa (aI.past ac);clear ac;obtain ⟨r0,r1,r2,r3,r4,r5,r6,r7⟩:=Qd0 aa.1;obtain ⟨f0,f1,f2,f3,f4,f5,f6,f7⟩:=Qeb aa.1;go_wp2;refine bodyPost_ret (v:=.agg (lnZ 3)) (by simp [results,results79,go_sem,r0,r1,r2,r3,r4,r5,r6,r7]) rfl ?_;exact ⟨QdB 3,rfl,HR,QlD aa.2 (ZZa _) _ _ _ _ _ _ _ _⟩
            | true=>
             obtain rfl:c=0:=am.2 hwh;have ah:=ar hwh;have aF:=Qaa ah;unfold SmB at ah;obtain ⟨s0,s1,s2,s3,s4,s5,s6⟩:=Qke ah;obtain ⟨t0,t1,t2,t3,t4,t5,t6⟩:=QkR ah;have a2:=Qaa hwh;clear ar am ah hwh
             cases hrd:r'.rd with
             | false=>
              rw [hrd] at v1
              have HV:Hid (Ending.returned (.agg #[.int .i64 (Qbg kd),.string (Qch nm r'.tg),.int .i64 (whV (Qbg kd) wh),.string (whW (Qbg kd) wh),.int .u64 1,.bool r'.td,.int .i64 r'.ti,.int .i64 0])=.returned (Qvi (QnS nm wh kd r'))):=by
               rw [QsZ az.out a2.out (QpX hrd).1,(QpX hrd).2,HG.2];rfl
              have HR:=Qaa HG.1;have aT:=aI;obtain ⟨r0,r1,r2,r3,r4,r5,r6,r7⟩:=Qd0 aT.1;obtain ⟨f0,f1,f2,f3,f4,f5,f6,f7⟩:=Qeb aT.1;go_wp2;refine bodyPost_ret (v:=.agg #[.int .i64 (Qbg kd),.string (Qch nm r'.tg),.int .i64 (whV (Qbg kd) wh),.string (whW (Qbg kd) wh),.int .u64 1,.bool r'.td,.int .i64 r'.ti,.int .i64 0]) (by simp [results,results79,go_sem,r0,r1,r2,r3,r4,r5,r6,r7]) rfl ?_;exact ⟨_,HV,HR,QlD aT.2 (ZZa _) _ _ _ _ _ _ _ _⟩
             | true=>
              rw [hrd] at v1;have bJ:r'.rt.size<=maxLen:=by have:=HQ.2.2;unfold maxLen;omega
              go_wp2_with fail;refine (QeP r'.rt bJ _).mono ?_;rintro e w8 ⟨rfl,aR⟩;have aC:=Qaa (aI.past aR);have bn:g5<w7.heap.size:=World.block_lt_of_cell? _ _ s0
              have a3:Hid (SmB w8 g5 (Qbg kd) (Qch nm r'.tg) (whV (Qbg kd) wh) (whW (Qbg kd) wh) 1 r'.td r'.ti):=by
               unfold SmB;rw [aR.block _ bn];exact aF.out
              clear aR s0 s1 s2 s3 s4 s5 s6 t0 t1 t2 t3 t4 t5 t6 v0 v1 aI aF;have ap:=a3.out;unfold SmB at ap;obtain ⟨s0,s1,s2,s3,s4,s5,s6⟩:=Qke ap;obtain ⟨t0,t1,t2,t3,t4,t5,t6⟩:=QkR ap;have b9:g5<w8.heap.size:=World.block_lt_of_cell? _ _ s0;have bx:¬ w.heap.size=g5:=by omega
              have bG:¬ g5=w.heap.size:=by omega
              have bp:¬ g5=w8.heap.size:=by omega
              have bq:¬ w8.heap.size=g5:=by omega
              have aE:Hid (∀ o,RS w (w8.alloc o)):=fun o=>aC.past ((ZZb _ _).alloc (ZZa _) o);obtain ⟨cd,ca⟩:=Qqh kd;by_cases ak:raP (Qbg kd) r'.rt
              ·obtain ⟨c1,c2,c3,c4⟩:=ak
               have bd:=Qaa (wt_yes hrd (show raP (Qbg kd) r'.rt from ⟨c1,c2,c3,c4⟩));obtain ⟨q,hq⟩:∃ q,q=1000000 / rvV r'.rt:=⟨_,rfl⟩;have bT:0<=q:=by rw [hq];exact Int.ediv_nonneg (by omega) (by omega)
               have aL:q<=1000000:=by rw [hq];exact Int.ediv_le_self _ (by omega)
               have bW:(1000000:Int).tdiv (rvV r'.rt)=q:=by rw [hq,Int.tdiv_eq_ediv_of_nonneg (by omega)]
               have bU:IntKind.i64.wrap q=q:=ZZi _ ⟨by omega,by omega⟩;have b1:IntKind.u64.wrap q=q:=IntWalk.u64_in _ ⟨by omega,by omega⟩;have bz:(rvV r'.rt == 0)=false:=ZZf.2 (by omega);have b8:¬ rvV r'.rt=0:=by omega
               have dl:decide (rvV r'.rt<1)=false:=ZZg (by omega);have dgt:decide (1000000<rvV r'.rt)=false:=ZZg (by omega);have bg:(Qbg kd == 2)=false:=ZZf.2 (by omega);have bw:(Qbg kd == 4)=false:=ZZf.2 (by omega);have bc:(rvC r'.rt == 0)=true:=by simp [c1]
               have HV:Hid (Ending.returned (.agg #[.int .i64 (Qbg kd),.string (Qch nm r'.tg),.int .i64 (whV (Qbg kd) wh),.string (whW (Qbg kd) wh),.int .u64 q,.bool r'.td,.int .i64 r'.ti,.int .i64 0])=.returned (Qvi (QnS nm wh kd r'))):=by
                rw [QsZ az.out a2.out bd.1,bd.2,HG.2,hq];rfl
               have HR:=Qaa HG.1;have b6:=Qaa c1;clear hq c1 c4;obtain ⟨r0,r1,r2,r3,r4,r5,r6,r7⟩:=Qd0 aC.1;obtain ⟨f0,f1,f2,f3,f4,f5,f6,f7⟩:=Qeb aC.1;have bX:w.heap.size<w8.heap.size:=by omega
               go_wp2
               have R9:(w8.setCell ⟨g5,4,none⟩ (.int .u64 q)).heap[w.heap.size]?=some (.cells (lnZ 0) 122 (0,0)):=by
                rw [Below.heap_setCell w8 ⟨g5,4,none⟩ _ _ (by show w.heap.size≠g5;omega)];exact aC.1
               have a8:=row8 (.int .i64 (Qbg kd)) (.string (Qch nm r'.tg)) (.int .i64 (whV (Qbg kd) wh)) (.string (whW (Qbg kd) wh)) (.int .u64 q) (.bool r'.td) (.int .i64 r'.ti) (.int .i64 0) R9;have aS:=(ZZc.1 a8).1
               refine bodyPost_ret (v:=.agg #[.int .i64 (Qbg kd),.string (Qch nm r'.tg),.int .i64 (whV (Qbg kd) wh),.string (whW (Qbg kd) wh),.int .u64 q,.bool r'.td,.int .i64 r'.ti,.int .i64 0]) (by
                obtain ⟨z0,z1,z2,z3,z4,z5,z6,z7⟩:=Qd0 ((Below.heap_alloc _ (.cells #[.int .i64 (rvV r'.rt),.int .i64 0] 163) _ aS).trans a8);simp [results,results79,go_sem,z0,z1,z2,z3,z4,z5,z6,z7]) rfl ?_
               have a7:=QlD (aC.2.setCell (p:=⟨g5,4,none⟩) (Nat.le_of_lt ba) (.int .u64 q)) (ZZa _) (.int .i64 (Qbg kd)) (.string (Qch nm r'.tg)) (.int .i64 (whV (Qbg kd) wh)) (.string (whW (Qbg kd) wh)) (.int .u64 q) (.bool r'.td) (.int .i64 r'.ti) (.int .i64 0);exact ⟨_,HV,HR,a7.alloc a7.size _⟩
              ·have HR:Hid (LnR t (QdB 10)):=by rw [<- ans_r (nm:=nm) (r:=r') az.out a2.out (wt_no hrd ak)];exact HG.1
               by_cases c1:rvC r'.rt=0
               ·have bc:(rvC r'.rt == 0)=true:=by simp [c1]
                by_cases c2:rvV r'.rt<1
                ·have dl:decide (rvV r'.rt<1)=true:=ZZh c2
                 clear ak;go_wp2_with fail;refine (Qbe 10 _).mono ?_;rintro e wz ⟨rfl,ac⟩;have aa:=Qaa ((aE.out _).past ac);clear ac;obtain ⟨r0,r1,r2,r3,r4,r5,r6,r7⟩:=Qd0 aa.1;obtain ⟨f0,f1,f2,f3,f4,f5,f6,f7⟩:=Qeb aa.1;go_wp2;refine bodyPost_ret (v:=.agg (lnZ 10)) (by simp [results,results79,go_sem,r0,r1,r2,r3,r4,r5,r6,r7]) rfl ?_;exact ⟨QdB 10,rfl,HR,QlD aa.2 (ZZa _) _ _ _ _ _ _ _ _⟩
                ·have dl:decide (rvV r'.rt<1)=false:=ZZg c2
                 by_cases c3:1000000<rvV r'.rt
                 ·have dgt:decide (1000000<rvV r'.rt)=true:=ZZh c3
                  clear ak;go_wp2_with fail;refine (Qbe 10 _).mono ?_;rintro e wz ⟨rfl,ac⟩;have aa:=Qaa ((aE.out _).past ac);clear ac;obtain ⟨r0,r1,r2,r3,r4,r5,r6,r7⟩:=Qd0 aa.1;obtain ⟨f0,f1,f2,f3,f4,f5,f6,f7⟩:=Qeb aa.1;go_wp2;refine bodyPost_ret (v:=.agg (lnZ 10)) (by simp [results,results79,go_sem,r0,r1,r2,r3,r4,r5,r6,r7]) rfl ?_;exact ⟨QdB 10,rfl,HR,QlD aa.2 (ZZa _) _ _ _ _ _ _ _ _⟩
                 ·have dgt:decide (1000000<rvV r'.rt)=false:=ZZg c3
                  by_cases c4:Qbg kd=2
                  ·have bg:(Qbg kd == 2)=true:=by simp [c4]
                   clear ak;go_wp2_with fail;refine (Qbe 10 _).mono ?_;rintro e wz ⟨rfl,ac⟩;have aa:=Qaa ((aE.out _).past ac);clear ac;obtain ⟨r0,r1,r2,r3,r4,r5,r6,r7⟩:=Qd0 aa.1;obtain ⟨f0,f1,f2,f3,f4,f5,f6,f7⟩:=Qeb aa.1;go_wp2;refine bodyPost_ret (v:=.agg (lnZ 10)) (by simp [results,results79,go_sem,r0,r1,r2,r3,r4,r5,r6,r7]) rfl ?_;exact ⟨QdB 10,rfl,HR,QlD aa.2 (ZZa _) _ _ _ _ _ _ _ _⟩
                  ·have bg:(Qbg kd == 2)=false:=ZZf.2 c4
                   have bw:(Qbg kd == 4)=true:=by
                    have:Qbg kd=4:=by
                     have h0:=az.out;have:¬ (Qbg kd=1∨Qbg kd=3):=fun h=>ak ⟨c1,by omega,by omega,h⟩;omega
                    simp [this]
                   clear ak;go_wp2_with fail;refine (Qbe 10 _).mono ?_;rintro e wz ⟨rfl,ac⟩;have aa:=Qaa ((aE.out _).past ac);clear ac;obtain ⟨r0,r1,r2,r3,r4,r5,r6,r7⟩:=Qd0 aa.1;obtain ⟨f0,f1,f2,f3,f4,f5,f6,f7⟩:=Qeb aa.1;go_wp2;refine bodyPost_ret (v:=.agg (lnZ 10)) (by simp [results,results79,go_sem,r0,r1,r2,r3,r4,r5,r6,r7]) rfl ?_;exact ⟨QdB 10,rfl,HR,QlD aa.2 (ZZa _) _ _ _ _ _ _ _ _⟩
               ·have bc:(rvC r'.rt == 0)=false:=ZZf.2 c1
                clear ak;go_wp2_with fail;refine (Qbe 10 _).mono ?_;rintro e wz ⟨rfl,ac⟩;have aa:=Qaa ((aE.out _).past ac);clear ac;obtain ⟨r0,r1,r2,r3,r4,r5,r6,r7⟩:=Qd0 aa.1;obtain ⟨f0,f1,f2,f3,f4,f5,f6,f7⟩:=Qeb aa.1;go_wp2;refine bodyPost_ret (v:=.agg (lnZ 10)) (by simp [results,results79,go_sem,r0,r1,r2,r3,r4,r5,r6,r7]) rfl ?_;exact ⟨QdB 10,rfl,HR,QlD aa.2 (ZZa _) _ _ _ _ _ _ _ _⟩
    ·go_wp2
     go_roundw
     case rel=>exact ⟨trivial,k+1,by omega,by go_num,Qux HI ay⟩
     case measure=>simp [zI];omega
   ·have bM:k=t.size:=by omega
    have HR:Hid (LnR t (QdB 3)):=LnR.bad hf (fun nm wh kd ps r k1 _=>(LP.no1 (QsV (b:=58) (fun j hj=>HI.out j (by omega))) k1).elim);subst bM;go_wp2_with fail;refine (Qbe 3 _).mono ?_;rintro e wz ⟨rfl,ac⟩;have aa:=Qaa (ae.past ac);clear ac;obtain ⟨r0,r1,r2,r3,r4,r5,r6,r7⟩:=Qd0 aa.1;obtain ⟨f0,f1,f2,f3,f4,f5,f6,f7⟩:=Qeb aa.1;go_wp2;refine bodyPost_ret (v:=.agg (lnZ 3)) (by simp [results,results79,go_sem,r0,r1,r2,r3,r4,r5,r6,r7]) rfl ?_;exact ⟨QdB 3,rfl,HR,QlD aa.2 (ZZa _) _ _ _ _ _ _ _ _⟩
end
section
def PtT (r:Pt):Prop:=(r.td=true/\r.ti<=1000000000)∨(r.td=false/\r.ti=0)
theorem Qu8 (h:Qjq t=some n):n<=1000000000:=by
 unfold Qjq at h
 split at h
 ·split at h
  ·cases h;assumption
  ·cases h
 ·cases h
theorem Qpa {r r':Pt} (h:PtT r) (e:QcM r p=some r'):PtT r':=by
 unfold QcM at e
 split at e
 ·cases e;exact h
 split at e
 ·cases e;exact h
 split at e
 ·obtain ⟨n,hn,rfl⟩:=Option.map_eq_some_iff.1 e
  exact .inl ⟨rfl,Qu8 hn⟩
 ·cases e
theorem QkM:∀ (ps:List ByteArray) (a:Nat) (r r':Pt),PtT r->Qhx a r ps=some r'->PtT r'
 | [],a,r,r',h,e=>by cases e;exact h
 | p :: ps,a,r,r',h,e=>by
  unfold Qhx at e
  split at e
  ·cases e
  ·cases hs:QcM r p with
   | none=>rw [hs] at e;cases e
   | some q=>rw [hs] at e;exact QkM ps _ q r' (Qpa h hs) e
theorem QpS {r:ByteArray} (h:wtB k rd r=true):Qc1 k (wtV k rd r)=true:=by
 unfold wtB at h;unfold wtV Qc1
 cases rd with
 | false=>simp
 | true=>
  rw [if_pos rfl] at h;rw [if_pos rfl]
  split at h
  ·rename_i hr
   rw [if_pos hr];obtain ⟨_,h1,h2,h3⟩:=hr;have q1:1<=1000000 / rvV r:=Int.le_ediv_of_mul_le (by omega) (by omega);have q2:1000000 / rvV r<=1000000:=Int.ediv_le_self _ (by omega);simp only [Bool.or_eq_true,yB,decide_eq_true_eq];exact .inr ⟨⟨h3,by omega⟩,q2⟩
  ·cases h
theorem Qq9 (h:u≠ByteArray.empty):0<u.size:=by
 rcases Nat.eq_zero_or_pos u.size with q | q
 ·exact absurd (Qbc (List.eq_nil_of_length_eq_zero (by rw [Qaq];exact q))) h
 ·exact q
theorem LnR.right {s:Sm} (h:LnR t s) (hc:s.c=0):QbK s.k s.se s.va s.wd s.wt s.td (s.ti:Int)=true/\Qbt s.se=true:=by
 rcases h with ⟨_,rfl⟩ | ⟨_,⟨nm,wh,kd,ps,r,hl,hm,aa,rfl⟩ | ⟨_,rfl⟩⟩
 ·cases hc
 ·have ht:=QkM ps 0 pt0 r (.inr ⟨rfl,rfl⟩) hm
  unfold QnS at hc ⊢
  split at hc
  ·cases hc
  rename_i hk;rw [if_neg hk]
  split at hc
  ·cases hc
  rename_i hw;rw [if_neg hw]
  split at hc
  ·cases hc
  rename_i hb;rw [if_neg hb];have hw:whB (Qbg kd) wh=true:=by simpa using hw
  have hb:wtB (Qbg kd) r.rd r.rt=true:=by simpa using hb
  have hs:Qbt (Qcp nm r.tg)=true:=QcC (QlG rfl (Qq9 aa));refine ⟨?_,hs⟩
  have a1:Qim (Qbg kd)=true:=by
   unfold Qim;rcases Quh kd with e | e | e | e | e
   ·exact absurd e hk
   all_goals rw [e];decide
  have a2:Qjw (Qbg kd) (whV (Qbg kd) wh) (whW (Qbg kd) wh)=true:=by
   unfold Qjw whV whW;unfold whB at hw;by_cases h4:Qbg kd=4
   ·rw [if_pos h4] at hw
    rw [if_pos h4,if_pos h4,if_pos h4,hw]
    rfl
   ·rw [if_neg h4,if_neg h4,if_neg h4]
    have:=rv_bd wh;unfold Qs5;simp only [yB,decide_eq_true_eq];exact ⟨this,rfl⟩
  have a4:Qhc r.td (r.ti:Int)=true:=by
   unfold Qhc;rcases ht with ⟨e,q⟩ | ⟨e,q⟩
   ·rw [if_pos e];simp;omega
   ·rw [e,q];rfl
  show QbK (Qbg kd) (Qcp nm r.tg) (whV (Qbg kd) wh) (whW (Qbg kd) wh) (wtV (Qbg kd) r.rd r.rt) r.td (r.ti:Int)=true
  unfold QbK;rw [a1,hs,a2,QpS hb,a4]
  rfl
 ·cases hc
end
end Go.Proofs.YtlejlgldgafljaaGreatDoor
