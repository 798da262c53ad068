/-
 Parts.
-/
import Derived.Test.YtdbaabbmcfnjbaaGreatDoorDWA
import Derived.Lib.IndexBytes
import Derived.Deep.LoopGhost
import Derived.Lib.AppendIntMem
import Derived.Lib.ItoaMem
import Derived.Lib.ParseIntB
set_option maxRecDepth 10000
set_option maxHeartbeats 4000000
set_option linter.all false
namespace Go.Proofs.YtdbaabbmcfnjbaaGreatDoor
open Go.RowKit Go.PlainAid Go.ChangeShapes Go.WideShapes Go.ChangeAt Go.Lib Tryz
section
def Qo9 (s:ByteArray):Bool:=decide (s.size<=20000)
def Quf (s:ByteArray):Bool:=decide (0<s.size) && (bt s 0 == 45)
def QgE (s:ByteArray):ByteArray:=if Quf s=true then s.extract 1 s.size else s
end
variable {kd nm nm' p s t u wh y:ByteArray}
variable {B a i n o tc:Nat}
section
def Qke (c:Int):Bool:=decide (48<=c) && decide (c<=57)
theorem Qoy {c:Int} (h:Qke c=true):48<=c/\c<=57:=by
 unfold Qke at h;have:=Bool.and_eq_true_iff.1 h;exact ⟨of_decide_eq_true this.1,of_decide_eq_true this.2⟩
def dig (s:ByteArray) (o n:Nat):Prop:=∀ j,j<n->48<=bt s (o+j)/\bt s (o+j)<=57
def QjJ (s:ByteArray) (o:Nat):Nat->Int
 | 0=>0
 | n+1=>QjJ s o n*10+(bt s (o+n) - 48)
theorem Qlk (h:dig s o n) (hd:Qke (bt s (o+n))=true):dig s o (n+1):=by
 intro j hj;rcases Nat.lt_or_ge j n with k | k
 ·exact h j k
 ·rw [show j=n by omega];exact Qoy hd
theorem Qho {s:ByteArray} {o:Nat}:∀ n,dig s o n->0<=QjJ s o n/\QjJ s o n<10 ^ n
 | 0,_=>by simp [QjJ]
 | n+1,h=>by
  have ih:=Qho n (fun j hj=>h j (by omega));have hl:=h n (by omega);unfold QjJ;rw [Int.pow_succ];omega
theorem Qh2 (h:dig s o n) (hn:n<=12):0<=QjJ s o n/\QjJ s o n<=999999999999:=by
 have b:=Qho n h;have h0:=Nat.pow_le_pow_right (show 0<10 by omega) hn;have h1:(10:Int) ^ n<=10 ^ 12:=by exact_mod_cast h0
 have h2:(10:Int) ^ 12=1000000000000:=by decide
 omega
end
section
def Qm4 (u:ByteArray):Nat->Bool
 | 0=>true
 | k+1=>Qm4 u k && Qke (bt u k)
theorem Qfz {u:ByteArray}:∀ k,Qm4 u k=true->dig u 0 k
 | 0,_=>fun j hj=>absurd hj (by omega)
 | k+1,h=>by
  have h':=Bool.and_eq_true_iff.1 h;exact Qlk (Qfz k h'.1) (by rw [Nat.zero_add];exact h'.2)
theorem Qpb {u:ByteArray}:∀ k,dig u 0 k->Qm4 u k=true
 | 0,_=>rfl
 | k+1,h=>by
  have h1:=h k (by omega);rw [Nat.zero_add] at h1;exact Bool.and_eq_true_iff.2 ⟨Qpb k (fun j hj=>h j (by omega)),by simp [Qke,h1]⟩
def dgV (u:ByteArray):Int:=if Qm4 u u.size=true then QjJ u 0 u.size else 0
def dgB (u:ByteArray):Bool:=Qm4 u u.size && decide (0<u.size)
theorem Qnp {a c:Int} {p q:Bool} (h:a=c) (k:p=q):Ending.returned (.tuple #[.int .i64 a,.bool p])=.returned (.tuple #[.int .i64 c,.bool q]):=by rw [h,k]
theorem Qbv (u:ByteArray) (hu:u.size<=12) (w:World) :
  Calls prog 50 #[.string u] w fun e w'=>e=.returned (.tuple #[.int .i64 (dgV u),.bool (dgB u)])/\w'=w:=by
 have am:=get_bt u;go_enter func50,ntmps50;go_wp2
 go_loopw [4,5] (fun n i wr=>wr=w/\∃ k:Nat,k<=u.size/\i=.int .i64 k/\n=.int .i64 (QjJ u 0 k)/\dig u 0 k) (fun n i wr=>u.size - (Go.RowKit.intOf i).toNat)
 case atStart=>exact ⟨rfl,0,ZZj _,rfl,rfl,fun j hj=>absurd hj (by omega)⟩
 case round=>
  obtain ⟨rfl,k,hk,rfl,rfl,aa⟩:=hrel;have ai:=bt_nonneg u k;have aj:=bt_le u k;have ag:=Qh2 aa (by omega);obtain ⟨V,hV⟩:∃ V,V=QjJ u 0 k:=⟨_,rfl⟩;rw [<- hV] at ag;rw [<- hV];by_cases ae:k<u.size
  ·have ab:(k:Int)<(u.size:Int):=by omega
   have af:(bt u k<48)∨(decide (bt u k<48)=false/\57<bt u k)∨(decide (bt u k<48)=false/\decide (57<bt u k)=false/\48<=bt u k/\bt u k<=57):=by
    simp only [decide_eq_false_iff_not];omega
   have HA:Hid (¬ (48<=bt u k/\bt u k<=57)->0=dgV u/\false=dgB u):=by
    intro hn
    have:Qm4 u u.size=false:=by
     cases h:Qm4 u u.size with
     | false=>rfl
     | true=>have:=Qfz _ h k ae;rw [Nat.zero_add] at this;exact absurd this hn
    unfold dgV dgB;rw [this];exact ⟨rfl,rfl⟩
   rcases af with hd | ⟨hd,ac⟩ | ⟨hd,ac,ad,ah⟩
   ·clear aa hV
    go_wp2;go_ret2;exact ⟨Qnp (HA.out (by omega)).1 (HA.out (by omega)).2,rfl⟩
   ·clear aa hV
    go_wp2;go_ret2;exact ⟨Qnp (HA.out (by omega)).1 (HA.out (by omega)).2,rfl⟩
   ·have HD:Hid (dig u 0 (k+1)):=Qlk aa (by rw [Nat.zero_add];simp [Qke,ad,ah])
    have HV:Hid (QjJ u 0 (k+1)=10*V+(bt u k - 48)):=(by show QjJ u 0 k*10+(bt u (0+k) - 48)=_;rw [Nat.zero_add,hV];omega:QjJ u 0 (k+1)=10*V+(bt u k - 48));clear aa hV;have ao:IntKind.u8.wrap (bt u k - 48)=bt u k - 48:=IntWalk.u8_in _ ⟨by omega,by omega⟩;have ak:IntKind.i64.wrap (bt u k - 48)=bt u k - 48:=ZZi _ ⟨by omega,by omega⟩;have an:IntKind.i64.wrap (10*V)=10*V:=ZZi _ ⟨by omega,by omega⟩;have al:IntKind.i64.wrap (10*V+(bt u k - 48))=10*V+(bt u k - 48):=ZZi _ ⟨by omega,by omega⟩;go_wp2;go_roundw
    case rel=>exact ⟨trivial,k+1,by omega,by go_num,by rw [HV.out],HD⟩
    case measure=>simp [zI];omega
  ·have e:k=u.size:=by omega
   subst e;have ab:¬ (u.size:Int)<(u.size:Int):=by omega
   have HD:Hid (V=dgV u/\decide (0<u.size)=dgB u):=(by
    unfold dgV dgB;rw [Qpb _ aa];exact ⟨hV,by simp⟩:V=dgV u/\decide (0<u.size)=dgB u)
   clear aa hV;go_wp2;go_ret2;exact ⟨Qnp HD.out.1 HD.out.2,rfl⟩
end
section
end
section
theorem Qoo (hu:u.size<=12):0<=dgV u/\dgV u<=999999999999:=by
 unfold dgV;split
 ·exact Qh2 (Qfz _ ‹_›) hu
 ·omega
theorem dgV_6 (hu:u.size<=6):0<=dgV u*10 ^ (6 - u.size)/\dgV u*10 ^ (6 - u.size)<=999999:=by
 unfold dgV;split
 ·have b:=Qho u.size (Qfz _ ‹_›)
  revert b
  generalize QjJ u 0 u.size=x;generalize u.size=p at hu;have hc:p=0∨p=1∨p=2∨p=3∨p=4∨p=5∨p=6:=by omega
  intro b;rcases hc with rfl | rfl | rfl | rfl | rfl | rfl | rfl <;> simp only [show (10:Int) ^ 1=10 from rfl,show (10:Int) ^ 2=100 from rfl,show (10:Int) ^ 3=1000 from rfl,show (10:Int) ^ 4=10000 from rfl,show (10:Int) ^ 5=100000 from rfl,show (10:Int) ^ 6=1000000 from rfl,Nat.reduceSub,show (10:Int) ^ 0=1 from rfl] at b ⊢ <;> omega
 ·simp
end
section
theorem Qf1 (t:ByteArray) (b:Int) (ht:t.size<=1048576) (hb:0<=b/\b<=255) (w:World) :
  Calls prog 9 #[.string t,.int .u8 b] w fun e w'=>∃ g cap,e=.returned (.slice (some ⟨g,0,none⟩) (QaG t b).length cap)/\w.heap.size<=g/\(QaG t b).length<=cap/\(∀ j u,(QaG t b)[j]?=some u->w'.cell? ⟨g,j,none⟩=some (.string u))/\Below w.heap.size w w':=Qey t b ht hb w
end
section
theorem Qp1 (t:ByteArray) (b:Int):1<=(QaG t b).length:=by rw [Qcs];omega
end
def vr0 (L:List ByteArray):ByteArray:=L[0]?.getD ByteArray.empty
def vr1 (L:List ByteArray):ByteArray:=L[1]?.getD ByteArray.empty
def QfR (L:List ByteArray):Bool:=decide (2<L.length) || (decide (12<(vr0 L).size) || (decide (1<(vr0 L).size) && (bt (vr0 L) 0 == 48)))
def vrTwo (L:List ByteArray):Bool:=dgB (vr0 L) && decide (L.length=2)
def Qk9 (L:List ByteArray):Bool:=dgB (vr0 L) && (decide (L.length≠2) || (decide ((vr1 L).size<=6) && dgB (vr1 L)))
def vrN (L:List ByteArray):Int:=dgV (vr0 L)*1000000+if L.length=2 then dgV (vr1 L)*10 ^ (6 - (vr1 L).size) else 0
def rvC (s:ByteArray):Int:=if Qo9 s=true then (if QfR (QaG (QgE s) 46)=false/\Qk9 (QaG (QgE s) 46)=true then 0 else 3) else 2
def rvV (s:ByteArray):Int:=if Qo9 s=true/\QfR (QaG (QgE s) 46)=false/\Qk9 (QaG (QgE s) 46)=true then (if Quf s=true then -vrN (QaG (QgE s) 46) else vrN (QaG (QgE s) 46)) else 0
theorem Qqk {b:Nat} (h:a<=b):(0:Int)<10 ^ a/\(10:Int) ^ a<=10 ^ b:=by
 have aa:∀ n:Nat,(0:Int)<10 ^ n:=fun n=>by
  induction n with
  | zero=>decide
  | succ n ih=>rw [Int.pow_succ];omega
 refine ⟨aa a,?_⟩;obtain ⟨d,rfl⟩:=Nat.exists_eq_add_of_le h;clear h
 induction d with
 | zero=>exact Int.le_refl _
 | succ d ih=>rw [<- Nat.add_assoc,Int.pow_succ];have:=aa (a+d);omega
variable {L ps:List ByteArray}
theorem QsN (h:QfR L=false) (k:Qk9 L=true):0<=vrN L/\vrN L<=999999999999999999:=by
 unfold QfR at h;unfold Qk9 at k;simp only [Bool.or_eq_false_iff,decide_eq_false_iff_not,Bool.and_eq_true,Bool.or_eq_true,decide_eq_true_eq] at h k;obtain ⟨a,b⟩:=Qoo (u:=vr0 L) (by omega);unfold vrN
 split
 ·rename_i h2
  obtain ⟨c,d⟩:=dgV_6 (u:=vr1 L) (by rcases k.2 with q | q;exact absurd h2 q;exact q.1);omega
 ·omega
theorem rv_bd (s:ByteArray):-999999999999999999<=rvV s/\rvV s<=999999999999999999:=by
 unfold rvV
 split
 ·rename_i h
  have:=QsN h.2.1 h.2.2
  split <;> omega
 ·omega
variable {W w w' wr:World}
theorem vr_box {r:Nat} (h:w.heap[r]?=some (.cells #[.int .i64 0,.int .i64 0] 132 (0,0))):w.cell? ⟨r,0,none⟩=some (.int .i64 0)/\w.cell? ⟨r,1,none⟩=some (.int .i64 0):=⟨by rw [cell_of_row w r 0 _ _ _ h];rfl,by rw [cell_of_row w r 1 _ _ _ h];rfl⟩
theorem Qd5 (s:ByteArray) (hs:s.size<=maxLen) (w:World) :
  Calls prog 70 #[.string s] w fun e w'=>e=.returned (.agg #[.int .i64 (rvV s),.int .i64 (rvC s)])/\Below w.heap.size w w':=by
 have a0:Below w.heap.size w (w.alloc (.cells #[.int .i64 0,.int .i64 0] 132)):=(ZZb _ _).alloc (ZZa _) _;unfold maxLen at hs
 cases hf:Qo9 s with
 | false=>
  have hz:(20000:Int)<(s.size:Int):=by unfold Qo9 at hf;have:=of_decide_eq_false hf;omega
  have HE:Hid (rvV s=0/\rvC s=2):=Qaa ⟨by unfold rvV;rw [if_neg (by rw [hf];simp)],by unfold rvC;rw [if_neg (by rw [hf];simp)]⟩;clear hf a0;go_enter func70,ntmps70;go_wp2;exact bodyPost_ret (v:=.agg #[.int .i64 0,.int .i64 2]) (by simp [results,results70,go_sem]) rfl ⟨by rw [HE.out.1,HE.out.2],(Below.refl _ _).alloc (Nat.le_refl _) _⟩
 | true=>
  have aS:s.size<=20000:=of_decide_eq_true hf;have hz:¬ (20000:Int)<(s.size:Int):=by omega
  obtain ⟨T,hT⟩:∃ T,QgE s=T:=⟨_,rfl⟩;obtain ⟨L,hL⟩:∃ L,QaG T 46=L:=⟨_,rfl⟩
  have aR:T.size<=20000:=by
   rw [<- hT];unfold QgE
   split
   ·simp;omega
   ·omega
  have ak:=Qaa (Qf1 T 46 (by omega) ⟨by omega,by omega⟩);have h1:1<=L.length:=by rw [<- hL];exact Qp1 T 46
  have an:∀ u∈L,u.size<=20000:=fun u hu=>by rw [<- hL] at hu;have:=Qds T 46 u hu;omega
  have HC:Hid (rvC s=if QfR L=false/\Qk9 L=true then 0 else 3):=Qaa (by unfold rvC;rw [if_pos hf,hT,hL]);have HV:Hid (rvV s=if QfR L=false/\Qk9 L=true then (if Quf s=true then -vrN L else vrN L) else 0):=Qaa (by unfold rvV;rw [hT,hL];simp only [hf,true_and])
  rw [hL] at ak;obtain ⟨u0,h0⟩:∃ u,L[0]?=some u:=⟨L[0]'(by omega),ZZe _⟩;have e0:vr0 L=u0:=by unfold vr0;rw [h0];rfl
  have aV:=an u0 (ZZn h0);obtain ⟨nb,ao⟩:∃ b,Quf s=b:=⟨_,rfl⟩;obtain ⟨db,av⟩:∃ b,dgB u0=b:=⟨_,rfl⟩;rw [ao] at HV;have ad:=Qaa ao;have ai:=Qaa av;have ag:=Qaa (ZZk w (.cells #[.int .i64 0,.int .i64 0] 132));have au:=Qaa a0;have aq:=Qaa hT;have H0:=Qaa h0;have E0:=Qaa e0;have aD:=Qaa an;clear hf hL a0 hT h0 e0 an ao av;go_enter func70,ntmps70;go_upto_region 3 with fail;generalize w.alloc (.cells #[.int .i64 0,.int .i64 0] 132)=W0 at ag au ⊢
  go_cut [3] (fun b w'=>b=.bool nb/\w'=W0)
  case first=>
   have aW:=get_bt s;by_cases k:0<s.size
   ·have ki:(0:Int)<(s.size:Int):=by omega
    have e:nb=(bt s 0 == 45):=by rw [<- ad.out];unfold Quf;rw [decide_eq_true k];rfl
    have E:=Qaa e;clear e;go_wp2;go_meet;exact ⟨by rw [E.out],rfl⟩
   ·have ki:¬ (0:Int)<(s.size:Int):=by omega
    have E:Hid (nb=false):=Qaa (by rw [<- ad.out];unfold Quf;rw [decide_eq_false k];rfl);go_wp2;go_meet;exact ⟨by rw [E.out],rfl⟩
  case rest=>
  obtain ⟨rfl,hw⟩:=hcut;obtain rfl:=hw.symm;go_upto_if 21 with fail
  go_cut [0] (fun t w'=>t=.string T/\w'=W0)
  case first=>
   cases nb with
   | true=>
    have aU:(1:Int)<=(s.size:Int):=by have hn:=ad.out;unfold Quf at hn;have:=of_decide_eq_true (Bool.and_eq_true_iff.1 hn).1;omega
    have E:Hid (s.extract 1 s.size=T):=Qaa (by rw [<- aq.out];unfold QgE;rw [if_pos ad.out]);go_wp2;go_meet;exact ⟨by rw [<- E.out],rfl⟩
   | false=>
    have E:Hid (s=T):=Qaa (by rw [<- aq.out];unfold QgE;rw [if_neg (by rw [ad.out];simp)]);go_wp2;go_meet;exact ⟨by rw [<- E.out],rfl⟩
  case rest=>
  obtain ⟨rfl,hw⟩:=hcut;obtain rfl:=hw.symm;go_wp2_with fail;refine (ak.out W0).mono ?_;rintro e w1 ⟨g,aL,rfl,hg,aH,aa,aj⟩;have ae:=Qaa (Qac au aj);have ah:Hid (w1.heap[w.heap.size]?=some (.cells #[.int .i64 0,.int .i64 0] 132 (0,0))):=Qaa (by rw [aj.block _ (Array.getElem?_eq_some_iff.1 ag.out).1];exact ag.out);have c0:=aa 0 u0 H0;have aE:=Qaa aa;have aC:L.length<=20001∨True:=.inr trivial;have aN:(0:Int)<(L.length:Int):=by omega
  clear aa aj ak ag au aq aC hg aH;go_upto_region 7 with fail
  go_cut [49] (fun b w'=>b=.bool (QfR L)/\w'=w1)
  case first=>
   have aY:=get_bt u0;have EB:Hid (QfR L=(decide (2<L.length) || (decide (12<u0.size) || (decide (1<u0.size) && (bt u0 0 == 48))))):=Qaa (by unfold QfR;rw [E0.out]);by_cases n2:2<L.length
   ·have az:(2:Int)<(L.length:Int):=by omega
    go_wp2;go_meet;exact ⟨by rw [EB.out,decide_eq_true n2];rfl,rfl⟩
   ·have az:¬ (2:Int)<(L.length:Int):=by omega
    by_cases am:12<u0.size
    ·have ar:(12:Int)<(u0.size:Int):=by omega
     go_wp2;go_meet;exact ⟨by rw [EB.out,decide_eq_true am];simp,rfl⟩
    ·have ar:¬ (12:Int)<(u0.size:Int):=by omega
     by_cases l1:1<u0.size
     ·have aA:(1:Int)<(u0.size:Int):=by omega
      go_wp2;go_meet;exact ⟨by rw [EB.out,decide_eq_false n2,decide_eq_false am,decide_eq_true l1];rfl,rfl⟩
     ·have aA:¬ (1:Int)<(u0.size:Int):=by omega
      go_wp2;go_meet;exact ⟨by rw [EB.out,decide_eq_false n2,decide_eq_false am,decide_eq_false l1];rfl,rfl⟩
  case rest=>
  obtain ⟨rfl,hw⟩:=hcut;obtain rfl:=hw.symm;obtain ⟨s0,s1⟩:=vr_box ah;have f0:=fzR 0 ah;have f1:=fzR 1 ah
  cases hbad:QfR L with
  | true=>
   have HE:Hid (rvV s=0/\rvC s=3):=Qaa ⟨by rw [HV.out,if_neg (by rw [hbad];simp)],by rw [HC.out,if_neg (by rw [hbad];simp)]⟩;clear hbad;go_wp2;exact bodyPost_ret (v:=.agg #[.int .i64 0,.int .i64 3]) (by simp [results,results70,go_sem,s0,s1]) rfl ⟨by rw [HE.out.1,HE.out.2],(ae.out.setCell (by simp) _).setCell (by simp) _⟩
  | false=>
   have hB:=hbad;unfold QfR at hB;simp only [Bool.or_eq_false_iff,decide_eq_false_iff_not,E0.out] at hB;have l2:L.length<=2:=by omega
   have ax:u0.size<=12:=by omega
   obtain ⟨d0,d1⟩:=Qoo ax;have aQ:IntKind.i64.wrap (dgV u0*1000000)=dgV u0*1000000:=ZZi _ ⟨by omega,by omega⟩;have ab:=Qaa hbad;clear hB hbad;go_wp2_with fail;refine (Qbv u0 ax w1).mono ?_;rintro e w2 ⟨rfl,hw⟩;obtain rfl:=hw.symm;rw [ai.out];obtain ⟨qb,ay⟩:∃ b,(db && decide (L.length=2))=b:=⟨_,rfl⟩;have ac:=Qaa ay;clear ay;go_upto_region 11 with fail
   go_cut [65] (fun b w'=>b=.bool qb/\w'=w1)
   case first=>
    cases db with
    | false=>
     go_wp2;go_meet;exact ⟨by rw [<- ac.out];rfl,rfl⟩
    | true=>
     by_cases e2:L.length=2
     ·have aI:((L.length:Int) == 2)=true:=by simp [e2]
      go_wp2;go_meet;exact ⟨by rw [<- ac.out,decide_eq_true e2];rfl,rfl⟩
     ·have aI:((L.length:Int) == 2)=false:=ZZf.2 (by omega)
      go_wp2;go_meet;exact ⟨by rw [<- ac.out,decide_eq_false e2];rfl,rfl⟩
   case rest=>
   obtain ⟨rfl,hw⟩:=hcut;obtain rfl:=hw.symm;go_upto_if 65 with fail
   go_cut [5,6] (fun nv okv w'=>∃ nn:Int,nv=.int .i64 nn/\okv=.bool (Qk9 L)/\(Qk9 L=true->nn=vrN L)/\w'=w1)
   case first=>
    cases qb with
    | false=>
     have EO:Hid (Qk9 L=db/\(Qk9 L=true->dgV u0*1000000=vrN L)):=Qaa (by
      have hq:=ac.out;unfold Qk9 vrN;rw [E0.out,ai.out]
      cases db with
      | false=>exact ⟨rfl,fun h=>by simp at h⟩
      | true=>
       have h2:¬ L.length=2:=by simpa using hq
       exact ⟨by simp [h2],fun _=>by rw [if_neg h2];omega⟩)
     go_wp2;go_meet;exact ⟨_,rfl,by rw [EO.out.1],EO.out.2,rfl⟩
    | true=>
     have h2:L.length=2:=by simpa using (Bool.and_eq_true_iff.1 ac).2
     have aw:dgB u0=true:=by rw [ai.out];exact (Bool.and_eq_true_iff.1 ac).1
     obtain ⟨u1,af⟩:∃ u,L[1]?=some u:=⟨L[1]'(by omega),ZZe _⟩;have c1:=aE.out 1 u1 af;have aX:=aD.out u1 (ZZn af);have aK:(1:Int)<(L.length:Int):=by omega
     have EO:Hid (Qk9 L=(decide (u1.size<=6) && dgB u1)/\vrN L=dgV u0*1000000+dgV u1*10 ^ (6 - u1.size)):=Qaa (by
      have e1:vr1 L=u1:=by unfold vr1;rw [af];rfl
      unfold Qk9 vrN;rw [E0.out,e1,if_pos h2,aw];exact ⟨by simp [h2],rfl⟩)
     clear aw af h2;by_cases h6:u1.size<=6
     ·have aB:(u1.size:Int)<=6:=by omega
      go_wp2_with fail;refine (Qbv u1 (by omega) w1).mono ?_;rintro e w2 ⟨rfl,hw⟩;obtain rfl:=hw.symm;obtain ⟨m0,m1⟩:=dgV_6 h6;go_wp2_with fail
      go_loopw [7,8] (fun mv kv wr=>wr=w1/\∃ kk:Nat,u1.size<=kk/\kk<=6/\kv=.int .i64 kk/\mv=.int .i64 (dgV u1*10 ^ (kk - u1.size))) (fun mv kv wr=>6 - (Go.RowKit.intOf kv).toNat)
      case atStart=>exact ⟨rfl,u1.size,Nat.le_refl _,h6,rfl,by simp⟩
      case round=>
       obtain ⟨rfl,kk,k1,k2,rfl,rfl⟩:=hrel;by_cases hk:kk<6
       ·have aF:(kk:Int)<6:=by omega
        have aM:IntKind.i64.wrap ((kk:Int)+1)=((kk+1:Nat):Int):=by rw [show (kk:Int)+1=((kk+1:Nat):Int) by omega];exact ZZi _ ⟨by omega,by omega⟩
        have hp:(10:Int) ^ (kk+1 - u1.size)=10 ^ (kk - u1.size)*10:=by rw [show kk+1 - u1.size=(kk - u1.size)+1 by omega,Int.pow_succ]
        obtain ⟨z0,z1⟩:=Qqk (a:=kk - u1.size) (b:=6 - u1.size) (by omega);obtain ⟨y0,y1⟩:=Qoo (u:=u1) (by omega);have q0:0<=dgV u1*10 ^ (kk - u1.size):=Int.mul_nonneg y0 (by omega);have q1:dgV u1*10 ^ (kk - u1.size)<=dgV u1*10 ^ (6 - u1.size):=Int.mul_le_mul_of_nonneg_left z1 y0;have aT:IntKind.i64.wrap (dgV u1*10 ^ (kk - u1.size)*10)=dgV u1*10 ^ (kk - u1.size)*10:=ZZi _ ⟨by omega,by omega⟩;have HE:Hid (dgV u1*10 ^ (kk - u1.size)*10=dgV u1*10 ^ (kk+1 - u1.size)):=Qaa (by rw [hp,Int.mul_assoc]);clear hp z0 z1 y0 y1 q0 q1;go_wp2;go_roundw
        case rel=>exact ⟨by first | rfl | trivial,kk+1,by omega,by omega,by first | rfl | trivial | go_num,by first | rfl | rw [HE.out]⟩
        case measure=>simp [zI];omega
       ·obtain rfl:kk=6:=by omega
        have aF:¬ ((6:Nat):Int)<6:=by omega
        have aJ:IntKind.i64.wrap (dgV u0*1000000+dgV u1*10 ^ (6 - u1.size))=dgV u0*1000000+dgV u1*10 ^ (6 - u1.size):=ZZi _ ⟨by omega,by omega⟩;go_wp2;go_meet;exact ⟨_,rfl,by rw [EO.out.1,decide_eq_true h6];rfl,fun _=>EO.out.2.symm,rfl⟩
     ·have aB:¬ (u1.size:Int)<=6:=by omega
      have aP:¬ (u1.size:Int)<6:=by omega
      have aO:IntKind.i64.wrap (dgV u0*1000000+0)=dgV u0*1000000+0:=ZZi _ ⟨by omega,by omega⟩;go_wp2_with fail
      go_loopw [7,8] (fun mv kv wr=>wr=w1/\kv=.int .i64 (u1.size:Int)/\mv=.int .i64 0) (fun mv kv wr=>0)
      case atStart=>exact ⟨rfl,rfl,rfl⟩
      case round=>
       obtain ⟨rfl,rfl,rfl⟩:=hrel;go_wp2;go_meet;exact ⟨_,rfl,by rw [EO.out.1,decide_eq_false h6];rfl,fun h=>(by rw [EO.out.1,decide_eq_false h6] at h;cases h),rfl⟩
   case rest=>
   obtain ⟨nn,rfl,rfl,al,hw⟩:=hcut;obtain rfl:=hw.symm
   cases hok:Qk9 L with
   | false=>
    have HE:Hid (rvV s=0/\rvC s=3):=Qaa ⟨by rw [HV.out,if_neg (by rw [hok];simp)],by rw [HC.out,if_neg (by rw [hok];simp)]⟩;clear hok al;go_wp2;exact bodyPost_ret (v:=.agg #[.int .i64 0,.int .i64 3]) (by simp [results,results70,go_sem,s0,s1]) rfl ⟨by rw [HE.out.1,HE.out.2],(ae.out.setCell (by simp) _).setCell (by simp) _⟩
   | true=>
    have aG:=al hok;subst aG;obtain ⟨b0,b1⟩:=QsN ab hok;have aJ:IntKind.i64.wrap (-vrN L)=-vrN L:=ZZi _ ⟨by omega,by omega⟩;have HE:Hid (rvV s=(if nb=true then -vrN L else vrN L)/\rvC s=0):=Qaa ⟨by rw [HV.out,if_pos ⟨ab.out,hok⟩],by rw [HC.out,if_pos ⟨ab.out,hok⟩]⟩;clear hok al
    cases nb with
    | true=>
     have ap:Hid (rvV s=-vrN L):=Qaa (by rw [HE.out.1,if_pos rfl]);go_wp2;exact bodyPost_ret (v:=.agg #[.int .i64 (-vrN L),.int .i64 0]) (by simp [results,results70,go_sem,s0,s1]) rfl ⟨by rw [ap.out,HE.out.2],(ae.out.setCell (by simp) _).setCell (by simp) _⟩
    | false=>
     have ap:Hid (rvV s=vrN L):=Qaa (by rw [HE.out.1,if_neg (by simp)]);go_wp2;exact bodyPost_ret (v:=.agg #[.int .i64 (vrN L),.int .i64 0]) (by simp [results,results70,go_sem,s0,s1]) rfl ⟨by rw [ap.out,HE.out.2],(ae.out.setCell (by simp) _).setCell (by simp) _⟩
variable {c:UInt8}
section
def Qc0 (c:UInt8) (K:List ByteArray):List UInt8:=Lib.join (K.map toL) [c]
theorem Qgh (c:UInt8) (x:ByteArray):Qc0 c [x]=toL x:=Lib.join_one _ _
theorem QeO (c:UInt8) (y z:ByteArray) (r:List ByteArray):Qc0 c (y :: z :: r)=toL y ++ c :: Qc0 c (z :: r):=by
 unfold Qc0;rw [List.map_cons,List.map_cons,Lib.join_cons,Lib.join_cons];simp [Lib.joinTail]
theorem QmW {K:List ByteArray} (h:K≠[]) (x:ByteArray):Qc0 c (K ++ [x])=Qc0 c K ++ c :: toL x:=by
 cases K with
 | nil=>exact absurd rfl h
 | cons y r=>
  unfold Qc0;rw [List.cons_append,List.map_cons,List.map_cons,Lib.join_cons,Lib.join_cons,List.map_append,List.map_cons,List.map_nil,QiB];simp
theorem Qe3 {c:UInt8}:∀ {K:List ByteArray} {n:Nat},K≠[]->(∀ x∈K,c ∉ toL x)->K.length<=n+1->Lib.splitK [c] 0 n (Qc0 c K)=K.map toL
 | [],n,h,_,_=>absurd rfl h
 | [y],n,_,hn,_=>by
  have hi:=Qhw (hn y List.mem_cons_self);rw [Qgh]
  cases n with
  | zero=>rfl
  | succ n=>unfold Lib.splitK;rw [hi];rfl
 | y :: z :: r,n,_,hn,hl=>by
  cases n with
  | zero=>simp at hl
  | succ n=>
   have hi:=Qfm (r:=Qc0 c (z :: r)) (hn y List.mem_cons_self);have ih:=Qe3 (c:=c) (K:=z :: r) (n:=n) (by simp) (fun x hx=>hn x (List.mem_cons_of_mem _ hx)) (by simp at hl ⊢; omega);rw [QeO];unfold Lib.splitK;rw [hi,if_neg (by simp)];simp only [Int.toNat_natCast,Nat.add_zero,List.length_cons,List.length_nil];rw [List.take_left,show (toL y ++ c :: Qc0 c (z :: r)).drop ((toL y).length+(0+1))=Qc0 c (z :: r) by rw [<- List.drop_drop,List.drop_left];rfl,ih]
   rfl
theorem Qgv {c:UInt8}:∀ {K:List ByteArray} {f:Nat},K≠[]->(∀ x∈K,c ∉ toL x)->K.length<=f->Lib.countFrom [c] f (Qc0 c K)+1=K.length
 | [],f,h,_,_=>absurd rfl h
 | [y],f,_,hn,hl=>by
  have hi:=Qhw (hn y List.mem_cons_self);rw [Qgh]
  cases f with
  | zero=>simp at hl
  | succ f=>unfold Lib.countFrom;rw [hi];rfl
 | y :: z :: r,f,_,hn,hl=>by
  cases f with
  | zero=>simp at hl
  | succ f=>
   have hi:=Qfm (r:=Qc0 c (z :: r)) (hn y List.mem_cons_self);have ih:=Qgv (c:=c) (K:=z :: r) (f:=f) (by simp) (fun x hx=>hn x (List.mem_cons_of_mem _ hx)) (by simp at hl ⊢; omega);rw [QeO];unfold Lib.countFrom;rw [hi,if_neg (by simp)];simp only [Int.toNat_natCast,List.length_cons,List.length_nil];rw [show (toL y ++ c :: Qc0 c (z :: r)).drop ((toL y).length+(0+1))=Qc0 c (z :: r) by rw [<- List.drop_drop,List.drop_left];rfl];simp only [List.length_cons] at ih;omega
theorem Qdn (c:UInt8):∀ (K:List ByteArray),K.length<=(Qc0 c K).length+1
 | []=>by simp
 | [y]=>by simp
 | y :: z :: r=>by
  have ih:=Qdn c (z :: r);rw [QeO];simp only [List.length_append,List.length_cons] at ih ⊢;omega
theorem Qof {c:UInt8}:∀ {l:List UInt8},c∈l->∃ u x,l=u ++ c :: x/\c ∉ x
 | y :: l,h=>by
  by_cases hl:c∈l
  ·obtain ⟨u,x,e,hx⟩:=Qof hl
   exact ⟨y :: u,x,by rw [e];rfl,hx⟩
  ·rcases List.mem_cons.1 h with rfl | h
   ·exact ⟨[],l,rfl,hl⟩
   ·exact absurd h hl
theorem Qdt {c:UInt8}:∀ (n:Nat) (t:ByteArray),t.size<=n->QaG t (c.toNat:Int)≠[]/\(∀ x∈QaG t (c.toNat:Int),c ∉ toL x)/\Qc0 c (QaG t (c.toNat:Int))=toL t
 | n,t,hn=>by
  by_cases h:c∈toL t
  ·obtain ⟨u,x,e,hx⟩:=Qof h
   have hs:=QfL (t:=t) (u:=⟨u.toArray⟩) (x:=⟨x.toArray⟩) (c:=c) (by rw [Qbc,Qbc];exact e) (by rw [Qbc];exact hx);have hl:u.length<t.size:=by rw [<- Qap,e];simp
   match n,hn with
   | 0,hn=>omega
   | n+1,hn=>
    have aa:(⟨u.toArray⟩:ByteArray).size=u.length:=by rw [<- Qap,Qbc]
    obtain ⟨i1,i2,i3⟩:=Qdt n ⟨u.toArray⟩ (by rw [aa];omega);rw [hs];refine ⟨by simp,fun y hy=>?_,?_⟩
    ·rcases List.mem_append.1 hy with hy | hy
     ·exact i2 y hy
     ·obtain rfl:=List.mem_singleton.1 hy
      rw [Qbc];exact hx
    ·rw [QmW i1,i3,Qbc,Qbc,e]
  ·rw [QfV h]
   exact ⟨by simp,fun x hx=>by obtain rfl:=List.mem_singleton.1 hx;exact h,Qgh c t⟩
theorem QfQ (c:UInt8) (t:ByteArray):Lib.splitB ⟨#[c]⟩ 0 (Lib.countB t ⟨#[c]⟩) t=QaG t (c.toNat:Int):=by
 obtain ⟨h1,h2,h3⟩:=Qdt (c:=c) t.size t (ZZa _)
 have hc:Lib.countB t ⟨#[c]⟩+1=(QaG t (c.toNat:Int)).length:=by
  have e:Lib.countB t ⟨#[c]⟩=Lib.countFrom [c] ((toL t).length+1) (toL t):=by
   show Lib.count _ _=_
   unfold Lib.count toL;simp
  rw [e,<- h3];exact Qgv h1 h2 (by have:=Qdn c (QaG t (c.toNat:Int));omega)
 have hd:=Lib.splitB_data ⟨#[c]⟩ 0 (Lib.countB t ⟨#[c]⟩) t;have hs:=Qe3 (n:=Lib.countB t ⟨#[c]⟩) h1 h2 (by omega);rw [h3] at hs;have aa:(Lib.splitB ⟨#[c]⟩ 0 (Lib.countB t ⟨#[c]⟩) t).map toL=(QaG t (c.toNat:Int)).map toL:=hd.trans (by simpa [toL] using hs);exact (List.map_inj_right (fun a b e=>Qbf e)).1 aa
end
section
def tlF (a:Nat) (l:List UInt8):Nat:=l.foldl (fun a x=>a*10+(x.toNat - 48)) a
def tlD (l:List UInt8):Prop:=∀ x∈l,48<=x.toNat/\x.toNat<=57
theorem Qhi (a:Nat) (l:List UInt8) (x:UInt8):tlF a (l ++ [x])=tlF a l*10+(x.toNat - 48):=by unfold tlF;rw [List.foldl_append];rfl
theorem QfA (a:Nat) (l:List UInt8) (x:UInt8):tlF a (x :: l)=tlF (a*10+(x.toNat - 48)) l:=by unfold tlF;rw [List.foldl_cons]
theorem Qn6:∀ (l:List UInt8) (a:Nat),a<=tlF a l
 | [],a=>ZZa _
 | x :: l,a=>by rw [QfA];have:=Qn6 l (a*10+(x.toNat - 48));omega
theorem QbL {d:Nat} (h:d<10):(UInt8.ofNat (48+d)).toNat=48+d:=by
 rw [UInt8.toNat_ofNat'];exact Nat.mod_eq_of_lt (by omega)
theorem QfH {x:UInt8} (h:48<=x.toNat/\x.toNat<=57):UInt8.ofNat (48+(x.toNat - 48))=x:=by
 apply UInt8.toNat_inj.1;rw [QbL (by omega)];omega
theorem Qsz:∀ (n:Nat) (l:List UInt8),l.length=n+1->tlD l->(1<l.length->l[0]?≠some 48)->Lib.decDigits (tlF 0 l)=l
 | 0,l,hl,hd,_=>by
  obtain ⟨x,rfl⟩:=List.length_eq_one_iff.1 hl;have hx:=hd x (by simp);have e:tlF 0 [x]=x.toNat - 48:=by simp [tlF]
  rw [e,Lib.decDigits_one (by omega),QfH hx]
 | n+1,l,hl,hd,h0=>by
  rcases List.eq_nil_or_concat l with rfl | ⟨l',x,rfl⟩
  ·simp at hl
  ·rw [List.concat_eq_append] at hl hd h0 ⊢
   have ab:l'.length=n+1:=by simpa using hl
   have hx:=hd x (by simp);have aa:tlD l':=fun y hy=>hd y (List.mem_append_left _ hy)
   have ac:l'[0]?≠some 48:=by
    have:=h0 (by simp;omega)
    rwa [List.getElem?_append_left (by omega)] at this
   have ih:=Qsz n l' ab aa (fun _=>ac)
   have ad:1<=tlF 0 l':=by
    cases l' with
    | nil=>simp at ab
    | cons y r=>
     rw [QfA];have hy:=aa y (by simp);have ae:y≠48:=fun e=>ac (by rw [e];rfl);have af:y.toNat≠48:=fun e=>ae (UInt8.toNat_inj.1 e);have:=Qn6 r (0*10+(y.toNat - 48));omega
   rw [Qhi,QdL (by omega),show (tlF 0 l'*10+(x.toNat - 48)) / 10=tlF 0 l' by omega,show (tlF 0 l'*10+(x.toNat - 48)) % 10=x.toNat - 48 by omega,ih,QfH hx]
theorem QdC (n:Nat):tlD (Lib.decDigits n)/\tlF 0 (Lib.decDigits n)=n/\1<=(Lib.decDigits n).length:=by
 induction n using Nat.strongRecOn with
 | _ n ih=>
  by_cases h:n<10
  ·rw [Lib.decDigits_one h]
   refine ⟨fun x hx=>?_,?_,by simp⟩
   ·rw [List.mem_singleton.1 hx,QbL h];omega
   ·show 0*10+((UInt8.ofNat (48+n)).toNat - 48)=n
    rw [QbL h];omega
  ·obtain ⟨i1,i2,i3⟩:=ih (n / 10) (by omega)
   rw [QdL h];refine ⟨fun x hx=>?_,?_,by simp⟩
   ·rcases List.mem_append.1 hx with hx | hx
    ·exact i1 x hx
    ·rw [List.mem_singleton.1 hx,QbL (Nat.mod_lt n (by omega))];have:=Nat.mod_lt n (show 10 > 0 by omega);omega
   ·rw [Qhi,i2,QbL (Nat.mod_lt n (by omega))];omega
theorem Qg7:∀ (l:List UInt8) (a:Nat),tlD l->tlF a l<=1000000000000->Lib.parseUintM (2 ^ 64 - 1) a l=.ok (tlF a l)
 | [],a,_,_=>rfl
 | x :: l,a,hd,hm=>by
  have hx:=hd x (by simp);rw [QfA] at hm ⊢;have h1:=Qn6 l (a*10+(x.toNat - 48));unfold Lib.parseUintM;rw [if_pos hx,if_neg (by omega),if_neg (by omega)];exact Qg7 l _ (fun y hy=>hd y (ZZm _ hy)) hm
def TimP (t:ByteArray) (n:Nat):Prop:=toL t=Lib.decDigits n/\n<=1000000000
theorem TimP.parse (h:TimP t n):Lib.parseUintB 64 (toL t)=.ok n:=by
 obtain ⟨h1,h2,h3⟩:=QdC n;unfold Lib.parseUintB;rw [h.1,if_neg (fun e=>by rw [e] at h3;simp at h3)];have:=Qg7 (Lib.decDigits n) 0 h1 (by rw [h2];have:=h.2;omega);rw [this,h2]
theorem Qlc:∀ (k n:Nat),n<10 ^ (k+1)->(Lib.decDigits n).length<=k+1
 | 0,n,h=>by rw [Lib.decDigits_one (by simpa using h)];simp
 | k+1,n,h=>by
  by_cases hn:n<10
  ·rw [Lib.decDigits_one hn];simp
  ·rw [QdL hn,List.length_append]
   have:=Qlc k (n / 10) (by rw [Nat.pow_succ] at h;omega);simp only [List.length_cons,List.length_nil];omega
theorem Qqh (n:Nat):1<(Lib.decDigits n).length->(Lib.decDigits n)[0]?≠some 48:=by
 induction n using Nat.strongRecOn with
 | _ n ih=>
  by_cases h:n<10
  ·rw [Lib.decDigits_one h];intro hl;simp at hl
  ·intro _
   have h3:=(QdC (n / 10)).2.2;rw [QdL h,List.getElem?_append_left (by omega)];by_cases h2:n / 10<10
   ·rw [Lib.decDigits_one h2]
    intro e;have e2:UInt8.ofNat (48+n / 10)=48:=by simpa using e
    have e3:=congrArg UInt8.toNat e2;rw [QbL h2] at e3;have:(48:UInt8).toNat=48:=rfl;omega
   ·refine ih (n / 10) (by omega) ?_
    have h4:=(QdC (n / 10 / 10)).2.2;rw [QdL h2,List.length_append];simp only [List.length_cons,List.length_nil];omega
theorem TimP.spec:(∃ n,TimP t n)↔1<=t.size/\t.size<=10/\(1<t.size->bt t 0≠48)/\tlD (toL t)/\tlF 0 (toL t)<=1000000000:=by
 constructor
 ·rintro ⟨n,h,hn⟩
  obtain ⟨h1,h2,h3⟩:=QdC n;have hl:t.size=(Lib.decDigits n).length:=by rw [<- h,Qap]
  refine ⟨by omega,?_,fun hs e=>?_,by rw [h];exact h1,by rw [h,h2];exact hn⟩
  ·rw [hl];exact Qlc 9 n (Nat.lt_of_le_of_lt hn (by decide))
  ·refine Qqh n (by omega) ?_
   rw [<- h];rw [Qe6] at e;have h4:0<(toL t).length:=by rw [Qap];omega
   rw [List.getElem?_eq_getElem h4] at e ⊢
   have e1:(toL t)[0].toNat=48:=by
    simp only [Option.map_some,Option.getD_some] at e;omega
   exact congrArg some (UInt8.toNat_inj.1 e1)
 ·rintro ⟨h1,h2,h3,h4,h5⟩
  refine ⟨tlF 0 (toL t),(Qsz (t.size - 1) (toL t) (by rw [Qap];omega) h4 (fun hl e=>?_)).symm,h5⟩;rw [Qap] at hl;refine h3 hl ?_;rw [Qe6,e];rfl
end
section
open Go.Sort
def rcO (t:ByteArray):Option Nat:=match Lib.parseUintB 64 (toL t) with
 | .ok u=>if (⟨(Lib.decDigits u).toArray⟩:ByteArray)=t then some u else none
 | _=>none
theorem rcO_iff:(rcO t=some n/\n<=1000000000)↔TimP t n:=by
 constructor
 ·rintro ⟨h,hn⟩
  unfold rcO at h
  split at h
  ·split at h
   ·cases h
    rename_i he;exact ⟨by rw [<- he,Qbc],hn⟩
   ·cases h
  ·cases h
 ·intro h
  refine ⟨?_,h.2⟩;unfold rcO;rw [h.parse]
  show (if (⟨(Lib.decDigits n).toArray⟩:ByteArray)=t then some n else none)=some n
  rw [if_pos (Qbf (by rw [Qbc];exact h.1.symm))]
def Qii (t:ByteArray):Option Nat:=match rcO t with
 | some n=>if n<=1000000000 then some n else none
 | none=>none
theorem timO_iff:Qii t=some n↔TimP t n:=by
 rw [<- rcO_iff];unfold Qii;constructor
 ·intro h
  split at h
  ·split at h
   ·cases h;rename_i h1 h2;exact ⟨h1,h2⟩
   ·cases h
  ·cases h
 ·rintro ⟨h,hn⟩
  rw [h]
  show (if n<=1000000000 then some n else none)=some n
  rw [if_pos hn]
end
section
open Classical
def Qa5 (t:ByteArray):Int:=if toL t=[99] then 1 else if toL t=[103] then 2 else if toL t=[104] then 3 else if toL t=[115] then 4 else 0
theorem QtJ (t:ByteArray):Qa5 t=0∨Qa5 t=1∨Qa5 t=2∨Qa5 t=3∨Qa5 t=4:=by
 unfold Qa5;repeat' split
 all_goals simp
def QaY (t:ByteArray):Nat:=if t.size=0 then 0 else if bt t 0=64 then 1 else if bt t 0=35 then 2 else if bt t 0=84 then 3 else 0
theorem Ql8 (t:ByteArray):QaY t<=3:=by
 unfold QaY;repeat' split
 all_goals omega
noncomputable def whV (k:Int) (t:ByteArray):Int:=if k=4 then 0 else rvV t
def whW (k:Int) (t:ByteArray):ByteArray:=if k=4 then t else ByteArray.empty
noncomputable def whB (k:Int) (t:ByteArray):Bool:=if k=4 then QbG t else decide (rvC t=0)
def raP (k:Int) (r:ByteArray):Prop:=rvC r=0/\1<=rvV r/\rvV r<=1000000/\(k=1∨k=3)
noncomputable def wtV (k:Int) (rd:Bool) (r:ByteArray):Int:=if rd=true then (if raP k r then 1000000 / rvV r else 0) else 1
noncomputable def wtB (k:Int) (rd:Bool) (r:ByteArray):Bool:=if rd=true then (if raP k r then true else false) else true
end
section
structure Pt where
 rd:Bool
 rt:ByteArray
 tg:List ByteArray
 td:Bool
 ti:Nat
def pt0:Pt:=⟨false,ByteArray.empty,[],false,0⟩
def tl1 (p:ByteArray):ByteArray:=p.extract 1 p.size
def Qcw (r:Pt) (p:ByteArray):Option Pt:=
 if QaY p=1 then some { r with rd:=true,rt:=tl1 p } else
 if QaY p=2 then some { r with tg:=QaG (tl1 p) 44 } else
 if QaY p=3 then (Qii (tl1 p)).map fun n=>{ r with td:=true,ti:=n } else none
def QgG:Nat->Pt->List ByteArray->Option Pt
 | _,r,[]=>some r
 | a,r,p :: ps=>if QaY p<=a then none else match Qcw r p with
  | some r'=>QgG (QaY p) r' ps
  | none=>none
def QaX:Nat->Pt->List ByteArray->Option Pt
 | _,r,[]=>some r
 | a,r,p :: ps=>if QaY p<=a then none else match Qcw r p with
  | some r'=>if QaY p=2/\¬ r'.tg.all QbG=true then none else QaX (QaY p) r' ps
  | none=>none
theorem Qpi {r:Pt} (h:QaY p<=a):QgG a r (p :: ps)=none:=by
 unfold QgG;rw [if_pos h]
theorem Qjg {r r':Pt} (h:¬ QaY p<=a) (hs:Qcw r p=some r'):QgG a r (p :: ps)=QgG (QaY p) r' ps:=by
 rw [QgG,if_neg h,hs]
theorem Qk4 {r:Pt} (hs:Qcw r p=none):QgG a r (p :: ps)=none:=by
 rw [QgG];split
 ·rfl
 ·rw [hs]
theorem QlF {r:Pt} (h:QaY p<=a):QaX a r (p :: ps)=none:=by
 unfold QaX;rw [if_pos h]
theorem QcM {r r':Pt} (h:¬ QaY p<=a) (hs:Qcw r p=some r') (ht:QaY p=2->r'.tg.all QbG=true):QaX a r (p :: ps)=QaX (QaY p) r' ps:=by
 rw [QaX,if_neg h,hs]
 show (if QaY p=2/\¬ r'.tg.all QbG=true then none else QaX (QaY p) r' ps)=_
 rw [if_neg (fun k=>k.2 (ht k.1))]
theorem QiE {r r':Pt} (hs:Qcw r p=some r') (h2:QaY p=2) (ht:¬ r'.tg.all QbG=true):QaX a r (p :: ps)=none:=by
 rw [QaX];split
 ·rfl
 ·rw [hs]
  show (if QaY p=2/\¬ r'.tg.all QbG=true then none else QaX (QaY p) r' ps)=_
  rw [if_pos ⟨h2,ht⟩]
theorem Qja {r:Pt} (hs:Qcw r p=none):QaX a r (p :: ps)=none:=by
 rw [QaX];split
 ·rfl
 ·rw [hs]
theorem step1 {r:Pt} (h:QaY p=1):Qcw r p=some { r with rd:=true,rt:=tl1 p }:=by unfold Qcw;rw [if_pos h]
theorem step2 {r:Pt} (h:QaY p=2):Qcw r p=some { r with tg:=QaG (tl1 p) 44 }:=by unfold Qcw;rw [if_neg (by omega),if_pos h]
theorem Qtq {r:Pt} (h:QaY p=3):Qcw r p=(Qii (tl1 p)).map fun n=>{ r with td:=true,ti:=n }:=by unfold Qcw;rw [if_neg (by omega),if_neg (by omega),if_pos h]
theorem step0 {r:Pt} (h:QaY p=0):Qcw r p=none:=by unfold Qcw;rw [if_neg (by omega),if_neg (by omega),if_neg (by omega)]
theorem Qnl {r r':Pt} (h:Qcw r p=some r') (h2:QaY p≠2):r'.tg=r.tg:=by
 have hb:=Ql8 p;have hc:QaY p=0∨QaY p=1∨QaY p=3:=by omega
 rcases hc with h0 | h1 | h3
 ·rw [step0 h0] at h;cases h
 ·rw [step1 h1] at h;cases h;rfl
 ·rw [Qtq h3] at h
  obtain ⟨n,_,rfl⟩:=Option.map_eq_some_iff.1 h;rfl
theorem Qnu:∀ (ps:List ByteArray) (a:Nat) (r r':Pt),2<=a->QgG a r ps=some r'->r'.tg=r.tg
 | [],a,r,r',_,h=>by unfold QgG at h;cases h;rfl
 | p :: ps,a,r,r',ha,h=>by
  by_cases hm:QaY p<=a
  ·rw [Qpi hm] at h;cases h
  ·cases hs:Qcw r p with
   | none=>rw [Qk4 hs] at h;cases h
   | some r1=>
    rw [Qjg hm hs] at h;rw [Qnu ps _ r1 r' (by omega) h,Qnl hs (by omega)]
def QnD (r:Pt):Option Pt:=if r.tg.all QbG=true then some r else none
theorem Qec:∀ (ps:List ByteArray) (a:Nat) (r:Pt),r.tg.all QbG=true->QaX a r ps=(QgG a r ps).bind QnD
 | [],a,r,h=>by unfold QaX QgG;show _=QnD r;unfold QnD;rw [if_pos h]
 | p :: ps,a,r,h=>by
  by_cases hm:QaY p<=a
  ·rw [Qpi hm,QlF hm];rfl
  ·cases hs:Qcw r p with
   | none=>rw [Qk4 hs,Qja hs];rfl
   | some r1=>
    rw [Qjg hm hs];by_cases h2:QaY p=2
    ·by_cases ht:r1.tg.all QbG=true
     ·rw [QcM hm hs (fun _=>ht),Qec ps _ r1 ht]
     ·rw [QiE hs h2 ht]
      cases hq:QgG (QaY p) r1 ps with
      | none=>rfl
      | some r2=>
       show none=QnD r2
       unfold QnD;rw [Qnu ps _ r1 r2 (by omega) hq,if_neg ht]
    ·rw [QcM hm hs (fun e=>absurd e h2),Qec ps _ r1 (by rw [Qnl hs h2];exact h)]
end
variable {ta:Option Addr}
variable {u0 u1 u2 u3 u4 u5 u6 u7 v:Value}
section
theorem Qdo (h:Qaw wr ta L) (hne:∀ x,ta=some x->x.block≠B):Qaw (wr.setCell ⟨B,i,none⟩ v) ta L:=fun h0=>by
 obtain ⟨b,off,e,hc⟩:=h h0;exact ⟨b,off,e,fun j u hj=>by rw [World.cell?_setCell_other _ _ _ _ (by have:=hne _ e;intro e2;exact this (congrArg Addr.block e2).symm)];exact hc j u hj⟩
theorem Qta {k:Nat} (h:L[k]?=some y):L.drop k=y :: L.drop (k+1):=by
 obtain ⟨hk,e⟩:=ZZd.1 h;rw [List.drop_eq_getElem_cons hk,e]
theorem Qh8 {m:Nat} (h:QaY y=m) (hm:1<=m):0<y.size/\(m=1->bt y 0=64)/\(m=2->bt y 0=35)/\(m=3->bt y 0=84):=by
 unfold QaY at h;by_cases h0:y.size=0
 ·rw [if_pos h0] at h;omega
 rw [if_neg h0] at h;refine ⟨by omega,?_⟩;by_cases h1:bt y 0=64
 ·rw [if_pos h1] at h;exact ⟨fun _=>h1,fun e=>by omega,fun e=>by omega⟩
 rw [if_neg h1] at h;by_cases h2:bt y 0=35
 ·rw [if_pos h2] at h;exact ⟨fun e=>by omega,fun _=>h2,fun e=>by omega⟩
 rw [if_neg h2] at h;by_cases h3:bt y 0=84
 ·rw [if_pos h3] at h;exact ⟨fun e=>by omega,fun e=>by omega,fun _=>h3⟩
 rw [if_neg h3] at h;omega
theorem Qp8 (y:ByteArray):(tl1 y).size<=y.size:=by unfold tl1;rw [ByteArray.size_extract];omega
theorem Qm8 (t:ByteArray):(∀ u∈QaG t 44,u.size<=t.size)/\(QaG t 44).length<=t.size+1:=by
 have e:QaG t 44=Lib.splitB ⟨#[44]⟩ 0 (Lib.countB t ⟨#[44]⟩) t:=(QfQ 44 t).symm;refine ⟨fun u hu=>QdV _ _ _ u (by rw [<- e];exact hu),?_⟩;have:=Qdn 44 (QaG t 44);have h2:Qc0 44 (QaG t 44)=toL t:=(Qdt (c:=44) t.size t (ZZa _)).2.2;rw [h2,Qap] at this;exact this
end
variable {T:TypeId}
variable {cs:Array Value}
section
def LP (t nm wh kd:ByteArray) (ps:List ByteArray):Prop:=∃ R,toL t=toL nm ++ 58 :: toL R/\(58:UInt8) ∉ toL nm/\QaG R 124=wh :: kd :: ps
theorem Qjt {p r p' r':List UInt8} (h:p ++ c :: r=p' ++ c :: r') (hp:c ∉ p) (hp':c ∉ p'):p=p'/\r=r':=by
 have e:=QsF (r:=r) hp;rw [h,QsF hp'] at e
 cases e
 exact ⟨rfl,rfl⟩
theorem LP.one {wh' kd':ByteArray} {ps':List ByteArray} (h:LP t nm wh kd ps) (k:LP t nm' wh' kd' ps'):nm=nm'/\wh=wh'/\kd=kd'/\ps=ps':=by
 obtain ⟨R,h1,h2,h3⟩:=h;obtain ⟨R',k1,k2,k3⟩:=k;obtain ⟨e1,e2⟩:=Qjt (h1.symm.trans k1) h2 k2;have e3:=Qbf e2;subst e3;rw [h3] at k3
 cases k3
 exact ⟨Qbf e1,rfl,rfl,rfl⟩
theorem LP.no1 (hn:(58:UInt8) ∉ toL t) (h:LP t nm wh kd ps):False:=by
 obtain ⟨R,h1,_,_⟩:=h;exact hn (by rw [h1];simp)
theorem Qki (h:Below B w w') {r:Nat} (hr:B<=r) (v0 v1 v2 v3 v4 v5 v6 v7:Value) :
  Below B w ((((((((w'.setCell ⟨r,0,none⟩ v0).setCell ⟨r,1,none⟩ v1).setCell ⟨r,2,none⟩ v2).setCell ⟨r,3,none⟩ v3).setCell ⟨r,4,none⟩ v4).setCell ⟨r,5,none⟩ v5).setCell ⟨r,6,none⟩ v6).setCell ⟨r,7,none⟩ v7):=
 (((((((h.setCell (p:=⟨r,0,none⟩) hr v0).setCell (p:=⟨r,1,none⟩) hr v1).setCell (p:=⟨r,2,none⟩) hr v2).setCell (p:=⟨r,3,none⟩) hr v3).setCell (p:=⟨r,4,none⟩) hr v4).setCell (p:=⟨r,5,none⟩) hr v5).setCell (p:=⟨r,6,none⟩) hr v6).setCell (p:=⟨r,7,none⟩) hr v7
theorem QmM (t:ByteArray) (c:UInt8):(∀ u∈QaG t (c.toNat:Int),u.size<=t.size)/\(QaG t (c.toNat:Int)).length<=t.size+1:=by
 have e:QaG t (c.toNat:Int)=Lib.splitB ⟨#[c]⟩ 0 (Lib.countB t ⟨#[c]⟩) t:=(QfQ c t).symm;refine ⟨fun u hu=>QdV _ _ _ u (by rw [<- e];exact hu),?_⟩;have:=Qdn c (QaG t (c.toNat:Int));rw [(Qdt (c:=c) t.size t (Nat.le_refl _)).2.2,Qap] at this;exact this
theorem QdG {r:Nat} (h:w.heap[r]?=some (.cells #[u0,u1,u2,u3,u4,u5,u6,u7] T (0,0))) :
  w.cell? ⟨r,0,none⟩=some u0/\w.cell? ⟨r,1,none⟩=some u1/\w.cell? ⟨r,2,none⟩=some u2/\w.cell? ⟨r,3,none⟩=some u3/\w.cell? ⟨r,4,none⟩=some u4/\w.cell? ⟨r,5,none⟩=some u5/\w.cell? ⟨r,6,none⟩=some u6/\w.cell? ⟨r,7,none⟩=some u7:=
 ⟨by rw [cell_of_row w r 0 _ _ (0,0) h];rfl,by rw [cell_of_row w r 1 _ _ (0,0) h];rfl,by rw [cell_of_row w r 2 _ _ (0,0) h];rfl,by rw [cell_of_row w r 3 _ _ (0,0) h];rfl,by rw [cell_of_row w r 4 _ _ (0,0) h];rfl,by rw [cell_of_row w r 5 _ _ (0,0) h];rfl,by rw [cell_of_row w r 6 _ _ (0,0) h];rfl,by rw [cell_of_row w r 7 _ _ (0,0) h];rfl⟩
theorem QdU {r:Nat} (h:w.heap[r]?=some (.cells cs T (0,0))) :
  w.frozen? ⟨r,0,none⟩=false/\w.frozen? ⟨r,1,none⟩=false/\w.frozen? ⟨r,2,none⟩=false/\w.frozen? ⟨r,3,none⟩=false/\w.frozen? ⟨r,4,none⟩=false/\w.frozen? ⟨r,5,none⟩=false/\w.frozen? ⟨r,6,none⟩=false/\w.frozen? ⟨r,7,none⟩=false:=
 ⟨frozen_of_row w r 0 _ _ h,frozen_of_row w r 1 _ _ h,frozen_of_row w r 2 _ _ h,frozen_of_row w r 3 _ _ h,frozen_of_row w r 4 _ _ h,frozen_of_row w r 5 _ _ h,frozen_of_row w r 6 _ _ h,frozen_of_row w r 7 _ _ h⟩
theorem row8 {r:Nat} (v0 v1 v2 v3 v4 v5 v6 v7:Value) (h:w.heap[r]?=some (.cells #[u0,u1,u2,u3,u4,u5,u6,u7] T (0,0))) :
  ((((((((w.setCell ⟨r,0,none⟩ v0).setCell ⟨r,1,none⟩ v1).setCell ⟨r,2,none⟩ v2).setCell ⟨r,3,none⟩ v3).setCell ⟨r,4,none⟩ v4).setCell ⟨r,5,none⟩ v5).setCell ⟨r,6,none⟩ v6).setCell ⟨r,7,none⟩ v7).heap[r]?=some (.cells #[v0,v1,v2,v3,v4,v5,v6,v7] T (0,0)):=by
 have h0:(w.setCell ⟨r,0,none⟩ v0).heap[r]?=some (.cells #[v0,u1,u2,u3,u4,u5,u6,u7] T (0,0)):=ZZl _ r 0 _ _ v0 h;have h1:((w.setCell ⟨r,0,none⟩ v0).setCell ⟨r,1,none⟩ v1).heap[r]?=some (.cells #[v0,v1,u2,u3,u4,u5,u6,u7] T (0,0)):=ZZl _ r 1 _ _ v1 h0;have h2:(((w.setCell ⟨r,0,none⟩ v0).setCell ⟨r,1,none⟩ v1).setCell ⟨r,2,none⟩ v2).heap[r]?=some (.cells #[v0,v1,v2,u3,u4,u5,u6,u7] T (0,0)):=ZZl _ r 2 _ _ v2 h1;have h3:((((w.setCell ⟨r,0,none⟩ v0).setCell ⟨r,1,none⟩ v1).setCell ⟨r,2,none⟩ v2).setCell ⟨r,3,none⟩ v3).heap[r]?=some (.cells #[v0,v1,v2,v3,u4,u5,u6,u7] T (0,0)):=ZZl _ r 3 _ _ v3 h2;have h4:(((((w.setCell ⟨r,0,none⟩ v0).setCell ⟨r,1,none⟩ v1).setCell ⟨r,2,none⟩ v2).setCell ⟨r,3,none⟩ v3).setCell ⟨r,4,none⟩ v4).heap[r]?=some (.cells #[v0,v1,v2,v3,v4,u5,u6,u7] T (0,0)):=ZZl _ r 4 _ _ v4 h3;have h5:((((((w.setCell ⟨r,0,none⟩ v0).setCell ⟨r,1,none⟩ v1).setCell ⟨r,2,none⟩ v2).setCell ⟨r,3,none⟩ v3).setCell ⟨r,4,none⟩ v4).setCell ⟨r,5,none⟩ v5).heap[r]?=some (.cells #[v0,v1,v2,v3,v4,v5,u6,u7] T (0,0)):=ZZl _ r 5 _ _ v5 h4;have h6:(((((((w.setCell ⟨r,0,none⟩ v0).setCell ⟨r,1,none⟩ v1).setCell ⟨r,2,none⟩ v2).setCell ⟨r,3,none⟩ v3).setCell ⟨r,4,none⟩ v4).setCell ⟨r,5,none⟩ v5).setCell ⟨r,6,none⟩ v6).heap[r]?=some (.cells #[v0,v1,v2,v3,v4,v5,v6,u7] T (0,0)):=ZZl _ r 6 _ _ v6 h5;have h7:((((((((w.setCell ⟨r,0,none⟩ v0).setCell ⟨r,1,none⟩ v1).setCell ⟨r,2,none⟩ v2).setCell ⟨r,3,none⟩ v3).setCell ⟨r,4,none⟩ v4).setCell ⟨r,5,none⟩ v5).setCell ⟨r,6,none⟩ v6).setCell ⟨r,7,none⟩ v7).heap[r]?=some (.cells #[v0,v1,v2,v3,v4,v5,v6,v7] T (0,0)):=ZZl _ r 7 _ _ v7 h6;exact h7
end
section
structure Sm where
 k:Int
 se:ByteArray
 va:Int
 wd:ByteArray
 wt:Int
 td:Bool
 ti:Nat
 c:Int
def Qc3 (c:Int):Sm:=⟨0,ByteArray.empty,0,ByteArray.empty,0,false,0,c⟩
noncomputable def QlQ (nm wh kd:ByteArray) (r:Pt):Sm:=
 if Qa5 kd=0 then Qc3 9 else
 if whB (Qa5 kd) wh=false then Qc3 3 else
 if wtB (Qa5 kd) r.rd r.rt=false then Qc3 10 else
 ⟨Qa5 kd,Qgx nm r.tg,whV (Qa5 kd) wh,whW (Qa5 kd) wh,wtV (Qa5 kd) r.rd r.rt,r.td,r.ti,0⟩
def LnR (t:ByteArray) (s:Sm):Prop:=(Qo9 t=false/\s=Qc3 2)∨(Qo9 t=true/\((∃ nm wh kd ps r,LP t nm wh kd ps/\QgG 0 pt0 ps=some r/\Qgx nm r.tg≠ByteArray.empty/\s=QlQ nm wh kd r)∨((∀ nm wh kd ps r,LP t nm wh kd ps->QgG 0 pt0 ps=some r->Qgx nm r.tg=ByteArray.empty)/\s=Qc3 3)))
theorem LnR.one {s s':Sm} (h:LnR t s) (k:LnR t s'):s=s':=by
 rcases h with ⟨h1,rfl⟩ | ⟨h1,h⟩
 ·rcases k with ⟨_,rfl⟩ | ⟨k1,_⟩
  ·rfl
  ·rw [h1] at k1;cases k1
 ·rcases k with ⟨k1,_⟩ | ⟨_,k⟩
  ·rw [h1] at k1;cases k1
  ·rcases h with ⟨nm,wh,kd,ps,r,a1,a2,a3,rfl⟩ | ⟨a,rfl⟩
   ·rcases k with ⟨ad,aa,ac,ab,r',b1,b2,b3,rfl⟩ | ⟨b,rfl⟩
    ·obtain ⟨rfl,rfl,rfl,rfl⟩:=a1.one b1
     rw [a2] at b2;cases b2;rfl
    ·exact absurd (b _ _ _ _ _ a1 a2) a3
   ·rcases k with ⟨ad,aa,ac,ab,r',b1,b2,b3,rfl⟩ | ⟨b,rfl⟩
    ·exact absurd (a _ _ _ _ _ b1 b2) b3
    ·rfl
def Qvb (s:Sm):Value:=.agg #[.int .i64 s.k,.string s.se,.int .i64 s.va,.string s.wd,.int .u64 s.wt,.bool s.td,.int .i64 s.ti,.int .i64 s.c]
theorem QhX {x:ByteArray} (h:x≠ByteArray.empty):x.toList.isEmpty=false:=by
 rw [ByteArray.toList_eq]
 cases e:x.data.toList with
 | nil=>exact absurd (Qbf (show toL x=toL ByteArray.empty from e)) h
 | cons a b=>rfl
theorem QiX {r:Nat} (h:w.heap[r]?=some (.cells #[u0,u1,u2,u3,u4,u5,u6] T (0,0))) :
  w.cell? ⟨r,0,none⟩=some u0/\w.cell? ⟨r,1,none⟩=some u1/\w.cell? ⟨r,2,none⟩=some u2/\w.cell? ⟨r,3,none⟩=some u3/\w.cell? ⟨r,4,none⟩=some u4/\w.cell? ⟨r,5,none⟩=some u5/\w.cell? ⟨r,6,none⟩=some u6:=
 ⟨by rw [cell_of_row w r 0 _ _ (0,0) h];rfl,by rw [cell_of_row w r 1 _ _ (0,0) h];rfl,by rw [cell_of_row w r 2 _ _ (0,0) h];rfl,by rw [cell_of_row w r 3 _ _ (0,0) h];rfl,by rw [cell_of_row w r 4 _ _ (0,0) h];rfl,by rw [cell_of_row w r 5 _ _ (0,0) h];rfl,by rw [cell_of_row w r 6 _ _ (0,0) h];rfl⟩
theorem Qkl {r:Nat} (h:w.heap[r]?=some (.cells cs T (0,0))) :
  w.frozen? ⟨r,0,none⟩=false/\w.frozen? ⟨r,1,none⟩=false/\w.frozen? ⟨r,2,none⟩=false/\w.frozen? ⟨r,3,none⟩=false/\w.frozen? ⟨r,4,none⟩=false/\w.frozen? ⟨r,5,none⟩=false/\w.frozen? ⟨r,6,none⟩=false:=
 ⟨frozen_of_row w r 0 _ _ h,frozen_of_row w r 1 _ _ h,frozen_of_row w r 2 _ _ h,frozen_of_row w r 3 _ _ h,frozen_of_row w r 4 _ _ h,frozen_of_row w r 5 _ _ h,frozen_of_row w r 6 _ _ h⟩
end
section
theorem QiH (t:ByteArray) (l:List UInt8):(t.toList == l)=decide (toL t=l):=by
 rw [ByteArray.toList_eq];by_cases h:toL t=l
 ·rw [decide_eq_true h];have:t.data.toList=l:=h;rw [this];simp
 ·rw [decide_eq_false h]
  cases e:(t.data.toList == l) with
  | false=>rfl
  | true=>exact absurd (eq_of_beq e) h
theorem Qis (t:ByteArray) (w:World) :
  Calls prog 67 #[.string t] w fun e w'=>e=.returned (.int .i64 (Qa5 t))/\w'=w:=by
 have h1:=QiH t [99];have h2:=QiH t [103];have h3:=QiH t [104];have h4:=QiH t [115];have HK:Hid (Qa5 t=if toL t=[99] then 1 else if toL t=[103] then 2 else if toL t=[104] then 3 else if toL t=[115] then 4 else 0):=(rfl:Qa5 t=_);by_cases k1:toL t=[99]
 ·rw [decide_eq_true k1] at h1
  go_enter func67,ntmps67;go_wp2;go_ret;exact ⟨by rw [HK.out,if_pos k1];rfl,rfl⟩
 rw [decide_eq_false k1] at h1;by_cases k2:toL t=[103]
 ·rw [decide_eq_true k2] at h2
  go_enter func67,ntmps67;go_wp2;go_ret;exact ⟨by rw [HK.out,if_neg k1,if_pos k2];rfl,rfl⟩
 rw [decide_eq_false k2] at h2;by_cases k3:toL t=[104]
 ·rw [decide_eq_true k3] at h3
  go_enter func67,ntmps67;go_wp2;go_ret;exact ⟨by rw [HK.out,if_neg k1,if_neg k2,if_pos k3];rfl,rfl⟩
 rw [decide_eq_false k3] at h3;by_cases k4:toL t=[115]
 ·rw [decide_eq_true k4] at h4
  go_enter func67,ntmps67;go_wp2;go_ret;exact ⟨by rw [HK.out,if_neg k1,if_neg k2,if_neg k3,if_pos k4];rfl,rfl⟩
 rw [decide_eq_false k4] at h4;go_enter func67,ntmps67;go_wp2;go_ret;exact ⟨by rw [HK.out,if_neg k1,if_neg k2,if_neg k3,if_neg k4];rfl,rfl⟩
theorem QfU {k:Nat} (hk:k<(toL u).length):bt u k=(((toL u)[k]).toNat:Int):=by
 rw [Qe6,List.getElem?_eq_getElem hk];rfl
theorem Qiq (u:ByteArray):∀ k,k<=(toL u).length->(Qm4 u k=true↔tlD ((toL u).take k))
 | 0,_=>⟨fun _ x hx=>by simp at hx,fun _=>rfl⟩
 | k+1,h=>by
  have ih:=Qiq u k (by omega);have hk:k<(toL u).length:=by omega
  unfold Qm4;rw [Bool.and_eq_true,ih,List.take_succ_eq_append_getElem hk,QfU hk];constructor
  ·rintro ⟨h1,h2⟩ x hx
   rcases List.mem_append.1 hx with hx | hx
   ·exact h1 x hx
   ·rw [List.mem_singleton.1 hx];have:=Qoy h2;omega
  ·intro h1
   refine ⟨fun x hx=>h1 x (List.mem_append_left _ hx),?_⟩;have:=h1 _ (List.mem_append_right _ (List.mem_singleton.2 rfl));unfold Qke;rw [decide_eq_true (by omega),decide_eq_true (by omega)];rfl
theorem QiQ (u:ByteArray):∀ k,k<=(toL u).length->tlD ((toL u).take k)->QjJ u 0 k=(tlF 0 ((toL u).take k):Nat)
 | 0,_,_=>rfl
 | k+1,h,hd=>by
  have hk:k<(toL u).length:=by omega
  rw [List.take_succ_eq_append_getElem hk] at hd ⊢;have ih:=QiQ u k (by omega) (fun x hx=>hd x (List.mem_append_left _ hx));have hx:=hd _ (List.mem_append_right _ (List.mem_singleton.2 rfl));rw [Qhi];unfold QjJ;rw [ih,Nat.zero_add,QfU hk];omega
theorem Qdw (u:ByteArray):Qm4 u u.size=true↔tlD (toL u):=by
 have:=Qiq u u.size (by rw [Qap];exact Nat.le_refl _)
 rwa [List.take_of_length_le (by rw [Qap];exact Nat.le_refl _)] at this
theorem Qih (h:tlD (toL u)):QjJ u 0 u.size=(tlF 0 (toL u):Nat):=by
 have e:(toL u).take u.size=toL u:=List.take_of_length_le (by rw [Qap];exact Nat.le_refl _);have:=QiQ u u.size (by rw [Qap];exact Nat.le_refl _) (by rw [e];exact h)
 rwa [e] at this
theorem QhC (h:¬ ∃ n,TimP t n):Qii t=none:=by
 cases e:Qii t with
 | none=>rfl
 | some n=>exact absurd ⟨n,timO_iff.1 e⟩ h
abbrev lnZ (c:Int):Array Value:=#[.int .i64 0,.string ⟨#[]⟩,.int .i64 0,.string ⟨#[]⟩,.int .u64 0,.bool false,.int .i64 0,.int .i64 c]
theorem QrB (c:Int) (w:World) :
  Calls prog 65 #[.int .i64 c] w fun e w'=>e=.returned (Qvb (Qc3 c))/\Below w.heap.size w w':=by
 go_enter func65,ntmps65;go_wp2;refine bodyPost_ret (v:=.agg (lnZ c)) (by simp [results,results65,go_sem]) rfl ?_;exact ⟨rfl,(ZZb _ _).alloc (ZZa _) _⟩
theorem QpK (t:ByteArray) (hz:t.size<=100000) (w:World) :
  Calls prog 115 #[.string t] w fun e w'=>∃ n,e=.returned (.tuple #[.int .i64 n,.bool (Qii t).isSome])/\(∀ m,Qii t=some m->n=m)/\w'=w:=by
 have aj:=get_bt t;have ab:=Qaa (TimP.spec (t:=t));by_cases h0:t.size<1
 ·have ah:(t.size:Int)<1:=by omega
  have HE:Hid (Qii t=none):=QhC (fun h=>by have:=(ab.out.1 h).1;omega);go_enter func115,ntmps115;go_wp2;go_ret2;exact ⟨0,by rw [HE.out];rfl,(fun m h=>by rw [HE.out] at h;cases h),rfl⟩
 have ah:¬ (t.size:Int)<1:=by omega
 by_cases h1:10<t.size
 ·have af:(10:Int)<(t.size:Int):=by omega
  have HE:Hid (Qii t=none):=QhC (fun h=>by have:=(ab.out.1 h).2.1;omega);go_enter func115,ntmps115;go_wp2;go_ret2;exact ⟨0,by rw [HE.out];rfl,(fun m h=>by rw [HE.out] at h;cases h),rfl⟩
 have af:¬ (10:Int)<(t.size:Int):=by omega
 have al:(0:Int)<(t.size:Int):=by omega
 by_cases h2:1<t.size/\bt t 0=48
 ·have ai:(1:Int)<(t.size:Int):=by omega
  have ak:=h2.2;have HE:Hid (Qii t=none):=QhC (fun h=>absurd h2.2 ((ab.out.1 h).2.2.1 h2.1));go_enter func115,ntmps115;go_wp2;go_ret2;exact ⟨0,by rw [HE.out];rfl,(fun m h=>by rw [HE.out] at h;cases h),rfl⟩
 have HV:Hid (Qii t=if dgB t=true/\dgV t<=1000000000 then some (dgV t).toNat else none):=(by
  by_cases hd:dgB t=true/\dgV t<=1000000000
  ·rw [if_pos hd]
   obtain ⟨d1,d2⟩:=hd;unfold dgB at d1;rw [Bool.and_eq_true] at d1;have ac:=(Qdw t).1 d1.1;unfold dgV at d2 ⊢;rw [if_pos d1.1,Qih ac] at d2 ⊢;have hs:=ab.out.2 ⟨by omega,by omega,fun hx hy=>h2 ⟨hx,hy⟩,ac,by omega⟩;obtain ⟨n,hn⟩:=hs;rw [timO_iff.2 hn];have e:=(QdC n).2.1;rw [<- hn.1] at e;rw [e];simp
  ·rw [if_neg hd]
   refine QhC (fun h=>hd ?_);obtain ⟨s1,s2,s3,s4,s5⟩:=ab.out.1 h;have ha:=(Qdw t).2 s4;refine ⟨?_,?_⟩
   ·unfold dgB;rw [ha,decide_eq_true (by omega:0<t.size)];rfl
   ·unfold dgV;rw [if_pos ha,Qih s4];omega:Qii t=_)
 have ae:dgB t=true->0<=dgV t:=fun hb=>by
  unfold dgB at hb;rw [Bool.and_eq_true] at hb;unfold dgV;rw [if_pos hb.1,Qih ((Qdw t).1 hb.1)];omega
 have HN:=Qaa ae;clear ae
 have aa:(¬ (1:Int)<(t.size:Int))∨((1:Int)<(t.size:Int)/\¬ bt t 0=48):=by
  by_cases hx:1<t.size
  ·exact Or.inr ⟨by omega,fun hy=>h2 ⟨hx,hy⟩⟩
  ·exact Or.inl (by omega)
 have ad:∀ b:Bool,b=(dgB t && decide (dgV t<=1000000000))->b=(Qii t).isSome/\(∀ m,Qii t=some m->dgV t=m):=fun b hb=>by
  rw [HV.out];by_cases hd:dgB t=true/\dgV t<=1000000000
  ·rw [if_pos hd,hb,hd.1,decide_eq_true hd.2]
   exact ⟨rfl,fun m h=>by cases h;have:=HN.out hd.1;omega⟩
  ·rw [if_neg hd,hb]
   refine ⟨?_,fun m h=>by cases h⟩
   cases hg:dgB t with
   | false=>rfl
   | true=>rw [decide_eq_false (fun h=>hd ⟨hg,h⟩)];rfl
 have HF:=Qaa ad;clear ad HV HN ab h2
 cases hg:dgB t with
 | false=>
  rcases aa with hc | ⟨hc,ag⟩
  all_goals
   go_enter func115,ntmps115;go_wp2_with (go_at_call 50;refine (Qbv t (by omega) _).mono ?_;rw [hg];rintro e w1 ⟨rfl,hw⟩;obtain rfl:=hw.symm);go_ret2;exact ⟨dgV t,by rw [<- (HF.out false (by rw [hg];rfl)).1];rfl,(HF.out false (by rw [hg];rfl)).2,rfl⟩
 | true=>
  rcases aa with hc | ⟨hc,ag⟩
  all_goals
   go_enter func115,ntmps115;go_wp2_with (go_at_call 50;refine (Qbv t (by omega) _).mono ?_;rw [hg];rintro e w1 ⟨rfl,hw⟩;obtain rfl:=hw.symm);go_ret2;exact ⟨dgV t,by rw [<- (HF.out (decide (dgV t<=1000000000)) (by rw [hg];rfl)).1];rfl,(HF.out (decide (dgV t<=1000000000)) (by rw [hg];rfl)).2,rfl⟩
end
section
theorem bel5L (h:Below B w w') {r:Nat} (hr:B<=r) (v0 v1 v2 v3 v4:Value):Below B w (((((w'.setCell ⟨r,0,none⟩ v0).setCell ⟨r,1,none⟩ v1).setCell ⟨r,2,none⟩ v2).setCell ⟨r,3,none⟩ v3).setCell ⟨r,4,none⟩ v4):=(((((h.setCell (p:=⟨r,0,none⟩) hr v0).setCell (p:=⟨r,1,none⟩) hr v1).setCell (p:=⟨r,2,none⟩) hr v2).setCell (p:=⟨r,3,none⟩) hr v3).setCell (p:=⟨r,4,none⟩) hr v4)
theorem Qnr {r:Nat} (h:Qaw w' ta L) (hn:∀ x,ta=some x->x.block≠r) (v0 v1 v2 v3 v4:Value):Qaw (((((w'.setCell ⟨r,0,none⟩ v0).setCell ⟨r,1,none⟩ v1).setCell ⟨r,2,none⟩ v2).setCell ⟨r,3,none⟩ v3).setCell ⟨r,4,none⟩ v4) ta L:=Qdo (Qdo (Qdo (Qdo (Qdo (h) hn) hn) hn) hn) hn
theorem Qfc {r:Nat} (h:w.heap[r]?=some (.cells #[u0,u1,u2,u3,u4] T (0,0))) :
  w.cell? ⟨r,0,none⟩=some u0/\w.cell? ⟨r,1,none⟩=some u1/\w.cell? ⟨r,2,none⟩=some u2/\w.cell? ⟨r,3,none⟩=some u3/\w.cell? ⟨r,4,none⟩=some u4:=
 ⟨by rw [cell_of_row w r 0 _ _ (0,0) h];rfl,by rw [cell_of_row w r 1 _ _ (0,0) h];rfl,by rw [cell_of_row w r 2 _ _ (0,0) h];rfl,by rw [cell_of_row w r 3 _ _ (0,0) h];rfl,by rw [cell_of_row w r 4 _ _ (0,0) h];rfl⟩
theorem QgU {r:Nat} (h:w.heap[r]?=some (.cells cs T (0,0))) :
  w.frozen? ⟨r,0,none⟩=false/\w.frozen? ⟨r,1,none⟩=false/\w.frozen? ⟨r,2,none⟩=false/\w.frozen? ⟨r,3,none⟩=false/\w.frozen? ⟨r,4,none⟩=false:=
 ⟨frozen_of_row w r 0 _ _ h,frozen_of_row w r 1 _ _ h,frozen_of_row w r 2 _ _ h,frozen_of_row w r 3 _ _ h,frozen_of_row w r 4 _ _ h⟩
structure MS (w wr:World) (r:Pt) (ta:Option Addr) (tc:Nat):Prop where
 res:wr.heap[w.heap.size]?=some (.cells #[.string ⟨#[]⟩,.bool false,.slice none 0 0,.bool false,.int .i64 0] 124 (0,0))
 box:wr.heap[w.heap.size+1]?=some (.cells #[.string r.rt,.bool r.rd,.slice ta r.tg.length tc,.bool r.td,.int .i64 r.ti] 124 (0,0))
 tags:Qaw wr ta r.tg
 tne:∀ x,ta=some x->w.heap.size+1<x.block
 bel:Below w.heap.size w wr
theorem MS.lt {r:Pt} (h:MS w wr r ta tc):w.heap.size+1<wr.heap.size:=by
 rcases Nat.lt_or_ge (w.heap.size+1) wr.heap.size with h' | h'
 ·exact h'
 ·have:=h.box;rw [Array.getElem?_eq_none h'] at this;cases this
theorem MS.past {w2:World} {r:Pt} (h:MS w wr r ta tc) (hb:Below wr.heap.size wr w2):MS w w2 r ta tc:=
 ⟨by rw [hb.block _ (by have:=h.lt;omega)];exact h.res,by rw [hb.block _ h.lt];exact h.box,QaB h.tags hb,h.tne,Qac h.bel hb⟩
theorem MS.set {r r':Pt} {tb:Option Addr} {td:Nat} (h:MS w wr r ta tc) (hb:(wr.setCell ⟨w.heap.size+1,i,none⟩ v).heap[w.heap.size+1]?=some (.cells #[.string r'.rt,.bool r'.rd,.slice tb r'.tg.length td,.bool r'.td,.int .i64 r'.ti] 124 (0,0))) (hT:Qaw wr tb r'.tg) (hn:∀ x,tb=some x->w.heap.size+1<x.block):MS w (wr.setCell ⟨w.heap.size+1,i,none⟩ v) r' tb td:=
 ⟨by rw [Below.heap_setCell _ _ _ _ (by show w.heap.size≠w.heap.size+1;omega)];exact h.res,hb,Qdo hT (fun x e=>by have:=hn x e;omega),hn,h.bel.setCell (by show w.heap.size<=w.heap.size+1;omega) _⟩
theorem MS.fin {r:Pt} (h:MS w wr r ta tc) (v0 v1 v2 v3 v4:Value):Qaw (((((wr.setCell ⟨w.heap.size,0,none⟩ v0).setCell ⟨w.heap.size,1,none⟩ v1).setCell ⟨w.heap.size,2,none⟩ v2).setCell ⟨w.heap.size,3,none⟩ v3).setCell ⟨w.heap.size,4,none⟩ v4) ta r.tg/\Below w.heap.size w (((((wr.setCell ⟨w.heap.size,0,none⟩ v0).setCell ⟨w.heap.size,1,none⟩ v1).setCell ⟨w.heap.size,2,none⟩ v2).setCell ⟨w.heap.size,3,none⟩ v3).setCell ⟨w.heap.size,4,none⟩ v4):=
 ⟨Qnr h.tags (fun x e=>by have:=h.tne x e;omega) _ _ _ _ _,bel5L h.bel (ZZa _) _ _ _ _ _⟩
theorem Qux (h:QaY y=0) (h0:¬ y.size=0):¬ bt y 0=64/\¬ bt y 0=35/\¬ bt y 0=84:=by
 unfold QaY at h;rw [if_neg h0] at h;refine ⟨fun e=>?_,fun e=>?_,fun e=>?_⟩
 ·rw [if_pos e] at h;omega
 ·rw [if_neg (by omega),if_pos e] at h;omega
 ·rw [if_neg (by omega),if_neg (by omega),if_pos e] at h;omega
def MoO (w:World) (L:List ByteArray) (e:Ending) (w':World):Prop:=∃ r ta tc,e=.returned (.tuple #[.agg #[.string r.rt,.bool r.rd,.slice ta r.tg.length tc,.bool r.td,.int .i64 r.ti],.bool (QaX 0 pt0 L).isSome])/\(∀ r',QaX 0 pt0 L=some r'->r'=r)/\Qaw w' ta r.tg/\(∀ u∈r.tg,u.size<=20000)/\r.tg.length<=20001/\r.rt.size<=20000/\Below w.heap.size w w'
theorem Qin {ao:Option Addr} (c n:Nat) (hn:L.length=n) (hl:n<=20100) (hu:∀ u∈L,u.size<=20000) (hA:Qaw w ao L) :
  Calls prog 66 #[.slice ao n c] w (MoO w L):=by
 have HA:=Qaa hA;have HN:=Qaa hn;have HU:=Qaa hu;clear hA hn hu;go_enter func66,ntmps66;go_wp2
 go_loopw [5,6] (fun la i wr=>∃ (k a:Nat) (r:Pt) (ta:Option Addr) (tc:Nat),k<=n/\a<=3/\i=.int .i64 k/\la=.int .i64 a/\Hid (QaX 0 pt0 L=QaX a r (L.drop k))/\Hid (MS w wr r ta tc)/\Hid ((∀ u∈r.tg,u.size<=20000)/\r.tg.length<=20001/\r.rt.size<=20000)) (fun la i wr=>n - (Go.RowKit.intOf i).toNat)
 case atStart=>
  refine ⟨0,0,pt0,none,0,ZZj _,by omega,rfl,rfl,rfl,?_,⟨(fun u hu=>by cases hu),(by show 0<=20001;omega),(by show 0<=20000;omega)⟩⟩;have e1:=ZZk w (.cells #[.string ⟨#[]⟩,.bool false,.slice none 0 0,.bool false,.int .i64 0] 124);have e2:=ZZk (w.alloc (.cells #[.string ⟨#[]⟩,.bool false,.slice none 0 0,.bool false,.int .i64 0] 124)) (.cells #[.string ⟨#[]⟩,.bool false,.slice none 0 0,.bool false,.int .i64 0] 124);rw [World.size_alloc] at e2;exact ⟨by rw [Below.heap_alloc _ _ _ (by rw [World.size_alloc];omega)];exact e1,e2,(fun h=>absurd h (Nat.lt_irrefl 0)),(fun x e=>by cases e),((Below.refl _ _).alloc (Nat.le_refl _) _).alloc (by rw [World.size_alloc];omega) _⟩
 case round=>
  obtain ⟨k,a,r,ta,tc,hk,ha,rfl,rfl,HI,HT,HS⟩:=hrel;by_cases ax:k<n
  ·obtain ⟨b,aw,e,ad⟩:=QaB HA HT.out.bel (by have:=HN.out;omega)
   obtain ⟨y,hy⟩:∃ y,L[k]?=some y:=⟨L[k]'(by have:=HN.out;omega),ZZe _⟩;subst e;have aq:=ad k y hy;have HY:=Qaa (Qta hy);have av:=HU.out y (ZZn hy);clear ad hy;have ay:=get_bt y;have az:=Ql8 y;obtain ⟨r0,r1,r2,r3,r4⟩:=Qfc HT.out.res;obtain ⟨f0,f1,f2,f3,f4⟩:=QgU HT.out.res;obtain ⟨q0,q1,q2,q3,q4⟩:=Qfc HT.out.box;obtain ⟨g0,g1,g2,g3,g4⟩:=QgU HT.out.box;by_cases hm:QaY y<=a
   ·have HE:Hid (QaX 0 pt0 L=none):=(by rw [HI.out,HY.out,QlF hm]:QaX 0 pt0 L=none)
    by_cases h0:y.size=0
    ·have e:y=ByteArray.empty:=Qbf (List.eq_nil_of_length_eq_zero (by rw [Qap];exact h0))
     subst e;go_wp2;refine bodyPost_ret (v:=.tuple #[.agg #[.string r.rt,.bool r.rd,.slice ta r.tg.length tc,.bool r.td,.int .i64 r.ti],.bool false]) (by simp [results,results66,go_sem,r0,r1,r2,r3,r4]) rfl ?_;unfold MoO;exact ⟨r,ta,tc,by rw [HE.out];rfl,(fun r' h=>by rw [HE.out] at h;cases h),(HT.out.fin _ _ _ _ _).1,HS.out.1,HS.out.2.1,HS.out.2.2,(HT.out.fin _ _ _ _ _).2⟩
    ·have an:y.toList.isEmpty=false:=QhX (fun e=>h0 (by rw [e];rfl))
     have ai:(0:Int)<(y.size:Int):=by omega
     have aj:QaY y=0∨QaY y=1∨QaY y=2∨QaY y=3:=by omega
     rcases aj with h4 | h1 | h2 | h3
     ·obtain ⟨n1,n2,n3⟩:=Qux h4 h0
      go_wp2;refine bodyPost_ret (v:=.tuple #[.agg #[.string r.rt,.bool r.rd,.slice ta r.tg.length tc,.bool r.td,.int .i64 r.ti],.bool false]) (by simp [results,results66,go_sem,r0,r1,r2,r3,r4]) rfl ?_;unfold MoO;exact ⟨r,ta,tc,by rw [HE.out];rfl,(fun r' h=>by rw [HE.out] at h;cases h),(HT.out.fin _ _ _ _ _).1,HS.out.1,HS.out.2.1,HS.out.2.2,(HT.out.fin _ _ _ _ _).2⟩
     ·have ag:=(Qh8 h1 (by omega)).2.1 rfl
      have ae:¬ (a:Int)<1:=by omega
      go_wp2;refine bodyPost_ret (v:=.tuple #[.agg #[.string r.rt,.bool r.rd,.slice ta r.tg.length tc,.bool r.td,.int .i64 r.ti],.bool false]) (by simp [results,results66,go_sem,r0,r1,r2,r3,r4]) rfl ?_;unfold MoO;exact ⟨r,ta,tc,by rw [HE.out];rfl,(fun r' h=>by rw [HE.out] at h;cases h),(HT.out.fin _ _ _ _ _).1,HS.out.1,HS.out.2.1,HS.out.2.2,(HT.out.fin _ _ _ _ _).2⟩
     ·have ag:=(Qh8 h2 (by omega)).2.2.1 rfl
      have ae:¬ (a:Int)<2:=by omega
      go_wp2;refine bodyPost_ret (v:=.tuple #[.agg #[.string r.rt,.bool r.rd,.slice ta r.tg.length tc,.bool r.td,.int .i64 r.ti],.bool false]) (by simp [results,results66,go_sem,r0,r1,r2,r3,r4]) rfl ?_;unfold MoO;exact ⟨r,ta,tc,by rw [HE.out];rfl,(fun r' h=>by rw [HE.out] at h;cases h),(HT.out.fin _ _ _ _ _).1,HS.out.1,HS.out.2.1,HS.out.2.2,(HT.out.fin _ _ _ _ _).2⟩
     ·have ag:=(Qh8 h3 (by omega)).2.2.2 rfl
      have ae:¬ (a:Int)<3:=by omega
      go_wp2;refine bodyPost_ret (v:=.tuple #[.agg #[.string r.rt,.bool r.rd,.slice ta r.tg.length tc,.bool r.td,.int .i64 r.ti],.bool false]) (by simp [results,results66,go_sem,r0,r1,r2,r3,r4]) rfl ?_;unfold MoO;exact ⟨r,ta,tc,by rw [HE.out];rfl,(fun r' h=>by rw [HE.out] at h;cases h),(HT.out.fin _ _ _ _ _).1,HS.out.1,HS.out.2.1,HS.out.2.2,(HT.out.fin _ _ _ _ _).2⟩
   ·obtain ⟨ak,p1,p2,p3⟩:=Qh8 (y:=y) rfl (by omega)
    have an:y.toList.isEmpty=false:=QhX (fun e=>by rw [e] at ak;exact absurd ak (Nat.lt_irrefl 0));have ai:(0:Int)<(y.size:Int):=by omega
    have au:=Qp8 y;have aj:QaY y=1∨QaY y=2∨QaY y=3:=by omega
    rcases aj with h1 | h2 | h3
    ·have ag:=p1 h1
     have ae:(a:Int)<1:=by omega
     have HX:Hid (QaX 0 pt0 L=QaX 1 { r with rd:=true,rt:=tl1 y } (L.drop (k+1))):=(by rw [HI.out,HY.out,QcM hm (step1 h1) (fun e=>by omega),h1]:QaX 0 pt0 L=QaX 1 { r with rd:=true,rt:=tl1 y } (L.drop (k+1)));have aa:=Qaa (HT.out.set (r':={ r with rd:=true }) (tb:=ta) (td:=tc) (i:=1) (v:=.bool true) (ZZl wr (w.heap.size+1) 1 _ _ (.bool true) HT.out.box) HT.out.tags HT.out.tne);have ah:=Qaa (aa.out.set (r':={ r with rd:=true,rt:=tl1 y }) (tb:=ta) (td:=tc) (i:=0) (v:=.string (tl1 y)) (ZZl _ (w.heap.size+1) 0 _ _ (.string (tl1 y)) aa.out.box) aa.out.tags aa.out.tne);go_wp2;go_roundw
     case rel=>exact ⟨k+1,1,_,ta,tc,by omega,by omega,by go_num,rfl,HX,ah,HS.out.1,HS.out.2.1,(by show (tl1 y).size<=20000;omega)⟩
     case measure=>simp [zI];omega
    ·have ag:=p2 h2
     have ae:(a:Int)<2:=by omega
     have HZ:=Qaa (Qm8 (tl1 y));go_wp2_with fail;refine (Qdq (tl1 y) 44 (by omega) ⟨by omega,by omega⟩ _).mono ?_;rintro e w2 ⟨g,ab,rfl,hg,hS,al⟩;have af:=Qaa (HT.out.past al);have ar:=HT.out.lt;have am:Hid (Qaw w2 (some ⟨g,0,none⟩) (QaG (tl1 y) 44)):=(fun _=>⟨g,0,rfl,fun j u hj=>by rw [Nat.zero_add];exact hS j u hj⟩:Qaw w2 (some ⟨g,0,none⟩) (QaG (tl1 y) 44));have ac:=Qaa (af.out.set (r':={ r with tg:=QaG (tl1 y) 44 }) (tb:=some ⟨g,0,none⟩) (td:=ab) (i:=2) (v:=.slice (some ⟨g,0,none⟩) (QaG (tl1 y) 44).length ab) (ZZl w2 (w.heap.size+1) 2 _ _ (.slice (some ⟨g,0,none⟩) (QaG (tl1 y) 44).length ab) af.out.box) am (fun x e=>by cases e;show w.heap.size+1<g;omega));clear hS al r0 r1 r2 r3 r4 f0 f1 f2 f3 f4 q0 q1 q2 q3 q4 g0 g1 g2 g3 g4 aq;obtain ⟨q0,q1,q2,q3,q4⟩:=Qfc af.out.box;obtain ⟨g0,g1,g2,g3,g4⟩:=QgU af.out.box;go_wp2_with fail;generalize (w2.setCell ⟨w.heap.size+1,2,none⟩ (.slice (some ⟨g,0,none⟩) (QaG (tl1 y) 44).length ab))=w3 at ac ⊢;clear q0 q1 q2 q3 q4 g0 g1 g2 g3 g4 af am;refine (Qd0 ab _ rfl (by have:=HZ.out.2;show (QaG (tl1 y) 44).length<=1048576;omega) (fun u hu=>by have:=HZ.out.1 u hu;unfold maxLen;omega) ac.out.tags).mono ?_;rintro e w4 ⟨rfl,hw⟩;obtain rfl:=hw.symm;obtain ⟨r0,r1,r2,r3,r4⟩:=Qfc ac.out.res;obtain ⟨f0,f1,f2,f3,f4⟩:=QgU ac.out.res;obtain ⟨q0,q1,q2,q3,q4⟩:=Qfc ac.out.box
     cases hta:(QaG (tl1 y) 44).all QbG with
     | false=>
      have HE:Hid (QaX 0 pt0 L=none):=(by rw [HI.out,HY.out,QiE (step2 h2) h2 (by rw [hta];simp)]:QaX 0 pt0 L=none);go_wp2;refine bodyPost_ret (v:=.tuple #[.agg #[.string r.rt,.bool r.rd,.slice (some ⟨g,0,none⟩) (QaG (tl1 y) 44).length ab,.bool r.td,.int .i64 r.ti],.bool false]) (by simp [results,results66,go_sem,r0,r1,r2,r3,r4]) rfl ?_;unfold MoO;exact ⟨{ r with tg:=QaG (tl1 y) 44 },some ⟨g,0,none⟩,ab,by rw [HE.out];rfl,(fun r' h=>by rw [HE.out] at h;cases h),(ac.out.fin _ _ _ _ _).1,(fun u hu=>by have:=HZ.out.1 u hu;omega),(by have:=HZ.out.2;show (QaG (tl1 y) 44).length<=20001;omega),HS.out.2.2,(ac.out.fin _ _ _ _ _).2⟩
     | true=>
      have HX:Hid (QaX 0 pt0 L=QaX 2 { r with tg:=QaG (tl1 y) 44 } (L.drop (k+1))):=(by rw [HI.out,HY.out,QcM hm (step2 h2) (fun _=>hta),h2]:QaX 0 pt0 L=QaX 2 { r with tg:=QaG (tl1 y) 44 } (L.drop (k+1)));go_wp2;go_roundw
      case rel=>exact ⟨k+1,2,_,_,ab,by omega,by omega,by go_num,rfl,HX,ac,(fun u hu=>by have:=HZ.out.1 u hu;omega),(by have:=HZ.out.2;show (QaG (tl1 y) 44).length<=20001;omega),HS.out.2.2⟩
      case measure=>simp [zI];omega
    ·have ag:=p3 h3
     have ae:(a:Int)<3:=by omega
     go_wp2_with fail;refine (QpK (tl1 y) (by omega) _).mono ?_;rintro e w2 ⟨nn,rfl,ap,hw⟩;obtain rfl:=hw.symm
     cases ht:Qii (tl1 y) with
     | none=>
      have HE:Hid (QaX 0 pt0 L=none):=(by rw [HI.out,HY.out,Qja (by rw [Qtq h3,ht];rfl)]:QaX 0 pt0 L=none);go_wp2;refine bodyPost_ret (v:=.tuple #[.agg #[.string r.rt,.bool r.rd,.slice ta r.tg.length tc,.bool r.td,.int .i64 r.ti],.bool false]) (by simp [results,results66,go_sem,r0,r1,r2,r3,r4]) rfl ?_;unfold MoO;exact ⟨r,ta,tc,by rw [HE.out];rfl,(fun r' h=>by rw [HE.out] at h;cases h),(HT.out.fin _ _ _ _ _).1,HS.out.1,HS.out.2.1,HS.out.2.2,(HT.out.fin _ _ _ _ _).2⟩
     | some m=>
      obtain rfl:=ap m ht;have HX:Hid (QaX 0 pt0 L=QaX 3 { r with td:=true,ti:=m } (L.drop (k+1))):=(by rw [HI.out,HY.out,QcM hm (r':={ r with td:=true,ti:=m }) (by rw [Qtq h3,ht];rfl) (fun e=>by omega),h3]:QaX 0 pt0 L=QaX 3 { r with td:=true,ti:=m } (L.drop (k+1)));have aa:=Qaa (HT.out.set (r':={ r with td:=true }) (tb:=ta) (td:=tc) (i:=3) (v:=.bool true) (ZZl wr (w.heap.size+1) 3 _ _ (.bool true) HT.out.box) HT.out.tags HT.out.tne);have ah:=Qaa (aa.out.set (r':={ r with td:=true,ti:=m }) (tb:=ta) (td:=tc) (i:=4) (v:=.int .i64 m) (ZZl _ (w.heap.size+1) 4 _ _ (.int .i64 m) aa.out.box) aa.out.tags aa.out.tne);go_wp2;go_roundw
      case rel=>exact ⟨k+1,3,_,ta,tc,by omega,by omega,by go_num,rfl,HX,ah,HS⟩
      case measure=>simp [zI];omega
  ·have HE:Hid (QaX 0 pt0 L=some r):=(by rw [HI.out,List.drop_eq_nil_of_le (by have:=HN.out;omega)];unfold QaX;rfl:QaX 0 pt0 L=some r)
   obtain ⟨r0,r1,r2,r3,r4⟩:=Qfc HT.out.res;obtain ⟨f0,f1,f2,f3,f4⟩:=QgU HT.out.res;obtain ⟨q0,q1,q2,q3,q4⟩:=Qfc HT.out.box;obtain ⟨g0,g1,g2,g3,g4⟩:=QgU HT.out.box;go_wp2;refine bodyPost_ret (v:=.tuple #[.agg #[.string r.rt,.bool r.rd,.slice ta r.tg.length tc,.bool r.td,.int .i64 r.ti],.bool true]) (by simp [results,results66,go_sem,r0,r1,r2,r3,r4]) rfl ?_;unfold MoO;exact ⟨r,ta,tc,by rw [HE.out];rfl,(fun r' h=>by rw [HE.out] at h;cases h;rfl),(HT.out.fin _ _ _ _ _).1,HS.out.1,HS.out.2.1,HS.out.2.2,(HT.out.fin _ _ _ _ _).2⟩
end
variable {k:Int}
section
def SmB (w:World) (b:Nat) (k:Int) (se:ByteArray) (va:Int) (wd:ByteArray) (wt:Int) (td:Bool) (ti:Int):Prop:=w.heap[b]?=some (.cells #[.int .i64 k,.string se,.int .i64 va,.string wd,.int .u64 wt,.bool td,.int .i64 ti] 71 (0,0))
theorem Qoc (b:Nat) {se:ByteArray} {wt:Int} {td:Bool} {ti:Int} (t:ByteArray) (hz:t.size<=100000) (hB:SmB w b k se 0 ByteArray.empty wt td ti) :
  Calls prog 69 #[.pointer (some ⟨b,0,none⟩),.string t] w fun e w'=>∃ c,e=.returned (.int .i64 c)/\(c=0↔whB k t=true)/\(whB k t=true->SmB w' b k se (whV k t) (whW k t) wt td ti)/\(∀ x,x≠b->x<w.heap.size->w'.heap[x]?=w.heap[x]?)/\Below b w w':=by
 have hm:t.size<=maxLen:=by unfold maxLen;omega
 have hb:b<w.heap.size:=by
  rcases Nat.lt_or_ge b w.heap.size with h' | h'
  ·exact h'
  ·unfold SmB at hB;rw [Array.getElem?_eq_none h'] at hB;cases hB
 have HB:=Qaa hB;unfold SmB at hB;obtain ⟨q0,q1,q2,q3,q4,q5,q6⟩:=QiX hB;obtain ⟨g0,g1,g2,g3,g4,g5,g6⟩:=Qkl hB;by_cases h:k=4
 ·have H1:Hid (whV k t=0/\whW k t=t/\whB k t=QbG t):=(by unfold whV whW whB;rw [if_pos h,if_pos h,if_pos h];exact ⟨rfl,rfl,rfl⟩:whV k t=0/\whW k t=t/\whB k t=QbG t)
  have H2:=Qaa (ZZl w b 3 _ _ (.string t) hB);clear hB
  cases ht:QbG t with
  | false=>
   go_enter func69,ntmps69;go_wp2_with (go_at_call 116;refine (Qco _ _ hm).mono ?_;rw [ht];rintro e w1 ⟨rfl,hw⟩;obtain rfl:=hw.symm);go_ret;refine ⟨3,rfl,?_,?_,(fun x hx _=>Below.heap_setCell w ⟨b,3,none⟩ _ x hx),(ZZb b w).setCell (p:=⟨b,3,none⟩) (ZZa _) _⟩
   ·rw [H1.out.2.2,ht];simp
   ·rw [H1.out.2.2,ht];simp
  | true=>
   go_enter func69,ntmps69;go_wp2_with (go_at_call 116;refine (Qco _ _ hm).mono ?_;rw [ht];rintro e w1 ⟨rfl,hw⟩;obtain rfl:=hw.symm);go_ret;refine ⟨0,rfl,?_,?_,(fun x hx _=>Below.heap_setCell w ⟨b,3,none⟩ _ x hx),(ZZb b w).setCell (p:=⟨b,3,none⟩) (ZZa _) _⟩
   ·rw [H1.out.2.2,ht];simp
   ·intro _;rw [H1.out.1,H1.out.2.1];exact H2.out
 ·have H1:Hid (whV k t=rvV t/\whW k t=ByteArray.empty/\whB k t=decide (rvC t=0)):=(by unfold whV whW whB;rw [if_neg h,if_neg h,if_neg h];exact ⟨rfl,rfl,rfl⟩:whV k t=rvV t/\whW k t=ByteArray.empty/\whB k t=decide (rvC t=0))
  clear hB;go_enter func69,ntmps69;go_wp2_with fail;refine (Qd5 t hm w).mono ?_;rintro e w1 ⟨rfl,ae⟩;have aa:SmB w1 b k se 0 ByteArray.empty wt td ti:=by unfold SmB;rw [ae.block _ hb];exact HB.out
  have ac:=Qaa ae;clear q0 q1 q2 q3 q4 q5 q6 g0 g1 g2 g3 g4 g5 g6 ae;unfold SmB at aa;obtain ⟨q0,q1,q2,q3,q4,q5,q6⟩:=QiX aa;obtain ⟨g0,g1,g2,g3,g4,g5,g6⟩:=Qkl aa;have H2:=Qaa (ZZl w1 b 2 _ _ (.int .i64 (rvV t)) aa);have ab:b<w1.heap.size:=Nat.lt_of_lt_of_le hb ac.out.size;have ad:¬ b=w1.heap.size:=by omega
  have ag:¬ w1.heap.size=b:=by omega
  have ah:∀ o,(w1.alloc o).frozen? ⟨b,2,none⟩=false:=fun o=>frozen_of_row _ b 2 _ _ (by rw [Below.heap_alloc _ _ _ ab];exact aa);have ai:∀ o x,((w1.alloc o).setCell ⟨b,2,none⟩ x).cell? ⟨w1.heap.size,1,none⟩=(w1.alloc o).cell? ⟨w1.heap.size,1,none⟩:=fun o x=>World.cell?_setCell_far _ _ _ _ ad;clear aa;go_wp2;go_ret;have af:=((ZZb b w1).setCell (p:=⟨b,2,none⟩) (ZZa _) (.int .i64 (rvV t))).size;refine ⟨rvC t,rfl,?_,fun _=>?_,fun x hx hxl=>?_,((ac.out.mono (Nat.le_of_lt hb)).setCell (p:=⟨b,2,none⟩) (ZZa _) _).alloc (Nat.le_trans (Nat.le_of_lt ab) af) _⟩
  ·rw [H1.out.2.2];simp
  ·unfold SmB
   rw [Below.heap_alloc _ _ _ (by omega),H1.out.1,H1.out.2.1];exact H2.out
  ·rw [Below.heap_alloc _ _ _ (by have:=ac.out.size;omega),Below.heap_setCell _ _ _ _ (by show x≠b;exact hx),ac.out.block _ hxl]
theorem Qp0 (h:QaK nm=false):Qgx nm L=ByteArray.empty:=by unfold Qgx;rw [if_neg (by rw [h];simp)]
theorem Qq4 (h:¬ L.all QbG=true):Qgx nm L=ByteArray.empty:=by unfold Qgx;rw [if_neg (fun k=>h k.2)]
theorem QoO (h:QaK nm=true) (k:L.all QbG=true):Qgx nm L=Qdk nm L:=by unfold Qgx;rw [if_pos ⟨h,k⟩]
theorem LnR.bad (hf:Qo9 t=true) (h:∀ nm wh kd ps r,LP t nm wh kd ps->QgG 0 pt0 ps=some r->Qgx nm r.tg=ByteArray.empty):LnR t (Qc3 3):=Or.inr ⟨hf,Or.inr ⟨h,rfl⟩⟩
theorem LnR.good {r:Pt} (hf:Qo9 t=true) (h:LP t nm wh kd ps) (hm:QaX 0 pt0 ps=some r) (hn:QaK nm=true) (hs:Qdk nm r.tg≠ByteArray.empty):LnR t (QlQ nm wh kd r)/\Qgx nm r.tg=Qdk nm r.tg:=by
 rw [Qec ps 0 pt0 rfl] at hm
 cases hq:QgG 0 pt0 ps with
 | none=>rw [hq] at hm;cases hm
 | some r1=>
  rw [hq] at hm;have aa:QnD r1=some r:=hm;unfold QnD at aa
  split at aa
  ·cases aa
   rename_i ht;have e:=QoO hn ht;exact ⟨Or.inr ⟨hf,Or.inl ⟨nm,wh,kd,ps,r,h,hq,by rw [e];exact hs,rfl⟩⟩,e⟩
  ·cases aa
theorem Qji {r:Pt} (hm:QaX 0 pt0 ps=some r):QgG 0 pt0 ps=some r/\r.tg.all QbG=true:=by
 rw [Qec ps 0 pt0 rfl] at hm
 cases hq:QgG 0 pt0 ps with
 | none=>rw [hq] at hm;cases hm
 | some r1=>
  rw [hq] at hm;have aa:QnD r1=some r:=hm;unfold QnD at aa
  split at aa
  ·cases aa;rename_i ht;exact ⟨rfl,ht⟩
  ·cases aa
theorem LnR.bad2 (hf:Qo9 t=true) (h:LP t nm wh kd ps) (hm:QaX 0 pt0 ps=none):LnR t (Qc3 3):=LnR.bad hf (fun nm' wh' kd' ps' r' k1 k2=>by
 obtain ⟨rfl,rfl,rfl,rfl⟩:=h.one k1;refine Qq4 (fun hall=>?_);rw [Qec ps 0 pt0 rfl,k2] at hm;have hf1:QnD r'=none:=hm;unfold QnD at hf1;rw [if_pos hall] at hf1;cases hf1)
theorem LnR.bad3 {r:Pt} (hf:Qo9 t=true) (h:LP t nm wh kd ps) (hm:QaX 0 pt0 ps=some r) (hn:QaK nm=true) (hs:Qdk nm r.tg=ByteArray.empty):LnR t (Qc3 3):=LnR.bad hf (fun nm' wh' kd' ps' r' k1 k2=>by
 obtain ⟨rfl,rfl,rfl,rfl⟩:=h.one k1;obtain ⟨m1,m2⟩:=Qji hm;rw [m1] at k2;cases k2;rw [QoO hn m2];exact hs)
end
variable {rd:Bool}
section
theorem Qsn {b:UInt8} (h:∀ j,j<t.size->¬ bt t j=(b.toNat:Int)):b ∉ toL t:=fun hm=>by
 obtain ⟨j,hj,e⟩:=List.mem_iff_getElem.1 hm;refine h j (by rw [<- Qap];exact hj) ?_;rw [QfU hj,e]
theorem at_bt {k:Nat} (hk:k<t.size) (hb:bt t k=58) (h:∀ j,j<k->¬ bt t j=58):toL t=toL (t.extract 0 k) ++ 58 :: toL (t.extract (k+1) t.size)/\(58:UInt8) ∉ toL (t.extract 0 k):=by
 have hl:k<(toL t).length:=by rw [Qap];exact hk
 have aa:(toL t)[k]=58:=by
  rw [QfU hl] at hb;refine UInt8.toNat_inj.1 ?_;have:(58:UInt8).toNat=58:=rfl;omega
 constructor
 ·have e1:toL (t.extract 0 k)=(toL t).take k:=by rw [Qa7,List.drop_zero]
  have e2:toL (t.extract (k+1) t.size)=(toL t).drop (k+1):=by rw [Qa7,List.take_of_length_le (by rw [Qap];exact Nat.le_refl _)]
  rw [e1,e2,<- aa,<- List.drop_eq_getElem_cons hl];exact (List.take_append_drop k (toL t)).symm
 ·refine Qsn (fun j hj=>?_)
  rw [ByteArray.size_extract] at hj;rw [QgV t 0 k j (by omega) (by omega),Nat.zero_add];exact h j (by omega)
theorem Qa3 (c:Int) (w:World) :
  Calls prog 65 #[.int .i64 c] w fun e w'=>e=.returned (.agg (lnZ c))/\Below w.heap.size w w':=QrB c w
theorem row7 {r:Nat} (v0 v1 v2 v3 v4 v5 v6:Value) (h:w.heap[r]?=some (.cells #[u0,u1,u2,u3,u4,u5,u6] T (0,0))) :
  (((((((w.setCell ⟨r,0,none⟩ v0).setCell ⟨r,1,none⟩ v1).setCell ⟨r,2,none⟩ v2).setCell ⟨r,3,none⟩ v3).setCell ⟨r,4,none⟩ v4).setCell ⟨r,5,none⟩ v5).setCell ⟨r,6,none⟩ v6).heap[r]?=some (.cells #[v0,v1,v2,v3,v4,v5,v6] T (0,0)):=by
 have h0:(w.setCell ⟨r,0,none⟩ v0).heap[r]?=some (.cells #[v0,u1,u2,u3,u4,u5,u6] T (0,0)):=ZZl _ r 0 _ _ v0 h;have h1:((w.setCell ⟨r,0,none⟩ v0).setCell ⟨r,1,none⟩ v1).heap[r]?=some (.cells #[v0,v1,u2,u3,u4,u5,u6] T (0,0)):=ZZl _ r 1 _ _ v1 h0;have h2:=ZZl _ r 2 _ _ v2 h1;have h3:=ZZl _ r 3 _ _ v3 h2;have h4:=ZZl _ r 4 _ _ v4 h3;have h5:=ZZl _ r 5 _ _ v5 h4;exact ZZl _ r 6 _ _ v6 h5
theorem emptyL:ByteArray.empty.toList.isEmpty=true:=by rw [ByteArray.toList_eq];rfl
theorem ans_k {r:Pt} (h:Qa5 kd=0):QlQ nm wh kd r=Qc3 9:=by unfold QlQ;rw [if_pos h]
theorem ans_w {r:Pt} (h:¬ Qa5 kd=0) (h1:whB (Qa5 kd) wh=false):QlQ nm wh kd r=Qc3 3:=by unfold QlQ;rw [if_neg h,if_pos h1]
theorem ans_r {r:Pt} (h:¬ Qa5 kd=0) (h1:whB (Qa5 kd) wh=true) (h2:wtB (Qa5 kd) r.rd r.rt=false):QlQ nm wh kd r=Qc3 10:=by unfold QlQ;rw [if_neg h,if_neg (by rw [h1];simp),if_pos h2]
theorem QsH {r:Pt} (h:¬ Qa5 kd=0) (h1:whB (Qa5 kd) wh=true) (h2:wtB (Qa5 kd) r.rd r.rt=true):QlQ nm wh kd r=⟨Qa5 kd,Qgx nm r.tg,whV (Qa5 kd) wh,whW (Qa5 kd) wh,wtV (Qa5 kd) r.rd r.rt,r.td,r.ti,0⟩:=by unfold QlQ;rw [if_neg h,if_neg (by rw [h1];simp),if_neg (by rw [h2];simp)]
theorem Qop (t:ByteArray):0<=Qa5 t/\Qa5 t<=4:=by unfold Qa5;split <;> (try split) <;> (try split) <;> (try split) <;> omega
theorem wt_no {r:ByteArray} (h:rd=true) (h2:¬ raP k r):wtB k rd r=false:=by unfold wtB;rw [if_pos h,if_neg h2]
theorem wt_yes {r:ByteArray} (h:rd=true) (h2:raP k r):wtB k rd r=true/\wtV k rd r=1000000 / rvV r:=by unfold wtB wtV;rw [if_pos h,if_pos h2,if_pos h,if_pos h2];exact ⟨rfl,rfl⟩
theorem Qm6 {r:ByteArray} (h:rd=false):wtB k rd r=true/\wtV k rd r=1:=by unfold wtB wtV;rw [if_neg (by rw [h];simp),if_neg (by rw [h];simp)];exact ⟨rfl,rfl⟩
def RS (w W:World):Prop:=W.heap[w.heap.size]?=some (.cells (lnZ 0) 73 (0,0))/\Below w.heap.size w W
theorem RS.lt (h:RS w W):w.heap.size<W.heap.size:=by
 rcases Nat.lt_or_ge w.heap.size W.heap.size with h' | h'
 ·exact h'
 ·have:=h.1;rw [Array.getElem?_eq_none h'] at this;cases this
theorem RS.past {W':World} (h:RS w W) (hb:Below W.heap.size W W'):RS w W':=⟨by rw [hb.block _ h.lt];exact h.1,Qac h.2 hb⟩
theorem Qt4 {k:Nat} (h:∀ j,j<k->¬ bt t j=58) (hb:¬ bt t k=58):∀ j,j<k+1->¬ bt t j=58:=fun j hj=>by
 by_cases e:j=k
 ·rw [e];exact hb
 ·exact h j (by omega)
theorem two_of (h:2<=L.length):∃ a b l,L=a :: b :: l:=by
 match L,h with
 | a :: b :: l,_=>exact ⟨a,b,l,rfl⟩
theorem LP.len {R:ByteArray} (ht:toL t=toL nm' ++ 58 :: toL R) (hp:(58:UInt8) ∉ toL nm') (h:LP t nm wh kd ps):nm=nm'/\QaG R 124=wh :: kd :: ps:=by
 obtain ⟨R',h1,h2,h3⟩:=h;obtain ⟨e1,e2⟩:=Qjt (ht.symm.trans h1) hp h2;have e3:=Qbf e2;subst e3;exact ⟨(Qbf e1).symm,h3⟩
theorem QeZ (t:ByteArray) (hz:t.size<=maxLen) :
  Calls prog 23 #[.string t] w fun e w'=>∃ s,e=.returned (Qvb s)/\LnR t s/\Below w.heap.size w w':=by
 have b0:=get_bt t;have cc:t.size<=9223372036854775807:=hz;have ae:Hid (RS w (w.alloc (.cells (lnZ 0) 73))):=(⟨ZZk w _,(ZZb _ _).alloc (ZZa _) _⟩:RS w _)
 cases hf:Qo9 t with
 | false=>
  have bH:(20000:Int)<(t.size:Int):=by have:¬ t.size<=20000:=of_decide_eq_false hf;omega
  have HR:Hid (LnR t (Qc3 2)):=(Or.inl ⟨hf,rfl⟩:LnR t (Qc3 2));go_enter func23,ntmps23;go_wp2_with fail;refine (Qa3 2 _).mono ?_;rintro e wz ⟨rfl,ac⟩;have aa:=Qaa (ae.out.past ac);clear ac;obtain ⟨r0,r1,r2,r3,r4,r5,r6,r7⟩:=QdG aa.out.1;obtain ⟨f0,f1,f2,f3,f4,f5,f6,f7⟩:=QdU aa.out.1;go_wp2;refine bodyPost_ret (v:=.agg (lnZ 2)) (by simp [results,results23,go_sem,r0,r1,r2,r3,r4,r5,r6,r7]) rfl ?_;exact ⟨Qc3 2,rfl,HR,Qki aa.out.2 (ZZa _) _ _ _ _ _ _ _ _⟩
 | true=>
  have bH:t.size<=20000:=of_decide_eq_true hf;have bm:¬ (20000:Int)<(t.size:Int):=by omega
  go_enter func23,ntmps23;go_wp2_with fail;generalize (w.alloc (.cells (lnZ 0) 73))=W0 at ae ⊢
  go_loopw [3] (fun kv wr=>wr=W0/\∃ k:Nat,k<=t.size/\kv=.int .i64 k/\Hid (∀ j,j<k->¬ bt t j=58)) (fun kv wr=>t.size - (Go.RowKit.intOf kv).toNat)
  case atStart=>exact ⟨rfl,0,ZZj _,rfl,fun j hj=>absurd hj (by omega)⟩
  case round=>
   obtain ⟨rfl,k,hk,rfl,HI⟩:=hrel;by_cases bv:k<t.size
   ·have b3:(k:Int)<(t.size:Int):=by omega
    by_cases aF:bt t k=58
    ·obtain ⟨bd,bj⟩:=at_bt bv aF HI
     have bC:¬ (k:Int)=(t.size:Int):=by omega
     have ay:=Qaa bd;have aI:=Qaa bj;clear bd bj HI;have bJ:(t.extract 0 k).size<=20000:=by rw [ByteArray.size_extract];omega
     have bG:(t.extract (k+1) t.size).size<=20000:=by rw [ByteArray.size_extract];omega
     go_wp2_with fail;generalize hNm:t.extract 0 k=nm at ay aI bJ ⊢;refine (QaL nm _ (by unfold maxLen;omega)).mono ?_;rintro e w1 ⟨rfl,hw⟩;obtain rfl:=hw.symm
     cases hnb:QaK nm with
     | false=>
      have HR:Hid (LnR t (Qc3 3)):=LnR.bad hf (fun nm' wh kd ps r k1 _=>by obtain ⟨rfl,_⟩:=LP.len ay aI k1;exact Qp0 hnb);go_wp2_with fail;refine (Qa3 3 _).mono ?_;rintro e wz ⟨rfl,ac⟩;have aa:=Qaa (ae.out.past ac);clear ac;obtain ⟨r0,r1,r2,r3,r4,r5,r6,r7⟩:=QdG aa.out.1;obtain ⟨f0,f1,f2,f3,f4,f5,f6,f7⟩:=QdU aa.out.1;go_wp2;refine bodyPost_ret (v:=.agg (lnZ 3)) (by simp [results,results23,go_sem,r0,r1,r2,r3,r4,r5,r6,r7]) rfl ?_;exact ⟨Qc3 3,rfl,HR,Qki aa.out.2 (ZZa _) _ _ _ _ _ _ _ _⟩
     | true=>
      go_wp2_with fail;generalize t.extract (k+1) t.size=R at ay bG ⊢;refine (Qf1 R 124 (by omega) ⟨by omega,by omega⟩ _).mono ?_;rintro e w2 ⟨g,a7,rfl,hg,bu,hS,a5⟩;have aZ:=Qaa (ae.out.past a5);have az:Hid ((∀ u∈QaG R 124,u.size<=R.size)/\(QaG R 124).length<=R.size+1):=QmM R 124;have aL:=Qaa hS;clear a5 ae hS;generalize hll:(QaG R 124).length=ln at az aL bu;have aW:=Qaa hll;clear hll;by_cases bE:ln<2
      ·have bL:(ln:Int)<2:=by omega
       have HR:Hid (LnR t (Qc3 3)):=LnR.bad hf (fun nm' wh kd ps r k1 _=>by obtain ⟨_,e⟩:=LP.len ay aI k1;have e2:=aW.out;rw [e] at e2;simp at e2;omega);go_wp2_with fail;refine (Qa3 3 _).mono ?_;rintro e wz ⟨rfl,ac⟩;have aa:=Qaa (aZ.out.past ac);clear ac;obtain ⟨r0,r1,r2,r3,r4,r5,r6,r7⟩:=QdG aa.out.1;obtain ⟨f0,f1,f2,f3,f4,f5,f6,f7⟩:=QdU aa.out.1;go_wp2;refine bodyPost_ret (v:=.agg (lnZ 3)) (by simp [results,results23,go_sem,r0,r1,r2,r3,r4,r5,r6,r7]) rfl ?_;exact ⟨Qc3 3,rfl,HR,Qki aa.out.2 (ZZa _) _ _ _ _ _ _ _ _⟩
      ·have bL:¬ (ln:Int)<2:=by omega
       obtain ⟨wh,kd,ps,al⟩:=two_of (L:=QaG R 124) (by have:=aW.out;omega);have hP:LP t nm wh kd ps:=⟨R,ay,aI,al⟩;have aQ:ps.length=ln - 2:=by have:=aW.out;rw [al] at this;simp at this;omega
       have bh:∀ u∈ps,u.size<=20000:=fun u hu=>by have:=az.out.1 u (by rw [al];exact List.mem_cons_of_mem _ (List.mem_cons_of_mem _ hu));omega
       have bW:wh.size<=20000:=by have:=az.out.1 wh (by rw [al];exact List.mem_cons_self);omega
       have bp:kd.size<=20000:=by have:=az.out.1 kd (by rw [al];exact List.mem_cons_of_mem _ List.mem_cons_self);omega
       have ca:ln<=20001:=by have:=az.out.2;omega
       have ao:=aL.out 0 wh (by rw [al];rfl);have a8:=aL.out 1 kd (by rw [al];rfl);go_upto_region 11 with fail
       go_cut [5,6] (fun v5 v6 w'=>∃ (b5:Nat) (r:Pt) (ta:Option Addr) (tc:Nat),v5=.pointer (some ⟨b5,0,none⟩)/\v6=.bool (QaX 0 pt0 ps).isSome/\(∀ r',QaX 0 pt0 ps=some r'->r'=r)/\Qaw w' ta r.tg/\r.tg.length<=20001/\r.rt.size<=20000/\w'.heap[b5]?=some (.cells #[.string r.rt,.bool r.rd,.slice ta r.tg.length tc,.bool r.td,.int .i64 r.ti] 124 (0,0))/\Below w2.heap.size w2 w')
       case first=>
        by_cases bF:a7=2
        ·have a4:ln=2:=by omega
         subst bF;subst a4;have bq:=Qaa (List.eq_nil_of_length_eq_zero aQ);go_wp2_with fail;refine (Qin _ _ aQ (by omega) bh (fun h=>by rw [bq.out] at h;exact absurd h (Nat.lt_irrefl 0))).mono ?_;intro e w3 aG;unfold MoO at aG;obtain ⟨r,ta,tc,rfl,ar,hT,aO,ai,am,aB⟩:=aG;have HF:=Qaa (And.intro ar (And.intro hT (And.intro ai (And.intro am aB))));clear ar hT aO ai am aB;go_wp2_with fail;go_meet;exact ⟨w3.heap.size,r,ta,tc,rfl,rfl,HF.out.1,QaB HF.out.2.1 ((ZZb _ _).alloc (ZZa _) _),HF.out.2.2.1,HF.out.2.2.2.1,ZZk w3 _,HF.out.2.2.2.2.alloc HF.out.2.2.2.2.size _⟩
        ·have bl:Hid (Qaw w2 (some ⟨g,2,none⟩) ps):=(fun _=>⟨g,2,rfl,fun j u hj=>by have:=aL.out (j+2) u (by rw [al];exact hj);rwa [Nat.add_comm] at this⟩:Qaw w2 (some ⟨g,2,none⟩) ps)
         go_wp2_with fail;refine (Qin _ _ aQ (by omega) bh bl).mono ?_;intro e w3 aG;unfold MoO at aG;obtain ⟨r,ta,tc,rfl,ar,hT,aO,ai,am,aB⟩:=aG;have HF:=Qaa (And.intro ar (And.intro hT (And.intro ai (And.intro am aB))));clear ar hT aO ai am aB;go_wp2_with fail;go_meet;exact ⟨w3.heap.size,r,ta,tc,rfl,rfl,HF.out.1,QaB HF.out.2.1 ((ZZb _ _).alloc (ZZa _) _),HF.out.2.2.1,HF.out.2.2.2.1,ZZk w3 _,HF.out.2.2.2.2.alloc HF.out.2.2.2.2.size _⟩
       case rest=>
        obtain ⟨b5,r,ta,tc,rfl,rfl,ar,hT,ai,am,aH,aP⟩:=hcut;obtain ⟨W5,rfl⟩:∃ W,W=wc:=⟨_,rfl⟩;have aN:=Qaa (aZ.out.past aP);have aX:=Qaa hT;have a2:=Qab aP ao;have bf:=Qab aP a8;have bx:b5<W5.heap.size:=(ZZc.1 aH).1;have HQ:=Qaa (And.intro ai (And.intro ai am));clear aP hT ao a8 ai am aZ
        cases hmo:QaX 0 pt0 ps with
        | none=>
         have HR:Hid (LnR t (Qc3 3)):=LnR.bad2 hf hP hmo;clear aH;go_wp2_with fail;refine (Qa3 3 _).mono ?_;rintro e wz ⟨rfl,ac⟩;have aa:=Qaa (aN.out.past ac);clear ac;obtain ⟨r0,r1,r2,r3,r4,r5,r6,r7⟩:=QdG aa.out.1;obtain ⟨f0,f1,f2,f3,f4,f5,f6,f7⟩:=QdU aa.out.1;go_wp2;refine bodyPost_ret (v:=.agg (lnZ 3)) (by simp [results,results23,go_sem,r0,r1,r2,r3,r4,r5,r6,r7]) rfl ?_;exact ⟨Qc3 3,rfl,HR,Qki aa.out.2 (ZZa _) _ _ _ _ _ _ _ _⟩
        | some r'=>
         obtain rfl:=ar r' hmo;go_upto_region 14 with fail;have aU:=(Qji hmo).2;have cb:=Qeu hnb;have a3:=Qaa (Qhz aU);have ad:=Qaa (And.intro hP (And.intro hmo hnb));obtain ⟨y0,y1,y2,y3,y4⟩:=Qfc aH;have bY:(1:Int)<(ln:Int):=by omega
         have bO:1<ln:=by omega
         have bZ:(0:Int)<(ln:Int):=by omega
         have bp:(k:Int)<=(t.size:Int):=by omega
         have bN:k<=t.size:=by omega
         clear aH;have b4:g<W5.heap.size:=World.block_lt_of_cell? _ _ a2;generalize hN5:r'.tg.length=n5 at y2 ⊢;have aV:=Qaa hN5;have bS:n5<=20001:=by rw [<- hN5];exact HQ.out.2.1
         clear hN5;have ag:Hid (∀ W,Below W5.heap.size W5 W->W.cell? ⟨g,1,none⟩=some (.string kd)/\W.cell? ⟨b5,0,none⟩=some (.string r'.rt)/\W.cell? ⟨b5,1,none⟩=some (.bool r'.rd)/\W.cell? ⟨b5,2,none⟩=some (.slice ta n5 tc)/\W.cell? ⟨b5,3,none⟩=some (.bool r'.td)/\W.cell? ⟨b5,4,none⟩=some (.int .i64 r'.ti)):=fun W hW=>⟨Qab hW bf,Qab hW y0,Qab hW y1,Qab hW y2,Qab hW y3,Qab hW y4⟩
         go_cut [7] (fun v w'=>∃ g5:Nat,v=.pointer (some ⟨g5,0,none⟩)/\SmB w' g5 (Qa5 kd) (Qdk nm r'.tg) 0 ByteArray.empty 1 r'.td r'.ti/\W5.heap.size<=g5/\Below W5.heap.size W5 w')
         case first=>
          have ae:(fun W=>Below W5.heap.size W5 W) W5.drew:=(ZZb _ _).drew;refine Qao (fun W=>Below W5.heap.size W5 W) 17 (by kernel_rfl) ?_;refine tkL 0 (.slice (some ⟨g,0,none⟩) ln a7) ae (fun W hW=>?_) ?_
          ·obtain ⟨z0,z1,z2,z3,z4,z5⟩:=ag.out W hW
           go_simp
          refine tkL 1 (.pointer (some ⟨g,1,none⟩)) ae (fun W hW=>?_) ?_
          ·obtain ⟨z0,z1,z2,z3,z4,z5⟩:=ag.out W hW
           go_simp
          refine tkL 2 (.string kd) ae (fun W hW=>?_) ?_
          ·obtain ⟨z0,z1,z2,z3,z4,z5⟩:=ag.out W hW
           go_simp
          simp only [sX];refine tkL 4 (.string t) ae (fun W hW=>?_) ?_
          ·obtain ⟨z0,z1,z2,z3,z4,z5⟩:=ag.out W hW
           go_simp
          refine tkL 5 (.int .i64 k) ae (fun W hW=>?_) ?_
          ·obtain ⟨z0,z1,z2,z3,z4,z5⟩:=ag.out W hW
           go_simp
          refine tkL 6 (.string nm) ae (fun W hW=>?_) ?_
          ·obtain ⟨z0,z1,z2,z3,z4,z5⟩:=ag.out W hW
           go_simp
          simp only [sX];refine tkL 7 (.pointer (some ⟨b5,2,none⟩)) ae (fun W hW=>?_) ?_
          ·obtain ⟨z0,z1,z2,z3,z4,z5⟩:=ag.out W hW
           go_simp
          refine tkL 8 (.slice ta n5 tc) ae (fun W hW=>?_) ?_
          ·obtain ⟨z0,z1,z2,z3,z4,z5⟩:=ag.out W hW
           go_simp
          refine tkL 10 (.pointer (some ⟨b5,3,none⟩)) ae (fun W hW=>?_) ?_
          ·obtain ⟨z0,z1,z2,z3,z4,z5⟩:=ag.out W hW
           go_simp
          simp only [sX];refine tkL 11 (.bool r'.td) ae (fun W hW=>?_) ?_
          ·obtain ⟨z0,z1,z2,z3,z4,z5⟩:=ag.out W hW
           go_simp
          refine tkL 12 (.pointer (some ⟨b5,4,none⟩)) ae (fun W hW=>?_) ?_
          ·obtain ⟨z0,z1,z2,z3,z4,z5⟩:=ag.out W hW
           go_simp
          refine tkL 13 (.int .i64 r'.ti) ae (fun W hW=>?_) ?_
          ·obtain ⟨z0,z1,z2,z3,z4,z5⟩:=ag.out W hW
           go_simp
          simp only [sX];refine QjV (i:=3) (j:=15) (by kernel_rfl) rfl rfl (fun K hK=>?_) (fun K hK=>?_)
          ·go_simp
           refine (Qis kd _).mono ?_;rintro e Wk ⟨rfl,a0⟩;subst a0;dsimp only;refine gK hK ae ?_
           try simp only [sX]
           refine QjV (i:=9) (j:=15) (by kernel_rfl) rfl rfl (fun K hK=>?_) (fun K hK=>?_)
           ·go_simp
            refine (QbA nm _ _ (by omega) aV (by omega) a3 (QaB aX (ae:Below W5.heap.size W5 _))).mono ?_;rintro e W6 ⟨rfl,hb⟩;dsimp only;have ab:=Qaa ((ae:Below W5.heap.size W5 _).trans (hb.mono (ae:Below W5.heap.size W5 _).size));have aj:=Qaa hb;clear hb;refine gK hK ab.out ?_
            try simp only [sX]
            refine tkL 14 (.agg #[.int .i64 (Qa5 kd),.string (Qdk nm r'.tg),.int .i64 0,.string ⟨#[]⟩,.int .u64 1,.bool r'.td,.int .i64 r'.ti]) ab (fun W hW=>?_) ?_
            ·obtain ⟨z0,z1,z2,z3,z4,z5⟩:=ag.out W hW
             go_simp
            simp only [sX];refine onE 15 fun K hK=>?_;go_simp;have af:=Qaa (Below.alloc (ab.out:Below W5.heap.size W5 W6) (ab.out:Below W5.heap.size W5 W6).size (.cells #[.int .i64 0,.string ⟨#[]⟩,.int .i64 0,.string ⟨#[]⟩,.int .u64 0,.bool false,.int .i64 0] 71));refine gK hK af.out ?_
            try simp only [sX]
            have R5:=ZZk W6 (.cells #[.int .i64 0,.string ⟨#[]⟩,.int .i64 0,.string ⟨#[]⟩,.int .u64 0,.bool false,.int .i64 0] 71);obtain ⟨q0,q1,q2,q3,q4,q5,q6⟩:=QiX R5;obtain ⟨f0,f1,f2,f3,f4,f5,f6⟩:=Qkl R5;refine onE 16 fun K hK=>?_;go_simp;refine hK.out _ _ (fun _=>Below.alloc ab ab.out.size _) ?_
            try simp only [sX]
            refine dnE ?_ _;go_wp2;go_meet;exact ⟨W6.heap.size,rfl,ZZk W6 _,ab.out.size,Below.alloc ab ab.out.size _⟩
           ·go_simp
            have af:=Qaa (Below.alloc (ae:Below W5.heap.size W5 W5.drew) (ae:Below W5.heap.size W5 W5.drew).size (.cells #[.int .i64 0,.string ⟨#[]⟩,.int .i64 0,.string ⟨#[]⟩,.int .u64 0,.bool false,.int .i64 0] 71));refine gK hK af.out ?_
            try simp only [sX]
            refine onE 9 fun K hK=>?_;go_simp;refine (QbA nm _ _ (by omega) aV (by omega) a3 (QaB aX (af.out:Below W5.heap.size W5 _))).mono ?_;rintro e W6 ⟨rfl,hb⟩;dsimp only;have ab:=Qaa ((af.out:Below W5.heap.size W5 _).trans (hb.mono (af.out:Below W5.heap.size W5 _).size));have aj:=Qaa hb;clear hb;refine gK hK ab.out ?_
            try simp only [sX]
            have R5:W6.heap[W5.heap.size]?=some (.cells #[.int .i64 0,.string ⟨#[]⟩,.int .i64 0,.string ⟨#[]⟩,.int .u64 0,.bool false,.int .i64 0] 71 (0,0)):=by rw [aj.out.block _ (by simp)];exact ZZk W5.drew _
            obtain ⟨q0,q1,q2,q3,q4,q5,q6⟩:=QiX R5;obtain ⟨f0,f1,f2,f3,f4,f5,f6⟩:=Qkl R5;refine onE 14 fun K hK=>?_;go_simp;refine gK hK ab.out ?_
            try simp only [sX]
            refine onE 16 fun K hK=>?_;go_simp;refine hK.out _ _ (fun _=>(((((((ab.out.setCell (p:=⟨W5.heap.size,0,none⟩) (ZZa _) _).setCell (p:=⟨W5.heap.size,1,none⟩) (ZZa _) _).setCell (p:=⟨W5.heap.size,2,none⟩) (ZZa _) _).setCell (p:=⟨W5.heap.size,3,none⟩) (ZZa _) _).setCell (p:=⟨W5.heap.size,4,none⟩) (ZZa _) _).setCell (p:=⟨W5.heap.size,5,none⟩) (ZZa _) _).setCell (p:=⟨W5.heap.size,6,none⟩) (ZZa _) _)) ?_
            try simp only [sX]
            refine dnE ?_ _;go_wp2;go_meet;exact ⟨W5.heap.size,rfl,row7 _ _ _ _ _ _ _ R5,ZZa _,(((((((ab.out.setCell (p:=⟨W5.heap.size,0,none⟩) (ZZa _) _).setCell (p:=⟨W5.heap.size,1,none⟩) (ZZa _) _).setCell (p:=⟨W5.heap.size,2,none⟩) (ZZa _) _).setCell (p:=⟨W5.heap.size,3,none⟩) (ZZa _) _).setCell (p:=⟨W5.heap.size,4,none⟩) (ZZa _) _).setCell (p:=⟨W5.heap.size,5,none⟩) (ZZa _) _).setCell (p:=⟨W5.heap.size,6,none⟩) (ZZa _) _)⟩
          ·go_simp
           have af:=Qaa (Below.alloc (ae:Below W5.heap.size W5 W5.drew) (ae:Below W5.heap.size W5 W5.drew).size (.cells #[.int .i64 0,.string ⟨#[]⟩,.int .i64 0,.string ⟨#[]⟩,.int .u64 0,.bool false,.int .i64 0] 71));refine gK hK af.out ?_
           try simp only [sX]
           refine onE 3 fun K hK=>?_;go_simp;refine (Qis kd _).mono ?_;rintro e Wk ⟨rfl,a0⟩;subst a0;dsimp only;refine gK hK af.out ?_
           try simp only [sX]
           refine onE 9 fun K hK=>?_;go_simp;refine (QbA nm _ _ (by omega) aV (by omega) a3 (QaB aX (af.out:Below W5.heap.size W5 _))).mono ?_;rintro e W6 ⟨rfl,hb⟩;dsimp only;have ab:=Qaa ((af.out:Below W5.heap.size W5 _).trans (hb.mono (af.out:Below W5.heap.size W5 _).size));have aj:=Qaa hb;clear hb;refine gK hK ab.out ?_
           try simp only [sX]
           have R5:W6.heap[W5.heap.size]?=some (.cells #[.int .i64 0,.string ⟨#[]⟩,.int .i64 0,.string ⟨#[]⟩,.int .u64 0,.bool false,.int .i64 0] 71 (0,0)):=by rw [aj.out.block _ (by simp)];exact ZZk W5.drew _
           obtain ⟨q0,q1,q2,q3,q4,q5,q6⟩:=QiX R5;obtain ⟨f0,f1,f2,f3,f4,f5,f6⟩:=Qkl R5;refine onE 14 fun K hK=>?_;go_simp;refine gK hK ab.out ?_
           try simp only [sX]
           refine onE 16 fun K hK=>?_;go_simp;refine hK.out _ _ (fun _=>(((((((ab.out.setCell (p:=⟨W5.heap.size,0,none⟩) (ZZa _) _).setCell (p:=⟨W5.heap.size,1,none⟩) (ZZa _) _).setCell (p:=⟨W5.heap.size,2,none⟩) (ZZa _) _).setCell (p:=⟨W5.heap.size,3,none⟩) (ZZa _) _).setCell (p:=⟨W5.heap.size,4,none⟩) (ZZa _) _).setCell (p:=⟨W5.heap.size,5,none⟩) (ZZa _) _).setCell (p:=⟨W5.heap.size,6,none⟩) (ZZa _) _)) ?_
           try simp only [sX]
           refine dnE ?_ _;go_wp2;go_meet;exact ⟨W5.heap.size,rfl,row7 _ _ _ _ _ _ _ R5,ZZa _,(((((((ab.out.setCell (p:=⟨W5.heap.size,0,none⟩) (ZZa _) _).setCell (p:=⟨W5.heap.size,1,none⟩) (ZZa _) _).setCell (p:=⟨W5.heap.size,2,none⟩) (ZZa _) _).setCell (p:=⟨W5.heap.size,3,none⟩) (ZZa _) _).setCell (p:=⟨W5.heap.size,4,none⟩) (ZZa _) _).setCell (p:=⟨W5.heap.size,5,none⟩) (ZZa _) _).setCell (p:=⟨W5.heap.size,6,none⟩) (ZZa _) _)⟩
         case rest=>
          obtain ⟨g5,rfl,aK,bA,hB⟩:=hcut;have au:=Qaa (aN.out.past hB);obtain ⟨_,x0,x1,_,_,_⟩:=ag.out _ hB;have br:=Qab hB a2;have a9:b5<g5:=by omega
          have bX:g<g5:=by omega
          have bb:w.heap.size<g5:=Nat.lt_of_lt_of_le aN.out.lt bA;have bo:=Qaa aK;unfold SmB at aK;obtain ⟨s0,s1,s2,s3,s4,s5,s6⟩:=QiX aK;clear aK hB y0 y1 y2 y3 y4 a2 bf aN;by_cases aw:Qdk nm r'.tg=ByteArray.empty
          ·have bs:(Qdk nm r'.tg).toList.isEmpty=true:=by rw [aw];exact emptyL
           have HR:Hid (LnR t (Qc3 3)):=LnR.bad3 hf ad.out.1 ad.out.2.1 ad.out.2.2 aw;clear aw;go_wp2_with fail;refine (Qa3 3 _).mono ?_;rintro e wz ⟨rfl,ac⟩;have aa:=Qaa (au.out.past ac);clear ac;obtain ⟨r0,r1,r2,r3,r4,r5,r6,r7⟩:=QdG aa.out.1;obtain ⟨f0,f1,f2,f3,f4,f5,f6,f7⟩:=QdU aa.out.1;go_wp2;refine bodyPost_ret (v:=.agg (lnZ 3)) (by simp [results,results23,go_sem,r0,r1,r2,r3,r4,r5,r6,r7]) rfl ?_;exact ⟨Qc3 3,rfl,HR,Qki aa.out.2 (ZZa _) _ _ _ _ _ _ _ _⟩
          ·have bs:(Qdk nm r'.tg).toList.isEmpty=false:=QhX aw
           obtain ⟨ak,bg⟩:=LnR.good hf ad.out.1 ad.out.2.1 ad.out.2.2 aw;have HG:=Qaa (And.intro ak bg);clear ak bg aw;by_cases av:Qa5 kd=0
           ·have bP:(Qa5 kd == 0)=true:=by simp [av]
            have HR:Hid (LnR t (Qc3 9)):=by rw [<- ans_k (nm:=nm) (wh:=wh) (r:=r') av];exact HG.out.1
            clear av;go_wp2_with fail;refine (Qa3 9 _).mono ?_;rintro e wz ⟨rfl,ac⟩;have aa:=Qaa (au.out.past ac);clear ac;obtain ⟨r0,r1,r2,r3,r4,r5,r6,r7⟩:=QdG aa.out.1;obtain ⟨f0,f1,f2,f3,f4,f5,f6,f7⟩:=QdU aa.out.1;go_wp2;refine bodyPost_ret (v:=.agg (lnZ 9)) (by simp [results,results23,go_sem,r0,r1,r2,r3,r4,r5,r6,r7]) rfl ?_;exact ⟨Qc3 9,rfl,HR,Qki aa.out.2 (ZZa _) _ _ _ _ _ _ _ _⟩
           ·have bP:(Qa5 kd == 0)=false:=ZZf.2 av
            have aC:=Qaa av;clear av;go_wp2_with fail;refine (Qoc g5 wh (by omega) bo).mono ?_;rintro e w7 ⟨c,rfl,ao,aq,aD,aJ⟩;have aM:Hid (RS w w7):=⟨by rw [aD _ (by omega) au.out.lt];exact au.out.1,au.out.2.trans (aJ.mono (Nat.le_of_lt bb))⟩;have v0:w7.cell? ⟨b5,0,none⟩=some (.string r'.rt):=by rw [aJ.cell (p:=⟨b5,0,none⟩) a9];exact x0
            have v1:w7.cell? ⟨b5,1,none⟩=some (.bool r'.rd):=by rw [aJ.cell (p:=⟨b5,1,none⟩) a9];exact x1
            clear aD aJ x0 x1 br s0 s1 s2 s3 s4 s5 s6 au
            cases hwh:whB (Qa5 kd) wh with
            | false=>
             have bM:¬ c=0:=fun e=>by rw [hwh] at ao;exact absurd (ao.1 e) (by simp)
             have b6:(c == 0)=false:=ZZf.2 bM;have HR:Hid (LnR t (Qc3 3)):=by rw [<- ans_w (nm:=nm) (r:=r') aC.out hwh];exact HG.out.1
             clear ao aq;go_wp2_with fail;refine (Qa3 3 _).mono ?_;rintro e wz ⟨rfl,ac⟩;have aa:=Qaa (aM.out.past ac);clear ac;obtain ⟨r0,r1,r2,r3,r4,r5,r6,r7⟩:=QdG aa.out.1;obtain ⟨f0,f1,f2,f3,f4,f5,f6,f7⟩:=QdU aa.out.1;go_wp2;refine bodyPost_ret (v:=.agg (lnZ 3)) (by simp [results,results23,go_sem,r0,r1,r2,r3,r4,r5,r6,r7]) rfl ?_;exact ⟨Qc3 3,rfl,HR,Qki aa.out.2 (ZZa _) _ _ _ _ _ _ _ _⟩
            | true=>
             obtain rfl:c=0:=ao.2 hwh;have ah:=aq hwh;have aA:=Qaa ah;unfold SmB at ah;obtain ⟨s0,s1,s2,s3,s4,s5,s6⟩:=QiX ah;obtain ⟨t0,t1,t2,t3,t4,t5,t6⟩:=Qkl ah;have aR:=Qaa hwh;clear aq ao ah hwh
             cases hrd:r'.rd with
             | false=>
              rw [hrd] at v1
              have HV:Hid (Ending.returned (.agg #[.int .i64 (Qa5 kd),.string (Qdk nm r'.tg),.int .i64 (whV (Qa5 kd) wh),.string (whW (Qa5 kd) wh),.int .u64 1,.bool r'.td,.int .i64 r'.ti,.int .i64 0])=.returned (Qvb (QlQ nm wh kd r'))):=by
               rw [QsH aC.out aR.out (Qm6 hrd).1,(Qm6 hrd).2,HG.out.2];rfl
              have HR:=Qaa HG.out.1;have a1:=aM;obtain ⟨r0,r1,r2,r3,r4,r5,r6,r7⟩:=QdG a1.out.1;obtain ⟨f0,f1,f2,f3,f4,f5,f6,f7⟩:=QdU a1.out.1;go_wp2;refine bodyPost_ret (v:=.agg #[.int .i64 (Qa5 kd),.string (Qdk nm r'.tg),.int .i64 (whV (Qa5 kd) wh),.string (whW (Qa5 kd) wh),.int .u64 1,.bool r'.td,.int .i64 r'.ti,.int .i64 0]) (by simp [results,results23,go_sem,r0,r1,r2,r3,r4,r5,r6,r7]) rfl ?_;exact ⟨_,HV,HR,Qki a1.out.2 (ZZa _) _ _ _ _ _ _ _ _⟩
             | true=>
              rw [hrd] at v1;have bK:r'.rt.size<=maxLen:=by have:=HQ.out.2.2;unfold maxLen;omega
              go_wp2_with fail;refine (Qd5 r'.rt bK _).mono ?_;rintro e w8 ⟨rfl,aY⟩;have aE:=Qaa (aM.out.past aY);have bB:g5<w7.heap.size:=World.block_lt_of_cell? _ _ s0
              have aT:Hid (SmB w8 g5 (Qa5 kd) (Qdk nm r'.tg) (whV (Qa5 kd) wh) (whW (Qa5 kd) wh) 1 r'.td r'.ti):=by
               unfold SmB;rw [aY.block _ bB];exact aA.out
              clear aY s0 s1 s2 s3 s4 s5 s6 t0 t1 t2 t3 t4 t5 t6 v0 v1 aM aA;have ap:=aT.out;unfold SmB at ap;obtain ⟨s0,s1,s2,s3,s4,s5,s6⟩:=QiX ap;obtain ⟨t0,t1,t2,t3,t4,t5,t6⟩:=Qkl ap;have b8:g5<w8.heap.size:=World.block_lt_of_cell? _ _ s0;have bw:¬ w.heap.size=g5:=by omega
              have bI:¬ g5=w.heap.size:=by omega
              have bk:¬ g5=w8.heap.size:=by omega
              have bD:¬ w8.heap.size=g5:=by omega
              have ax:Hid (∀ o,RS w (w8.alloc o)):=fun o=>aE.out.past ((ZZb _ _).alloc (ZZa _) o);obtain ⟨bU,bV⟩:=Qop kd;by_cases an:raP (Qa5 kd) r'.rt
              ·obtain ⟨c1,c2,c3,c4⟩:=an
               have be:=Qaa (wt_yes hrd (show raP (Qa5 kd) r'.rt from ⟨c1,c2,c3,c4⟩));obtain ⟨q,hq⟩:∃ q,q=1000000 / rvV r'.rt:=⟨_,rfl⟩;have b1:0<=q:=by rw [hq];exact Int.ediv_nonneg (by omega) (by omega)
               have aO:q<=1000000:=by rw [hq];exact Int.ediv_le_self _ (by omega)
               have bT:(1000000:Int).tdiv (rvV r'.rt)=q:=by rw [hq,Int.tdiv_eq_ediv_of_nonneg (by omega)]
               have b9:IntKind.i64.wrap q=q:=ZZi _ ⟨by omega,by omega⟩;have b7:IntKind.u64.wrap q=q:=IntWalk.u64_in _ ⟨by omega,by omega⟩;have bz:(rvV r'.rt == 0)=false:=ZZf.2 (by omega);have cd:¬ rvV r'.rt=0:=by omega
               have dl:decide (rvV r'.rt<1)=false:=ZZg (by omega);have dgt:decide (1000000<rvV r'.rt)=false:=ZZg (by omega);have a6:(Qa5 kd == 2)=false:=ZZf.2 (by omega);have bQ:(Qa5 kd == 4)=false:=ZZf.2 (by omega);have bc:(rvC r'.rt == 0)=true:=by simp [c1]
               have HV:Hid (Ending.returned (.agg #[.int .i64 (Qa5 kd),.string (Qdk nm r'.tg),.int .i64 (whV (Qa5 kd) wh),.string (whW (Qa5 kd) wh),.int .u64 q,.bool r'.td,.int .i64 r'.ti,.int .i64 0])=.returned (Qvb (QlQ nm wh kd r'))):=by
                rw [QsH aC.out aR.out be.out.1,be.out.2,HG.out.2,hq];rfl
               have HR:=Qaa HG.out.1;have bR:=Qaa c1;clear hq c1 c4;obtain ⟨r0,r1,r2,r3,r4,r5,r6,r7⟩:=QdG aE.out.1;obtain ⟨f0,f1,f2,f3,f4,f5,f6,f7⟩:=QdU aE.out.1;have b2:w.heap.size<w8.heap.size:=by omega
               go_wp2
               have R9:(w8.setCell ⟨g5,4,none⟩ (.int .u64 q)).heap[w.heap.size]?=some (.cells (lnZ 0) 73 (0,0)):=by
                rw [Below.heap_setCell w8 ⟨g5,4,none⟩ _ _ (by show w.heap.size≠g5;omega)];exact aE.out.1
               have ba:=row8 (.int .i64 (Qa5 kd)) (.string (Qdk nm r'.tg)) (.int .i64 (whV (Qa5 kd) wh)) (.string (whW (Qa5 kd) wh)) (.int .u64 q) (.bool r'.td) (.int .i64 r'.ti) (.int .i64 0) R9;have aS:=(ZZc.1 ba).1
               refine bodyPost_ret (v:=.agg #[.int .i64 (Qa5 kd),.string (Qdk nm r'.tg),.int .i64 (whV (Qa5 kd) wh),.string (whW (Qa5 kd) wh),.int .u64 q,.bool r'.td,.int .i64 r'.ti,.int .i64 0]) (by
                obtain ⟨z0,z1,z2,z3,z4,z5,z6,z7⟩:=QdG ((Below.heap_alloc _ (.cells #[.int .i64 (rvV r'.rt),.int .i64 0] 132) _ aS).trans ba);simp [results,results23,go_sem,z0,z1,z2,z3,z4,z5,z6,z7]) rfl ?_
               have bi:=Qki (aE.out.2.setCell (p:=⟨g5,4,none⟩) (Nat.le_of_lt bb) (.int .u64 q)) (ZZa _) (.int .i64 (Qa5 kd)) (.string (Qdk nm r'.tg)) (.int .i64 (whV (Qa5 kd) wh)) (.string (whW (Qa5 kd) wh)) (.int .u64 q) (.bool r'.td) (.int .i64 r'.ti) (.int .i64 0);exact ⟨_,HV,HR,bi.alloc bi.size _⟩
              ·have HR:Hid (LnR t (Qc3 10)):=by rw [<- ans_r (nm:=nm) (r:=r') aC.out aR.out (wt_no hrd an)];exact HG.out.1
               by_cases c1:rvC r'.rt=0
               ·have bc:(rvC r'.rt == 0)=true:=by simp [c1]
                by_cases c2:rvV r'.rt<1
                ·have dl:decide (rvV r'.rt<1)=true:=ZZh c2
                 clear an;go_wp2_with fail;refine (Qa3 10 _).mono ?_;rintro e wz ⟨rfl,ac⟩;have aa:=Qaa ((ax.out _).past ac);clear ac;obtain ⟨r0,r1,r2,r3,r4,r5,r6,r7⟩:=QdG aa.out.1;obtain ⟨f0,f1,f2,f3,f4,f5,f6,f7⟩:=QdU aa.out.1;go_wp2;refine bodyPost_ret (v:=.agg (lnZ 10)) (by simp [results,results23,go_sem,r0,r1,r2,r3,r4,r5,r6,r7]) rfl ?_;exact ⟨Qc3 10,rfl,HR,Qki aa.out.2 (ZZa _) _ _ _ _ _ _ _ _⟩
                ·have dl:decide (rvV r'.rt<1)=false:=ZZg c2
                 by_cases c3:1000000<rvV r'.rt
                 ·have dgt:decide (1000000<rvV r'.rt)=true:=ZZh c3
                  clear an;go_wp2_with fail;refine (Qa3 10 _).mono ?_;rintro e wz ⟨rfl,ac⟩;have aa:=Qaa ((ax.out _).past ac);clear ac;obtain ⟨r0,r1,r2,r3,r4,r5,r6,r7⟩:=QdG aa.out.1;obtain ⟨f0,f1,f2,f3,f4,f5,f6,f7⟩:=QdU aa.out.1;go_wp2;refine bodyPost_ret (v:=.agg (lnZ 10)) (by simp [results,results23,go_sem,r0,r1,r2,r3,r4,r5,r6,r7]) rfl ?_;exact ⟨Qc3 10,rfl,HR,Qki aa.out.2 (ZZa _) _ _ _ _ _ _ _ _⟩
                 ·have dgt:decide (1000000<rvV r'.rt)=false:=ZZg c3
                  by_cases c4:Qa5 kd=2
                  ·have a6:(Qa5 kd == 2)=true:=by simp [c4]
                   clear an;go_wp2_with fail;refine (Qa3 10 _).mono ?_;rintro e wz ⟨rfl,ac⟩;have aa:=Qaa ((ax.out _).past ac);clear ac;obtain ⟨r0,r1,r2,r3,r4,r5,r6,r7⟩:=QdG aa.out.1;obtain ⟨f0,f1,f2,f3,f4,f5,f6,f7⟩:=QdU aa.out.1;go_wp2;refine bodyPost_ret (v:=.agg (lnZ 10)) (by simp [results,results23,go_sem,r0,r1,r2,r3,r4,r5,r6,r7]) rfl ?_;exact ⟨Qc3 10,rfl,HR,Qki aa.out.2 (ZZa _) _ _ _ _ _ _ _ _⟩
                  ·have a6:(Qa5 kd == 2)=false:=ZZf.2 c4
                   have bQ:(Qa5 kd == 4)=true:=by
                    have:Qa5 kd=4:=by
                     have h0:=aC.out;have:¬ (Qa5 kd=1∨Qa5 kd=3):=fun h=>an ⟨c1,by omega,by omega,h⟩;omega
                    simp [this]
                   clear an;go_wp2_with fail;refine (Qa3 10 _).mono ?_;rintro e wz ⟨rfl,ac⟩;have aa:=Qaa ((ax.out _).past ac);clear ac;obtain ⟨r0,r1,r2,r3,r4,r5,r6,r7⟩:=QdG aa.out.1;obtain ⟨f0,f1,f2,f3,f4,f5,f6,f7⟩:=QdU aa.out.1;go_wp2;refine bodyPost_ret (v:=.agg (lnZ 10)) (by simp [results,results23,go_sem,r0,r1,r2,r3,r4,r5,r6,r7]) rfl ?_;exact ⟨Qc3 10,rfl,HR,Qki aa.out.2 (ZZa _) _ _ _ _ _ _ _ _⟩
               ·have bc:(rvC r'.rt == 0)=false:=ZZf.2 c1
                clear an;go_wp2_with fail;refine (Qa3 10 _).mono ?_;rintro e wz ⟨rfl,ac⟩;have aa:=Qaa ((ax.out _).past ac);clear ac;obtain ⟨r0,r1,r2,r3,r4,r5,r6,r7⟩:=QdG aa.out.1;obtain ⟨f0,f1,f2,f3,f4,f5,f6,f7⟩:=QdU aa.out.1;go_wp2;refine bodyPost_ret (v:=.agg (lnZ 10)) (by simp [results,results23,go_sem,r0,r1,r2,r3,r4,r5,r6,r7]) rfl ?_;exact ⟨Qc3 10,rfl,HR,Qki aa.out.2 (ZZa _) _ _ _ _ _ _ _ _⟩
    ·go_wp2
     go_roundw
     case rel=>exact ⟨trivial,k+1,by omega,by go_num,Qt4 HI aF⟩
     case measure=>simp [zI];omega
   ·have bn:k=t.size:=by omega
    have HR:Hid (LnR t (Qc3 3)):=LnR.bad hf (fun nm wh kd ps r k1 _=>(LP.no1 (Qsn (b:=58) (fun j hj=>HI.out j (by omega))) k1).elim);subst bn;go_wp2_with fail;refine (Qa3 3 _).mono ?_;rintro e wz ⟨rfl,ac⟩;have aa:=Qaa (ae.out.past ac);clear ac;obtain ⟨r0,r1,r2,r3,r4,r5,r6,r7⟩:=QdG aa.out.1;obtain ⟨f0,f1,f2,f3,f4,f5,f6,f7⟩:=QdU aa.out.1;go_wp2;refine bodyPost_ret (v:=.agg (lnZ 3)) (by simp [results,results23,go_sem,r0,r1,r2,r3,r4,r5,r6,r7]) rfl ?_;exact ⟨Qc3 3,rfl,HR,Qki aa.out.2 (ZZa _) _ _ _ _ _ _ _ _⟩
end
section
def PtT (r:Pt):Prop:=(r.td=true/\r.ti<=1000000000)∨(r.td=false/\r.ti=0)
theorem QuG (h:Qii t=some n):n<=1000000000:=by
 unfold Qii at h
 split at h
 ·split at h
  ·cases h;assumption
  ·cases h
 ·cases h
theorem Qob {r r':Pt} (h:PtT r) (e:Qcw r p=some r'):PtT r':=by
 unfold Qcw at e
 split at e
 ·cases e;exact h
 split at e
 ·cases e;exact h
 split at e
 ·obtain ⟨n,hn,rfl⟩:=Option.map_eq_some_iff.1 e
  exact .inl ⟨rfl,QuG hn⟩
 ·cases e
theorem QiS:∀ (ps:List ByteArray) (a:Nat) (r r':Pt),PtT r->QgG a r ps=some r'->PtT r'
 | [],a,r,r',h,e=>by cases e;exact h
 | p :: ps,a,r,r',h,e=>by
  unfold QgG at e
  split at e
  ·cases e
  ·cases hs:Qcw r p with
   | none=>rw [hs] at e;cases e
   | some q=>rw [hs] at e;exact QiS ps _ q r' (Qob h hs) e
theorem Qo4 {r:ByteArray} (h:wtB k rd r=true):QfI k (wtV k rd r)=true:=by
 unfold wtB at h;unfold wtV QfI
 cases rd with
 | false=>simp
 | true=>
  rw [if_pos rfl] at h;rw [if_pos rfl]
  split at h
  ·rename_i hr
   rw [if_pos hr];obtain ⟨_,h1,h2,h3⟩:=hr;have q1:1<=1000000 / rvV r:=Int.le_ediv_of_mul_le (by omega) (by omega);have q2:1000000 / rvV r<=1000000:=Int.ediv_le_self _ (by omega);simp only [Bool.or_eq_true,Bool.and_eq_true,decide_eq_true_eq];exact .inr ⟨⟨h3,by omega⟩,q2⟩
  ·cases h
theorem Qqq (h:u≠ByteArray.empty):0<u.size:=by
 rcases Nat.eq_zero_or_pos u.size with q | q
 ·exact absurd (Qbf (List.eq_nil_of_length_eq_zero (by rw [Qap];exact q))) h
 ·exact q
theorem LnR.right {s:Sm} (h:LnR t s) (hc:s.c=0):Qlt s.k s.se s.va s.wd s.wt s.td (s.ti:Int)=true/\Qby s.se=true:=by
 rcases h with ⟨_,rfl⟩ | ⟨_,⟨nm,wh,kd,ps,r,hl,hm,aa,rfl⟩ | ⟨_,rfl⟩⟩
 ·cases hc
 ·have ht:=QiS ps 0 pt0 r (.inr ⟨rfl,rfl⟩) hm
  unfold QlQ at hc ⊢
  split at hc
  ·cases hc
  rename_i hk;rw [if_neg hk]
  split at hc
  ·cases hc
  rename_i hw;rw [if_neg hw]
  split at hc
  ·cases hc
  rename_i hb;rw [if_neg hb];have hw:whB (Qa5 kd) wh=true:=by simpa using hw
  have hb:wtB (Qa5 kd) r.rd r.rt=true:=by simpa using hb
  have hs:Qby (Qgx nm r.tg)=true:=QcB (QoJ rfl (Qqq aa));refine ⟨?_,hs⟩
  have a1:QqF (Qa5 kd)=true:=by
   unfold QqF;rcases QtJ kd with e | e | e | e | e
   ·exact absurd e hk
   all_goals rw [e];decide
  have a2:QrX (Qa5 kd) (whV (Qa5 kd) wh) (whW (Qa5 kd) wh)=true:=by
   unfold QrX whV whW;unfold whB at hw;by_cases h4:Qa5 kd=4
   ·rw [if_pos h4] at hw
    rw [if_pos h4,if_pos h4,if_pos h4,hw]
    rfl
   ·rw [if_neg h4,if_neg h4,if_neg h4]
    have:=rv_bd wh;unfold valB;simp only [Bool.and_eq_true,decide_eq_true_eq];exact ⟨this,rfl⟩
  have a4:QmP r.td (r.ti:Int)=true:=by
   unfold QmP;rcases ht with ⟨e,q⟩ | ⟨e,q⟩
   ·rw [if_pos e];simp;omega
   ·rw [e,q];rfl
  show Qlt (Qa5 kd) (Qgx nm r.tg) (whV (Qa5 kd) wh) (whW (Qa5 kd) wh) (wtV (Qa5 kd) r.rd r.rt) r.td (r.ti:Int)=true
  unfold Qlt;rw [a1,hs,a2,Qo4 hb,a4]
  rfl
 ·cases hc
end
end Go.Proofs.YtdbaabbmcfnjbaaGreatDoor
