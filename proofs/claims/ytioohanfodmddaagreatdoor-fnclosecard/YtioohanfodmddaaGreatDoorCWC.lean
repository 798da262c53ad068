/-
 Parts.
-/
import Derived.Test.YtioohanfodmddaaGreatDoorCWA
import Derived.Lib.IndexBytes
import Derived.Deep.LoopGhost
import Derived.Lib.AppendIntMem
import Derived.Lib.ItoaMem
import Derived.Lib.ParseIntB
set_option maxRecDepth 10000
set_option maxHeartbeats 4000000
set_option linter.all false
namespace Go.Proofs.YtioohanfodmddaaGreatDoor
open Go.RowKit Go.PlainAid Go.ChangeShapes Go.WideShapes Go.ChangeAt Go.Lib Tryz
theorem mAc {p:Prop} (h:p:=by go_wp2;refine bodyPost_ret (v:=.tuple #[.agg #[.string r.rt,.bool r.rd,.slice ta r.tg.length tc,.bool r.td,.int .i64 r.ti],.bool false]) (by simp [results,results134,go_sem,r0,r1,r2,r3,r4]) rfl ?_;unfold MoO;exact ⟨r,ta,tc,by rw [HE.out];rfl,(fun r' h=>by rw [HE.out] at h;cases h),(HT.fin _ _ _ _ _).1,HS.1,HS.2.1,HS.2.2,(HT.fin _ _ _ _ _).2⟩):p:=h
theorem mAd {p:Prop} (h:p:=by
 refine gK hK af.out ?_
 try simp only [sX]
 refine onE 9 fun K hK=>?_;go_simp;refine (Qbs nm _ _ oB aS oB aU (QaA aR (af.out:Bw W5 _))).mono ?_;rintro e W6 ⟨rfl,hb⟩;dsimp only;have ab:=Qaa ((af.out:Bw W5 _).trans (hb.mono (af.out:Bw W5 _).size));have ai:=Qaa hb;clear hb;refine gK hK ab.out ?_
 try simp only [sX]
 have R5:W6.heap[W5.heap.size]?=some (.cells zAa 85 (0,0)):=by rw [ai.block _ oE];exact ZZk W5.drew _
 obtain ⟨q0,q1,q2,q3,q4,q5,q6⟩:=QfF R5;obtain ⟨f0,f1,f2,f3,f4,f5,f6⟩:=Qi3 R5;refine onE 14 fun K hK=>?_;go_simp;refine gK hK ab.out ?_
 try simp only [sX]
 refine onE 16 fun K hK=>?_;go_simp;refine hK.out _ _ (fun _=>(((((((ab.setCell (p:=⟨W5.heap.size,0,none⟩) (ZZa _) _).setCell (p:=⟨W5.heap.size,1,none⟩) (ZZa _) _).setCell (p:=⟨W5.heap.size,2,none⟩) (ZZa _) _).setCell (p:=⟨W5.heap.size,3,none⟩) (ZZa _) _).setCell (p:=⟨W5.heap.size,4,none⟩) (ZZa _) _).setCell (p:=⟨W5.heap.size,5,none⟩) (ZZa _) _).setCell (p:=⟨W5.heap.size,6,none⟩) (ZZa _) _)) ?_
 try simp only [sX]
 refine dnE ?_ _;go_wp2;go_meet;exact ⟨W5.heap.size,rfl,row7 _ _ _ _ _ _ _ R5,ZZa _,(((((((ab.setCell (p:=⟨W5.heap.size,0,none⟩) (ZZa _) _).setCell (p:=⟨W5.heap.size,1,none⟩) (ZZa _) _).setCell (p:=⟨W5.heap.size,2,none⟩) (ZZa _) _).setCell (p:=⟨W5.heap.size,3,none⟩) (ZZa _) _).setCell (p:=⟨W5.heap.size,4,none⟩) (ZZa _) _).setCell (p:=⟨W5.heap.size,5,none⟩) (ZZa _) _).setCell (p:=⟨W5.heap.size,6,none⟩) (ZZa _) _)⟩):p:=h
theorem mAf {p:Prop} (h:p:=by clear al;go_wp2_with fail;refine (Qba 10 _).mono ?_;rintro e wz ⟨rfl,ac⟩;have aa:=Qaa ((aD.out _).past ac);clear ac;obtain ⟨r0,r1,r2,r3,r4,r5,r6,r7⟩:=QbR aa.1;obtain ⟨f0,f1,f2,f3,f4,f5,f6,f7⟩:=Qdp aa.1;go_wp2;refine bodyPost_ret (v:=.agg (lnZ 10)) (by simp [results,results83,go_sem,r0,r1,r2,r3,r4,r5,r6,r7]) rfl ?_;exact ⟨Qdt 10,rfl,HR,QjC aa.2 (ZZa _) _ _ _ _ _ _ _ _⟩):p:=h
theorem mAg {p:Prop} (h:p:=by clear ac;obtain ⟨r0,r1,r2,r3,r4,r5,r6,r7⟩:=QbR aa.1;obtain ⟨f0,f1,f2,f3,f4,f5,f6,f7⟩:=Qdp aa.1;go_wp2;refine bodyPost_ret (v:=.agg (lnZ 3)) (by simp [results,results83,go_sem,r0,r1,r2,r3,r4,r5,r6,r7]) rfl ?_;exact ⟨Qdt 3,rfl,HR,QjC aa.2 (ZZa _) _ _ _ _ _ _ _ _⟩):p:=h
theorem mAv {p:Prop} (h:p:=by
 obtain ⟨z0,z1,z2,z3,z4,z5⟩:=ag.out W hW
 go_simp):p:=h
theorem mBl {p:Prop} (h:p:=by intro e w3 ax;unfold MoO at ax;obtain ⟨r,ta,tc,rfl,ar,hT,aI,aj,ao,aG⟩:=ax;have HF:=Qaa (And.intro ar (And.intro hT (And.intro aj (And.intro ao aG))));clear ar hT aI aj ao aG;go_wp2_with fail;go_meet;exact ⟨w3.heap.size,r,ta,tc,rfl,rfl,HF.1,QaA HF.2.1 bAA,HF.2.2.1,HF.2.2.2.1,ZZk w3 _,HF.2.2.2.2.alloc HF.2.2.2.2.size _⟩):p:=h
theorem mB3 {p:Prop} (h:p:=by go_enter func195,ntmps195;go_wp2;go_ret2;exact ⟨0,by rw [HE.out];rfl,(fun m h=>by rw [HE.out] at h;cases h),rfl⟩):p:=h
theorem mCk {p:Prop} (h:p:=by go_wp2;exact bodyPost_ret (v:=.agg #[.int .i64 0,.int .i64 3]) (by simp [results,results138,go_sem,s0,s1]) rfl ⟨by rw [HE.1,HE.2],(af.setCell oE _).setCell oE _⟩):p:=h
theorem mDo {p:Prop} (h:p:=by exact ⟨rfl,(ZZb _ _).alloc (ZZa _) _⟩):p:=h
theorem mD9 {p:Prop} (h:p:=by
 clear aa hV
 go_wp2;go_ret2;exact ⟨Qo5 (HA.out oB).1 (HA.out oB).2,rfl⟩):p:=h
section
def Qjz (s:ByteArray):Bool:=decide (s.size<=20000)
def QkK (s:ByteArray):Bool:=decide (0<s.size) && (bt s 0 == 45)
def Qhy (s:ByteArray):ByteArray:=if QkK s=true then s.extract 1 s.size else s
end
variable {kd nm nm' p s t u wh y:ByteArray}
variable {B a i n o tc:Nat}
section
def Qf8 (c:Int):Bool:=decide (48<=c) && decide (c<=57)
theorem Qpn {c:Int} (h:Qf8 c=true):48<=c/\c<=57:=by
 unfold Qf8 at h;have:=Bool.and_eq_true_iff.1 h;exact ⟨of_decide_eq_true this.1,of_decide_eq_true this.2⟩
def dig (s:ByteArray) (o n:Nat):Prop:=∀ j,j<n->48<=bt s (o+j)/\bt s (o+j)<=57
def Qke (s:ByteArray) (o:Nat):Nat->Int
 | 0=>0
 | n+1=>Qke s o n*10+(bt s (o+n) - 48)
theorem Qma (h:dig s o n) (hd:Qf8 (bt s (o+n))=true):dig s o (n+1):=by
 intro j hj;rcases Nat.lt_or_ge j n with k | k
 ·exact h j k
 ·rw [show j=n by omega];exact Qpn hd
theorem QlK {s:ByteArray} {o:Nat}:∀ n,dig s o n->0<=Qke s o n/\Qke s o n<10 ^ n
 | 0,_=>by simp [Qke]
 | n+1,h=>by
  have ih:=QlK n (fun j hj=>h j oB);have hl:=h n oB;unfold Qke;rw [Int.pow_succ];omega
theorem Qqu (h:dig s o n) (hn:n<=12):0<=Qke s o n/\Qke s o n<=999999999999:=by
 have b:=QlK n h;have h0:=Nat.pow_le_pow_right (show 0<10 by omega) hn;have h1:(10:Int) ^ n<=10 ^ 12:=by exact_mod_cast h0
 have h2:(10:Int) ^ 12=1000000000000:=oF
 omega
end
section
def Qrv (u:ByteArray):Nat->Bool
 | 0=>true
 | k+1=>Qrv u k && Qf8 (bt u k)
theorem Qgm {u:ByteArray}:∀ k,Qrv u k=true->dig u 0 k
 | 0,_=>fun j hj=>absurd hj oB
 | k+1,h=>by
  have h':=Bool.and_eq_true_iff.1 h;exact Qma (Qgm k h'.1) (by rw [Nat.zero_add];exact h'.2)
theorem QoH {u:ByteArray}:∀ k,dig u 0 k->Qrv u k=true
 | 0,_=>rfl
 | k+1,h=>by
  have h1:=h k oB;rw [Nat.zero_add] at h1;exact Bool.and_eq_true_iff.2 ⟨QoH k (fun j hj=>h j oB),by simp [Qf8,h1]⟩
def dgV (u:ByteArray):Int:=if Qrv u u.size=true then Qke u 0 u.size else 0
def dgB (u:ByteArray):Bool:=Qrv u u.size && decide (0<u.size)
theorem Qo5 {a c:Int} {p q:Bool} (h:a=c) (k:p=q):Ending.returned (.tuple #[.int .i64 a,.bool p])=.returned (.tuple #[.int .i64 c,.bool q]):=by rw [h,k]
theorem Qc2 (u:ByteArray) (hu:u.size<=12) (w:World) :
  Calls prog 196 #[.string u] w fun e w'=>e=.returned (.tuple #[.int .i64 (dgV u),.bool (dgB u)])/\w'=w:=by
 have ak:=get_bt u;go_enter func196,ntmps196;go_wp2
 go_loopw [4,5] (fun n i wr=>wr=w/\∃ k:Nat,k<=u.size/\i=.int .i64 k/\n=.int .i64 (Qke u 0 k)/\dig u 0 k) (fun n i wr=>u.size - (Go.RowKit.intOf i).toNat)
 case atStart=>exact ⟨rfl,0,ZZj _,rfl,rfl,fun j hj=>absurd hj oB⟩
 case round=>
  obtain ⟨rfl,k,hk,rfl,rfl,aa⟩:=hrel;have ao:=bt_nonneg u k;have an:=bt_le u k;have af:=Qqu aa oB;obtain ⟨V,hV⟩:∃ V,V=Qke u 0 k:=⟨_,rfl⟩;rw [<- hV] at af;rw [<- hV];by_cases ab:k<u.size
  ·have ae:(k:Int)<(u.size:Int):=by omega
   have ac:(bt u k<48)∨(decide (bt u k<48)=false/\57<bt u k)∨(decide (bt u k<48)=false/\decide (57<bt u k)=false/\48<=bt u k/\bt u k<=57):=by
    simp only [decide_eq_false_iff_not];omega
   have HA:Hid (¬ (48<=bt u k/\bt u k<=57)->0=dgV u/\false=dgB u):=by
    intro hn
    have:Qrv u u.size=false:=by
     cases h:Qrv u u.size with
     | false=>rfl
     | true=>have:=Qgm _ h k ab;rw [Nat.zero_add] at this;exact absurd this hn
    unfold dgV dgB;rw [this];exact ⟨rfl,rfl⟩
   rcases ac with hd | ⟨hd,ah⟩ | ⟨hd,ah,ag,ad⟩
   ·exact mD9
   ·exact mD9
   ·have HD:Hid (dig u 0 (k+1)):=Qma aa (by rw [Nat.zero_add];simp [Qf8,ag,ad])
    have HV:Hid (Qke u 0 (k+1)=10*V+(bt u k - 48)):=Qaa (by show Qke u 0 k*10+(bt u (0+k) - 48)=_;rw [Nat.zero_add,hV];omega);clear aa hV;have am:IntKind.u8.wrap (bt u k - 48)=bt u k - 48:=IntWalk.u8_in _ ⟨by omega,by omega⟩;have aj:IntKind.i64.wrap (bt u k - 48)=bt u k - 48:=ZZi _ ⟨by omega,by omega⟩;have al:IntKind.i64.wrap (10*V)=10*V:=ZZi _ ⟨by omega,by omega⟩;have ai:IntKind.i64.wrap (10*V+(bt u k - 48))=10*V+(bt u k - 48):=ZZi _ ⟨by omega,by omega⟩;go_wp2;go_roundw
    case rel=>exact ⟨trivial,k+1,by omega,by go_num,by rw [HV.out],HD⟩
    case measure=>simp [zI];omega
  ·have e:k=u.size:=by omega
   subst e;have ae:¬ (u.size:Int)<(u.size:Int):=oB
   have HD:Hid (V=dgV u/\decide (0<u.size)=dgB u):=Qaa (by
    unfold dgV dgB;rw [QoH _ aa];exact ⟨hV,by simp⟩)
   clear aa hV;go_wp2;go_ret2;exact ⟨Qo5 HD.1 HD.2,rfl⟩
end
section
end
section
theorem Qp5 (hu:u.size<=12):0<=dgV u/\dgV u<=999999999999:=by
 unfold dgV;split
 ·exact Qqu (Qgm _ ‹_›) hu
 ·omega
theorem dgV_6 (hu:u.size<=6):0<=dgV u*10 ^ (6 - u.size)/\dgV u*10 ^ (6 - u.size)<=999999:=by
 unfold dgV;split
 ·have b:=QlK u.size (Qgm _ ‹_›)
  revert b
  generalize Qke u 0 u.size=x;generalize u.size=p at hu;have hc:p=0∨p=1∨p=2∨p=3∨p=4∨p=5∨p=6:=oB
  intro b;rcases hc with rfl | rfl | rfl | rfl | rfl | rfl | rfl <;> simp only [show (10:Int) ^ 1=10 from rfl,show (10:Int) ^ 2=100 from rfl,show (10:Int) ^ 3=1000 from rfl,show (10:Int) ^ 4=10000 from rfl,show (10:Int) ^ 5=100000 from rfl,show (10:Int) ^ 6=1000000 from rfl,Nat.reduceSub,show (10:Int) ^ 0=1 from rfl] at b ⊢ <;> omega
 ·simp
end
section
theorem Qhi (t:ByteArray) (b:Int) (ht:t.size<=1048576) (hb:0<=b/\b<=255) (w:World) :
  Calls prog 133 #[.string t,.int .u8 b] w fun e w'=>∃ g cap,e=.returned (.slice (some ⟨g,0,none⟩) (Qa7 t b).length cap)/\w.heap.size<=g/\(Qa7 t b).length<=cap/\(∀ j u,(Qa7 t b)[j]?=some u->w'.cell? ⟨g,j,none⟩=some (.string u))/\Bw w w':=Qkj t b ht hb w
end
section
theorem Qsl (t:ByteArray) (b:Int):1<=(Qa7 t b).length:=by rw [Qgi];omega
end
def vr0 (L:List ByteArray):ByteArray:=L[0]?.getD ByteArray.empty
def vr1 (L:List ByteArray):ByteArray:=L[1]?.getD ByteArray.empty
def Qhn (L:List ByteArray):Bool:=decide (2<L.length) || (decide (12<(vr0 L).size) || (decide (1<(vr0 L).size) && (bt (vr0 L) 0 == 48)))
def vrTwo (L:List ByteArray):Bool:=dgB (vr0 L) && decide (L.length=2)
def Qmj (L:List ByteArray):Bool:=dgB (vr0 L) && (decide (L.length≠2) || (decide ((vr1 L).size<=6) && dgB (vr1 L)))
def vrN (L:List ByteArray):Int:=dgV (vr0 L)*1000000+if L.length=2 then dgV (vr1 L)*10 ^ (6 - (vr1 L).size) else 0
def rvC (s:ByteArray):Int:=if Qjz s=true then (if Qhn (Qa7 (Qhy s) 46)=false/\Qmj (Qa7 (Qhy s) 46)=true then 0 else 3) else 2
def rvV (s:ByteArray):Int:=if Qjz s=true/\Qhn (Qa7 (Qhy s) 46)=false/\Qmj (Qa7 (Qhy s) 46)=true then (if QkK s=true then -vrN (Qa7 (Qhy s) 46) else vrN (Qa7 (Qhy s) 46)) else 0
theorem Qta {b:Nat} (h:a<=b):(0:Int)<10 ^ a/\(10:Int) ^ a<=10 ^ b:=by
 have aa:∀ n:Nat,(0:Int)<10 ^ n:=fun n=>by
  induction n with
  | zero=>decide
  | succ n ih=>rw [Int.pow_succ];omega
 refine ⟨aa a,?_⟩;obtain ⟨d,rfl⟩:=Nat.exists_eq_add_of_le h;clear h
 induction d with
 | zero=>exact Int.le_refl _
 | succ d ih=>rw [<- Nat.add_assoc,Int.pow_succ];have:=aa (a+d);omega
variable {L ps:List ByteArray}
theorem QtF (h:Qhn L=false) (k:Qmj L=true):0<=vrN L/\vrN L<=999999999999999999:=by
 unfold Qhn at h;unfold Qmj at k;simp only [Bool.or_eq_false_iff,decide_eq_false_iff_not,yB,Bool.or_eq_true,decide_eq_true_eq] at h k;obtain ⟨a,b⟩:=Qp5 (u:=vr0 L) oB;unfold vrN
 split
 ·rename_i h2
  obtain ⟨c,d⟩:=dgV_6 (u:=vr1 L) (by rcases k.2 with q | q;exact absurd h2 q;exact q.1);omega
 ·omega
theorem rv_bd (s:ByteArray):-999999999999999999<=rvV s/\rvV s<=999999999999999999:=by
 unfold rvV
 split
 ·rename_i h
  have:=QtF h.2.1 h.2.2
  split <;> omega
 ·omega
variable {W w w' wr:World}
theorem vr_box {r:Nat} (h:w.heap[r]?=some (.cells #[.int .i64 0,.int .i64 0] 193 (0,0))):w.cell? ⟨r,0,none⟩=some (.int .i64 0)/\w.cell? ⟨r,1,none⟩=some (.int .i64 0):=⟨by rw [cell_of_row w r 0 _ _ _ h];rfl,by rw [cell_of_row w r 1 _ _ _ h];rfl⟩
theorem QeZ (s:ByteArray) (hs:s.size<=maxLen) (w:World) :
  Calls prog 138 #[.string s] w fun e w'=>e=.returned (.agg #[.int .i64 (rvV s),.int .i64 (rvC s)])/\Bw w w':=by
 have a0:Bw w (w.alloc (.cells #[.int .i64 0,.int .i64 0] 193)):=bAA;unfold maxLen at hs
 cases hf:Qjz s with
 | false=>
  have hz:(20000:Int)<(s.size:Int):=by unfold Qjz at hf;have:=of_decide_eq_false hf;omega
  have HE:Hid (rvV s=0/\rvC s=2):=Qaa ⟨by unfold rvV;rw [if_neg (by rw [hf];simp)],by unfold rvC;rw [if_neg (by rw [hf];simp)]⟩;clear hf a0;go_enter func138,ntmps138;go_wp2;exact bodyPost_ret (v:=.agg #[.int .i64 0,.int .i64 2]) (by simp [results,results138,go_sem]) rfl ⟨by rw [HE.1,HE.2],(Below.refl _ _).alloc (Nat.le_refl _) _⟩
 | true=>
  have aL:s.size<=20000:=of_decide_eq_true hf;have hz:¬ (20000:Int)<(s.size:Int):=oB
  obtain ⟨T,hT⟩:∃ T,Qhy s=T:=⟨_,rfl⟩;obtain ⟨L,hL⟩:∃ L,Qa7 T 46=L:=⟨_,rfl⟩
  have aN:T.size<=20000:=by
   rw [<- hT];unfold Qhy
   split
   ·simp;omega
   ·omega
  have aq:=Qaa (Qhi T 46 oB ⟨by omega,by omega⟩);have h1:1<=L.length:=by rw [<- hL];exact Qsl T 46
  have ah:∀ u∈L,u.size<=20000:=fun u hu=>by rw [<- hL] at hu;have:=QdO T 46 u hu;omega
  have HC:Hid (rvC s=if Qhn L=false/\Qmj L=true then 0 else 3):=Qaa (by unfold rvC;rw [if_pos hf,hT,hL]);have HV:Hid (rvV s=if Qhn L=false/\Qmj L=true then (if QkK s=true then -vrN L else vrN L) else 0):=Qaa (by unfold rvV;rw [hT,hL];simp only [hf,true_and])
  rw [hL] at aq;obtain ⟨u0,h0⟩:∃ u,L[0]?=some u:=⟨L[0]'oB,ZZe _⟩;have e0:vr0 L=u0:=by unfold vr0;rw [h0];rfl
  have aW:=ah u0 (ZZn h0);obtain ⟨nb,an⟩:∃ b,QkK s=b:=⟨_,rfl⟩;obtain ⟨db,ax⟩:∃ b,dgB u0=b:=⟨_,rfl⟩;rw [an] at HV;have ad:=Qaa an;have aj:=Qaa ax;have ae:=Qaa (ZZk w (.cells #[.int .i64 0,.int .i64 0] 193));have ap:=Qaa a0;have am:=Qaa hT;have H0:=Qaa h0;have E0:=Qaa e0;have aE:=Qaa ah;clear hf hL a0 hT h0 e0 ah an ax;go_enter func138,ntmps138;go_upto_region 3 with fail;generalize w.alloc _=W0 at ae ap ⊢
  go_cut [3] (fun b w'=>b=.bool nb/\w'=W0)
  case first=>
   have aR:=get_bt s;by_cases k:0<s.size
   ·have ki:(0:Int)<(s.size:Int):=by omega
    have e:nb=(bt s 0 == 45):=by rw [<- ad.out];unfold QkK;rw [decide_eq_true k];rfl
    have E:=Qaa e;clear e;go_wp2;go_meet;exact ⟨by rw [E.out],rfl⟩
   ·have ki:¬ (0:Int)<(s.size:Int):=by omega
    have E:Hid (nb=false):=Qaa (by rw [<- ad.out];unfold QkK;rw [decide_eq_false k];rfl);go_wp2;go_meet;exact ⟨by rw [E.out],rfl⟩
  case rest=>
  obtain ⟨rfl,hw⟩:=hcut;obtain rfl:=hw.symm;go_upto_if 21 with fail
  go_cut [0] (fun t w'=>t=.string T/\w'=W0)
  case first=>
   cases nb with
   | true=>
    have aX:(1:Int)<=(s.size:Int):=by have hn:=ad.out;unfold QkK at hn;have:=of_decide_eq_true (Bool.and_eq_true_iff.1 hn).1;omega
    have E:Hid (s.extract 1 s.size=T):=Qaa (by rw [<- am.out];unfold Qhy;rw [if_pos ad.out]);go_wp2;go_meet;exact ⟨by rw [<- E.out],rfl⟩
   | false=>
    have E:Hid (s=T):=Qaa (by rw [<- am.out];unfold Qhy;rw [if_neg (by rw [ad.out];simp)]);go_wp2;go_meet;exact ⟨by rw [<- E.out],rfl⟩
  case rest=>
  obtain ⟨rfl,hw⟩:=hcut;obtain rfl:=hw.symm;go_wp2_with fail;refine (aq.out W0).mono ?_;rintro e w1 ⟨g,aT,rfl,hg,aA,aa,al⟩;have af:=Qaa (Qac ap al);have ak:Hid (w1.heap[w.heap.size]?=some (.cells #[.int .i64 0,.int .i64 0] 193 (0,0))):=Qaa (by rw [al.block _ (Array.getElem?_eq_some_iff.1 ae.out).1];exact ae.out);have c0:=aa 0 u0 H0;have aI:=Qaa aa;have aD:L.length<=20001∨True:=.inr trivial;have aU:(0:Int)<(L.length:Int):=oB
  clear aa al aq ae ap am aD hg aA;go_upto_region 7 with fail
  go_cut [49] (fun b w'=>b=.bool (Qhn L)/\w'=w1)
  case first=>
   have aV:=get_bt u0;have EB:Hid (Qhn L=(decide (2<L.length) || (decide (12<u0.size) || (decide (1<u0.size) && (bt u0 0 == 48))))):=Qaa (by unfold Qhn;rw [E0.out]);by_cases n2:2<L.length
   ·have aF:(2:Int)<(L.length:Int):=by omega
    go_wp2;go_meet;exact ⟨by rw [EB.out,decide_eq_true n2];rfl,rfl⟩
   ·have aF:¬ (2:Int)<(L.length:Int):=by omega
    by_cases au:12<u0.size
    ·have ao:(12:Int)<(u0.size:Int):=by omega
     go_wp2;go_meet;exact ⟨by rw [EB.out,decide_eq_true au];simp,rfl⟩
    ·have ao:¬ (12:Int)<(u0.size:Int):=by omega
     by_cases l1:1<u0.size
     ·have aC:(1:Int)<(u0.size:Int):=by omega
      go_wp2;go_meet;exact ⟨by rw [EB.out,decide_eq_false n2,decide_eq_false au,decide_eq_true l1];rfl,rfl⟩
     ·have aC:¬ (1:Int)<(u0.size:Int):=by omega
      go_wp2;go_meet;exact ⟨by rw [EB.out,decide_eq_false n2,decide_eq_false au,decide_eq_false l1];rfl,rfl⟩
  case rest=>
  obtain ⟨rfl,hw⟩:=hcut;obtain rfl:=hw.symm;obtain ⟨s0,s1⟩:=vr_box ak;have f0:=fzR 0 ak;have f1:=fzR 1 ak
  cases hbad:Qhn L with
  | true=>
   have HE:Hid (rvV s=0/\rvC s=3):=Qaa ⟨by rw [HV.out,if_neg (by rw [hbad];simp)],by rw [HC.out,if_neg (by rw [hbad];simp)]⟩;clear hbad;exact mCk
  | false=>
   have hB:=hbad;unfold Qhn at hB;simp only [Bool.or_eq_false_iff,decide_eq_false_iff_not,E0.out] at hB;have l2:L.length<=2:=oB
   have aw:u0.size<=12:=oB
   obtain ⟨d0,d1⟩:=Qp5 aw;have aQ:IntKind.i64.wrap (dgV u0*1000000)=dgV u0*1000000:=ZZi _ ⟨by omega,by omega⟩;have ab:=Qaa hbad;clear hB hbad;go_wp2_with fail;refine (Qc2 u0 aw w1).mono ?_;rintro e w2 ⟨rfl,hw⟩;obtain rfl:=hw.symm;rw [aj.out];obtain ⟨qb,ay⟩:∃ b,(db && decide (L.length=2))=b:=⟨_,rfl⟩;have ac:=Qaa ay;clear ay;go_upto_region 11 with fail
   go_cut [65] (fun b w'=>b=.bool qb/\w'=w1)
   case first=>
    cases db with
    | false=>
     go_wp2;go_meet;exact ⟨by rw [<- ac.out];rfl,rfl⟩
    | true=>
     by_cases e2:L.length=2
     ·have aH:((L.length:Int) == 2)=true:=by simp [e2]
      go_wp2;go_meet;exact ⟨by rw [<- ac.out,decide_eq_true e2];rfl,rfl⟩
     ·have aH:((L.length:Int) == 2)=false:=ZZf.2 oB
      go_wp2;go_meet;exact ⟨by rw [<- ac.out,decide_eq_false e2];rfl,rfl⟩
   case rest=>
   obtain ⟨rfl,hw⟩:=hcut;obtain rfl:=hw.symm;go_upto_if 65 with fail
   go_cut [5,6] (fun nv okv w'=>∃ nn:Int,nv=.int .i64 nn/\okv=.bool (Qmj L)/\(Qmj L=true->nn=vrN L)/\w'=w1)
   case first=>
    cases qb with
    | false=>
     have EO:Hid (Qmj L=db/\(Qmj L=true->dgV u0*1000000=vrN L)):=Qaa (by
      have hq:=ac.out;unfold Qmj vrN;rw [E0.out,aj.out]
      cases db with
      | false=>exact ⟨rfl,fun h=>by simp at h⟩
      | true=>
       have h2:¬ L.length=2:=by simpa using hq
       exact ⟨by simp [h2],fun _=>by rw [if_neg h2];omega⟩)
     go_wp2;go_meet;exact ⟨_,rfl,by rw [EO.1],EO.2,rfl⟩
    | true=>
     have h2:L.length=2:=by simpa using (Bool.and_eq_true_iff.1 ac).2
     have av:dgB u0=true:=by rw [aj.out];exact (Bool.and_eq_true_iff.1 ac).1
     obtain ⟨u1,ag⟩:∃ u,L[1]?=some u:=⟨L[1]'oB,ZZe _⟩;have c1:=aI.out 1 u1 ag;have aP:=aE.out u1 (ZZn ag);have aO:(1:Int)<(L.length:Int):=oB
     have EO:Hid (Qmj L=(decide (u1.size<=6) && dgB u1)/\vrN L=dgV u0*1000000+dgV u1*10 ^ (6 - u1.size)):=Qaa (by
      have e1:vr1 L=u1:=by unfold vr1;rw [ag];rfl
      unfold Qmj vrN;rw [E0.out,e1,if_pos h2,av];exact ⟨by simp [h2],rfl⟩)
     clear av ag h2;by_cases h6:u1.size<=6
     ·have aJ:(u1.size:Int)<=6:=by omega
      go_wp2_with fail;refine (Qc2 u1 oB w1).mono ?_;rintro e w2 ⟨rfl,hw⟩;obtain rfl:=hw.symm;obtain ⟨m0,m1⟩:=dgV_6 h6;go_wp2_with fail
      go_loopw [7,8] (fun mv kv wr=>wr=w1/\∃ kk:Nat,u1.size<=kk/\kk<=6/\kv=.int .i64 kk/\mv=.int .i64 (dgV u1*10 ^ (kk - u1.size))) (fun mv kv wr=>6 - (Go.RowKit.intOf kv).toNat)
      case atStart=>exact ⟨rfl,u1.size,Nat.le_refl _,h6,rfl,by simp⟩
      case round=>
       obtain ⟨rfl,kk,k1,k2,rfl,rfl⟩:=hrel;by_cases hk:kk<6
       ·have az:(kk:Int)<6:=by omega
        have aY:IntKind.i64.wrap ((kk:Int)+1)=((kk+1:Nat):Int):=by rw [show (kk:Int)+1=((kk+1:Nat):Int) by omega];exact ZZi _ ⟨by omega,by omega⟩
        have hp:(10:Int) ^ (kk+1 - u1.size)=10 ^ (kk - u1.size)*10:=by rw [show kk+1 - u1.size=(kk - u1.size)+1 by omega,Int.pow_succ]
        obtain ⟨z0,z1⟩:=Qta (a:=kk - u1.size) (b:=6 - u1.size) oB;obtain ⟨y0,y1⟩:=Qp5 (u:=u1) oB;have q0:0<=dgV u1*10 ^ (kk - u1.size):=Int.mul_nonneg y0 oB;have q1:dgV u1*10 ^ (kk - u1.size)<=dgV u1*10 ^ (6 - u1.size):=Int.mul_le_mul_of_nonneg_left z1 y0;have aK:IntKind.i64.wrap (dgV u1*10 ^ (kk - u1.size)*10)=dgV u1*10 ^ (kk - u1.size)*10:=ZZi _ ⟨by omega,by omega⟩;have HE:Hid (dgV u1*10 ^ (kk - u1.size)*10=dgV u1*10 ^ (kk+1 - u1.size)):=Qaa (by rw [hp,Int.mul_assoc]);clear hp z0 z1 y0 y1 q0 q1;go_wp2;go_roundw
        case rel=>exact ⟨by first | rfl | trivial,kk+1,by omega,by omega,by first | rfl | trivial | go_num,by first | rfl | rw [HE.out]⟩
        case measure=>simp [zI];omega
       ·obtain rfl:kk=6:=by omega
        have az:¬ ((6:Nat):Int)<6:=oB
        have aB:IntKind.i64.wrap (dgV u0*1000000+dgV u1*10 ^ (6 - u1.size))=dgV u0*1000000+dgV u1*10 ^ (6 - u1.size):=ZZi _ ⟨by omega,by omega⟩;go_wp2;go_meet;exact ⟨_,rfl,by rw [EO.1,decide_eq_true h6];rfl,fun _=>EO.2.symm,rfl⟩
     ·have aJ:¬ (u1.size:Int)<=6:=by omega
      have aM:¬ (u1.size:Int)<6:=oB
      have aS:IntKind.i64.wrap (dgV u0*1000000+0)=dgV u0*1000000+0:=ZZi _ ⟨by omega,by omega⟩;go_wp2_with fail
      go_loopw [7,8] (fun mv kv wr=>wr=w1/\kv=.int .i64 (u1.size:Int)/\mv=.int .i64 0) (fun mv kv wr=>0)
      case atStart=>exact ⟨rfl,rfl,rfl⟩
      case round=>
       obtain ⟨rfl,rfl,rfl⟩:=hrel;go_wp2;go_meet;exact ⟨_,rfl,by rw [EO.1,decide_eq_false h6];rfl,fun h=>(by rw [EO.1,decide_eq_false h6] at h;cases h),rfl⟩
   case rest=>
   obtain ⟨nn,rfl,rfl,ai,hw⟩:=hcut;obtain rfl:=hw.symm
   cases hok:Qmj L with
   | false=>
    have HE:Hid (rvV s=0/\rvC s=3):=Qaa ⟨by rw [HV.out,if_neg (by rw [hok];simp)],by rw [HC.out,if_neg (by rw [hok];simp)]⟩;clear hok ai;exact mCk
   | true=>
    have aG:=ai hok;subst aG;obtain ⟨b0,b1⟩:=QtF ab hok;have aB:IntKind.i64.wrap (-vrN L)=-vrN L:=ZZi _ ⟨by omega,by omega⟩;have HE:Hid (rvV s=(if nb=true then -vrN L else vrN L)/\rvC s=0):=Qaa ⟨by rw [HV.out,if_pos ⟨ab.out,hok⟩],by rw [HC.out,if_pos ⟨ab.out,hok⟩]⟩;clear hok ai
    cases nb with
    | true=>
     have ar:Hid (rvV s=-vrN L):=Qaa (by rw [HE.1,if_pos rfl]);go_wp2;exact bodyPost_ret (v:=.agg #[.int .i64 (-vrN L),.int .i64 0]) (by simp [results,results138,go_sem,s0,s1]) rfl ⟨by rw [ar.out,HE.2],(af.setCell oE _).setCell oE _⟩
    | false=>
     have ar:Hid (rvV s=vrN L):=Qaa (by rw [HE.1,if_neg oE]);go_wp2;exact bodyPost_ret (v:=.agg #[.int .i64 (vrN L),.int .i64 0]) (by simp [results,results138,go_sem,s0,s1]) rfl ⟨by rw [ar.out,HE.2],(af.setCell oE _).setCell oE _⟩
variable {c:UInt8}
section
def Qdb (c:UInt8) (K:List ByteArray):List UInt8:=Lib.join (K.map toL) [c]
theorem QeG (c:UInt8) (x:ByteArray):Qdb c [x]=toL x:=Lib.join_one _ _
theorem QdU (c:UInt8) (y z:ByteArray) (r:List ByteArray):Qdb c (y :: z :: r)=toL y ++ c :: Qdb c (z :: r):=by
 unfold Qdb;exact mEb
theorem QnV {K:List ByteArray} (h:K≠[]) (x:ByteArray):Qdb c (K ++ [x])=Qdb c K ++ c :: toL x:=by
 cases K with
 | nil=>exact absurd rfl h
 | cons y r=>
  unfold Qdb;exact mC5
theorem QfL {c:UInt8}:∀ {K:List ByteArray} {n:Nat},K≠[]->(∀ x∈K,c ∉ toL x)->K.length<=n+1->Lib.splitK [c] 0 n (Qdb c K)=K.map toL
 | [],n,h,_,_=>absurd rfl h
 | [y],n,_,hn,_=>by
  have hi:=QdD (hn y List.mem_cons_self);rw [QeG]
  cases n with
  | zero=>rfl
  | succ n=>unfold Lib.splitK;rw [hi];rfl
 | y :: z :: r,n,_,hn,hl=>by
  cases n with
  | zero=>simp at hl
  | succ n=>
   have hi:=QdY (r:=Qdb c (z :: r)) (hn y List.mem_cons_self);have ih:=QfL (c:=c) (K:=z :: r) (n:=n) oE (fun x hx=>hn x (List.mem_cons_of_mem _ hx)) xC;rw [QdU];unfold Lib.splitK;rw [hi,if_neg oE];simp only [Int.toNat_natCast,Nat.add_zero,List.length_cons,List.length_nil];rw [List.take_left,show (toL y ++ c :: Qdb c (z :: r)).drop ((toL y).length+(0+1))=Qdb c (z :: r) by rw [<- List.drop_drop,List.drop_left];rfl,ih]
   rfl
theorem QgT {c:UInt8}:∀ {K:List ByteArray} {f:Nat},K≠[]->(∀ x∈K,c ∉ toL x)->K.length<=f->Lib.countFrom [c] f (Qdb c K)+1=K.length
 | [],f,h,_,_=>absurd rfl h
 | [y],f,_,hn,hl=>by
  have hi:=QdD (hn y List.mem_cons_self);rw [QeG]
  cases f with
  | zero=>simp at hl
  | succ f=>unfold Lib.countFrom;rw [hi];rfl
 | y :: z :: r,f,_,hn,hl=>by
  cases f with
  | zero=>simp at hl
  | succ f=>
   have hi:=QdY (r:=Qdb c (z :: r)) (hn y List.mem_cons_self);have ih:=QgT (c:=c) (K:=z :: r) (f:=f) oE (fun x hx=>hn x (List.mem_cons_of_mem _ hx)) xC;rw [QdU];unfold Lib.countFrom;rw [hi,if_neg oE];simp only [Int.toNat_natCast,List.length_cons,List.length_nil];rw [show (toL y ++ c :: Qdb c (z :: r)).drop ((toL y).length+(0+1))=Qdb c (z :: r) by rw [<- List.drop_drop,List.drop_left];rfl];simp only [List.length_cons] at ih;omega
theorem QdJ (c:UInt8):∀ (K:List ByteArray),K.length<=(Qdb c K).length+1
 | []=>by simp
 | [y]=>by simp
 | y :: z :: r=>by
  have ih:=QdJ c (z :: r);rw [QdU];simp only [List.length_append,List.length_cons] at ih ⊢;omega
theorem QpQ {c:UInt8}:∀ {l:List UInt8},c∈l->∃ u x,l=u ++ c :: x/\c ∉ x
 | y :: l,h=>by
  by_cases hl:c∈l
  ·obtain ⟨u,x,e,hx⟩:=QpQ hl
   exact ⟨y :: u,x,by rw [e];rfl,hx⟩
  ·rcases List.mem_cons.1 h with rfl | h
   ·exact ⟨[],l,rfl,hl⟩
   ·exact absurd h hl
theorem QcO {c:UInt8}:∀ (n:Nat) (t:ByteArray),t.size<=n->Qa7 t (c.toNat:Int)≠[]/\(∀ x∈Qa7 t (c.toNat:Int),c ∉ toL x)/\Qdb c (Qa7 t (c.toNat:Int))=toL t
 | n,t,hn=>by
  by_cases h:c∈toL t
  ·obtain ⟨u,x,e,hx⟩:=QpQ h
   have hs:=QgY (t:=t) (u:=⟨u.toArray⟩) (x:=⟨x.toArray⟩) (c:=c) (by rw [QaQ,QaQ];exact e) (by rw [QaQ];exact hx);have hl:u.length<t.size:=by rw [<- Qam,e];simp
   match n,hn with
   | 0,hn=>omega
   | n+1,hn=>
    have aa:(⟨u.toArray⟩:ByteArray).size=u.length:=by rw [<- Qam,QaQ]
    obtain ⟨i1,i2,i3⟩:=QcO n ⟨u.toArray⟩ (by rw [aa];omega);rw [hs];refine ⟨by simp,fun y hy=>?_,?_⟩
    ·rcases List.mem_append.1 hy with hy | hy
     ·exact i2 y hy
     ·obtain rfl:=List.mem_singleton.1 hy
      rw [QaQ];exact hx
    ·rw [QnV i1,i3,QaQ,QaQ,e]
  ·rw [Qha h]
   exact ⟨by simp,fun x hx=>by obtain rfl:=List.mem_singleton.1 hx;exact h,QeG c t⟩
theorem QcV (c:UInt8) (t:ByteArray):Lib.splitB ⟨#[c]⟩ 0 (Lib.countB t ⟨#[c]⟩) t=Qa7 t (c.toNat:Int):=by
 obtain ⟨h1,h2,h3⟩:=QcO (c:=c) t.size t (ZZa _)
 have hc:Lib.countB t ⟨#[c]⟩+1=(Qa7 t (c.toNat:Int)).length:=by
  have e:Lib.countB t ⟨#[c]⟩=Lib.countFrom [c] ((toL t).length+1) (toL t):=by
   show Lib.count _ _=_
   unfold Lib.count toL;simp
  rw [e,<- h3];exact QgT h1 h2 (by have:=QdJ c (Qa7 t (c.toNat:Int));omega)
 have hd:=Lib.splitB_data ⟨#[c]⟩ 0 (Lib.countB t ⟨#[c]⟩) t;have hs:=QfL (n:=Lib.countB t ⟨#[c]⟩) h1 h2 oB;rw [h3] at hs;have aa:(Lib.splitB ⟨#[c]⟩ 0 (Lib.countB t ⟨#[c]⟩) t).map toL=(Qa7 t (c.toNat:Int)).map toL:=hd.trans (by simpa [toL] using hs);exact (List.map_inj_right (fun a b e=>QaW e)).1 aa
end
section
def tlF (a:Nat) (l:List UInt8):Nat:=l.foldl (fun a x=>a*10+(x.toNat - 48)) a
def tlD (l:List UInt8):Prop:=∀ x∈l,48<=x.toNat/\x.toNat<=57
theorem Qi9 (a:Nat) (l:List UInt8) (x:UInt8):tlF a (l ++ [x])=tlF a l*10+(x.toNat - 48):=by unfold tlF;rw [List.foldl_append];rfl
theorem Qi1 (a:Nat) (l:List UInt8) (x:UInt8):tlF a (x :: l)=tlF (a*10+(x.toNat - 48)) l:=by unfold tlF;rw [List.foldl_cons]
theorem Qq2:∀ (l:List UInt8) (a:Nat),a<=tlF a l
 | [],a=>ZZa _
 | x :: l,a=>by rw [Qi1];have:=Qq2 l (a*10+(x.toNat - 48));omega
theorem QbT {d:Nat} (h:d<10):(UInt8.ofNat (48+d)).toNat=48+d:=by
 rw [UInt8.toNat_ofNat'];exact Nat.mod_eq_of_lt oB
theorem QgA {x:UInt8} (h:48<=x.toNat/\x.toNat<=57):UInt8.ofNat (48+(x.toNat - 48))=x:=by
 apply UInt8.toNat_inj.1;rw [QbT oB];omega
theorem QtC:∀ (n:Nat) (l:List UInt8),l.length=n+1->tlD l->(1<l.length->l[0]?≠some 48)->Lib.decDigits (tlF 0 l)=l
 | 0,l,hl,hd,_=>by
  obtain ⟨x,rfl⟩:=List.length_eq_one_iff.1 hl;have hx:=hd x oE;have e:tlF 0 [x]=x.toNat - 48:=by simp [tlF]
  rw [e,Lib.decDigits_one oB,QgA hx]
 | n+1,l,hl,hd,h0=>by
  rcases List.eq_nil_or_concat l with rfl | ⟨l',x,rfl⟩
  ·simp at hl
  ·rw [List.concat_eq_append] at hl hd h0 ⊢
   have ab:l'.length=n+1:=by simpa using hl
   have hx:=hd x oE;have aa:tlD l':=fun y hy=>hd y (List.mem_append_left _ hy)
   have ac:l'[0]?≠some 48:=by
    have:=h0 oH
    rwa [List.getElem?_append_left oB] at this
   have ih:=QtC n l' ab aa (fun _=>ac)
   have ad:1<=tlF 0 l':=by
    cases l' with
    | nil=>simp at ab
    | cons y r=>
     rw [Qi1];have hy:=aa y oE;have ae:y≠48:=fun e=>ac oT;have af:y.toNat≠48:=fun e=>ae (UInt8.toNat_inj.1 e);have:=Qq2 r (0*10+(y.toNat - 48));omega
   rw [Qi9,Qdl oB,show (tlF 0 l'*10+(x.toNat - 48)) / 10=tlF 0 l' by omega,show (tlF 0 l'*10+(x.toNat - 48)) % 10=x.toNat - 48 by omega,ih,QgA hx]
theorem QdR (n:Nat):tlD (Lib.decDigits n)/\tlF 0 (Lib.decDigits n)=n/\1<=(Lib.decDigits n).length:=by
 induction n using Nat.strongRecOn with
 | _ n ih=>
  by_cases h:n<10
  ·rw [Lib.decDigits_one h]
   refine ⟨fun x hx=>?_,?_,by simp⟩
   ·rw [List.mem_singleton.1 hx,QbT h];omega
   ·show 0*10+((UInt8.ofNat (48+n)).toNat - 48)=n
    rw [QbT h];omega
  ·obtain ⟨i1,i2,i3⟩:=ih (n / 10) oB
   rw [Qdl h];refine ⟨fun x hx=>?_,?_,by simp⟩
   ·rcases List.mem_append.1 hx with hx | hx
    ·exact i1 x hx
    ·rw [List.mem_singleton.1 hx,QbT (Nat.mod_lt n oB)];have:=Nat.mod_lt n (show 10 > 0 by omega);omega
   ·rw [Qi9,i2,QbT (Nat.mod_lt n oB)];omega
theorem QhZ:∀ (l:List UInt8) (a:Nat),tlD l->tlF a l<=1000000000000->Lib.parseUintM (2 ^ 64 - 1) a l=.ok (tlF a l)
 | [],a,_,_=>rfl
 | x :: l,a,hd,hm=>by
  have hx:=hd x oE;rw [Qi1] at hm ⊢;have h1:=Qq2 l (a*10+(x.toNat - 48));unfold Lib.parseUintM;rw [if_pos hx,if_neg oB,if_neg oB];exact QhZ l _ (fun y hy=>hd y (ZZm _ hy)) hm
def TimP (t:ByteArray) (n:Nat):Prop:=toL t=Lib.decDigits n/\n<=1000000000
theorem TimP.parse (h:TimP t n):Lib.parseUintB 64 (toL t)=.ok n:=by
 obtain ⟨h1,h2,h3⟩:=QdR n;unfold Lib.parseUintB;rw [h.1,if_neg (fun e=>by rw [e] at h3;simp at h3)];have:=QhZ (Lib.decDigits n) 0 h1 (by rw [h2];have:=h.2;omega);rw [this,h2]
theorem QdW:∀ (k n:Nat),n<10 ^ (k+1)->(Lib.decDigits n).length<=k+1
 | 0,n,h=>by rw [Lib.decDigits_one oU];simp
 | k+1,n,h=>by
  by_cases hn:n<10
  ·rw [Lib.decDigits_one hn];simp
  ·rw [Qdl hn,List.length_append]
   have:=QdW k (n / 10) (by rw [Nat.pow_succ] at h;omega);simp only [List.length_cons,List.length_nil];omega
theorem QsN (n:Nat):1<(Lib.decDigits n).length->(Lib.decDigits n)[0]?≠some 48:=by
 induction n using Nat.strongRecOn with
 | _ n ih=>
  by_cases h:n<10
  ·rw [Lib.decDigits_one h];intro hl;simp at hl
  ·intro _
   have h3:=(QdR (n / 10)).2.2;rw [Qdl h,List.getElem?_append_left oB];by_cases h2:n / 10<10
   ·rw [Lib.decDigits_one h2]
    intro e;have e2:UInt8.ofNat (48+n / 10)=48:=by simpa using e
    have e3:=congrArg UInt8.toNat e2;rw [QbT h2] at e3;have:(48:UInt8).toNat=48:=rfl;omega
   ·refine ih (n / 10) oB ?_
    have h4:=(QdR (n / 10 / 10)).2.2;rw [Qdl h2,List.length_append];simp only [List.length_cons,List.length_nil];omega
theorem TimP.spec:(∃ n,TimP t n)↔1<=t.size/\t.size<=10/\(1<t.size->bt t 0≠48)/\tlD (toL t)/\tlF 0 (toL t)<=1000000000:=by
 constructor
 ·rintro ⟨n,h,hn⟩
  obtain ⟨h1,h2,h3⟩:=QdR n;have hl:t.size=(Lib.decDigits n).length:=by rw [<- h,Qam]
  refine ⟨by omega,?_,fun hs e=>?_,by rw [h];exact h1,by rw [h,h2];exact hn⟩
  ·rw [hl];exact QdW 9 n (Nat.lt_of_le_of_lt hn oF)
  ·refine QsN n oB ?_
   rw [<- h];rw [QfQ] at e;have h4:0<(toL t).length:=by rw [Qam];omega
   rw [List.getElem?_eq_getElem h4] at e ⊢
   have e1:(toL t)[0].toNat=48:=by
    simp only [Option.map_some,Option.getD_some] at e;omega
   exact congrArg some (UInt8.toNat_inj.1 e1)
 ·rintro ⟨h1,h2,h3,h4,h5⟩
  refine ⟨tlF 0 (toL t),(QtC (t.size - 1) (toL t) (by rw [Qam];omega) h4 (fun hl e=>?_)).symm,h5⟩;rw [Qam] at hl;refine h3 hl ?_;rw [QfQ,e];rfl
end
section
open Go.Sort
def rcO (t:ByteArray):Option Nat:=match Lib.parseUintB 64 (toL t) with
 | .ok u=>if (⟨(Lib.decDigits u).toArray⟩:ByteArray)=t then some u else none
 | _=>none
theorem Qvj:(rcO t=some n/\n<=1000000000)↔TimP t n:=by
 constructor
 ·rintro ⟨h,hn⟩
  unfold rcO at h
  split at h
  ·split at h
   ·cases h
    rename_i he;exact ⟨by rw [<- he,QaQ],hn⟩
   ·cases h
  ·cases h
 ·intro h
  refine ⟨?_,h.2⟩;unfold rcO;rw [h.parse]
  show (if (⟨(Lib.decDigits n).toArray⟩:ByteArray)=t then some n else none)=some n
  rw [if_pos (QaW (by rw [QaQ];exact h.1.symm))]
def QeW (t:ByteArray):Option Nat:=match rcO t with
 | some n=>if n<=1000000000 then some n else none
 | none=>none
theorem timO_iff:QeW t=some n↔TimP t n:=by
 rw [<- Qvj];unfold QeW;constructor
 ·intro h
  split at h
  ·split at h
   ·cases h;rename_i h1 h2;exact ⟨h1,h2⟩
   ·cases h
  ·cases h
 ·rintro ⟨h,hn⟩
  rw [h]
  show (if n<=1000000000 then some n else none)=some n
  rw [if_pos hn]
end
section
open Classical
def Qa4 (t:ByteArray):Int:=if toL t=[99] then 1 else if toL t=[103] then 2 else if toL t=[104] then 3 else if toL t=[115] then 4 else 0
theorem Qo7 (t:ByteArray):Qa4 t=0∨Qa4 t=1∨Qa4 t=2∨Qa4 t=3∨Qa4 t=4:=by
 unfold Qa4;repeat' split
 all_goals simp
def QaU (t:ByteArray):Nat:=if t.size=0 then 0 else if bt t 0=64 then 1 else if bt t 0=35 then 2 else if bt t 0=84 then 3 else 0
theorem Qjt (t:ByteArray):QaU t<=3:=by
 unfold QaU;repeat' split
 all_goals omega
noncomputable def whV (k:Int) (t:ByteArray):Int:=if k=4 then 0 else rvV t
def whW (k:Int) (t:ByteArray):ByteArray:=if k=4 then t else ByteArray.empty
noncomputable def whB (k:Int) (t:ByteArray):Bool:=if k=4 then Qbg t else decide (rvC t=0)
def raP (k:Int) (r:ByteArray):Prop:=rvC r=0/\1<=rvV r/\rvV r<=1000000/\(k=1∨k=3)
noncomputable def wtV (k:Int) (rd:Bool) (r:ByteArray):Int:=if rd=true then (if raP k r then 1000000 / rvV r else 0) else 1
noncomputable def wtB (k:Int) (rd:Bool) (r:ByteArray):Bool:=if rd=true then (if raP k r then true else false) else true
end
section
structure Pt where
 rd:Bool
 rt:ByteArray
 tg:List ByteArray
 td:Bool
 ti:Nat
def pt0:Pt:=⟨false,ByteArray.empty,[],false,0⟩
def tl1 (p:ByteArray):ByteArray:=p.extract 1 p.size
def QcB (r:Pt) (p:ByteArray):Option Pt:=
 if QaU p=1 then some { r with rd:=true,rt:=tl1 p } else
 if QaU p=2 then some { r with tg:=Qa7 (tl1 p) 44 } else
 if QaU p=3 then (QeW (tl1 p)).map fun n=>{ r with td:=true,ti:=n } else none
def Qhw:Nat->Pt->List ByteArray->Option Pt
 | _,r,[]=>some r
 | a,r,p :: ps=>if QaU p<=a then none else match QcB r p with
  | some r'=>Qhw (QaU p) r' ps
  | none=>none
def Qa3:Nat->Pt->List ByteArray->Option Pt
 | _,r,[]=>some r
 | a,r,p :: ps=>if QaU p<=a then none else match QcB r p with
  | some r'=>if QaU p=2/\¬ r'.tg.all Qbg=true then none else Qa3 (QaU p) r' ps
  | none=>none
theorem Qpw {r:Pt} (h:QaU p<=a):Qhw a r (p :: ps)=none:=by
 unfold Qhw;rw [if_pos h]
theorem QjL {r r':Pt} (h:¬ QaU p<=a) (hs:QcB r p=some r'):Qhw a r (p :: ps)=Qhw (QaU p) r' ps:=by
 rw [Qhw,if_neg h,hs]
theorem Qm3 {r:Pt} (hs:QcB r p=none):Qhw a r (p :: ps)=none:=by
 rw [Qhw];split
 ·rfl
 ·rw [hs]
theorem QmN {r:Pt} (h:QaU p<=a):Qa3 a r (p :: ps)=none:=by
 unfold Qa3;rw [if_pos h]
theorem QcP {r r':Pt} (h:¬ QaU p<=a) (hs:QcB r p=some r') (ht:QaU p=2->r'.tg.all Qbg=true):Qa3 a r (p :: ps)=Qa3 (QaU p) r' ps:=by
 rw [Qa3,if_neg h,hs]
 show (if QaU p=2/\¬ r'.tg.all Qbg=true then none else Qa3 (QaU p) r' ps)=_
 rw [if_neg (fun k=>k.2 (ht k.1))]
theorem Qkz {r r':Pt} (hs:QcB r p=some r') (h2:QaU p=2) (ht:¬ r'.tg.all Qbg=true):Qa3 a r (p :: ps)=none:=by
 rw [Qa3];split
 ·rfl
 ·rw [hs]
  show (if QaU p=2/\¬ r'.tg.all Qbg=true then none else Qa3 (QaU p) r' ps)=_
  rw [if_pos ⟨h2,ht⟩]
theorem QjU {r:Pt} (hs:QcB r p=none):Qa3 a r (p :: ps)=none:=by
 rw [Qa3];split
 ·rfl
 ·rw [hs]
theorem step1 {r:Pt} (h:QaU p=1):QcB r p=some { r with rd:=true,rt:=tl1 p }:=by unfold QcB;rw [if_pos h]
theorem step2 {r:Pt} (h:QaU p=2):QcB r p=some { r with tg:=Qa7 (tl1 p) 44 }:=by unfold QcB;rw [if_neg oB,if_pos h]
theorem QvQ {r:Pt} (h:QaU p=3):QcB r p=(QeW (tl1 p)).map fun n=>{ r with td:=true,ti:=n }:=by unfold QcB;rw [if_neg oB,if_neg oB,if_pos h]
theorem step0 {r:Pt} (h:QaU p=0):QcB r p=none:=by unfold QcB;rw [if_neg oB,if_neg oB,if_neg oB]
theorem QqS {r r':Pt} (h:QcB r p=some r') (h2:QaU p≠2):r'.tg=r.tg:=by
 have hb:=Qjt p;have hc:QaU p=0∨QaU p=1∨QaU p=3:=oB
 rcases hc with h0 | h1 | h3
 ·rw [step0 h0] at h;cases h
 ·rw [step1 h1] at h;cases h;rfl
 ·rw [QvQ h3] at h
  obtain ⟨n,_,rfl⟩:=Option.map_eq_some_iff.1 h;rfl
theorem Qqi:∀ (ps:List ByteArray) (a:Nat) (r r':Pt),2<=a->Qhw a r ps=some r'->r'.tg=r.tg
 | [],a,r,r',_,h=>by unfold Qhw at h;cases h;rfl
 | p :: ps,a,r,r',ha,h=>by
  by_cases hm:QaU p<=a
  ·rw [Qpw hm] at h;cases h
  ·cases hs:QcB r p with
   | none=>rw [Qm3 hs] at h;cases h
   | some r1=>
    rw [QjL hm hs] at h;rw [Qqi ps _ r1 r' oB h,QqS hs oB]
def QpY (r:Pt):Option Pt:=if r.tg.all Qbg=true then some r else none
theorem QeY:∀ (ps:List ByteArray) (a:Nat) (r:Pt),r.tg.all Qbg=true->Qa3 a r ps=(Qhw a r ps).bind QpY
 | [],a,r,h=>by unfold Qa3 Qhw;show _=QpY r;unfold QpY;rw [if_pos h]
 | p :: ps,a,r,h=>by
  by_cases hm:QaU p<=a
  ·rw [Qpw hm,QmN hm];rfl
  ·cases hs:QcB r p with
   | none=>rw [Qm3 hs,QjU hs];rfl
   | some r1=>
    rw [QjL hm hs];by_cases h2:QaU p=2
    ·by_cases ht:r1.tg.all Qbg=true
     ·rw [QcP hm hs (fun _=>ht),QeY ps _ r1 ht]
     ·rw [Qkz hs h2 ht]
      cases hq:Qhw (QaU p) r1 ps with
      | none=>rfl
      | some r2=>
       show none=QpY r2
       unfold QpY;rw [Qqi ps _ r1 r2 oB hq,if_neg ht]
    ·rw [QcP hm hs (fun e=>absurd e h2),QeY ps _ r1 (by rw [QqS hs h2];exact h)]
end
variable {ta:Option Addr}
variable {u0 u1 u2 u3 u4 u5 u6 u7 v:Value}
section
theorem QdK (h:Qat wr ta L) (hne:∀ x,ta=some x->x.block≠B):Qat (wr.setCell ⟨B,i,none⟩ v) ta L:=fun h0=>by
 obtain ⟨b,off,e,hc⟩:=h h0;exact ⟨b,off,e,fun j u hj=>by rw [World.cell?_setCell_other _ _ _ _ (by have:=hne _ e;intro e2;exact this (congrArg Addr.block e2).symm)];exact hc j u hj⟩
theorem Qvs {k:Nat} (h:L[k]?=some y):L.drop k=y :: L.drop (k+1):=by
 obtain ⟨hk,e⟩:=ZZd.1 h;rw [List.drop_eq_getElem_cons hk,e]
theorem QiZ {m:Nat} (h:QaU y=m) (hm:1<=m):0<y.size/\(m=1->bt y 0=64)/\(m=2->bt y 0=35)/\(m=3->bt y 0=84):=by
 unfold QaU at h;by_cases h0:y.size=0
 ·rw [if_pos h0] at h;omega
 rw [if_neg h0] at h;refine ⟨by omega,?_⟩;by_cases h1:bt y 0=64
 ·rw [if_pos h1] at h;exact ⟨fun _=>h1,fun e=>by omega,fun e=>by omega⟩
 rw [if_neg h1] at h;by_cases h2:bt y 0=35
 ·rw [if_pos h2] at h;exact ⟨fun e=>by omega,fun _=>h2,fun e=>by omega⟩
 rw [if_neg h2] at h;by_cases h3:bt y 0=84
 ·rw [if_pos h3] at h;exact ⟨fun e=>by omega,fun e=>by omega,fun _=>h3⟩
 rw [if_neg h3] at h;omega
theorem QnB (y:ByteArray):(tl1 y).size<=y.size:=by unfold tl1;rw [ByteArray.size_extract];omega
theorem Qpb (t:ByteArray):(∀ u∈Qa7 t 44,u.size<=t.size)/\(Qa7 t 44).length<=t.size+1:=by
 have e:Qa7 t 44=Lib.splitB ⟨#[44]⟩ 0 (Lib.countB t ⟨#[44]⟩) t:=(QcV 44 t).symm;refine ⟨fun u hu=>Qc6 _ _ _ u (by rw [<- e];exact hu),?_⟩;have:=QdJ 44 (Qa7 t 44);have h2:Qdb 44 (Qa7 t 44)=toL t:=(QcO (c:=44) t.size t (ZZa _)).2.2;rw [h2,Qam] at this;exact this
end
variable {T:TypeId}
variable {cs:Array Value}
section
def LP (t nm wh kd:ByteArray) (ps:List ByteArray):Prop:=∃ R,toL t=toL nm ++ 58 :: toL R/\(58:UInt8) ∉ toL nm/\Qa7 R 124=wh :: kd :: ps
theorem Qg3 {p r p' r':List UInt8} (h:p ++ c :: r=p' ++ c :: r') (hp:c ∉ p) (hp':c ∉ p'):p=p'/\r=r':=by
 have e:=Qne (r:=r) hp;rw [h,Qne hp'] at e
 cases e
 exact ⟨rfl,rfl⟩
theorem LP.one {wh' kd':ByteArray} {ps':List ByteArray} (h:LP t nm wh kd ps) (k:LP t nm' wh' kd' ps'):nm=nm'/\wh=wh'/\kd=kd'/\ps=ps':=by
 obtain ⟨R,h1,h2,h3⟩:=h;obtain ⟨R',k1,k2,k3⟩:=k;obtain ⟨e1,e2⟩:=Qg3 (h1.symm.trans k1) h2 k2;have e3:=QaW e2;subst e3;rw [h3] at k3
 cases k3
 exact ⟨QaW e1,rfl,rfl,rfl⟩
theorem LP.no1 (hn:(58:UInt8) ∉ toL t) (h:LP t nm wh kd ps):False:=by
 obtain ⟨R,h1,_,_⟩:=h;exact hn (by rw [h1];simp)
theorem QjC (h:Below B w w') {r:Nat} (hr:B<=r) (v0 v1 v2 v3 v4 v5 v6 v7:Value) :
  Below B w ((((((((w'.setCell ⟨r,0,none⟩ v0).setCell ⟨r,1,none⟩ v1).setCell ⟨r,2,none⟩ v2).setCell ⟨r,3,none⟩ v3).setCell ⟨r,4,none⟩ v4).setCell ⟨r,5,none⟩ v5).setCell ⟨r,6,none⟩ v6).setCell ⟨r,7,none⟩ v7):=
 (((((((h.setCell (p:=⟨r,0,none⟩) hr v0).setCell (p:=⟨r,1,none⟩) hr v1).setCell (p:=⟨r,2,none⟩) hr v2).setCell (p:=⟨r,3,none⟩) hr v3).setCell (p:=⟨r,4,none⟩) hr v4).setCell (p:=⟨r,5,none⟩) hr v5).setCell (p:=⟨r,6,none⟩) hr v6).setCell (p:=⟨r,7,none⟩) hr v7
theorem QnI (t:ByteArray) (c:UInt8):(∀ u∈Qa7 t (c.toNat:Int),u.size<=t.size)/\(Qa7 t (c.toNat:Int)).length<=t.size+1:=by
 have e:Qa7 t (c.toNat:Int)=Lib.splitB ⟨#[c]⟩ 0 (Lib.countB t ⟨#[c]⟩) t:=(QcV c t).symm;refine ⟨fun u hu=>Qc6 _ _ _ u (by rw [<- e];exact hu),?_⟩;have:=QdJ c (Qa7 t (c.toNat:Int));rw [(QcO (c:=c) t.size t (Nat.le_refl _)).2.2,Qam] at this;exact this
theorem QbR {r:Nat} (h:w.heap[r]?=some (.cells #[u0,u1,u2,u3,u4,u5,u6,u7] T (0,0))) :
  w.cell? ⟨r,0,none⟩=some u0/\w.cell? ⟨r,1,none⟩=some u1/\w.cell? ⟨r,2,none⟩=some u2/\w.cell? ⟨r,3,none⟩=some u3/\w.cell? ⟨r,4,none⟩=some u4/\w.cell? ⟨r,5,none⟩=some u5/\w.cell? ⟨r,6,none⟩=some u6/\w.cell? ⟨r,7,none⟩=some u7:=
 ⟨by rw [cell_of_row w r 0 _ _ (0,0) h];rfl,by rw [cell_of_row w r 1 _ _ (0,0) h];rfl,by rw [cell_of_row w r 2 _ _ (0,0) h];rfl,by rw [cell_of_row w r 3 _ _ (0,0) h];rfl,by rw [cell_of_row w r 4 _ _ (0,0) h];rfl,by rw [cell_of_row w r 5 _ _ (0,0) h];rfl,by rw [cell_of_row w r 6 _ _ (0,0) h];rfl,by rw [cell_of_row w r 7 _ _ (0,0) h];rfl⟩
theorem Qdp {r:Nat} (h:w.heap[r]?=some (.cells cs T (0,0))) :
  w.frozen? ⟨r,0,none⟩=false/\w.frozen? ⟨r,1,none⟩=false/\w.frozen? ⟨r,2,none⟩=false/\w.frozen? ⟨r,3,none⟩=false/\w.frozen? ⟨r,4,none⟩=false/\w.frozen? ⟨r,5,none⟩=false/\w.frozen? ⟨r,6,none⟩=false/\w.frozen? ⟨r,7,none⟩=false:=
 ⟨frozen_of_row w r 0 _ _ h,frozen_of_row w r 1 _ _ h,frozen_of_row w r 2 _ _ h,frozen_of_row w r 3 _ _ h,frozen_of_row w r 4 _ _ h,frozen_of_row w r 5 _ _ h,frozen_of_row w r 6 _ _ h,frozen_of_row w r 7 _ _ h⟩
theorem row8 {r:Nat} (v0 v1 v2 v3 v4 v5 v6 v7:Value) (h:w.heap[r]?=some (.cells #[u0,u1,u2,u3,u4,u5,u6,u7] T (0,0))) :
  ((((((((w.setCell ⟨r,0,none⟩ v0).setCell ⟨r,1,none⟩ v1).setCell ⟨r,2,none⟩ v2).setCell ⟨r,3,none⟩ v3).setCell ⟨r,4,none⟩ v4).setCell ⟨r,5,none⟩ v5).setCell ⟨r,6,none⟩ v6).setCell ⟨r,7,none⟩ v7).heap[r]?=some (.cells #[v0,v1,v2,v3,v4,v5,v6,v7] T (0,0)):=by
 have h0:(w.setCell ⟨r,0,none⟩ v0).heap[r]?=some (.cells #[v0,u1,u2,u3,u4,u5,u6,u7] T (0,0)):=ZZl _ r 0 _ _ v0 h;have h1:((w.setCell ⟨r,0,none⟩ v0).setCell ⟨r,1,none⟩ v1).heap[r]?=some (.cells #[v0,v1,u2,u3,u4,u5,u6,u7] T (0,0)):=ZZl _ r 1 _ _ v1 h0;have h2:(((w.setCell ⟨r,0,none⟩ v0).setCell ⟨r,1,none⟩ v1).setCell ⟨r,2,none⟩ v2).heap[r]?=some (.cells #[v0,v1,v2,u3,u4,u5,u6,u7] T (0,0)):=ZZl _ r 2 _ _ v2 h1;have h3:((((w.setCell ⟨r,0,none⟩ v0).setCell ⟨r,1,none⟩ v1).setCell ⟨r,2,none⟩ v2).setCell ⟨r,3,none⟩ v3).heap[r]?=some (.cells #[v0,v1,v2,v3,u4,u5,u6,u7] T (0,0)):=ZZl _ r 3 _ _ v3 h2;have h4:(((((w.setCell ⟨r,0,none⟩ v0).setCell ⟨r,1,none⟩ v1).setCell ⟨r,2,none⟩ v2).setCell ⟨r,3,none⟩ v3).setCell ⟨r,4,none⟩ v4).heap[r]?=some (.cells #[v0,v1,v2,v3,v4,u5,u6,u7] T (0,0)):=ZZl _ r 4 _ _ v4 h3;have h5:((((((w.setCell ⟨r,0,none⟩ v0).setCell ⟨r,1,none⟩ v1).setCell ⟨r,2,none⟩ v2).setCell ⟨r,3,none⟩ v3).setCell ⟨r,4,none⟩ v4).setCell ⟨r,5,none⟩ v5).heap[r]?=some (.cells #[v0,v1,v2,v3,v4,v5,u6,u7] T (0,0)):=ZZl _ r 5 _ _ v5 h4;have h6:(((((((w.setCell ⟨r,0,none⟩ v0).setCell ⟨r,1,none⟩ v1).setCell ⟨r,2,none⟩ v2).setCell ⟨r,3,none⟩ v3).setCell ⟨r,4,none⟩ v4).setCell ⟨r,5,none⟩ v5).setCell ⟨r,6,none⟩ v6).heap[r]?=some (.cells #[v0,v1,v2,v3,v4,v5,v6,u7] T (0,0)):=ZZl _ r 6 _ _ v6 h5;have h7:((((((((w.setCell ⟨r,0,none⟩ v0).setCell ⟨r,1,none⟩ v1).setCell ⟨r,2,none⟩ v2).setCell ⟨r,3,none⟩ v3).setCell ⟨r,4,none⟩ v4).setCell ⟨r,5,none⟩ v5).setCell ⟨r,6,none⟩ v6).setCell ⟨r,7,none⟩ v7).heap[r]?=some (.cells #[v0,v1,v2,v3,v4,v5,v6,v7] T (0,0)):=ZZl _ r 7 _ _ v7 h6;exact h7
end
section
structure Sm where
 k:Int
 se:ByteArray
 va:Int
 wd:ByteArray
 wt:Int
 td:Bool
 ti:Nat
 c:Int
def Qdt (c:Int):Sm:=⟨0,ByteArray.empty,0,ByteArray.empty,0,false,0,c⟩
noncomputable def QnU (nm wh kd:ByteArray) (r:Pt):Sm:=
 if Qa4 kd=0 then Qdt 9 else
 if whB (Qa4 kd) wh=false then Qdt 3 else
 if wtB (Qa4 kd) r.rd r.rt=false then Qdt 10 else
 ⟨Qa4 kd,QbM nm r.tg,whV (Qa4 kd) wh,whW (Qa4 kd) wh,wtV (Qa4 kd) r.rd r.rt,r.td,r.ti,0⟩
def LnR (t:ByteArray) (s:Sm):Prop:=(Qjz t=false/\s=Qdt 2)∨(Qjz t=true/\((∃ nm wh kd ps r,LP t nm wh kd ps/\Qhw 0 pt0 ps=some r/\QbM nm r.tg≠ByteArray.empty/\s=QnU nm wh kd r)∨((∀ nm wh kd ps r,LP t nm wh kd ps->Qhw 0 pt0 ps=some r->QbM nm r.tg=ByteArray.empty)/\s=Qdt 3)))
def Qv8 (s:Sm):Value:=.agg #[.int .i64 s.k,.string s.se,.int .i64 s.va,.string s.wd,.int .u64 s.wt,.bool s.td,.int .i64 s.ti,.int .i64 s.c]
theorem Qgf {x:ByteArray} (h:x≠ByteArray.empty):x.toList.isEmpty=false:=by
 rw [ByteArray.toList_eq]
 cases e:x.data.toList with
 | nil=>exact absurd (QaW (show toL x=toL ByteArray.empty from e)) h
 | cons a b=>rfl
theorem QfF {r:Nat} (h:w.heap[r]?=some (.cells #[u0,u1,u2,u3,u4,u5,u6] T (0,0))) :
  w.cell? ⟨r,0,none⟩=some u0/\w.cell? ⟨r,1,none⟩=some u1/\w.cell? ⟨r,2,none⟩=some u2/\w.cell? ⟨r,3,none⟩=some u3/\w.cell? ⟨r,4,none⟩=some u4/\w.cell? ⟨r,5,none⟩=some u5/\w.cell? ⟨r,6,none⟩=some u6:=
 ⟨by rw [cell_of_row w r 0 _ _ (0,0) h];rfl,by rw [cell_of_row w r 1 _ _ (0,0) h];rfl,by rw [cell_of_row w r 2 _ _ (0,0) h];rfl,by rw [cell_of_row w r 3 _ _ (0,0) h];rfl,by rw [cell_of_row w r 4 _ _ (0,0) h];rfl,by rw [cell_of_row w r 5 _ _ (0,0) h];rfl,by rw [cell_of_row w r 6 _ _ (0,0) h];rfl⟩
theorem Qi3 {r:Nat} (h:w.heap[r]?=some (.cells cs T (0,0))) :
  w.frozen? ⟨r,0,none⟩=false/\w.frozen? ⟨r,1,none⟩=false/\w.frozen? ⟨r,2,none⟩=false/\w.frozen? ⟨r,3,none⟩=false/\w.frozen? ⟨r,4,none⟩=false/\w.frozen? ⟨r,5,none⟩=false/\w.frozen? ⟨r,6,none⟩=false:=
 ⟨frozen_of_row w r 0 _ _ h,frozen_of_row w r 1 _ _ h,frozen_of_row w r 2 _ _ h,frozen_of_row w r 3 _ _ h,frozen_of_row w r 4 _ _ h,frozen_of_row w r 5 _ _ h,frozen_of_row w r 6 _ _ h⟩
end
section
theorem QnC (t:ByteArray) (l:List UInt8):(t.toList == l)=decide (toL t=l):=by
 rw [ByteArray.toList_eq];by_cases h:toL t=l
 ·rw [decide_eq_true h];have:t.data.toList=l:=h;rw [this];simp
 ·rw [decide_eq_false h]
  cases e:(t.data.toList == l) with
  | false=>rfl
  | true=>exact absurd (eq_of_beq e) h
theorem QjX (t:ByteArray) (w:World) :
  Calls prog 135 #[.string t] w fun e w'=>e=.returned (.int .i64 (Qa4 t))/\w'=w:=by
 have h1:=QnC t [99];have h2:=QnC t [103];have h3:=QnC t [104];have h4:=QnC t [115];have HK:Hid (Qa4 t=if toL t=[99] then 1 else if toL t=[103] then 2 else if toL t=[104] then 3 else if toL t=[115] then 4 else 0):=(rfl:Qa4 t=_);by_cases k1:toL t=[99]
 ·rw [decide_eq_true k1] at h1
  go_enter func135,ntmps135;go_wp2;go_ret;exact ⟨by rw [HK.out,if_pos k1];rfl,rfl⟩
 rw [decide_eq_false k1] at h1;by_cases k2:toL t=[103]
 ·rw [decide_eq_true k2] at h2
  go_enter func135,ntmps135;go_wp2;go_ret;exact ⟨by rw [HK.out,if_neg k1,if_pos k2];rfl,rfl⟩
 rw [decide_eq_false k2] at h2;by_cases k3:toL t=[104]
 ·rw [decide_eq_true k3] at h3
  go_enter func135,ntmps135;go_wp2;go_ret;exact ⟨by rw [HK.out,if_neg k1,if_neg k2,if_pos k3];rfl,rfl⟩
 rw [decide_eq_false k3] at h3;by_cases k4:toL t=[115]
 ·rw [decide_eq_true k4] at h4
  go_enter func135,ntmps135;go_wp2;go_ret;exact ⟨by rw [HK.out,if_neg k1,if_neg k2,if_neg k3,if_pos k4];rfl,rfl⟩
 rw [decide_eq_false k4] at h4;go_enter func135,ntmps135;go_wp2;go_ret;exact ⟨by rw [HK.out,if_neg k1,if_neg k2,if_neg k3,if_neg k4];rfl,rfl⟩
theorem Qkh {k:Nat} (hk:k<(toL u).length):bt u k=(((toL u)[k]).toNat:Int):=by
 rw [QfQ,List.getElem?_eq_getElem hk];rfl
theorem QjR (u:ByteArray):∀ k,k<=(toL u).length->(Qrv u k=true↔tlD ((toL u).take k))
 | 0,_=>⟨fun _ x hx=>by simp at hx,fun _=>rfl⟩
 | k+1,h=>by
  have ih:=QjR u k oB;have hk:k<(toL u).length:=oB
  unfold Qrv;rw [yB,ih,List.take_succ_eq_append_getElem hk,Qkh hk];constructor
  ·rintro ⟨h1,h2⟩ x hx
   rcases List.mem_append.1 hx with hx | hx
   ·exact h1 x hx
   ·rw [List.mem_singleton.1 hx];have:=Qpn h2;omega
  ·intro h1
   refine ⟨fun x hx=>h1 x (List.mem_append_left _ hx),?_⟩;have:=h1 _ (List.mem_append_right _ (List.mem_singleton.2 rfl));unfold Qf8;rw [decide_eq_true oB,decide_eq_true oB];rfl
theorem Qk9 (u:ByteArray):∀ k,k<=(toL u).length->tlD ((toL u).take k)->Qke u 0 k=(tlF 0 ((toL u).take k):Nat)
 | 0,_,_=>rfl
 | k+1,h,hd=>by
  have hk:k<(toL u).length:=oB
  rw [List.take_succ_eq_append_getElem hk] at hd ⊢;have ih:=Qk9 u k oB (fun x hx=>hd x (List.mem_append_left _ hx));have hx:=hd _ (List.mem_append_right _ (List.mem_singleton.2 rfl));rw [Qi9];unfold Qke;rw [ih,Nat.zero_add,Qkh hk];omega
theorem QiY (u:ByteArray):Qrv u u.size=true↔tlD (toL u):=by
 have:=QjR u u.size oQ
 rwa [List.take_of_length_le oQ] at this
theorem Qlw (h:tlD (toL u)):Qke u 0 u.size=(tlF 0 (toL u):Nat):=by
 have e:(toL u).take u.size=toL u:=List.take_of_length_le oQ;have:=Qk9 u u.size oQ (by rw [e];exact h)
 rwa [e] at this
theorem QiK (h:¬ ∃ n,TimP t n):QeW t=none:=by
 cases e:QeW t with
 | none=>rfl
 | some n=>exact absurd ⟨n,timO_iff.1 e⟩ h
abbrev lnZ (c:Int):Array Value:=#[.int .i64 0,.string ⟨#[]⟩,.int .i64 0,.string ⟨#[]⟩,.int .u64 0,.bool false,.int .i64 0,.int .i64 c]
theorem Qso (c:Int) (w:World) :
  Calls prog 132 #[.int .i64 c] w fun e w'=>e=.returned (Qv8 (Qdt c))/\Bw w w':=by
 go_enter func132,ntmps132;go_wp2;refine bodyPost_ret (v:=.agg (lnZ c)) (by simp [results,results132,go_sem]) rfl ?_;exact mDo
theorem QoF (t:ByteArray) (hz:t.size<=100000) (w:World) :
  Calls prog 195 #[.string t] w fun e w'=>∃ n,e=.returned (.tuple #[.int .i64 n,.bool (QeW t).isSome])/\(∀ m,QeW t=some m->n=m)/\w'=w:=by
 have ai:=get_bt t;have ab:=Qaa (TimP.spec (t:=t));by_cases h0:t.size<1
 ·have af:(t.size:Int)<1:=by omega
  have HE:Hid (QeW t=none):=QiK (fun h=>by have:=(ab.1 h).1;omega);exact mB3
 have af:¬ (t.size:Int)<1:=oB
 by_cases h1:10<t.size
 ·have ag:(10:Int)<(t.size:Int):=by omega
  have HE:Hid (QeW t=none):=QiK (fun h=>by have:=(ab.1 h).2.1;omega);exact mB3
 have ag:¬ (10:Int)<(t.size:Int):=oB
 have al:(0:Int)<(t.size:Int):=oB
 by_cases h2:1<t.size/\bt t 0=48
 ·have ak:(1:Int)<(t.size:Int):=by omega
  have aj:=h2.2;have HE:Hid (QeW t=none):=QiK (fun h=>absurd h2.2 ((ab.1 h).2.2.1 h2.1));exact mB3
 have HV:Hid (QeW t=if dgB t=true/\dgV t<=1000000000 then some (dgV t).toNat else none):=(by
  by_cases hd:dgB t=true/\dgV t<=1000000000
  ·rw [if_pos hd]
   obtain ⟨d1,d2⟩:=hd;unfold dgB at d1;rw [yB] at d1;have ae:=(QiY t).1 d1.1;unfold dgV at d2 ⊢;rw [if_pos d1.1,Qlw ae] at d2 ⊢;have hs:=ab.2 ⟨by omega,by omega,fun hx hy=>h2 ⟨hx,hy⟩,ae,by omega⟩;obtain ⟨n,hn⟩:=hs;rw [timO_iff.2 hn];have e:=(QdR n).2.1;rw [<- hn.1] at e;rw [e];simp
  ·rw [if_neg hd]
   refine QiK (fun h=>hd ?_);obtain ⟨s1,s2,s3,s4,s5⟩:=ab.1 h;have ha:=(QiY t).2 s4;refine ⟨?_,?_⟩
   ·unfold dgB;rw [ha,decide_eq_true (by omega:0<t.size)];rfl
   ·unfold dgV;rw [if_pos ha,Qlw s4];omega:QeW t=_)
 have ad:dgB t=true->0<=dgV t:=fun hb=>by
  unfold dgB at hb;rw [yB] at hb;unfold dgV;rw [if_pos hb.1,Qlw ((QiY t).1 hb.1)];omega
 have HN:=Qaa ad;clear ad
 have aa:(¬ (1:Int)<(t.size:Int))∨((1:Int)<(t.size:Int)/\¬ bt t 0=48):=by
  by_cases hx:1<t.size
  ·exact Or.inr ⟨by omega,fun hy=>h2 ⟨hx,hy⟩⟩
  ·exact Or.inl oB
 have ac:∀ b:Bool,b=(dgB t && decide (dgV t<=1000000000))->b=(QeW t).isSome/\(∀ m,QeW t=some m->dgV t=m):=fun b hb=>by
  rw [HV.out];by_cases hd:dgB t=true/\dgV t<=1000000000
  ·rw [if_pos hd,hb,hd.1,decide_eq_true hd.2]
   exact ⟨rfl,fun m h=>by cases h;have:=HN.out hd.1;omega⟩
  ·rw [if_neg hd,hb]
   refine ⟨?_,fun m h=>by cases h⟩
   cases hg:dgB t with
   | false=>rfl
   | true=>rw [decide_eq_false (fun h=>hd ⟨hg,h⟩)];rfl
 have HF:=Qaa ac;clear ac HV HN ab h2
 cases hg:dgB t with
 | false=>
  rcases aa with hc | ⟨hc,ah⟩
  all_goals
   go_enter func195,ntmps195;go_wp2_with (go_at_call 196;refine (Qc2 t oB _).mono ?_;rw [hg];rintro e w1 ⟨rfl,hw⟩;obtain rfl:=hw.symm);go_ret2;exact ⟨dgV t,by rw [<- (HF.out false XA).1];rfl,(HF.out false XA).2,rfl⟩
 | true=>
  rcases aa with hc | ⟨hc,ah⟩
  all_goals
   go_enter func195,ntmps195;go_wp2_with (go_at_call 196;refine (Qc2 t oB _).mono ?_;rw [hg];rintro e w1 ⟨rfl,hw⟩;obtain rfl:=hw.symm);go_ret2;exact ⟨dgV t,by rw [<- (HF.out (decide (dgV t<=1000000000)) XA).1];rfl,(HF.out (decide (dgV t<=1000000000)) XA).2,rfl⟩
end
section
theorem bel5L (h:Below B w w') {r:Nat} (hr:B<=r) (v0 v1 v2 v3 v4:Value):Below B w (((((w'.setCell ⟨r,0,none⟩ v0).setCell ⟨r,1,none⟩ v1).setCell ⟨r,2,none⟩ v2).setCell ⟨r,3,none⟩ v3).setCell ⟨r,4,none⟩ v4):=(((((h.setCell (p:=⟨r,0,none⟩) hr v0).setCell (p:=⟨r,1,none⟩) hr v1).setCell (p:=⟨r,2,none⟩) hr v2).setCell (p:=⟨r,3,none⟩) hr v3).setCell (p:=⟨r,4,none⟩) hr v4)
theorem Qqm {r:Nat} (h:Qat w' ta L) (hn:∀ x,ta=some x->x.block≠r) (v0 v1 v2 v3 v4:Value):Qat (((((w'.setCell ⟨r,0,none⟩ v0).setCell ⟨r,1,none⟩ v1).setCell ⟨r,2,none⟩ v2).setCell ⟨r,3,none⟩ v3).setCell ⟨r,4,none⟩ v4) ta L:=QdK (QdK (QdK (QdK (QdK (h) hn) hn) hn) hn) hn
theorem QfP {r:Nat} (h:w.heap[r]?=some (.cells #[u0,u1,u2,u3,u4] T (0,0))) :
  w.cell? ⟨r,0,none⟩=some u0/\w.cell? ⟨r,1,none⟩=some u1/\w.cell? ⟨r,2,none⟩=some u2/\w.cell? ⟨r,3,none⟩=some u3/\w.cell? ⟨r,4,none⟩=some u4:=
 ⟨by rw [cell_of_row w r 0 _ _ (0,0) h];rfl,by rw [cell_of_row w r 1 _ _ (0,0) h];rfl,by rw [cell_of_row w r 2 _ _ (0,0) h];rfl,by rw [cell_of_row w r 3 _ _ (0,0) h];rfl,by rw [cell_of_row w r 4 _ _ (0,0) h];rfl⟩
theorem Qib {r:Nat} (h:w.heap[r]?=some (.cells cs T (0,0))) :
  w.frozen? ⟨r,0,none⟩=false/\w.frozen? ⟨r,1,none⟩=false/\w.frozen? ⟨r,2,none⟩=false/\w.frozen? ⟨r,3,none⟩=false/\w.frozen? ⟨r,4,none⟩=false:=
 ⟨frozen_of_row w r 0 _ _ h,frozen_of_row w r 1 _ _ h,frozen_of_row w r 2 _ _ h,frozen_of_row w r 3 _ _ h,frozen_of_row w r 4 _ _ h⟩
structure MS (w wr:World) (r:Pt) (ta:Option Addr) (tc:Nat):Prop where
 res:wr.heap[w.heap.size]?=some (.cells zAh 186 (0,0))
 box:wr.heap[w.heap.size+1]?=some (.cells #[.string r.rt,.bool r.rd,.slice ta r.tg.length tc,.bool r.td,.int .i64 r.ti] 186 (0,0))
 tags:Qat wr ta r.tg
 tne:∀ x,ta=some x->w.heap.size+1<x.block
 bel:Bw w wr
theorem MS.lt {r:Pt} (h:MS w wr r ta tc):w.heap.size+1<wr.heap.size:=by
 rcases Nat.lt_or_ge (w.heap.size+1) wr.heap.size with h' | h'
 ·exact h'
 ·have:=h.box;rw [Array.getElem?_eq_none h'] at this;cases this
theorem MS.past {w2:World} {r:Pt} (h:MS w wr r ta tc) (hb:Bw wr w2):MS w w2 r ta tc:=
 ⟨by rw [hb.block _ (oA h.lt)];exact h.res,by rw [hb.block _ h.lt];exact h.box,QaA h.tags hb,h.tne,Qac h.bel hb⟩
theorem MS.set {r r':Pt} {tb:Option Addr} {td:Nat} (h:MS w wr r ta tc) (hb:(wr.setCell ⟨w.heap.size+1,i,none⟩ v).heap[w.heap.size+1]?=some (.cells #[.string r'.rt,.bool r'.rd,.slice tb r'.tg.length td,.bool r'.td,.int .i64 r'.ti] 186 (0,0))) (hT:Qat wr tb r'.tg) (hn:∀ x,tb=some x->w.heap.size+1<x.block):MS w (wr.setCell ⟨w.heap.size+1,i,none⟩ v) r' tb td:=
 ⟨by rw [Below.heap_setCell _ _ _ _ (by show w.heap.size≠w.heap.size+1;omega)];exact h.res,hb,QdK hT (fun x e=>by have:=hn x e;omega),hn,h.bel.setCell (by show w.heap.size<=w.heap.size+1;omega) _⟩
theorem MS.fin {r:Pt} (h:MS w wr r ta tc) (v0 v1 v2 v3 v4:Value):Qat (((((wr.setCell ⟨w.heap.size,0,none⟩ v0).setCell ⟨w.heap.size,1,none⟩ v1).setCell ⟨w.heap.size,2,none⟩ v2).setCell ⟨w.heap.size,3,none⟩ v3).setCell ⟨w.heap.size,4,none⟩ v4) ta r.tg/\Bw w (((((wr.setCell ⟨w.heap.size,0,none⟩ v0).setCell ⟨w.heap.size,1,none⟩ v1).setCell ⟨w.heap.size,2,none⟩ v2).setCell ⟨w.heap.size,3,none⟩ v3).setCell ⟨w.heap.size,4,none⟩ v4):=
 ⟨Qqm h.tags (fun x e=>by have:=h.tne x e;omega) _ _ _ _ _,bel5L h.bel (ZZa _) _ _ _ _ _⟩
theorem QuF (h:QaU y=0) (h0:¬ y.size=0):¬ bt y 0=64/\¬ bt y 0=35/\¬ bt y 0=84:=by
 unfold QaU at h;rw [if_neg h0] at h;refine ⟨fun e=>?_,fun e=>?_,fun e=>?_⟩
 ·rw [if_pos e] at h;omega
 ·rw [if_neg oB,if_pos e] at h;omega
 ·rw [if_neg oB,if_neg oB,if_pos e] at h;omega
def MoO (w:World) (L:List ByteArray) (e:Ending) (w':World):Prop:=∃ r ta tc,e=.returned (.tuple #[.agg #[.string r.rt,.bool r.rd,.slice ta r.tg.length tc,.bool r.td,.int .i64 r.ti],.bool (Qa3 0 pt0 L).isSome])/\(∀ r',Qa3 0 pt0 L=some r'->r'=r)/\Qat w' ta r.tg/\(∀ u∈r.tg,u.size<=20000)/\r.tg.length<=20001/\r.rt.size<=20000/\Bw w w'
theorem QkD {ao:Option Addr} (c n:Nat) (hn:L.length=n) (hl:n<=20100) (hu:∀ u∈L,u.size<=20000) (hA:Qat w ao L) :
  Calls prog 134 #[.slice ao n c] w (MoO w L):=by
 have HA:=Qaa hA;have HN:=Qaa hn;have HU:=Qaa hu;clear hA hn hu;go_enter func134,ntmps134;go_wp2
 go_loopw [5,6] (fun la i wr=>∃ (k a:Nat) (r:Pt) (ta:Option Addr) (tc:Nat),k<=n/\a<=3/\i=.int .i64 k/\la=.int .i64 a/\Hid (Qa3 0 pt0 L=Qa3 a r (L.drop k))/\Hid (MS w wr r ta tc)/\Hid ((∀ u∈r.tg,u.size<=20000)/\r.tg.length<=20001/\r.rt.size<=20000)) (fun la i wr=>n - (Go.RowKit.intOf i).toNat)
 case atStart=>
  refine ⟨0,0,pt0,none,0,ZZj _,by omega,rfl,rfl,rfl,?_,⟨(fun u hu=>by cases hu),(by show 0<=20001;omega),(by show 0<=20000;omega)⟩⟩;have e1:=ZZk w (.cells zAh 186);have e2:=ZZk (w.alloc (.cells zAh 186)) (.cells zAh 186);rw [World.size_alloc] at e2;exact ⟨by rw [Below.heap_alloc _ _ _ (by rw [World.size_alloc];omega)];exact e1,e2,(fun h=>absurd h (Nat.lt_irrefl 0)),(fun x e=>by cases e),((Below.refl _ _).alloc (Nat.le_refl _) _).alloc (by rw [World.size_alloc];omega) _⟩
 case round=>
  obtain ⟨k,a,r,ta,tc,hk,ha,rfl,rfl,HI,HT,HS⟩:=hrel;by_cases au:k<n
  ·obtain ⟨b,az,e,ac⟩:=QaA HA HT.bel (oA HN.out)
   obtain ⟨y,hy⟩:∃ y,L[k]?=some y:=⟨L[k]'(oA HN.out),ZZe _⟩;subst e;have ap:=ac k y hy;have HY:=Qaa (Qvs hy);have aw:=HU.out y (ZZn hy);clear ac hy;have ay:=get_bt y;have ax:=Qjt y;obtain ⟨r0,r1,r2,r3,r4⟩:=QfP HT.res;obtain ⟨f0,f1,f2,f3,f4⟩:=Qib HT.res;obtain ⟨q0,q1,q2,q3,q4⟩:=QfP HT.box;obtain ⟨g0,g1,g2,g3,g4⟩:=Qib HT.box;by_cases hm:QaU y<=a
   ·have HE:Hid (Qa3 0 pt0 L=none):=Qaa (by rw [HI.out,HY.out,QmN hm])
    by_cases h0:y.size=0
    ·have e:y=ByteArray.empty:=QaW (List.eq_nil_of_length_eq_zero (by rw [Qam];exact h0))
     subst e;exact mAc
    ·have ar:y.toList.isEmpty=false:=Qgf (fun e=>h0 oT)
     have ah:(0:Int)<(y.size:Int):=oB
     have ai:QaU y=0∨QaU y=1∨QaU y=2∨QaU y=3:=oB
     rcases ai with h4 | h1 | h2 | h3
     ·obtain ⟨n1,n2,n3⟩:=QuF h4 h0
      exact mAc
     ·have ae:=(QiZ h1 oB).2.1 rfl
      have af:¬ (a:Int)<1:=oB
      exact mAc
     ·have ae:=(QiZ h2 oB).2.2.1 rfl
      have af:¬ (a:Int)<2:=oB
      exact mAc
     ·have ae:=(QiZ h3 oB).2.2.2 rfl
      have af:¬ (a:Int)<3:=oB
      exact mAc
   ·obtain ⟨am,p1,p2,p3⟩:=QiZ (y:=y) rfl oB
    have ar:y.toList.isEmpty=false:=Qgf (fun e=>by rw [e] at am;exact absurd am (Nat.lt_irrefl 0));have ah:(0:Int)<(y.size:Int):=oB
    have av:=QnB y;have ai:QaU y=1∨QaU y=2∨QaU y=3:=oB
    rcases ai with h1 | h2 | h3
    ·have ae:=p1 h1
     have af:(a:Int)<1:=oB
     have HX:Hid (Qa3 0 pt0 L=Qa3 1 { r with rd:=true,rt:=tl1 y } (L.drop (k+1))):=Qaa (by rw [HI.out,HY.out,QcP hm (step1 h1) (fun e=>by omega),h1]);have aa:=Qaa (HT.set (r':={ r with rd:=true }) (tb:=ta) (td:=tc) (i:=1) (v:=.bool true) (ZZl wr (w.heap.size+1) 1 _ _ (.bool true) HT.box) HT.tags HT.tne);have aj:=Qaa (aa.set (r':={ r with rd:=true,rt:=tl1 y }) (tb:=ta) (td:=tc) (i:=0) (v:=.string (tl1 y)) (ZZl _ (w.heap.size+1) 0 _ _ (.string (tl1 y)) aa.box) aa.tags aa.tne);go_wp2;go_roundw
     case rel=>exact ⟨k+1,1,_,ta,tc,by omega,by omega,by go_num,rfl,HX,aj,HS.1,HS.2.1,(by show (tl1 y).size<=20000;omega)⟩
     case measure=>simp [zI];omega
    ·have ae:=p2 h2
     have af:(a:Int)<2:=oB
     have HZ:=Qaa (Qpb (tl1 y));go_wp2_with fail;refine (Qd0 (tl1 y) 44 oB ⟨by omega,by omega⟩ _).mono ?_;rintro e w2 ⟨g,ad,rfl,hg,hS,ak⟩;have ag:=Qaa (HT.past ak);have an:=HT.lt;have al:Hid (Qat w2 (some ⟨g,0,none⟩) (Qa7 (tl1 y) 44)):=Qaa (fun _=>⟨g,0,rfl,fun j u hj=>by rw [Nat.zero_add];exact hS j u hj⟩);have ab:=Qaa (ag.set (r':={ r with tg:=Qa7 (tl1 y) 44 }) (tb:=some ⟨g,0,none⟩) (td:=ad) (i:=2) (v:=.slice (some ⟨g,0,none⟩) (Qa7 (tl1 y) 44).length ad) (ZZl w2 (w.heap.size+1) 2 _ _ (.slice (some ⟨g,0,none⟩) (Qa7 (tl1 y) 44).length ad) ag.box) al (fun x e=>by cases e;show w.heap.size+1<g;omega));clear hS ak r0 r1 r2 r3 r4 f0 f1 f2 f3 f4 q0 q1 q2 q3 q4 g0 g1 g2 g3 g4 ap;obtain ⟨q0,q1,q2,q3,q4⟩:=QfP ag.box;obtain ⟨g0,g1,g2,g3,g4⟩:=Qib ag.box;go_wp2_with fail;generalize World.setCell _ _ _=w3 at ab ⊢;clear q0 q1 q2 q3 q4 g0 g1 g2 g3 g4 ag al;refine (Qcn ad _ rfl (by have:=HZ.2;show (Qa7 (tl1 y) 44).length<=1048576;omega) (fun u hu=>by have:=HZ.1 u hu;unfold maxLen;omega) ab.tags).mono ?_;rintro e w4 ⟨rfl,hw⟩;obtain rfl:=hw.symm;obtain ⟨r0,r1,r2,r3,r4⟩:=QfP ab.res;obtain ⟨f0,f1,f2,f3,f4⟩:=Qib ab.res;obtain ⟨q0,q1,q2,q3,q4⟩:=QfP ab.box
     cases hta:(Qa7 (tl1 y) 44).all Qbg with
     | false=>
      have HE:Hid (Qa3 0 pt0 L=none):=Qaa (by rw [HI.out,HY.out,Qkz (step2 h2) h2 (by rw [hta];simp)]);go_wp2;refine bodyPost_ret (v:=.tuple #[.agg #[.string r.rt,.bool r.rd,.slice (some ⟨g,0,none⟩) (Qa7 (tl1 y) 44).length ad,.bool r.td,.int .i64 r.ti],.bool false]) (by simp [results,results134,go_sem,r0,r1,r2,r3,r4]) rfl ?_;unfold MoO;exact ⟨{ r with tg:=Qa7 (tl1 y) 44 },some ⟨g,0,none⟩,ad,by rw [HE.out];rfl,(fun r' h=>by rw [HE.out] at h;cases h),(ab.fin _ _ _ _ _).1,(fun u hu=>by have:=HZ.1 u hu;omega),OR,HS.2.2,(ab.fin _ _ _ _ _).2⟩
     | true=>
      have HX:Hid (Qa3 0 pt0 L=Qa3 2 { r with tg:=Qa7 (tl1 y) 44 } (L.drop (k+1))):=Qaa (by rw [HI.out,HY.out,QcP hm (step2 h2) (fun _=>hta),h2]);go_wp2;go_roundw
      case rel=>exact ⟨k+1,2,_,_,ad,by omega,by omega,by go_num,rfl,HX,ab,(fun u hu=>by have:=HZ.1 u hu;omega),OR,HS.2.2⟩
      case measure=>simp [zI];omega
    ·have ae:=p3 h3
     have af:(a:Int)<3:=oB
     go_wp2_with fail;refine (QoF (tl1 y) oB _).mono ?_;rintro e w2 ⟨nn,rfl,aq,hw⟩;obtain rfl:=hw.symm
     cases ht:QeW (tl1 y) with
     | none=>
      have HE:Hid (Qa3 0 pt0 L=none):=Qaa (by rw [HI.out,HY.out,QjU (by rw [QvQ h3,ht];rfl)]);exact mAc
     | some m=>
      obtain rfl:=aq m ht;have HX:Hid (Qa3 0 pt0 L=Qa3 3 { r with td:=true,ti:=m } (L.drop (k+1))):=Qaa (by rw [HI.out,HY.out,QcP hm (r':={ r with td:=true,ti:=m }) (by rw [QvQ h3,ht];rfl) (fun e=>by omega),h3]);have aa:=Qaa (HT.set (r':={ r with td:=true }) (tb:=ta) (td:=tc) (i:=3) (v:=.bool true) (ZZl wr (w.heap.size+1) 3 _ _ (.bool true) HT.box) HT.tags HT.tne);have aj:=Qaa (aa.set (r':={ r with td:=true,ti:=m }) (tb:=ta) (td:=tc) (i:=4) (v:=.int .i64 m) (ZZl _ (w.heap.size+1) 4 _ _ (.int .i64 m) aa.box) aa.tags aa.tne);go_wp2;go_roundw
      case rel=>exact ⟨k+1,3,_,ta,tc,by omega,by omega,by go_num,rfl,HX,aj,HS⟩
      case measure=>simp [zI];omega
  ·have HE:Hid (Qa3 0 pt0 L=some r):=Qaa (by rw [HI.out,List.drop_eq_nil_of_le (oA HN.out)];unfold Qa3;rfl)
   obtain ⟨r0,r1,r2,r3,r4⟩:=QfP HT.res;obtain ⟨f0,f1,f2,f3,f4⟩:=Qib HT.res;obtain ⟨q0,q1,q2,q3,q4⟩:=QfP HT.box;obtain ⟨g0,g1,g2,g3,g4⟩:=Qib HT.box;go_wp2;refine bodyPost_ret (v:=.tuple #[.agg #[.string r.rt,.bool r.rd,.slice ta r.tg.length tc,.bool r.td,.int .i64 r.ti],.bool true]) (by simp [results,results134,go_sem,r0,r1,r2,r3,r4]) rfl ?_;unfold MoO;exact ⟨r,ta,tc,by rw [HE.out];rfl,(fun r' h=>by rw [HE.out] at h;cases h;rfl),(HT.fin _ _ _ _ _).1,HS.1,HS.2.1,HS.2.2,(HT.fin _ _ _ _ _).2⟩
end
variable {k:Int}
section
def SmB (w:World) (b:Nat) (k:Int) (se:ByteArray) (va:Int) (wd:ByteArray) (wt:Int) (td:Bool) (ti:Int):Prop:=w.heap[b]?=some (.cells #[.int .i64 k,.string se,.int .i64 va,.string wd,.int .u64 wt,.bool td,.int .i64 ti] 85 (0,0))
theorem Qro (b:Nat) {se:ByteArray} {wt:Int} {td:Bool} {ti:Int} (t:ByteArray) (hz:t.size<=100000) (hB:SmB w b k se 0 ByteArray.empty wt td ti) :
  Calls prog 137 #[.pointer (some ⟨b,0,none⟩),.string t] w fun e w'=>∃ c,e=.returned (.int .i64 c)/\(c=0↔whB k t=true)/\(whB k t=true->SmB w' b k se (whV k t) (whW k t) wt td ti)/\(∀ x,x≠b->x<w.heap.size->w'.heap[x]?=w.heap[x]?)/\Below b w w':=by
 have hm:t.size<=maxLen:=by unfold maxLen;omega
 have hb:b<w.heap.size:=by
  rcases Nat.lt_or_ge b w.heap.size with h' | h'
  ·exact h'
  ·unfold SmB at hB;rw [Array.getElem?_eq_none h'] at hB;cases hB
 have HB:=Qaa hB;unfold SmB at hB;obtain ⟨q0,q1,q2,q3,q4,q5,q6⟩:=QfF hB;obtain ⟨g0,g1,g2,g3,g4,g5,g6⟩:=Qi3 hB;by_cases h:k=4
 ·have H1:Hid (whV k t=0/\whW k t=t/\whB k t=Qbg t):=Qaa (by unfold whV whW whB;rw [if_pos h,if_pos h,if_pos h];exact ⟨rfl,rfl,rfl⟩)
  have H2:=Qaa (ZZl w b 3 _ _ (.string t) hB);clear hB
  cases ht:Qbg t with
  | false=>
   go_enter func137,ntmps137;go_wp2_with (go_at_call 141;refine (Qbp _ _ hm).mono ?_;rw [ht];rintro e w1 ⟨rfl,hw⟩;obtain rfl:=hw.symm);go_ret;refine ⟨3,rfl,?_,?_,(fun x hx _=>Below.heap_setCell w ⟨b,3,none⟩ _ x hx),(ZZb b w).setCell (p:=⟨b,3,none⟩) (ZZa _) _⟩
   ·rw [H1.2.2,ht];simp
   ·rw [H1.2.2,ht];simp
  | true=>
   go_enter func137,ntmps137;go_wp2_with (go_at_call 141;refine (Qbp _ _ hm).mono ?_;rw [ht];rintro e w1 ⟨rfl,hw⟩;obtain rfl:=hw.symm);go_ret;refine ⟨0,rfl,?_,?_,(fun x hx _=>Below.heap_setCell w ⟨b,3,none⟩ _ x hx),(ZZb b w).setCell (p:=⟨b,3,none⟩) (ZZa _) _⟩
   ·rw [H1.2.2,ht];simp
   ·intro _;rw [H1.1,H1.2.1];exact H2.out
 ·have H1:Hid (whV k t=rvV t/\whW k t=ByteArray.empty/\whB k t=decide (rvC t=0)):=Qaa (by unfold whV whW whB;rw [if_neg h,if_neg h,if_neg h];exact ⟨rfl,rfl,rfl⟩)
  clear hB;go_enter func137,ntmps137;go_wp2_with fail;refine (QeZ t hm w).mono ?_;rintro e w1 ⟨rfl,ae⟩;have aa:SmB w1 b k se 0 ByteArray.empty wt td ti:=by unfold SmB;rw [ae.block _ hb];exact HB.out
  have ac:=Qaa ae;clear q0 q1 q2 q3 q4 q5 q6 g0 g1 g2 g3 g4 g5 g6 ae;unfold SmB at aa;obtain ⟨q0,q1,q2,q3,q4,q5,q6⟩:=QfF aa;obtain ⟨g0,g1,g2,g3,g4,g5,g6⟩:=Qi3 aa;have H2:=Qaa (ZZl w1 b 2 _ _ (.int .i64 (rvV t)) aa);have ab:b<w1.heap.size:=Nat.lt_of_lt_of_le hb ac.size;have ad:¬ b=w1.heap.size:=oB
  have ag:¬ w1.heap.size=b:=oB
  have ai:∀ o,(w1.alloc o).frozen? ⟨b,2,none⟩=false:=fun o=>frozen_of_row _ b 2 _ _ (by rw [Below.heap_alloc _ _ _ ab];exact aa);have ah:∀ o x,((w1.alloc o).setCell ⟨b,2,none⟩ x).cell? ⟨w1.heap.size,1,none⟩=(w1.alloc o).cell? ⟨w1.heap.size,1,none⟩:=fun o x=>World.cell?_setCell_far _ _ _ _ ad;clear aa;go_wp2;go_ret;have af:=((ZZb b w1).setCell (p:=⟨b,2,none⟩) (ZZa _) (.int .i64 (rvV t))).size;refine ⟨rvC t,rfl,?_,fun _=>?_,fun x hx hxl=>?_,((ac.mono (Nat.le_of_lt hb)).setCell (p:=⟨b,2,none⟩) (ZZa _) _).alloc (Nat.le_trans (Nat.le_of_lt ab) af) _⟩
  ·rw [H1.2.2];simp
  ·unfold SmB
   rw [Below.heap_alloc _ _ _ oB,H1.1,H1.2.1];exact H2.out
  ·rw [Below.heap_alloc _ _ _ (oA ac.size),Below.heap_setCell _ _ _ _ (by show x≠b;exact hx),ac.block _ hxl]
theorem Qtc (h:QaF nm=false):QbM nm L=ByteArray.empty:=by unfold QbM;rw [if_neg (by rw [h];simp)]
theorem QrR (h:¬ L.all Qbg=true):QbM nm L=ByteArray.empty:=by unfold QbM;rw [if_neg (fun k=>h k.2)]
theorem QpP (h:QaF nm=true) (k:L.all Qbg=true):QbM nm L=Qb6 nm L:=by unfold QbM;rw [if_pos ⟨h,k⟩]
theorem LnR.bad (hf:Qjz t=true) (h:∀ nm wh kd ps r,LP t nm wh kd ps->Qhw 0 pt0 ps=some r->QbM nm r.tg=ByteArray.empty):LnR t (Qdt 3):=Or.inr ⟨hf,Or.inr ⟨h,rfl⟩⟩
theorem LnR.good {r:Pt} (hf:Qjz t=true) (h:LP t nm wh kd ps) (hm:Qa3 0 pt0 ps=some r) (hn:QaF nm=true) (hs:Qb6 nm r.tg≠ByteArray.empty):LnR t (QnU nm wh kd r)/\QbM nm r.tg=Qb6 nm r.tg:=by
 rw [QeY ps 0 pt0 rfl] at hm
 cases hq:Qhw 0 pt0 ps with
 | none=>rw [hq] at hm;cases hm
 | some r1=>
  rw [hq] at hm;have aa:QpY r1=some r:=hm;unfold QpY at aa
  split at aa
  ·cases aa
   rename_i ht;have e:=QpP hn ht;exact ⟨Or.inr ⟨hf,Or.inl ⟨nm,wh,kd,ps,r,h,hq,by rw [e];exact hs,rfl⟩⟩,e⟩
  ·cases aa
theorem Qkw {r:Pt} (hm:Qa3 0 pt0 ps=some r):Qhw 0 pt0 ps=some r/\r.tg.all Qbg=true:=by
 rw [QeY ps 0 pt0 rfl] at hm
 cases hq:Qhw 0 pt0 ps with
 | none=>rw [hq] at hm;cases hm
 | some r1=>
  rw [hq] at hm;have aa:QpY r1=some r:=hm;unfold QpY at aa
  split at aa
  ·cases aa;rename_i ht;exact ⟨rfl,ht⟩
  ·cases aa
theorem LnR.bad2 (hf:Qjz t=true) (h:LP t nm wh kd ps) (hm:Qa3 0 pt0 ps=none):LnR t (Qdt 3):=LnR.bad hf (fun nm' wh' kd' ps' r' k1 k2=>by
 obtain ⟨rfl,rfl,rfl,rfl⟩:=h.one k1;refine QrR (fun hall=>?_);rw [QeY ps 0 pt0 rfl,k2] at hm;have hf1:QpY r'=none:=hm;unfold QpY at hf1;rw [if_pos hall] at hf1;cases hf1)
theorem LnR.bad3 {r:Pt} (hf:Qjz t=true) (h:LP t nm wh kd ps) (hm:Qa3 0 pt0 ps=some r) (hn:QaF nm=true) (hs:Qb6 nm r.tg=ByteArray.empty):LnR t (Qdt 3):=LnR.bad hf (fun nm' wh' kd' ps' r' k1 k2=>by
 obtain ⟨rfl,rfl,rfl,rfl⟩:=h.one k1;obtain ⟨m1,m2⟩:=Qkw hm;rw [m1] at k2;cases k2;rw [QpP hn m2];exact hs)
end
variable {rd:Bool}
section
theorem QtS {b:UInt8} (h:∀ j,j<t.size->¬ bt t j=(b.toNat:Int)):b ∉ toL t:=fun hm=>by
 obtain ⟨j,hj,e⟩:=List.mem_iff_getElem.1 hm;refine h j (by rw [<- Qam];exact hj) ?_;rw [Qkh hj,e]
theorem at_bt {k:Nat} (hk:k<t.size) (hb:bt t k=58) (h:∀ j,j<k->¬ bt t j=58):toL t=toL (t.extract 0 k) ++ 58 :: toL (t.extract (k+1) t.size)/\(58:UInt8) ∉ toL (t.extract 0 k):=by
 have hl:k<(toL t).length:=by rw [Qam];exact hk
 have aa:(toL t)[k]=58:=by
  rw [Qkh hl] at hb;refine UInt8.toNat_inj.1 ?_;have:(58:UInt8).toNat=58:=rfl;omega
 constructor
 ·have e1:toL (t.extract 0 k)=(toL t).take k:=by rw [Qa6,List.drop_zero]
  have e2:toL (t.extract (k+1) t.size)=(toL t).drop (k+1):=by rw [Qa6,List.take_of_length_le oQ]
  rw [e1,e2,<- aa,<- List.drop_eq_getElem_cons hl];exact (List.take_append_drop k (toL t)).symm
 ·refine QtS (fun j hj=>?_)
  rw [ByteArray.size_extract] at hj;rw [Qof t 0 k j oB oB,Nat.zero_add];exact h j oB
theorem Qba (c:Int) (w:World) :
  Calls prog 132 #[.int .i64 c] w fun e w'=>e=.returned (.agg (lnZ c))/\Bw w w':=Qso c w
theorem row7 {r:Nat} (v0 v1 v2 v3 v4 v5 v6:Value) (h:w.heap[r]?=some (.cells #[u0,u1,u2,u3,u4,u5,u6] T (0,0))) :
  (((((((w.setCell ⟨r,0,none⟩ v0).setCell ⟨r,1,none⟩ v1).setCell ⟨r,2,none⟩ v2).setCell ⟨r,3,none⟩ v3).setCell ⟨r,4,none⟩ v4).setCell ⟨r,5,none⟩ v5).setCell ⟨r,6,none⟩ v6).heap[r]?=some (.cells #[v0,v1,v2,v3,v4,v5,v6] T (0,0)):=by
 have h0:(w.setCell ⟨r,0,none⟩ v0).heap[r]?=some (.cells #[v0,u1,u2,u3,u4,u5,u6] T (0,0)):=ZZl _ r 0 _ _ v0 h;have h1:((w.setCell ⟨r,0,none⟩ v0).setCell ⟨r,1,none⟩ v1).heap[r]?=some (.cells #[v0,v1,u2,u3,u4,u5,u6] T (0,0)):=ZZl _ r 1 _ _ v1 h0;have h2:=ZZl _ r 2 _ _ v2 h1;have h3:=ZZl _ r 3 _ _ v3 h2;have h4:=ZZl _ r 4 _ _ v4 h3;have h5:=ZZl _ r 5 _ _ v5 h4;exact ZZl _ r 6 _ _ v6 h5
theorem emptyL:ByteArray.empty.toList.isEmpty=true:=by rw [ByteArray.toList_eq];rfl
theorem ans_k {r:Pt} (h:Qa4 kd=0):QnU nm wh kd r=Qdt 9:=by unfold QnU;rw [if_pos h]
theorem ans_w {r:Pt} (h:¬ Qa4 kd=0) (h1:whB (Qa4 kd) wh=false):QnU nm wh kd r=Qdt 3:=by unfold QnU;rw [if_neg h,if_pos h1]
theorem ans_r {r:Pt} (h:¬ Qa4 kd=0) (h1:whB (Qa4 kd) wh=true) (h2:wtB (Qa4 kd) r.rd r.rt=false):QnU nm wh kd r=Qdt 10:=by unfold QnU;rw [if_neg h,if_neg (by rw [h1];simp),if_pos h2]
theorem Qts {r:Pt} (h:¬ Qa4 kd=0) (h1:whB (Qa4 kd) wh=true) (h2:wtB (Qa4 kd) r.rd r.rt=true):QnU nm wh kd r=⟨Qa4 kd,QbM nm r.tg,whV (Qa4 kd) wh,whW (Qa4 kd) wh,wtV (Qa4 kd) r.rd r.rt,r.td,r.ti,0⟩:=by unfold QnU;rw [if_neg h,if_neg (by rw [h1];simp),if_neg (by rw [h2];simp)]
theorem QoN (t:ByteArray):0<=Qa4 t/\Qa4 t<=4:=by unfold Qa4;split <;> (try split) <;> (try split) <;> (try split) <;> omega
theorem wt_no {r:ByteArray} (h:rd=true) (h2:¬ raP k r):wtB k rd r=false:=by unfold wtB;rw [if_pos h,if_neg h2]
theorem wt_yes {r:ByteArray} (h:rd=true) (h2:raP k r):wtB k rd r=true/\wtV k rd r=1000000 / rvV r:=by unfold wtB wtV;rw [if_pos h,if_pos h2,if_pos h,if_pos h2];exact ⟨rfl,rfl⟩
theorem Qqo {r:ByteArray} (h:rd=false):wtB k rd r=true/\wtV k rd r=1:=by unfold wtB wtV;rw [if_neg (by rw [h];simp),if_neg (by rw [h];simp)];exact ⟨rfl,rfl⟩
def RS (w W:World):Prop:=W.heap[w.heap.size]?=some (.cells (lnZ 0) 87 (0,0))/\Bw w W
theorem RS.lt (h:RS w W):w.heap.size<W.heap.size:=by
 rcases Nat.lt_or_ge w.heap.size W.heap.size with h' | h'
 ·exact h'
 ·have:=h.1;rw [Array.getElem?_eq_none h'] at this;cases this
theorem RS.past {W':World} (h:RS w W) (hb:Bw W W'):RS w W':=⟨by rw [hb.block _ h.lt];exact h.1,Qac h.2 hb⟩
theorem Qu4 {k:Nat} (h:∀ j,j<k->¬ bt t j=58) (hb:¬ bt t k=58):∀ j,j<k+1->¬ bt t j=58:=fun j hj=>by
 by_cases e:j=k
 ·rw [e];exact hb
 ·exact h j oB
theorem two_of (h:2<=L.length):∃ a b l,L=a :: b :: l:=by
 match L,h with
 | a :: b :: l,_=>exact ⟨a,b,l,rfl⟩
theorem LP.len {R:ByteArray} (ht:toL t=toL nm' ++ 58 :: toL R) (hp:(58:UInt8) ∉ toL nm') (h:LP t nm wh kd ps):nm=nm'/\Qa7 R 124=wh :: kd :: ps:=by
 obtain ⟨R',h1,h2,h3⟩:=h;obtain ⟨e1,e2⟩:=Qg3 (ht.symm.trans h1) hp h2;have e3:=QaW e2;subst e3;exact ⟨(QaW e1).symm,h3⟩
theorem QfK (t:ByteArray) (hz:t.size<=maxLen) :
  Calls prog 83 #[.string t] w fun e w'=>∃ s,e=.returned (Qv8 s)/\LnR t s/\Bw w w':=by
 have b6:=get_bt t;have cb:t.size<=9223372036854775807:=hz;have ae:Hid (RS w (w.alloc (.cells (lnZ 0) 87))):=(⟨ZZk w _,(ZZb _ _).alloc (ZZa _) _⟩:RS w _)
 cases hf:Qjz t with
 | false=>
  have bH:(20000:Int)<(t.size:Int):=by have:¬ t.size<=20000:=of_decide_eq_false hf;omega
  have HR:Hid (LnR t (Qdt 2)):=Qaa (Or.inl ⟨hf,rfl⟩);go_enter func83,ntmps83;go_wp2_with fail;refine (Qba 2 _).mono ?_;rintro e wz ⟨rfl,ac⟩;have aa:=Qaa (ae.past ac);clear ac;obtain ⟨r0,r1,r2,r3,r4,r5,r6,r7⟩:=QbR aa.1;obtain ⟨f0,f1,f2,f3,f4,f5,f6,f7⟩:=Qdp aa.1;go_wp2;refine bodyPost_ret (v:=.agg (lnZ 2)) (by simp [results,results83,go_sem,r0,r1,r2,r3,r4,r5,r6,r7]) rfl ?_;exact ⟨Qdt 2,rfl,HR,QjC aa.2 (ZZa _) _ _ _ _ _ _ _ _⟩
 | true=>
  have bH:t.size<=20000:=of_decide_eq_true hf;have bq:¬ (20000:Int)<(t.size:Int):=oB
  go_enter func83,ntmps83;go_wp2_with fail;generalize (w.alloc _)=W0 at ae ⊢
  go_loopw [3] (fun kv wr=>wr=W0/\∃ k:Nat,k<=t.size/\kv=.int .i64 k/\Hid (∀ j,j<k->¬ bt t j=58)) (fun kv wr=>t.size - (Go.RowKit.intOf kv).toNat)
  case atStart=>exact ⟨rfl,0,ZZj _,rfl,fun j hj=>absurd hj oB⟩
  case round=>
   obtain ⟨rfl,k,hk,rfl,HI⟩:=hrel;by_cases bw:k<t.size
   ·have bU:(k:Int)<(t.size:Int):=by omega
    by_cases aE:bt t k=58
    ·obtain ⟨bb,a8⟩:=at_bt bw aE HI
     have bM:¬ (k:Int)=(t.size:Int):=oB
     have aC:=Qaa bb;have aL:=Qaa a8;clear bb a8 HI;have bN:(t.extract 0 k).size<=20000:=by rw [ByteArray.size_extract];omega
     have bx:(t.extract (k+1) t.size).size<=20000:=by rw [ByteArray.size_extract];omega
     go_wp2_with fail;generalize hNm:t.extract 0 k=nm at aC aL bN ⊢;refine (QaH nm _ oC).mono ?_;rintro e w1 ⟨rfl,hw⟩;obtain rfl:=hw.symm
     cases hnb:QaF nm with
     | false=>
      have HR:Hid (LnR t (Qdt 3)):=LnR.bad hf (fun nm' wh kd ps r k1 _=>by obtain ⟨rfl,_⟩:=LP.len aC aL k1;exact Qtc hnb);go_wp2_with fail;refine (Qba 3 _).mono ?_;rintro e wz ⟨rfl,ac⟩;have aa:=Qaa (ae.past ac);exact mAg
     | true=>
      go_wp2_with fail;generalize t.extract (k+1) t.size=R at aC bx ⊢;refine (Qhi R 124 oB ⟨by omega,by omega⟩ _).mono ?_;rintro e w2 ⟨g,bi,rfl,hg,bv,hS,ba⟩;have a0:=Qaa (ae.past ba);have aB:Hid ((∀ u∈Qa7 R 124,u.size<=R.size)/\(Qa7 R 124).length<=R.size+1):=QnI R 124;have aM:=Qaa hS;clear ba ae hS;generalize hll:(Qa7 R 124).length=ln at aB aM bv;have aW:=Qaa hll;clear hll;by_cases bC:ln<2
      ·have bK:(ln:Int)<2:=by omega
       have HR:Hid (LnR t (Qdt 3)):=LnR.bad hf (fun nm' wh kd ps r k1 _=>by obtain ⟨_,e⟩:=LP.len aC aL k1;have e2:=aW.out;rw [e] at e2;simp at e2;omega);go_wp2_with fail;refine (Qba 3 _).mono ?_;rintro e wz ⟨rfl,ac⟩;have aa:=Qaa (a0.past ac);exact mAg
      ·have bK:¬ (ln:Int)<2:=by omega
       obtain ⟨wh,kd,ps,an⟩:=two_of (L:=Qa7 R 124) (oA aW.out);have hP:LP t nm wh kd ps:=⟨R,aC,aL,an⟩;have a1:ps.length=ln - 2:=by have:=aW.out;rw [an] at this;simp at this;omega
       have bd:∀ u∈ps,u.size<=20000:=fun u hu=>by have:=aB.1 u (by rw [an];exact List.mem_cons_of_mem _ (List.mem_cons_of_mem _ hu));omega
       have bS:wh.size<=20000:=by have:=aB.1 wh (by rw [an];exact List.mem_cons_self);omega
       have bF:kd.size<=20000:=by have:=aB.1 kd (by rw [an];exact List.mem_cons_of_mem _ List.mem_cons_self);omega
       have b4:ln<=20001:=by have:=aB.2;omega
       have ak:=aM.out 0 wh (by rw [an];rfl);have a5:=aM.out 1 kd (by rw [an];rfl);go_upto_region 11 with fail
       go_cut [5,6] (fun v5 v6 w'=>∃ (b5:Nat) (r:Pt) (ta:Option Addr) (tc:Nat),v5=.pointer (some ⟨b5,0,none⟩)/\v6=.bool (Qa3 0 pt0 ps).isSome/\(∀ r',Qa3 0 pt0 ps=some r'->r'=r)/\Qat w' ta r.tg/\r.tg.length<=20001/\r.rt.size<=20000/\w'.heap[b5]?=some (.cells #[.string r.rt,.bool r.rd,.slice ta r.tg.length tc,.bool r.td,.int .i64 r.ti] 186 (0,0))/\Bw w2 w')
       case first=>
        by_cases bB:bi=2
        ·have aZ:ln=2:=by omega
         subst bB;subst aZ;have bJ:=Qaa (List.eq_nil_of_length_eq_zero a1);go_wp2_with fail;refine (QkD _ _ a1 oB bd (fun h=>by rw [bJ.out] at h;exact absurd h (Nat.lt_irrefl 0))).mono ?_;exact mBl
        ·have bl:Hid (Qat w2 (some ⟨g,2,none⟩) ps):=Qaa (fun _=>⟨g,2,rfl,fun j u hj=>by have:=aM.out (j+2) u (by rw [an];exact hj);rwa [Nat.add_comm] at this⟩)
         go_wp2_with fail;refine (QkD _ _ a1 oB bd bl).mono ?_;exact mBl
       case rest=>
        obtain ⟨b5,r,ta,tc,rfl,rfl,ar,hT,aj,ao,aK,aP⟩:=hcut;obtain ⟨W5,rfl⟩:∃ W,W=wc:=⟨_,rfl⟩;have aO:=Qaa (a0.past aP);have aR:=Qaa hT;have aT:=Qab aP ak;have bh:=Qab aP a5;have bn:b5<W5.heap.size:=(ZZc.1 aK).1;have HQ:=Qaa (And.intro aj (And.intro aj ao));clear aP hT ak a5 aj ao a0
        cases hmo:Qa3 0 pt0 ps with
        | none=>
         have HR:Hid (LnR t (Qdt 3)):=LnR.bad2 hf hP hmo;clear aK;go_wp2_with fail;refine (Qba 3 _).mono ?_;rintro e wz ⟨rfl,ac⟩;have aa:=Qaa (aO.past ac);exact mAg
        | some r'=>
         obtain rfl:=ar r' hmo;go_upto_region 14 with fail;have a2:=(Qkw hmo).2;have b1:=QcK hnb;have aU:=Qaa (QeN a2);have ad:=Qaa (And.intro hP (And.intro hmo hnb));obtain ⟨y0,y1,y2,y3,y4⟩:=QfP aK;have cd:(1:Int)<(ln:Int):=oB
         have bQ:1<ln:=oB
         have bZ:(0:Int)<(ln:Int):=oB
         have bF:(k:Int)<=(t.size:Int):=oB
         have bA:k<=t.size:=oB
         clear aK;have bT:g<W5.heap.size:=World.block_lt_of_cell? _ _ aT;generalize hN5:r'.tg.length=n5 at y2 ⊢;have aS:=Qaa hN5;have b0:n5<=20001:=by rw [<- hN5];exact HQ.2.1
         clear hN5;have ag:Hid (∀ W,Bw W5 W->W.cell? ⟨g,1,none⟩=some (.string kd)/\W.cell? ⟨b5,0,none⟩=some (.string r'.rt)/\W.cell? ⟨b5,1,none⟩=some (.bool r'.rd)/\W.cell? ⟨b5,2,none⟩=some (.slice ta n5 tc)/\W.cell? ⟨b5,3,none⟩=some (.bool r'.td)/\W.cell? ⟨b5,4,none⟩=some (.int .i64 r'.ti)):=fun W hW=>⟨Qab hW bh,Qab hW y0,Qab hW y1,Qab hW y2,Qab hW y3,Qab hW y4⟩
         go_cut [7] (fun v w'=>∃ g5:Nat,v=.pointer (some ⟨g5,0,none⟩)/\SmB w' g5 (Qa4 kd) (Qb6 nm r'.tg) 0 ByteArray.empty 1 r'.td r'.ti/\W5.heap.size<=g5/\Bw W5 w')
         case first=>
          have ae:(fun W=>Bw W5 W) W5.drew:=(ZZb _ _).drew;refine Qal (fun W=>Bw W5 W) 17 oG ?_;refine tkL 0 (.slice (some ⟨g,0,none⟩) ln bi) ae (fun W hW=>?_) ?_
          ·exact mAv
          refine tkL 1 (.pointer (some ⟨g,1,none⟩)) ae (fun W hW=>?_) ?_
          ·exact mAv
          refine tkL 2 (.string kd) ae (fun W hW=>?_) ?_
          ·exact mAv
          simp only [sX];refine tkL 4 (.string t) ae (fun W hW=>?_) ?_
          ·exact mAv
          refine tkL 5 (.int .i64 k) ae (fun W hW=>?_) ?_
          ·exact mAv
          refine tkL 6 (.string nm) ae (fun W hW=>?_) ?_
          ·exact mAv
          simp only [sX];refine tkL 7 (.pointer (some ⟨b5,2,none⟩)) ae (fun W hW=>?_) ?_
          ·exact mAv
          refine tkL 8 (.slice ta n5 tc) ae (fun W hW=>?_) ?_
          ·exact mAv
          refine tkL 10 (.pointer (some ⟨b5,3,none⟩)) ae (fun W hW=>?_) ?_
          ·exact mAv
          simp only [sX];refine tkL 11 (.bool r'.td) ae (fun W hW=>?_) ?_
          ·exact mAv
          refine tkL 12 (.pointer (some ⟨b5,4,none⟩)) ae (fun W hW=>?_) ?_
          ·exact mAv
          refine tkL 13 (.int .i64 r'.ti) ae (fun W hW=>?_) ?_
          ·exact mAv
          simp only [sX];refine Qoj (i:=3) (j:=15) oG rfl rfl (fun K hK=>?_) (fun K hK=>?_)
          ·go_simp
           refine (QjX kd _).mono ?_;rintro e Wk ⟨rfl,a4⟩;subst a4;dsimp only;refine gK hK ae ?_
           try simp only [sX]
           refine Qoj (i:=9) (j:=15) oG rfl rfl (fun K hK=>?_) (fun K hK=>?_)
           ·go_simp
            refine (Qbs nm _ _ oB aS oB aU (QaA aR (ae:Bw W5 _))).mono ?_;rintro e W6 ⟨rfl,hb⟩;dsimp only;have ab:=Qaa ((ae:Bw W5 _).trans (hb.mono (ae:Bw W5 _).size));have ai:=Qaa hb;clear hb;refine gK hK ab.out ?_
            try simp only [sX]
            refine tkL 14 (.agg #[.int .i64 (Qa4 kd),.string (Qb6 nm r'.tg),.int .i64 0,.string ⟨#[]⟩,.int .u64 1,.bool r'.td,.int .i64 r'.ti]) ab (fun W hW=>?_) ?_
            ·exact mAv
            simp only [sX];refine onE 15 fun K hK=>?_;go_simp;have af:=Qaa (Below.alloc (ab.out:Bw W5 W6) (ab.out:Bw W5 W6).size (.cells zAa 85));refine gK hK af.out ?_
            try simp only [sX]
            have R5:=ZZk W6 (.cells zAa 85);obtain ⟨q0,q1,q2,q3,q4,q5,q6⟩:=QfF R5;obtain ⟨f0,f1,f2,f3,f4,f5,f6⟩:=Qi3 R5;refine onE 16 fun K hK=>?_;go_simp;refine hK.out _ _ (fun _=>Below.alloc ab ab.size _) ?_
            try simp only [sX]
            refine dnE ?_ _;go_wp2;go_meet;exact ⟨W6.heap.size,rfl,ZZk W6 _,ab.size,Below.alloc ab ab.size _⟩
           ·go_simp
            have af:=Qaa (Below.alloc (ae:Bw W5 W5.drew) (ae:Bw W5 W5.drew).size (.cells zAa 85));exact mAd
          ·go_simp
           have af:=Qaa (Below.alloc (ae:Bw W5 W5.drew) (ae:Bw W5 W5.drew).size (.cells zAa 85));refine gK hK af.out ?_
           try simp only [sX]
           refine onE 3 fun K hK=>?_;go_simp;refine (QjX kd _).mono ?_;rintro e Wk ⟨rfl,a4⟩;subst a4;dsimp only;exact mAd
         case rest=>
          obtain ⟨g5,rfl,aJ,bI,hB⟩:=hcut;have au:=Qaa (aO.past hB);obtain ⟨_,x0,x1,_,_,_⟩:=ag.out _ hB;have br:=Qab hB aT;have a7:b5<g5:=oB
          have bV:g<g5:=oB
          have bg:w.heap.size<g5:=Nat.lt_of_lt_of_le aO.lt bI;have bm:=Qaa aJ;unfold SmB at aJ;obtain ⟨s0,s1,s2,s3,s4,s5,s6⟩:=QfF aJ;clear aJ hB y0 y1 y2 y3 y4 aT bh aO;by_cases aw:Qb6 nm r'.tg=ByteArray.empty
          ·have bO:(Qb6 nm r'.tg).toList.isEmpty=true:=by rw [aw];exact emptyL
           have HR:Hid (LnR t (Qdt 3)):=LnR.bad3 hf ad.1 ad.2.1 ad.2.2 aw;clear aw;go_wp2_with fail;refine (Qba 3 _).mono ?_;rintro e wz ⟨rfl,ac⟩;have aa:=Qaa (au.past ac);exact mAg
          ·have bO:(Qb6 nm r'.tg).toList.isEmpty=false:=Qgf aw
           obtain ⟨am,bj⟩:=LnR.good hf ad.1 ad.2.1 ad.2.2 aw;have HG:=Qaa (And.intro am bj);clear am bj aw;by_cases av:Qa4 kd=0
           ·have bP:(Qa4 kd == 0)=true:=by simp [av]
            have HR:Hid (LnR t (Qdt 9)):=by rw [<- ans_k (nm:=nm) (wh:=wh) (r:=r') av];exact HG.1
            clear av;go_wp2_with fail;refine (Qba 9 _).mono ?_;rintro e wz ⟨rfl,ac⟩;have aa:=Qaa (au.past ac);clear ac;obtain ⟨r0,r1,r2,r3,r4,r5,r6,r7⟩:=QbR aa.1;obtain ⟨f0,f1,f2,f3,f4,f5,f6,f7⟩:=Qdp aa.1;go_wp2;refine bodyPost_ret (v:=.agg (lnZ 9)) (by simp [results,results83,go_sem,r0,r1,r2,r3,r4,r5,r6,r7]) rfl ?_;exact ⟨Qdt 9,rfl,HR,QjC aa.2 (ZZa _) _ _ _ _ _ _ _ _⟩
           ·have bP:(Qa4 kd == 0)=false:=ZZf.2 av
            have aF:=Qaa av;clear av;go_wp2_with fail;refine (Qro g5 wh oB bm).mono ?_;rintro e w7 ⟨c,rfl,ak,ap,aA,aH⟩;have aN:Hid (RS w w7):=⟨by rw [aA _ oB au.lt];exact au.1,au.2.trans (aH.mono (Nat.le_of_lt bg))⟩;have v0:w7.cell? ⟨b5,0,none⟩=some (.string r'.rt):=by rw [aH.cell (p:=⟨b5,0,none⟩) a7];exact x0
            have v1:w7.cell? ⟨b5,1,none⟩=some (.bool r'.rd):=by rw [aH.cell (p:=⟨b5,1,none⟩) a7];exact x1
            clear aA aH x0 x1 br s0 s1 s2 s3 s4 s5 s6 au
            cases hwh:whB (Qa4 kd) wh with
            | false=>
             have bu:¬ c=0:=fun e=>by rw [hwh] at ak;exact absurd (ak.1 e) oE
             have b8:(c == 0)=false:=ZZf.2 bu;have HR:Hid (LnR t (Qdt 3)):=by rw [<- ans_w (nm:=nm) (r:=r') aF.out hwh];exact HG.1
             clear ak ap;go_wp2_with fail;refine (Qba 3 _).mono ?_;rintro e wz ⟨rfl,ac⟩;have aa:=Qaa (aN.past ac);exact mAg
            | true=>
             obtain rfl:c=0:=ak.2 hwh;have ah:=ap hwh;have ay:=Qaa ah;unfold SmB at ah;obtain ⟨s0,s1,s2,s3,s4,s5,s6⟩:=QfF ah;obtain ⟨t0,t1,t2,t3,t4,t5,t6⟩:=Qi3 ah;have a3:=Qaa hwh;clear ap ak ah hwh
             cases hrd:r'.rd with
             | false=>
              rw [hrd] at v1
              have HV:Hid (Ending.returned (.agg #[.int .i64 (Qa4 kd),.string (Qb6 nm r'.tg),.int .i64 (whV (Qa4 kd) wh),.string (whW (Qa4 kd) wh),.int .u64 1,.bool r'.td,.int .i64 r'.ti,.int .i64 0])=.returned (Qv8 (QnU nm wh kd r'))):=by
               rw [Qts aF.out a3.out (Qqo hrd).1,(Qqo hrd).2,HG.2];rfl
              have HR:=Qaa HG.1;have aY:=aN;obtain ⟨r0,r1,r2,r3,r4,r5,r6,r7⟩:=QbR aY.1;obtain ⟨f0,f1,f2,f3,f4,f5,f6,f7⟩:=Qdp aY.1;go_wp2;refine bodyPost_ret (v:=.agg #[.int .i64 (Qa4 kd),.string (Qb6 nm r'.tg),.int .i64 (whV (Qa4 kd) wh),.string (whW (Qa4 kd) wh),.int .u64 1,.bool r'.td,.int .i64 r'.ti,.int .i64 0]) (by simp [results,results83,go_sem,r0,r1,r2,r3,r4,r5,r6,r7]) rfl ?_;exact ⟨_,HV,HR,QjC aY.2 (ZZa _) _ _ _ _ _ _ _ _⟩
             | true=>
              rw [hrd] at v1;have bk:r'.rt.size<=maxLen:=by have:=HQ.2.2;unfold maxLen;omega
              go_wp2_with fail;refine (QeZ r'.rt bk _).mono ?_;rintro e w8 ⟨rfl,aQ⟩;have az:=Qaa (aN.past aQ);have bo:g5<w7.heap.size:=World.block_lt_of_cell? _ _ s0
              have aX:Hid (SmB w8 g5 (Qa4 kd) (Qb6 nm r'.tg) (whV (Qa4 kd) wh) (whW (Qa4 kd) wh) 1 r'.td r'.ti):=by
               unfold SmB;rw [aQ.block _ bo];exact ay.out
              clear aQ s0 s1 s2 s3 s4 s5 s6 t0 t1 t2 t3 t4 t5 t6 v0 v1 aN ay;have aq:=aX.out;unfold SmB at aq;obtain ⟨s0,s1,s2,s3,s4,s5,s6⟩:=QfF aq;obtain ⟨t0,t1,t2,t3,t4,t5,t6⟩:=Qi3 aq;have b9:g5<w8.heap.size:=World.block_lt_of_cell? _ _ s0;have bD:¬ w.heap.size=g5:=oB
              have bp:¬ g5=w.heap.size:=oB
              have bG:¬ g5=w8.heap.size:=oB
              have bE:¬ w8.heap.size=g5:=oB
              have aD:Hid (∀ o,RS w (w8.alloc o)):=fun o=>az.past ((ZZb _ _).alloc (ZZa _) o);obtain ⟨bR,b2⟩:=QoN kd;by_cases al:raP (Qa4 kd) r'.rt
              ·obtain ⟨c1,c2,c3,c4⟩:=al
               have a9:=Qaa (wt_yes hrd (show raP (Qa4 kd) r'.rt from ⟨c1,c2,c3,c4⟩));obtain ⟨q,hq⟩:∃ q,q=1000000 / rvV r'.rt:=⟨_,rfl⟩;have b7:0<=q:=by rw [hq];exact Int.ediv_nonneg oB oB
               have aI:q<=1000000:=by rw [hq];exact Int.ediv_le_self _ oB
               have cc:(1000000:Int).tdiv (rvV r'.rt)=q:=by rw [hq,Int.tdiv_eq_ediv_of_nonneg oB]
               have bY:IntKind.i64.wrap q=q:=ZZi _ ⟨by omega,by omega⟩;have bW:IntKind.u64.wrap q=q:=IntWalk.u64_in _ ⟨by omega,by omega⟩;have bz:(rvV r'.rt == 0)=false:=ZZf.2 oB;have ca:¬ rvV r'.rt=0:=oB
               have dl:decide (rvV r'.rt<1)=false:=ZZg oB;have dgt:decide (1000000<rvV r'.rt)=false:=ZZg oB;have a6:(Qa4 kd == 2)=false:=ZZf.2 oB;have bs:(Qa4 kd == 4)=false:=ZZf.2 oB;have bc:(rvC r'.rt == 0)=true:=by simp [c1]
               have HV:Hid (Ending.returned (.agg #[.int .i64 (Qa4 kd),.string (Qb6 nm r'.tg),.int .i64 (whV (Qa4 kd) wh),.string (whW (Qa4 kd) wh),.int .u64 q,.bool r'.td,.int .i64 r'.ti,.int .i64 0])=.returned (Qv8 (QnU nm wh kd r'))):=by
                rw [Qts aF.out a3.out a9.1,a9.2,HG.2,hq];rfl
               have HR:=Qaa HG.1;have b3:=Qaa c1;clear hq c1 c4;obtain ⟨r0,r1,r2,r3,r4,r5,r6,r7⟩:=QbR az.1;obtain ⟨f0,f1,f2,f3,f4,f5,f6,f7⟩:=Qdp az.1;have bX:w.heap.size<w8.heap.size:=oB
               go_wp2
               have R9:(w8.setCell ⟨g5,4,none⟩ (.int .u64 q)).heap[w.heap.size]?=some (.cells (lnZ 0) 87 (0,0)):=by
                rw [Below.heap_setCell w8 ⟨g5,4,none⟩ _ _ (by show w.heap.size≠g5;omega)];exact az.1
               have be:=row8 (.int .i64 (Qa4 kd)) (.string (Qb6 nm r'.tg)) (.int .i64 (whV (Qa4 kd) wh)) (.string (whW (Qa4 kd) wh)) (.int .u64 q) (.bool r'.td) (.int .i64 r'.ti) (.int .i64 0) R9;have aV:=(ZZc.1 be).1
               refine bodyPost_ret (v:=.agg #[.int .i64 (Qa4 kd),.string (Qb6 nm r'.tg),.int .i64 (whV (Qa4 kd) wh),.string (whW (Qa4 kd) wh),.int .u64 q,.bool r'.td,.int .i64 r'.ti,.int .i64 0]) (by
                obtain ⟨z0,z1,z2,z3,z4,z5,z6,z7⟩:=QbR ((Below.heap_alloc _ (.cells #[.int .i64 (rvV r'.rt),.int .i64 0] 193) _ aV).trans be);simp [results,results83,go_sem,z0,z1,z2,z3,z4,z5,z6,z7]) rfl ?_
               have bf:=QjC (az.2.setCell (p:=⟨g5,4,none⟩) (Nat.le_of_lt bg) (.int .u64 q)) (ZZa _) (.int .i64 (Qa4 kd)) (.string (Qb6 nm r'.tg)) (.int .i64 (whV (Qa4 kd) wh)) (.string (whW (Qa4 kd) wh)) (.int .u64 q) (.bool r'.td) (.int .i64 r'.ti) (.int .i64 0);exact ⟨_,HV,HR,bf.alloc bf.size _⟩
              ·have HR:Hid (LnR t (Qdt 10)):=by rw [<- ans_r (nm:=nm) (r:=r') aF.out a3.out (wt_no hrd al)];exact HG.1
               by_cases c1:rvC r'.rt=0
               ·have bc:(rvC r'.rt == 0)=true:=by simp [c1]
                by_cases c2:rvV r'.rt<1
                ·have dl:decide (rvV r'.rt<1)=true:=ZZh c2
                 exact mAf
                ·have dl:decide (rvV r'.rt<1)=false:=ZZg c2
                 by_cases c3:1000000<rvV r'.rt
                 ·have dgt:decide (1000000<rvV r'.rt)=true:=ZZh c3
                  exact mAf
                 ·have dgt:decide (1000000<rvV r'.rt)=false:=ZZg c3
                  by_cases c4:Qa4 kd=2
                  ·have a6:(Qa4 kd == 2)=true:=by simp [c4]
                   exact mAf
                  ·have a6:(Qa4 kd == 2)=false:=ZZf.2 c4
                   have bs:(Qa4 kd == 4)=true:=by
                    have:Qa4 kd=4:=by
                     have h0:=aF.out;have:¬ (Qa4 kd=1∨Qa4 kd=3):=fun h=>al ⟨c1,by omega,by omega,h⟩;omega
                    simp [this]
                   exact mAf
               ·have bc:(rvC r'.rt == 0)=false:=ZZf.2 c1
                exact mAf
    ·go_wp2
     go_roundw
     case rel=>exact ⟨trivial,k+1,by omega,by go_num,Qu4 HI aE⟩
     case measure=>simp [zI];omega
   ·have bL:k=t.size:=by omega
    have HR:Hid (LnR t (Qdt 3)):=LnR.bad hf (fun nm wh kd ps r k1 _=>(LP.no1 (QtS (b:=58) (fun j hj=>HI.out j oB)) k1).elim);subst bL;go_wp2_with fail;refine (Qba 3 _).mono ?_;rintro e wz ⟨rfl,ac⟩;have aa:=Qaa (ae.past ac);exact mAg
end
section
def PtT (r:Pt):Prop:=(r.td=true/\r.ti<=1000000000)∨(r.td=false/\r.ti=0)
theorem Qus (h:QeW t=some n):n<=1000000000:=by
 unfold QeW at h
 split at h
 ·split at h
  ·cases h;assumption
  ·cases h
 ·cases h
theorem QqZ {r r':Pt} (h:PtT r) (e:QcB r p=some r'):PtT r':=by
 unfold QcB at e
 split at e
 ·cases e;exact h
 split at e
 ·cases e;exact h
 split at e
 ·obtain ⟨n,hn,rfl⟩:=Option.map_eq_some_iff.1 e
  exact .inl ⟨rfl,Qus hn⟩
 ·cases e
theorem Qkt:∀ (ps:List ByteArray) (a:Nat) (r r':Pt),PtT r->Qhw a r ps=some r'->PtT r'
 | [],a,r,r',h,e=>by cases e;exact h
 | p :: ps,a,r,r',h,e=>by
  unfold Qhw at e
  split at e
  ·cases e
  ·cases hs:QcB r p with
   | none=>rw [hs] at e;cases e
   | some q=>rw [hs] at e;exact Qkt ps _ q r' (QqZ h hs) e
theorem QpE {r:ByteArray} (h:wtB k rd r=true):Qc0 k (wtV k rd r)=true:=by
 unfold wtB at h;unfold wtV Qc0
 cases rd with
 | false=>simp
 | true=>
  rw [if_pos rfl] at h;rw [if_pos rfl]
  split at h
  ·rename_i hr
   rw [if_pos hr];obtain ⟨_,h1,h2,h3⟩:=hr;have q1:1<=1000000 / rvV r:=Int.le_ediv_of_mul_le oB oB;have q2:1000000 / rvV r<=1000000:=Int.ediv_le_self _ oB;simp only [Bool.or_eq_true,yB,decide_eq_true_eq];exact .inr ⟨⟨h3,by omega⟩,q2⟩
  ·cases h
theorem QsZ (h:u≠ByteArray.empty):0<u.size:=by
 rcases Nat.eq_zero_or_pos u.size with q | q
 ·exact absurd (QaW (List.eq_nil_of_length_eq_zero (by rw [Qam];exact q))) h
 ·exact q
theorem LnR.right {s:Sm} (h:LnR t s) (hc:s.c=0):QbC s.k s.se s.va s.wd s.wt s.td (s.ti:Int)=true/\Qbl s.se=true:=by
 rcases h with ⟨_,rfl⟩ | ⟨_,⟨nm,wh,kd,ps,r,hl,hm,aa,rfl⟩ | ⟨_,rfl⟩⟩
 ·cases hc
 ·have ht:=Qkt ps 0 pt0 r (.inr ⟨rfl,rfl⟩) hm
  unfold QnU at hc ⊢
  split at hc
  ·cases hc
  rename_i hk;rw [if_neg hk]
  split at hc
  ·cases hc
  rename_i hw;rw [if_neg hw]
  split at hc
  ·cases hc
  rename_i hb;rw [if_neg hb];have hw:whB (Qa4 kd) wh=true:=by simpa using hw
  have hb:wtB (Qa4 kd) r.rd r.rt=true:=xF
  have hs:Qbl (QbM nm r.tg)=true:=Qcl (Ql8 rfl (QsZ aa));refine ⟨?_,hs⟩
  have a1:Qir (Qa4 kd)=true:=by
   unfold Qir;rcases Qo7 kd with e | e | e | e | e
   ·exact absurd e hk
   all_goals rw [e];decide
  have a2:Qkc (Qa4 kd) (whV (Qa4 kd) wh) (whW (Qa4 kd) wh)=true:=by
   unfold Qkc whV whW;unfold whB at hw;by_cases h4:Qa4 kd=4
   ·rw [if_pos h4] at hw
    rw [if_pos h4,if_pos h4,if_pos h4,hw]
    rfl
   ·rw [if_neg h4,if_neg h4,if_neg h4]
    have:=rv_bd wh;unfold Qt4;simp only [yB,decide_eq_true_eq];exact ⟨this,rfl⟩
  have a4:Qhe r.td (r.ti:Int)=true:=by
   unfold Qhe;rcases ht with ⟨e,q⟩ | ⟨e,q⟩
   ·rw [if_pos e];simp;omega
   ·rw [e,q];rfl
  show QbC (Qa4 kd) (QbM nm r.tg) (whV (Qa4 kd) wh) (whW (Qa4 kd) wh) (wtV (Qa4 kd) r.rd r.rt) r.td (r.ti:Int)=true
  unfold QbC;rw [a1,hs,a2,QpE hb,a4]
  rfl
 ·cases hc
end
end Go.Proofs.YtioohanfodmddaaGreatDoor
