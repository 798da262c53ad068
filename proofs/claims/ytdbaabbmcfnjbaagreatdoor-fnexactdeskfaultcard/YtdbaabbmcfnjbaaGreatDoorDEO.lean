/-
 Parts.
-/
import Derived.Test.YtdbaabbmcfnjbaaGreatDoorDFA
set_option maxHeartbeats 8000000
set_option linter.all false
namespace Go.Proofs.YtdbaabbmcfnjbaaGreatDoor
open Go.ChangeShapes Go.WideShapes Go.ChangeAt Go.RowKit Go.PlainAid Tryz
set_option maxRecDepth 10000
def NmA (t:ByteArray) (e:Ending):Prop:=∃ n,e=.returned (.tuple #[.int .i64 n,.bool (Qj0 t)])/\0<=n/\n<=999999999999
theorem Qtj {t:ByteArray} (h:t.size<=12):0<=dgV t/\dgV t<=999999999999:=by
 unfold dgV;by_cases ha:Qm4 t t.size=true
 ·rw [if_pos ha]
  have hd:=(Qdw t).1 ha
  exact Qh2 (s:=t) (o:=0) (n:=t.size) (fun j hj=>by
   have hk:j<(toL t).length:=by rw [Qap];exact hj
   rw [Nat.zero_add,QfU hk];have:=hd _ (List.getElem_mem hk);omega) h
 ·rw [if_neg ha];omega
theorem Qrl (t:ByteArray) (hz:t.size<=1000000) (w:World) :
  Calls prog 20 #[.string t] w fun e w'=>NmA t e/\w'=w:=by
 have ae:=get_bt t;by_cases h0:t.size<1
 ·have ac:(t.size:Int)<1:=by omega
  have HE:Hid (Qj0 t=false):=by unfold Qj0;rw [decide_eq_false (by omega:¬ 1<=t.size)];exact Qaa rfl
  go_enter func20,ntmps20;go_wp2;go_ret2;exact ⟨⟨0,by rw [HE.out];rfl,by omega,by omega⟩,rfl⟩
 have ac:¬ (t.size:Int)<1:=by omega
 by_cases h1:9<t.size
 ·have ab:(9:Int)<(t.size:Int):=by omega
  have HE:Hid (Qj0 t=false):=by unfold Qj0;rw [decide_eq_false (by omega:¬ t.size<=9),Bool.and_false];exact Qaa rfl
  go_enter func20,ntmps20;go_wp2;go_ret2;exact ⟨⟨0,by rw [HE.out];rfl,by omega,by omega⟩,rfl⟩
 have ab:¬ (9:Int)<(t.size:Int):=by omega
 have ag:(0:Int)<(t.size:Int):=by omega
 by_cases h2:1<t.size/\bt t 0=48
 ·have ad:(1:Int)<(t.size:Int):=by omega
  have af:=h2.2;have HE:Hid (Qj0 t=false):=by unfold Qj0;rw [decide_eq_true h2.1,decide_eq_true h2.2];simp [Hid]
  go_enter func20,ntmps20;go_wp2;go_ret2;exact ⟨⟨0,by rw [HE.out];rfl,by omega,by omega⟩,rfl⟩
 have HV:Hid (Qj0 t=dgB t):=by
  unfold Qj0;rw [decide_eq_true (by omega:1<=t.size),decide_eq_true (by omega:t.size<=9)];by_cases q1:1<t.size
  ·rw [decide_eq_false (fun q=>h2 ⟨q1,q⟩:¬ bt t 0=48),Bool.and_false];simp [Hid]
  ·rw [decide_eq_false q1];simp [Hid]
 have HD:=Qaa (Qtj (t:=t) (by omega));have hc:=Qbv t (by omega);by_cases q1:1<t.size
 ·have aa:(1:Int)<(t.size:Int):=by omega
  have q2:(bt t 0 == 48)=false:=ZZf.2 (fun q=>h2 ⟨q1,q⟩);go_enter func20,ntmps20;go_wp2_with fail;refine (Qbv t (by omega) w).mono ?_;rintro e w1 ⟨rfl,hw⟩;obtain rfl:=hw.symm;go_wp2;go_ret2;exact ⟨⟨_,by rw [HV.out];rfl,HD.out.1,HD.out.2⟩,rfl⟩
 ·have aa:¬ (1:Int)<(t.size:Int):=by omega
  go_enter func20,ntmps20;go_wp2_with fail;refine (Qbv t (by omega) w).mono ?_;rintro e w1 ⟨rfl,hw⟩;obtain rfl:=hw.symm;go_wp2;go_ret2;exact ⟨⟨_,by rw [HV.out];rfl,HD.out.1,HD.out.2⟩,rfl⟩
def shD (c:Bool×Bool):ByteArray:=⟨((shp c).map (fun b=>if b then (119:UInt8) else 110)).toArray⟩
def ShD (t:ByteArray) (e:Ending):Prop:=∃ s,e=.returned (.tuple #[.string s,.bool (Qc5 t).isSome])/\∀ c,Qc5 t=some c->s=shD c
theorem QcS (t x:ByteArray) (l:List UInt8) (e:x=⟨l.toArray⟩):(t.toList == l)=decide (t=x):=by
 have h:=QiH t l;rw [show decide (toL t=l)=decide (t=x) from decide_eq_decide.2 ⟨fun q=>Qbf (by rw [q,e,Qbc]),fun q=>by rw [q,e,Qbc]⟩] at h;exact h
theorem Qml (t:ByteArray) (w:World):Calls prog 19 #[.string t] w fun e w'=>ShD t e/\w'=w:=by
 have h0:=QcS t QtS [112,117,116] rfl;have h1:=QcS t Qkd [106,111,105,110] rfl;have h2:=QcS t Qgq [108,101,97,118,101] rfl;have h3:=QcS t Qgl [119,104,101,114,101] rfl;have h4:=QcS t QkO [109,97,110,121] rfl;have h5:=QcS t Qkk [116,105,99,107] rfl;have h6:=QcS t QkG [114,97,110,107] rfl;have h7:=QcS t Qgu [99,108,111,115,101] rfl;have h8:=QcS t Qtm [116,111,112] rfl;by_cases k0:t=QtS
 ·rw [decide_eq_true k0] at h0
  have HE:Hid (Qc5 t=some (true,false)):=by rw [k0];exact Qaa (QbZ (QtS,true,false) (by simp [Qik]))
  clear h1;clear h2;clear h3;clear h4;clear h5;clear h6;clear h7;clear h8;clear k0;go_enter func19,ntmps19;go_wp2;go_ret2;exact ⟨⟨_,by rw [HE.out];rfl,fun c hc=>by rw [HE.out] at hc;rw [<- Option.some.inj hc];rfl⟩,rfl⟩
 rw [decide_eq_false k0] at h0;by_cases k1:t=Qkd
 ·rw [decide_eq_true k1] at h1
  have HE:Hid (Qc5 t=some (true,false)):=by rw [k1];exact Qaa (QbZ (Qkd,true,false) (by simp [Qik]))
  clear h2;clear h3;clear h4;clear h5;clear h6;clear h7;clear h8;clear k1;go_enter func19,ntmps19;go_wp2;go_ret2;exact ⟨⟨_,by rw [HE.out];rfl,fun c hc=>by rw [HE.out] at hc;rw [<- Option.some.inj hc];rfl⟩,rfl⟩
 rw [decide_eq_false k1] at h1;by_cases k2:t=Qgq
 ·rw [decide_eq_true k2] at h2
  have HE:Hid (Qc5 t=some (true,false)):=by rw [k2];exact Qaa (QbZ (Qgq,true,false) (by simp [Qik]))
  clear h3;clear h4;clear h5;clear h6;clear h7;clear h8;clear k2;go_enter func19,ntmps19;go_wp2;go_ret2;exact ⟨⟨_,by rw [HE.out];rfl,fun c hc=>by rw [HE.out] at hc;rw [<- Option.some.inj hc];rfl⟩,rfl⟩
 rw [decide_eq_false k2] at h2;by_cases k3:t=Qgl
 ·rw [decide_eq_true k3] at h3
  have HE:Hid (Qc5 t=some (true,false)):=by rw [k3];exact Qaa (QbZ (Qgl,true,false) (by simp [Qik]))
  clear h4;clear h5;clear h6;clear h7;clear h8;clear k3;go_enter func19,ntmps19;go_wp2;go_ret2;exact ⟨⟨_,by rw [HE.out];rfl,fun c hc=>by rw [HE.out] at hc;rw [<- Option.some.inj hc];rfl⟩,rfl⟩
 rw [decide_eq_false k3] at h3;by_cases k4:t=QkO
 ·rw [decide_eq_true k4] at h4
  have HE:Hid (Qc5 t=some (true,false)):=by rw [k4];exact Qaa (QbZ (QkO,true,false) (by simp [Qik]))
  clear h5;clear h6;clear h7;clear h8;clear k4;go_enter func19,ntmps19;go_wp2;go_ret2;exact ⟨⟨_,by rw [HE.out];rfl,fun c hc=>by rw [HE.out] at hc;rw [<- Option.some.inj hc];rfl⟩,rfl⟩
 rw [decide_eq_false k4] at h4;by_cases k5:t=Qkk
 ·rw [decide_eq_true k5] at h5
  have HE:Hid (Qc5 t=some (false,true)):=by rw [k5];exact Qaa (QbZ (Qkk,false,true) (by simp [Qik]))
  clear h6;clear h7;clear h8;clear k5;go_enter func19,ntmps19;go_wp2;go_ret2;exact ⟨⟨_,by rw [HE.out];rfl,fun c hc=>by rw [HE.out] at hc;rw [<- Option.some.inj hc];rfl⟩,rfl⟩
 rw [decide_eq_false k5] at h5;by_cases k6:t=QkG
 ·rw [decide_eq_true k6] at h6
  have HE:Hid (Qc5 t=some (true,true)):=by rw [k6];exact Qaa (QbZ (QkG,true,true) (by simp [Qik]))
  clear h7;clear h8;clear k6;go_enter func19,ntmps19;go_wp2;go_ret2;exact ⟨⟨_,by rw [HE.out];rfl,fun c hc=>by rw [HE.out] at hc;rw [<- Option.some.inj hc];rfl⟩,rfl⟩
 rw [decide_eq_false k6] at h6;by_cases k7:t=Qgu
 ·rw [decide_eq_true k7] at h7
  have HE:Hid (Qc5 t=some (false,false)):=by rw [k7];exact Qaa (QbZ (Qgu,false,false) (by simp [Qik]))
  clear h8;clear k7;go_enter func19,ntmps19;go_wp2;go_ret2;exact ⟨⟨_,by rw [HE.out];rfl,fun c hc=>by rw [HE.out] at hc;rw [<- Option.some.inj hc];rfl⟩,rfl⟩
 rw [decide_eq_false k7] at h7;by_cases k8:t=Qtm
 ·rw [decide_eq_true k8] at h8
  have HE:Hid (Qc5 t=some (false,false)):=by rw [k8];exact Qaa (QbZ (Qtm,false,false) (by simp [Qik]))
  clear k8;go_enter func19,ntmps19;go_wp2;go_ret2;exact ⟨⟨_,by rw [HE.out];rfl,fun c hc=>by rw [HE.out] at hc;rw [<- Option.some.inj hc];rfl⟩,rfl⟩
 rw [decide_eq_false k8] at h8
 have HE:Hid (Qc5 t=none):=by
  unfold Qc5;rw [if_neg (fun q=>by rcases q with q | q | q | q | q;exact k0 q;exact k1 q;exact k2 q;exact k3 q;exact k4 q),if_neg k5,if_neg k6,if_neg (fun q=>by rcases q with q | q;exact k7 q;exact k8 q)];exact Qaa rfl
 go_enter func19,ntmps19;go_wp2;go_ret2;exact ⟨⟨_,by rw [HE.out];rfl,fun c hc=>by rw [HE.out] at hc;cases hc⟩,rfl⟩
def okT (b:Bool) (u:ByteArray):Bool:=if b=true then !(decide (u=ByteArray.empty)) else Qj0 u
def okU (s:List Bool) (W:List ByteArray):Nat->Bool
 | 0=>true
 | k+1=>okU s W k && okT (s.getD k true) (W.getD k ByteArray.empty)
theorem Qk5 (b:Bool) (s:List Bool) (W:List ByteArray):∀ k,okU (b :: s) W (k+1)=(okT b (W.headD ByteArray.empty) && okU s W.tail k)
 | 0=>by
  show (true && okT b (W.getD 0 ByteArray.empty))=(_ && true)
  cases W <;> simp
 | k+1=>by
  have ih:=Qk5 b s W k
  show (okU (b :: s) W (k+1) && okT ((b :: s).getD (k+1) true) (W.getD (k+1) ByteArray.empty))=(_ && (okU s W.tail k && okT (s.getD k true) (W.tail.getD k ByteArray.empty)))
  rw [ih,<- Bool.and_assoc]
  cases W <;> simp
theorem Qoe:∀ (s:List Bool) (W:List ByteArray),okS s W=okU s W s.length
 | [],W=>rfl
 | b :: s,W=>by
  rw [List.length_cons,Qk5,<- Qoe s W.tail]
  cases b <;> rfl
theorem Qq7 (c:Bool×Bool):(shD c).size=(shp c).length:=by
 obtain ⟨a,b⟩:=c
 cases a <;> cases b <;> rfl
theorem shS_bt (c:Bool×Bool):∀ k,k<(shp c).length->bt (shD c) k=if (shp c).getD k true=true then 119 else 110:=by
 obtain ⟨a,b⟩:=c;intro k hk
 cases a <;> cases b <;> simp [shp] at hk
 ·subst hk;rfl
 ·subst hk;rfl
 ·rcases (by omega:k=0∨k=1) with rfl | rfl <;> rfl
theorem emp_ne {u:ByteArray} (h:u≠ByteArray.empty):u.toList.isEmpty=false:=by
 cases q:u.toList.isEmpty with
 | false=>rfl
 | true=>
  refine absurd ?_ h;rw [ByteArray.toList_eq] at q;have:=List.isEmpty_iff.1 q;exact Qbf (by show u.data.toList=_;rw [this];rfl)
def RlA (t:ByteArray) (e:Ending):Prop:=∃ wd nm wh,e=.returned (.tuple #[.agg #[.string wd,.int .i64 nm,.string wh],.bool (okM (QaG t 32))])/\wd.size<=t.size/\wh.size<=t.size/\0<=nm/\nm<=999999999999
abbrev zLn:Array Value:=#[.string ⟨#[]⟩,.int .i64 0,.string ⟨#[]⟩]
variable {w:World}
variable {r:Nat}
theorem QbJ {a b c:Value} {T:TypeId} (h:w.heap[r]?=some (.cells #[a,b,c] T (0,0))):w.cell? ⟨r,0,none⟩=some a/\w.cell? ⟨r,1,none⟩=some b/\w.cell? ⟨r,2,none⟩=some c:=
 ⟨by rw [cell_of_row w r 0 _ _ (0,0) h];rfl,by rw [cell_of_row w r 1 _ _ (0,0) h];rfl,by rw [cell_of_row w r 2 _ _ (0,0) h];rfl⟩
theorem QjD {w':World} {o:Obj} (h:w.heap[r]?=some o) (hb:Below w.heap.size w w'):w'.heap[r]?=some o:=(hb.block _ (ZZc.1 h).1).trans h
theorem Qjl (t:ByteArray) (b:Int):(∀ u∈QaG t b,u.size<=t.size)/\1<=(QaG t b).length/\(QaG t b).length<=t.size+1:=by
 have aa:∀ k,∀ u∈(spl t b k).1,u.size<=t.size:=by
  intro k
  induction k with
  | zero=>intro u h;simp [spl] at h
  | succ k ih=>
   intro u h;by_cases hc:bt t k=b
   ·rw [Qcu hc] at h
    rcases List.mem_append.1 h with h | h
    ·exact ih u h
    ·rw [List.mem_singleton.1 h,size_extract];omega
   ·rw [QbE hc] at h
    exact ih u h
 refine ⟨fun u h=>?_,by rw [Qcs];omega,by rw [Qcs];have:=(Qfb t b t.size).2;omega⟩;unfold QaG at h;rcases List.mem_append.1 h with h | h
 ·exact aa _ u h
 ·rw [List.mem_singleton.1 h,size_extract];omega
structure RlK (W wr:World) (O:Nat) (u:ByteArray) (M:Nat):Prop where
 b:Below O W wr
 x:∃ nm wh,wr.heap[O]?=some (.cells #[.string u,.int .i64 nm,.string wh] 44 (0,0))/\wh.size<=M/\0<=nm/\nm<=999999999999
theorem QiL (t:ByteArray) (hz:t.size<=100000) (w:World) :
  Calls prog 11 #[.string t] w fun e w'=>RlA t e/\Below w.heap.size w w':=by
 have aK:Hid (Below w.heap.size w (w.alloc (.cells zLn 44))):=(ZZb _ _).alloc (ZZa _) _;have K0:=Qaa (ZZk w (.cells zLn 44));have al:=Qaa (Qey t 32 (by omega) (by omega) (w.alloc (.cells zLn 44)));obtain ⟨s1,s2,s3⟩:=Qjl t 32;have HZ:=Qaa s1;have ao:Hid (okM (QaG t 32)=match Qc5 ((QaG t 32).headD ByteArray.empty) with | none=>false | some c=>decide ((shp c).length=(QaG t 32).length - 1) && okS (shp c) (QaG t 32).tail):=rfl
 generalize hLe:QaG t 32=L at al HZ ao s2 s3;obtain ⟨u,R,rfl⟩:=List.exists_cons_of_length_pos (l:=L) (by omega);obtain ⟨N,hN⟩:∃ N,(u :: R).length=N:=⟨_,rfl⟩;have HN:=Qaa hN;have aA:=Qaa hLe;rw [hN] at al s2 s3;clear s1 hN hLe;have hn:Hid (N<=t.size+1/\1<=N):=Qaa ⟨s3,s2⟩;go_enter func11,ntmps11;go_wp2_with fail;refine al.out.mono ?_;rintro e w1 ⟨g,aW,rfl,hg,az,ac,au⟩;have aD:=Qaa (Qac aK au);have K1:=Qaa (QjD K0 au);have aB:=Qaa ac;have AL:Hid (∀ o,Below w1.heap.size w1 (w1.alloc o)):=fun o=>(ZZb _ _).alloc (ZZa _) _;have aH:=ac 0 u rfl;have aC:g<w1.heap.size:=World.block_lt_of_cell? _ _ aH;have aj:=Qaa aC;have aX:=hn.out.2;have a0:(0:Int)<(N:Int):=by omega
 clear ac au al K0 aK hg az;go_upto_region 3 with fail;have ak:=Qaa (Qac aD (AL.out (.cells #[.string u,.int .i64 0,.string ⟨#[]⟩] 44)));have K2:=Qaa (QjD K1 (AL.out (.cells #[.string u,.int .i64 0,.string ⟨#[]⟩] 44)));have KX:=Qaa (ZZk w1 (.cells #[.string u,.int .i64 0,.string ⟨#[]⟩] 44));have ay:Hid (∀ j x,(u :: R)[j]?=some x->(w1.alloc (.cells #[.string u,.int .i64 0,.string ⟨#[]⟩] 44)).cell? ⟨g,j,none⟩=some (.string x)):=Qaa (fun j x h=>Qab (AL.out _) (aB.out j x h));have ax:Hid (w.heap.size<w1.heap.size):=Qaa (ZZc.1 K1).1;have aG:=ay.out 0 u rfl;clear aD K1 aB AL aH aC;generalize w1.alloc (.cells #[.string u,.int .i64 0,.string ⟨#[]⟩] 44)=W3 at ak K2 KX ay aG ⊢;generalize w1.heap.size=O at KX ax aj ⊢;go_wp2_with fail;refine (Qml u W3).mono ?_;rintro e w4 ⟨⟨s,rfl,hs⟩,hw⟩;obtain rfl:=hw.symm;have HU:=Qaa (HZ.out u List.mem_cons_self)
 cases hcm:Qc5 u with
 | none=>
  have HE:Hid (okM (u :: R)=false):=by rw [ao.out];show Hid ((match Qc5 u with | none=>false | some c=>_)=false);rw [hcm];exact Qaa rfl
  obtain ⟨y0,y1,y2⟩:=QbJ K2;obtain ⟨z0,z1,z2⟩:=QbJ KX;have f0:=fzR 0 K2;have f1:=fzR 1 K2;have f2:=fzR 2 K2;clear hs;go_wp2;refine bodyPost_ret (v:=.tuple #[.agg #[.string u,.int .i64 0,.string ⟨#[]⟩],.bool false]) (by simp [results,results11,go_sem,y0,y1,y2]) rfl ⟨⟨u,0,⟨#[]⟩,by rw [aA.out,HE.out],HU,Nat.zero_le _,by omega,by omega⟩,?_⟩
  repeat (refine Below.setCell ?_ (by simp) _)
  exact ak.out
 | some c=>
  have aw:=hs c hcm;have av:Hid (s.size=(shp c).length):=Qaa (by rw [aw];exact Qq7 c);have aT:Hid (∀ k,k<(shp c).length->bt s k=if (shp c).getD k true=true then 119 else 110):=Qaa (by rw [aw];exact shS_bt c)
  have aJ:Hid (okM (u :: R)=(decide ((shp c).length=N - 1) && okU (shp c) R (shp c).length)):=by
   rw [ao.out]
   show Hid ((match Qc5 u with | none=>false | some c=>decide ((shp c).length=(u :: R).length - 1) && okS (shp c) R)=_)
   rw [hcm,HN.out,<- Qoe];exact Qaa rfl
  clear hs aw ao hcm;by_cases hl:s.size=N - 1
  ·have HE:Hid (okM (u :: R)=okU (shp c) R s.size):=by rw [aJ.out,<- av.out,decide_eq_true hl];exact Qaa (Bool.true_and _)
   have aS:((s.size:Int) != (N:Int) - 1)=false:=by simp;omega
   have aU:(((N - 1:Nat):Int) != (N:Int) - 1)=false:=by simp;omega
   have aV:IntKind.i64.wrap ((N:Int) - 1)=(N:Int) - 1:=ZZi _ ⟨by omega,by have:=hn.out.1;omega⟩;have a4:=get_bt s;have aP:Hid (R.length=s.size):=Qaa (by have:=HN.out;simp at this;omega);have aN:Hid (RlK W3 W3 O u t.size):=Qaa ⟨ZZb _ _,0,⟨#[]⟩,KX,ZZj _,by omega,by omega⟩;have aQ:Hid (s.size+1=N/\N<=100001):=Qaa (by have:=hn.out.1;omega);clear aG;go_wp2
   go_loopw [7,8,9,10] (fun b i _ _ wr=>∃ k:Nat,k<=s.size/\i=.int .i64 k/\b=.bool (okU (shp c) R k)/\Hid (RlK W3 wr O u t.size)) (fun b i _ _ wr=>s.size - (Go.RowKit.intOf i).toNat)
   case atStart=>exact ⟨0,ZZj _,rfl,rfl,aN⟩
   case round=>
    obtain ⟨k,hk,rfl,rfl,HK⟩:=hrel;obtain ⟨nm,wh,hx,aF,aE,aI⟩:=HK.out.x;have af:=Qaa hx;have HW:=Qaa (And.intro aF (And.intro aE aI));have a3:=aQ.out;clear hx aF aE aI;by_cases a1:k<s.size
    ·have aR:(k:Int)<(s.size:Int):=by omega
     have aZ:IntKind.i64.wrap ((k:Int)+1)=(k:Int)+1:=ZZi _ ⟨by omega,by omega⟩;have aY:(k:Int)+1<(N:Int):=by omega
     have a2:¬ (k:Int)+1<0:=by omega
     obtain ⟨x,am⟩:∃ x,R[k]?=some x:=⟨R[k]'(by have:=aP.out;omega),ZZe _⟩
     have ag:wr.cell? ⟨g,k+1,none⟩=some (.string x):=by
      rw [HK.out.b.cell (p:=⟨g,k+1,none⟩) aj.out];exact ay.out (k+1) x am
     have HX:=Qaa (HZ.out x (ZZm _ (ZZn am)));have HG:Hid (R.getD k ByteArray.empty=x):=by rw [List.getD_eq_getElem?_getD,am];exact Qaa rfl
     have aa:Hid (okU (shp c) R (k+1)=(okU (shp c) R k && okT ((shp c).getD k true) x)):=by
      show Hid ((okU (shp c) R k && okT ((shp c).getD k true) (R.getD k ByteArray.empty))=_)
      rw [HG.out];exact Qaa rfl
     have ah:=aT.out k (by have:=av.out;omega);clear am;obtain ⟨z0,z1,z2⟩:=QbJ af;have g1:=fzR 1 af;have g2:=fzR 2 af
     cases hsh:(shp c).getD k true with
     | true=>
      rw [hsh] at ah aa;have ad:bt s k=119:=ah;have aq:(bt s k == 119)=true:=by rw [ad];rfl
      clear ah hsh;have ap:Hid ((wr.setCell ⟨O,2,none⟩ (.string x)).heap[O]?=some (.cells #[.string u,.int .i64 nm,.string x] 44 (0,0))):=Qaa (ZZl wr O 2 _ _ _ af);have an:=Qaa (Below.setCell HK.out.b (show O<=(⟨O,2,none⟩:Addr).block from ZZa O) (.string x));have ab:Hid (RlK W3 (wr.setCell ⟨O,2,none⟩ (.string x)) O u t.size):=Qaa ⟨an,nm,x,ap,HX,HW.out.2.1,HW.out.2.2⟩
      have ae:(wr.setCell ⟨O,2,none⟩ (.string x)).cell? ⟨g,k+1,none⟩=some (.string x):=by
       rw [an.out.cell (p:=⟨g,k+1,none⟩) aj.out,<- HK.out.b.cell (p:=⟨g,k+1,none⟩) aj.out];exact ag
      cases hok:okU (shp c) R k with
      | false=>
       rw [hok] at aa;clear hok;go_upto_region 11 with fail;clear ag z0 z1 z2 g1 g2;generalize wr.setCell ⟨O,2,none⟩ (.string x)=W5 at ab ae ⊢;go_wp2;go_roundw
       case rel=>exact ⟨k+1,by omega,by go_num,by rw [aa.out];rfl,ab⟩
       case measure=>simp [zI];omega
      | true=>
       rw [hok] at aa;clear hok;by_cases he:x=ByteArray.empty
       ·have ar:Hid (okU (shp c) R (k+1)=false):=by rw [aa.out,he];exact Qaa rfl
        have aO:x.toList.isEmpty=true:=by rw [he,ByteArray.toList_eq];rfl
        clear he aa;go_upto_region 11 with fail;clear ag z0 z1 z2 g1 g2;generalize wr.setCell ⟨O,2,none⟩ (.string x)=W5 at ab ae ⊢;go_wp2;go_roundw
        case rel=>exact ⟨k+1,by omega,by go_num,by rw [ar.out],ab⟩
        case measure=>simp [zI];omega
       ·have ar:Hid (okU (shp c) R (k+1)=true):=by rw [aa.out];unfold okT;rw [if_pos rfl,decide_eq_false he];exact Qaa rfl
        have aO:x.toList.isEmpty=false:=emp_ne he;clear he aa;go_upto_region 11 with fail;clear ag z0 z1 z2 g1 g2;generalize wr.setCell ⟨O,2,none⟩ (.string x)=W5 at ab ae ⊢;go_wp2;go_roundw
        case rel=>exact ⟨k+1,by omega,by go_num,by rw [ar.out],ab⟩
        case measure=>simp [zI];omega
     | false=>
      rw [hsh] at ah aa;have ad:bt s k=110:=ah;have aq:(bt s k == 119)=false:=by rw [ad];rfl
      clear ah hsh;go_wp2_with fail;refine (Qrl x (by have:=HX.out;omega) wr).mono ?_;rintro e w5 ⟨⟨n,rfl,n1,n2⟩,hw⟩;obtain rfl:=hw.symm;have ap:Hid ((wr.setCell ⟨O,1,none⟩ (.int .i64 n)).heap[O]?=some (.cells #[.string u,.int .i64 n,.string wh] 44 (0,0))):=Qaa (ZZl wr O 1 _ _ _ af);have an:=Qaa (Below.setCell HK.out.b (show O<=(⟨O,1,none⟩:Addr).block from ZZa O) (.int .i64 n));have ab:Hid (RlK W3 (wr.setCell ⟨O,1,none⟩ (.int .i64 n)) O u t.size):=Qaa ⟨an,n,wh,ap,HW.out.1,n1,n2⟩;have ai:Hid (okU (shp c) R (k+1)=(okU (shp c) R k && Qj0 x)):=aa;clear n1 n2 aa
      cases hok:okU (shp c) R k with
      | false=>
       rw [hok] at ai;clear hok;go_upto_region 14 with fail;clear ag z0 z1 z2 g1 g2;generalize wr.setCell ⟨O,1,none⟩ (.int .i64 n)=W5 at ab ⊢;go_wp2;go_roundw
       case rel=>exact ⟨k+1,by omega,by go_num,by rw [ai.out];rfl,ab⟩
       case measure=>simp [zI];omega
      | true=>
       rw [hok] at ai;clear hok;go_upto_region 14 with fail;clear ag z0 z1 z2 g1 g2;generalize wr.setCell ⟨O,1,none⟩ (.int .i64 n)=W5 at ab ⊢;generalize Qj0 x=nb at ai ⊢;go_wp2;go_roundw
       case rel=>exact ⟨k+1,by omega,by go_num,by rw [ai.out];rfl,ab⟩
       case measure=>simp [zI];omega
    ·have aM:k=s.size:=by omega
     subst aM;have aR:¬ (s.size:Int)<(s.size:Int):=by omega
     have K5:=Qaa ((HK.out.b.block _ ax).trans K2);have aL:=Qaa (ak.out.trans (HK.out.b.mono (Nat.le_of_lt ax)));generalize okU (shp c) R s.size=ob at HE ⊢;obtain ⟨y0,y1,y2⟩:=QbJ K5;obtain ⟨z0,z1,z2⟩:=QbJ af;have f0:=fzR 0 K5;have f1:=fzR 1 K5;have f2:=fzR 2 K5;go_wp2;refine bodyPost_ret (v:=.tuple #[.agg #[.string u,.int .i64 nm,.string wh],.bool ob]) (by simp [results,results11,go_sem,y0,y1,y2]) rfl ⟨⟨u,nm,wh,by rw [aA.out,HE.out],HU,HW.out.1,HW.out.2.1,HW.out.2.2⟩,?_⟩
     repeat (refine Below.setCell ?_ (by simp) _)
     exact aL.out
  ·have HE:Hid (okM (u :: R)=false):=by rw [aJ.out,<- av.out,decide_eq_false hl];exact Qaa rfl
   have aS:((s.size:Int) != (N:Int) - 1)=true:=by simp;omega
   have aV:IntKind.i64.wrap ((N:Int) - 1)=(N:Int) - 1:=ZZi _ ⟨by omega,by have:=hn.out.1;omega⟩;obtain ⟨y0,y1,y2⟩:=QbJ K2;obtain ⟨z0,z1,z2⟩:=QbJ KX;have f0:=fzR 0 K2;have f1:=fzR 1 K2;have f2:=fzR 2 K2;go_wp2;refine bodyPost_ret (v:=.tuple #[.agg #[.string u,.int .i64 0,.string ⟨#[]⟩],.bool false]) (by simp [results,results11,go_sem,y0,y1,y2]) rfl ⟨⟨u,0,⟨#[]⟩,by rw [aA.out,HE.out],HU,Nat.zero_le _,by omega,by omega⟩,?_⟩
   repeat (refine Below.setCell ?_ (by simp) _)
   exact ak.out
end Go.Proofs.YtdbaabbmcfnjbaaGreatDoor
