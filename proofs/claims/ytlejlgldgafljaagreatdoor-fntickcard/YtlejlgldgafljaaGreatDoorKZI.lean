/-
 Parts.
-/
import Derived.Test.YtlejlgldgafljaaGreatDoorKZF
import Derived.Test.YtlejlgldgafljaaGreatDoorKZD
set_option maxRecDepth 10000
set_option maxHeartbeats 16000000
set_option linter.all false
namespace Go.Proofs.YtlejlgldgafljaaGreatDoor
open Go.ChangeShapes Go.WideShapes Go.ChangeAt Go.RowKit Go.PlainAid Go.Lib Go.Maps Tryz
theorem Qbp (cd:Int) (w:World):Calls prog 43 #[.int .i64 cd] w fun e w'=>e=.returned (.agg (QaL (.slice none 0 0) q0 (.slice none 0 0) cd))/\Below w.heap.size w w':=by
 have HB:Hid (∀ o1,Below w.heap.size w (w.alloc o1)):=fun o1=>(ZZb _ _).alloc (ZZa _) _;go_enter func43,ntmps43;go_wp2;exact bodyPost_ret (v:=.agg (QaL (.slice none 0 0) q0 (.slice none 0 0) cd)) (by simp [results,results43,go_sem]) rfl ⟨rfl,HB.out _⟩
variable {w:World}
variable {K:List ByteArray}
theorem Qqg {an:Option Addr} {cn:Nat} (u:ByteArray) (hl:K.length<=100000) (hA:Qas w an K) :
  Calls prog 45 #[.slice an K.length cn,.string u] w fun e w'=>e=.returned (.bool (inK K u))/\w'=w:=by
 have HA:=Qaa hA;obtain ⟨B,hB⟩:∃ B,inK K u=B:=⟨_,rfl⟩;rw [hB];have HB:=Qaa hB;clear hA hB;go_enter func45,ntmps45;go_wp2
 go_loopw [5] (fun i wr=>∃ (k:Nat),k<=K.length/\i=.int .i64 k/\Hid (u ∉ K.take k)/\wr=w) (fun i wr=>K.length - (Go.RowKit.intOf i).toNat)
 case atStart=>exact ⟨0,Nat.zero_le _,rfl,Qaa (by simp),rfl⟩
 case round=>
  obtain ⟨k,hk,rfl,HU,ab⟩:=hrel;subst ab;by_cases ac:k<K.length
  ·have aa:(k:Int)<(K.length:Int):=by omega
   obtain ⟨x,hx⟩:∃ x,K[k]?=some x:=⟨K[k],ZZe ac⟩;obtain ⟨b,ad,e,hc⟩:=HA.out (by omega);subst e;have x0:=hc k x hx
   cases q:(x.toList == u.toList) with
   | true=>
    obtain rfl:B=true:=by rw [<- HB.out];exact QnB (by rw [<- QgC q];exact List.mem_of_getElem? hx)
    clear hc hx;go_wp2;go_ret;exact ⟨rfl,rfl⟩
   | false=>
    have HF:Hid (u ∉ K.take (k+1)):=by
     rw [List.take_add_one,hx];refine Qaa (fun h=>?_);rcases List.mem_append.1 h with h | h
     ·exact HU.out h
     ·have e:u=x:=by simpa using h
      rw [e] at q;simp at q
    clear hc hx;go_wp2;go_roundw
    case rel=>exact ⟨k+1,by omega,by first | rfl | go_num,HF,by first | rfl | trivial⟩
    case measure=>simp [zI];omega
  ·have aa:¬ (k:Int)<(K.length:Int):=by omega
   obtain rfl:B=false:=by
    rw [<- HB.out];have h:=HU.out;rw [List.take_of_length_le (by omega)] at h;exact inK_no h
   go_wp2;go_ret;exact ⟨rfl,rfl⟩
variable {ao:Option Addr}
theorem QpF {B n cp:Nat} (h:OwnT w B (.slice ao n cp) K):n<=cp/\cp<=maxLen/\(ao=none->cp=0)/\Qas w ao K/\K.length=n:=by
 rcases h.2 with ⟨e,q⟩ | ⟨g,ab,aa,e,q1,q2,q3,q4,q5⟩
 ·injection e with e1 e2 e3
  exact ⟨by omega,by unfold maxLen;omega,fun _=>e3,fun h0=>by omega,by omega⟩
 ·injection e with e1 e2 e3
  subst e1;subst e2;subst e3;exact ⟨q3,q4,(fun e=>by cases e),Qpy h,rfl⟩
variable {S:List Sd}
variable {p:Pi}
theorem pip_sz (h:QbD S p=true):∀ s∈S,∀ c∈s.L,c.s.size<=100:=fun s hs c hc=>(Qpp ((QhF (Qf4 (Qbr h).1 hs)).2.1 c hc)).2
variable {mm:ByteArray}
variable {c7 cd:Int}
variable {b7 b8:Bool}
theorem MbA.ill {wr:World} (hR:MbR S p mm c7 b7 b8 K q0 (([]:List Sd).map Sd.key) cd) (hb:Below w.heap.size w wr):MbA w S p mm c7 b7 b8 K (.returned (.agg (QaL (.slice none 0 0) q0 (.slice none 0 0) cd))) (((((((wr.setCell ⟨w.heap.size+1,0,none⟩ (.slice none 0 0)).setCell ⟨w.heap.size+1,1,none⟩ (.int .i64 0)).setCell ⟨w.heap.size+1,2,none⟩ (.int .i64 0)).setCell ⟨w.heap.size+1,3,none⟩ (.int .i64 0)).setCell ⟨w.heap.size+1,4,none⟩ (.int .i64 0)).setCell ⟨w.heap.size+1,5,none⟩ (.slice none 0 0)).setCell ⟨w.heap.size+1,6,none⟩ (.int .i64 cd)):=by
 have hC:=CpP.sets7 (v0:=.slice none 0 0) (v1:=.int .i64 0) (v2:=.int .i64 0) (v3:=.int .i64 0) (v4:=.int .i64 0) (v5:=.slice none 0 0) (v6:=.int .i64 cd) (fun j q=>by cases q) (LvO.nil _ _) (QpU hb);exact ⟨none,0,0,q0,[],cd,rfl,hR,hC.r,hC.o,hC.b⟩
theorem Qcw {N ca:Nat} (p:Pi) (mm:ByteArray) (hzm:mm.size<=maxLen) (hI:PpI w ao N S) :
  Calls prog 13 #[.agg (Qaf (.slice ao N ca) p),.string mm] w fun e w'=>MbA w S p mm 7 (inK (S.map Sd.nm) mm) (decide (12<=S.length)) (QcC (S.map Sd.nm) mm) e w':=by
 have HI:=Qaa hI;have a1:∀ (X:World) o,Below X.heap.size X (X.alloc o):=fun X o=>(ZZb _ _).alloc (ZZa _) _;have k0:=ZZk w (.cells (Qaf (.slice ao N ca) p) 25);have k1:=ZZk (w.alloc (.cells (Qaf (.slice ao N ca) p) 25)) (.cells (QaL (.slice none 0 0) q0 (.slice none 0 0) 0) 37);simp only [World.size_alloc] at k1;have aq:=Qaa (Qam k0 (a1 _ (.cells (QaL (.slice none 0 0) q0 (.slice none 0 0) 0) 37)));have am:=Qaa k1;have ax:=Qaa (Qac (a1 w (.cells (Qaf (.slice ao N ca) p) 25)) (a1 _ (.cells (QaL (.slice none 0 0) q0 (.slice none 0 0) 0) 37)));clear hI a1 k0 k1;go_enter func13,ntmps13;go_upto_region 1 with fail;generalize (w.alloc (.cells (Qaf (.slice ao N ca) p) 25)).alloc (.cells (QaL (.slice none 0 0) q0 (.slice none 0 0) 0) 37)=W0 at aq am ax ⊢;have aM:w.heap.size+1+1<=W0.heap.size:=(ZZc.1 am).1;have a0:=Qaa aM;clear aM;by_cases ae:20000<mm.size
 ·have ba:decide ((20000:Int)<(mm.size:Int))=true:=ZZh (by omega)
  have a4:(20000:Int)<(mm.size:Int):=by omega
  have ac:mfC S p mm=2:=by unfold mfC;rw [if_pos ae]
  have ab:Hid (MbR S p mm 7 (inK (S.map Sd.nm) mm) (decide (12<=S.length)) (QcC (S.map Sd.nm) mm) q0 (([]:List Sd).map Sd.key) 2):=Qaa (by unfold MbR;rw [ac,if_pos (by decide)];exact ⟨rfl,rfl,rfl⟩);clear ac;go_wp2_with fail;refine (Qbp 2 _).mono ?_;rintro e wz ⟨rfl,aa⟩;have HF:=Qaa (MbA.ill (Qaa ab).out (Qac ax aa));have R1:=Qam am aa;obtain ⟨y0,y1,y2,y3,y4,y5,y6⟩:=Qet R1;obtain ⟨f0,f1,f2,f3,f4,f5,f6⟩:=fA7 R1;clear R1 aa;go_wp2;exact bodyPost_ret (v:=.agg (QaL (.slice none 0 0) q0 (.slice none 0 0) 2)) (by simp [results,results13,go_sem,y0,y1,y2,y3,y4,y5,y6]) rfl HF
 have a4:¬ (20000:Int)<(mm.size:Int):=by omega
 obtain ⟨x0,x1,x2,x3,x4⟩:=Qa0 aq;go_wp2_with fail;clear x0 x1 x2 x3 x4;refine (QbK p HI.out.n HI.out.sm HI.out.ok (QaR HI.out.at' ax)).mono ?_;rintro e w1 ⟨rfl,ap⟩;have ag:=Qaa (Qam aq ap);have ad:=Qaa (Qam am ap);have ar:=Qaa (Qac ax ap);have aK:=Qaa (Nat.le_trans a0 ap.size);clear ap aq am
 cases hp:QbD S p with
 | false=>
  have ac:mfC S p mm=1:=by unfold mfC;rw [if_neg ae,if_pos (.inl hp)]
  have ab:Hid (MbR S p mm 7 (inK (S.map Sd.nm) mm) (decide (12<=S.length)) (QcC (S.map Sd.nm) mm) q0 (([]:List Sd).map Sd.key) 1):=Qaa (by unfold MbR;rw [ac,if_pos (by decide)];exact ⟨rfl,rfl,rfl⟩);clear ac hp;go_wp2_with fail;refine (Qbp 1 _).mono ?_;rintro e wz ⟨rfl,aa⟩;have HF:=Qaa (MbA.ill (Qaa ab).out (Qac ar aa));have R1:=Qam ad aa;obtain ⟨y0,y1,y2,y3,y4,y5,y6⟩:=Qet R1;obtain ⟨f0,f1,f2,f3,f4,f5,f6⟩:=fA7 R1;clear R1 aa;go_wp2;exact bodyPost_ret (v:=.agg (QaL (.slice none 0 0) q0 (.slice none 0 0) 1)) (by simp [results,results13,go_sem,y0,y1,y2,y3,y4,y5,y6]) rfl HF
 | true=>
  have HP:=Qaa hp;clear hp;go_wp2_with fail;refine (QaI mm w1 hzm).mono ?_;rintro e w2 ⟨rfl,rfl⟩
  cases hn:QaE mm with
  | false=>
   have ac:mfC S p mm=1:=by unfold mfC;rw [if_neg ae,if_pos (.inr hn)]
   have ab:Hid (MbR S p mm 7 (inK (S.map Sd.nm) mm) (decide (12<=S.length)) (QcC (S.map Sd.nm) mm) q0 (([]:List Sd).map Sd.key) 1):=Qaa (by unfold MbR;rw [ac,if_pos (by decide)];exact ⟨rfl,rfl,rfl⟩);clear ac hn;go_wp2_with fail;refine (Qbp 1 _).mono ?_;rintro e wz ⟨rfl,aa⟩;have HF:=Qaa (MbA.ill (Qaa ab).out (Qac ar aa));have R1:=Qam ad aa;obtain ⟨y0,y1,y2,y3,y4,y5,y6⟩:=Qet R1;obtain ⟨f0,f1,f2,f3,f4,f5,f6⟩:=fA7 R1;clear R1 aa;go_wp2;exact bodyPost_ret (v:=.agg (QaL (.slice none 0 0) q0 (.slice none 0 0) 1)) (by simp [results,results13,go_sem,y0,y1,y2,y3,y4,y5,y6]) rfl HF
  | true=>
   have ac:mfC S p mm=0:=by unfold mfC;rw [if_neg ae,if_neg (by rw [HP.out,hn];simp)]
   have aD:=Qaa ac;have aZ:=Qaa hn;have HQ:=Qaa (HI.out.qs HP);have bc:=HQ.out.n;clear hn ac;obtain ⟨x0,x1,x2,x3,x4⟩:=Qa0 ag;go_wp2_with fail;clear x0 x1 x2 x3 x4;refine (Qdc p HI.out.n (by have:=HI.out.sm.n;have:=HI.out.n;omega) (QaR HI.out.at' ar)).mono ?_;rintro e w3 ⟨bn,cn,rfl,aU,ai⟩;obtain ⟨aC,aF,aE,aP,aW⟩:=QpF aU;have ak:(S.map Sd.nm).length=N:=aW;have bb:S.length=N:=by rw [List.length_map] at ak;exact ak
   have aH:=Qaa (Qam ag ai);have af:=Qaa (Qam ad ai);have aw:=Qaa (Qac ar ai);have aS:=Qaa aP;have al:w.heap.size+1+1<=w3.heap.size:=Nat.le_trans aK ai.size;have az:=Qaa al;clear aU ai ag ad aP aW al;go_wp2_with fail;have HH:=Qaa (Qqg (w:=w3) (an:=bn) (cn:=cn) (K:=S.map Sd.nm) mm (by rw [List.length_map];omega) aS);rw [ak] at HH;refine HH.out.mono ?_;rintro e w4 ⟨rfl,aL⟩;rw [aL];clear aL w4;clear HH;have ah:Qaj (S.map Sd.nm)=true:=QfF (Qbr HP).1;have aI:=Qaa ah;clear ah
   cases hk:inK (S.map Sd.nm) mm with
   | true=>
    have ab:Hid (MbR S p mm 7 (inK (S.map Sd.nm) mm) (decide (12<=S.length)) (QcC (S.map Sd.nm) mm) q0 (([]:List Sd).map Sd.key) 7):=Qaa (by unfold MbR;rw [aD.out,if_neg (by decide),if_pos hk];exact ⟨rfl,rfl,rfl⟩);clear hk;go_wp2_with fail;refine (Qbp 7 _).mono ?_;rintro e wz ⟨rfl,aa⟩;have HF:=Qaa (MbA.ill (Qaa ab).out (Qac aw aa));have R1:=Qam af aa;obtain ⟨y0,y1,y2,y3,y4,y5,y6⟩:=Qet R1;obtain ⟨f0,f1,f2,f3,f4,f5,f6⟩:=fA7 R1;clear R1 aa;go_wp2;exact bodyPost_ret (v:=.agg (QaL (.slice none 0 0) q0 (.slice none 0 0) 7)) (by simp [results,results13,go_sem,y0,y1,y2,y3,y4,y5,y6]) rfl HF
   | false=>
    by_cases h8:12<=N
    ·have d8:decide ((12:Int)<=(N:Int))=true:=ZZh (by omega)
     have a2:(12:Int)<=(N:Int):=by omega
     have ab:Hid (MbR S p mm 7 (inK (S.map Sd.nm) mm) (decide (12<=S.length)) (QcC (S.map Sd.nm) mm) q0 (([]:List Sd).map Sd.key) 8):=Qaa (by unfold MbR;rw [aD.out,if_neg (by decide),if_neg (by rw [hk];simp),if_pos (decide_eq_true (by omega))];exact ⟨rfl,rfl,rfl⟩);clear hk;go_wp2_with fail;refine (Qbp 8 _).mono ?_;rintro e wz ⟨rfl,aa⟩;have HF:=Qaa (MbA.ill (Qaa ab).out (Qac aw aa));have R1:=Qam af aa;obtain ⟨y0,y1,y2,y3,y4,y5,y6⟩:=Qet R1;obtain ⟨f0,f1,f2,f3,f4,f5,f6⟩:=fA7 R1;clear R1 aa;go_wp2;exact bodyPost_ret (v:=.agg (QaL (.slice none 0 0) q0 (.slice none 0 0) 8)) (by simp [results,results13,go_sem,y0,y1,y2,y3,y4,y5,y6]) rfl HF
    ·have a2:¬ (12:Int)<=(N:Int):=by omega
     have aT:Hid (decide (12<=S.length)=false):=Qaa (ZZg (by omega));have aN:mm ∉ S.map Sd.nm:=fun h=>by rw [QnB h] at hk;cases hk
     have aY:=Qpa aI aN (by rw [ak];omega) aZ;have a7:=Qaa aY;have aA:=Qaa hk;have ab:Hid (∀ (X:List Sd) (L:List Ce),Qc3 L->(L.map Ce.key).Perm ((Qbi S).map Ce.key)->ShrL (QcC (S.map Sd.nm) mm) L X->MbR S p mm 7 (inK (S.map Sd.nm) mm) (decide (12<=S.length)) (QcC (S.map Sd.nm) mm) p (X.map Sd.key) 0):=fun X L h1 h2 h3=>by unfold MbR;rw [aD.out,if_neg (by decide),if_neg (by rw [aA.out];simp),if_neg (by simp;omega)];exact ⟨rfl,rfl,L,h1,h2,h3.keys⟩
     clear hk aN aY;go_upto_region 10 with fail;have aj:Hid ((fun W=>Below w3.heap.size w3 W) w3.drew):=(ZZb _ _).drew;refine Qal (fun W=>Below w3.heap.size w3 W) 6 (by kernel_rfl) ?_;refine tkL 0 (.agg (Qaf (.slice ao N ca) p)) aj (fun W hW=>?_) ?_
     ·obtain ⟨x0,x1,x2,x3,x4⟩:=Qa0 (Qam aH hW)
      clear hW;go_simp
     refine tkS 1 (.slice bn N cn) aj ?_;refine tkS 2 (.string mm) aj ?_;simp only [sX];refine onE 3 fun K hK=>?_;go_simp;refine (Qhs mm ak (by omega) aC aF aE (Qay aS aj)).mono ?_;rintro e w5 ⟨v5,rfl,aB,aQ⟩;obtain ⟨a5,c5,rfl⟩:=QdJ aB;have ay:Hid (Below w3.heap.size w3 w5):=Qac aj aQ;have a3:=Qaa (Qpy aB);clear aQ aB;dsimp only;refine gK hK ay.out ?_
     try simp only [sX]
     refine onE 4 fun K hK=>?_;go_simp;refine (Qmr p (HI.out.past (Qac aw ay)) HQ (pip_sz HP) a7 a3).mono ?_;rintro e w6 ⟨v6,X,L,rfl,aO,aR,aX,au,aG,aV⟩;obtain ⟨a6,c6,rfl,_⟩:=au.form;have av:Hid (Below w3.heap.size w3 w6):=Qac ay aV;have HF:=Qaa (ab.out X L aO aR aX);have z5:w.heap.size+1+1<=w5.heap.size:=Nat.le_trans az ay.out.size;have a8:Hid (LvO w6 (w.heap.size+1+1) X):=Qaa (aG.le z5);have aJ:Hid (∀ j,(Value.slice a6 X.length c6).ownBlock=some j->w.heap.size+1+1<=j):=fun j q=>Nat.le_trans z5 (World.ownsRow.lt au j q).1;have a9:Hid (CpP w w6 X (.slice a6 X.length c6) X):=Qaa ⟨au.le (by omega),aG.le (by omega),rfl,Qac aw av⟩;clear aO aR aX au aG aV;dsimp only;refine gK hK av.out ?_
     try simp only [sX]
     refine tkS 5 (.agg (QaL (.slice a6 X.length c6) p (.slice none 0 0) 0)) av ?_;simp only [sX];have R1:=Qam af av;obtain ⟨y0,y1,y2,y3,y4,y5,y6⟩:=Qet R1;obtain ⟨f0,f1,f2,f3,f4,f5,f6⟩:=fA7 R1;clear R1;refine onE 6 fun K hK=>?_;go_simp;refine hK.out _ _ (fun h=>absurd rfl h) ?_
     try simp only [sX]
     refine dnE ?_ _;go_wp2;refine bodyPost_ret (v:=.agg (QaL (.slice a6 X.length c6) p (.slice none 0 0) 0)) (by simp [results,results13,go_sem,y0,y1,y2,y3,y4,y5,y6]) rfl ?_;have hC:=CpP.sets7 (v0:=.slice a6 X.length c6) (v1:=.int .i64 p.a) (v2:=.int .i64 p.b) (v3:=.int .i64 p.c) (v4:=.int .i64 p.d) (v5:=.slice none 0 0) (v6:=.int .i64 0) aJ a8 a9;have hF:=HF.out;rw [aA.out,aT.out] at hF;exact ⟨a6,_,c6,p,X,0,rfl,by first | exact hF | exact HF.out | (have h:=HF.out;rw [aT.out] at h;exact h) | (have h:=HF.out;rw [aA.out] at h;exact h),hC.r,hC.o,hC.b⟩
theorem MbR.key {T:List Sd} {q:Pi} {KM:List (ByteArray×List (Int×ByteArray×Ag))} (h:MbR T p mm c7 b7 b8 K q KM cd) (e:T.map Sd.key=S.map Sd.key):MbR S p mm c7 b7 b8 K q KM cd:=by
 have em:mfC T p mm=mfC S p mm:=by unfold mfC;rw [Qld e]
 unfold MbR at h ⊢;rw [em,QsV e] at h;exact h
def PoA (w:World) (R:Pi->List (ByteArray×List (Int×ByteArray×Ag))->List (Int×ByteArray×Ag)->Int->Prop) (e:Ending) (w':World):Prop:=
 ∃ a n c q M d m f C cd,e=.returned (.agg (QaL (.slice a n c) q (.slice d m f) cd))/\R q (M.map Sd.key) (C.map Ce.key) cd/\PoB w' w.heap.size w'.heap.size (.slice a n c) M (.slice d m f) C/\Below w.heap.size w w'
def JnR (S:List Sd) (p:Pi) (mm:ByteArray) (q:Pi) (KM:List (ByteArray×List (Int×ByteArray×Ag))) (KC:List (Int×ByteArray×Ag)) (cd:Int):Prop:=MbR S p mm 7 (inK (S.map Sd.nm) mm) (decide (12<=S.length)) (QcC (S.map Sd.nm) mm) q KM cd/\KC=[]
def LeR (S:List Sd) (p:Pi) (mm:ByteArray) (q:Pi) (KM:List (ByteArray×List (Int×ByteArray×Ag))) (KC:List (Int×ByteArray×Ag)) (cd:Int):Prop:=MbR S p mm 6 (!inK (S.map Sd.nm) mm) (decide (S.length=1)) (restK (S.map Sd.nm) mm) q KM cd/\KC=[]
section
variable {w w':World} {S T M:List Sd} {C:List Ce} {p q q':Pi} {mm:ByteArray} {en:Ending} {KM KM':List (ByteArray×List (Int×ByteArray×Ag))} {KC KC':List (Int×ByteArray×Ag)} {cd cd':Int}
theorem Qkp (e:T.map Sd.key=S.map Sd.key):T.map Sd.nm=S.map Sd.nm/\T.length=S.length:=by
 have h:=congrArg (List.map Prod.fst) e;rw [List.map_map,List.map_map] at h;have l:=congrArg List.length e;rw [List.length_map,List.length_map] at l;exact ⟨h,l⟩
theorem QqO (e:T.map Sd.key=S.map Sd.key) (h:MbA w T p mm 7 (inK (T.map Sd.nm) mm) (decide (12<=T.length)) (QcC (T.map Sd.nm) mm) en w'):PoA w (JnR S p mm) en w':=by
 obtain ⟨a,k,c,q,M,cd,rfl,hR,r,o,b⟩:=h;rw [(Qkp e).1,(Qkp e).2] at hR;exact ⟨a,k,c,q,M,none,0,0,[],cd,rfl,⟨hR.key e,rfl⟩,PoB.none r o,b⟩
end
end Go.Proofs.YtlejlgldgafljaaGreatDoor
