/-
 Parts.
-/
import Derived.Test.YtioohanfodmddaaGreatDoorCZF
import Derived.Test.YtioohanfodmddaaGreatDoorCZD
set_option maxRecDepth 10000
set_option maxHeartbeats 16000000
set_option linter.all false
namespace Go.Proofs.YtioohanfodmddaaGreatDoor
open Go.ChangeShapes Go.WideShapes Go.ChangeAt Go.RowKit Go.PlainAid Go.Lib Go.Maps Tryz
theorem mBe {p:Prop} (h:p:=by go_wp2_with fail;refine (Qbj 1 _).mono ?_;rintro e wz ⟨rfl,aa⟩;have HF:=Qaa (MbA.ill (Qaa ab).out (Qac av aa));have R1:=Qag ae aa;obtain ⟨y0,y1,y2,y3,y4,y5,y6⟩:=QcH R1;obtain ⟨f0,f1,f2,f3,f4,f5,f6⟩:=fA7 R1;clear R1 aa;go_wp2;exact bodyPost_ret (v:=.agg (Qax (.slice none 0 0) q0 (.slice none 0 0) 1)) (by simp [results,results45,go_sem,y0,y1,y2,y3,y4,y5,y6]) rfl HF):p:=h
theorem Qbj (cd:Int) (w:World):Calls prog 24 #[.int .i64 cd] w fun e w'=>e=.returned (.agg (Qax (.slice none 0 0) q0 (.slice none 0 0) cd))/\Bw w w':=by
 have HB:Hid (∀ o1,Bw w (w.alloc o1)):=fun o1=>bAA;go_enter func24,ntmps24;go_wp2;exact bodyPost_ret (v:=.agg (Qax (.slice none 0 0) q0 (.slice none 0 0) cd)) (by simp [results,results24,go_sem]) rfl ⟨rfl,HB.out _⟩
variable {w:World}
variable {K:List ByteArray}
theorem Qse {an:Option Addr} {cn:Nat} (u:ByteArray) (hl:K.length<=100000) (hA:Qat w an K) :
  Calls prog 80 #[.slice an K.length cn,.string u] w fun e w'=>e=.returned (.bool (inK K u))/\w'=w:=by
 have HA:=Qaa hA;obtain ⟨B,hB⟩:∃ B,inK K u=B:=⟨_,rfl⟩;rw [hB];have HB:=Qaa hB;clear hA hB;go_enter func80,ntmps80;go_wp2
 go_loopw [5] (fun i wr=>∃ (k:Nat),k<=K.length/\i=.int .i64 k/\Hid (u ∉ K.take k)/\wr=w) (fun i wr=>K.length - (Go.RowKit.intOf i).toNat)
 case atStart=>exact ⟨0,Nat.zero_le _,rfl,Qaa oE,rfl⟩
 case round=>
  obtain ⟨k,hk,rfl,HU,ab⟩:=hrel;subst ab;by_cases ac:k<K.length
  ·have aa:(k:Int)<(K.length:Int):=by omega
   obtain ⟨x,hx⟩:∃ x,K[k]?=some x:=⟨K[k],ZZe ac⟩;obtain ⟨b,ad,e,hc⟩:=HA.out oB;subst e;have x0:=hc k x hx
   cases q:(x.toList == u.toList) with
   | true=>
    obtain rfl:B=true:=by rw [<- HB.out];exact Qp9 (by rw [<- QgR q];exact List.mem_of_getElem? hx)
    clear hc hx;go_wp2;exact mBk
   | false=>
    have HF:Hid (u ∉ K.take (k+1)):=by
     rw [List.take_add_one,hx];refine Qaa (fun h=>?_);rcases List.mem_append.1 h with h | h
     ·exact HU.out h
     ·have e:u=x:=by simpa using h
      rw [e] at q;simp at q
    clear hc hx;go_wp2;go_roundw
    case rel=>exact ⟨k+1,by omega,by first | rfl | go_num,HF,by first | rfl | trivial⟩
    case measure=>simp [zI];omega
  ·have aa:¬ (k:Int)<(K.length:Int):=by omega
   obtain rfl:B=false:=by
    rw [<- HB.out];have h:=HU.out;rw [List.take_of_length_le oB] at h;exact inK_no h
   go_wp2;exact mBk
variable {ao:Option Addr}
theorem QoO {B n cp:Nat} (h:OwnT w B (.slice ao n cp) K):n<=cp/\cp<=maxLen/\(ao=none->cp=0)/\Qat w ao K/\K.length=n:=by
 rcases h.2 with ⟨e,q⟩ | ⟨g,aa,ab,e,q1,q2,q3,q4,q5⟩
 ·injection e with e1 e2 e3
  exact ⟨by omega,by unfold maxLen;omega,fun _=>e3,fun h0=>by omega,by omega⟩
 ·injection e with e1 e2 e3
  subst e1;subst e2;subst e3;exact ⟨q3,q4,(fun e=>by cases e),Qps h,rfl⟩
variable {S:List Sd}
variable {p:Pi}
theorem pip_sz (h:Qbq S p=true):∀ s∈S,∀ c∈s.L,c.s.size<=100:=fun s hs c hc=>(Qmi ((Qhh (QcU (QaP h).1 hs)).2.1 c hc)).2
variable {mm:ByteArray}
variable {c7 cd:Int}
variable {b7 b8:Bool}
theorem MbA.ill {wr:World} (hR:MbR S p mm c7 b7 b8 K q0 (([]:List Sd).map Sd.key) cd) (hb:Bw w wr):MbA w S p mm c7 b7 b8 K (.returned (.agg (Qax (.slice none 0 0) q0 (.slice none 0 0) cd))) (((((((wr.setCell ⟨w.heap.size+1,0,none⟩ (.slice none 0 0)).setCell ⟨w.heap.size+1,1,none⟩ (.int .i64 0)).setCell ⟨w.heap.size+1,2,none⟩ (.int .i64 0)).setCell ⟨w.heap.size+1,3,none⟩ (.int .i64 0)).setCell ⟨w.heap.size+1,4,none⟩ (.int .i64 0)).setCell ⟨w.heap.size+1,5,none⟩ (.slice none 0 0)).setCell ⟨w.heap.size+1,6,none⟩ (.int .i64 cd)):=by
 have hC:=CpP.sets7 (v0:=.slice none 0 0) (v1:=.int .i64 0) (v2:=.int .i64 0) (v3:=.int .i64 0) (v4:=.int .i64 0) (v5:=.slice none 0 0) (v6:=.int .i64 cd) (fun j q=>by cases q) (LvO.nil _ _) (Qoz hb);exact ⟨none,0,0,q0,[],cd,rfl,hR,hC.r,hC.o,hC.b⟩
theorem QfV {N ca:Nat} (p:Pi) (mm:ByteArray) (hzm:mm.size<=maxLen) (hI:PpI w ao N S) :
  Calls prog 45 #[.agg (Qae (.slice ao N ca) p),.string mm] w fun e w'=>MbA w S p mm 7 (inK (S.map Sd.nm) mm) (decide (12<=S.length)) (QcI (S.map Sd.nm) mm) e w':=by
 have HI:=Qaa hI;have a1:∀ (X:World) o,Bw X (X.alloc o):=fun X o=>bAA;have k0:=ZZk w (.cells (Qae (.slice ao N ca) p) 25);have k1:=ZZk (w.alloc (.cells (Qae (.slice ao N ca) p) 25)) (.cells (Qax (.slice none 0 0) q0 (.slice none 0 0) 0) 29);simp only [World.size_alloc] at k1;have au:=Qaa (Qag k0 (a1 _ (.cells (Qax (.slice none 0 0) q0 (.slice none 0 0) 0) 29)));have ah:=Qaa k1;have aw:=Qaa (Qac (a1 w (.cells (Qae (.slice ao N ca) p) 25)) (a1 _ (.cells (Qax (.slice none 0 0) q0 (.slice none 0 0) 0) 29)));clear hI a1 k0 k1;go_enter func45,ntmps45;go_upto_region 1 with fail;generalize (w.alloc _).alloc _=W0 at au ah aw ⊢;have aW:w.heap.size+1+1<=W0.heap.size:=(ZZc.1 ah).1;have a7:=Qaa aW;clear aW;by_cases ad:20000<mm.size
 ·have bb:decide ((20000:Int)<(mm.size:Int))=true:=ZZh oB
  have a0:(20000:Int)<(mm.size:Int):=oB
  have ac:mfC S p mm=2:=by unfold mfC;rw [if_pos ad]
  have ab:Hid (MbR S p mm 7 (inK (S.map Sd.nm) mm) (decide (12<=S.length)) (QcI (S.map Sd.nm) mm) q0 (([]:List Sd).map Sd.key) 2):=Qaa oZ;clear ac;go_wp2_with fail;refine (Qbj 2 _).mono ?_;rintro e wz ⟨rfl,aa⟩;have HF:=Qaa (MbA.ill (Qaa ab).out (Qac aw aa));have R1:=Qag ah aa;obtain ⟨y0,y1,y2,y3,y4,y5,y6⟩:=QcH R1;obtain ⟨f0,f1,f2,f3,f4,f5,f6⟩:=fA7 R1;clear R1 aa;go_wp2;exact bodyPost_ret (v:=.agg (Qax (.slice none 0 0) q0 (.slice none 0 0) 2)) (by simp [results,results45,go_sem,y0,y1,y2,y3,y4,y5,y6]) rfl HF
 have a0:¬ (20000:Int)<(mm.size:Int):=oB
 obtain ⟨x0,x1,x2,x3,x4⟩:=Qbf au;go_wp2_with fail;clear x0 x1 x2 x3 x4;refine (Qbr p HI.n HI.sm HI.ok (QaM HI.at' aw)).mono ?_;rintro e w1 ⟨rfl,aj⟩;have ag:=Qaa (Qag au aj);have ae:=Qaa (Qag ah aj);have av:=Qaa (Qac aw aj);have aD:=Qaa (Nat.le_trans a7 aj.size);clear aj au ah
 cases hp:Qbq S p with
 | false=>
  have ac:mfC S p mm=1:=by unfold mfC;rw [if_neg ad,if_pos (.inl hp)]
  have ab:Hid (MbR S p mm 7 (inK (S.map Sd.nm) mm) (decide (12<=S.length)) (QcI (S.map Sd.nm) mm) q0 (([]:List Sd).map Sd.key) 1):=Qaa oZ;clear ac hp;exact mBe
 | true=>
  have HP:=Qaa hp;clear hp;go_wp2_with fail;refine (QaH mm w1 hzm).mono ?_;rintro e w2 ⟨rfl,rfl⟩
  cases hn:QaF mm with
  | false=>
   have ac:mfC S p mm=1:=by unfold mfC;rw [if_neg ad,if_pos (.inr hn)]
   have ab:Hid (MbR S p mm 7 (inK (S.map Sd.nm) mm) (decide (12<=S.length)) (QcI (S.map Sd.nm) mm) q0 (([]:List Sd).map Sd.key) 1):=Qaa oZ;clear ac hn;exact mBe
  | true=>
   have ac:mfC S p mm=0:=by unfold mfC;rw [if_neg ad,if_neg (by rw [HP.out,hn];simp)]
   have aF:=Qaa ac;have a8:=Qaa hn;have HQ:=Qaa (HI.qs HP);have bc:=HQ.n;clear hn ac;obtain ⟨x0,x1,x2,x3,x4⟩:=Qbf ag;go_wp2_with fail;clear x0 x1 x2 x3 x4;refine (Qdx p HI.n (by have:=HI.sm.n;have:=HI.n;omega) (QaM HI.at' av)).mono ?_;rintro e w3 ⟨bn,cn,rfl,aO,ap⟩;obtain ⟨az,aC,aE,aM,aT⟩:=QoO aO;have ak:(S.map Sd.nm).length=N:=aT;have ba:S.length=N:=by rw [yA] at ak;exact ak
   have aB:=Qaa (Qag ag ap);have af:=Qaa (Qag ae ap);have ar:=Qaa (Qac av ap);have aN:=Qaa aM;have ai:w.heap.size+1+1<=w3.heap.size:=Nat.le_trans aD ap.size;have aG:=Qaa ai;clear aO ap ag ae aM aT ai;go_wp2_with fail;have HH:=Qaa (Qse (w:=w3) (an:=bn) (cn:=cn) (K:=S.map Sd.nm) mm (by rw [yA];omega) aN);rw [ak] at HH;refine HH.mono ?_;rintro e w4 ⟨rfl,aX⟩;rw [aX];clear aX w4;clear HH;have al:Qaj (S.map Sd.nm)=true:=QdV (QaP HP).1;have aI:=Qaa al;clear al
   cases hk:inK (S.map Sd.nm) mm with
   | true=>
    have ab:Hid (MbR S p mm 7 (inK (S.map Sd.nm) mm) (decide (12<=S.length)) (QcI (S.map Sd.nm) mm) q0 (([]:List Sd).map Sd.key) 7):=Qaa (by unfold MbR;rw [aF.out,if_neg oF,if_pos hk];exact ⟨rfl,rfl,rfl⟩);clear hk;go_wp2_with fail;refine (Qbj 7 _).mono ?_;rintro e wz ⟨rfl,aa⟩;have HF:=Qaa (MbA.ill (Qaa ab).out (Qac ar aa));have R1:=Qag af aa;obtain ⟨y0,y1,y2,y3,y4,y5,y6⟩:=QcH R1;obtain ⟨f0,f1,f2,f3,f4,f5,f6⟩:=fA7 R1;clear R1 aa;go_wp2;exact bodyPost_ret (v:=.agg (Qax (.slice none 0 0) q0 (.slice none 0 0) 7)) (by simp [results,results45,go_sem,y0,y1,y2,y3,y4,y5,y6]) rfl HF
   | false=>
    by_cases h8:12<=N
    ·have d8:decide ((12:Int)<=(N:Int))=true:=ZZh oB
     have a4:(12:Int)<=(N:Int):=oB
     have ab:Hid (MbR S p mm 7 (inK (S.map Sd.nm) mm) (decide (12<=S.length)) (QcI (S.map Sd.nm) mm) q0 (([]:List Sd).map Sd.key) 8):=Qaa (by unfold MbR;rw [aF.out,if_neg oF,if_neg (by rw [hk];simp),if_pos (decide_eq_true oB)];exact ⟨rfl,rfl,rfl⟩);clear hk;go_wp2_with fail;refine (Qbj 8 _).mono ?_;rintro e wz ⟨rfl,aa⟩;have HF:=Qaa (MbA.ill (Qaa ab).out (Qac ar aa));have R1:=Qag af aa;obtain ⟨y0,y1,y2,y3,y4,y5,y6⟩:=QcH R1;obtain ⟨f0,f1,f2,f3,f4,f5,f6⟩:=fA7 R1;clear R1 aa;go_wp2;exact bodyPost_ret (v:=.agg (Qax (.slice none 0 0) q0 (.slice none 0 0) 8)) (by simp [results,results45,go_sem,y0,y1,y2,y3,y4,y5,y6]) rfl HF
    ·have a4:¬ (12:Int)<=(N:Int):=by omega
     have aP:Hid (decide (12<=S.length)=false):=Qaa (ZZg oB);have aY:mm ∉ S.map Sd.nm:=fun h=>by rw [Qp9 h] at hk;cases hk
     have aV:=Qo2 aI aY (by rw [ak];omega) a8;have a3:=Qaa aV;have aH:=Qaa hk;have ab:Hid (∀ (X:List Sd) (L:List Ce),AscC L->(L.map Ce.key).Perm ((QaK S).map Ce.key)->ShrL (QcI (S.map Sd.nm) mm) L X->MbR S p mm 7 (inK (S.map Sd.nm) mm) (decide (12<=S.length)) (QcI (S.map Sd.nm) mm) p (X.map Sd.key) 0):=fun X L h1 h2 h3=>by unfold MbR;rw [aF.out,if_neg oF,if_neg (by rw [aH.out];simp),if_neg oH];exact ⟨rfl,rfl,L,h1,h2,h3.keys⟩
     clear hk aY aV;go_upto_region 10 with fail;have am:Hid ((fun W=>Bw w3 W) w3.drew):=(ZZb _ _).drew;refine Qal (fun W=>Bw w3 W) 6 oG ?_;refine tkL 0 (.agg (Qae (.slice ao N ca) p)) am (fun W hW=>?_) ?_
     ·obtain ⟨x0,x1,x2,x3,x4⟩:=Qbf (Qag aB hW)
      exact mAo
     refine tkS 1 (.slice bn N cn) am ?_;refine tkS 2 (.string mm) am ?_;simp only [sX];refine onE 3 fun K hK=>?_;go_simp;refine (Qih mm ak oB az aC aE (QaA aN am)).mono ?_;rintro e w5 ⟨v5,rfl,aA,aR⟩;obtain ⟨a5,c5,rfl⟩:=QcR aA;have ay:Hid (Bw w3 w5):=Qac am aR;have a2:=Qaa (Qps aA);clear aR aA;dsimp only;refine gK hK ay.out ?_
     try simp only [sX]
     refine onE 4 fun K hK=>?_;go_simp;refine (Qoe p (HI.past (Qac ar ay)) HQ (pip_sz HP) a3 a2).mono ?_;rintro e w6 ⟨v6,X,L,rfl,aQ,aS,aL,ax,aK,aU⟩;obtain ⟨a6,c6,rfl,_⟩:=ax.form;have aq:Hid (Bw w3 w6):=Qac ay aU;have HF:=Qaa (ab.out X L aQ aS aL);have z5:w.heap.size+1+1<=w5.heap.size:=Nat.le_trans aG ay.size;have aZ:Hid (LvO w6 (w.heap.size+1+1) X):=Qaa (aK.le z5);have aJ:Hid (∀ j,(Value.slice a6 X.length c6).ownBlock=some j->w.heap.size+1+1<=j):=fun j q=>Nat.le_trans z5 (World.ownsRow.lt ax j q).1;have a9:Hid (CpP w w6 X (.slice a6 X.length c6) X):=Qaa ⟨ax.le oB,aK.le oB,rfl,Qac ar aq⟩;clear aQ aS aL ax aK aU;dsimp only;refine gK hK aq.out ?_
     try simp only [sX]
     refine tkS 5 (.agg (Qax (.slice a6 X.length c6) p (.slice none 0 0) 0)) aq ?_;simp only [sX];have R1:=Qag af aq;obtain ⟨y0,y1,y2,y3,y4,y5,y6⟩:=QcH R1;obtain ⟨f0,f1,f2,f3,f4,f5,f6⟩:=fA7 R1;clear R1;refine onE 6 fun K hK=>?_;go_simp;refine hK.out _ _ (fun h=>absurd rfl h) ?_
     try simp only [sX]
     refine dnE ?_ _;go_wp2;refine bodyPost_ret (v:=.agg (Qax (.slice a6 X.length c6) p (.slice none 0 0) 0)) (by simp [results,results45,go_sem,y0,y1,y2,y3,y4,y5,y6]) rfl ?_;have hC:=CpP.sets7 (v0:=.slice a6 X.length c6) (v1:=.int .i64 p.a) (v2:=.int .i64 p.b) (v3:=.int .i64 p.c) (v4:=.int .i64 p.d) (v5:=.slice none 0 0) (v6:=.int .i64 0) aJ aZ a9;have hF:=HF.out;rw [aH.out,aP.out] at hF;exact ⟨a6,_,c6,p,X,0,rfl,by first | exact hF | exact HF.out | (have h:=HF.out;rw [aP.out] at h;exact h) | (have h:=HF.out;rw [aH.out] at h;exact h),hC.r,hC.o,hC.b⟩
theorem MbR.key {T:List Sd} {q:Pi} {KM:List (ByteArray×List (Int×ByteArray×Ag))} (h:MbR T p mm c7 b7 b8 K q KM cd) (e:T.map Sd.key=S.map Sd.key):MbR S p mm c7 b7 b8 K q KM cd:=by
 have em:mfC T p mm=mfC S p mm:=by unfold mfC;rw [Qjv e]
 unfold MbR at h ⊢;rw [em,QcE e] at h;exact h
def PoA (w:World) (R:Pi->List (ByteArray×List (Int×ByteArray×Ag))->List (Int×ByteArray×Ag)->Int->Prop) (e:Ending) (w':World):Prop:=
 ∃ a n c q M d m f C cd,e=.returned (.agg (Qax (.slice a n c) q (.slice d m f) cd))/\R q (M.map Sd.key) (C.map Ce.key) cd/\PoB w' w.heap.size w'.heap.size (.slice a n c) M (.slice d m f) C/\Bw w w'
def JnR (S:List Sd) (p:Pi) (mm:ByteArray) (q:Pi) (KM:List (ByteArray×List (Int×ByteArray×Ag))) (KC:List (Int×ByteArray×Ag)) (cd:Int):Prop:=MbR S p mm 7 (inK (S.map Sd.nm) mm) (decide (12<=S.length)) (QcI (S.map Sd.nm) mm) q KM cd/\KC=[]
def LeR (S:List Sd) (p:Pi) (mm:ByteArray) (q:Pi) (KM:List (ByteArray×List (Int×ByteArray×Ag))) (KC:List (Int×ByteArray×Ag)) (cd:Int):Prop:=MbR S p mm 6 (!inK (S.map Sd.nm) mm) (decide (S.length=1)) (restK (S.map Sd.nm) mm) q KM cd/\KC=[]
section
variable {w w':World} {S T M:List Sd} {C:List Ce} {p q q':Pi} {mm:ByteArray} {en:Ending} {KM KM':List (ByteArray×List (Int×ByteArray×Ag))} {KC KC':List (Int×ByteArray×Ag)} {cd cd':Int}
theorem Qlj (e:T.map Sd.key=S.map Sd.key):T.map Sd.nm=S.map Sd.nm/\T.length=S.length:=by
 have h:=congrArg (List.map Prod.fst) e;rw [List.map_map,List.map_map] at h;have l:=congrArg List.length e;rw [yA,yA] at l;exact ⟨h,l⟩
theorem joinA (e:T.map Sd.key=S.map Sd.key) (h:MbA w T p mm 7 (inK (T.map Sd.nm) mm) (decide (12<=T.length)) (QcI (T.map Sd.nm) mm) en w'):PoA w (JnR S p mm) en w':=by
 obtain ⟨a,k,c,q,M,cd,rfl,hR,r,o,b⟩:=h;rw [(Qlj e).1,(Qlj e).2] at hR;exact ⟨a,k,c,q,M,none,0,0,[],cd,rfl,⟨hR.key e,rfl⟩,PoB.none r o,b⟩
end
end Go.Proofs.YtioohanfodmddaaGreatDoor
