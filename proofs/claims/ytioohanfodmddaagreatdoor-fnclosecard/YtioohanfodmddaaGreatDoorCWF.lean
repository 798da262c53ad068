/-
 Parts.
-/
import Derived.Test.YtioohanfodmddaaGreatDoorCWB
import Derived.Test.YtioohanfodmddaaGreatDoorCWE
set_option maxRecDepth 10000
set_option maxHeartbeats 4000000
set_option linter.all false
namespace Go.Proofs.YtioohanfodmddaaGreatDoor
open Go.ChangeShapes Go.WideShapes Go.ChangeAt Go.RowKit Go.PlainAid Go.Lib Go.Maps Tryz
theorem mD6 {p:Prop} (h:p:=by
 go_wp2
 go_meet;exact ⟨_,rfl,rfl⟩):p:=h
def GdC (L:List (Int×ByteArray×Ag)):Prop:=L.length<=61/\∀ c∈L,AgOk c.2.2/\AgSm c.2.2/\c.2.1.size<=maxLen
def LiR (S:List Sd) (p q:Pi) (KM:List (ByteArray×List (Int×ByteArray×Ag))) (KC:List (Int×ByteArray×Ag)) (cd:Int):Prop:=
 KC=[]/\((cd≠0/\q=q0/\KM=[])∨(cd=0/\Qbq S p=true/\q=p/\KM.map Prod.fst=S.map Sd.nm/\∀ x∈KM,GdC x.2))
variable {S:List Sd}
theorem LiR.ill {p:Pi} {cd:Int} (h:cd≠0):LiR S p q0 (([]:List Sd).map Sd.key) (([]:List Ce).map Ce.key) cd:=⟨rfl,.inl ⟨h,rfl,rfl⟩⟩
variable {L:List Ce}
theorem Qtz (hl:L.length<=61) (h:∀ c∈L,AgOk c.g/\AgSm c.g/\c.s.size<=maxLen):GdC (L.map Ce.key):=by
 refine ⟨by rw [yA];exact hl,fun c hc=>?_⟩;obtain ⟨d,hd,rfl⟩:=List.mem_map.1 hc;exact h d hd
structure SmL (w wr:World) (bx:Nat) (p:Pi) (v:Value) (M:List Sd) (k:Nat) (X:List Sd):Prop where
 xb:wr.heap[bx]?=some (.cells (Qae v p) 25 (0,0))
 nb:∀ j,QjA v (X ++ M.drop k) j->j≠bx
 r:OwnD wr w.heap.size v (X ++ M.drop k)
 o:LvO wr w.heap.size (X ++ M.drop k)
 nm:X.map Sd.nm=(M.take k).map Sd.nm
 gd:∀ s∈X,GdC (s.L.map Ce.key)
 b:Bw w wr
section
variable {w wr w' w1:World} {bx k gs n cs nr cr:Nat} {p:Pi} {v:Value} {M S X:List Sd} {R:List Ce} {s t:Sd} {ar:Option Addr}
theorem SmL.past (h:SmL w wr bx p v M k X) (hb:Bw wr w'):SmL w w' bx p v M k X:=
 ⟨Qag h.xb hb,h.nb,h.r.past hb,h.o.past hb,h.nm,h.gd,Qac h.b hb⟩
theorem QvA (hM:M[k]?=some t):M.drop k=t :: M.drop (k+1)/\(M.take (k+1)).map Sd.nm=(M.take k).map Sd.nm ++ [t.nm]:=by
 obtain ⟨aa,em⟩:=ZZd.1 hM;exact ⟨by rw [<- em];exact List.drop_eq_getElem_cons aa,by rw [List.take_add_one,hM,List.map_append];rfl⟩
theorem SmL.skip (h:SmL w wr bx p v M k X) (hM:M[k]?=some t) (g:GdC (t.L.map Ce.key)):SmL w wr bx p v M (k+1) (X ++ [t]):=by
 obtain ⟨e1,e2⟩:=QvA hM;have e:(X ++ [t]) ++ M.drop (k+1)=X ++ M.drop k:=by rw [e1];simp
 refine ⟨h.xb,by rw [e];exact h.nb,by rw [e];exact h.r,by rw [e];exact h.o,by rw [e2,List.map_append,h.nm];rfl,fun s hs=>?_,h.b⟩;rcases List.mem_append.1 hs with hs | hs
 ·exact h.gd s hs
 ·rw [List.mem_singleton.1 hs];exact g
theorem SmL.step (h:SmL w wr bx p (.slice (some ⟨gs,0,none⟩) n cs) M k X) (hkl:X.length=k) (hM:M[k]?=some t)
  (hb1:Bw wr w1) (hr:OwnC w1 wr.heap.size (.slice ar nr cr) R) (hA:CesO w1 wr.heap.size R) (g:GdC (R.map Ce.key)) :
  SmL w (w1.setCell ⟨gs,k*2+1,none⟩ (.slice ar nr cr)) bx p (.slice (some ⟨gs,0,none⟩) n cs) M (k+1) (X ++ [⟨t.nm,R,ar,cr⟩]):=by
 have ag:R.length=nr:=Qb8 hr;subst ag;have hW:=h.past hb1;have aj:=World.ownsRow.lt h.r gs rfl;have z1:=hb1.size;have zb:=h.b.size;generalize ht':(⟨t.nm,R,ar,cr⟩:Sd)=t';have e1:t'.L=R:=by rw [<- ht']
 have e2:slS t'=.slice ar R.length cr:=by rw [<- ht']
 have e3:t'.nm=t.nm:=by rw [<- ht']
 have gr:=(grS (Qah w1 gs (k*2+1) (.slice ar R.length cr))).weak (T:=fun k=>k=gs) (fun k e=>by injection e with e;exact e.symm);obtain ⟨ae,ai⟩:=QvA hM;have aa:=hW.r;have ad:=hW.o;have ac:=h.o;rw [ae] at aa ad ac;have ah:(X ++ t :: M.drop (k+1))[k]?=some t:=by rw [<- hkl,List.getElem?_append_right (Nat.le_refl _)];simp
 have ab:(X ++ t :: M.drop (k+1)).set k t'=X ++ t' :: M.drop (k+1):=by rw [<- hkl,List.set_append_right _ _ (Nat.le_refl _)];simp
 have r2:=aa.put1 (j:=1) (s':=t') (u:=.slice ar R.length cr) (Qc7 aa) ah oB (by unfold sdL;rw [<- ht'];rfl);rw [ab] at r2;have oW:=ad.keptS gr (fun x hx j q e=>aa.neB ad hx j q oT)
 have rt:OwnC (w1.setCell ⟨gs,k*2+1,none⟩ (.slice ar R.length cr)) wr.heap.size (slS t') t'.L:=by
  rw [e1,e2];exact hr.keptS gr (fun j q e=>by have:=(World.ownsRow.lt hr j q).1;omega)
 have ot:CesO (w1.setCell ⟨gs,k*2+1,none⟩ (.slice ar R.length cr)) wr.heap.size t'.L:=by
  rw [e1];exact hA.keptS gr (fun c hc j q e=>by have:=((hA.o c hc).lt q).1;omega)
 have o2:LvO (w1.setCell ⟨gs,k*2+1,none⟩ (.slice ar R.length cr)) w.heap.size (X ++ t' :: M.drop (k+1)):=oW.swap (rt.le zb) (ot.le zb) (fun x hx j q1 q2=>by
  exact mBd)
 have eX:(X ++ [t']) ++ M.drop (k+1)=X ++ t' :: M.drop (k+1):=oE
 refine ⟨gr.row hW.xb (fun e=>h.nb gs (.inl rfl) e.symm),fun j q e=>?_,by rw [eX];exact r2,by rw [eX];exact o2,by rw [ai,List.map_append,h.nm,List.map_singleton,e3],fun s hs=>?_,gr.below (Qac h.b hb1) oB (fun k e=>by omega)⟩
 ·have ak:bx<wr.heap.size:=(ZZc.1 h.xb).1
  rw [eX] at q;rcases q with q | ⟨x,hx,q⟩
  ·exact h.nb j (.inl q) e
  ·rcases List.mem_append.1 hx with hx | hx
   ·exact h.nb j (.inr ⟨x,List.mem_append_left _ hx,q⟩) e
   ·rcases List.mem_cons.1 hx with hx | hx
    ·rw [hx] at q
     rcases q with q | ⟨c,hc,q⟩
     ·have:=(World.ownsRow.lt rt j q).1;omega
     ·have:=((ot.o c hc).lt q).1;omega
    ·exact h.nb j (.inr ⟨x,List.mem_append_right _ xK,q⟩) e
 ·rcases List.mem_append.1 hs with hs | hs
  ·exact h.gd s hs
  ·rw [List.mem_singleton.1 hs,e1];exact g
theorem SmL.sh (h:SmL w wr bx p v M k X) (hk:M.map Sd.key=S.map Sd.key) (q:QS S) (hs0:Qev S=true) (hM:M[k]?=some t) (hl:X.length=k):ShI wr t.ao t.L.length t.L/\csR t.L=true/\GdC (t.L.map Ce.key)/\(X ++ M.drop k)[k]?=some t:=by
 have ht:=ZZn hM;have ab:=(QvA hM).1;have aa:t∈X ++ M.drop k:=by rw [ab];simp
 obtain ⟨s,hs,_,e⟩:=Qey hk ht;have el:=congrArg List.length e;rw [yA,yA] at el;have hq:=QlV hk (fun _ s g=>AgOk g/\AgSm g/\s.size<=maxLen) (fun t ht c hc=>⟨(q.ok t ht c hc).1,(q.ok t ht c hc).2.1,(q.ok t ht c hc).2.2.1⟩) t ht;have hc:=Qk6 h.o.o aa;have ad:=q.l s hs
 have ac:csR t.L=true:=by
  rw [QqK e];have:=QcU hs0 hs;unfold shB at this;exact (Bool.and_eq_true_iff.1 this).2
 refine ⟨⟨rfl,by omega,fun c hc=>(hq c hc).1,fun c hc=>(hq c hc).2.1,fun c hc=>(hq c hc).2.2,fun c hc'=>(hc.o c hc').plgX,OwnC.at (h.o.r t aa) hc.at⟩,ac,Qtz oB hq,?_⟩;rw [ab,<- hl,List.getElem?_append_right (Nat.le_refl _)];simp
end
structure LnB (w wr:World) (pa:Array Value) (bX:Nat) (x:Sx):Prop where
 p:wr.heap[w.heap.size]?=some (.cells pa 25 (0,0))
 z:wr.heap[w.heap.size+1]?=some (.cells (Qax (.slice none 0 0) q0 (.slice none 0 0) 0) 29 (0,0))
 x:wr.heap[bX]?=some (.cells (Qa0 x) 85 (0,0))
 lb:w.heap.size+1<bX
 b:Bw w wr
variable {B cp g n:Nat}
section
variable {w wr w':World} {pa:Array Value} {bX:Nat} {x:Sx}
theorem LnB.past (h:LnB w wr pa bX x) (hb:Bw wr w'):LnB w w' pa bX x:=⟨Qag h.p hb,Qag h.z hb,Qag h.x hb,h.lb,Qac h.b hb⟩
theorem LnB.set (h:LnB w wr pa bX x) (j:Nat) (u:Value) {x':Sx} (e:(Qa0 x).setIfInBounds j u=Qa0 x'):LnB w (wr.setCell ⟨bX,j,none⟩ u) pa bX x':=by
 have hl:=h.lb;refine ⟨(Below.heap_setCell _ _ _ _ (by show w.heap.size≠bX;omega)).trans h.p,(Below.heap_setCell _ _ _ _ (by show w.heap.size+1≠bX;omega)).trans h.z,?_,h.lb,h.b.setCell (by simpa using (by omega:w.heap.size<=bX)) u⟩;rw [<- e];exact ZZl wr bX j _ _ u h.x
theorem LnB.far (h:LnB w wr pa bX x) (hg:bX<g) (j:Nat) (u:Value):LnB w (wr.setCell ⟨g,j,none⟩ u) pa bX x:=by
 have hl:=h.lb;exact ⟨(Below.heap_setCell _ _ _ _ (by show w.heap.size≠g;omega)).trans h.p,(Below.heap_setCell _ _ _ _ (by show w.heap.size+1≠g;omega)).trans h.z,(Below.heap_setCell _ _ _ _ (by show bX≠g;omega)).trans h.x,h.lb,h.b.setCell (by simpa using (by omega:w.heap.size<=g)) u⟩
end
variable {w:World}
variable {ao:Option Addr}
theorem Qsf (h:OwnC w B (.slice ao n cp) L) (hn:L.length=n):n<=cp:=by
 rcases h.2 with ⟨e,q⟩ | ⟨g,aa,ab,e,_,_,q1,q2,_⟩
 ·injection e with e1 e2 e3;omega
 ·injection e with e1 e2 e3
  subst e3;omega
theorem Qid {c k:Nat} {M:List Sd} {t:Sd} (h:OwnD w B (.slice (some ⟨g,0,none⟩) n c) M) (hl:LvO w B M) (ht:M[k]?=some t):w.cell? ⟨g,k*2,none⟩=some (.string t.nm):=by
 obtain ⟨b,aa,e,hc⟩:=(h.at hl).1 (by have:=(ZZd.1 ht).1;omega);injection e with e;injection e with e1 e2;subst e1;subst e2;have:=(hc k t ht).1
 simpa using this
variable {k ti v wt:Int}
variable {se wd:ByteArray}
theorem Qqy {td:Bool} {tm:Int} (h:QbC k se v wd wt td ti=true) (h0:0<=tm) (h1:tm<=1000000000):(⟨k,se,v,wd,wt,true,tm⟩:Sx).B=true/\(⟨k,se,v,wd,wt,true,tm⟩:Sx).Ok:=by
 have hB:(⟨k,se,v,wd,wt,true,tm⟩:Sx).B=true:=by
  unfold Sx.B QbC;unfold QbC at h;simp only [yB] at h ⊢;refine ⟨h.1,?_⟩;unfold Qhe;simp [h0,h1]
 refine ⟨hB,?_⟩;obtain ⟨⟨a1,a2⟩,⟨b1,b2⟩,_,⟨c1,c2⟩,d⟩:=QbK hB;have hw:=hB;unfold Sx.B QbC Qc0 at hw;simp only [yB,Bool.or_eq_true,decide_eq_true_eq] at hw;have hs:=Qi7 (Qnk hB);simp only at a1 a2 b1 b2 c1 c2 d hs;exact ⟨by show I64 k;unfold I64;omega,by show I64 v;unfold I64;omega,by show U64 wt;unfold U64;rcases hw.1.2 with q | q <;> omega,by show I64 tm;unfold I64;omega,by show se.size<=maxLen;unfold maxLen;omega,by show wd.size<=maxLen;unfold maxLen;omega⟩
theorem QvB (h:QbC k se v wd wt true ti=true):0<=ti/\ti<=1000000000:=by
 unfold QbC Qhe at h;simp only [yB,if_pos,decide_eq_true_eq] at h;exact h.2
theorem pua_bd {R R':List Ce} {n:Int} {x:Sx} (r:csR R=true) (q:CnQ R) (ox:x.Ok) (hx:x.B=true) (hn:Qf7 n=true) (p:PuA R n x R' 0):GdC (R'.map Ce.key):=by
 obtain ⟨h1,h2⟩:=Qsp r q ox hx hn p;exact Qtz (by have:=(csR_iff.1 h1).1;omega) (fun c hc=>⟨h2.ok c hc,h2.sm c hc,(h2.ky c hc).2⟩)
theorem QfI {N ca:Nat} (p:Pi) (t:ByteArray) (hzt:t.size<=maxLen) (hI:PpI w ao N S) :
  Calls prog 47 #[.agg (Qae (.slice ao N ca) p),.string t] w fun e w'=>PoA w (LiR S p) e w':=by
 have HI:=Qaa hI;have a1:∀ (X:World) o,Bw X (X.alloc o):=fun X o=>bAA;have k0:=ZZk w (.cells (Qae (.slice ao N ca) p) 25);have k1:=ZZk (w.alloc (.cells (Qae (.slice ao N ca) p) 25)) (.cells (Qax (.slice none 0 0) q0 (.slice none 0 0) 0) 29);simp only [World.size_alloc] at k1;have aL:=Qaa (Qag k0 (a1 _ (.cells (Qax (.slice none 0 0) q0 (.slice none 0 0) 0) 29)));have ay:=Qaa k1;have aH:=Qaa (Qac (a1 w (.cells (Qae (.slice ao N ca) p) 25)) (a1 _ (.cells (Qax (.slice none 0 0) q0 (.slice none 0 0) 0) 29)));have ak:=Qaa a1;clear hI a1 k0 k1;go_enter func47,ntmps47;go_upto_region 1 with fail;generalize (w.alloc _).alloc _=W0 at aL ay aH ⊢;have bj:w.heap.size+1+1<=W0.heap.size:=(ZZc.1 ay).1;have bC:=Qaa bj;clear bj;by_cases aV:20000<t.size
 ·have bU:decide ((20000:Int)<(t.size:Int))=true:=ZZh oB
  have bA:(20000:Int)<(t.size:Int):=oB
  have HF:Hid (LiR S p q0 (([]:List Sd).map Sd.key) (([]:List Ce).map Ce.key) 2):=Qaa (LiR.ill oF);go_wp2_with fail;refine (Qbj 2 _).mono ?_;rintro e wz ⟨rfl,aa⟩;have R1:=Qag ay aa;have ad:=Qaa (Qac aH aa);clear aa;obtain ⟨y0,y1,y2,y3,y4,y5,y6⟩:=QcH R1;obtain ⟨f0,f1,f2,f3,f4,f5,f6⟩:=fA7 R1;clear R1;go_wp2;refine bodyPost_ret (v:=.agg (Qax (.slice none 0 0) q0 (.slice none 0 0) 2)) (by simp [results,results47,go_sem,y0,y1,y2,y3,y4,y5,y6]) rfl ?_;have hC:=CpP.sets7 (v0:=.slice none 0 0) (v1:=.int .i64 0) (v2:=.int .i64 0) (v3:=.int .i64 0) (v4:=.int .i64 0) (v5:=.slice none 0 0) (v6:=.int .i64 2) (fun j q=>by cases q) (LvO.nil _ _) (Qoz ad);exact ⟨none,0,0,q0,[],none,0,0,[],2,rfl,HF,PoB.none hC.r hC.o,hC.b⟩
 have bA:¬ (20000:Int)<(t.size:Int):=oB
 obtain ⟨x0,x1,x2,x3,x4⟩:=Qbf aL;go_wp2_with fail;clear x0 x1 x2 x3 x4;refine (Qbr p HI.n HI.sm HI.ok (QaM HI.at' aH)).mono ?_;rintro e w1 ⟨rfl,aB⟩;have an:=Qaa (Qag aL aB);have am:=Qaa (Qag ay aB);have aX:=Qaa (Qac aH aB);have aP:=Qaa (Nat.le_trans bC aB.size);clear aB aL ay
 cases hp:Qbq S p with
 | false=>
  clear hp an;have HF:Hid (LiR S p q0 (([]:List Sd).map Sd.key) (([]:List Ce).map Ce.key) 1):=Qaa (LiR.ill oF);go_wp2_with fail;refine (Qbj 1 _).mono ?_;rintro e wz ⟨rfl,aa⟩;have R1:=Qag am aa;have ad:=Qaa (Qac aX aa);clear aa;obtain ⟨y0,y1,y2,y3,y4,y5,y6⟩:=QcH R1;obtain ⟨f0,f1,f2,f3,f4,f5,f6⟩:=fA7 R1;clear R1;go_wp2;refine bodyPost_ret (v:=.agg (Qax (.slice none 0 0) q0 (.slice none 0 0) 1)) (by simp [results,results47,go_sem,y0,y1,y2,y3,y4,y5,y6]) rfl ?_;have hC:=CpP.sets7 (v0:=.slice none 0 0) (v1:=.int .i64 0) (v2:=.int .i64 0) (v3:=.int .i64 0) (v4:=.int .i64 0) (v5:=.slice none 0 0) (v6:=.int .i64 1) (fun j q=>by cases q) (LvO.nil _ _) (Qoz ad);exact mC2
 | true=>
  have HP:=Qaa hp;clear hp aV;have HQ:=Qaa (HI.qs HP);go_wp2_with fail;refine (QfK t hzt).mono ?_;rintro e w2 ⟨s,rfl,hL,ax⟩;have HL:=Qaa hL;have aj:=Qaa (Qag (Qag an ax) (ak.out w2 (.cells #[.int .i64 s.k,.string s.se,.int .i64 s.va,.string s.wd,.int .u64 s.wt,.bool s.td,.int .i64 s.ti,.int .i64 s.c] 87)));have ah:=Qaa (Qag (Qag am ax) (ak.out w2 (.cells #[.int .i64 s.k,.string s.se,.int .i64 s.va,.string s.wd,.int .u64 s.wt,.bool s.td,.int .i64 s.ti,.int .i64 s.c] 87)));have aG:=Qaa (Qac (Qac aX ax) (ak.out w2 (.cells #[.int .i64 s.k,.string s.se,.int .i64 s.va,.string s.wd,.int .u64 s.wt,.bool s.td,.int .i64 s.ti,.int .i64 s.c] 87)));have ae:=Qaa (ZZk w2 (.cells #[.int .i64 s.k,.string s.se,.int .i64 s.va,.string s.wd,.int .u64 s.wt,.bool s.td,.int .i64 s.ti,.int .i64 s.c] 87));have ap:=Qaa (Nat.le_trans aP ax.size);clear hL ax an am aX;unfold Qv8;go_upto_region 6 with fail;generalize w2.alloc _=W2 at aj ah aG ae ⊢;obtain ⟨bL,a5⟩:∃ b,w2.heap.size=b:=⟨_,rfl⟩;rw [a5] at ae ap ⊢;clear a5;have z7:=Qay ae 7 rfl;by_cases hc:s.c=0
  ·have aM:=Qaa (HL.right hc).1
   have aE:(s.c == 0)=true:=by simpa using hc
   have z0:=Qay ae 0 rfl;have z1:=Qay ae 1 rfl;have z2:=Qay ae 2 rfl;have z3:=Qay ae 3 rfl;have z4:=Qay ae 4 rfl;have z5:=Qay ae 5 rfl;have z6:=Qay ae 6 rfl
   have ab:Hid (LnB w (W2.alloc (.cells #[.int .i64 s.k,.string s.se,.int .i64 s.va,.string s.wd,.int .u64 s.wt,.bool s.td,.int .i64 s.ti] 85)) (Qae (.slice ao N ca) p) W2.heap.size ⟨s.k,s.se,s.va,s.wd,s.wt,s.td,(s.ti:Int)⟩):=by
    have z:=(ZZc.1 ae).1;have l:=ap.out;exact Qaa ⟨Qag aj (ak.out W2 (.cells #[.int .i64 s.k,.string s.se,.int .i64 s.va,.string s.wd,.int .u64 s.wt,.bool s.td,.int .i64 s.ti] 85)),Qag ah (ak.out W2 (.cells #[.int .i64 s.k,.string s.se,.int .i64 s.va,.string s.wd,.int .u64 s.wt,.bool s.td,.int .i64 s.ti] 85)),ZZk W2 _,by omega,Qac aG (ak.out W2 (.cells #[.int .i64 s.k,.string s.se,.int .i64 s.va,.string s.wd,.int .u64 s.wt,.bool s.td,.int .i64 s.ti] 85))⟩
   clear HL aj ah aG ap;go_upto_region 9 with fail;clear z0 z1 z2 z3 z4 z5 z6 z7 aE ae;generalize W2.alloc _=W3 at ab ⊢;generalize W2.heap.size=bX at ab ⊢;obtain ⟨a1,a2,b1,b2,c1,c2,d1,d2⟩:=Qci HP;have x5:=Qay ab.x 5 rfl;go_upto_if 36 with fail;clear x5
   go_cut [] (fun w'=>∃ tm:Int,0<=tm/\tm<=1000000000/\Hid (LnB w w' (Qae (.slice ao N ca) p) bX ⟨s.k,s.se,s.va,s.wd,s.wt,true,tm⟩))
   case first=>
    cases htd:s.td with
    | false=>
     rw [htd] at ab;have f5:=fzR 5 ab.x;have q5:=Qay ab.x 5 rfl;have aD:=Qaa (ab.set 5 (.bool true) (x':=⟨s.k,s.se,s.va,s.wd,s.wt,true,(s.ti:Int)⟩) rfl);go_upto_region 11 with fail;clear f5 q5;generalize W3.setCell ⟨bX,5,none⟩ (.bool true)=W4 at aD ⊢;have f6:=fzR 6 aD.x;have q6:=Qay aD.x 6 rfl;have q3:=Qay aD.p 3 rfl;go_wp2;go_meet;exact ⟨p.c,c1,c2,Qaa (aD.set 6 (.int .i64 p.c) rfl)⟩
    | true=>
     rw [htd] at ab aM;obtain ⟨t1,t2⟩:=QvB aM;go_wp2;go_meet;exact ⟨s.ti,t1,t2,ab⟩
   case rest=>
    clear ab;obtain ⟨tm,t1,t2,ab⟩:=hcut;obtain ⟨XB,XO⟩:=Qqy aM t1 t2;have XB:=Qaa XB;have XO:=Qaa XO;clear aM;obtain ⟨x,hx⟩:∃ x:Sx,x=⟨s.k,s.se,s.va,s.wd,s.wt,true,tm⟩:=⟨_,rfl⟩;have e6:x.ti=tm:=by rw [hx]
    have e1:x.se=s.se:=by rw [hx]
    rw [<- hx] at ab XB XO;obtain ⟨af,aF⟩:∃ n,tm / p.a=n:=⟨_,rfl⟩;have w0:0<=af:=by rw [<- aF];exact Int.ediv_nonneg t1 oB
    have bG:af<=tm:=by rw [<- aF];exact Int.ediv_le_self _ t1
    have WB:Hid (Qf7 af=true):=Qaa (by unfold Qf7;simp only [yB,decide_eq_true_eq];omega);have hq:Int.tdiv tm p.a=af:=by rw [<- aF];exact Int.tdiv_eq_ediv_of_nonneg t1
    have bN:IntKind.i64.wrap af=af:=ZZi _ ⟨by omega,by omega⟩;have bq:(p.a == 0)=false:=by simpa using (by omega:¬ p.a=0)
    have bF:¬ p.a=0:=oB
    have bH:IntKind.i64.wrap (p.c+p.a)=p.c+p.a:=ZZi _ ⟨by omega,by omega⟩;obtain ⟨x0,x1,x2,x3,x4⟩:=Qbf ab.p;have q6:wc.cell? ⟨bX,6,none⟩=some (.int .i64 tm):=by rw [<- e6];exact Qay ab.x 6 rfl
    have q1:=Qay ab.x 1 rfl;have e6:=Qaa e6;clear hx e1 aF w0 bG t1 t2 a1 a2 b1 b2 c1 c2 d1 d2;go_upto_region 13 with fail;clear q6;by_cases bs:af<p.d
    ·have aq:=Qaa ab.b
     have al:=Qaa ab.z;have HF:Hid (LiR S p q0 (([]:List Sd).map Sd.key) (([]:List Ce).map Ce.key) 11):=Qaa (LiR.ill oF);go_wp2_with fail;refine (Qbj 11 _).mono ?_;rintro e wz ⟨rfl,aa⟩;have R1:=Qag al aa;have ad:=Qaa (Qac aq aa);clear aa;obtain ⟨y0,y1,y2,y3,y4,y5,y6⟩:=QcH R1;obtain ⟨f0,f1,f2,f3,f4,f5,f6⟩:=fA7 R1;clear R1;go_wp2;refine bodyPost_ret (v:=.agg (Qax (.slice none 0 0) q0 (.slice none 0 0) 11)) (by simp [results,results47,go_sem,y0,y1,y2,y3,y4,y5,y6]) rfl ?_;have hC:=CpP.sets7 (v0:=.slice none 0 0) (v1:=.int .i64 0) (v2:=.int .i64 0) (v3:=.int .i64 0) (v4:=.int .i64 0) (v5:=.slice none 0 0) (v6:=.int .i64 11) (fun j q=>by cases q) (LvO.nil _ _) (Qoz ad);exact mC1
    by_cases bI:p.c+p.a<tm
    ·have aq:=Qaa ab.b
     have al:=Qaa ab.z;have q6:wc.cell? ⟨bX,6,none⟩=some (.int .i64 tm):=by rw [<- e6.out];exact Qay ab.x 6 rfl
     have HF:Hid (LiR S p q0 (([]:List Sd).map Sd.key) (([]:List Ce).map Ce.key) 5):=Qaa (LiR.ill oF);go_wp2_with fail;refine (Qbj 5 _).mono ?_;rintro e wz ⟨rfl,aa⟩;have R1:=Qag al aa;have ad:=Qaa (Qac aq aa);clear aa;obtain ⟨y0,y1,y2,y3,y4,y5,y6⟩:=QcH R1;obtain ⟨f0,f1,f2,f3,f4,f5,f6⟩:=fA7 R1;clear R1;go_wp2;refine bodyPost_ret (v:=.agg (Qax (.slice none 0 0) q0 (.slice none 0 0) 5)) (by simp [results,results47,go_sem,y0,y1,y2,y3,y4,y5,y6]) rfl ?_;have hC:=CpP.sets7 (v0:=.slice none 0 0) (v1:=.int .i64 0) (v2:=.int .i64 0) (v3:=.int .i64 0) (v4:=.int .i64 0) (v5:=.slice none 0 0) (v6:=.int .i64 5) (fun j q=>by cases q) (LvO.nil _ _) (Qoz ad);exact ⟨none,0,0,q0,[],none,0,0,[],5,rfl,HF,PoB.none hC.r hC.o,hC.b⟩
    have q6:wc.cell? ⟨bX,6,none⟩=some (.int .i64 tm):=by rw [<- e6.out];exact Qay ab.x 6 rfl
    go_wp2_with fail;clear q6 bs bI bH bN bq bF hq;refine (Qgq p HI.n HQ (QaM HI.at' ab.b)).mono ?_;rintro e w4 ⟨v4,R,rfl,hA⟩;obtain ⟨ar,cr,rfl,_⟩:=hA.r.form;have hR:=hA.len HQ;have aU:=Qaa (ab.past hA.b);have aY:=Qaa (OwnC.at hA.r hA.o.at);clear hA ab x0 x1 x2 x3 x4 q1;have q1:=Qay aU.x 1 rfl;go_wp2_with fail;clear q1;refine (Qfq af x.se rfl oB aY).mono ?_;rintro e w5 ⟨k5,is,rfl,_,aW⟩;have av:=Qaa (aU.past aW);have bl:=Qaa (QaL aY aW);clear aW aU aY;go_upto_region 19 with fail
    go_cut [82] (fun v w'=>∃ b:Bool,v=.bool b/\w'=w5)
    case first=>
     cases is with
     | true=>
      go_wp2;go_meet;exact ⟨false,rfl,rfl⟩
     | false=>
      go_wp2_with fail;refine (QgB af rfl oB bl).mono ?_;rintro e w6 ⟨rfl,bw⟩;obtain rfl:=bw.symm;by_cases bT:(20:Int)<=(Qjy R af:Int)
      ·exact mD6
      ·by_cases bR:(60:Int)<=(R.length:Int)
       ·exact mD6
       ·exact mD6
    case rest=>
     obtain ⟨b,rfl,hw⟩:=hcut;obtain rfl:=hw.symm;clear bl
     cases b with
     | true=>
      have aq:=Qaa av.b;have al:=Qaa av.z;have HF:Hid (LiR S p q0 (([]:List Sd).map Sd.key) (([]:List Ce).map Ce.key) 8):=Qaa (LiR.ill oF);go_wp2_with fail;refine (Qbj 8 _).mono ?_;rintro e wz ⟨rfl,aa⟩;have R1:=Qag al aa;have ad:=Qaa (Qac aq aa);clear aa;obtain ⟨y0,y1,y2,y3,y4,y5,y6⟩:=QcH R1;obtain ⟨f0,f1,f2,f3,f4,f5,f6⟩:=fA7 R1;clear R1;go_wp2;refine bodyPost_ret (v:=.agg (Qax (.slice none 0 0) q0 (.slice none 0 0) 8)) (by simp [results,results47,go_sem,y0,y1,y2,y3,y4,y5,y6]) rfl ?_;have hC:=CpP.sets7 (v0:=.slice none 0 0) (v1:=.int .i64 0) (v2:=.int .i64 0) (v3:=.int .i64 0) (v4:=.int .i64 0) (v5:=.slice none 0 0) (v6:=.int .i64 8) (fun j q=>by cases q) (LvO.nil _ _) (Qoz ad);exact ⟨none,0,0,q0,[],none,0,0,[],8,rfl,HF,PoB.none hC.r hC.o,hC.b⟩
     | false=>
      obtain ⟨x0,x1,x2,x3,x4⟩:=Qbf av.p;go_wp2_with fail;clear x0 x1 x2 x3 x4;refine (QgV p (HI.past av.b)).mono ?_;rintro e w6 ⟨v,M,rfl,hC⟩;have bK:M.length=N:=by have h:=congrArg List.length hC.ky;rw [yA,yA] at h;rw [h];exact HI.n
      have bP:1<=N:=by have h:=(QbA (QdV (QaP HP).1)).1;rw [yA] at h;have:=HI.n;omega
      have bD:N<=12:=by have:=HQ.n;have:=HI.n;omega
      obtain ⟨gs,cs,rfl⟩:=QgF hC.r oB;rw [bK] at hC ⊢;have ba:=Qaa hC.ky;have aw:=ak.out w6 (.cells (Qae (.slice (some ⟨gs,0,none⟩) N cs) p) 25)
      have aI:Hid (SmL w5 (w6.alloc (.cells (Qae (.slice (some ⟨gs,0,none⟩) N cs) p) 25)) w6.heap.size p (.slice (some ⟨gs,0,none⟩) N cs) M 0 []):=by
       have lp:∀ j,QjA (.slice (some ⟨gs,0,none⟩) N cs) M j->j<w6.heap.size:=fun j q=>((PpB.of hC.r hC.o).hi j q).2;exact Qaa ⟨heap_alloc_new w6 _,fun j q e=>by have:=lp j q;omega,hC.r.past aw,hC.o.past aw,rfl,by simp,Qac hC.b aw⟩
      have au:=Qaa ((av.past hC.b).past aw);have br:Hid (w5.heap.size<=w6.heap.size):=hC.b.size;have az:Hid (bX<w5.heap.size):=(ZZc.1 av.x).1;clear hC aw;go_upto_region 22 with fail;generalize w6.alloc _=W7 at aI au ⊢;obtain ⟨bx,bk⟩:∃ b,w6.heap.size=b:=⟨_,rfl⟩;rw [bk] at aI br ⊢;clear bk;have LM:Hid ((S.map Sd.nm).length=N):=Qaa (by rw [yA];exact HI.n);have bE:=Qaa (QdV (QaP HP).1);have bn:Hid (x.se.size<=20000):=Qaa (by have:=Qi7 (Qnk XB);omega);have ac:Bw W7 W7.drew:=(ZZb _ _).drew;refine Qal (fun W=>Bw W7 W) 5 oG ?_;refine tkL 0 (.agg (Qae (.slice ao N ca) p)) ac (fun W hW=>?_) ?_
      ·obtain ⟨x0,x1,x2,x3,x4⟩:=Qbf (au.past hW).p
       exact mAo
      refine tkS 2 (.pointer (some ⟨bX,1,none⟩)) ac ?_;refine tkL 3 (.string x.se) ac (fun W hW=>?_) ?_
      ·have q0:=Qay (au.past hW).x 1 rfl
       exact mAo
      simp only [sX];refine onE 1 fun K hK=>?_;go_simp;refine (Qdx (ca:=ca) p HI.n oB (QaM HI.at' (Qac au.b ac))).mono ?_;rintro e w8 ⟨bo,cn,rfl,ho,a0⟩;have aQ:Bw W7 w8:=Qac ac a0;have bd:=Qaa ho.at
      clear ho a0;dsimp only;refine gK hK aQ ?_
      try simp only [sX]
      refine onE 4 fun K hK=>?_;go_simp;have aT:=Qdu (w:=w8) (L:=S.map Sd.nm) (ao:=bo) cn x.se bn bE bd;rw [LM.out] at aT;refine aT.mono ?_;rintro e w9 ⟨ow,rfl,_,be⟩;have aO:Bw W7 w9:=Qac aQ be;clear aT be;dsimp only;refine gK hK aO ?_
      try simp only [sX]
      refine onE 5 fun K hK=>?_;go_simp;refine hK.out _ _ (fun h=>absurd rfl h) ?_
      try simp only [sX]
      refine dnE ?_ _;have a6:=Qaa (aI.past aO);have bb:=Qaa (au.past aO);clear aI au aQ aO bd ac;go_wp2_with fail
      go_loopw [13] (fun i wr=>∃ (k:Nat) (X:List Sd),k<=N/\i=.int .i64 k/\X.length=k/\Hid (SmL w5 wr bx p (.slice (some ⟨gs,0,none⟩) N cs) M k X)/\Hid (LnB w wr (Qae (.slice ao N ca) p) bX x)) (fun i wr=>N - (Go.RowKit.intOf i).toNat)
      case atStart=>exact ⟨0,[],ZZj _,rfl,rfl,a6,bb⟩
      case round=>
       clear a6 bb;obtain ⟨k,X,hk,rfl,bi,HJ,ai⟩:=hrel;by_cases bO:k<N
       ·have aS:(k:Int)<(N:Int):=by omega
        have bS:(0:Int)<=(k:Int):=oB
        obtain ⟨t,ht⟩:∃ t,M[k]?=some t:=⟨M[k]'oB,ZZe _⟩;obtain ⟨bm,bh,a8,aJ⟩:=HJ.sh ba HQ (QaP HP).1 ht bi;have bz:=Qaa (Qsf (HJ.o.r t (ZZn aJ)) rfl);have bV:IntKind.i64.wrap ((k:Int)+1)=((k+1:Nat):Int):=by rw [show (k:Int)+1=((k+1:Nat):Int) by omega];exact ZZi _ ⟨by omega,by omega⟩
        have r0:=Qay HJ.xb 0 rfl;have q0:=Qid HJ.r HJ.o aJ;have bc:=Qaa ht;have bf:=Qaa bm;have aK:=Qaa bh;have bp:=Qaa a8;have a4:=Qaa aJ;clear ht bm bh a8 aJ;by_cases aZ:(t.nm.toList == ow.toList)=true
        ·go_upto_region 27 with fail
         clear r0 q0;have ac:Bw wr wr.drew:=(ZZb _ _).drew;refine Qal (fun W=>Bw wr W) 13 oG ?_;refine tkS 0 (.pointer (some ⟨bx,0,none⟩)) ac ?_;refine tkL 1 (.slice (some ⟨gs,0,none⟩) N cs) ac (fun W hW=>?_) ?_
         ·have q0:=Qay (Qag HJ.xb hW) 0 rfl
          exact mAo
         refine tkS 2 (.int .i64 k) ac ?_;simp only [sX];refine tkS 3 (.pointer (some ⟨gs,k*2,none⟩)) ac ?_;refine tkS 4 (.pointer (some ⟨gs,k*2+1,none⟩)) ac ?_;refine tkL 5 (.slice t.ao t.L.length t.cp) ac (fun W hW=>?_) ?_
         ·have q0:=QcL (HJ.past hW).r (HJ.past hW).o a4
          exact mAo
         simp only [sX];refine tkS 6 (.int .i64 af) ac ?_;refine tkL 7 (.agg (Qa0 x)) ac (fun W hW=>?_) ?_
         ·obtain ⟨x0,x1,x2,x3,x4,x5,x6⟩:=QcH (Qag ai.x hW)
          exact mAo
         simp only [sX];refine onE 8 fun K hK=>?_;go_simp;refine (Qsq af x XB XO (bf.past ac) bz (csR_iff.1 aK).2.2 (fun c hc=>QtR ((csR_iff.1 aK).2.1 c hc))).mono ?_;rintro e w4 ⟨v4,R4,cd,rfl,a9,aR,bg,a3⟩;obtain ⟨ar,cr,rfl,_⟩:=aR.form;have ag:Bw wr w4:=Qac ac a3;have bM:=Qaa a9;have bJ:=Qaa (aR.le ac.size);have bu:=Qaa (bg.le ac.size);clear a9 aR bg a3;dsimp only;refine gK hK ag ?_
         try simp only [sX]
         refine tkS 9 (.tuple #[.slice ar R4.length cr,.int .i64 cd]) ag ?_;refine tkS 10 (.slice ar R4.length cr) ag ?_;refine tkS 11 (.int .i64 cd) ag ?_;simp only [sX];refine onE 12 fun K hK=>?_;go_simp;refine gK hK ag ?_
         try simp only [sX]
         refine onE 13 fun K hK=>?_;go_simp;refine hK.out _ _ (fun h=>absurd rfl h) ?_
         try simp only [sX]
         refine dnE ?_ _;by_cases aN:cd=0
         ·have aE:(cd == 0)=true:=by simpa using aN
          have a7:=pua_bd aK (cnq_of bf aK) XO XB WB (aN ▸ bM.out);have HN:=Qaa (HJ.step bi bc ag bJ bu a7);have bt:=(World.ownsRow.lt HJ.r gs rfl).1;have bB:=Qaa ((ai.past ag).far (g:=gs) (oA az.out) (k*2+1) (.slice ar R4.length cr));have aA:=Qaa (HJ.past ag);have r0:=Qay aA.xb 0 rfl;have q1:=QcL aA.r aA.o a4;obtain ⟨bQ,aC⟩:=Qgt aA.r;have fz:=fzR (k*2+1) aC;clear aC a7 bt aA HJ ai;go_wp2;go_roundw
          case rel=>exact ⟨k+1,_,by omega,by first | rfl | go_num,by simp;omega,HN,bB⟩
          case measure=>simp [zI];omega
         ·have aq:=Qaa (ai.past ag).b
          have al:=Qaa (ai.past ag).z;have aE:(cd == 0)=false:=by simpa using aN
          have HF:Hid (LiR S p q0 (([]:List Sd).map Sd.key) (([]:List Ce).map Ce.key) cd):=Qaa (LiR.ill (aN));go_wp2_with fail;refine (Qbj cd _).mono ?_;rintro e wz ⟨rfl,aa⟩;have R1:=Qag al aa;have ad:=Qaa (Qac aq aa);clear aa;obtain ⟨y0,y1,y2,y3,y4,y5,y6⟩:=QcH R1;obtain ⟨f0,f1,f2,f3,f4,f5,f6⟩:=fA7 R1;clear R1;go_wp2;refine bodyPost_ret (v:=.agg (Qax (.slice none 0 0) q0 (.slice none 0 0) cd)) (by simp [results,results47,go_sem,y0,y1,y2,y3,y4,y5,y6]) rfl ?_;have hC:=CpP.sets7 (v0:=.slice none 0 0) (v1:=.int .i64 0) (v2:=.int .i64 0) (v3:=.int .i64 0) (v4:=.int .i64 0) (v5:=.slice none 0 0) (v6:=.int .i64 cd) (fun j q=>by cases q) (LvO.nil _ _) (Qoz ad);exact ⟨none,0,0,q0,[],none,0,0,[],cd,rfl,HF,PoB.none hC.r hC.o,hC.b⟩
        ·have aZ:(t.nm.toList == ow.toList)=false:=Bool.not_eq_true _ ▸ aZ
         go_wp2;go_roundw
         case rel=>exact ⟨k+1,X ++ [t],by omega,by first | rfl | go_num,by simp;omega,Qaa (HJ.skip bc bp),ai⟩
         case measure=>simp [zI];omega
       ·have aS:¬ (k:Int)<(N:Int):=by omega
        obtain rfl:k=N:=oB
        obtain ⟨x0,x1,x2,x3,x4⟩:=Qbf HJ.xb;have R1:=ai.z;obtain ⟨y0,y1,y2,y3,y4,y5,y6⟩:=QcH R1;obtain ⟨f0,f1,f2,f3,f4,f5,f6⟩:=fA7 R1;clear R1;go_wp2;refine bodyPost_ret (v:=.agg (Qax (.slice (some ⟨gs,0,none⟩) k cs) p (.slice none 0 0) 0)) (by simp [results,results47,go_sem,y0,y1,y2,y3,y4,y5,y6]) rfl ?_;have bv:M.drop k=[]:=List.drop_eq_nil_of_le oB;have hr:=HJ.r;have ho:=HJ.o;have hn:=HJ.nm;rw [bv,List.append_nil] at hr ho;rw [List.take_of_length_le oB] at hn;have hz:=az.out;have hl:=ai.lb;have hC:=CpP.sets7 (w:=w) (S:=X) (v0:=.slice (some ⟨gs,0,none⟩) k cs) (v1:=.int .i64 p.a) (v2:=.int .i64 p.b) (v3:=.int .i64 p.c) (v4:=.int .i64 p.d) (v5:=.slice none 0 0) (v6:=.int .i64 0) (fun j q=>by have:=(World.ownsRow.lt hr j q).1;omega) (ho.le oB) ⟨hr.le oB,ho.le oB,rfl,ai.b⟩;refine ⟨_,_,_,_,X,none,0,0,[],0,rfl,⟨rfl,.inr ⟨rfl,HP,rfl,?_,fun x hx=>?_⟩⟩,PoB.none hC.r hC.o,hC.b⟩
        ·have e:=(Qlj ba).1
         rw [<- e,<- hn,List.map_map]
         rfl
        ·obtain ⟨s,hs,rfl⟩:=List.mem_map.1 hx
         exact HJ.gd s hs
  ·have aE:(s.c == 0)=false:=by simpa using hc
   have HF:Hid (LiR S p q0 (([]:List Sd).map Sd.key) (([]:List Ce).map Ce.key) s.c):=Qaa (LiR.ill (hc));go_wp2_with fail;refine (Qbj s.c _).mono ?_;rintro e wz ⟨rfl,aa⟩;have R1:=Qag ah aa;have ad:=Qaa (Qac aG aa);clear aa;obtain ⟨y0,y1,y2,y3,y4,y5,y6⟩:=QcH R1;obtain ⟨f0,f1,f2,f3,f4,f5,f6⟩:=fA7 R1;clear R1;go_wp2;refine bodyPost_ret (v:=.agg (Qax (.slice none 0 0) q0 (.slice none 0 0) s.c)) (by simp [results,results47,go_sem,y0,y1,y2,y3,y4,y5,y6]) rfl ?_;have hC:=CpP.sets7 (v0:=.slice none 0 0) (v1:=.int .i64 0) (v2:=.int .i64 0) (v3:=.int .i64 0) (v4:=.int .i64 0) (v5:=.slice none 0 0) (v6:=.int .i64 s.c) (fun j q=>by cases q) (LvO.nil _ _) (Qoz ad);exact ⟨none,0,0,q0,[],none,0,0,[],s.c,rfl,HF,PoB.none hC.r hC.o,hC.b⟩
structure LnD (W:World) (B:Nat) (ao:Option Addr) (ln cap s:Nat) (w wr:World) (b:Nat) (ar:Array Value) (x:Sx):Prop where
 src:Src W B ao ln cap s wr
 gr:w.grownBy wr (some s)
 pr:wr.heap[w.heap.size]?=some (.cells ar 25 (0,0))
 row:wr.heap[b]?=some (.cells (Qa0 x) 85 (0,0))
 lb:w.heap.size<b
 hs:s<w.heap.size
 ok:x.Ok
section
variable {W w wr w':World} {B ln cap s b:Nat} {ao:Option Addr} {ar:Array Value} {x:Sx}
theorem LnD.step (h:LnD W B ao ln cap s w wr b ar x) (hS:Src W B ao ln cap s w') (hg:wr.grownBy w' (some s)):LnD W B ao ln cap s w w' b ar x:=by
 have z:=(ZZc.1 h.row).1;have z2:=h.lb;have z3:=h.hs;exact ⟨hS,h.gr.trans hg,(hg.block _ oB (fun e=>by cases e;omega)).trans h.pr,(hg.block _ z (fun e=>by cases e;omega)).trans h.row,h.lb,h.hs,h.ok⟩
theorem LnD.past (h:LnD W B ao ln cap s w wr b ar x) (hb:Bw wr w'):LnD W B ao ln cap s w w' b ar x:=
 h.step (QaO h.src hb) ⟨hb.os,hb.tape,hb.output,hb.size,fun j hj _=>hb.block j hj⟩
theorem LnD.drew (h:LnD W B ao ln cap s w wr b ar x):LnD W B ao ln cap s w wr.drew b ar x:=h.past (ZZb _ _).drew
theorem LnD.time (h:LnD W B ao ln cap s w wr b ar x) (t:Int) (ht:I64 t):LnD W B ao ln cap s w (wr.setCell ⟨b,6,none⟩ (.int .i64 t)) b ar { x with ti:=t }:=by
 have z2:=h.lb;have z3:=h.hs;have z:=(ZZc.1 h.row).1;have g:=Qah wr b 6 (.int .i64 t);have hb:Below w.heap.size wr (wr.setCell ⟨b,6,none⟩ (.int .i64 t)):=(Below.refl _ _).setCell (by simpa using (by omega:w.heap.size<=b)) _;refine ⟨Qbk h.src hb h.hs,QaC h.gr hb,?_,by simpa using heap_setCell_same wr b 6 _ _ (.int .i64 t) h.row,h.lb,h.hs,⟨h.ok.k,h.ok.v,h.ok.wt,ht,h.ok.se,h.ok.wd⟩⟩;exact (g.block _ oB (fun e=>by cases e;omega)).trans h.pr
end
theorem Qk4 {W:World} {ln cap s:Nat} {ax:Option Addr} (p:Pi) (h1:-1<=p.c) (h2:p.c<=2000000000) (hc:Qbi W B ao ln) (h:Src W B ao ln cap s w) :
  Calls prog 48 #[.pointer (some ⟨s,0,none⟩),.agg (Qae (.slice ax n cp) p)] w fun e w'=>∃ u,e=.returned (.string u)/\u.size<=600/\Src W B ao ln cap s w'/\w.grownBy w' (some s):=by
 have HC:=Qaa hc;have hs:=Qcv h;have a0:Bw w (w.alloc (.cells (Qae (.slice ax n cp) p) 25)):=bAA;have ae:=Qaa (QaO h a0);have ad:=Qaa (ZZk w (.cells (Qae (.slice ax n cp) p) 25));have af:Hid (w.grownBy (w.alloc (.cells (Qae (.slice ax n cp) p) 25)) (some s)):=(⟨a0.os,a0.tape,a0.output,a0.size,fun j hj _=>a0.block j hj⟩:w.grownBy _ (some s));have aq:(w.alloc (.cells (Qae (.slice ax n cp) p) 25)).heap.size=w.heap.size+1:=oE
 clear hc h a0;go_enter func48,ntmps48;go_wp2_with fail;generalize w.alloc _=W0 at ae ad af aq ⊢;refine (QlL HC ae).mono ?_;rintro e w3 ⟨x,rfl,ox,aj,ac⟩;have a3:Bw w3 (w3.alloc (.cells (Qa0 x) 85)):=bAA;have z3:=ac.size
 have HD:Hid (LnD W B ao ln cap s w (w3.alloc (.cells (Qa0 x) 85)) w3.heap.size (Qae (.slice ax n cp) p) x):=by
  refine Qaa ⟨QaO aj a3,QaC (af.trans ac) (a3.mono oB),?_,ZZk w3 _,by omega,hs,ox⟩;exact (a3.block _ oB).trans ((ac.block _ oB (fun e=>by cases e;omega)).trans ad)
 clear aj ac a3 ae ad af aq ox;go_upto_region 2 with fail;generalize w3.alloc _=W4 at HD ⊢;generalize w3.heap.size=b at HD z3 ⊢;clear z3;have x5:=Qay HD.row 5 rfl;go_upto_if 10 with fail;clear x5
 go_cut [] (fun w'=>∃ x,Hid (LnD W B ao ln cap s w w' b (Qae (.slice ax n cp) p) x))
 case first=>
  cases htm:x.tm with
  | false=>
   go_wp2_with fail;go_meet;exact ⟨x,HD⟩
  | true=>
   go_upto_region 3 with fail;have S0:W4.drew.cell? ⟨w.heap.size,3,none⟩=some (.int .i64 p.c):=by simpa using (Qay HD.pr 3 rfl)
   refine Qal (fun W=>W.cell? ⟨w.heap.size,3,none⟩=some (.int .i64 p.c)) 8 oG ?_;refine tkS 0 (.pointer (some ⟨w.heap.size,3,none⟩)) S0 ?_;refine tkL 1 (.int .i64 p.c) S0 (fun W hW=>?_) ?_
   ·have q:=hW
    exact mAo
   refine tkS 2 (.pointer (some ⟨s,0,none⟩)) S0 ?_;simp only [sX];refine onE 3 fun K hK=>?_;go_simp;refine (c_n HC HD.drew.src 30 oB).mono ?_;rintro e w5 ⟨v5,rfl,b5,c5,_,ar,ai⟩;have c5:=c5 oB;have ab:=Qaa (HD.drew.step ar ai);have S5:=Qay ab.pr 3 rfl;have aw:IntKind.i64.wrap (p.c+v5)=p.c+v5:=ZZi _ ⟨by omega,by omega⟩;have av:IntKind.i64.wrap (p.c+v5 - 15)=p.c+v5 - 15:=ZZi _ ⟨by omega,by omega⟩;clear ar ai HD;dsimp only;refine gK hK S5 ?_
   try simp only [sX]
   refine tkS 4 (.int .i64 (p.c+v5)) S5 ?_;refine tkS 5 (.int .i64 (p.c+v5 - 15)) S5 ?_;simp only [sX];refine onE 6 fun K hK=>?_;go_simp;refine (Qfs 0 (p.c+v5 - 15) _).mono ?_;rintro e w6 ⟨rfl,au⟩;obtain rfl:=au.symm;dsimp only;refine gK hK S5 ?_
   try simp only [sX]
   refine tkS 7 (.pointer (some ⟨b,6,none⟩)) S5 ?_;simp only [sX];refine onE 8 fun K hK=>?_;go_simp;have y6:=fzR 6 ab.row;have z6:=Qay ab.row 6 rfl;go_simp;clear y6 z6;refine hK.out _ _ (fun h=>absurd rfl h) ?_
   try simp only [sX]
   refine dnE ?_ _;go_wp2_with fail;go_meet;exact ⟨_,Qaa (ab.time (max 0 (p.c+v5 - 15)) oO)⟩
 case rest=>
  obtain ⟨x,HD⟩:=hcut;obtain ⟨x0,x1,x2,x3,x4,x5,x6⟩:=QcH HD.row;go_wp2_with fail;clear x0 x1 x2 x3 x4 x5 x6;refine (Qj7 x.k x.se x.v x.wd x.wt x.tm x.ti HD.ok.se HD.ok.wd).mono ?_;rintro e w6 ⟨r,rfl,hA,ah⟩;have hr:=hA.size;have ag:=Qaa (HD.past ah);clear ah hA;go_wp2_with fail;refine (Qf1 HC ag.src 12 oB).mono ?_;rintro e w7 ⟨b7,rfl,ap,ak⟩;have aa:=Qaa (ag.step ap ak);clear ap ak ag
  cases b7 with
  | true=>
   go_wp2_with fail;refine (QuK HC aa.src r oB).mono ?_;rintro e w8 ⟨u,rfl,hu,al,am⟩;have an:=Qaa (aa.step al am);clear al am;go_wp2;go_ret;exact ⟨u,rfl,by omega,an.src,an.gr⟩
  | false=>
   go_wp2;go_ret;exact ⟨r,rfl,by omega,aa.src,aa.gr⟩
end Go.Proofs.YtioohanfodmddaaGreatDoor
