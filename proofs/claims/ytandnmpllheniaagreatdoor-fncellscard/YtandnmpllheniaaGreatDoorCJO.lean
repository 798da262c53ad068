/-
 Parts.
-/
import Derived.Test.YtandnmpllheniaaGreatDoorCJN
set_option linter.all false
set_option maxHeartbeats 4000000
set_option maxRecDepth 10000
namespace Go.Proofs.YtandnmpllheniaaGreatDoor
open Go.ChangeShapes Go.WideShapes Go.ChangeAt Go.RowKit Go.PlainAid Go.Maps
theorem Qd1 {E1:List Int} (h:upN E1=true) (E2:List Int):QiR E1 E2=Qce E1 E2:=by
 unfold QiR;rw [QiL (l:=[]) (by simpa using Qgs h)];rfl
theorem Qlg (x:Int) (E1 E2:List Int):x∈QiR E1 E2↔x∈E1∨x∈E2:=by
 unfold QiR;rw [QbI,QbI];simp
theorem Qgb {R:List Int} (h:R.length=64):Qcc R=R:=by unfold Qcc;rw [if_neg (by omega)]
theorem Qrz {E1 R1 E2 R2 A B:List Int} {m2:Nat} (hm:R2.length=m2) (hno:¬ (R1.length=0/\R2.length=0)) (h64:(Qcc R1).length=64) (hA:Laid (Qcc R1) (·∈E1) A) (hB:Laid (Qcc A) (·∈E2) B):Mg E1 R1 E2 R2 [] (mxL B R2 m2):=by
 refine .inr ⟨fun k=>hno ⟨k.1,k.2.1⟩,rfl,?_⟩;rw [Qgb (hA.1.trans h64)] at hB;rw [hm];exact (hA.trans hB (fun x=>Qlg x E1 E2)).mx m2
theorem QoU {E1 E2 A:List Int} (hu:upN E1=true) (h40:¬ (Qce E1 E2).length<=40) (h:Laid (Qcc []) (·∈Qce E1 E2) A):Mg E1 [] E2 [] [] A:=by
 refine .inr ⟨fun k=>h40 (by rw [<- Qd1 hu];exact k.2.2),rfl,?_⟩;rw [List.length_nil,Qci,Qd1 hu];exact h
theorem Qrs {E1 E2:List Int} (hu:upN E1=true) (h40:(Qce E1 E2).length<=40):Mg E1 [] E2 [] (Qce E1 E2) []:=
 .inl ⟨rfl,rfl,by rw [Qd1 hu];exact h40,(Qd1 hu E2).symm,rfl⟩
def MgOut (w:World) (E1 R1 E2 R2:List Int) (e:Ending) (w':World):Prop:=∃ v E R,e=.returned v/\Mg E1 R1 E2 R2 E R/\Qhr w' w.heap.size v E R/\Below w.heap.size w w'
theorem MgOut.mk {w w':World} {E1 R1 E2 R2 E R:List Int} {v:Value} (h:Mg E1 R1 E2 R2 E R) (o:Qhr w' w.heap.size v E R) (b:Below w.heap.size w w'):MgOut w E1 R1 E2 R2 (.returned v) w':=⟨v,E,R,rfl,h,o,b⟩
theorem Ql6 {w:World} {ea ra eb rb:Option Addr} {n1 c1 d1 n2 c2 d2:Nat} {E1 E2:List Int} (h1:E1.length=n1) (h3:E2.length=n2) (l1:n1<=40) (l3:n2<=40) (hup:upN E1=true) (c1e:ea=none->c1=0)
  (hE1:Qaq .u64 w ea E1) (hE2:Qaq .u64 w eb E2) (u1:∀ x∈E1,U64 x) (u2:∀ x∈E2,U64 x) :
  Calls Tryz.prog 142 #[.agg #[.slice ea n1 c1,.slice ra 0 d1],.agg #[.slice eb n2 c2,.slice rb 0 d2]] w fun e w'=>MgOut w E1 [] E2 [] e w':=by
 obtain ⟨i0,hi,aI,aE,aH⟩:=info_parts Qdo;have aq:=Qaa hE1;have aG:=Qaa hE2;have H1:=Qaa h1;have H3:=Qaa h3;have U1:=Qaa u1;have U2:=Qaa u2;have C1:=Qaa c1e;have au:=Qaa hup;have av:Hid (∀ o1 o2 o3,Below w.heap.size w (((w.alloc o1).alloc o2).alloc o3)):=fun o1 o2 o3=>(((Below.refl _ _).alloc (Nat.le_refl _) _).alloc (by simp) _).alloc (by simp;omega) _
 have HM:Hid (∀ o1 o2 o3,((((w.alloc o1).alloc o2).alloc o3).alloc (.cells #[] 26)).ownsRow (w.heap.size+1+1+1) 26 1 (.slice (some ⟨w.heap.size+1+1+1,0,none⟩) 0 0) 0 []):=fun o1 o2 o3=>by
  have:=World.ownsRow_made (base:=w.heap.size+1+1+1) (e:=26) (size:=1) (((w.alloc o1).alloc o2).alloc o3) #[] 0 (by simp) (Nat.zero_le _) rfl
  simpa using this
 have HC:Hid (∀ W,Below (w.heap.size+1+1+1) (((w.alloc (.cells #[.slice ea n1 c1,.slice ra 0 d1] 47)).alloc (.cells #[.slice eb n2 c2,.slice rb 0 d2] 47)).alloc (.cells #[.slice none 0 0,.slice none 0 0] 47)) W->Qbm W w.heap.size (.slice ea n1 c1) (.slice ra 0 d1)/\Qbm W (w.heap.size+1) (.slice eb n2 c2) (.slice rb 0 d2)/\W.heap[w.heap.size+1+1]?=some (.cells #[.slice none 0 0,.slice none 0 0] 47 (0,0))/\Below w.heap.size w W):=fun W h=>by
  obtain ⟨q1,q2,q3⟩:=Qfl w _ _ _ _ _ _ _ _ _ W (by simpa using h);exact ⟨q1,q2,q3,(av.out _ _ _).trans (h.mono (by omega))⟩
 clear hE1 hE2 h1 h3 u1 u2 c1e hup;go_enter Tryz.func142,Tryz.ntmps142;go_wp2_with (at_builtin;refine Qag _ rfl (.tmp 19) (.tmp 21) 44 rfl (w.heap.size+1+1+1) 26 i0 (.int .u64 0) 1 8 Tryz.underlying44 hi aI aE aH rfl (by decide) _ _ _ rfl (HM.out _ _ _) ea n1 c1 (E1.map (Value.int .u64)) rfl (by simp [H1.out]) (fun e=>⟨Qet aq H1 e,C1.out e⟩) (QbL (Qaf aq ((av.out _ _ _).alloc (by simp;omega) _))) (QaV _ _) (by unfold maxLen;omega) (by omega) (by simp) ?_;intro v1 w1 aa ab ae;simp only [Nat.zero_add,List.nil_append] at aa;obtain ⟨aB,k1,rfl⟩:=Qam aa;have O1:=Qaa aa;have ap:Below (w.heap.size+1+1+1) (((w.alloc (.cells #[.slice ea n1 c1,.slice ra 0 d1] 47)).alloc (.cells #[.slice eb n2 c2,.slice rb 0 d2] 47)).alloc (.cells #[.slice none 0 0,.slice none 0 0] 47)) w1:=((Below.refl _ _).alloc (by simp) _).grown ab (by simp) (fun j hj=>by cases hj;exact Nat.le_refl _);have B1:=Qaa ap;clear aa ab ae ap)
 go_loopw [5,6] (fun lv i wr=>∃ (k:Nat) (ao:Option Addr) (n c:Nat),k<=n2/\i=.int .i64 k/\lv=.slice ao n c/\n<=80/\Hid ((Qce E1 (E2.take k)).length=n)/\Hid (wr.ownsRow (w.heap.size+1+1+1) 26 1 (.slice ao n c) n ((Qce E1 (E2.take k)).map (Value.int .u64)))/\Hid (Below (w.heap.size+1+1+1) (((w.alloc (.cells #[.slice ea n1 c1,.slice ra 0 d1] 47)).alloc (.cells #[.slice eb n2 c2,.slice rb 0 d2] 47)).alloc (.cells #[.slice none 0 0,.slice none 0 0] 47)) wr)) (fun lv i wr=>n2 - (Go.RowKit.intOf i).toNat)
 case atStart=>exact ⟨0,aB,n1,k1,ZZj _,rfl,rfl,by omega,H1,O1,B1⟩
 case round=>
  clear O1 B1;obtain ⟨k,ao,n,c,hk,rfl,rfl,az,HL,HO,aj⟩:=hrel;obtain ⟨⟨x0,x1⟩,⟨y0,y1⟩,r1,t1⟩:=HC.out wr aj;have HT:=Qaa t1;have af:=Qaa r1;have hz:w.heap.size+1+1+1<=wr.heap.size:=by have:=aj.out.size;simpa using this
  clear t1 r1;by_cases aA:k<n2
  ·obtain ⟨b,aJ,e,ac⟩:=aG.out (by have:=H3.out;omega)
   subst e;obtain ⟨y,hy⟩:∃ y,E2[k]?=some y:=⟨E2[k]'(by have:=H3.out;omega),ZZe _⟩;have aK:=Qab HT (ac k y hy);have HS:Hid (Qce E1 (E2.take (k+1))=QbZ (Qce E1 (E2.take k)) y):=Qh8 hy;have ag:=Qaa (Qgt (L:=Qce E1 (E2.take k)) (by rw [HL.out];exact HO.out))
   have aF:Hid ((Qce E1 (E2.take (k+1))).length<=80):=by
    have:=Qip (E2.take (k+1)) E1;have:=H1.out;have:(E2.take (k+1)).length<=40:=by rw [List.length_take];omega
    show (Qce E1 (E2.take (k+1))).length<=80
    omega
   clear ac hy;go_wp2_with (go_at_call 181;refine (QiV y HL (by omega) ag.out.2.2.2.1 ag.out.2.2.2.2.1 ag.out.2.1 ag.out.2.2.2.2.2 ag.out.1).mono ?_;rintro e w4 ⟨v4,rfl,o4,aw⟩;rw [<- HS.out] at o4;obtain ⟨a4,c4,rfl⟩:=Qam o4;have O4:=Qaa (QaE o4 hz);have B4:=Qaa (aj.out.trans (aw.mono hz));clear o4 aw);go_roundw
   case rel=>exact ⟨k+1,a4,_,c4,by omega,by go_num,rfl,aF,Qaa rfl,O4,B4⟩
   case measure=>simp [zI];omega
  ·have eL:E2.take k=E2:=List.take_of_length_le (by have:=H3.out;omega)
   rw [eL] at HL HO;obtain rfl:k=n2:=by omega
   clear eL aA hk;have q0:wr.cell? ⟨w.heap.size+1+1,0,none⟩=some (.slice none 0 0):=by rw [cell_of_row _ _ 0 _ _ (0,0) af.out];rfl
   have ai:wr.cell? ⟨w.heap.size+1+1,1,none⟩=some (.slice none 0 0):=by rw [cell_of_row _ _ 1 _ _ (0,0) af.out];rfl
   have f0:=fzR 0 af;have f1:=fzR 1 af;by_cases ax:n<=40
   ·have ak:¬ (40:Int)<(n:Int):=by omega
    have am:Hid (Mg E1 [] E2 [] (Qce E1 E2) []):=Qrs au (by rw [HL.out];exact ax);go_wp2;refine bodyPost_ret (v:=.agg #[.slice ao n c,.slice none 0 0]) (by simp [results,Tryz.results142,go_sem,q0,ai]) rfl (MgOut.mk am ⟨_,_,rfl,?_,World.ownsRow_nil _ _ _ _⟩ ?_)
    ·refine QaE (B:=w.heap.size+1+1+1) ?_ (by omega)
     repeat (refine ownsRow_setCell_below ?_ (by simp) _)
     rw [HL.out];exact HO.out
    ·exact (HT.out.setCell (by simp;omega) _).setCell (by simp;omega) _
   ·have ak:(40:Int)<(n:Int):=by omega
    have ay:Hid (∀ A,Laid (Qcc []) (·∈Qce E1 E2) A->Mg E1 [] E2 [] [] A):=fun A h=>QoU au (by rw [HL.out];exact ax) h
    have aC:Hid (∀ y∈Qce E1 E2,U64 y):=fun y hy=>by
     rcases (QbI y E2 E1).1 hy with h | h
     ·exact U1.out y h
     ·exact U2.out y h
    have an:=(Qgt (L:=Qce E1 E2) (T:=26) (kd:=.u64) (w:=wr) (ao:=ao) (n:=n) (c:=c) (B:=w.heap.size+1+1+1) (by rw [HL.out];exact HO.out)).1;have an:=Qaa an;clear q0 ai f0 f1;go_wp2_with fail;refine (Qcr (R:=[]) rfl HL (.inl rfl) (by omega) (fun h=>by simp at h) an aC).mono ?_;rintro e w2 ⟨g,A,rfl,ar,ah,al⟩;have r2:=(al.block (w.heap.size+1+1) (by omega)).trans af;have q0:w2.cell? ⟨w.heap.size+1+1,0,none⟩=some (.slice none 0 0):=by rw [cell_of_row _ _ 0 _ _ (0,0) r2];rfl
    have ai:w2.cell? ⟨w.heap.size+1+1,1,none⟩=some (.slice none 0 0):=by rw [cell_of_row _ _ 1 _ _ (0,0) r2];rfl
    have f0:=fzR 0 r2;have f1:=fzR 1 r2;have am:=Qaa (ay.out A ar);have aD:=Qaa (Qac HT al);have ad:=Qaa ah;clear ar ah al r2;go_wp2;refine bodyPost_ret (v:=.agg #[.slice none 0 0,.slice (some ⟨g,0,none⟩) 64 64]) (by simp [results,Tryz.results142,go_sem,q0,ai]) rfl (MgOut.mk am ⟨_,_,rfl,World.ownsRow_nil _ _ _ _,?_⟩ ?_)
    ·refine QaE (B:=wr.heap.size) ?_ (by omega)
     repeat (refine ownsRow_setCell_below ?_ (by simp;omega) _)
     rw [ad.out.1];exact ad.out.2
    ·exact (aD.out.setCell (by simp;omega) _).setCell (by simp;omega) _
end Go.Proofs.YtandnmpllheniaaGreatDoor
namespace Go.Proofs.YtandnmpllheniaaGreatDoor
def zer:List Int:=List.replicate 64 0
theorem Qqt:zer.length=64:=by simp [zer]
theorem Qm2 (i:Nat):zer.getD i 0=0:=by
 unfold zer;rw [List.getD_eq_getElem?_getD,List.getElem?_replicate];split <;> rfl
def mxx (A B:List Int):List Int:=mxL A B 64
theorem Qeq (A B:List Int):(mxx A B).length=A.length:=QdX _ _ _
theorem Qei {A B:List Int} (hA:A.length=64) (i:Nat) (hi:i<64):(mxx A B).getD i 0=max (A.getD i 0) (B.getD i 0):=by
 unfold mxx;rw [Qex A B 64 i (by omega),if_pos hi]
theorem Qki {A B:List Int} (hA:A.length=64) (hB:B.length=64) (h:∀ i,i<64->A.getD i 0=B.getD i 0):A=B:=by
 apply List.ext_getElem (by omega);intro i h1 h2;have:=h i (by omega);rw [List.getD_eq_getElem?_getD,List.getD_eq_getElem?_getD,List.getElem?_eq_getElem h1,List.getElem?_eq_getElem h2] at this;exact this
def Qdy (B:List Int):Prop:=B.length=64/\∀ i,i<64->0<=B.getD i 0/\B.getD i 0<=55
theorem Qnu:Qdy zer:=⟨Qqt,fun i _=>by rw [Qm2];omega⟩
theorem mx_ok {A B:List Int} (a:Qdy A) (b:Qdy B):Qdy (mxx A B):=⟨by rw [Qeq];exact a.1,fun i hi=>by
 rw [Qei a.1 i hi];have:=a.2 i hi;have:=b.2 i hi;omega⟩
theorem Qj4 {A B:List Int} (a:Qdy A) (b:Qdy B):mxx A B=mxx B A:=
 Qki (by rw [Qeq];exact a.1) (by rw [Qeq];exact b.1) fun i hi=>by rw [Qei a.1 i hi,Qei b.1 i hi];omega
theorem Qlm {A:List Int} (a:Qdy A):mxx A zer=A:=
 Qki (by rw [Qeq];exact a.1) a.1 fun i hi=>by rw [Qei a.1 i hi,Qm2];have:=a.2 i hi;omega
theorem QlK {A B C:List Int} (a:Qdy A) (b:Qdy B) (c:Qdy C):mxx (mxx A B) C=mxx A (mxx B C):=
 Qki (by rw [Qeq,Qeq];exact a.1) (by rw [Qeq];exact a.1) fun i hi=>by rw [Qei (mx_ok a b).1 i hi,Qei a.1 i hi,Qei a.1 i hi,Qei b.1 i hi];omega
theorem Laid.ok {B R:List Int} {S:Int->Prop} (b:Qdy B) (h:Laid B S R):Qdy R:=⟨by rw [h.1];exact b.1,fun i hi=>by
 obtain ⟨h1,h2,h3⟩:=h.2 i (by rw [b.1];exact hi);have:=b.2 i hi;rcases h3 with h3 | ⟨x,_,_,h3⟩
 ·omega
 ·have:=Qn9 x;omega⟩
theorem Laid.two {A A' B B':List Int} {S T U:Int->Prop} (a:Qdy A) (b:Qdy B) (h:Laid A S A') (g:Laid B T B') (hU:∀ x,U x↔S x∨T x):Laid (mxx A B) U (mxx A' B'):=by
 have a':=h.ok a;have b':=g.ok b;refine ⟨by rw [Qeq,Qeq,a.1,a'.1],fun i hi=>?_⟩;have hi:i<64:=by rw [Qeq,a.1] at hi;exact hi
 obtain ⟨h1,h2,h3⟩:=h.2 i (by rw [a.1];exact hi);obtain ⟨g1,g2,g3⟩:=g.2 i (by rw [b.1];exact hi);rw [Qei a.1 i hi,Qei a'.1 i hi];refine ⟨by omega,fun x hx hr=>?_,?_⟩
 ·rcases (hU x).1 hx with hx | hx
  ·have:=h2 x hx hr;omega
  ·have:=g2 x hx hr;omega
 ·by_cases q:B'.getD i 0<=A'.getD i 0
  ·rcases h3 with h3 | ⟨x,hx,hr,h3⟩
   ·exact .inl (by omega)
   ·exact .inr ⟨x,(hU x).2 (.inl hx),hr,by omega⟩
  ·rcases g3 with g3 | ⟨x,hx,hr,g3⟩
   ·exact .inl (by omega)
   ·exact .inr ⟨x,(hU x).2 (.inr hx),hr,by omega⟩
structure Can (g:Prop) (U B E R:List Int):Prop where
 rise:U.Pairwise (· < ·)
 okB:Qdy B
 no:¬ g->B=zer
 few:¬ g->U.length<=40->E=U/\R=[]
 many:g∨40<U.length->E=[]/\Laid B (·∈U) R
theorem Can.one {g g':Prop} {U B E R U' B' E' R':List Int} (h:Can g U B E R) (k:Can g' U' B' E' R') (hg:g↔g') (hU:∀ x,x∈U↔x∈U') (hB:B=B'):E=E'/\R=R':=by
 obtain rfl:=Qix U U' h.rise k.rise hU;subst hB;by_cases q:g∨40<U.length
 ·obtain ⟨a,b⟩:=h.many q
  obtain ⟨a',b'⟩:=k.many (q.imp hg.1 id);exact ⟨a.trans a'.symm,b.same b' fun _=>Iff.rfl⟩
 ·have q1:¬ g:=fun x=>q (.inl x)
  have q2:U.length<=40:=by omega
  obtain ⟨a,b⟩:=h.few q1 q2;obtain ⟨a',b'⟩:=k.few (fun x=>q1 (hg.2 x)) q2;exact ⟨a.trans a'.symm,b.trans b'.symm⟩
theorem Qeb:∀ {L:List Int},L.Pairwise (· < ·)->upN L=true
 | [],_=>rfl
 | [x],_=>rfl
 | x :: y :: r,h=>by
  have a:=List.pairwise_cons.1 h;simp only [upN,Bool.and_eq_true,decide_eq_true_eq];exact ⟨a.1 y (by simp),Qeb a.2⟩
theorem QqQ {R:List Int} (h:Qhj R=true):Qdy R:=by
 unfold Qhj at h;simp only [Bool.and_eq_true,decide_eq_true_eq] at h;refine ⟨h.1,fun i hi=>?_⟩;have aa:i<R.length:=by omega
 have:=List.all_eq_true.1 h.2 (R[i]) (List.getElem_mem aa);rw [List.getD_eq_getElem?_getD,List.getElem?_eq_getElem aa]
 simpa [inR] using this
theorem QqV {R:List Int} (h:Qdy R):Qhj R=true:=by
 unfold Qhj;simp only [Bool.and_eq_true,decide_eq_true_eq];refine ⟨h.1,List.all_eq_true.2 fun x hx=>?_⟩;obtain ⟨i,hi,rfl⟩:=List.getElem_of_mem hx;have:=h.2 i (by rw [<- h.1];exact hi);rw [List.getD_eq_getElem?_getD,List.getElem?_eq_getElem hi] at this
 simpa [inR] using this
theorem Can.self {E R:List Int} (h:hlB E R=true):Can (R.length≠0) E (Qcc R) E R:=by
 rcases Qg5 h with ⟨rfl,hu⟩ | ⟨aa,rfl⟩
 ·refine ⟨Qgs hu,?_,fun _=>rfl,fun _ _=>⟨rfl,rfl⟩,fun q=>?_⟩
  ·exact Qnu
  ·rcases q with q | q
   ·exact absurd rfl q
   ·have:=(Qdk h).1;omega
 ·have hp:Qcc R=R:=Qgb aa
  have hr:Qhj R=true:=by
   unfold hlB at h;rw [if_neg (by omega)] at h;simp only [Bool.and_eq_true] at h;exact h.2
  refine ⟨List.Pairwise.nil,by rw [hp];exact QqQ hr,fun q=>absurd (by omega) q,fun q=>absurd (by omega) q,fun _=>⟨rfl,?_⟩⟩;rw [hp];exact Laid.start R (fun x hx=>by simp at hx)
theorem Can.right {g:Prop} {U B E R:List Int} (h:Can g U B E R):hlB E R=true:=by
 by_cases q:g∨40<U.length
 ·obtain ⟨rfl,b⟩:=h.many q
  have ok:=b.ok h.okB;unfold hlB;rw [if_neg (by rw [ok.1];omega),QqV ok];rfl
 ·have q2:U.length<=40:=by omega
  obtain ⟨rfl,rfl⟩:=h.few (fun x=>q (.inl x)) q2;unfold hlB exB;rw [if_pos (by rfl:([]:List Int).length=0),Qeb h.rise]
  simpa using q2
theorem Can.part {g:Prop} {U B E R:List Int} (h:Can g U B E R):∃ S:Int->Prop,Laid B S (Qcc R)/\∀ x,x∈U↔S x∨x∈E:=by
 by_cases q:g∨40<U.length
 ·obtain ⟨rfl,b⟩:=h.many q
  exact ⟨(·∈U),by rw [Qgb (b.ok h.okB).1];exact b,fun x=>by simp⟩
 ·have q2:U.length<=40:=by omega
  obtain ⟨rfl,rfl⟩:=h.few (fun x=>q (.inl x)) q2;refine ⟨fun _=>False,?_,fun x=>by simp⟩;rw [h.no (fun x=>q (.inl x))];exact Laid.start zer (fun _ x=>x)
theorem QhI {l m:List Int} (hl:l.Pairwise (· < ·)):∀ {k:List Int},k.Pairwise (· < ·)->(∀ x,x∈l->x∈k)->l.length<=k.length:=by
 intro k hk hs;have n:l.Nodup:=hl.imp fun h e=>by omega
 exact n.length_le_of_subset hs
theorem Qq4 {A R:List Int} (a:Qdy A) (hR:R.length=0∨R.length=64):mxL A R R.length=mxx A (Qcc R):=by
 rcases hR with h | h
 ·obtain rfl:=List.eq_nil_of_length_eq_zero h
  rw [List.length_nil,Qci];exact (Qlm a).symm
 ·rw [h,Qgb h];rfl
theorem Qhc {g1 g2:Prop} {U1 B1 E1 R1 U2 B2 E2 R2 E R:List Int} (h1:Can g1 U1 B1 E1 R1) (h2:Can g2 U2 B2 E2 R2) (hM:Mg E1 R1 E2 R2 E R):Can (g1∨g2) (Qce U1 U2) (mxx B1 B2) E R:=by
 have rise:=QnI U2 U1 h1.rise;have ae:U1.length<=(Qce U1 U2).length:=QhI (m:=[]) h1.rise rise fun x hx=>(QbI x U2 U1).2 (.inl hx);have ad:U2.length<=(Qce U1 U2).length:=QhI (m:=[]) h2.rise rise fun x hx=>(QbI x U2 U1).2 (.inr hx);have ab:g1∨40<U1.length->R1.length=64:=fun q=>by obtain ⟨_,b⟩:=h1.many q;exact (b.ok h1.okB).1
 have ac:g2∨40<U2.length->R2.length=64:=fun q=>by obtain ⟨_,b⟩:=h2.many q;exact (b.ok h2.okB).1
 refine ⟨rise,mx_ok h1.okB h2.okB,fun q=>?_,fun q1 q2=>?_,fun q=>?_⟩
 ·rw [h1.no (fun x=>q (.inl x)),h2.no (fun x=>q (.inr x))];exact Qlm Qnu
 ·obtain ⟨rfl,rfl⟩:=h1.few (fun x=>q1 (.inl x)) (by omega)
  obtain ⟨rfl,rfl⟩:=h2.few (fun x=>q1 (.inr x)) (by omega);have e:QiR E1 E2=Qce E1 E2:=Qd1 (Qeb h1.rise) E2;rcases hM with ⟨_,_,_,a,b⟩ | ⟨a,_⟩
  ·exact ⟨a.trans e,b⟩
  ·exact absurd ⟨rfl,rfl,by rw [e];exact q2⟩ a
 ·rcases hM with ⟨a,b,c,_,_⟩ | ⟨a,rfl,c⟩
  ·have n1:¬ (g1∨40<U1.length):=fun q=>by have:=ab q;omega
   have n2:¬ (g2∨40<U2.length):=fun q=>by have:=ac q;omega
   obtain ⟨rfl,rfl⟩:=h1.few (fun x=>n1 (.inl x)) (by omega);obtain ⟨rfl,rfl⟩:=h2.few (fun x=>n2 (.inl x)) (by omega);rw [Qd1 (Qeb h1.rise) E2] at c;rcases q with (q | q) | q
   ·exact absurd (.inl q) n1
   ·exact absurd (.inl q) n2
   ·omega
  ·obtain ⟨S1,l1,s1⟩:=h1.part
   obtain ⟨S2,l2,s2⟩:=h2.part;refine ⟨rfl,?_⟩;have aa:R2.length=0∨R2.length=64:=(Qdk h2.right).2;rw [Qq4 (l1.ok h1.okB) aa] at c;refine (Laid.two h1.okB h2.okB l1 l2 (fun x=>Iff.rfl)).trans c (fun x=>?_);rw [QbI,Qlg,s1 x,s2 x];constructor
   ·rintro ((h | h) | (h | h)) <;> simp [h]
   ·rintro ((h | h) | (h | h)) <;> simp [h]
theorem Can.hash (x:Int):Can False [x] zer [x] []:=⟨by simp,Qnu,fun _=>rfl,fun _ _=>⟨rfl,rfl⟩,fun q=>by rcases q with q | q;exact q.elim;simp at q⟩
theorem Qh1 {g1 g2:Prop} {U1 B1 E1 R1 U2 B2 E2 R2 E R:List Int} (h1:Can g1 U1 B1 E1 R1) (h2:Can g2 U2 B2 E2 R2) (hM:QeP E1 R1 E2 R2 E R):Can (g1∨g2) (Qce U1 U2) (mxx B1 B2) E R:=by
 unfold QeP at hM;rw [if_pos ⟨h1.right,h2.right⟩] at hM;exact Qhc h1 h2 hM
theorem Can.sub {g:Prop} {U B E R:List Int} (h:Can g U B E R):∀ x∈E,x∈U:=fun x hx=>by
 by_cases q:g∨40<U.length
 ·obtain ⟨rfl,_⟩:=h.many q;simp at hx
 ·obtain ⟨rfl,_⟩:=h.few (fun x=>q (.inl x)) (by omega);exact hx
theorem QpK {E1 R1 E2 R2 A S C T:List Int} (p:QeP E1 R1 E2 R2 A S) (q:QeP E2 R2 E1 R1 C T):A=C/\S=T:=by
 by_cases hb:hlB E1 R1=true/\hlB E2 R2=true
 ·have c1:=Can.self hb.1
  have c2:=Can.self hb.2;refine (Qh1 c1 c2 p).one (Qh1 c2 c1 q) or_comm (fun z=>?_) (Qj4 c1.okB c2.okB);rw [QbI,QbI];exact or_comm
 ·unfold QeP at p q
  rw [if_neg hb] at p;rw [if_neg (fun h=>hb h.symm)] at q;exact ⟨p.1.trans q.1.symm,p.2.trans q.2.symm⟩
theorem Qjc {E R F S A T:List Int} (h:hlB E R=true) (k:hlB F S=true) (p:QeP E R F S A T):hlB A T=true:=(Qh1 (Can.self h) (Can.self k) p).right
theorem Qrj {E R F S A T:List Int} (u:∀ y∈E,U64 y) (v:∀ y∈F,U64 y) (p:QeP E R F S A T):∀ y∈A,U64 y:=by
 by_cases hb:hlB E R=true/\hlB F S=true
 ·intro y hy
  have:=(Qh1 (Can.self hb.1) (Can.self hb.2) p).sub y hy;rw [QbI] at this;exact this.elim (u y) (v y)
 ·unfold QeP at p
  rw [if_neg hb] at p;rw [p.1];intro y hy;simp at hy
open Go.ChangeAt Go.ChangeShapes Go.Maps Go.PlainAid Go.RowKit Go.WideShapes
theorem Qoc {w:World} {g:Nat} {a b:Value} (h:w.heap[g]?=some (.cells #[a,b] 47 (0,0))) (p q:Value):((w.setCell ⟨g,0,none⟩ p).setCell ⟨g,1,none⟩ q).heap[g]?=some (.cells #[p,q] 47 (0,0)):=by
 exact ZZl _ g 1 _ _ q (ZZl w g 0 _ _ p h)
theorem Qmf {w:World} {ea ra eb rb:Option Addr} {n1 c1 m1 d1 n2 c2 m2 d2:Nat} {E1 R1 E2 R2:List Int} (h1:E1.length=n1) (h2:R1.length=m1) (h3:E2.length=n2) (h4:R2.length=m2) (l1:n1<=40) (l2:m1=0∨m1=64) (l3:n2<=40) (l4:m2=0∨m2=64) (hno:¬ (m1=0/\m2=0))
  (hE1:Qaq .u64 w ea E1) (hR1:Qaq .i64 w ra R1) (hE2:Qaq .u64 w eb E2) (hR2:Qaq .i64 w rb R2) (u1:∀ x∈E1,U64 x) (u2:∀ x∈E2,U64 x) :
  Calls Tryz.prog 142 #[.agg #[.slice ea n1 c1,.slice ra m1 d1],.agg #[.slice eb n2 c2,.slice rb m2 d2]] w fun e w'=>MgOut w E1 R1 E2 R2 e w':=by
 have a2:=Qaa hE1;have a0:=Qaa hE2;have aY:=Qaa hR1;have aX:=Qaa hR2;have H1:=Qaa h1;have H2:=Qaa h2;have H3:=Qaa h3;have H4:=Qaa h4;have U1:=Qaa u1;have U2:=Qaa u2;have L2:=Qaa l2;have L4:=Qaa l4;have a9:Hid ((Qcc R1).length=64):=Qec (by rw [h2];exact l2);have a1:Hid (∀ A B,Laid (Qcc R1) (·∈E1) A->Laid (Qcc A) (·∈E2) B->Mg E1 R1 E2 R2 [] (mxL B R2 m2)):=fun A B hA hB=>Qrz h4 (by rw [h2,h4];exact hno) (Qec (by rw [h2];exact l2)) hA hB;have ay:Hid (∀ o1 o2 o3,Below w.heap.size w (((w.alloc o1).alloc o2).alloc o3)):=fun o1 o2 o3=>(((Below.refl _ _).alloc (Nat.le_refl _) _).alloc (by simp) _).alloc (by simp;omega) _;clear hE1 hE2 hR1 hR2 h1 h2 h3 h4 u1 u2;by_cases aZ:m1=0
 ·obtain rfl:m2=64:=by omega
  subst aZ;have a7:64<=64:=by omega
  go_enter Tryz.func142,Tryz.ntmps142;go_wp2_with fail;refine (Qcr H2 H1 (.inl rfl) (by omega) (Qaf aY (ay.out _ _ _)) (Qaf a2 (ay.out _ _ _)) U1).mono ?_;rintro e w1 ⟨g1,A,rfl,aA,aa,ap⟩;obtain ⟨_,⟨y0,y1⟩,aj⟩:=Qfl w _ _ _ _ _ _ _ _ _ w1 ap;have aN:=ap.size;have az:Below w.heap.size w w1:=(ay.out _ _ _).trans (ap.mono (by simp;omega));simp only [World.size_alloc] at aN aa;have aq:=Qaa az;have aG:=Qaa aj;have aW:=Qaa aA;have ax:=Qaa aa.1
  have aK:Hid (Qaq .i64 w1 (some ⟨g1,0,none⟩) A):=(fun _=>⟨g1,0,rfl,fun i x hx=>by
   have hi:=(ZZd.1 hx).1;rw [Nat.zero_add];exact aa.cell (by have:=aa.1;omega) (by rw [List.getD_eq_getElem?_getD,hx];rfl)⟩)
  have aD:Hid (Qbm w1 (w.heap.size+1) (.slice eb n2 c2) (.slice rb 64 d2)):=⟨y0,y1⟩;have ao:Hid (∀ o,Below w1.heap.size w1 (w1.alloc o)):=fun o=>(ZZb _ _).alloc (ZZa _) _;have aR:∀ o,(w1.alloc o).cell? ⟨w.heap.size+1,0,none⟩=some (.slice eb n2 c2):=fun o=>Qab (ao.out o) y0;have aL:=Qaa (ZZk w1 (.cells #[.slice none 0 0,.slice (some ⟨g1,0,none⟩) 64 64] 47));clear ap az aj aA aa;go_wp2_with fail;refine (Qcr (R:=A) ax H3 (.inr rfl) (by omega) (Qaf aK (ao.out _)) (Qaf a0 (aq.out.trans ((ao.out _).mono aq.out.size))) U2).mono ?_;rintro e w2 ⟨g2,B,rfl,aB,ac,al⟩;simp only [World.size_alloc] at ac al;have a8:w1.heap.size+1<=w2.heap.size:=by have:=al.size;simpa using this
  have ad:Hid (RowI w2 (w1.heap.size+1) g2 B):=ac;have aP:=Qaa (a1.out A B aW aB);have a5:w1.heap.size<g2:=by have:=ac.lt.1;omega
  have r2:=(al.block w1.heap.size (by omega)).trans aL;have q0:w2.cell? ⟨w1.heap.size,0,none⟩=some (.slice none 0 0):=by rw [cell_of_row _ _ 0 _ _ (0,0) r2];rfl
  have q1:w2.cell? ⟨w1.heap.size,1,none⟩=some (.slice (some ⟨g1,0,none⟩) 64 64):=by rw [cell_of_row _ _ 1 _ _ (0,0) r2];rfl
  have f0:=fzR 0 r2;have f1:=fzR 1 r2;have aw:=Qaa ((ao.out (.cells #[.slice none 0 0,.slice (some ⟨g1,0,none⟩) 64 64] 47)).trans (al.mono (by omega)));have am:=Qaa (Qoc r2 (.slice none 0 0) (.slice (some ⟨g2,0,none⟩) 64 64));clear aB ac al r2;clear y0 y1 aR;obtain ⟨y0,y1⟩:=Qbq aD aw
  have ai:Hid (RowI ((w2.setCell ⟨w1.heap.size,0,none⟩ (.slice none 0 0)).setCell ⟨w1.heap.size,1,none⟩ (.slice (some ⟨g2,0,none⟩) 64 64)) (w1.heap.size+1) g2 (mxL B R2 0)):=by
   rw [Qci];refine ⟨ad.out.1,?_⟩
   repeat (refine ownsRow_setCell_below ?_ (by simp) _)
   exact ad.out.2
  have ak:Hid (Below w1.heap.size w1 ((w2.setCell ⟨w1.heap.size,0,none⟩ (.slice none 0 0)).setCell ⟨w1.heap.size,1,none⟩ (.slice (some ⟨g2,0,none⟩) 64 64))):=(aw.out.setCell (ZZa _) _).setCell (ZZa _) _;have an:=Qaa ad.out.1;clear ad aw;go_wp2_with fail;clear q0 q1 f0 f1 y0 y1
  go_loopw [8] (fun iv wr=>∃ k:Nat,k<=64/\iv=.int .i64 k/\Hid (RowI wr (w1.heap.size+1) g2 (mxL B R2 k))/\Hid (wr.heap[w1.heap.size]?=some (.cells #[.slice none 0 0,.slice (some ⟨g2,0,none⟩) 64 64] 47 (0,0)))/\Hid (Below w1.heap.size w1 wr)) (fun iv wr=>64 - (Go.RowKit.intOf iv).toNat)
  case atStart=>exact ⟨0,ZZj _,rfl,ai,am,ak⟩
  case round=>
   clear ai am ak;obtain ⟨k,hk,rfl,ah,am,ag⟩:=hrel;have af:=ah.out.lt.2;have aH:=ag.out.size
   have HC:Hid (∀ W,Below wr.heap.size wr W->Qbm W (w.heap.size+1) (.slice eb n2 c2) (.slice rb 64 d2)/\Qbm W w1.heap.size (.slice none 0 0) (.slice (some ⟨g2,0,none⟩) 64 64)):=fun W hW=>by
    have hr:W.heap[w1.heap.size]?=some (.cells #[.slice none 0 0,.slice (some ⟨g2,0,none⟩) 64 64] 47 (0,0)):=by rw [hW.block _ (by omega)];exact am.out
    refine ⟨Qbq (Qbq aD ag) hW,?_,?_⟩
    ·rw [cell_of_row _ _ 0 _ _ (0,0) hr];rfl
    ·rw [cell_of_row _ _ 1 _ _ (0,0) hr];rfl
   by_cases a6:k<64
   ·have a3:(k:Int)<(64:Int):=by omega
    have aI:(k:Int)<64:=by omega
    obtain ⟨b,au,e,ae⟩:=aX.out (by have:=H4.out;omega);subst e;obtain ⟨y,hy⟩:∃ y,R2[k]?=some y:=⟨R2[k]'(by have:=H4.out;omega),ZZe _⟩;obtain ⟨u,hu⟩:∃ u,B.getD k 0=u:=⟨_,rfl⟩;have aE:=Qab (Qac aq ag) (ae k y hy);have aC:u=(mxL B R2 k).getD k 0:=by rw [Qex B R2 k k (by rw [an.out];omega),if_neg (Nat.lt_irrefl _)];exact hu.symm
    have av:Hid (∀ W,Below wr.heap.size wr W->W.cell? ⟨b,au+k,none⟩=some (.int .i64 y)/\W.cell? ⟨g2,k,none⟩=some (.int .i64 u)):=fun W hW=>⟨Qab hW aE,(ah.out.below af hW).cell (by omega) aC⟩
    have aT:Hid ((mxL B R2 k).set k (max u y)=mxL B R2 (k+1)):=by
     have aV:R2.getD k 0=y:=by rw [List.getD_eq_getElem?_getD,hy];rfl
     have:=Qh7 B R2 k (by rw [an.out];omega);rw [hu,aV] at this;exact this
    clear ae aE hu aC hy;have a4:(0:Int)<=(k:Int):=by omega
    obtain ⟨⟨y0,y1⟩,⟨z0,z1⟩⟩:=HC.out wr (ZZb _ _);go_wp2_with fail;clear y0 y1 z0 z1;have ab:(fun W=>Below wr.heap.size wr W) wr.drew:=(ZZb _ _).drew;refine Qaj (fun W=>Below wr.heap.size wr W) 15 (by kernel_rfl) ?_;refine tkL 0 (.pointer (some ⟨w1.heap.size,1,none⟩)) ab (fun W hW=>?_) ?_
    ·obtain ⟨⟨y0,y1⟩,⟨z0,z1⟩⟩:=HC.out W hW
     go_simp
    refine tkL 1 (.slice (some ⟨g2,0,none⟩) 64 64) ab (fun W hW=>?_) ?_
    ·obtain ⟨⟨y0,y1⟩,⟨z0,z1⟩⟩:=HC.out W hW
     go_simp
    refine tkL 2 (.int .i64 (k:Int)) ab (fun W hW=>?_) ?_
    ·obtain ⟨⟨y0,y1⟩,⟨z0,z1⟩⟩:=HC.out W hW
     go_simp
    simp only [sX];refine tkL 3 (.pointer (some ⟨w1.heap.size,1,none⟩)) ab (fun W hW=>?_) ?_
    ·obtain ⟨⟨y0,y1⟩,⟨z0,z1⟩⟩:=HC.out W hW
     go_simp
    refine tkL 4 (.slice (some ⟨g2,0,none⟩) 64 64) ab (fun W hW=>?_) ?_
    ·obtain ⟨⟨y0,y1⟩,⟨z0,z1⟩⟩:=HC.out W hW
     go_simp
    refine tkL 5 (.int .i64 (k:Int)) ab (fun W hW=>?_) ?_
    ·obtain ⟨⟨y0,y1⟩,⟨z0,z1⟩⟩:=HC.out W hW
     go_simp
    simp only [sX];refine tkL 6 (.pointer (some ⟨g2,k,none⟩)) ab (fun W hW=>?_) ?_
    ·obtain ⟨⟨y0,y1⟩,⟨z0,z1⟩⟩:=HC.out W hW
     go_simp
    refine tkL 7 (.int .i64 u) ab (fun W hW=>?_) ?_
    ·obtain ⟨p0,p1⟩:=av.out W hW
     go_simp
    refine tkL 8 (.pointer (some ⟨w.heap.size+1,1,none⟩)) ab (fun W hW=>?_) ?_
    ·obtain ⟨⟨y0,y1⟩,⟨z0,z1⟩⟩:=HC.out W hW
     go_simp
    simp only [sX];refine tkL 9 (.slice (some ⟨b,au,none⟩) 64 d2) ab (fun W hW=>?_) ?_
    ·obtain ⟨⟨y0,y1⟩,⟨z0,z1⟩⟩:=HC.out W hW
     go_simp
    refine tkL 10 (.int .i64 (k:Int)) ab (fun W hW=>?_) ?_
    ·obtain ⟨⟨y0,y1⟩,⟨z0,z1⟩⟩:=HC.out W hW
     go_simp
    refine tkL 11 (.pointer (some ⟨b,au+k,none⟩)) ab (fun W hW=>?_) ?_
    ·obtain ⟨⟨y0,y1⟩,⟨z0,z1⟩⟩:=HC.out W hW
     go_simp
    simp only [sX];refine tkL 12 (.int .i64 y) ab (fun W hW=>?_) ?_
    ·obtain ⟨p0,p1⟩:=av.out W hW
     go_simp
    simp only [sX];refine onE 13 fun K hK=>?_;go_simp;refine (Qd4 _ _ _).mono ?_;rintro e wz ⟨rfl,aS⟩;obtain rfl:=aS.symm;dsimp only;refine gK hK ab ?_
    try simp only [sX]
    refine tkL 14 (.pointer (some ⟨g2,k,none⟩)) ab (fun W hW=>?_) ?_
    ·obtain ⟨⟨y0,y1⟩,⟨z0,z1⟩⟩:=HC.out W hW
     go_simp
    simp only [sX];have aJ:wr.drew.frozen? ⟨g2,k,none⟩=false:=(ah.out.below af (ZZb _ _).drew).froz k;have aU:=(av.out wr.drew (ZZb _ _).drew).2;refine onE 15 fun K hK=>?_;go_simp;refine hK.out _ _ (fun h=>absurd rfl h) ?_
    try simp only [sX]
    refine dnE ?_ _
    have aQ:Hid (RowI (wr.drew.setCell ⟨g2,k,none⟩ (.int .i64 (max u y))) (w1.heap.size+1) g2 (mxL B R2 (k+1))):=by
     rw [<- aT.out];exact (ah.out.below af (ZZb _ _).drew).set k (max u y)
    have aM:Hid (Below w1.heap.size w1 (wr.drew.setCell ⟨g2,k,none⟩ (.int .i64 (max u y)))):=(ag.out.drew).setCell (by simp;omega) _
    have ar:Hid ((wr.drew.setCell ⟨g2,k,none⟩ (.int .i64 (max u y))).heap[w1.heap.size]?=some (.cells #[.slice none 0 0,.slice (some ⟨g2,0,none⟩) 64 64] 47 (0,0))):=by
     rw [heap_setCell_other _ _ _ _ (by simp;omega)];exact am.out
    clear aJ aU;go_wp2;go_roundw
    case rel=>exact ⟨k+1,by omega,by go_num,aQ,ar,aM⟩
    case measure=>simp [zI];omega
   ·obtain rfl:k=64:=by omega
    obtain ⟨⟨y0,y1⟩,⟨z0,z1⟩⟩:=HC.out wr (ZZb _ _);have r3:=(ag.out.block (w.heap.size+1+1) (by omega)).trans aG;have q0:wr.cell? ⟨w.heap.size+1+1,0,none⟩=some (.slice none 0 0):=by rw [cell_of_row _ _ 0 _ _ (0,0) r3];rfl
    have aO:wr.cell? ⟨w.heap.size+1+1,1,none⟩=some (.slice none 0 0):=by rw [cell_of_row _ _ 1 _ _ (0,0) r3];rfl
    have f0:=fzR 0 r3;have f1:=fzR 1 r3;have aF:=Qaa (Qac aq ag);clear r3;go_wp2;refine bodyPost_ret (v:=.agg #[.slice none 0 0,.slice (some ⟨g2,0,none⟩) 64 64]) (by simp [results,Tryz.results142,go_sem,q0,aO]) rfl (MgOut.mk aP ⟨_,_,rfl,World.ownsRow_nil _ _ _ _,?_⟩ ?_)
    ·refine QaE (B:=w1.heap.size+1) ?_ (by omega)
     repeat (refine ownsRow_setCell_below ?_ (by simp;omega) _)
     rw [ah.out.1];exact ah.out.2
    ·exact (aF.out.setCell (by simp;omega) _).setCell (by simp;omega) _
 ·obtain rfl:m1=64:=by omega
  have a7:m2<=64:=by omega
  clear aZ hno l4 l2;go_enter Tryz.func142,Tryz.ntmps142;go_wp2_with fail;refine (Qcr H2 H1 (.inr rfl) (by omega) (Qaf aY (ay.out _ _ _)) (Qaf a2 (ay.out _ _ _)) U1).mono ?_;rintro e w1 ⟨g1,A,rfl,aA,aa,ap⟩;obtain ⟨_,⟨y0,y1⟩,aj⟩:=Qfl w _ _ _ _ _ _ _ _ _ w1 ap;have aN:=ap.size;have az:Below w.heap.size w w1:=(ay.out _ _ _).trans (ap.mono (by simp;omega));simp only [World.size_alloc] at aN aa;have aq:=Qaa az;have aG:=Qaa aj;have aW:=Qaa aA;have ax:=Qaa aa.1
  have aK:Hid (Qaq .i64 w1 (some ⟨g1,0,none⟩) A):=(fun _=>⟨g1,0,rfl,fun i x hx=>by
   have hi:=(ZZd.1 hx).1;rw [Nat.zero_add];exact aa.cell (by have:=aa.1;omega) (by rw [List.getD_eq_getElem?_getD,hx];rfl)⟩)
  have aD:Hid (Qbm w1 (w.heap.size+1) (.slice eb n2 c2) (.slice rb m2 d2)):=⟨y0,y1⟩;have ao:Hid (∀ o,Below w1.heap.size w1 (w1.alloc o)):=fun o=>(ZZb _ _).alloc (ZZa _) _;have aR:∀ o,(w1.alloc o).cell? ⟨w.heap.size+1,0,none⟩=some (.slice eb n2 c2):=fun o=>Qab (ao.out o) y0;have aL:=Qaa (ZZk w1 (.cells #[.slice none 0 0,.slice (some ⟨g1,0,none⟩) 64 64] 47));clear ap az aj aA aa;go_wp2_with fail;refine (Qcr (R:=A) ax H3 (.inr rfl) (by omega) (Qaf aK (ao.out _)) (Qaf a0 (aq.out.trans ((ao.out _).mono aq.out.size))) U2).mono ?_;rintro e w2 ⟨g2,B,rfl,aB,ac,al⟩;simp only [World.size_alloc] at ac al;have a8:w1.heap.size+1<=w2.heap.size:=by have:=al.size;simpa using this
  have ad:Hid (RowI w2 (w1.heap.size+1) g2 B):=ac;have aP:=Qaa (a1.out A B aW aB);have a5:w1.heap.size<g2:=by have:=ac.lt.1;omega
  have r2:=(al.block w1.heap.size (by omega)).trans aL;have q0:w2.cell? ⟨w1.heap.size,0,none⟩=some (.slice none 0 0):=by rw [cell_of_row _ _ 0 _ _ (0,0) r2];rfl
  have q1:w2.cell? ⟨w1.heap.size,1,none⟩=some (.slice (some ⟨g1,0,none⟩) 64 64):=by rw [cell_of_row _ _ 1 _ _ (0,0) r2];rfl
  have f0:=fzR 0 r2;have f1:=fzR 1 r2;have aw:=Qaa ((ao.out (.cells #[.slice none 0 0,.slice (some ⟨g1,0,none⟩) 64 64] 47)).trans (al.mono (by omega)));have am:=Qaa (Qoc r2 (.slice none 0 0) (.slice (some ⟨g2,0,none⟩) 64 64));clear aB ac al r2;clear y0 y1 aR;obtain ⟨y0,y1⟩:=Qbq aD aw
  have ai:Hid (RowI ((w2.setCell ⟨w1.heap.size,0,none⟩ (.slice none 0 0)).setCell ⟨w1.heap.size,1,none⟩ (.slice (some ⟨g2,0,none⟩) 64 64)) (w1.heap.size+1) g2 (mxL B R2 0)):=by
   rw [Qci];refine ⟨ad.out.1,?_⟩
   repeat (refine ownsRow_setCell_below ?_ (by simp) _)
   exact ad.out.2
  have ak:Hid (Below w1.heap.size w1 ((w2.setCell ⟨w1.heap.size,0,none⟩ (.slice none 0 0)).setCell ⟨w1.heap.size,1,none⟩ (.slice (some ⟨g2,0,none⟩) 64 64))):=(aw.out.setCell (ZZa _) _).setCell (ZZa _) _;have an:=Qaa ad.out.1;clear ad aw;go_wp2_with fail;clear q0 q1 f0 f1 y0 y1
  go_loopw [8] (fun iv wr=>∃ k:Nat,k<=m2/\iv=.int .i64 k/\Hid (RowI wr (w1.heap.size+1) g2 (mxL B R2 k))/\Hid (wr.heap[w1.heap.size]?=some (.cells #[.slice none 0 0,.slice (some ⟨g2,0,none⟩) 64 64] 47 (0,0)))/\Hid (Below w1.heap.size w1 wr)) (fun iv wr=>m2 - (Go.RowKit.intOf iv).toNat)
  case atStart=>exact ⟨0,ZZj _,rfl,ai,am,ak⟩
  case round=>
   clear ai am ak;obtain ⟨k,hk,rfl,ah,am,ag⟩:=hrel;have af:=ah.out.lt.2;have aH:=ag.out.size
   have HC:Hid (∀ W,Below wr.heap.size wr W->Qbm W (w.heap.size+1) (.slice eb n2 c2) (.slice rb m2 d2)/\Qbm W w1.heap.size (.slice none 0 0) (.slice (some ⟨g2,0,none⟩) 64 64)):=fun W hW=>by
    have hr:W.heap[w1.heap.size]?=some (.cells #[.slice none 0 0,.slice (some ⟨g2,0,none⟩) 64 64] 47 (0,0)):=by rw [hW.block _ (by omega)];exact am.out
    refine ⟨Qbq (Qbq aD ag) hW,?_,?_⟩
    ·rw [cell_of_row _ _ 0 _ _ (0,0) hr];rfl
    ·rw [cell_of_row _ _ 1 _ _ (0,0) hr];rfl
   by_cases a6:k<m2
   ·have a3:(k:Int)<(m2:Int):=by omega
    have aI:(k:Int)<64:=by omega
    obtain ⟨b,au,e,ae⟩:=aX.out (by have:=H4.out;omega);subst e;obtain ⟨y,hy⟩:∃ y,R2[k]?=some y:=⟨R2[k]'(by have:=H4.out;omega),ZZe _⟩;obtain ⟨u,hu⟩:∃ u,B.getD k 0=u:=⟨_,rfl⟩;have aE:=Qab (Qac aq ag) (ae k y hy);have aC:u=(mxL B R2 k).getD k 0:=by rw [Qex B R2 k k (by rw [an.out];omega),if_neg (Nat.lt_irrefl _)];exact hu.symm
    have av:Hid (∀ W,Below wr.heap.size wr W->W.cell? ⟨b,au+k,none⟩=some (.int .i64 y)/\W.cell? ⟨g2,k,none⟩=some (.int .i64 u)):=fun W hW=>⟨Qab hW aE,(ah.out.below af hW).cell (by omega) aC⟩
    have aT:Hid ((mxL B R2 k).set k (max u y)=mxL B R2 (k+1)):=by
     have aV:R2.getD k 0=y:=by rw [List.getD_eq_getElem?_getD,hy];rfl
     have:=Qh7 B R2 k (by rw [an.out];omega);rw [hu,aV] at this;exact this
    clear ae aE hu aC hy;have a4:(0:Int)<=(k:Int):=by omega
    obtain ⟨⟨y0,y1⟩,⟨z0,z1⟩⟩:=HC.out wr (ZZb _ _);go_wp2_with fail;clear y0 y1 z0 z1;have ab:(fun W=>Below wr.heap.size wr W) wr.drew:=(ZZb _ _).drew;refine Qaj (fun W=>Below wr.heap.size wr W) 15 (by kernel_rfl) ?_;refine tkL 0 (.pointer (some ⟨w1.heap.size,1,none⟩)) ab (fun W hW=>?_) ?_
    ·obtain ⟨⟨y0,y1⟩,⟨z0,z1⟩⟩:=HC.out W hW
     go_simp
    refine tkL 1 (.slice (some ⟨g2,0,none⟩) 64 64) ab (fun W hW=>?_) ?_
    ·obtain ⟨⟨y0,y1⟩,⟨z0,z1⟩⟩:=HC.out W hW
     go_simp
    refine tkL 2 (.int .i64 (k:Int)) ab (fun W hW=>?_) ?_
    ·obtain ⟨⟨y0,y1⟩,⟨z0,z1⟩⟩:=HC.out W hW
     go_simp
    simp only [sX];refine tkL 3 (.pointer (some ⟨w1.heap.size,1,none⟩)) ab (fun W hW=>?_) ?_
    ·obtain ⟨⟨y0,y1⟩,⟨z0,z1⟩⟩:=HC.out W hW
     go_simp
    refine tkL 4 (.slice (some ⟨g2,0,none⟩) 64 64) ab (fun W hW=>?_) ?_
    ·obtain ⟨⟨y0,y1⟩,⟨z0,z1⟩⟩:=HC.out W hW
     go_simp
    refine tkL 5 (.int .i64 (k:Int)) ab (fun W hW=>?_) ?_
    ·obtain ⟨⟨y0,y1⟩,⟨z0,z1⟩⟩:=HC.out W hW
     go_simp
    simp only [sX];refine tkL 6 (.pointer (some ⟨g2,k,none⟩)) ab (fun W hW=>?_) ?_
    ·obtain ⟨⟨y0,y1⟩,⟨z0,z1⟩⟩:=HC.out W hW
     go_simp
    refine tkL 7 (.int .i64 u) ab (fun W hW=>?_) ?_
    ·obtain ⟨p0,p1⟩:=av.out W hW
     go_simp
    refine tkL 8 (.pointer (some ⟨w.heap.size+1,1,none⟩)) ab (fun W hW=>?_) ?_
    ·obtain ⟨⟨y0,y1⟩,⟨z0,z1⟩⟩:=HC.out W hW
     go_simp
    simp only [sX];refine tkL 9 (.slice (some ⟨b,au,none⟩) m2 d2) ab (fun W hW=>?_) ?_
    ·obtain ⟨⟨y0,y1⟩,⟨z0,z1⟩⟩:=HC.out W hW
     go_simp
    refine tkL 10 (.int .i64 (k:Int)) ab (fun W hW=>?_) ?_
    ·obtain ⟨⟨y0,y1⟩,⟨z0,z1⟩⟩:=HC.out W hW
     go_simp
    refine tkL 11 (.pointer (some ⟨b,au+k,none⟩)) ab (fun W hW=>?_) ?_
    ·obtain ⟨⟨y0,y1⟩,⟨z0,z1⟩⟩:=HC.out W hW
     go_simp
    simp only [sX];refine tkL 12 (.int .i64 y) ab (fun W hW=>?_) ?_
    ·obtain ⟨p0,p1⟩:=av.out W hW
     go_simp
    simp only [sX];refine onE 13 fun K hK=>?_;go_simp;refine (Qd4 _ _ _).mono ?_;rintro e wz ⟨rfl,aS⟩;obtain rfl:=aS.symm;dsimp only;refine gK hK ab ?_
    try simp only [sX]
    refine tkL 14 (.pointer (some ⟨g2,k,none⟩)) ab (fun W hW=>?_) ?_
    ·obtain ⟨⟨y0,y1⟩,⟨z0,z1⟩⟩:=HC.out W hW
     go_simp
    simp only [sX];have aJ:wr.drew.frozen? ⟨g2,k,none⟩=false:=(ah.out.below af (ZZb _ _).drew).froz k;have aU:=(av.out wr.drew (ZZb _ _).drew).2;refine onE 15 fun K hK=>?_;go_simp;refine hK.out _ _ (fun h=>absurd rfl h) ?_
    try simp only [sX]
    refine dnE ?_ _
    have aQ:Hid (RowI (wr.drew.setCell ⟨g2,k,none⟩ (.int .i64 (max u y))) (w1.heap.size+1) g2 (mxL B R2 (k+1))):=by
     rw [<- aT.out];exact (ah.out.below af (ZZb _ _).drew).set k (max u y)
    have aM:Hid (Below w1.heap.size w1 (wr.drew.setCell ⟨g2,k,none⟩ (.int .i64 (max u y)))):=(ag.out.drew).setCell (by simp;omega) _
    have ar:Hid ((wr.drew.setCell ⟨g2,k,none⟩ (.int .i64 (max u y))).heap[w1.heap.size]?=some (.cells #[.slice none 0 0,.slice (some ⟨g2,0,none⟩) 64 64] 47 (0,0))):=by
     rw [heap_setCell_other _ _ _ _ (by simp;omega)];exact am.out
    clear aJ aU;go_wp2;go_roundw
    case rel=>exact ⟨k+1,by omega,by go_num,aQ,ar,aM⟩
    case measure=>simp [zI];omega
   ·obtain rfl:k=m2:=by omega
    obtain ⟨⟨y0,y1⟩,⟨z0,z1⟩⟩:=HC.out wr (ZZb _ _);have r3:=(ag.out.block (w.heap.size+1+1) (by omega)).trans aG;have q0:wr.cell? ⟨w.heap.size+1+1,0,none⟩=some (.slice none 0 0):=by rw [cell_of_row _ _ 0 _ _ (0,0) r3];rfl
    have aO:wr.cell? ⟨w.heap.size+1+1,1,none⟩=some (.slice none 0 0):=by rw [cell_of_row _ _ 1 _ _ (0,0) r3];rfl
    have f0:=fzR 0 r3;have f1:=fzR 1 r3;have aF:=Qaa (Qac aq ag);clear r3;go_wp2;refine bodyPost_ret (v:=.agg #[.slice none 0 0,.slice (some ⟨g2,0,none⟩) 64 64]) (by simp [results,Tryz.results142,go_sem,q0,aO]) rfl (MgOut.mk aP ⟨_,_,rfl,World.ownsRow_nil _ _ _ _,?_⟩ ?_)
    ·refine QaE (B:=w1.heap.size+1) ?_ (by omega)
     repeat (refine ownsRow_setCell_below ?_ (by simp;omega) _)
     rw [ah.out.1];exact ah.out.2
    ·exact (aF.out.setCell (by simp;omega) _).setCell (by simp;omega) _
theorem Qmn {w:World} {ea ra eb rb:Option Addr} {n1 c1 m1 d1 n2 c2 m2 d2:Nat} {E1 R1 E2 R2:List Int} (q1:hlB E1 R1=true) (q2:hlB E2 R2=true) (h1:E1.length=n1) (h2:R1.length=m1) (h3:E2.length=n2) (h4:R2.length=m2) (c1e:ea=none->c1=0)
  (hE1:Qaq .u64 w ea E1) (hR1:Qaq .i64 w ra R1) (hE2:Qaq .u64 w eb E2) (hR2:Qaq .i64 w rb R2) (u1:∀ x∈E1,U64 x) (u2:∀ x∈E2,U64 x) :
  Calls Tryz.prog 142 #[.agg #[.slice ea n1 c1,.slice ra m1 d1],.agg #[.slice eb n2 c2,.slice rb m2 d2]] w fun e w'=>MgOut w E1 R1 E2 R2 e w':=by
 obtain ⟨a1,a2⟩:=Qdk q1;obtain ⟨b1,b2⟩:=Qdk q2;rw [h1] at a1;rw [h2] at a2;rw [h3] at b1;rw [h4] at b2;by_cases h:m1=0/\m2=0
 ·obtain ⟨rfl,rfl⟩:=h
  obtain rfl:=List.eq_nil_of_length_eq_zero h2;obtain rfl:=List.eq_nil_of_length_eq_zero h4
  have hu:upN E1=true:=by
   rcases Qg5 q1 with ⟨_,k⟩ | ⟨k,_⟩
   ·exact k
   ·simp at k
  exact Ql6 h1 h3 a1 b1 hu c1e hE1 hE2 u1 u2
 ·exact Qmf h1 h2 h3 h4 a1 a2 b1 b2 h hE1 hR1 hE2 hR2 u1 u2
end Go.Proofs.YtandnmpllheniaaGreatDoor
