/-
 The model's sketch of how many: l04Merge.
-/
import Derived.Test.YthchmdmncmioiaaGreatDoorRJN
namespace Go.Proofs.YthchmdmncmioiaaGreatDoor
set_option linter.unusedVariables false
set_option linter.unusedSimpArgs false
open Go.ChangeShapes Go.WideShapes Go.ChangeAt Go.RowKit Go.PlainAid Go.Maps
set_option maxRecDepth 10000
theorem all_rise {E1:List Int} (h:upN E1=true) (E2:List Int):allU E1 E2=uniU E1 E2:=by
 unfold allU;rw [uni_rise (l:=[]) (by simpa using upN_pair h)];rfl
theorem mem_allU (x:Int) (E1 E2:List Int):x∈allU E1 E2↔x∈E1∨x∈E2:=by
 unfold allU;rw [mem_uniU,mem_uniU];simp
theorem pad_full {R:List Int} (h:R.length=64):padR R=R:=by unfold padR;rw [if_neg (by omega)]
def MgOut (w:World) (E1 R1 E2 R2:List Int) (e:Ending) (w':World):Prop:=∃ v E R,e=.returned v∧Mg E1 R1 E2 R2 E R∧HlOut w' w.heap.size v E R∧Below w.heap.size w w'
end Go.Proofs.YthchmdmncmioiaaGreatDoor
namespace Go.Proofs.YthchmdmncmioiaaGreatDoor
set_option linter.unusedVariables false
set_option linter.unusedSimpArgs false
set_option maxRecDepth 10000
def zer:List Int:=List.replicate 64 0
theorem zrr_len:zer.length=64:=by simp [zer]
theorem zer_get (i:Nat):zer.getD i 0=0:=by
 unfold zer;rw [List.getD_eq_getElem?_getD,List.getElem?_replicate];split <;> rfl
def mxx (A B:List Int):List Int:=mxL A B 64
theorem mx_len (A B:List Int):(mxx A B).length=A.length:=mxL_len _ _ _
theorem mx_get {A B:List Int} (hA:A.length=64) (i:Nat) (hi:i<64):(mxx A B).getD i 0=max (A.getD i 0) (B.getD i 0):=by
 unfold mxx;rw [mxL_get A B 64 i (by omega),if_pos hi]
theorem reg_ext {A B:List Int} (hA:A.length=64) (hB:B.length=64) (h:∀ i,i<64→A.getD i 0=B.getD i 0):A=B:=by
 apply List.ext_getElem (by omega);intro i h1 h2;have:=h i (by omega);rw [List.getD_eq_getElem?_getD,List.getD_eq_getElem?_getD,List.getElem?_eq_getElem h1,List.getElem?_eq_getElem h2] at this;exact this
def RegOk (B:List Int):Prop:=B.length=64∧∀ i,i<64→0≤B.getD i 0∧B.getD i 0≤55
theorem zer_ok:RegOk zer:=⟨zrr_len,fun i _=>by rw [zer_get];omega⟩
theorem mx_ok {A B:List Int} (a:RegOk A) (b:RegOk B):RegOk (mxx A B):=⟨by rw [mx_len];exact a.1,fun i hi=>by
 rw [mx_get a.1 i hi];have:=a.2 i hi;have:=b.2 i hi;omega⟩
theorem mx_comm {A B:List Int} (a:RegOk A) (b:RegOk B):mxx A B=mxx B A:=
 reg_ext (by rw [mx_len];exact a.1) (by rw [mx_len];exact b.1) fun i hi=>by rw [mx_get a.1 i hi,mx_get b.1 i hi];omega
theorem mx_zer {A:List Int} (a:RegOk A):mxx A zer=A:=
 reg_ext (by rw [mx_len];exact a.1) a.1 fun i hi=>by rw [mx_get a.1 i hi,zer_get];have:=a.2 i hi;omega
theorem mx_assoc {A B C:List Int} (a:RegOk A) (b:RegOk B) (c:RegOk C):mxx (mxx A B) C=mxx A (mxx B C):=
 reg_ext (by rw [mx_len,mx_len];exact a.1) (by rw [mx_len];exact a.1) fun i hi=>by rw [mx_get (mx_ok a b).1 i hi,mx_get a.1 i hi,mx_get a.1 i hi,mx_get b.1 i hi];omega
theorem Laid.ok {B R:List Int} {S:Int→Prop} (b:RegOk B) (h:Laid B S R):RegOk R:=⟨by rw [h.1];exact b.1,fun i hi=>by
 obtain ⟨h1,h2,h3⟩:=h.2 i (by rw [b.1];exact hi);have:=b.2 i hi;rcases h3 with h3 | ⟨x,_,_,h3⟩
 ·omega
 ·have:=rho_rng x;omega⟩
theorem Laid.two {A A' B B':List Int} {S T U:Int→Prop} (a:RegOk A) (b:RegOk B) (h:Laid A S A') (g:Laid B T B') (hU:∀ x,U x↔S x∨T x):Laid (mxx A B) U (mxx A' B'):=by
 have a':=h.ok a;have b':=g.ok b;refine ⟨by rw [mx_len,mx_len,a.1,a'.1],fun i hi=>?_⟩;have hi:i<64:=by rw [mx_len,a.1] at hi;exact hi
 obtain ⟨h1,h2,h3⟩:=h.2 i (by rw [a.1];exact hi);obtain ⟨g1,g2,g3⟩:=g.2 i (by rw [b.1];exact hi);rw [mx_get a.1 i hi,mx_get a'.1 i hi];refine ⟨by omega,fun x hx hr=>?_,?_⟩
 ·rcases (hU x).1 hx with hx | hx
  ·have:=h2 x hx hr;omega
  ·have:=g2 x hx hr;omega
 ·by_cases q:B'.getD i 0≤A'.getD i 0
  ·rcases h3 with h3 | ⟨x,hx,hr,h3⟩
   ·exact .inl (by omega)
   ·exact .inr ⟨x,(hU x).2 (.inl hx),hr,by omega⟩
  ·rcases g3 with g3 | ⟨x,hx,hr,g3⟩
   ·exact .inl (by omega)
   ·exact .inr ⟨x,(hU x).2 (.inr hx),hr,by omega⟩
structure Can (g:Prop) (U B E R:List Int):Prop where
 rise:U.Pairwise (· < ·)
 okB:RegOk B
 no:¬ g→B=zer
 few:¬ g→U.length≤40→E=U∧R=[]
 many:g∨40<U.length→E=[]∧Laid B (·∈U) R
theorem Can.one {g g':Prop} {U B E R U' B' E' R':List Int} (h:Can g U B E R) (k:Can g' U' B' E' R') (hg:g↔g') (hU:∀ x,x∈U↔x∈U') (hB:B=B'):E=E'∧R=R':=by
 obtain rfl:=rise_ext U U' h.rise k.rise hU;subst hB;by_cases q:g∨40<U.length
 ·obtain ⟨a,b⟩:=h.many q
  obtain ⟨a',b'⟩:=k.many (q.imp hg.1 id);exact ⟨a.trans a'.symm,b.same b' fun _=>Iff.rfl⟩
 ·have q1:¬ g:=fun x=>q (.inl x)
  have q2:U.length≤40:=by omega
  obtain ⟨a,b⟩:=h.few q1 q2;obtain ⟨a',b'⟩:=k.few (fun x=>q1 (hg.2 x)) q2;exact ⟨a.trans a'.symm,b.trans b'.symm⟩
theorem up_of_pair:∀ {L:List Int},L.Pairwise (· < ·)→upN L=true
 | [],_=>rfl
 | [x],_=>rfl
 | x :: y :: r,h=>by
  have a:=List.pairwise_cons.1 h;simp only [upN,Bool.and_eq_true,decide_eq_true_eq];exact ⟨a.1 y (by simp),up_of_pair a.2⟩
theorem regB_ok {R:List Int} (h:regB R=true):RegOk R:=by
 unfold regB at h;simp only [Bool.and_eq_true,decide_eq_true_eq] at h;refine ⟨h.1,fun i hi=>?_⟩;have hi':i<R.length:=by omega
 have:=List.all_eq_true.1 h.2 (R[i]) (List.getElem_mem hi');rw [List.getD_eq_getElem?_getD,List.getElem?_eq_getElem hi']
 simpa [inR] using this
theorem ok_regB {R:List Int} (h:RegOk R):regB R=true:=by
 unfold regB;simp only [Bool.and_eq_true,decide_eq_true_eq];refine ⟨h.1,List.all_eq_true.2 fun x hx=>?_⟩;obtain ⟨i,hi,rfl⟩:=List.getElem_of_mem hx;have:=h.2 i (by rw [← h.1];exact hi);rw [List.getD_eq_getElem?_getD,List.getElem?_eq_getElem hi] at this
 simpa [inR] using this
theorem Can.self {E R:List Int} (h:hlB E R=true):Can (R.length≠0) E (padR R) E R:=by
 rcases hlB_parts h with ⟨rfl,hu⟩ | ⟨h64,rfl⟩
 ·refine ⟨upN_pair hu,?_,fun _=>rfl,fun _ _=>⟨rfl,rfl⟩,fun q=>?_⟩
  ·exact zer_ok
  ·rcases q with q | q
   ·exact absurd rfl q
   ·have:=(hlB_len h).1;omega
 ·have hp:padR R=R:=pad_full h64
  have hr:regB R=true:=by
   unfold hlB at h;rw [if_neg (by omega)] at h;simp only [Bool.and_eq_true] at h;exact h.2
  refine ⟨List.Pairwise.nil,by rw [hp];exact regB_ok hr,fun q=>absurd (by omega) q,fun q=>absurd (by omega) q,fun _=>⟨rfl,?_⟩⟩;rw [hp];exact Laid.start R (fun x hx=>by simp at hx)
theorem Can.right {g:Prop} {U B E R:List Int} (h:Can g U B E R):hlB E R=true:=by
 by_cases q:g∨40<U.length
 ·obtain ⟨rfl,b⟩:=h.many q
  have ok:=b.ok h.okB;unfold hlB;rw [if_neg (by rw [ok.1];omega),ok_regB ok];rfl
 ·have q2:U.length≤40:=by omega
  obtain ⟨rfl,rfl⟩:=h.few (fun x=>q (.inl x)) q2;unfold hlB exB;rw [if_pos (by rfl:([]:List Int).length=0),up_of_pair h.rise]
  simpa using q2
theorem Can.part {g:Prop} {U B E R:List Int} (h:Can g U B E R):∃ S:Int→Prop,Laid B S (padR R)∧∀ x,x∈U↔S x∨x∈E:=by
 by_cases q:g∨40<U.length
 ·obtain ⟨rfl,b⟩:=h.many q
  exact ⟨(·∈U),by rw [pad_full (b.ok h.okB).1];exact b,fun x=>by simp⟩
 ·have q2:U.length≤40:=by omega
  obtain ⟨rfl,rfl⟩:=h.few (fun x=>q (.inl x)) q2;refine ⟨fun _=>False,?_,fun x=>by simp⟩;rw [h.no (fun x=>q (.inl x))];exact Laid.start zer (fun _ x=>x)
theorem len_le_uni {l m:List Int} (hl:l.Pairwise (· < ·)):∀ {k:List Int},k.Pairwise (· < ·)→(∀ x,x∈l→x∈k)→l.length≤k.length:=by
 intro k hk hs;have n:l.Nodup:=hl.imp fun h e=>by omega
 exact n.length_le_of_subset hs
theorem mxL_pad {A R:List Int} (a:RegOk A) (hR:R.length=0∨R.length=64):mxL A R R.length=mxx A (padR R):=by
 rcases hR with h | h
 ·obtain rfl:=List.eq_nil_of_length_eq_zero h
  rw [List.length_nil,mxL_zero];exact (mx_zer a).symm
 ·rw [h,pad_full h];rfl
theorem mg_can {g1 g2:Prop} {U1 B1 E1 R1 U2 B2 E2 R2 E R:List Int} (h1:Can g1 U1 B1 E1 R1) (h2:Can g2 U2 B2 E2 R2) (hM:Mg E1 R1 E2 R2 E R):Can (g1∨g2) (uniU U1 U2) (mxx B1 B2) E R:=by
 have rise:=rise_uniU U2 U1 h1.rise;have hu1:U1.length≤(uniU U1 U2).length:=len_le_uni (m:=[]) h1.rise rise fun x hx=>(mem_uniU x U2 U1).2 (.inl hx);have hu2:U2.length≤(uniU U1 U2).length:=len_le_uni (m:=[]) h2.rise rise fun x hx=>(mem_uniU x U2 U1).2 (.inr hx);have hr1:g1∨40<U1.length→R1.length=64:=fun q=>by obtain ⟨_,b⟩:=h1.many q;exact (b.ok h1.okB).1
 have hr2:g2∨40<U2.length→R2.length=64:=fun q=>by obtain ⟨_,b⟩:=h2.many q;exact (b.ok h2.okB).1
 refine ⟨rise,mx_ok h1.okB h2.okB,fun q=>?_,fun q1 q2=>?_,fun q=>?_⟩
 ·rw [h1.no (fun x=>q (.inl x)),h2.no (fun x=>q (.inr x))];exact mx_zer zer_ok
 ·obtain ⟨rfl,rfl⟩:=h1.few (fun x=>q1 (.inl x)) (by omega)
  obtain ⟨rfl,rfl⟩:=h2.few (fun x=>q1 (.inr x)) (by omega);have e:allU E1 E2=uniU E1 E2:=all_rise (up_of_pair h1.rise) E2;rcases hM with ⟨_,_,_,a,b⟩ | ⟨a,_⟩
  ·exact ⟨a.trans e,b⟩
  ·exact absurd ⟨rfl,rfl,by rw [e];exact q2⟩ a
 ·rcases hM with ⟨a,b,c,_,_⟩ | ⟨a,rfl,c⟩
  ·have n1:¬ (g1∨40<U1.length):=fun q=>by have:=hr1 q;omega
   have n2:¬ (g2∨40<U2.length):=fun q=>by have:=hr2 q;omega
   obtain ⟨rfl,rfl⟩:=h1.few (fun x=>n1 (.inl x)) (by omega);obtain ⟨rfl,rfl⟩:=h2.few (fun x=>n2 (.inl x)) (by omega);rw [all_rise (up_of_pair h1.rise) E2] at c;rcases q with (q | q) | q
   ·exact absurd (.inl q) n1
   ·exact absurd (.inl q) n2
   ·omega
  ·obtain ⟨S1,l1,s1⟩:=h1.part
   obtain ⟨S2,l2,s2⟩:=h2.part;refine ⟨rfl,?_⟩;have hR2:R2.length=0∨R2.length=64:=(hlB_len h2.right).2;rw [mxL_pad (l1.ok h1.okB) hR2] at c;refine (Laid.two h1.okB h2.okB l1 l2 (fun x=>Iff.rfl)).trans c (fun x=>?_);rw [mem_uniU,mem_allU,s1 x,s2 x];constructor
   ·rintro ((h | h) | (h | h)) <;> simp [h]
   ·rintro ((h | h) | (h | h)) <;> simp [h]
theorem Can.hash (x:Int):Can False [x] zer [x] []:=⟨by simp,zer_ok,fun _=>rfl,fun _ _=>⟨rfl,rfl⟩,fun q=>by rcases q with q | q;exact q.elim;simp at q⟩
theorem mrg_can {g1 g2:Prop} {U1 B1 E1 R1 U2 B2 E2 R2 E R:List Int} (h1:Can g1 U1 B1 E1 R1) (h2:Can g2 U2 B2 E2 R2) (hM:MrgH E1 R1 E2 R2 E R):Can (g1∨g2) (uniU U1 U2) (mxx B1 B2) E R:=by
 unfold MrgH at hM;rw [if_pos ⟨h1.right,h2.right⟩] at hM;exact mg_can h1 h2 hM
theorem Can.sub {g:Prop} {U B E R:List Int} (h:Can g U B E R):∀ x∈E,x∈U:=fun x hx=>by
 by_cases q:g∨40<U.length
 ·obtain ⟨rfl,_⟩:=h.many q;simp at hx
 ·obtain ⟨rfl,_⟩:=h.few (fun x=>q (.inl x)) (by omega);exact hx
theorem mrg_same {E1 R1 E2 R2 A S C T:List Int} (p:MrgH E1 R1 E2 R2 A S) (q:MrgH E2 R2 E1 R1 C T):A=C∧S=T:=by
 by_cases hb:hlB E1 R1=true∧hlB E2 R2=true
 ·have c1:=Can.self hb.1
  have c2:=Can.self hb.2;refine (mrg_can c1 c2 p).one (mrg_can c2 c1 q) or_comm (fun z=>?_) (mx_comm c1.okB c2.okB);rw [mem_uniU,mem_uniU];exact or_comm
 ·unfold MrgH at p q
  rw [if_neg hb] at p;rw [if_neg (fun h=>hb h.symm)] at q;exact ⟨p.1.trans q.1.symm,p.2.trans q.2.symm⟩
theorem mrg_right {E R F S A T:List Int} (h:hlB E R=true) (k:hlB F S=true) (p:MrgH E R F S A T):hlB A T=true:=(mrg_can (Can.self h) (Can.self k) p).right
theorem mrg_u64 {E R F S A T:List Int} (u:∀ y∈E,U64 y) (v:∀ y∈F,U64 y) (p:MrgH E R F S A T):∀ y∈A,U64 y:=by
 by_cases hb:hlB E R=true∧hlB F S=true
 ·intro y hy
  have:=(mrg_can (Can.self hb.1) (Can.self hb.2) p).sub y hy;rw [mem_uniU] at this;exact this.elim (u y) (v y)
 ·unfold MrgH at p
  rw [if_neg hb] at p;rw [p.1];intro y hy;simp at hy
open Go.ChangeAt Go.ChangeShapes Go.Maps Go.PlainAid Go.RowKit Go.WideShapes
end Go.Proofs.YthchmdmncmioiaaGreatDoor
