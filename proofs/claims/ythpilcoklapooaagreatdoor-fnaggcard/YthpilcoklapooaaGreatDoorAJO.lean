/-
 The model's sketch of how many: l04Merge.
-/
import Derived.Test.YthpilcoklapooaaGreatDoorAJN
namespace Go.Proofs.YthpilcoklapooaaGreatDoor
set_option linter.unusedVariables false
set_option linter.unusedSimpArgs false
open Go.ChangeShapes Go.WideShapes Go.ChangeAt Go.RowKit Go.PlainAid Go.Maps
set_option maxRecDepth 10000
theorem all_rise {E1:List Int} (h:upN E1=true) (E2:List Int):allU E1 E2=uniU E1 E2:=by
 unfold allU
 rw [uni_rise (l:=[]) (by simpa using upN_pair h)];rfl
theorem mem_allU (x:Int) (E1 E2:List Int):x∈allU E1 E2↔x∈E1∨x∈E2:=by
 unfold allU;rw [mem_uniU,mem_uniU];simp
theorem pad_full {R:List Int} (h:R.length=64):padR R=R:=by unfold padR;rw [if_neg (by omega)]
theorem mrg_reg {E1 R1 E2 R2 A B:List Int} {m2:Nat} (hm:R2.length=m2) (hno:¬ (R1.length=0∧R2.length=0)) (h64:(padR R1).length=64) (hA:Laid (padR R1) (·∈E1) A) (hB:Laid (padR A) (·∈E2) B):Mg E1 R1 E2 R2 [] (mxL B R2 m2):=by
 refine .inr ⟨fun k=>hno ⟨k.1,k.2.1⟩,rfl,?_⟩
 rw [pad_full (hA.1.trans h64)] at hB
 rw [hm]
 exact (hA.trans hB (fun x=>mem_allU x E1 E2)).mx m2
theorem mrg_many {E1 E2 A:List Int} (hu:upN E1=true) (h40:¬ (uniU E1 E2).length≤40) (h:Laid (padR []) (·∈uniU E1 E2) A):Mg E1 [] E2 [] [] A:=by
 refine .inr ⟨fun k=>h40 (by rw [← all_rise hu];exact k.2.2),rfl,?_⟩
 rw [List.length_nil,mxL_zero,all_rise hu];exact h
theorem mrg_few {E1 E2:List Int} (hu:upN E1=true) (h40:(uniU E1 E2).length≤40):Mg E1 [] E2 [] (uniU E1 E2) []:=
 .inl ⟨rfl,rfl,by rw [all_rise hu];exact h40,(all_rise hu E2).symm,rfl⟩
/-- What a bringing together hands back. -/
def MgOut (w:World) (E1 R1 E2 R2:List Int) (e:Ending) (w':World):Prop:=∃ v E R,e=.returned v∧Mg E1 R1 E2 R2 E R∧HlOut w' w.heap.size v E R∧Below w.heap.size w w'
theorem MgOut.mk {w w':World} {E1 R1 E2 R2 E R:List Int} {v:Value} (h:Mg E1 R1 E2 R2 E R) (o:HlOut w' w.heap.size v E R) (b:Below w.heap.size w w'):MgOut w E1 R1 E2 R2 (.returned v) w':=⟨v,E,R,rfl,h,o,b⟩
set_option maxHeartbeats 4000000 in
theorem c_s_MergeE {w:World} {ea ra eb rb:Option Addr} {n1 c1 d1 n2 c2 d2:Nat} {E1 E2:List Int} (h1:E1.length=n1) (h3:E2.length=n2) (l1:n1≤40) (l3:n2≤40) (hup:upN E1=true) (c1e:ea=none→c1=0)
  (hE1:NumsAt .u64 w ea E1) (hE2:NumsAt .u64 w eb E2) (u1:∀ x∈E1,U64 x) (u2:∀ x∈E2,U64 x) :
  Calls Tryz.prog 141 #[.agg #[.slice ea n1 c1,.slice ra 0 d1],.agg #[.slice eb n2 c2,.slice rb 0 d2]] w fun e w'=>MgOut w E1 [] E2 [] e w':=by
 obtain ⟨i0,hi,hz0,hz1,hz2⟩:=info_parts infoUint64S
 have HE1:=hide hE1
 have HE2:=hide hE2
 have H1:=hide h1
 have H3:=hide h3
 have U1:=hide u1
 have U2:=hide u2
 have C1:=hide c1e
 have HUp:=hide hup
 have HBa:Hid (∀ o1 o2 o3,Below w.heap.size w (((w.alloc o1).alloc o2).alloc o3)):=fun o1 o2 o3=>(((Below.refl _ _).alloc (Nat.le_refl _) _).alloc (by simp) _).alloc (by simp;omega) _
 have HM:Hid (∀ o1 o2 o3,((((w.alloc o1).alloc o2).alloc o3).alloc (.cells #[] 23)).ownsRow (w.heap.size+1+1+1) 23 1 (.slice (some ⟨w.heap.size+1+1+1,0,none⟩) 0 0) 0 []):=fun o1 o2 o3=>by
  have:=World.ownsRow_made (base:=w.heap.size+1+1+1) (e:=23) (size:=1) (((w.alloc o1).alloc o2).alloc o3) #[] 0 (by simp) (Nat.zero_le _) rfl
  simpa using this
 have HC:Hid (∀ W,Below (w.heap.size+1+1+1) (((w.alloc (.cells #[.slice ea n1 c1,.slice ra 0 d1] 32)).alloc (.cells #[.slice eb n2 c2,.slice rb 0 d2] 32)).alloc (.cells #[.slice none 0 0,.slice none 0 0] 32)) W→HlCell W w.heap.size (.slice ea n1 c1) (.slice ra 0 d1)∧HlCell W (w.heap.size+1) (.slice eb n2 c2) (.slice rb 0 d2)∧W.heap[w.heap.size+1+1]?=some (.cells #[.slice none 0 0,.slice none 0 0] 32 (0,0))∧Below w.heap.size w W):=fun W h=>by
  obtain ⟨q1,q2,q3⟩:=mid_cell w _ _ _ _ _ _ _ _ _ W (by simpa using h)
  exact ⟨q1,q2,q3,(HBa.out _ _ _).trans (h.mono (by omega))⟩
 clear hE1 hE2 h1 h3 u1 u2 c1e hup
 go_enter Tryz.func141,Tryz.ntmps141
 go_wp2_with (at_builtin;refine wpList_append_nilH _ rfl (.tmp 19) (.tmp 21) 29 rfl (w.heap.size+1+1+1) 23 i0 (.int .u64 0) 1 8 Tryz.underlying29 hi hz0 hz1 hz2 rfl (by decide) _ _ _ rfl (HM.out _ _ _) ea n1 c1 (E1.map (Value.int .u64)) rfl (by simp [H1.out]) (fun e=>⟨nil_len HE1.out H1.out e,C1.out e⟩) (nums_nw (nums_past HE1.out ((HBa.out _ _ _).alloc (by simp;omega) _))) (one_map _ _) (by unfold maxLen;omega) (by omega) (by simp) ?_;intro v1 w1 hown1 hgrow1 hnil1;simp only [Nat.zero_add,List.nil_append] at hown1;obtain ⟨ao1,k1,rfl⟩:=own_any hown1;have O1:=hide hown1;have hb1:Below (w.heap.size+1+1+1) (((w.alloc (.cells #[.slice ea n1 c1,.slice ra 0 d1] 32)).alloc (.cells #[.slice eb n2 c2,.slice rb 0 d2] 32)).alloc (.cells #[.slice none 0 0,.slice none 0 0] 32)) w1:=((Below.refl _ _).alloc (by simp) _).grown hgrow1 (by simp) (fun j hj=>by cases hj;exact Nat.le_refl _);have B1:=hide hb1;clear hown1 hgrow1 hnil1 hb1)
 go_loopw [5,6] (fun lv i wr=>∃ (k:Nat) (ao:Option Addr) (n c:Nat),k≤n2∧i=.int .i64 k∧lv=.slice ao n c∧n≤80∧Hid ((uniU E1 (E2.take k)).length=n)∧Hid (wr.ownsRow (w.heap.size+1+1+1) 23 1 (.slice ao n c) n ((uniU E1 (E2.take k)).map (Value.int .u64)))∧Hid (Below (w.heap.size+1+1+1) (((w.alloc (.cells #[.slice ea n1 c1,.slice ra 0 d1] 32)).alloc (.cells #[.slice eb n2 c2,.slice rb 0 d2] 32)).alloc (.cells #[.slice none 0 0,.slice none 0 0] 32)) wr)) (fun lv i wr=>n2 - (Go.RowKit.intOf i).toNat)
 case atStart=>exact ⟨0,ao1,n1,k1,Nat.zero_le _,rfl,rfl,by omega,H1,O1,B1⟩
 case round=>
  clear O1 B1
  obtain ⟨k,ao,n,c,hk,rfl,rfl,hn80,HL,HO,HBl⟩:=hrel
  obtain ⟨⟨x0,x1⟩,⟨y0,y1⟩,r1,t1⟩:=HC.out wr HBl.out
  have HT:=hide t1
  have HRs:=hide r1
  have hz:w.heap.size+1+1+1≤wr.heap.size:=by have:=HBl.out.size;simpa using this
  clear t1 r1
  by_cases hkn:k<n2
  ·obtain ⟨b,off,e,hcell⟩:=HE2.out (by have:=H3.out;omega)
   subst e
   obtain ⟨y,hy⟩:∃ y,E2[k]?=some y:=⟨E2[k]'(by have:=H3.out;omega),List.getElem?_eq_getElem _⟩
   have hc0:=cell_past HT.out (hcell k y hy)
   have HS:Hid (uniU E1 (E2.take (k+1))=insU (uniU E1 (E2.take k)) y):=uni_take hy
   have HOw:=hide (nums_own (L:=uniU E1 (E2.take k)) (by rw [HL.out];exact HO.out))
   have HLl:Hid ((uniU E1 (E2.take (k+1))).length≤80):=by
    have:=len_uni (E2.take (k+1)) E1
    have:=H1.out
    have:(E2.take (k+1)).length≤40:=by rw [List.length_take];omega
    show (uniU E1 (E2.take (k+1))).length≤80
    omega
   clear hcell hy
   go_wp2_with (go_at_call 174;refine (c_s_Exact y HL.out (by omega) HOw.out.2.2.2.1 HOw.out.2.2.2.2.1 HOw.out.2.1 HOw.out.2.2.2.2.2 HOw.out.1).mono ?_;rintro e w4 ⟨v4,rfl,o4,hb4⟩;rw [← HS.out] at o4;obtain ⟨a4,c4,rfl⟩:=own_any o4;have O4:=hide (own_le o4 hz);have B4:=hide (HBl.out.trans (hb4.mono hz));clear o4 hb4)
   go_roundw
   case rel=>exact ⟨k+1,a4,_,c4,by omega,by go_num,rfl,HLl.out,hide rfl,O4,B4⟩
   case measure=>simp [Go.RowKit.intOf];omega
  ·have eL:E2.take k=E2:=List.take_of_length_le (by have:=H3.out;omega)
   rw [eL] at HL HO
   obtain rfl:k=n2:=by omega
   clear eL hkn hk
   have q0:wr.cell? ⟨w.heap.size+1+1,0,none⟩=some (.slice none 0 0):=by rw [cell_of_row _ _ 0 _ _ (0,0) HRs.out];rfl
   have q1':wr.cell? ⟨w.heap.size+1+1,1,none⟩=some (.slice none 0 0):=by rw [cell_of_row _ _ 1 _ _ (0,0) HRs.out];rfl
   have f0:=fzR 0 HRs.out
   have f1:=fzR 1 HRs.out
   by_cases h40:n≤40
   ·have h40i:¬ (40:Int)<(n:Int):=by omega
    have HMg:Hid (Mg E1 [] E2 [] (uniU E1 E2) []):=mrg_few HUp.out (by rw [HL.out];exact h40)
    go_wp2
    refine bodyPost_ret (v:=.agg #[.slice ao n c,.slice none 0 0]) (by simp [results,Tryz.results141,go_sem,q0,q1']) rfl (MgOut.mk HMg.out ⟨_,_,rfl,?_,World.ownsRow_nil _ _ _ _⟩ ?_)
    ·refine own_le (B:=w.heap.size+1+1+1) ?_ (by omega)
     repeat (refine ownsRow_setCell_below ?_ (by simp) _)
     rw [HL.out];exact HO.out
    ·exact (HT.out.setCell (by simp;omega) _).setCell (by simp;omega) _
   ·have h40i:(40:Int)<(n:Int):=by omega
    have HMs:Hid (∀ A,Laid (padR []) (·∈uniU E1 E2) A→Mg E1 [] E2 [] [] A):=fun A h=>mrg_many HUp.out (by rw [HL.out];exact h40) h
    have HUi:Hid (∀ y∈uniU E1 E2,U64 y):=fun y hy=>by
     rcases (mem_uniU y E2 E1).1 hy with h | h
     ·exact U1.out y h
     ·exact U2.out y h
    have HNa:=(nums_own (L:=uniU E1 E2) (T:=23) (kd:=.u64) (w:=wr) (ao:=ao) (n:=n) (c:=c) (B:=w.heap.size+1+1+1) (by rw [HL.out];exact HO.out)).1
    have HNa:=hide HNa
    clear q0 q1' f0 f1
    go_wp2_with fail
    refine (c_s_Dense (R:=[]) rfl HL.out (.inl rfl) (by omega) (fun h=>by simp at h) HNa.out HUi.out).mono ?_
    rintro e w2 ⟨g,A,rfl,hLd,hRow,hb2⟩
    have r2:=(hb2.block (w.heap.size+1+1) (by omega)).trans HRs.out
    have q0:w2.cell? ⟨w.heap.size+1+1,0,none⟩=some (.slice none 0 0):=by rw [cell_of_row _ _ 0 _ _ (0,0) r2];rfl
    have q1':w2.cell? ⟨w.heap.size+1+1,1,none⟩=some (.slice none 0 0):=by rw [cell_of_row _ _ 1 _ _ (0,0) r2];rfl
    have f0:=fzR 0 r2
    have f1:=fzR 1 r2
    have HMg:=hide (HMs.out A hLd)
    have HT2:=hide (chain HT.out hb2)
    have HRow:=hide hRow
    clear hLd hRow hb2 r2
    go_wp2
    refine bodyPost_ret (v:=.agg #[.slice none 0 0,.slice (some ⟨g,0,none⟩) 64 64]) (by simp [results,Tryz.results141,go_sem,q0,q1']) rfl (MgOut.mk HMg.out ⟨_,_,rfl,World.ownsRow_nil _ _ _ _,?_⟩ ?_)
    ·refine own_le (B:=wr.heap.size) ?_ (by omega)
     repeat (refine ownsRow_setCell_below ?_ (by simp;omega) _)
     rw [HRow.out.1];exact HRow.out.2
    ·exact (HT2.out.setCell (by simp;omega) _).setCell (by simp;omega) _
end Go.Proofs.YthpilcoklapooaaGreatDoor
/-
 What sketches of how many come to, however they are brought together: the pure side. A sketch stands for whether it has registers, for its hashes in order, and for the registers that they are laid over.
-/
namespace Go.Proofs.YthpilcoklapooaaGreatDoor
set_option linter.unusedVariables false
set_option linter.unusedSimpArgs false
set_option maxRecDepth 10000
/-- Registers of nothing. -/
def zer:List Int:=List.replicate 64 0
theorem zrr_len:zer.length=64:=by simp [zer]
theorem zer_get (i:Nat):zer.getD i 0=0:=by
 unfold zer
 rw [List.getD_eq_getElem?_getD,List.getElem?_replicate];split <;> rfl
/-- The greater of each two. -/
def mxx (A B:List Int):List Int:=mxL A B 64
theorem mx_len (A B:List Int):(mxx A B).length=A.length:=mxL_len _ _ _
theorem mx_get {A B:List Int} (hA:A.length=64) (i:Nat) (hi:i<64):(mxx A B).getD i 0=max (A.getD i 0) (B.getD i 0):=by
 unfold mxx;rw [mxL_get A B 64 i (by omega),if_pos hi]
theorem reg_ext {A B:List Int} (hA:A.length=64) (hB:B.length=64) (h:∀ i,i<64→A.getD i 0=B.getD i 0):A=B:=by
 apply List.ext_getElem (by omega)
 intro i h1 h2
 have:=h i (by omega)
 rw [List.getD_eq_getElem?_getD,List.getD_eq_getElem?_getD,List.getElem?_eq_getElem h1,List.getElem?_eq_getElem h2] at this
 exact this
/-- Sixty-four registers, none below nought, none above 55. -/
def RegOk (B:List Int):Prop:=B.length=64∧∀ i,i<64→0≤B.getD i 0∧B.getD i 0≤55
theorem zer_ok:RegOk zer:=⟨zrr_len,fun i _=>by rw [zer_get];omega⟩
theorem mx_ok {A B:List Int} (a:RegOk A) (b:RegOk B):RegOk (mxx A B):=⟨by rw [mx_len];exact a.1,fun i hi=>by
 rw [mx_get a.1 i hi];have:=a.2 i hi;have:=b.2 i hi;omega⟩
theorem mx_comm {A B:List Int} (a:RegOk A) (b:RegOk B):mxx A B=mxx B A:=
 reg_ext (by rw [mx_len];exact a.1) (by rw [mx_len];exact b.1) fun i hi=>by rw [mx_get a.1 i hi,mx_get b.1 i hi];omega
theorem mx_zer {A:List Int} (a:RegOk A):mxx A zer=A:=
 reg_ext (by rw [mx_len];exact a.1) a.1 fun i hi=>by rw [mx_get a.1 i hi,zer_get];have:=a.2 i hi;omega
theorem mx_assoc {A B C:List Int} (a:RegOk A) (b:RegOk B) (c:RegOk C):mxx (mxx A B) C=mxx A (mxx B C):=
 reg_ext (by rw [mx_len,mx_len];exact a.1) (by rw [mx_len];exact a.1) fun i hi=>by rw [mx_get (mx_ok a b).1 i hi,mx_get a.1 i hi,mx_get a.1 i hi,mx_get b.1 i hi];omega
theorem Laid.ok {B R:List Int} {S:Int→Prop} (b:RegOk B) (h:Laid B S R):RegOk R:=⟨by rw [h.1];exact b.1,fun i hi=>by
 obtain ⟨h1,h2,h3⟩:=h.2 i (by rw [b.1];exact hi)
 have:=b.2 i hi
 rcases h3 with h3 | ⟨x,_,_,h3⟩
 ·omega
 ·have:=rho_rng x;omega⟩
theorem Laid.two {A A' B B':List Int} {S T U:Int→Prop} (a:RegOk A) (b:RegOk B) (h:Laid A S A') (g:Laid B T B') (hU:∀ x,U x↔S x∨T x):Laid (mxx A B) U (mxx A' B'):=by
 have a':=h.ok a
 have b':=g.ok b
 refine ⟨by rw [mx_len,mx_len,a.1,a'.1],fun i hi=>?_⟩
 have hi:i<64:=by rw [mx_len,a.1] at hi;exact hi
 obtain ⟨h1,h2,h3⟩:=h.2 i (by rw [a.1];exact hi)
 obtain ⟨g1,g2,g3⟩:=g.2 i (by rw [b.1];exact hi)
 rw [mx_get a.1 i hi,mx_get a'.1 i hi]
 refine ⟨by omega,fun x hx hr=>?_,?_⟩
 ·rcases (hU x).1 hx with hx | hx
  ·have:=h2 x hx hr;omega
  ·have:=g2 x hx hr;omega
 ·by_cases q:B'.getD i 0≤A'.getD i 0
  ·rcases h3 with h3 | ⟨x,hx,hr,h3⟩
   ·exact .inl (by omega)
   ·exact .inr ⟨x,(hU x).2 (.inl hx),hr,by omega⟩
  ·rcases g3 with g3 | ⟨x,hx,hr,g3⟩
   ·exact .inl (by omega)
   ·exact .inr ⟨x,(hU x).2 (.inr hx),hr,by omega⟩
/-- What a right sketch stands for. -/
structure Can (g:Prop) (U B E R:List Int):Prop where
 rise:U.Pairwise (· < ·)
 okB:RegOk B
 no:¬ g→B=zer
 few:¬ g→U.length≤40→E=U∧R=[]
 many:g∨40<U.length→E=[]∧Laid B (·∈U) R
theorem Can.one {g g':Prop} {U B E R U' B' E' R':List Int} (h:Can g U B E R) (k:Can g' U' B' E' R') (hg:g↔g') (hU:∀ x,x∈U↔x∈U') (hB:B=B'):E=E'∧R=R':=by
 obtain rfl:=rise_ext U U' h.rise k.rise hU
 subst hB
 by_cases q:g∨40<U.length
 ·obtain ⟨a,b⟩:=h.many q
  obtain ⟨a',b'⟩:=k.many (q.imp hg.1 id)
  exact ⟨a.trans a'.symm,b.same b' fun _=>Iff.rfl⟩
 ·have q1:¬ g:=fun x=>q (.inl x)
  have q2:U.length≤40:=by omega
  obtain ⟨a,b⟩:=h.few q1 q2
  obtain ⟨a',b'⟩:=k.few (fun x=>q1 (hg.2 x)) q2
  exact ⟨a.trans a'.symm,b.trans b'.symm⟩
theorem up_of_pair:∀ {L:List Int},L.Pairwise (· < ·)→upN L=true
 | [],_=>rfl
 | [x],_=>rfl
 | x :: y :: r,h=>by
  have a:=List.pairwise_cons.1 h
  simp only [upN,Bool.and_eq_true,decide_eq_true_eq]
  exact ⟨a.1 y (by simp),up_of_pair a.2⟩
theorem regB_ok {R:List Int} (h:regB R=true):RegOk R:=by
 unfold regB at h
 simp only [Bool.and_eq_true,decide_eq_true_eq] at h
 refine ⟨h.1,fun i hi=>?_⟩
 have hi':i<R.length:=by omega
 have:=List.all_eq_true.1 h.2 (R[i]) (List.getElem_mem hi')
 rw [List.getD_eq_getElem?_getD,List.getElem?_eq_getElem hi']
 simpa [inR] using this
theorem ok_regB {R:List Int} (h:RegOk R):regB R=true:=by
 unfold regB
 simp only [Bool.and_eq_true,decide_eq_true_eq]
 refine ⟨h.1,List.all_eq_true.2 fun x hx=>?_⟩
 obtain ⟨i,hi,rfl⟩:=List.getElem_of_mem hx
 have:=h.2 i (by rw [← h.1];exact hi)
 rw [List.getD_eq_getElem?_getD,List.getElem?_eq_getElem hi] at this
 simpa [inR] using this
/-- A right one stands for itself. -/
theorem Can.self {E R:List Int} (h:hlB E R=true):Can (R.length≠0) E (padR R) E R:=by
 rcases hlB_parts h with ⟨rfl,hu⟩ | ⟨h64,rfl⟩
 ·refine ⟨upN_pair hu,?_,fun _=>rfl,fun _ _=>⟨rfl,rfl⟩,fun q=>?_⟩
  ·exact zer_ok
  ·rcases q with q | q
   ·exact absurd rfl q
   ·have:=(hlB_len h).1;omega
 ·have hp:padR R=R:=pad_full h64
  have hr:regB R=true:=by
   unfold hlB at h
   rw [if_neg (by omega)] at h
   simp only [Bool.and_eq_true] at h;exact h.2
  refine ⟨List.Pairwise.nil,by rw [hp];exact regB_ok hr,fun q=>absurd (by omega) q,fun q=>absurd (by omega) q,fun _=>⟨rfl,?_⟩⟩
  rw [hp];exact Laid.start R (fun x hx=>by simp at hx)
theorem Can.right {g:Prop} {U B E R:List Int} (h:Can g U B E R):hlB E R=true:=by
 by_cases q:g∨40<U.length
 ·obtain ⟨rfl,b⟩:=h.many q
  have ok:=b.ok h.okB
  unfold hlB
  rw [if_neg (by rw [ok.1];omega),ok_regB ok];rfl
 ·have q2:U.length≤40:=by omega
  obtain ⟨rfl,rfl⟩:=h.few (fun x=>q (.inl x)) q2
  unfold hlB exB
  rw [if_pos (by rfl:([]:List Int).length=0),up_of_pair h.rise]
  simpa using q2
/-- Each sketch as registers: a part of its hashes is laid, the others are kept. -/
theorem Can.part {g:Prop} {U B E R:List Int} (h:Can g U B E R):∃ S:Int→Prop,Laid B S (padR R)∧∀ x,x∈U↔S x∨x∈E:=by
 by_cases q:g∨40<U.length
 ·obtain ⟨rfl,b⟩:=h.many q
  exact ⟨(·∈U),by rw [pad_full (b.ok h.okB).1];exact b,fun x=>by simp⟩
 ·have q2:U.length≤40:=by omega
  obtain ⟨rfl,rfl⟩:=h.few (fun x=>q (.inl x)) q2
  refine ⟨fun _=>False,?_,fun x=>by simp⟩
  rw [h.no (fun x=>q (.inl x))]
  exact Laid.start zer (fun _ x=>x)
theorem len_le_uni {l m:List Int} (hl:l.Pairwise (· < ·)):∀ {k:List Int},k.Pairwise (· < ·)→(∀ x,x∈l→x∈k)→l.length≤k.length:=by
 intro k hk hs
 have n:l.Nodup:=hl.imp fun h e=>by omega
 exact n.length_le_of_subset hs
theorem mxL_pad {A R:List Int} (a:RegOk A) (hR:R.length=0∨R.length=64):mxL A R R.length=mxx A (padR R):=by
 rcases hR with h | h
 ·obtain rfl:=List.eq_nil_of_length_eq_zero h
  rw [List.length_nil,mxL_zero]
  exact (mx_zer a).symm
 ·rw [h,pad_full h];rfl
theorem mg_can {g1 g2:Prop} {U1 B1 E1 R1 U2 B2 E2 R2 E R:List Int} (h1:Can g1 U1 B1 E1 R1) (h2:Can g2 U2 B2 E2 R2) (hM:Mg E1 R1 E2 R2 E R):Can (g1∨g2) (uniU U1 U2) (mxx B1 B2) E R:=by
 have rise:=rise_uniU U2 U1 h1.rise
 have hu1:U1.length≤(uniU U1 U2).length:=len_le_uni (m:=[]) h1.rise rise fun x hx=>(mem_uniU x U2 U1).2 (.inl hx)
 have hu2:U2.length≤(uniU U1 U2).length:=len_le_uni (m:=[]) h2.rise rise fun x hx=>(mem_uniU x U2 U1).2 (.inr hx)
 have hr1:g1∨40<U1.length→R1.length=64:=fun q=>by obtain ⟨_,b⟩:=h1.many q;exact (b.ok h1.okB).1
 have hr2:g2∨40<U2.length→R2.length=64:=fun q=>by obtain ⟨_,b⟩:=h2.many q;exact (b.ok h2.okB).1
 refine ⟨rise,mx_ok h1.okB h2.okB,fun q=>?_,fun q1 q2=>?_,fun q=>?_⟩
 ·rw [h1.no (fun x=>q (.inl x)),h2.no (fun x=>q (.inr x))];exact mx_zer zer_ok
 ·obtain ⟨rfl,rfl⟩:=h1.few (fun x=>q1 (.inl x)) (by omega)
  obtain ⟨rfl,rfl⟩:=h2.few (fun x=>q1 (.inr x)) (by omega)
  have e:allU E1 E2=uniU E1 E2:=all_rise (up_of_pair h1.rise) E2
  rcases hM with ⟨_,_,_,a,b⟩ | ⟨a,_⟩
  ·exact ⟨a.trans e,b⟩
  ·exact absurd ⟨rfl,rfl,by rw [e];exact q2⟩ a
 ·rcases hM with ⟨a,b,c,_,_⟩ | ⟨a,rfl,c⟩
  ·have n1:¬ (g1∨40<U1.length):=fun q=>by have:=hr1 q;omega
   have n2:¬ (g2∨40<U2.length):=fun q=>by have:=hr2 q;omega
   obtain ⟨rfl,rfl⟩:=h1.few (fun x=>n1 (.inl x)) (by omega)
   obtain ⟨rfl,rfl⟩:=h2.few (fun x=>n2 (.inl x)) (by omega)
   rw [all_rise (up_of_pair h1.rise) E2] at c
   rcases q with (q | q) | q
   ·exact absurd (.inl q) n1
   ·exact absurd (.inl q) n2
   ·omega
  ·obtain ⟨S1,l1,s1⟩:=h1.part
   obtain ⟨S2,l2,s2⟩:=h2.part
   refine ⟨rfl,?_⟩
   have hR2:R2.length=0∨R2.length=64:=(hlB_len h2.right).2
   rw [mxL_pad (l1.ok h1.okB) hR2] at c
   refine (Laid.two h1.okB h2.okB l1 l2 (fun x=>Iff.rfl)).trans c (fun x=>?_)
   rw [mem_uniU,mem_allU,s1 x,s2 x]
   constructor
   ·rintro ((h | h) | (h | h)) <;> simp [h]
   ·rintro ((h | h) | (h | h)) <;> simp [h]
/-- One hash alone. -/
theorem Can.hash (x:Int):Can False [x] zer [x] []:=⟨by simp,zer_ok,fun _=>rfl,fun _ _=>⟨rfl,rfl⟩,fun q=>by rcases q with q | q;exact q.elim;simp at q⟩
theorem put_can {g:Prop} {U B E R E' R':List Int} {x:Int} (h:Can g U B E R) (hP:PutH E R x E' R'):Can (g∨False) (uniU U [x]) (mxx B zer) E' R':=by
 unfold PutH at hP
 rw [if_pos h.right] at hP
 exact mg_can h (Can.hash x) hP
theorem mrg_can {g1 g2:Prop} {U1 B1 E1 R1 U2 B2 E2 R2 E R:List Int} (h1:Can g1 U1 B1 E1 R1) (h2:Can g2 U2 B2 E2 R2) (hM:MrgH E1 R1 E2 R2 E R):Can (g1∨g2) (uniU U1 U2) (mxx B1 B2) E R:=by
 unfold MrgH at hM
 rw [if_pos ⟨h1.right,h2.right⟩] at hM
 exact mg_can h1 h2 hM
/-- Hashes of a sketch that is right are among those it stands for. -/
theorem Can.sub {g:Prop} {U B E R:List Int} (h:Can g U B E R):∀ x∈E,x∈U:=fun x hx=>by
 by_cases q:g∨40<U.length
 ·obtain ⟨rfl,_⟩:=h.many q;simp at hx
 ·obtain ⟨rfl,_⟩:=h.few (fun x=>q (.inl x)) (by omega);exact hx
/-- Either way round. -/
theorem mrg_same {E1 R1 E2 R2 A S C T:List Int} (p:MrgH E1 R1 E2 R2 A S) (q:MrgH E2 R2 E1 R1 C T):A=C∧S=T:=by
 by_cases hb:hlB E1 R1=true∧hlB E2 R2=true
 ·have c1:=Can.self hb.1
  have c2:=Can.self hb.2
  refine (mrg_can c1 c2 p).one (mrg_can c2 c1 q) or_comm (fun z=>?_) (mx_comm c1.okB c2.okB)
  rw [mem_uniU,mem_uniU];exact or_comm
 ·unfold MrgH at p q
  rw [if_neg hb] at p
  rw [if_neg (fun h=>hb h.symm)] at q
  exact ⟨p.1.trans q.1.symm,p.2.trans q.2.symm⟩
theorem put_right {E R A S:List Int} {x:Int} (h:hlB E R=true) (p:PutH E R x A S):hlB A S=true:=(put_can (Can.self h) p).right
theorem mrg_right {E R F S A T:List Int} (h:hlB E R=true) (k:hlB F S=true) (p:MrgH E R F S A T):hlB A T=true:=(mrg_can (Can.self h) (Can.self k) p).right
theorem MrgH.one {E1 R1 E2 R2 A S C T:List Int} (p:MrgH E1 R1 E2 R2 A S) (q:MrgH E1 R1 E2 R2 C T):A=C∧S=T:=by
 unfold MrgH at p q
 split at p
 ·rw [if_pos (by assumption)] at q;exact p.one q
 ·rw [if_neg (by assumption)] at q;exact ⟨p.1.trans q.1.symm,p.2.trans q.2.symm⟩
/-- Hashes that are 64 bits wide stay so. -/
theorem put_u64 {E R A S:List Int} {x:Int} (u:∀ y∈E,U64 y) (ux:U64 x) (p:PutH E R x A S):∀ y∈A,U64 y:=by
 by_cases hb:hlB E R=true
 ·intro y hy
  have:=(put_can (Can.self hb) p).sub y hy
  rw [mem_uniU] at this
  rcases this with h | h
  ·exact u y h
  ·simp at h;subst h;exact ux
 ·unfold PutH at p
  rw [if_neg hb] at p
  rw [p.1];exact u
theorem mrg_u64 {E R F S A T:List Int} (u:∀ y∈E,U64 y) (v:∀ y∈F,U64 y) (p:MrgH E R F S A T):∀ y∈A,U64 y:=by
 by_cases hb:hlB E R=true∧hlB F S=true
 ·intro y hy
  have:=(mrg_can (Can.self hb.1) (Can.self hb.2) p).sub y hy
  rw [mem_uniU] at this
  exact this.elim (u y) (v y)
 ·unfold MrgH at p
  rw [if_neg hb] at p
  rw [p.1];intro y hy;simp at hy
end Go.Proofs.YthpilcoklapooaaGreatDoor
