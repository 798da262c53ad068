/-
 The model's sketch of how many: l04Merge.
-/
import Derived.Test.YtiiclgcpagdekaaGreatDoorMJN
namespace Go.Proofs.YtiiclgcpagdekaaGreatDoor
set_option linter.unusedVariables false
set_option linter.unusedSimpArgs false
open Go.ChangeShapes Go.WideShapes Go.ChangeAt Go.RowKit Go.PlainAid Go.Maps
set_option maxRecDepth 10000
theorem all_rise {E1:List Int} (h:upN E1=true) (E2:List Int):allU E1 E2=uniU E1 E2:=by
 unfold allU
 rw [uni_rise (l:=[]) (by simpa using upN_pair h)];rfl
theorem mem_allU (x:Int) (E1 E2:List Int):x∈allU E1 E2↔x∈E1∨x∈E2:=by
 unfold allU;rw [mem_uniU,mem_uniU];simp
theorem pad_full {R:List Int} (h:R.length=64):padR R=R:=by unfold padR;rw [if_neg (by omega)]
theorem mrg_reg {E1 R1 E2 R2 A B:List Int} {m2:Nat} (hm:R2.length=m2) (hno:¬ (R1.length=0∧R2.length=0)) (h64:(padR R1).length=64) (hA:Laid (padR R1) (·∈E1) A) (hB:Laid (padR A) (·∈E2) B):Mg E1 R1 E2 R2 [] (mxL B R2 m2):=by
 refine .inr ⟨fun k=>hno ⟨k.1,k.2.1⟩,rfl,?_⟩
 rw [pad_full (hA.1.trans h64)] at hB
 rw [hm]
 exact (hA.trans hB (fun x=>mem_allU x E1 E2)).mx m2
theorem mrg_many {E1 E2 A:List Int} (hu:upN E1=true) (h40:¬ (uniU E1 E2).length≤40) (h:Laid (padR []) (·∈uniU E1 E2) A):Mg E1 [] E2 [] [] A:=by
 refine .inr ⟨fun k=>h40 (by rw [← all_rise hu];exact k.2.2),rfl,?_⟩
 rw [List.length_nil,mxL_zero,all_rise hu];exact h
theorem mrg_few {E1 E2:List Int} (hu:upN E1=true) (h40:(uniU E1 E2).length≤40):Mg E1 [] E2 [] (uniU E1 E2) []:=
 .inl ⟨rfl,rfl,by rw [all_rise hu];exact h40,(all_rise hu E2).symm,rfl⟩
def MgOut (w:World) (E1 R1 E2 R2:List Int) (e:Ending) (w':World):Prop:=∃ v E R,e=.returned v∧Mg E1 R1 E2 R2 E R∧HlOut w' w.heap.size v E R∧Below w.heap.size w w'
theorem MgOut.mk {w w':World} {E1 R1 E2 R2 E R:List Int} {v:Value} (h:Mg E1 R1 E2 R2 E R) (o:HlOut w' w.heap.size v E R) (b:Below w.heap.size w w'):MgOut w E1 R1 E2 R2 (.returned v) w':=⟨v,E,R,rfl,h,o,b⟩
set_option maxHeartbeats 4000000 in
theorem c_s_MergeE {w:World} {ea ra eb rb:Option Addr} {n1 c1 d1 n2 c2 d2:Nat} {E1 E2:List Int} (h1:E1.length=n1) (h3:E2.length=n2) (l1:n1≤40) (l3:n2≤40) (hup:upN E1=true) (c1e:ea=none→c1=0)
  (hE1:NumsAt .u64 w ea E1) (hE2:NumsAt .u64 w eb E2) (u1:∀ x∈E1,U64 x) (u2:∀ x∈E2,U64 x) :
  Calls Tryz.prog 159 #[.agg #[.slice ea n1 c1,.slice ra 0 d1],.agg #[.slice eb n2 c2,.slice rb 0 d2]] w fun e w'=>MgOut w E1 [] E2 [] e w':=by
 obtain ⟨i0,hi,hz0,hz1,hz2⟩:=info_parts infoUint64S
 have HE1:=hide hE1
 have HE2:=hide hE2
 have H1:=hide h1
 have H3:=hide h3
 have U1:=hide u1
 have U2:=hide u2
 have C1:=hide c1e
 have HUp:=hide hup
 have HBa:Hid (∀ o1 o2 o3,Below w.heap.size w (((w.alloc o1).alloc o2).alloc o3)):=fun o1 o2 o3=>(((Below.refl _ _).alloc (Nat.le_refl _) _).alloc (by simp) _).alloc (by simp;omega) _
 have HM:Hid (∀ o1 o2 o3,((((w.alloc o1).alloc o2).alloc o3).alloc (.cells #[] 25)).ownsRow (w.heap.size+1+1+1) 25 1 (.slice (some ⟨w.heap.size+1+1+1,0,none⟩) 0 0) 0 []):=fun o1 o2 o3=>by
  have:=World.ownsRow_made (base:=w.heap.size+1+1+1) (e:=25) (size:=1) (((w.alloc o1).alloc o2).alloc o3) #[] 0 (by simp) (Nat.zero_le _) rfl
  simpa using this
 have HC:Hid (∀ W,Below (w.heap.size+1+1+1) (((w.alloc (.cells #[.slice ea n1 c1,.slice ra 0 d1] 77)).alloc (.cells #[.slice eb n2 c2,.slice rb 0 d2] 77)).alloc (.cells #[.slice none 0 0,.slice none 0 0] 77)) W→HlCell W w.heap.size (.slice ea n1 c1) (.slice ra 0 d1)∧HlCell W (w.heap.size+1) (.slice eb n2 c2) (.slice rb 0 d2)∧W.heap[w.heap.size+1+1]?=some (.cells #[.slice none 0 0,.slice none 0 0] 77 (0,0))∧Below w.heap.size w W):=fun W h=>by
  obtain ⟨q1,q2,q3⟩:=mid_cell w _ _ _ _ _ _ _ _ _ W (by simpa using h)
  exact ⟨q1,q2,q3,(HBa.out _ _ _).trans (h.mono (by omega))⟩
 clear hE1 hE2 h1 h3 u1 u2 c1e hup
 go_enter Tryz.func159,Tryz.ntmps159
 go_wp2_with (at_builtin;refine wpList_append_nilH _ rfl (.tmp 19) (.tmp 21) 74 rfl (w.heap.size+1+1+1) 25 i0 (.int .u64 0) 1 8 Tryz.underlying74 hi hz0 hz1 hz2 rfl (by decide) _ _ _ rfl (HM.out _ _ _) ea n1 c1 (E1.map (Value.int .u64)) rfl (by simp [H1.out]) (fun e=>⟨nil_len HE1.out H1.out e,C1.out e⟩) (nums_nw (nums_past HE1.out ((HBa.out _ _ _).alloc (by simp;omega) _))) (one_map _ _) (by unfold maxLen;omega) (by omega) (by simp) ?_;intro v1 w1 hown1 hgrow1 hnil1;simp only [Nat.zero_add,List.nil_append] at hown1;obtain ⟨ao1,k1,rfl⟩:=own_any hown1;have O1:=hide hown1;have hb1:Below (w.heap.size+1+1+1) (((w.alloc (.cells #[.slice ea n1 c1,.slice ra 0 d1] 77)).alloc (.cells #[.slice eb n2 c2,.slice rb 0 d2] 77)).alloc (.cells #[.slice none 0 0,.slice none 0 0] 77)) w1:=((Below.refl _ _).alloc (by simp) _).grown hgrow1 (by simp) (fun j hj=>by cases hj;exact Nat.le_refl _);have B1:=hide hb1;clear hown1 hgrow1 hnil1 hb1)
 go_loopw [5,6] (fun lv i wr=>∃ (k:Nat) (ao:Option Addr) (n c:Nat),k≤n2∧i=.int .i64 k∧lv=.slice ao n c∧n≤80∧Hid ((uniU E1 (E2.take k)).length=n)∧Hid (wr.ownsRow (w.heap.size+1+1+1) 25 1 (.slice ao n c) n ((uniU E1 (E2.take k)).map (Value.int .u64)))∧Hid (Below (w.heap.size+1+1+1) (((w.alloc (.cells #[.slice ea n1 c1,.slice ra 0 d1] 77)).alloc (.cells #[.slice eb n2 c2,.slice rb 0 d2] 77)).alloc (.cells #[.slice none 0 0,.slice none 0 0] 77)) wr)) (fun lv i wr=>n2 - (Go.RowKit.intOf i).toNat)
 case atStart=>exact ⟨0,ao1,n1,k1,Nat.zero_le _,rfl,rfl,by omega,H1,O1,B1⟩
 case round=>
  clear O1 B1
  obtain ⟨k,ao,n,c,hk,rfl,rfl,hn80,HL,HO,HBl⟩:=hrel
  obtain ⟨⟨x0,x1⟩,⟨y0,y1⟩,r1,t1⟩:=HC.out wr HBl.out
  have HT:=hide t1
  have HRs:=hide r1
  have hz:w.heap.size+1+1+1≤wr.heap.size:=by have:=HBl.out.size;simpa using this
  clear t1 r1
  by_cases hkn:k<n2
  ·obtain ⟨b,off,e,hcell⟩:=HE2.out (by have:=H3.out;omega)
   subst e
   obtain ⟨y,hy⟩:∃ y,E2[k]?=some y:=⟨E2[k]'(by have:=H3.out;omega),List.getElem?_eq_getElem _⟩
   have hc0:=cell_past HT.out (hcell k y hy)
   have HS:Hid (uniU E1 (E2.take (k+1))=insU (uniU E1 (E2.take k)) y):=uni_take hy
   have HOw:=hide (nums_own (L:=uniU E1 (E2.take k)) (by rw [HL.out];exact HO.out))
   have HLl:Hid ((uniU E1 (E2.take (k+1))).length≤80):=by
    have:=len_uni (E2.take (k+1)) E1
    have:=H1.out
    have:(E2.take (k+1)).length≤40:=by rw [List.length_take];omega
    show (uniU E1 (E2.take (k+1))).length≤80
    omega
   clear hcell hy
   go_wp2_with (go_at_call 185;refine (c_s_Exact y HL.out (by omega) HOw.out.2.2.2.1 HOw.out.2.2.2.2.1 HOw.out.2.1 HOw.out.2.2.2.2.2 HOw.out.1).mono ?_;rintro e w4 ⟨v4,rfl,o4,hb4⟩;rw [← HS.out] at o4;obtain ⟨a4,c4,rfl⟩:=own_any o4;have O4:=hide (own_le o4 hz);have B4:=hide (HBl.out.trans (hb4.mono hz));clear o4 hb4)
   go_roundw
   case rel=>exact ⟨k+1,a4,_,c4,by omega,by go_num,rfl,HLl.out,hide rfl,O4,B4⟩
   case measure=>simp [Go.RowKit.intOf];omega
  ·have eL:E2.take k=E2:=List.take_of_length_le (by have:=H3.out;omega)
   rw [eL] at HL HO
   obtain rfl:k=n2:=by omega
   clear eL hkn hk
   have q0:wr.cell? ⟨w.heap.size+1+1,0,none⟩=some (.slice none 0 0):=by rw [cell_of_row _ _ 0 _ _ (0,0) HRs.out];rfl
   have q1':wr.cell? ⟨w.heap.size+1+1,1,none⟩=some (.slice none 0 0):=by rw [cell_of_row _ _ 1 _ _ (0,0) HRs.out];rfl
   have f0:=fzR 0 HRs.out
   have f1:=fzR 1 HRs.out
   by_cases h40:n≤40
   ·have h40i:¬ (40:Int)<(n:Int):=by omega
    have HMg:Hid (Mg E1 [] E2 [] (uniU E1 E2) []):=mrg_few HUp.out (by rw [HL.out];exact h40)
    go_wp2
    refine bodyPost_ret (v:=.agg #[.slice ao n c,.slice none 0 0]) (by simp [results,Tryz.results159,go_sem,q0,q1']) rfl (MgOut.mk HMg.out ⟨_,_,rfl,?_,World.ownsRow_nil _ _ _ _⟩ ?_)
    ·refine own_le (B:=w.heap.size+1+1+1) ?_ (by omega)
     repeat (refine ownsRow_setCell_below ?_ (by simp) _)
     rw [HL.out];exact HO.out
    ·exact (HT.out.setCell (by simp;omega) _).setCell (by simp;omega) _
   ·have h40i:(40:Int)<(n:Int):=by omega
    have HMs:Hid (∀ A,Laid (padR []) (·∈uniU E1 E2) A→Mg E1 [] E2 [] [] A):=fun A h=>mrg_many HUp.out (by rw [HL.out];exact h40) h
    have HUi:Hid (∀ y∈uniU E1 E2,U64 y):=fun y hy=>by
     rcases (mem_uniU y E2 E1).1 hy with h | h
     ·exact U1.out y h
     ·exact U2.out y h
    have HNa:=(nums_own (L:=uniU E1 E2) (T:=25) (kd:=.u64) (w:=wr) (ao:=ao) (n:=n) (c:=c) (B:=w.heap.size+1+1+1) (by rw [HL.out];exact HO.out)).1
    have HNa:=hide HNa
    clear q0 q1' f0 f1
    go_wp2_with fail
    refine (c_s_Dense (R:=[]) rfl HL.out (.inl rfl) (by omega) (fun h=>by simp at h) HNa.out HUi.out).mono ?_
    rintro e w2 ⟨g,A,rfl,hLd,hRow,hb2⟩
    have r2:=(hb2.block (w.heap.size+1+1) (by omega)).trans HRs.out
    have q0:w2.cell? ⟨w.heap.size+1+1,0,none⟩=some (.slice none 0 0):=by rw [cell_of_row _ _ 0 _ _ (0,0) r2];rfl
    have q1':w2.cell? ⟨w.heap.size+1+1,1,none⟩=some (.slice none 0 0):=by rw [cell_of_row _ _ 1 _ _ (0,0) r2];rfl
    have f0:=fzR 0 r2
    have f1:=fzR 1 r2
    have HMg:=hide (HMs.out A hLd)
    have HT2:=hide (chain HT.out hb2)
    have HRow:=hide hRow
    clear hLd hRow hb2 r2
    go_wp2
    refine bodyPost_ret (v:=.agg #[.slice none 0 0,.slice (some ⟨g,0,none⟩) 64 64]) (by simp [results,Tryz.results159,go_sem,q0,q1']) rfl (MgOut.mk HMg.out ⟨_,_,rfl,World.ownsRow_nil _ _ _ _,?_⟩ ?_)
    ·refine own_le (B:=wr.heap.size) ?_ (by omega)
     repeat (refine ownsRow_setCell_below ?_ (by simp;omega) _)
     rw [HRow.out.1];exact HRow.out.2
    ·exact (HT2.out.setCell (by simp;omega) _).setCell (by simp;omega) _
end Go.Proofs.YtiiclgcpagdekaaGreatDoor
namespace Go.Proofs.YtiiclgcpagdekaaGreatDoor
set_option linter.unusedVariables false
set_option linter.unusedSimpArgs false
set_option maxRecDepth 10000
def zer:List Int:=List.replicate 64 0
theorem zrr_len:zer.length=64:=by simp [zer]
theorem zer_get (i:Nat):zer.getD i 0=0:=by
 unfold zer
 rw [List.getD_eq_getElem?_getD,List.getElem?_replicate];split <;> rfl
def mxx (A B:List Int):List Int:=mxL A B 64
theorem mx_len (A B:List Int):(mxx A B).length=A.length:=mxL_len _ _ _
theorem mx_get {A B:List Int} (hA:A.length=64) (i:Nat) (hi:i<64):(mxx A B).getD i 0=max (A.getD i 0) (B.getD i 0):=by
 unfold mxx;rw [mxL_get A B 64 i (by omega),if_pos hi]
theorem reg_ext {A B:List Int} (hA:A.length=64) (hB:B.length=64) (h:∀ i,i<64→A.getD i 0=B.getD i 0):A=B:=by
 apply List.ext_getElem (by omega)
 intro i h1 h2
 have:=h i (by omega)
 rw [List.getD_eq_getElem?_getD,List.getD_eq_getElem?_getD,List.getElem?_eq_getElem h1,List.getElem?_eq_getElem h2] at this
 exact this
def RegOk (B:List Int):Prop:=B.length=64∧∀ i,i<64→0≤B.getD i 0∧B.getD i 0≤55
theorem zer_ok:RegOk zer:=⟨zrr_len,fun i _=>by rw [zer_get];omega⟩
theorem mx_ok {A B:List Int} (a:RegOk A) (b:RegOk B):RegOk (mxx A B):=⟨by rw [mx_len];exact a.1,fun i hi=>by
 rw [mx_get a.1 i hi];have:=a.2 i hi;have:=b.2 i hi;omega⟩
theorem mx_comm {A B:List Int} (a:RegOk A) (b:RegOk B):mxx A B=mxx B A:=
 reg_ext (by rw [mx_len];exact a.1) (by rw [mx_len];exact b.1) fun i hi=>by rw [mx_get a.1 i hi,mx_get b.1 i hi];omega
theorem mx_zer {A:List Int} (a:RegOk A):mxx A zer=A:=
 reg_ext (by rw [mx_len];exact a.1) a.1 fun i hi=>by rw [mx_get a.1 i hi,zer_get];have:=a.2 i hi;omega
theorem Laid.ok {B R:List Int} {S:Int→Prop} (b:RegOk B) (h:Laid B S R):RegOk R:=⟨by rw [h.1];exact b.1,fun i hi=>by
 obtain ⟨h1,h2,h3⟩:=h.2 i (by rw [b.1];exact hi)
 have:=b.2 i hi
 rcases h3 with h3 | ⟨x,_,_,h3⟩
 ·omega
 ·have:=rho_rng x;omega⟩
theorem Laid.two {A A' B B':List Int} {S T U:Int→Prop} (a:RegOk A) (b:RegOk B) (h:Laid A S A') (g:Laid B T B') (hU:∀ x,U x↔S x∨T x):Laid (mxx A B) U (mxx A' B'):=by
 have a':=h.ok a
 have b':=g.ok b
 refine ⟨by rw [mx_len,mx_len,a.1,a'.1],fun i hi=>?_⟩
 have hi:i<64:=by rw [mx_len,a.1] at hi;exact hi
 obtain ⟨h1,h2,h3⟩:=h.2 i (by rw [a.1];exact hi)
 obtain ⟨g1,g2,g3⟩:=g.2 i (by rw [b.1];exact hi)
 rw [mx_get a.1 i hi,mx_get a'.1 i hi]
 refine ⟨by omega,fun x hx hr=>?_,?_⟩
 ·rcases (hU x).1 hx with hx | hx
  ·have:=h2 x hx hr;omega
  ·have:=g2 x hx hr;omega
 ·by_cases q:B'.getD i 0≤A'.getD i 0
  ·rcases h3 with h3 | ⟨x,hx,hr,h3⟩
   ·exact .inl (by omega)
   ·exact .inr ⟨x,(hU x).2 (.inl hx),hr,by omega⟩
  ·rcases g3 with g3 | ⟨x,hx,hr,g3⟩
   ·exact .inl (by omega)
   ·exact .inr ⟨x,(hU x).2 (.inr hx),hr,by omega⟩
structure Can (g:Prop) (U B E R:List Int):Prop where
 rise:U.Pairwise (· < ·)
 okB:RegOk B
 no:¬ g→B=zer
 few:¬ g→U.length≤40→E=U∧R=[]
 many:g∨40<U.length→E=[]∧Laid B (·∈U) R
theorem Can.one {g g':Prop} {U B E R U' B' E' R':List Int} (h:Can g U B E R) (k:Can g' U' B' E' R') (hg:g↔g') (hU:∀ x,x∈U↔x∈U') (hB:B=B'):E=E'∧R=R':=by
 obtain rfl:=rise_ext U U' h.rise k.rise hU
 subst hB
 by_cases q:g∨40<U.length
 ·obtain ⟨a,b⟩:=h.many q
  obtain ⟨a',b'⟩:=k.many (q.imp hg.1 id)
  exact ⟨a.trans a'.symm,b.same b' fun _=>Iff.rfl⟩
 ·have q1:¬ g:=fun x=>q (.inl x)
  have q2:U.length≤40:=by omega
  obtain ⟨a,b⟩:=h.few q1 q2
  obtain ⟨a',b'⟩:=k.few (fun x=>q1 (hg.2 x)) q2
  exact ⟨a.trans a'.symm,b.trans b'.symm⟩
theorem up_of_pair:∀ {L:List Int},L.Pairwise (· < ·)→upN L=true
 | [],_=>rfl
 | [x],_=>rfl
 | x :: y :: r,h=>by
  have a:=List.pairwise_cons.1 h
  simp only [upN,Bool.and_eq_true,decide_eq_true_eq]
  exact ⟨a.1 y (by simp),up_of_pair a.2⟩
theorem regB_ok {R:List Int} (h:regB R=true):RegOk R:=by
 unfold regB at h
 simp only [Bool.and_eq_true,decide_eq_true_eq] at h
 refine ⟨h.1,fun i hi=>?_⟩
 have hi':i<R.length:=by omega
 have:=List.all_eq_true.1 h.2 (R[i]) (List.getElem_mem hi')
 rw [List.getD_eq_getElem?_getD,List.getElem?_eq_getElem hi']
 simpa [inR] using this
theorem ok_regB {R:List Int} (h:RegOk R):regB R=true:=by
 unfold regB
 simp only [Bool.and_eq_true,decide_eq_true_eq]
 refine ⟨h.1,List.all_eq_true.2 fun x hx=>?_⟩
 obtain ⟨i,hi,rfl⟩:=List.getElem_of_mem hx
 have:=h.2 i (by rw [← h.1];exact hi)
 rw [List.getD_eq_getElem?_getD,List.getElem?_eq_getElem hi] at this
 simpa [inR] using this
theorem Can.self {E R:List Int} (h:hlB E R=true):Can (R.length≠0) E (padR R) E R:=by
 rcases hlB_parts h with ⟨rfl,hu⟩ | ⟨h64,rfl⟩
 ·refine ⟨upN_pair hu,?_,fun _=>rfl,fun _ _=>⟨rfl,rfl⟩,fun q=>?_⟩
  ·exact zer_ok
  ·rcases q with q | q
   ·exact absurd rfl q
   ·have:=(hlB_len h).1;omega
 ·have hp:padR R=R:=pad_full h64
  have hr:regB R=true:=by
   unfold hlB at h
   rw [if_neg (by omega)] at h
   simp only [Bool.and_eq_true] at h;exact h.2
  refine ⟨List.Pairwise.nil,by rw [hp];exact regB_ok hr,fun q=>absurd (by omega) q,fun q=>absurd (by omega) q,fun _=>⟨rfl,?_⟩⟩
  rw [hp];exact Laid.start R (fun x hx=>by simp at hx)
theorem Can.right {g:Prop} {U B E R:List Int} (h:Can g U B E R):hlB E R=true:=by
 by_cases q:g∨40<U.length
 ·obtain ⟨rfl,b⟩:=h.many q
  have ok:=b.ok h.okB
  unfold hlB
  rw [if_neg (by rw [ok.1];omega),ok_regB ok];rfl
 ·have q2:U.length≤40:=by omega
  obtain ⟨rfl,rfl⟩:=h.few (fun x=>q (.inl x)) q2
  unfold hlB exB
  rw [if_pos (by rfl:([]:List Int).length=0),up_of_pair h.rise]
  simpa using q2
theorem Can.part {g:Prop} {U B E R:List Int} (h:Can g U B E R):∃ S:Int→Prop,Laid B S (padR R)∧∀ x,x∈U↔S x∨x∈E:=by
 by_cases q:g∨40<U.length
 ·obtain ⟨rfl,b⟩:=h.many q
  exact ⟨(·∈U),by rw [pad_full (b.ok h.okB).1];exact b,fun x=>by simp⟩
 ·have q2:U.length≤40:=by omega
  obtain ⟨rfl,rfl⟩:=h.few (fun x=>q (.inl x)) q2
  refine ⟨fun _=>False,?_,fun x=>by simp⟩
  rw [h.no (fun x=>q (.inl x))]
  exact Laid.start zer (fun _ x=>x)
theorem len_le_uni {l m:List Int} (hl:l.Pairwise (· < ·)):∀ {k:List Int},k.Pairwise (· < ·)→(∀ x,x∈l→x∈k)→l.length≤k.length:=by
 intro k hk hs
 have n:l.Nodup:=hl.imp fun h e=>by omega
 exact n.length_le_of_subset hs
theorem mxL_pad {A R:List Int} (a:RegOk A) (hR:R.length=0∨R.length=64):mxL A R R.length=mxx A (padR R):=by
 rcases hR with h | h
 ·obtain rfl:=List.eq_nil_of_length_eq_zero h
  rw [List.length_nil,mxL_zero]
  exact (mx_zer a).symm
 ·rw [h,pad_full h];rfl
theorem mg_can {g1 g2:Prop} {U1 B1 E1 R1 U2 B2 E2 R2 E R:List Int} (h1:Can g1 U1 B1 E1 R1) (h2:Can g2 U2 B2 E2 R2) (hM:Mg E1 R1 E2 R2 E R):Can (g1∨g2) (uniU U1 U2) (mxx B1 B2) E R:=by
 have rise:=rise_uniU U2 U1 h1.rise
 have hu1:U1.length≤(uniU U1 U2).length:=len_le_uni (m:=[]) h1.rise rise fun x hx=>(mem_uniU x U2 U1).2 (.inl hx)
 have hu2:U2.length≤(uniU U1 U2).length:=len_le_uni (m:=[]) h2.rise rise fun x hx=>(mem_uniU x U2 U1).2 (.inr hx)
 have hr1:g1∨40<U1.length→R1.length=64:=fun q=>by obtain ⟨_,b⟩:=h1.many q;exact (b.ok h1.okB).1
 have hr2:g2∨40<U2.length→R2.length=64:=fun q=>by obtain ⟨_,b⟩:=h2.many q;exact (b.ok h2.okB).1
 refine ⟨rise,mx_ok h1.okB h2.okB,fun q=>?_,fun q1 q2=>?_,fun q=>?_⟩
 ·rw [h1.no (fun x=>q (.inl x)),h2.no (fun x=>q (.inr x))];exact mx_zer zer_ok
 ·obtain ⟨rfl,rfl⟩:=h1.few (fun x=>q1 (.inl x)) (by omega)
  obtain ⟨rfl,rfl⟩:=h2.few (fun x=>q1 (.inr x)) (by omega)
  have e:allU E1 E2=uniU E1 E2:=all_rise (up_of_pair h1.rise) E2
  rcases hM with ⟨_,_,_,a,b⟩ | ⟨a,_⟩
  ·exact ⟨a.trans e,b⟩
  ·exact absurd ⟨rfl,rfl,by rw [e];exact q2⟩ a
 ·rcases hM with ⟨a,b,c,_,_⟩ | ⟨a,rfl,c⟩
  ·have n1:¬ (g1∨40<U1.length):=fun q=>by have:=hr1 q;omega
   have n2:¬ (g2∨40<U2.length):=fun q=>by have:=hr2 q;omega
   obtain ⟨rfl,rfl⟩:=h1.few (fun x=>n1 (.inl x)) (by omega)
   obtain ⟨rfl,rfl⟩:=h2.few (fun x=>n2 (.inl x)) (by omega)
   rw [all_rise (up_of_pair h1.rise) E2] at c
   rcases q with (q | q) | q
   ·exact absurd (.inl q) n1
   ·exact absurd (.inl q) n2
   ·omega
  ·obtain ⟨S1,l1,s1⟩:=h1.part
   obtain ⟨S2,l2,s2⟩:=h2.part
   refine ⟨rfl,?_⟩
   have hR2:R2.length=0∨R2.length=64:=(hlB_len h2.right).2
   rw [mxL_pad (l1.ok h1.okB) hR2] at c
   refine (Laid.two h1.okB h2.okB l1 l2 (fun x=>Iff.rfl)).trans c (fun x=>?_)
   rw [mem_uniU,mem_allU,s1 x,s2 x]
   constructor
   ·rintro ((h | h) | (h | h)) <;> simp [h]
   ·rintro ((h | h) | (h | h)) <;> simp [h]
theorem mrg_can {g1 g2:Prop} {U1 B1 E1 R1 U2 B2 E2 R2 E R:List Int} (h1:Can g1 U1 B1 E1 R1) (h2:Can g2 U2 B2 E2 R2) (hM:MrgH E1 R1 E2 R2 E R):Can (g1∨g2) (uniU U1 U2) (mxx B1 B2) E R:=by
 unfold MrgH at hM
 rw [if_pos ⟨h1.right,h2.right⟩] at hM
 exact mg_can h1 h2 hM
theorem Can.sub {g:Prop} {U B E R:List Int} (h:Can g U B E R):∀ x∈E,x∈U:=fun x hx=>by
 by_cases q:g∨40<U.length
 ·obtain ⟨rfl,_⟩:=h.many q;simp at hx
 ·obtain ⟨rfl,_⟩:=h.few (fun x=>q (.inl x)) (by omega);exact hx
theorem mrg_right {E R F S A T:List Int} (h:hlB E R=true) (k:hlB F S=true) (p:MrgH E R F S A T):hlB A T=true:=(mrg_can (Can.self h) (Can.self k) p).right
theorem mrg_u64 {E R F S A T:List Int} (u:∀ y∈E,U64 y) (v:∀ y∈F,U64 y) (p:MrgH E R F S A T):∀ y∈A,U64 y:=by
 by_cases hb:hlB E R=true∧hlB F S=true
 ·intro y hy
  have:=(mrg_can (Can.self hb.1) (Can.self hb.2) p).sub y hy
  rw [mem_uniU] at this
  exact this.elim (u y) (v y)
 ·unfold MrgH at p
  rw [if_neg hb] at p
  rw [p.1];intro y hy;simp at hy
open Go.ChangeAt Go.ChangeShapes Go.Maps Go.PlainAid Go.RowKit Go.WideShapes
theorem out_box {w:World} {g:Nat} {a b:Value} (h:w.heap[g]?=some (.cells #[a,b] 77 (0,0))) (p q:Value):((w.setCell ⟨g,0,none⟩ p).setCell ⟨g,1,none⟩ q).heap[g]?=some (.cells #[p,q] 77 (0,0)):=by
 exact heap_setCell_same _ g 1 _ _ q (heap_setCell_same w g 0 _ _ p h)
set_option maxHeartbeats 4000000 in
theorem c_s_MergeR {w:World} {ea ra eb rb:Option Addr} {n1 c1 m1 d1 n2 c2 m2 d2:Nat} {E1 R1 E2 R2:List Int} (h1:E1.length=n1) (h2:R1.length=m1) (h3:E2.length=n2) (h4:R2.length=m2) (l1:n1≤40) (l2:m1=0∨m1=64) (l3:n2≤40) (l4:m2=0∨m2=64) (hno:¬ (m1=0∧m2=0))
  (hE1:NumsAt .u64 w ea E1) (hR1:NumsAt .i64 w ra R1) (hE2:NumsAt .u64 w eb E2) (hR2:NumsAt .i64 w rb R2) (u1:∀ x∈E1,U64 x) (u2:∀ x∈E2,U64 x) :
  Calls Tryz.prog 159 #[.agg #[.slice ea n1 c1,.slice ra m1 d1],.agg #[.slice eb n2 c2,.slice rb m2 d2]] w fun e w'=>MgOut w E1 R1 E2 R2 e w':=by
 have HE1:=hide hE1
 have HE2:=hide hE2
 have HR1:=hide hR1
 have HR2:=hide hR2
 have H1:=hide h1
 have H2:=hide h2
 have H3:=hide h3
 have H4:=hide h4
 have U1:=hide u1
 have U2:=hide u2
 have L2:=hide l2
 have L4:=hide l4
 have HPl:Hid ((padR R1).length=64):=padR_len (by rw [h2];exact l2)
 have HMg:Hid (∀ A B,Laid (padR R1) (·∈E1) A→Laid (padR A) (·∈E2) B→Mg E1 R1 E2 R2 [] (mxL B R2 m2)):=fun A B hA hB=>mrg_reg h4 (by rw [h2,h4];exact hno) (padR_len (by rw [h2];exact l2)) hA hB
 have HBa:Hid (∀ o1 o2 o3,Below w.heap.size w (((w.alloc o1).alloc o2).alloc o3)):=fun o1 o2 o3=>(((Below.refl _ _).alloc (Nat.le_refl _) _).alloc (by simp) _).alloc (by simp;omega) _
 clear hE1 hE2 hR1 hR2 h1 h2 h3 h4 u1 u2
 by_cases hm1:m1=0
 ·obtain rfl:m2=64:=by omega
  subst hm1
  have hm2:64≤64:=by omega
  go_enter Tryz.func159,Tryz.ntmps159
  go_wp2_with fail
  refine (c_s_Dense H2.out H1.out (.inl rfl) (by omega) (nums_past HR1.out (HBa.out _ _ _)) (nums_past HE1.out (HBa.out _ _ _)) U1.out).mono ?_
  rintro e w1 ⟨g1,A,rfl,hL1,hRow1,hb1⟩
  obtain ⟨_,⟨y0,y1⟩,hres⟩:=mid_cell w _ _ _ _ _ _ _ _ _ w1 hb1
  have hz1:=hb1.size
  have hT1:Below w.heap.size w w1:=(HBa.out _ _ _).trans (hb1.mono (by simp;omega))
  simp only [World.size_alloc] at hz1 hRow1
  have HT1:=hide hT1
  have HRs:=hide hres
  have HL1:=hide hL1
  have HA64:=hide hRow1.1
  have HNA:Hid (NumsAt .i64 w1 (some ⟨g1,0,none⟩) A):=(fun _=>⟨g1,0,rfl,fun i x hx=>by
   have hi:=(List.getElem?_eq_some_iff.1 hx).1
   rw [Nat.zero_add]
   exact hRow1.cell (by have:=hRow1.1;omega) (by rw [List.getD_eq_getElem?_getD,hx];rfl)⟩)
  have HKy:Hid (HlCell w1 (w.heap.size+1) (.slice eb n2 c2) (.slice rb 64 d2)):=⟨y0,y1⟩
  have HAl:Hid (∀ o,Below w1.heap.size w1 (w1.alloc o)):=fun o=>(Below.refl _ _).alloc (Nat.le_refl _) _
  have yA0:∀ o,(w1.alloc o).cell? ⟨w.heap.size+1,0,none⟩=some (.slice eb n2 c2):=fun o=>cell_past (HAl.out o) y0
  have HN1:=hide (heap_alloc_new w1 (.cells #[.slice none 0 0,.slice (some ⟨g1,0,none⟩) 64 64] 77))
  clear hb1 hT1 hres hL1 hRow1
  go_wp2_with fail
  refine (c_s_Dense (R:=A) HA64.out H3.out (.inr rfl) (by omega) (nums_past HNA.out (HAl.out _)) (nums_past HE2.out (HT1.out.trans ((HAl.out _).mono HT1.out.size))) U2.out).mono ?_
  rintro e w2 ⟨g2,B,rfl,hL2,hRow2,hb2⟩
  simp only [World.size_alloc] at hRow2 hb2
  have hz2:w1.heap.size+1≤w2.heap.size:=by have:=hb2.size;simpa using this
  have HR2':Hid (RowI w2 (w1.heap.size+1) g2 B):=hRow2
  have HMf:=hide (HMg.out A B HL1.out hL2)
  have hg2:w1.heap.size<g2:=by have:=hRow2.lt.1;omega
  have r2:=(hb2.block w1.heap.size (by omega)).trans HN1.out
  have q0:w2.cell? ⟨w1.heap.size,0,none⟩=some (.slice none 0 0):=by rw [cell_of_row _ _ 0 _ _ (0,0) r2];rfl
  have q1:w2.cell? ⟨w1.heap.size,1,none⟩=some (.slice (some ⟨g1,0,none⟩) 64 64):=by rw [cell_of_row _ _ 1 _ _ (0,0) r2];rfl
  have f0:=fzR 0 r2
  have f1:=fzR 1 r2
  have HBx:=hide ((HAl.out (.cells #[.slice none 0 0,.slice (some ⟨g1,0,none⟩) 64 64] 77)).trans (hb2.mono (by omega)))
  have HBo:=hide (out_box r2 (.slice none 0 0) (.slice (some ⟨g2,0,none⟩) 64 64))
  clear hL2 hRow2 hb2 r2
  clear y0 y1 yA0
  obtain ⟨y0,y1⟩:=hl_past HKy.out HBx.out
  have HRw0:Hid (RowI ((w2.setCell ⟨w1.heap.size,0,none⟩ (.slice none 0 0)).setCell ⟨w1.heap.size,1,none⟩ (.slice (some ⟨g2,0,none⟩) 64 64)) (w1.heap.size+1) g2 (mxL B R2 0)):=by
   rw [mxL_zero]
   refine ⟨HR2'.out.1,?_⟩
   repeat (refine ownsRow_setCell_below ?_ (by simp) _)
   exact HR2'.out.2
  have HBl0:Hid (Below w1.heap.size w1 ((w2.setCell ⟨w1.heap.size,0,none⟩ (.slice none 0 0)).setCell ⟨w1.heap.size,1,none⟩ (.slice (some ⟨g2,0,none⟩) 64 64))):=(HBx.out.setCell (Nat.le_refl _) _).setCell (Nat.le_refl _) _
  have HB64:=hide HR2'.out.1
  clear HR2' HBx
  go_wp2_with fail
  clear q0 q1 f0 f1 y0 y1
  go_loopw [8] (fun iv wr=>∃ k:Nat,k≤64∧iv=.int .i64 k∧Hid (RowI wr (w1.heap.size+1) g2 (mxL B R2 k))∧Hid (wr.heap[w1.heap.size]?=some (.cells #[.slice none 0 0,.slice (some ⟨g2,0,none⟩) 64 64] 77 (0,0)))∧Hid (Below w1.heap.size w1 wr)) (fun iv wr=>64 - (Go.RowKit.intOf iv).toNat)
  case atStart=>exact ⟨0,Nat.zero_le _,rfl,HRw0,HBo,HBl0⟩
  case round=>
   clear HRw0 HBo HBl0
   obtain ⟨k,hk,rfl,HRw,HBo,HBl⟩:=hrel
   have hg2l:=HRw.out.lt.2
   have hszr:=HBl.out.size
   have HC:Hid (∀ W,Below wr.heap.size wr W→HlCell W (w.heap.size+1) (.slice eb n2 c2) (.slice rb 64 d2)∧HlCell W w1.heap.size (.slice none 0 0) (.slice (some ⟨g2,0,none⟩) 64 64)):=fun W hW=>by
    have hr:W.heap[w1.heap.size]?=some (.cells #[.slice none 0 0,.slice (some ⟨g2,0,none⟩) 64 64] 77 (0,0)):=by rw [hW.block _ (by omega)];exact HBo.out
    refine ⟨hl_past (hl_past HKy.out HBl.out) hW,?_,?_⟩
    ·rw [cell_of_row _ _ 0 _ _ (0,0) hr];rfl
    ·rw [cell_of_row _ _ 1 _ _ (0,0) hr];rfl
   by_cases hkn:k<64
   ·have hkm:(k:Int)<(64:Int):=by omega
    have hk64:(k:Int)<64:=by omega
    obtain ⟨b,off,e,hcell⟩:=HR2.out (by have:=H4.out;omega)
    subst e
    obtain ⟨y,hy⟩:∃ y,R2[k]?=some y:=⟨R2[k]'(by have:=H4.out;omega),List.getElem?_eq_getElem _⟩
    obtain ⟨u,hu⟩:∃ u,B.getD k 0=u:=⟨_,rfl⟩
    have hc0:=cell_past (chain HT1.out HBl.out) (hcell k y hy)
    have hu':u=(mxL B R2 k).getD k 0:=by rw [mxL_get B R2 k k (by rw [HB64.out];omega),if_neg (Nat.lt_irrefl _)];exact hu.symm
    have HCc:Hid (∀ W,Below wr.heap.size wr W→W.cell? ⟨b,off+k,none⟩=some (.int .i64 y)∧W.cell? ⟨g2,k,none⟩=some (.int .i64 u)):=fun W hW=>⟨cell_past hW hc0,(HRw.out.below hg2l hW).cell (by omega) hu'⟩
    have HSt:Hid ((mxL B R2 k).set k (max u y)=mxL B R2 (k+1)):=by
     have hyd:R2.getD k 0=y:=by rw [List.getD_eq_getElem?_getD,hy];rfl
     have:=mxL_set B R2 k (by rw [HB64.out];omega)
     rw [hu,hyd] at this;exact this
    clear hcell hc0 hu hu' hy
    have h0k:(0:Int)≤(k:Int):=by omega
    obtain ⟨⟨y0,y1⟩,⟨z0,z1⟩⟩:=HC.out wr (Below.refl _ _)
    go_wp2_with fail
    clear y0 y1 z0 z1
    have HS0:(fun W=>Below wr.heap.size wr W) wr.drew:=(Below.refl _ _).drew
    refine regionK (fun W=>Below wr.heap.size wr W) 15 (by kernel_rfl) ?_
    refine tkL (i:=0) (v:=.pointer (some ⟨w1.heap.size,1,none⟩)) rfl rfl HS0 (fun W hW=>?_) ?_
    ·obtain ⟨⟨y0,y1⟩,⟨z0,z1⟩⟩:=HC.out W hW
     go_simp
    refine tkL (i:=1) (v:=.slice (some ⟨g2,0,none⟩) 64 64) rfl rfl HS0 (fun W hW=>?_) ?_
    ·obtain ⟨⟨y0,y1⟩,⟨z0,z1⟩⟩:=HC.out W hW
     go_simp
    refine tkL (i:=2) (v:=.int .i64 (k:Int)) rfl rfl HS0 (fun W hW=>?_) ?_
    ·obtain ⟨⟨y0,y1⟩,⟨z0,z1⟩⟩:=HC.out W hW
     go_simp
    simp only [sA,sB,sC]
    refine tkL (i:=3) (v:=.pointer (some ⟨w1.heap.size,1,none⟩)) rfl rfl HS0 (fun W hW=>?_) ?_
    ·obtain ⟨⟨y0,y1⟩,⟨z0,z1⟩⟩:=HC.out W hW
     go_simp
    refine tkL (i:=4) (v:=.slice (some ⟨g2,0,none⟩) 64 64) rfl rfl HS0 (fun W hW=>?_) ?_
    ·obtain ⟨⟨y0,y1⟩,⟨z0,z1⟩⟩:=HC.out W hW
     go_simp
    refine tkL (i:=5) (v:=.int .i64 (k:Int)) rfl rfl HS0 (fun W hW=>?_) ?_
    ·obtain ⟨⟨y0,y1⟩,⟨z0,z1⟩⟩:=HC.out W hW
     go_simp
    simp only [sA,sB,sC]
    refine tkL (i:=6) (v:=.pointer (some ⟨g2,k,none⟩)) rfl rfl HS0 (fun W hW=>?_) ?_
    ·obtain ⟨⟨y0,y1⟩,⟨z0,z1⟩⟩:=HC.out W hW
     go_simp
    refine tkL (i:=7) (v:=.int .i64 u) rfl rfl HS0 (fun W hW=>?_) ?_
    ·obtain ⟨p0,p1⟩:=HCc.out W hW
     go_simp
    refine tkL (i:=8) (v:=.pointer (some ⟨w.heap.size+1,1,none⟩)) rfl rfl HS0 (fun W hW=>?_) ?_
    ·obtain ⟨⟨y0,y1⟩,⟨z0,z1⟩⟩:=HC.out W hW
     go_simp
    simp only [sA,sB,sC]
    refine tkL (i:=9) (v:=.slice (some ⟨b,off,none⟩) 64 d2) rfl rfl HS0 (fun W hW=>?_) ?_
    ·obtain ⟨⟨y0,y1⟩,⟨z0,z1⟩⟩:=HC.out W hW
     go_simp
    refine tkL (i:=10) (v:=.int .i64 (k:Int)) rfl rfl HS0 (fun W hW=>?_) ?_
    ·obtain ⟨⟨y0,y1⟩,⟨z0,z1⟩⟩:=HC.out W hW
     go_simp
    refine tkL (i:=11) (v:=.pointer (some ⟨b,off+k,none⟩)) rfl rfl HS0 (fun W hW=>?_) ?_
    ·obtain ⟨⟨y0,y1⟩,⟨z0,z1⟩⟩:=HC.out W hW
     go_simp
    simp only [sA,sB,sC]
    refine tkL (i:=12) (v:=.int .i64 y) rfl rfl HS0 (fun W hW=>?_) ?_
    ·obtain ⟨p0,p1⟩:=HCc.out W hW
     go_simp
    simp only [sA,sB,sC]
    refine onE (i:=13) rfl (fun K hK=>?_)
    go_simp
    refine (c_s_l01Max _ _ _).mono ?_
    rintro e wz ⟨rfl,hwz⟩
    obtain rfl:=hwz.symm
    dsimp only
    refine hK.out _ _ (fun _=>HS0) ?_
    clear hK K
    try simp only [Act.put,sA,sB,sC]
    refine tkL (i:=14) (v:=.pointer (some ⟨g2,k,none⟩)) rfl rfl HS0 (fun W hW=>?_) ?_
    ·obtain ⟨⟨y0,y1⟩,⟨z0,z1⟩⟩:=HC.out W hW
     go_simp
    simp only [sA,sB,sC]
    have gfz:wr.drew.frozen? ⟨g2,k,none⟩=false:=(HRw.out.below hg2l (Below.refl _ _).drew).froz k
    have gcl:=(HCc.out wr.drew (Below.refl _ _).drew).2
    refine onE (i:=15) rfl (fun K hK=>?_)
    go_simp
    refine hK.out _ _ (fun h=>absurd rfl h) ?_
    clear hK K
    try simp only [Act.put,sA,sB,sC]
    refine doneK (by kernel_rfl) ?_ _
    have HRn:Hid (RowI (wr.drew.setCell ⟨g2,k,none⟩ (.int .i64 (max u y))) (w1.heap.size+1) g2 (mxL B R2 (k+1))):=by
     rw [← HSt.out];exact (HRw.out.below hg2l (Below.refl _ _).drew).set k (max u y)
    have HBn:Hid (Below w1.heap.size w1 (wr.drew.setCell ⟨g2,k,none⟩ (.int .i64 (max u y)))):=(HBl.out.drew).setCell (by simp;omega) _
    have HBon:Hid ((wr.drew.setCell ⟨g2,k,none⟩ (.int .i64 (max u y))).heap[w1.heap.size]?=some (.cells #[.slice none 0 0,.slice (some ⟨g2,0,none⟩) 64 64] 77 (0,0))):=by
     rw [heap_setCell_other _ _ _ _ (by simp;omega)];exact HBo.out
    clear gfz gcl
    go_wp2
    go_roundw
    case rel=>exact ⟨k+1,by omega,by go_num,HRn,HBon,HBn⟩
    case measure=>simp [Go.RowKit.intOf];omega
   ·obtain rfl:k=64:=by omega
    obtain ⟨⟨y0,y1⟩,⟨z0,z1⟩⟩:=HC.out wr (Below.refl _ _)
    have r3:=(HBl.out.block (w.heap.size+1+1) (by omega)).trans HRs.out
    have q0:wr.cell? ⟨w.heap.size+1+1,0,none⟩=some (.slice none 0 0):=by rw [cell_of_row _ _ 0 _ _ (0,0) r3];rfl
    have q1':wr.cell? ⟨w.heap.size+1+1,1,none⟩=some (.slice none 0 0):=by rw [cell_of_row _ _ 1 _ _ (0,0) r3];rfl
    have f0:=fzR 0 r3
    have f1:=fzR 1 r3
    have HT2:=hide (chain HT1.out HBl.out)
    clear r3
    go_wp2
    refine bodyPost_ret (v:=.agg #[.slice none 0 0,.slice (some ⟨g2,0,none⟩) 64 64]) (by simp [results,Tryz.results159,go_sem,q0,q1']) rfl (MgOut.mk HMf.out ⟨_,_,rfl,World.ownsRow_nil _ _ _ _,?_⟩ ?_)
    ·refine own_le (B:=w1.heap.size+1) ?_ (by omega)
     repeat (refine ownsRow_setCell_below ?_ (by simp;omega) _)
     rw [HRw.out.1];exact HRw.out.2
    ·exact (HT2.out.setCell (by simp;omega) _).setCell (by simp;omega) _
 ·obtain rfl:m1=64:=by omega
  have hm2:m2≤64:=by omega
  clear hm1 hno l4 l2
  go_enter Tryz.func159,Tryz.ntmps159
  go_wp2_with fail
  refine (c_s_Dense H2.out H1.out (.inr rfl) (by omega) (nums_past HR1.out (HBa.out _ _ _)) (nums_past HE1.out (HBa.out _ _ _)) U1.out).mono ?_
  rintro e w1 ⟨g1,A,rfl,hL1,hRow1,hb1⟩
  obtain ⟨_,⟨y0,y1⟩,hres⟩:=mid_cell w _ _ _ _ _ _ _ _ _ w1 hb1
  have hz1:=hb1.size
  have hT1:Below w.heap.size w w1:=(HBa.out _ _ _).trans (hb1.mono (by simp;omega))
  simp only [World.size_alloc] at hz1 hRow1
  have HT1:=hide hT1
  have HRs:=hide hres
  have HL1:=hide hL1
  have HA64:=hide hRow1.1
  have HNA:Hid (NumsAt .i64 w1 (some ⟨g1,0,none⟩) A):=(fun _=>⟨g1,0,rfl,fun i x hx=>by
   have hi:=(List.getElem?_eq_some_iff.1 hx).1
   rw [Nat.zero_add]
   exact hRow1.cell (by have:=hRow1.1;omega) (by rw [List.getD_eq_getElem?_getD,hx];rfl)⟩)
  have HKy:Hid (HlCell w1 (w.heap.size+1) (.slice eb n2 c2) (.slice rb m2 d2)):=⟨y0,y1⟩
  have HAl:Hid (∀ o,Below w1.heap.size w1 (w1.alloc o)):=fun o=>(Below.refl _ _).alloc (Nat.le_refl _) _
  have yA0:∀ o,(w1.alloc o).cell? ⟨w.heap.size+1,0,none⟩=some (.slice eb n2 c2):=fun o=>cell_past (HAl.out o) y0
  have HN1:=hide (heap_alloc_new w1 (.cells #[.slice none 0 0,.slice (some ⟨g1,0,none⟩) 64 64] 77))
  clear hb1 hT1 hres hL1 hRow1
  go_wp2_with fail
  refine (c_s_Dense (R:=A) HA64.out H3.out (.inr rfl) (by omega) (nums_past HNA.out (HAl.out _)) (nums_past HE2.out (HT1.out.trans ((HAl.out _).mono HT1.out.size))) U2.out).mono ?_
  rintro e w2 ⟨g2,B,rfl,hL2,hRow2,hb2⟩
  simp only [World.size_alloc] at hRow2 hb2
  have hz2:w1.heap.size+1≤w2.heap.size:=by have:=hb2.size;simpa using this
  have HR2':Hid (RowI w2 (w1.heap.size+1) g2 B):=hRow2
  have HMf:=hide (HMg.out A B HL1.out hL2)
  have hg2:w1.heap.size<g2:=by have:=hRow2.lt.1;omega
  have r2:=(hb2.block w1.heap.size (by omega)).trans HN1.out
  have q0:w2.cell? ⟨w1.heap.size,0,none⟩=some (.slice none 0 0):=by rw [cell_of_row _ _ 0 _ _ (0,0) r2];rfl
  have q1:w2.cell? ⟨w1.heap.size,1,none⟩=some (.slice (some ⟨g1,0,none⟩) 64 64):=by rw [cell_of_row _ _ 1 _ _ (0,0) r2];rfl
  have f0:=fzR 0 r2
  have f1:=fzR 1 r2
  have HBx:=hide ((HAl.out (.cells #[.slice none 0 0,.slice (some ⟨g1,0,none⟩) 64 64] 77)).trans (hb2.mono (by omega)))
  have HBo:=hide (out_box r2 (.slice none 0 0) (.slice (some ⟨g2,0,none⟩) 64 64))
  clear hL2 hRow2 hb2 r2
  clear y0 y1 yA0
  obtain ⟨y0,y1⟩:=hl_past HKy.out HBx.out
  have HRw0:Hid (RowI ((w2.setCell ⟨w1.heap.size,0,none⟩ (.slice none 0 0)).setCell ⟨w1.heap.size,1,none⟩ (.slice (some ⟨g2,0,none⟩) 64 64)) (w1.heap.size+1) g2 (mxL B R2 0)):=by
   rw [mxL_zero]
   refine ⟨HR2'.out.1,?_⟩
   repeat (refine ownsRow_setCell_below ?_ (by simp) _)
   exact HR2'.out.2
  have HBl0:Hid (Below w1.heap.size w1 ((w2.setCell ⟨w1.heap.size,0,none⟩ (.slice none 0 0)).setCell ⟨w1.heap.size,1,none⟩ (.slice (some ⟨g2,0,none⟩) 64 64))):=(HBx.out.setCell (Nat.le_refl _) _).setCell (Nat.le_refl _) _
  have HB64:=hide HR2'.out.1
  clear HR2' HBx
  go_wp2_with fail
  clear q0 q1 f0 f1 y0 y1
  go_loopw [8] (fun iv wr=>∃ k:Nat,k≤m2∧iv=.int .i64 k∧Hid (RowI wr (w1.heap.size+1) g2 (mxL B R2 k))∧Hid (wr.heap[w1.heap.size]?=some (.cells #[.slice none 0 0,.slice (some ⟨g2,0,none⟩) 64 64] 77 (0,0)))∧Hid (Below w1.heap.size w1 wr)) (fun iv wr=>m2 - (Go.RowKit.intOf iv).toNat)
  case atStart=>exact ⟨0,Nat.zero_le _,rfl,HRw0,HBo,HBl0⟩
  case round=>
   clear HRw0 HBo HBl0
   obtain ⟨k,hk,rfl,HRw,HBo,HBl⟩:=hrel
   have hg2l:=HRw.out.lt.2
   have hszr:=HBl.out.size
   have HC:Hid (∀ W,Below wr.heap.size wr W→HlCell W (w.heap.size+1) (.slice eb n2 c2) (.slice rb m2 d2)∧HlCell W w1.heap.size (.slice none 0 0) (.slice (some ⟨g2,0,none⟩) 64 64)):=fun W hW=>by
    have hr:W.heap[w1.heap.size]?=some (.cells #[.slice none 0 0,.slice (some ⟨g2,0,none⟩) 64 64] 77 (0,0)):=by rw [hW.block _ (by omega)];exact HBo.out
    refine ⟨hl_past (hl_past HKy.out HBl.out) hW,?_,?_⟩
    ·rw [cell_of_row _ _ 0 _ _ (0,0) hr];rfl
    ·rw [cell_of_row _ _ 1 _ _ (0,0) hr];rfl
   by_cases hkn:k<m2
   ·have hkm:(k:Int)<(m2:Int):=by omega
    have hk64:(k:Int)<64:=by omega
    obtain ⟨b,off,e,hcell⟩:=HR2.out (by have:=H4.out;omega)
    subst e
    obtain ⟨y,hy⟩:∃ y,R2[k]?=some y:=⟨R2[k]'(by have:=H4.out;omega),List.getElem?_eq_getElem _⟩
    obtain ⟨u,hu⟩:∃ u,B.getD k 0=u:=⟨_,rfl⟩
    have hc0:=cell_past (chain HT1.out HBl.out) (hcell k y hy)
    have hu':u=(mxL B R2 k).getD k 0:=by rw [mxL_get B R2 k k (by rw [HB64.out];omega),if_neg (Nat.lt_irrefl _)];exact hu.symm
    have HCc:Hid (∀ W,Below wr.heap.size wr W→W.cell? ⟨b,off+k,none⟩=some (.int .i64 y)∧W.cell? ⟨g2,k,none⟩=some (.int .i64 u)):=fun W hW=>⟨cell_past hW hc0,(HRw.out.below hg2l hW).cell (by omega) hu'⟩
    have HSt:Hid ((mxL B R2 k).set k (max u y)=mxL B R2 (k+1)):=by
     have hyd:R2.getD k 0=y:=by rw [List.getD_eq_getElem?_getD,hy];rfl
     have:=mxL_set B R2 k (by rw [HB64.out];omega)
     rw [hu,hyd] at this;exact this
    clear hcell hc0 hu hu' hy
    have h0k:(0:Int)≤(k:Int):=by omega
    obtain ⟨⟨y0,y1⟩,⟨z0,z1⟩⟩:=HC.out wr (Below.refl _ _)
    go_wp2_with fail
    clear y0 y1 z0 z1
    have HS0:(fun W=>Below wr.heap.size wr W) wr.drew:=(Below.refl _ _).drew
    refine regionK (fun W=>Below wr.heap.size wr W) 15 (by kernel_rfl) ?_
    refine tkL (i:=0) (v:=.pointer (some ⟨w1.heap.size,1,none⟩)) rfl rfl HS0 (fun W hW=>?_) ?_
    ·obtain ⟨⟨y0,y1⟩,⟨z0,z1⟩⟩:=HC.out W hW
     go_simp
    refine tkL (i:=1) (v:=.slice (some ⟨g2,0,none⟩) 64 64) rfl rfl HS0 (fun W hW=>?_) ?_
    ·obtain ⟨⟨y0,y1⟩,⟨z0,z1⟩⟩:=HC.out W hW
     go_simp
    refine tkL (i:=2) (v:=.int .i64 (k:Int)) rfl rfl HS0 (fun W hW=>?_) ?_
    ·obtain ⟨⟨y0,y1⟩,⟨z0,z1⟩⟩:=HC.out W hW
     go_simp
    simp only [sA,sB,sC]
    refine tkL (i:=3) (v:=.pointer (some ⟨w1.heap.size,1,none⟩)) rfl rfl HS0 (fun W hW=>?_) ?_
    ·obtain ⟨⟨y0,y1⟩,⟨z0,z1⟩⟩:=HC.out W hW
     go_simp
    refine tkL (i:=4) (v:=.slice (some ⟨g2,0,none⟩) 64 64) rfl rfl HS0 (fun W hW=>?_) ?_
    ·obtain ⟨⟨y0,y1⟩,⟨z0,z1⟩⟩:=HC.out W hW
     go_simp
    refine tkL (i:=5) (v:=.int .i64 (k:Int)) rfl rfl HS0 (fun W hW=>?_) ?_
    ·obtain ⟨⟨y0,y1⟩,⟨z0,z1⟩⟩:=HC.out W hW
     go_simp
    simp only [sA,sB,sC]
    refine tkL (i:=6) (v:=.pointer (some ⟨g2,k,none⟩)) rfl rfl HS0 (fun W hW=>?_) ?_
    ·obtain ⟨⟨y0,y1⟩,⟨z0,z1⟩⟩:=HC.out W hW
     go_simp
    refine tkL (i:=7) (v:=.int .i64 u) rfl rfl HS0 (fun W hW=>?_) ?_
    ·obtain ⟨p0,p1⟩:=HCc.out W hW
     go_simp
    refine tkL (i:=8) (v:=.pointer (some ⟨w.heap.size+1,1,none⟩)) rfl rfl HS0 (fun W hW=>?_) ?_
    ·obtain ⟨⟨y0,y1⟩,⟨z0,z1⟩⟩:=HC.out W hW
     go_simp
    simp only [sA,sB,sC]
    refine tkL (i:=9) (v:=.slice (some ⟨b,off,none⟩) m2 d2) rfl rfl HS0 (fun W hW=>?_) ?_
    ·obtain ⟨⟨y0,y1⟩,⟨z0,z1⟩⟩:=HC.out W hW
     go_simp
    refine tkL (i:=10) (v:=.int .i64 (k:Int)) rfl rfl HS0 (fun W hW=>?_) ?_
    ·obtain ⟨⟨y0,y1⟩,⟨z0,z1⟩⟩:=HC.out W hW
     go_simp
    refine tkL (i:=11) (v:=.pointer (some ⟨b,off+k,none⟩)) rfl rfl HS0 (fun W hW=>?_) ?_
    ·obtain ⟨⟨y0,y1⟩,⟨z0,z1⟩⟩:=HC.out W hW
     go_simp
    simp only [sA,sB,sC]
    refine tkL (i:=12) (v:=.int .i64 y) rfl rfl HS0 (fun W hW=>?_) ?_
    ·obtain ⟨p0,p1⟩:=HCc.out W hW
     go_simp
    simp only [sA,sB,sC]
    refine onE (i:=13) rfl (fun K hK=>?_)
    go_simp
    refine (c_s_l01Max _ _ _).mono ?_
    rintro e wz ⟨rfl,hwz⟩
    obtain rfl:=hwz.symm
    dsimp only
    refine hK.out _ _ (fun _=>HS0) ?_
    clear hK K
    try simp only [Act.put,sA,sB,sC]
    refine tkL (i:=14) (v:=.pointer (some ⟨g2,k,none⟩)) rfl rfl HS0 (fun W hW=>?_) ?_
    ·obtain ⟨⟨y0,y1⟩,⟨z0,z1⟩⟩:=HC.out W hW
     go_simp
    simp only [sA,sB,sC]
    have gfz:wr.drew.frozen? ⟨g2,k,none⟩=false:=(HRw.out.below hg2l (Below.refl _ _).drew).froz k
    have gcl:=(HCc.out wr.drew (Below.refl _ _).drew).2
    refine onE (i:=15) rfl (fun K hK=>?_)
    go_simp
    refine hK.out _ _ (fun h=>absurd rfl h) ?_
    clear hK K
    try simp only [Act.put,sA,sB,sC]
    refine doneK (by kernel_rfl) ?_ _
    have HRn:Hid (RowI (wr.drew.setCell ⟨g2,k,none⟩ (.int .i64 (max u y))) (w1.heap.size+1) g2 (mxL B R2 (k+1))):=by
     rw [← HSt.out];exact (HRw.out.below hg2l (Below.refl _ _).drew).set k (max u y)
    have HBn:Hid (Below w1.heap.size w1 (wr.drew.setCell ⟨g2,k,none⟩ (.int .i64 (max u y)))):=(HBl.out.drew).setCell (by simp;omega) _
    have HBon:Hid ((wr.drew.setCell ⟨g2,k,none⟩ (.int .i64 (max u y))).heap[w1.heap.size]?=some (.cells #[.slice none 0 0,.slice (some ⟨g2,0,none⟩) 64 64] 77 (0,0))):=by
     rw [heap_setCell_other _ _ _ _ (by simp;omega)];exact HBo.out
    clear gfz gcl
    go_wp2
    go_roundw
    case rel=>exact ⟨k+1,by omega,by go_num,HRn,HBon,HBn⟩
    case measure=>simp [Go.RowKit.intOf];omega
   ·obtain rfl:k=m2:=by omega
    obtain ⟨⟨y0,y1⟩,⟨z0,z1⟩⟩:=HC.out wr (Below.refl _ _)
    have r3:=(HBl.out.block (w.heap.size+1+1) (by omega)).trans HRs.out
    have q0:wr.cell? ⟨w.heap.size+1+1,0,none⟩=some (.slice none 0 0):=by rw [cell_of_row _ _ 0 _ _ (0,0) r3];rfl
    have q1':wr.cell? ⟨w.heap.size+1+1,1,none⟩=some (.slice none 0 0):=by rw [cell_of_row _ _ 1 _ _ (0,0) r3];rfl
    have f0:=fzR 0 r3
    have f1:=fzR 1 r3
    have HT2:=hide (chain HT1.out HBl.out)
    clear r3
    go_wp2
    refine bodyPost_ret (v:=.agg #[.slice none 0 0,.slice (some ⟨g2,0,none⟩) 64 64]) (by simp [results,Tryz.results159,go_sem,q0,q1']) rfl (MgOut.mk HMf.out ⟨_,_,rfl,World.ownsRow_nil _ _ _ _,?_⟩ ?_)
    ·refine own_le (B:=w1.heap.size+1) ?_ (by omega)
     repeat (refine ownsRow_setCell_below ?_ (by simp;omega) _)
     rw [HRw.out.1];exact HRw.out.2
    ·exact (HT2.out.setCell (by simp;omega) _).setCell (by simp;omega) _
theorem c_s_MergeB {w:World} {ea ra eb rb:Option Addr} {n1 c1 m1 d1 n2 c2 m2 d2:Nat} {E1 R1 E2 R2:List Int} (q1:hlB E1 R1=true) (q2:hlB E2 R2=true) (h1:E1.length=n1) (h2:R1.length=m1) (h3:E2.length=n2) (h4:R2.length=m2) (c1e:ea=none→c1=0)
  (hE1:NumsAt .u64 w ea E1) (hR1:NumsAt .i64 w ra R1) (hE2:NumsAt .u64 w eb E2) (hR2:NumsAt .i64 w rb R2) (u1:∀ x∈E1,U64 x) (u2:∀ x∈E2,U64 x) :
  Calls Tryz.prog 159 #[.agg #[.slice ea n1 c1,.slice ra m1 d1],.agg #[.slice eb n2 c2,.slice rb m2 d2]] w fun e w'=>MgOut w E1 R1 E2 R2 e w':=by
 obtain ⟨a1,a2⟩:=hlB_len q1
 obtain ⟨b1,b2⟩:=hlB_len q2
 rw [h1] at a1;rw [h2] at a2;rw [h3] at b1;rw [h4] at b2
 by_cases h:m1=0∧m2=0
 ·obtain ⟨rfl,rfl⟩:=h
  obtain rfl:=List.eq_nil_of_length_eq_zero h2
  obtain rfl:=List.eq_nil_of_length_eq_zero h4
  have hu:upN E1=true:=by
   rcases hlB_parts q1 with ⟨_,k⟩ | ⟨k,_⟩
   ·exact k
   ·simp at k
  exact c_s_MergeE h1 h3 a1 b1 hu c1e hE1 hE2 u1 u2
 ·exact c_s_MergeR h1 h2 h3 h4 a1 a2 b1 b2 h hE1 hR1 hE2 hR2 u1 u2
end Go.Proofs.YtiiclgcpagdekaaGreatDoor
