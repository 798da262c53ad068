/-
 Plain facts on products of 64 bits, on the complement and on the negative of a wide number. Of no program.
-/
import Derived.Laws.MathBits
import Derived.DataShut
import Derived.Test.YtiiclgcpagdekaaGreatDoorMJT
namespace Go.Proofs.YtiiclgcpagdekaaGreatDoor
open Go.RowKit
def mulH (x y:Int):Int:=x*y / 18446744073709551616
def negH (a b:Int):Int:=wrap64 (-a - (if b=0 then 0 else 1))
def negL (b:Int):Int:=uw (-b)
def thH (n w:Int):Int:=wrap64 (n*w / 18446744073709551616)
def thL (n w:Int):Int:=uw (n*w)
open Go.ChangeAt Go.ChangeShapes Go.WideShapes
set_option linter.unusedVariables false
set_option linter.unusedSimpArgs false
set_option maxRecDepth 10000
open Go.Lib Go.PlainAid
def putZ (z v wt:Int):Int:=if v=0 then wAdd z wt else z
def putP (P:List Bn) (v wt:Int):List Bn:=if 0<v then gatL P [(binI v,wt)] else P
def putN (N:List Bn) (v wt:Int):List Bn:=if v<0 then gatL N [(binI (-v),wt)] else N
def putOk (P N:List Bn) (v wt:Int):Prop:=skB P N=true∧(-999999999999999999≤v∧v≤999999999999999999)∧wt≠0
abbrev NumAt' (w:World) (g:Nat) (x:Int):Prop:=w.cell? ⟨g,0,none⟩=some (.int .u64 x)
def putPS (P:List Bn) (v wt:Int):List Bn:=if 0<v then keepL (mrg P [(binI v,wt)]) else P
def putNS (N:List Bn) (v wt:Int):List Bn:=if v<0 then keepL (mrg N [(binI (-v),wt)]) else N
theorem rise_of:∀ {L:List Bn} {q:Int},riseB q L=true→Rise L∧∀ x∈L,q<x.1
 | [],_,_=>⟨rise_nil,fun x hx=>by simp at hx⟩
 | y :: r,q,h=>by
  simp only [riseB,Bool.and_eq_true,decide_eq_true_eq] at h
  obtain ⟨⟨⟨h1,h2⟩,h3⟩,h4⟩:=h
  obtain ⟨k1,k2⟩:=rise_of h4
  refine ⟨rise_cons.2 ⟨k2,k1⟩,fun x hx=>?_⟩
  rcases List.mem_cons.1 hx with rfl | hx
  ·exact h1
  ·have:=k2 x hx;omega
theorem bins_rise {L:List Bn} (h:binsB L=true):Rise L∧L.length≤30:=by
 unfold binsB at h
 simp only [Bool.and_eq_true,decide_eq_true_eq] at h
 exact ⟨(rise_of h.2).1,h.1⟩
theorem sk_rise {P N:List Bn} (h:skB P N=true):(Rise P∧P.length≤30)∧Rise N∧N.length≤30:=by
 unfold skB at h
 simp only [Bool.and_eq_true] at h
 exact ⟨bins_rise h.1,bins_rise h.2⟩
theorem gat_mrg {P N:List Bn} (hP:Rise P) (hN:Rise N):gatL P N=keepL (mrg P N):=by
 unfold gatL
 rw [insAll_nil hP,insAll_mrg hN]
abbrev sk5 (w:World) (r:Nat) (Z:Int) (p n:Value) (H L:Int):World:=((((w.setCell ⟨r,0,none⟩ (.int .u64 Z)).setCell ⟨r,1,none⟩ p).setCell ⟨r,2,none⟩ n).setCell ⟨r,3,none⟩ (.int .i64 H)).setCell ⟨r,4,none⟩ (.int .u64 L)
theorem sk_store {w w2:World} {r a b:Nat} {Z H L:Int} {p n:Value} {P N:List Bn} (hT:Below w.heap.size w w2) (hr:w2.heap[r]?=some (.cells zeroSk 73 (0,0))) (hwr:w.heap.size≤r) (hp:OwnB w2 w.heap.size p a P) (hn:OwnB w2 w.heap.size n b N) (hap:Apart p n) :
  SkOut (sk5 w2 r Z p n H L) w.heap.size (.agg #[.int .u64 Z,p,n,.int .i64 H,.int .u64 L]) Z P N H L∧Below w.heap.size w (sk5 w2 r Z p n H L):=by
 have q1:=hp.ne hr (by decide)
 have q2:=hn.ne hr (by decide)
 refine ⟨⟨p,n,a,b,rfl,((((hp.set q1 _).set q1 _).set q1 _).set q1 _).set q1 _,((((hn.set q2 _).set q2 _).set q2 _).set q2 _).set q2 _,hap⟩,?_⟩
 repeat (refine Below.setCell ?_ hwr _)
 exact hT
def mrgOk (P N P' N':List Bn):Prop:=skB P N=true∧skB P' N'=true
theorem zero_out {w w1:World} {r:Nat} (hT:Below w.heap.size w w1) (hr:w1.heap[r]?=some (.cells zeroSk 73 (0,0))) (hwr:w.heap.size≤r) :
  SkOut (sk5 w1 r 0 (.slice none 0 0) (.slice none 0 0) 0 0) w.heap.size (.agg #[.int .u64 0,.slice none 0 0,.slice none 0 0,.int .i64 0,.int .u64 0]) 0 [] [] 0 0∧Below w.heap.size w (sk5 w1 r 0 (.slice none 0 0) (.slice none 0 0) 0 0):=
 sk_store (a:=0) (b:=0) hT hr hwr ⟨rfl,.inl ⟨rfl,rfl⟩⟩ ⟨rfl,.inl ⟨rfl,rfl⟩⟩ (fun k e=>by cases e)
set_option maxHeartbeats 4000000 in
theorem c_s_l03Merge {w:World} {z h l z' h' l':Int} {pa na pb nb:Option Addr} {pn pc nn nc pm pd nm nd:Nat} {P N P' N':List Bn} (hz:U64 z) (hl0:U64 l) (hz':U64 z') (hl0':U64 l') (hp:P.length=pn) (hn:N.length=nn) (hp':P'.length=pm) (hn':N'.length=nm) (lp:pn≤30) (ln:nn≤30) (lp':pm≤30) (ln':nm≤30) (hP:BinsAt w pa P) (hN:BinsAt w na N) (hP':BinsAt w pb P') (hN':BinsAt w nb N') (kP:∀ x∈P,BnOk x) (kN:∀ x∈N,BnOk x) (kP':∀ x∈P',BnOk x) (kN':∀ x∈N',BnOk x) :
  Calls Tryz.prog 158 #[.agg #[.int .u64 z,.slice pa pn pc,.slice na nn nc,.int .i64 h,.int .u64 l],.agg #[.int .u64 z',.slice pb pm pd,.slice nb nm nd,.int .i64 h',.int .u64 l']] w fun e w'=>∃ v,e=.returned v∧Below w.heap.size w w'∧SkOut w' w.heap.size v (wAdd z z') (keepL (mrg P P')) (keepL (mrg N N')) (addH h l h' l') (addL l l'):=by
 have HP:=hide hP
 have HN:=hide hN
 have KP:=hide kP
 have KN:=hide kN
 have HP':=hide hP'
 have HN':=hide hN'
 have KP':=hide kP'
 have KN':=hide kN'
 clear hP hN kP kN hP' hN' kP' kN'
 go_enter Tryz.func158,Tryz.ntmps158
 go_wp2_with fail
 generalize hW0:((w.alloc (Obj.cells #[.int .u64 z,.slice pa pn pc,.slice na nn nc,.int .i64 h,.int .u64 l] 73)).alloc (Obj.cells #[.int .u64 z',.slice pb pm pd,.slice nb nm nd,.int .i64 h',.int .u64 l'] 73)).alloc (Obj.cells zeroSk 73)=W0
 have T0:Below w.heap.size w W0:=by rw [← hW0];exact (((Below.refl _ _).alloc (Nat.le_refl _) _).alloc (by simp) _).alloc (by simp;omega) _
 have K0:SkCell W0 w.heap.size z (.slice pa pn pc) (.slice na nn nc) h l:=by rw [← hW0];exact sk_past (sk_new w _ _ _ _ _ _) (((Below.refl _ _).alloc (Nat.le_refl _) _).alloc (by simp) _)
 have J0:SkCell W0 (w.heap.size+1) z' (.slice pb pm pd) (.slice nb nm nd) h' l':=by
  rw [← hW0]
  have:=sk_new (w.alloc (Obj.cells #[.int .u64 z,.slice pa pn pc,.slice na nn nc,.int .i64 h,.int .u64 l] 73)) 73 z' h' l' (.slice pb pm pd) (.slice nb nm nd)
  exact sk_past (by simpa using this) ((Below.refl _ _).alloc (Nat.le_refl _) _)
 have R0:W0.heap[w.heap.size+1+1]?=some (.cells zeroSk 73 (0,0)):=by rw [← hW0];simpa using heap_alloc_new ((w.alloc (Obj.cells #[.int .u64 z,.slice pa pn pc,.slice na nn nc,.int .i64 h,.int .u64 l] 73)).alloc (Obj.cells #[.int .u64 z',.slice pb pm pd,.slice nb nm nd,.int .i64 h',.int .u64 l'] 73)) (Obj.cells zeroSk 73)
 have hsz0:W0.heap.size=w.heap.size+3:=by rw [← hW0];simp
 clear hW0
 have HT0:=hide T0
 clear T0
 have hC:∀ W,Below W0.heap.size W0 W→SkCell W w.heap.size z (.slice pa pn pc) (.slice na nn nc) h l∧SkCell W (w.heap.size+1) z' (.slice pb pm pd) (.slice nb nm nd) h' l'∧W.heap[w.heap.size+1+1]?=some (.cells zeroSk 73 (0,0)):=fun W hW=>⟨sk_past K0 hW,sk_past J0 hW,by rw [hW.block _ (by omega)];exact R0⟩
 have HC:=hide hC
 have HTW:=hide HT0.out
 clear hC K0 J0 R0
 have HS0:(fun W=>Below W0.heap.size W0 W) W0.drew:=(Below.refl _ _).drew
 refine regionK (fun W=>Below W0.heap.size W0 W) 21 (by kernel_rfl) ?_
 refine tkL (i:=0) (v:=.pointer (some ⟨w.heap.size,0,none⟩)) rfl rfl HS0 (fun W hW=>?_) ?_
 ·obtain ⟨⟨x0,x1,x2,x3,x4⟩,⟨y0,y1,y2,y3,y4⟩,_⟩:=HC.out W hW
  go_simp
 refine tkL (i:=1) (v:=.int .u64 z) rfl rfl HS0 (fun W hW=>?_) ?_
 ·obtain ⟨⟨x0,x1,x2,x3,x4⟩,⟨y0,y1,y2,y3,y4⟩,_⟩:=HC.out W hW
  go_simp
 refine tkL (i:=2) (v:=.pointer (some ⟨w.heap.size+1,0,none⟩)) rfl rfl HS0 (fun W hW=>?_) ?_
 ·obtain ⟨⟨x0,x1,x2,x3,x4⟩,⟨y0,y1,y2,y3,y4⟩,_⟩:=HC.out W hW
  go_simp
 simp only [sA,sB,sC]
 refine tkL (i:=3) (v:=.int .u64 z') rfl rfl HS0 (fun W hW=>?_) ?_
 ·obtain ⟨⟨x0,x1,x2,x3,x4⟩,⟨y0,y1,y2,y3,y4⟩,_⟩:=HC.out W hW
  go_simp
 refine tkL (i:=5) (v:=.pointer (some ⟨w.heap.size,1,none⟩)) rfl rfl HS0 (fun W hW=>?_) ?_
 ·obtain ⟨⟨x0,x1,x2,x3,x4⟩,⟨y0,y1,y2,y3,y4⟩,_⟩:=HC.out W hW
  go_simp
 refine tkL (i:=6) (v:=.slice pa pn pc) rfl rfl HS0 (fun W hW=>?_) ?_
 ·obtain ⟨⟨x0,x1,x2,x3,x4⟩,⟨y0,y1,y2,y3,y4⟩,_⟩:=HC.out W hW
  go_simp
 simp only [sA,sB,sC]
 refine tkL (i:=7) (v:=.pointer (some ⟨w.heap.size+1,1,none⟩)) rfl rfl HS0 (fun W hW=>?_) ?_
 ·obtain ⟨⟨x0,x1,x2,x3,x4⟩,⟨y0,y1,y2,y3,y4⟩,_⟩:=HC.out W hW
  go_simp
 refine tkL (i:=8) (v:=.slice pb pm pd) rfl rfl HS0 (fun W hW=>?_) ?_
 ·obtain ⟨⟨x0,x1,x2,x3,x4⟩,⟨y0,y1,y2,y3,y4⟩,_⟩:=HC.out W hW
  go_simp
 refine tkL (i:=10) (v:=.pointer (some ⟨w.heap.size,2,none⟩)) rfl rfl HS0 (fun W hW=>?_) ?_
 ·obtain ⟨⟨x0,x1,x2,x3,x4⟩,⟨y0,y1,y2,y3,y4⟩,_⟩:=HC.out W hW
  go_simp
 simp only [sA,sB,sC]
 refine tkL (i:=11) (v:=.slice na nn nc) rfl rfl HS0 (fun W hW=>?_) ?_
 ·obtain ⟨⟨x0,x1,x2,x3,x4⟩,⟨y0,y1,y2,y3,y4⟩,_⟩:=HC.out W hW
  go_simp
 refine tkL (i:=12) (v:=.pointer (some ⟨w.heap.size+1,2,none⟩)) rfl rfl HS0 (fun W hW=>?_) ?_
 ·obtain ⟨⟨x0,x1,x2,x3,x4⟩,⟨y0,y1,y2,y3,y4⟩,_⟩:=HC.out W hW
  go_simp
 refine tkL (i:=13) (v:=.slice nb nm nd) rfl rfl HS0 (fun W hW=>?_) ?_
 ·obtain ⟨⟨x0,x1,x2,x3,x4⟩,⟨y0,y1,y2,y3,y4⟩,_⟩:=HC.out W hW
  go_simp
 simp only [sA,sB,sC]
 refine tkL (i:=15) (v:=.pointer (some ⟨w.heap.size,3,none⟩)) rfl rfl HS0 (fun W hW=>?_) ?_
 ·obtain ⟨⟨x0,x1,x2,x3,x4⟩,⟨y0,y1,y2,y3,y4⟩,_⟩:=HC.out W hW
  go_simp
 refine tkL (i:=16) (v:=.agg #[.int .i64 h,.int .u64 l]) rfl rfl HS0 (fun W hW=>?_) ?_
 ·obtain ⟨⟨x0,x1,x2,x3,x4⟩,⟨y0,y1,y2,y3,y4⟩,_⟩:=HC.out W hW
  go_simp
 refine tkL (i:=17) (v:=.pointer (some ⟨w.heap.size+1,3,none⟩)) rfl rfl HS0 (fun W hW=>?_) ?_
 ·obtain ⟨⟨x0,x1,x2,x3,x4⟩,⟨y0,y1,y2,y3,y4⟩,_⟩:=HC.out W hW
  go_simp
 simp only [sA,sB,sC]
 refine tkL (i:=18) (v:=.agg #[.int .i64 h',.int .u64 l']) rfl rfl HS0 (fun W hW=>?_) ?_
 ·obtain ⟨⟨x0,x1,x2,x3,x4⟩,⟨y0,y1,y2,y3,y4⟩,_⟩:=HC.out W hW
  go_simp
 simp only [sA,sB,sC]
 refine onE (i:=4) rfl (fun K hK=>?_)
 go_simp
 refine (c_s_WeightAdd _ _ hz hz' _).mono ?_
 rintro e w4 ⟨rfl,rfl⟩
 dsimp only
 refine hK.out _ _ (fun _=>HS0) ?_
 clear hK K
 try simp only [Act.put,sA,sB,sC]
 refine onE (i:=9) rfl (fun K hK=>?_)
 go_simp
 refine (c_s_l03Gather _ _ _ _ hp hp' (by omega) (by omega) (bins_past HP.out (chain HTW.out HS0)) (bins_past HP'.out (chain HTW.out HS0)) KP.out KP'.out).mono ?_
 rintro e w5 ⟨v5,n5,rfl,hr5,hn5,hb5⟩
 have ho5:=OwnB.of hr5 hn5
 clear hr5 hn5
 dsimp only
 have HB5:=hide ((HS0:Below W0.heap.size W0 W0.drew).trans hb5)
 have HO5:=hide (ho5.le (B':=w.heap.size) HTW.out.size)
 obtain ⟨ao5,c5,rfl⟩:=ho5.any
 clear ho5 hb5
 refine hK.out _ _ (fun _=>HB5.out) ?_
 clear hK K
 try simp only [Act.put,sA,sB,sC]
 refine onE (i:=14) rfl (fun K hK=>?_)
 go_simp
 refine (c_s_l03Gather _ _ _ _ hn hn' (by omega) (by omega) (bins_past HN.out (chain HTW.out HB5.out)) (bins_past HN'.out (chain HTW.out HB5.out)) KN.out KN'.out).mono ?_
 rintro e w6 ⟨v6,n6,rfl,hr6,hn6,hb6⟩
 have ho6:=OwnB.of hr6 hn6
 clear hr6 hn6
 dsimp only
 have HB6:=hide (chain HB5.out hb6)
 have HO56:=hide (HO5.out.past hb6)
 have HAp:Hid (Apart (.slice ao5 n5 c5) v6):=(fun k e1 e2=>by have:=(HO5.out.lt k e1).2;have:=(ho6.lt k e2).1;omega:Apart (.slice ao5 n5 c5) v6)
 have HO6:=hide (ho6.le (B':=w.heap.size) (by have:=HTW.out.size;have:=HB5.out.size;omega))
 obtain ⟨ao6,c6,rfl⟩:=ho6.any
 clear ho6 hb6
 refine hK.out _ _ (fun _=>HB6.out) ?_
 clear hK K
 try simp only [Act.put,sA,sB,sC]
 refine onE (i:=19) rfl (fun K hK=>?_)
 go_simp
 refine (c_s_WideAdd _ _ _ _ _ hl0 hl0').mono ?_
 rintro e w7 ⟨rfl,hb7⟩
 dsimp only
 have HB7:=hide (chain HB6.out hb7)
 have HO57:=hide (HO56.out.past hb7)
 have HO67:=hide (HO6.out.past hb7)
 clear hb7
 refine hK.out _ _ (fun _=>HB7.out) ?_
 clear hK K
 try simp only [Act.put,sA,sB,sC]
 obtain ⟨Z7,hZ7⟩:∃ X,wAdd z z'=X:=⟨_,rfl⟩
 obtain ⟨H7,hH7⟩:∃ X,addH h l h' l'=X:=⟨_,rfl⟩
 obtain ⟨L7,hL7⟩:∃ X,addL l l'=X:=⟨_,rfl⟩
 rw [hZ7,hH7,hL7]
 have HE:=hide (And.intro hZ7 (And.intro hH7 hL7))
 clear hZ7 hH7 hL7
 refine tkS (i:=20) (v:=.agg #[.int .u64 Z7,.slice ao5 n5 c5,.slice ao6 n6 c6,.int .i64 H7,.int .u64 L7]) rfl rfl HB7.out ?_
 simp only [sA,sB,sC]
 have R7:=(HC.out _ HB7.out).2.2
 have HF:=hide (sk_store (Z:=Z7) (H:=H7) (L:=L7) (chain HTW.out HB7.out) R7 (by omega) HO57.out HO67.out HAp.out)
 obtain ⟨q0,q1,q2,q3,q4⟩:=cell5 R7
 have f0:=fzR 0 R7
 have f1:=fzR 1 R7
 have f2:=fzR 2 R7
 have f3:=fzR 3 R7
 have f4:=fzR 4 R7
 refine onE (i:=21) rfl (fun K hK=>?_)
 go_simp
 refine hK.out _ _ (fun h=>absurd rfl h) ?_
 clear hK K
 try simp only [Act.put,sA,sB,sC]
 refine doneK (by kernel_rfl) ?_ _
 clear R7 HC
 go_wp2
 refine bodyPost_ret (v:=.agg #[.int .u64 Z7,.slice ao5 n5 c5,.slice ao6 n6 c6,.int .i64 H7,.int .u64 L7]) (by simp [results,Tryz.results158,go_sem,q0,q1,q2,q3,q4]) rfl ⟨_,rfl,HF.out.2,by rw [HE.out.1,HE.out.2.1,HE.out.2.2];exact HF.out.1⟩
set_option maxHeartbeats 4000000 in
theorem c_i_SketchMerge {w:World} {z h l z' h' l':Int} {pa na pb nb:Option Addr} {pn pc nn nc pm pd nm nd:Nat} {P N P' N':List Bn} (hz:U64 z) (hl0:U64 l) (hz':U64 z') (hl0':U64 l') (hp:P.length=pn) (hn:N.length=nn) (hp':P'.length=pm) (hn':N'.length=nm) (lp:pn≤1048576) (ln:nn≤1048576) (lp':pm≤1048576) (ln':nm≤1048576) (hP:BinsAt w pa P) (hN:BinsAt w na N) (hP':BinsAt w pb P') (hN':BinsAt w nb N') (kP:∀ x∈P,BnOk x) (kN:∀ x∈N,BnOk x) (kP':∀ x∈P',BnOk x) (kN':∀ x∈N',BnOk x) :
  Calls Tryz.prog 303 #[.agg #[.int .u64 z,.slice pa pn pc,.slice na nn nc,.int .i64 h,.int .u64 l],.agg #[.int .u64 z',.slice pb pm pd,.slice nb nm nd,.int .i64 h',.int .u64 l']] w fun e w'=>∃ v,e=.returned v∧Below w.heap.size w w'∧((mrgOk P N P' N'∧SkOut w' w.heap.size v (wAdd z z') (gatL P P') (gatL N N') (addH h l h' l') (addL l l'))∨(¬ mrgOk P N P' N'∧SkOut w' w.heap.size v 0 [] [] 0 0)):=by
 have HP:=hide hP
 have HN:=hide hN
 have KP:=hide kP
 have KN:=hide kN
 have HP':=hide hP'
 have HN':=hide hN'
 have KP':=hide kP'
 have KN':=hide kN'
 clear hP hN kP kN hP' hN' kP' kN'
 cases hs:skB P N with
 | false=>
  have HNo:Hid (¬ mrgOk P N P' N'):=fun h=>by rw [h.1] at hs;cases hs
  go_enter Tryz.func303,Tryz.ntmps303
  go_wp2_with fail
  generalize hW0:((w.alloc (Obj.cells #[.int .u64 z,.slice pa pn pc,.slice na nn nc,.int .i64 h,.int .u64 l] 73)).alloc (Obj.cells #[.int .u64 z',.slice pb pm pd,.slice nb nm nd,.int .i64 h',.int .u64 l'] 73)).alloc (Obj.cells zeroSk 73)=W0
  have T0:Below w.heap.size w W0:=by rw [← hW0];exact (((Below.refl _ _).alloc (Nat.le_refl _) _).alloc (by simp) _).alloc (by simp;omega) _
  have K0:SkCell W0 w.heap.size z (.slice pa pn pc) (.slice na nn nc) h l:=by rw [← hW0];exact sk_past (sk_new w _ _ _ _ _ _) (((Below.refl _ _).alloc (Nat.le_refl _) _).alloc (by simp) _)
  have J0:SkCell W0 (w.heap.size+1) z' (.slice pb pm pd) (.slice nb nm nd) h' l':=by
   rw [← hW0]
   have:=sk_new (w.alloc (Obj.cells #[.int .u64 z,.slice pa pn pc,.slice na nn nc,.int .i64 h,.int .u64 l] 73)) 73 z' h' l' (.slice pb pm pd) (.slice nb nm nd)
   exact sk_past (by simpa using this) ((Below.refl _ _).alloc (Nat.le_refl _) _)
  have R0:W0.heap[w.heap.size+1+1]?=some (.cells zeroSk 73 (0,0)):=by rw [← hW0];simpa using heap_alloc_new ((w.alloc (Obj.cells #[.int .u64 z,.slice pa pn pc,.slice na nn nc,.int .i64 h,.int .u64 l] 73)).alloc (Obj.cells #[.int .u64 z',.slice pb pm pd,.slice nb nm nd,.int .i64 h',.int .u64 l'] 73)) (Obj.cells zeroSk 73)
  have hsz0:W0.heap.size=w.heap.size+3:=by rw [← hW0];simp
  clear hW0
  have HT0:=hide T0
  clear T0
  refine (c_i_SketchRight hp hn lp ln (bins_past HP.out HT0.out) (bins_past HN.out HT0.out) KP.out KN.out).mono ?_
  rintro e w1 ⟨rfl,hb1⟩
  rw [hs]
  have HT1:=hide (chain HT0.out hb1)
  have K1:=sk_past K0 hb1
  have J1:=sk_past J0 hb1
  have R1:w1.heap[w.heap.size+1+1]?=some (.cells zeroSk 73 (0,0)):=by rw [hb1.block _ (by omega)];exact R0
  clear hb1 K0 J0 R0
  clear hs
  have HF:=hide (zero_out HT1.out R1 (by omega))
  obtain ⟨q0,q1,q2,q3,q4⟩:=cell5 R1
  have f0:=fzR 0 R1
  have f1:=fzR 1 R1
  have f2:=fzR 2 R1
  have f3:=fzR 3 R1
  have f4:=fzR 4 R1
  clear R1
  go_wp2
  refine bodyPost_ret (v:=.agg #[.int .u64 0,.slice none 0 0,.slice none 0 0,.int .i64 0,.int .u64 0]) (by simp [results,Tryz.results303,go_sem,q0,q1,q2,q3,q4]) rfl ⟨_,rfl,HF.out.2,.inr ⟨HNo.out,HF.out.1⟩⟩
 | true=>
  have hr:=sk_rise hs
  have hp30:=hr.1.2
  have hn30:=hr.2.2
  clear hr
  cases hs':skB P' N' with
  | false=>
   have HNo:Hid (¬ mrgOk P N P' N'):=fun h=>by rw [h.2] at hs'; cases hs'
   go_enter Tryz.func303,Tryz.ntmps303
   go_wp2_with fail
   generalize hW0:((w.alloc (Obj.cells #[.int .u64 z,.slice pa pn pc,.slice na nn nc,.int .i64 h,.int .u64 l] 73)).alloc (Obj.cells #[.int .u64 z',.slice pb pm pd,.slice nb nm nd,.int .i64 h',.int .u64 l'] 73)).alloc (Obj.cells zeroSk 73)=W0
   have T0:Below w.heap.size w W0:=by rw [← hW0];exact (((Below.refl _ _).alloc (Nat.le_refl _) _).alloc (by simp) _).alloc (by simp;omega) _
   have K0:SkCell W0 w.heap.size z (.slice pa pn pc) (.slice na nn nc) h l:=by rw [← hW0];exact sk_past (sk_new w _ _ _ _ _ _) (((Below.refl _ _).alloc (Nat.le_refl _) _).alloc (by simp) _)
   have J0:SkCell W0 (w.heap.size+1) z' (.slice pb pm pd) (.slice nb nm nd) h' l':=by
    rw [← hW0]
    have:=sk_new (w.alloc (Obj.cells #[.int .u64 z,.slice pa pn pc,.slice na nn nc,.int .i64 h,.int .u64 l] 73)) 73 z' h' l' (.slice pb pm pd) (.slice nb nm nd)
    exact sk_past (by simpa using this) ((Below.refl _ _).alloc (Nat.le_refl _) _)
   have R0:W0.heap[w.heap.size+1+1]?=some (.cells zeroSk 73 (0,0)):=by rw [← hW0];simpa using heap_alloc_new ((w.alloc (Obj.cells #[.int .u64 z,.slice pa pn pc,.slice na nn nc,.int .i64 h,.int .u64 l] 73)).alloc (Obj.cells #[.int .u64 z',.slice pb pm pd,.slice nb nm nd,.int .i64 h',.int .u64 l'] 73)) (Obj.cells zeroSk 73)
   have hsz0:W0.heap.size=w.heap.size+3:=by rw [← hW0];simp
   clear hW0
   have HT0:=hide T0
   clear T0
   refine (c_i_SketchRight hp hn lp ln (bins_past HP.out HT0.out) (bins_past HN.out HT0.out) KP.out KN.out).mono ?_
   rintro e w1 ⟨rfl,hb1⟩
   rw [hs]
   have HT1:=hide (chain HT0.out hb1)
   have K1:=sk_past K0 hb1
   have J1:=sk_past J0 hb1
   have R1:w1.heap[w.heap.size+1+1]?=some (.cells zeroSk 73 (0,0)):=by rw [hb1.block _ (by omega)];exact R0
   clear hb1 K0 J0 R0
   go_wp2_with fail
   refine (c_i_SketchRight hp' hn' lp' ln' (bins_past HP'.out HT1.out) (bins_past HN'.out HT1.out) KP'.out KN'.out).mono ?_
   rintro e w2 ⟨rfl,hb2⟩
   rw [hs']
   have HT2:=hide (chain HT1.out hb2)
   have K2:=sk_past K1 hb2
   have J2:=sk_past J1 hb2
   have hz1:w.heap.size+1+1<w1.heap.size:=(Array.getElem?_eq_some_iff.1 R1).1
   have R2:w2.heap[w.heap.size+1+1]?=some (.cells zeroSk 73 (0,0)):=by rw [hb2.block _ hz1];exact R1
   clear hb2 K1 J1 R1
   clear hs hs'
   have HF:=hide (zero_out HT2.out R2 (by omega))
   obtain ⟨q0,q1,q2,q3,q4⟩:=cell5 R2
   have f0:=fzR 0 R2
   have f1:=fzR 1 R2
   have f2:=fzR 2 R2
   have f3:=fzR 3 R2
   have f4:=fzR 4 R2
   clear R2
   go_wp2
   refine bodyPost_ret (v:=.agg #[.int .u64 0,.slice none 0 0,.slice none 0 0,.int .i64 0,.int .u64 0]) (by simp [results,Tryz.results303,go_sem,q0,q1,q2,q3,q4]) rfl ⟨_,rfl,HF.out.2,.inr ⟨HNo.out,HF.out.1⟩⟩
  | true=>
   have hr:=sk_rise hs'
   have hp30':=hr.1.2
   have hn30':=hr.2.2
   clear hr
   have HYes:Hid (mrgOk P N P' N'):=(⟨hs,hs'⟩:mrgOk P N P' N')
   go_enter Tryz.func303,Tryz.ntmps303
   go_wp2_with fail
   generalize hW0:((w.alloc (Obj.cells #[.int .u64 z,.slice pa pn pc,.slice na nn nc,.int .i64 h,.int .u64 l] 73)).alloc (Obj.cells #[.int .u64 z',.slice pb pm pd,.slice nb nm nd,.int .i64 h',.int .u64 l'] 73)).alloc (Obj.cells zeroSk 73)=W0
   have T0:Below w.heap.size w W0:=by rw [← hW0];exact (((Below.refl _ _).alloc (Nat.le_refl _) _).alloc (by simp) _).alloc (by simp;omega) _
   have K0:SkCell W0 w.heap.size z (.slice pa pn pc) (.slice na nn nc) h l:=by rw [← hW0];exact sk_past (sk_new w _ _ _ _ _ _) (((Below.refl _ _).alloc (Nat.le_refl _) _).alloc (by simp) _)
   have J0:SkCell W0 (w.heap.size+1) z' (.slice pb pm pd) (.slice nb nm nd) h' l':=by
    rw [← hW0]
    have:=sk_new (w.alloc (Obj.cells #[.int .u64 z,.slice pa pn pc,.slice na nn nc,.int .i64 h,.int .u64 l] 73)) 73 z' h' l' (.slice pb pm pd) (.slice nb nm nd)
    exact sk_past (by simpa using this) ((Below.refl _ _).alloc (Nat.le_refl _) _)
   have R0:W0.heap[w.heap.size+1+1]?=some (.cells zeroSk 73 (0,0)):=by rw [← hW0];simpa using heap_alloc_new ((w.alloc (Obj.cells #[.int .u64 z,.slice pa pn pc,.slice na nn nc,.int .i64 h,.int .u64 l] 73)).alloc (Obj.cells #[.int .u64 z',.slice pb pm pd,.slice nb nm nd,.int .i64 h',.int .u64 l'] 73)) (Obj.cells zeroSk 73)
   have hsz0:W0.heap.size=w.heap.size+3:=by rw [← hW0];simp
   clear hW0
   have HT0:=hide T0
   clear T0
   refine (c_i_SketchRight hp hn lp ln (bins_past HP.out HT0.out) (bins_past HN.out HT0.out) KP.out KN.out).mono ?_
   rintro e w1 ⟨rfl,hb1⟩
   rw [hs]
   have HT1:=hide (chain HT0.out hb1)
   have K1:=sk_past K0 hb1
   have J1:=sk_past J0 hb1
   have R1:w1.heap[w.heap.size+1+1]?=some (.cells zeroSk 73 (0,0)):=by rw [hb1.block _ (by omega)];exact R0
   clear hb1 K0 J0 R0
   go_wp2_with fail
   refine (c_i_SketchRight hp' hn' lp' ln' (bins_past HP'.out HT1.out) (bins_past HN'.out HT1.out) KP'.out KN'.out).mono ?_
   rintro e w2 ⟨rfl,hb2⟩
   rw [hs']
   have HT2:=hide (chain HT1.out hb2)
   have K2:=sk_past K1 hb2
   have J2:=sk_past J1 hb2
   have hz1:w.heap.size+1+1<w1.heap.size:=(Array.getElem?_eq_some_iff.1 R1).1
   have R2:w2.heap[w.heap.size+1+1]?=some (.cells zeroSk 73 (0,0)):=by rw [hb2.block _ hz1];exact R1
   clear hb2 K1 J1 R1
   have hz2:w.heap.size+1+1<w2.heap.size:=(Array.getElem?_eq_some_iff.1 R2).1
   have hC:∀ W,Below w2.heap.size w2 W→SkCell W w.heap.size z (.slice pa pn pc) (.slice na nn nc) h l∧SkCell W (w.heap.size+1) z' (.slice pb pm pd) (.slice nb nm nd) h' l'∧W.heap[w.heap.size+1+1]?=some (.cells zeroSk 73 (0,0)):=fun W hW=>⟨sk_past K2 hW,sk_past J2 hW,by rw [hW.block _ hz2];exact R2⟩
   have HC:=hide hC
   have HTW:=hide HT2.out
   clear hC K2 J2 R2 hs hs'
   go_wp2_with fail
   have HS0:(fun W=>Below w2.heap.size w2 W) w2.drew:=(Below.refl _ _).drew
   refine regionK (fun W=>Below w2.heap.size w2 W) 21 (by kernel_rfl) ?_
   refine tkL (i:=0) (v:=.pointer (some ⟨w.heap.size,0,none⟩)) rfl rfl HS0 (fun W hW=>?_) ?_
   ·obtain ⟨⟨x0,x1,x2,x3,x4⟩,⟨y0,y1,y2,y3,y4⟩,_⟩:=HC.out W hW
    go_simp
   refine tkL (i:=1) (v:=.int .u64 z) rfl rfl HS0 (fun W hW=>?_) ?_
   ·obtain ⟨⟨x0,x1,x2,x3,x4⟩,⟨y0,y1,y2,y3,y4⟩,_⟩:=HC.out W hW
    go_simp
   refine tkL (i:=2) (v:=.pointer (some ⟨w.heap.size+1,0,none⟩)) rfl rfl HS0 (fun W hW=>?_) ?_
   ·obtain ⟨⟨x0,x1,x2,x3,x4⟩,⟨y0,y1,y2,y3,y4⟩,_⟩:=HC.out W hW
    go_simp
   simp only [sA,sB,sC]
   refine tkL (i:=3) (v:=.int .u64 z') rfl rfl HS0 (fun W hW=>?_) ?_
   ·obtain ⟨⟨x0,x1,x2,x3,x4⟩,⟨y0,y1,y2,y3,y4⟩,_⟩:=HC.out W hW
    go_simp
   refine tkL (i:=5) (v:=.pointer (some ⟨w.heap.size,1,none⟩)) rfl rfl HS0 (fun W hW=>?_) ?_
   ·obtain ⟨⟨x0,x1,x2,x3,x4⟩,⟨y0,y1,y2,y3,y4⟩,_⟩:=HC.out W hW
    go_simp
   refine tkL (i:=6) (v:=.slice pa pn pc) rfl rfl HS0 (fun W hW=>?_) ?_
   ·obtain ⟨⟨x0,x1,x2,x3,x4⟩,⟨y0,y1,y2,y3,y4⟩,_⟩:=HC.out W hW
    go_simp
   simp only [sA,sB,sC]
   refine tkL (i:=7) (v:=.pointer (some ⟨w.heap.size+1,1,none⟩)) rfl rfl HS0 (fun W hW=>?_) ?_
   ·obtain ⟨⟨x0,x1,x2,x3,x4⟩,⟨y0,y1,y2,y3,y4⟩,_⟩:=HC.out W hW
    go_simp
   refine tkL (i:=8) (v:=.slice pb pm pd) rfl rfl HS0 (fun W hW=>?_) ?_
   ·obtain ⟨⟨x0,x1,x2,x3,x4⟩,⟨y0,y1,y2,y3,y4⟩,_⟩:=HC.out W hW
    go_simp
   refine tkL (i:=10) (v:=.pointer (some ⟨w.heap.size,2,none⟩)) rfl rfl HS0 (fun W hW=>?_) ?_
   ·obtain ⟨⟨x0,x1,x2,x3,x4⟩,⟨y0,y1,y2,y3,y4⟩,_⟩:=HC.out W hW
    go_simp
   simp only [sA,sB,sC]
   refine tkL (i:=11) (v:=.slice na nn nc) rfl rfl HS0 (fun W hW=>?_) ?_
   ·obtain ⟨⟨x0,x1,x2,x3,x4⟩,⟨y0,y1,y2,y3,y4⟩,_⟩:=HC.out W hW
    go_simp
   refine tkL (i:=12) (v:=.pointer (some ⟨w.heap.size+1,2,none⟩)) rfl rfl HS0 (fun W hW=>?_) ?_
   ·obtain ⟨⟨x0,x1,x2,x3,x4⟩,⟨y0,y1,y2,y3,y4⟩,_⟩:=HC.out W hW
    go_simp
   refine tkL (i:=13) (v:=.slice nb nm nd) rfl rfl HS0 (fun W hW=>?_) ?_
   ·obtain ⟨⟨x0,x1,x2,x3,x4⟩,⟨y0,y1,y2,y3,y4⟩,_⟩:=HC.out W hW
    go_simp
   simp only [sA,sB,sC]
   refine tkL (i:=15) (v:=.pointer (some ⟨w.heap.size,3,none⟩)) rfl rfl HS0 (fun W hW=>?_) ?_
   ·obtain ⟨⟨x0,x1,x2,x3,x4⟩,⟨y0,y1,y2,y3,y4⟩,_⟩:=HC.out W hW
    go_simp
   refine tkL (i:=16) (v:=.agg #[.int .i64 h,.int .u64 l]) rfl rfl HS0 (fun W hW=>?_) ?_
   ·obtain ⟨⟨x0,x1,x2,x3,x4⟩,⟨y0,y1,y2,y3,y4⟩,_⟩:=HC.out W hW
    go_simp
   refine tkL (i:=17) (v:=.pointer (some ⟨w.heap.size+1,3,none⟩)) rfl rfl HS0 (fun W hW=>?_) ?_
   ·obtain ⟨⟨x0,x1,x2,x3,x4⟩,⟨y0,y1,y2,y3,y4⟩,_⟩:=HC.out W hW
    go_simp
   simp only [sA,sB,sC]
   refine tkL (i:=18) (v:=.agg #[.int .i64 h',.int .u64 l']) rfl rfl HS0 (fun W hW=>?_) ?_
   ·obtain ⟨⟨x0,x1,x2,x3,x4⟩,⟨y0,y1,y2,y3,y4⟩,_⟩:=HC.out W hW
    go_simp
   simp only [sA,sB,sC]
   refine onE (i:=4) rfl (fun K hK=>?_)
   go_simp
   refine (c_i_WeightAdd _ _ hz hz' _).mono ?_
   rintro e w4 ⟨rfl,rfl⟩
   dsimp only
   refine hK.out _ _ (fun _=>HS0) ?_
   clear hK K
   try simp only [Act.put,sA,sB,sC]
   refine onE (i:=9) rfl (fun K hK=>?_)
   go_simp
   refine (c_gatherBins _ _ _ _ hp hp' (by omega) (by omega) (bins_past HP.out (chain HTW.out HS0)) (bins_past HP'.out (chain HTW.out HS0)) KP.out KP'.out).mono ?_
   rintro e w5 ⟨v5,n5,rfl,ho5,hb5⟩
   dsimp only
   have HB5:=hide ((HS0:Below w2.heap.size w2 w2.drew).trans hb5)
   have HO5:=hide (ho5.le (B':=w.heap.size) HTW.out.size)
   obtain ⟨ao5,c5,rfl⟩:=ho5.any
   clear ho5 hb5
   refine hK.out _ _ (fun _=>HB5.out) ?_
   clear hK K
   try simp only [Act.put,sA,sB,sC]
   refine onE (i:=14) rfl (fun K hK=>?_)
   go_simp
   refine (c_gatherBins _ _ _ _ hn hn' (by omega) (by omega) (bins_past HN.out (chain HTW.out HB5.out)) (bins_past HN'.out (chain HTW.out HB5.out)) KN.out KN'.out).mono ?_
   rintro e w6 ⟨v6,n6,rfl,ho6,hb6⟩
   dsimp only
   have HB6:=hide (chain HB5.out hb6)
   have HO56:=hide (HO5.out.past hb6)
   have HAp:Hid (Apart (.slice ao5 n5 c5) v6):=(fun k e1 e2=>by have:=(HO5.out.lt k e1).2;have:=(ho6.lt k e2).1;omega:Apart (.slice ao5 n5 c5) v6)
   have HO6:=hide (ho6.le (B':=w.heap.size) (by have:=HTW.out.size;have:=HB5.out.size;omega))
   obtain ⟨ao6,c6,rfl⟩:=ho6.any
   clear ho6 hb6
   refine hK.out _ _ (fun _=>HB6.out) ?_
   clear hK K
   try simp only [Act.put,sA,sB,sC]
   refine onE (i:=19) rfl (fun K hK=>?_)
   go_simp
   refine (c_i_WideAdd _ _ _ _ _ hl0 hl0').mono ?_
   rintro e w7 ⟨rfl,hb7⟩
   dsimp only
   have HB7:=hide (chain HB6.out hb7)
   have HO57:=hide (HO56.out.past hb7)
   have HO67:=hide (HO6.out.past hb7)
   clear hb7
   refine hK.out _ _ (fun _=>HB7.out) ?_
   clear hK K
   try simp only [Act.put,sA,sB,sC]
   obtain ⟨Z7,hZ7⟩:∃ X,wAdd z z'=X:=⟨_,rfl⟩
   obtain ⟨H7,hH7⟩:∃ X,addH h l h' l'=X:=⟨_,rfl⟩
   obtain ⟨L7,hL7⟩:∃ X,addL l l'=X:=⟨_,rfl⟩
   rw [hZ7,hH7,hL7]
   have HE:=hide (And.intro hZ7 (And.intro hH7 hL7))
   clear hZ7 hH7 hL7
   refine tkS (i:=20) (v:=.agg #[.int .u64 Z7,.slice ao5 n5 c5,.slice ao6 n6 c6,.int .i64 H7,.int .u64 L7]) rfl rfl HB7.out ?_
   simp only [sA,sB,sC]
   have R7:=(HC.out _ HB7.out).2.2
   have HF:=hide (sk_store (Z:=Z7) (H:=H7) (L:=L7) (chain HTW.out HB7.out) R7 (by omega) HO57.out HO67.out HAp.out)
   obtain ⟨q0,q1,q2,q3,q4⟩:=cell5 R7
   have f0:=fzR 0 R7
   have f1:=fzR 1 R7
   have f2:=fzR 2 R7
   have f3:=fzR 3 R7
   have f4:=fzR 4 R7
   refine onE (i:=21) rfl (fun K hK=>?_)
   go_simp
   refine hK.out _ _ (fun h=>absurd rfl h) ?_
   clear hK K
   try simp only [Act.put,sA,sB,sC]
   refine doneK (by kernel_rfl) ?_ _
   clear R7 HC
   go_wp2
   refine bodyPost_ret (v:=.agg #[.int .u64 Z7,.slice ao5 n5 c5,.slice ao6 n6 c6,.int .i64 H7,.int .u64 L7]) (by simp [results,Tryz.results303,go_sem,q0,q1,q2,q3,q4]) rfl ⟨_,rfl,HF.out.2,.inl ⟨HYes.out,by rw [HE.out.1,HE.out.2.1,HE.out.2.2];exact HF.out.1⟩⟩
end Go.Proofs.YtiiclgcpagdekaaGreatDoor
