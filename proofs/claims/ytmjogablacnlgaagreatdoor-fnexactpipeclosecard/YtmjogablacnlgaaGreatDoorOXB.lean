/-
 l08Merge of the model, where no two cells are alike: nothing is brought together, all are laid in order.
-/
import Derived.Test.YtmjogablacnlgaaGreatDoorOXA
namespace Go.Proofs.YtmjogablacnlgaaGreatDoor
set_option linter.unusedVariables false
set_option linter.unusedSimpArgs false
open Go.ChangeShapes Go.WideShapes Go.ChangeAt Go.RowKit Go.PlainAid Go.Lib Go.Maps
set_option maxRecDepth 10000
structure MgD (a b R:List Ce):Prop where
 asc:AscC R
 pm:(R.map Ce.key).Perm ((a ++ b).map Ce.key)
def MdA (w:World) (a b:List Ce) (e:Ending) (w':World):Prop:=
 ∃ v R,e=.returned (.tuple #[v,.bool true])∧MgD a b R∧OwnC w' w.heap.size v R∧CesO w' w.heap.size R∧v≠.slice none 0 0∧Below w.heap.size w w'
structure MdJ (w wr:World) (a b:List Ce) (k:Nat) (vo:Value) (R:List Ce) (vm:Value) (Mo:List Ce):Prop where
 r:OwnC wr w.heap.size vo R
 m:OwnC wr w.heap.size vm Mo
 ap:ApV vo vm
 o:CesO wr w.heap.size (R ++ Mo.drop k)
 asc:AscC R
 pm:(R.map Ce.key).Perm ((a ++ b.take k).map Ce.key)
 ne:vo≠.slice none 0 0
 b:Below w.heap.size w wr
theorem MdJ.past {w wr w':World} {a b:List Ce} {k:Nat} {vo vm:Value} {R Mo:List Ce} (h:MdJ w wr a b k vo R vm Mo) (hb:Below wr.heap.size wr w'):MdJ w w' a b k vo R vm Mo:=
 ⟨h.r.past hb,h.m.past hb,h.ap,h.o.past hb,h.asc,h.pm,h.ne,chain h.b hb⟩
theorem MdJ.at {w wr:World} {a b:List Ce} {k n cp:Nat} {ao:Option Addr} {vm:Value} {R Mo:List Ce} (h:MdJ w wr a b k (.slice ao n cp) R vm Mo):CesAt wr ao R:=OwnC.at h.r (fun c hc=>(h.o.o c (List.mem_append_left _ hc)).at)
theorem MdJ.len {w wr:World} {a b:List Ce} {k:Nat} {vo vm:Value} {R Mo:List Ce} (h:MdJ w wr a b k vo R vm Mo):R.length=a.length+(b.take k).length:=by
 have:=h.pm.length_eq;rw [List.length_map,List.length_map,List.length_append] at this;exact this
theorem key_of {c d:Ce} (h:c.key=d.key):c.n=d.n∧c.s=d.s:=⟨(key3 h).1,(key3 h).2.1⟩
theorem MdJ.no {w wr:World} {a b:List Ce} {k:Nat} {vo vm:Value} {R Mo:List Ce} {c cb d:Ce} (h:MdJ w wr a b k vo R vm Mo) (dj:∀ c∈b,¬ HasK a c.n c.s) (ab:AscC b) (hb:b[k]?=some cb) (ek:c.key=cb.key) (hd:d∈R) (e1:d.n=c.n) (e2:d.s=c.s):False:=by
 obtain ⟨k1,k2⟩:=key_of ek;have hm:d.key∈(a ++ b.take k).map Ce.key:=h.pm.mem_iff.1 (List.mem_map_of_mem hd);obtain ⟨x,hx,ex⟩:=List.mem_map.1 hm;obtain ⟨x1,x2⟩:=key_of ex;rcases List.mem_append.1 hx with hx | hx
 ·exact dj cb (List.mem_of_getElem? hb) ⟨x,hx,by rw [x1,e1,k1],by rw [x2,e2,k2]⟩
 ·have hk:=(List.getElem?_eq_some_iff.1 hb).1
  have e:b=b.take k ++ cb :: b.drop (k+1):=by
   have h1:=(List.take_append_drop k b).symm;rw [List.drop_eq_getElem_cons hk,(List.getElem?_eq_some_iff.1 hb).2] at h1;exact h1
  have ab':=ab;unfold AscC at ab';rw [e,List.pairwise_append] at ab';exact cAh_ne (ab'.2.2 x hx cb (by simp)) ⟨by rw [x1,e1,k1],by rw [x2,e2,k2]⟩
theorem MdJ.ins {w wr:World} {a b:List Ce} {k i:Nat} {vo vm:Value} {R Mo:List Ce} {c cb:Ce} (h:MdJ w wr a b k vo R vm Mo) (hc:Mo[k]?=some c) (hb:b[k]?=some cb) (ek:c.key=cb.key) (hp:PlcA R c.n c.s i false) {w9:World} {v9:Value} (hi:InsI w w9 v9 ((R.take i ++ [c]) ++ R.drop i) vo R vm Mo (R ++ Mo.drop k)) :
  MdJ w w9 a b (k+1) v9 ((R.take i ++ [c]) ++ R.drop i) vm Mo:=by
 have p2:((R.take i ++ [c]) ++ R.drop i).Perm (c :: R):=by
  have e:(R.take i ++ [c]) ++ R.drop i=R.take i ++ c :: R.drop i:=by rw [List.append_assoc];rfl
  rw [e];refine List.perm_middle.trans ?_;rw [List.take_append_drop]
 refine ⟨hi.n,hi.m,hi.a2,hi.o.perm ?_,?_,?_,hi.ne,hi.b⟩
 ·rw [drop_one hc]
  have p1:(R ++ c :: Mo.drop (k+1)).Perm (c :: (R ++ Mo.drop (k+1))):=List.perm_middle;exact p1.trans ((p2.append_right _).symm)
 ·rw [plc_take h.asc hp,(plc_no h.asc hp).1,List.append_assoc]
  exact put_asc h.asc
 ·refine (p2.map Ce.key).trans ?_
  rw [List.take_add_one,hb,← List.append_assoc,List.map_append,List.map_cons,ek];refine (List.Perm.cons _ h.pm).trans ?_;exact (List.perm_append_singleton _ _).symm
set_option maxHeartbeats 16000000 in
theorem c_l08MergeD {w:World} {ao bo:Option Addr} {N K ca cb:Nat} {a b:List Ce} (hI:ShI w ao N a) (hJ:ShI w bo K b) (hasc:AscC a) (hab:AscC b) (hdj:∀ c∈b,¬ HasK a c.n c.s) (sN:N≤2000) (sK:K≤2000) :
  Calls Tryz.prog 73 #[.slice ao N ca,.slice bo K cb] w (MdA w a b):=by
 obtain ⟨i0,hi,hz0,hz1,hz2⟩:=infoCe;have II:=hide hI;have JJ:=hide hJ;have AS:=hide hasc;have AB:=hide hab;have DJ:=hide hdj;have HAl:Hid (∀ (X:World) o,Below X.heap.size X (X.alloc o)):=fun X o=>(Below.refl _ _).alloc (Nat.le_refl _) _;clear hI hJ hasc hab hdj;go_enter Tryz.func73,Tryz.ntmps73;go_wp2_with fail;refine (c_l08CopyS II.out.hN II.out.lN II.out.sm II.out.pl II.out.mem).mono ?_;rintro e w1 ⟨v1,A1,rfl,hr1,ho1,hk1,hb1,hn1⟩;have HR1:=hide hr1;have HO1:=hide ho1;have HK1:=hide hk1;have HB1:=hide hb1;have HN1:=hide hn1;clear hr1 ho1 hk1 hb1 hn1;go_wp2_with fail;refine (c_l08CopyS JJ.out.hN JJ.out.lN JJ.out.sm JJ.out.pl (ces_past JJ.out.mem HB1.out)).mono ?_;rintro e w2 ⟨v2,Mo,rfl,hr2,ho2,hk2,hb2,hn2⟩;obtain ⟨mo,mc,rfl,_⟩:=hr2.form;have hMK:Mo.length=K:=(map_len hk2).trans JJ.out.hN;have HMK:=hide hMK;have HKM:=hide hk2;rw [hMK] at hr2 ⊢
 have I0:Hid (MdJ w w2 a b 0 v1 A1 (.slice mo K mc) Mo):=by
  refine ⟨HR1.out.past hb2,hr2.le HB1.out.size,fun j h1 h2=>?_,?_,asc_key HK1.out AS.out,by rw [List.take_zero,List.append_nil,HK1.out],HN1.out,chain HB1.out hb2⟩
  ·have l1:=(World.ownsRow.lt HR1.out j h1).2
   have l2:=(World.ownsRow.lt hr2 j h2).1;omega
  ·rw [List.drop_zero];exact HO1.out.app hb2 HB1.out.size ho2
 have lN:=II.out.lN;have lK:=JJ.out.lN;clear hr2 ho2 hk2 hb2 hn2 hMK HR1 HO1 HK1 HB1 HN1;go_wp2
 go_loopw [6,8] (fun vo i wr=>∃ (k:Nat) (R:List Ce),k≤K∧i=.int .i64 k∧Hid (MdJ w wr a b k vo R (.slice mo K mc) Mo)) (fun vo i wr=>K - (Go.RowKit.intOf i).toNat)
 case atStart=>exact ⟨0,A1,Nat.zero_le _,rfl,I0⟩
 case round=>
  clear I0;obtain ⟨k,R,hk,rfl,HI⟩:=hrel;obtain ⟨g,cp,ev,_⟩:=HI.out.r.src HI.out.ne;subst ev;have hlR:R.length≤N+k:=by have h1:=HI.out.len;have h2:=List.length_take_le k b;have:=II.out.hN;omega
  have hcp:R.length≤cp:=own_cap HI.out.r;have hcm:cp≤9223372036854775807:=own_capm HI.out.r;obtain ⟨n,hn⟩:∃ n,R.length=n:=⟨_,rfl⟩;rw [hn] at HI hlR hcp ⊢;have HNn:=hide hn;clear hn;by_cases hkn:k<K
  ·have hkni:(k:Int)<(K:Int):=by omega
   obtain ⟨c,hc⟩:∃ c,Mo[k]?=some c:=⟨Mo[k]'(by have:=HMK.out;omega),List.getElem?_eq_getElem _⟩;obtain ⟨cb',hcb⟩:∃ c,b[k]?=some c:=⟨b[k]'(by have:=JJ.out.hN;omega),List.getElem?_eq_getElem _⟩
   have ek:c.key=cb'.key:=by
    have e2:(Mo.map Ce.key)[k]?=(b.map Ce.key)[k]?:=by rw [HKM.out]
    rw [List.getElem?_map,List.getElem?_map,hc,hcb] at e2
    simpa using e2
   have hmm:OwnC wr w.heap.size (.slice mo K mc) Mo:=HI.out.m;obtain ⟨gm,cm,em⟩:=own_form hmm (by have:=HMK.out;omega);injection em with em1 em2 em3;subst em1;rw [← HMK.out] at hmm;have hcc:=own_cells hmm hc;rw [Nat.zero_add] at hcc;obtain ⟨x0,x1,x2,x3,x4,x5,x6,x7,x8,x9,x10,x11,x12,x13,x14⟩:=hcc;have HC:=hide hc;have HCB:=hide hcb;have EK:=hide ek;have hcd:c∈R ++ Mo.drop k:=List.mem_append_right _ (by rw [drop_one hc];simp);have AC:=hide (HI.out.o.o c hcd);have X1:=hide (heap_alloc_new wr (.cells (ceArr c) 69));have HI1:=hide (HI.out.past (HAl.out wr (.cells (ceArr c) 69)));have A1:=hide (AC.out.past (HAl.out wr (.cells (ceArr c) 69)));clear hc hcb ek hmm hcd em2 em3;go_upto_region 7 with fail;clear x0 x1 x2 x3 x4 x5 x6 x7 x8 x9 x10 x11 x12 x13 x14;generalize wr.alloc (.cells (ceArr c) 69)=W1 at X1 HI1 A1 ⊢;generalize wr.heap.size=rc at X1 ⊢;clear HI AC;have x0:=cellKC X1.out 0 rfl;have x1:=cellKC X1.out 1 rfl;go_wp2_with fail;clear x0 x1;refine (c_l08Place c.n c.s HNn.out (by omega) HI1.out.at).mono ?_;rintro e w2 ⟨kk,is,rfl,hp,hb2⟩;have HP:=hide hp;have HI2:=hide (HI1.out.past hb2);have A2:=hide (A1.out.past hb2);have X2:=hide (row_pastP X1.out hb2);have hkk:kk≤n:=by have:=hp.le;have:=HNn.out;omega
   clear hp hb2 HI1 A1 X1
   cases is with
   | true=>
    obtain ⟨d,hd,hmd,e1,e2,_⟩:=plc_yes HI2.out.asc HP.out;exact absurd (HI2.out.no DJ.out AB.out HCB.out EK.out hmd e1 e2) (fun h=>h)
   | false=>
    go_upto_region 8 with fail;have HS0:(fun _=>True) w2.drew:=trivial;refine regionK (fun _=>True) 99 (by kernel_rfl) ?_;refine tkS (i:=0) (v:=.bool false) rfl rfl HS0 ?_;refine tkS (i:=1) (v:=.bool false) rfl rfl HS0 ?_;refine tkU (i:=2) rfl rfl HS0 ?_;simp only [sA,sB,sC];refine tkU (i:=3) rfl rfl HS0 ?_;refine tkU (i:=4) rfl rfl HS0 ?_;refine tkU (i:=5) rfl rfl HS0 ?_;simp only [sA,sB,sC];refine tkU (i:=6) rfl rfl HS0 ?_;refine tkU (i:=7) rfl rfl HS0 ?_;refine tkU (i:=8) rfl rfl HS0 ?_;simp only [sA,sB,sC];refine tkU (i:=9) rfl rfl HS0 ?_;refine tkU (i:=10) rfl rfl HS0 ?_;refine tkU (i:=11) rfl rfl HS0 ?_;simp only [sA,sB,sC];refine tkS (i:=12) (v:=.bool false) rfl rfl HS0 ?_;simp only [sA,sB,sC];refine doneK (by kernel_rfl) ?_ _;have hk0:(0:Int)≤(kk:Int):=by omega
    have hkc:(kk:Int)≤(cp:Int):=by omega
    have hkn2:(kk:Int)≤(n:Int):=by omega
    have HI3:Hid (InsI w (w2.alloc (.cells #[] 69)) (.slice (some ⟨w2.heap.size,0,none⟩) 0 0) [] (.slice (some ⟨g,0,none⟩) n cp) R (.slice (some ⟨gm,0,none⟩) K mc) Mo (R ++ Mo.drop k)):=by
     have al:=HAl.out w2 (.cells #[] 69);refine ⟨(OwnC.made w2 #[] rfl).le HI2.out.b.size,HI2.out.r.past al,HI2.out.m.past al,fun j h1 h2=>?_,fun j h1 h2=>?_,HI2.out.ap,HI2.out.o.past al,chain HI2.out.b al,fun e=>by cases e⟩
     ·injection h1 with h1;have:=(World.ownsRow.lt HI2.out.r j h2).2;simp only at h1;omega
     ·injection h1 with h1;have:=(World.ownsRow.lt HI2.out.m j h2).2;simp only at h1;omega
    have hl1:(R.take kk).length=kk:=by rw [List.length_take];have:=HNn.out;omega
    have HL1:=hide hl1;clear hl1;have hz2w:w.heap.size≤w2.heap.size:=HI2.out.b.size;have X3:=hide (row_pastP X2.out (HAl.out w2 (.cells #[] 69)));go_wp2_with (at_builtin;refine wpList_append_own_at _ rfl _ _ 36 rfl w.heap.size 69 i0 (.agg zeroCe) 15 192 Tryz.underlying36 hi hz0 hz1 hz2 rfl (by decide) _ _ _ rfl HI3.out.n ⟨g,0,none⟩ kk cp (flC (R.take kk)) rfl ?c0 (src_take HI3.out.r HNn.out hkk) (flC_oneC _) ?c3 ?c4 ?c5 ?_)
    case c0=>rw [flC_len,HL1.out]
    case c3=>unfold maxLen;omega
    case c4=>omega
    case c5=>omega
    intro v5 w5 hown5 hg5 hnil5 hloc5;have HI5:=hide (HI3.out.app (G:=R.take kk) (v':=v5) (w1:=w5) (by rw [HL1.out];simpa using hown5) ⟨hg5.os,hg5.tape,hg5.output,hg5.size,hg5.block⟩ (by rw [HL1.out];simpa using hnil5) (by simpa using hloc5));have X5:Hid (w5.heap[rc]?=_):=(hg5.block rc (Array.getElem?_eq_some_iff.1 X3.out).1 (fun e=>by injection e with e;have:=(Array.getElem?_eq_some_iff.1 X2.out).1;simp only at e;omega)).trans X3.out;clear hown5 hg5 hnil5 hloc5 HI3 X3;have q0:=cellKC X5.out 0 rfl;have q1:=cellKC X5.out 1 rfl;have q2:=cellKC X5.out 2 rfl;have q3:=cellKC X5.out 3 rfl;have q4:=cellKC X5.out 4 rfl;have q5:=cellKC X5.out 5 rfl;have q6:=cellKC X5.out 6 rfl;have q7:=cellKC X5.out 7 rfl;have q8:=cellKC X5.out 8 rfl;have q9:=cellKC X5.out 9 rfl;have q10:=cellKC X5.out 10 rfl;have q11:=cellKC X5.out 11 rfl;have q12:=cellKC X5.out 12 rfl;have q13:=cellKC X5.out 13 rfl;have q14:=cellKC X5.out 14 rfl;have HI6:=hide (HI5.out.past (HAl.out w5 (.cells (ceArr c) 69)));have hz5w:w.heap.size≤w5.heap.size:=HI5.out.b.size;have HL5:Hid (([] ++ R.take kk).length=kk):=by rw [List.nil_append];exact HL1.out
    have hn5:w5.ownsRow w.heap.size 69 15 v5 kk (flC (R.take kk)):=by have:=HI5.out.n;rw [List.nil_append] at this;unfold OwnC at this;rw [HL1.out] at this;exact this
    have HN5:=hide hn5;clear hn5;go_wp2_with (at_builtin;refine wpList_append_own_at _ rfl _ _ 36 rfl w.heap.size 69 i0 (.agg zeroCe) 15 192 Tryz.underlying36 hi hz0 hz1 hz2 rfl (by decide) _ _ _ rfl (World.ownsRow.alloc HN5.out _) ⟨w5.heap.size,0,none⟩ 1 1 (ceL c) rfl rfl ?c1 (ceL_one _) ?c3 ?c4 ?c5 ?_)
    case c1=>exact new_cellsC
    case c3=>unfold maxLen;omega
    case c4=>omega
    case c5=>simp;omega
    intro v7 w7 hown7 hg7 hnil7 hloc7;have HI7:=hide (HI6.out.app (G:=[c]) (v':=v7) (w1:=w7) (by rw [HL5.out,List.nil_append,flC_one];exact hown7) hg7 (by simpa using hnil7) (by simpa using hloc7));clear hown7 hg7 hnil7 hloc7 HI5 HI6 HN5 X5 q0 q1 q2 q3 q4 q5 q6 q7 q8 q9 q10 q11 q12 q13 q14;have hz7w:w.heap.size≤w7.heap.size:=HI7.out.b.size;have hl2:(R.drop kk).length=n - kk:=by rw [List.length_drop,HNn.out]
    have HL2:=hide hl2;clear hl2;have hn7:w7.ownsRow w.heap.size 69 15 v7 (kk+1) (flC (R.take kk ++ [c])):=by have:=HI7.out.n;rw [List.nil_append] at this;unfold OwnC at this;rw [List.length_append,HL1.out] at this;exact this
    have HN7:=hide hn7;clear hn7;by_cases hck:cp=kk
    ·go_wp2_with (at_builtin;refine wpList_append_own_at _ rfl _ _ 36 rfl w.heap.size 69 i0 (.agg zeroCe) 15 192 Tryz.underlying36 hi hz0 hz1 hz2 rfl (by decide) _ _ _ rfl HN7.out ⟨g,0,none⟩ (n - kk) 0 (flC (R.drop kk)) rfl ?c0 (src_none (by have:=HNn.out;omega)) (flC_oneC _) ?c3 ?c4 hz7w ?_)
     case c0=>rw [flC_len,HL2.out]
     case c3=>unfold maxLen;omega
     case c4=>omega
     intro v9 w9 hown9 hg9 hnil9 hloc9;have HI9:=hide (HI7.out.app (G:=R.drop kk) (v':=v9) (w1:=w9) (by rw [HL2.out,List.nil_append,List.length_append,HL1.out];exact hown9) hg9 (by rw [HL2.out];exact hnil9) hloc9);rw [List.nil_append] at HI9;have HF:=hide (HI2.out.ins HC.out HCB.out EK.out HP.out HI9.out);clear hown9 hg9 hnil9 hloc9;go_wp2;go_roundw
     case rel=>exact ⟨k+1,_,by omega,by go_num,HF⟩
     case measure=>simp [Go.RowKit.intOf];omega
    ·go_wp2_with (at_builtin;refine wpList_append_own_at _ rfl _ _ 36 rfl w.heap.size 69 i0 (.agg zeroCe) 15 192 Tryz.underlying36 hi hz0 hz1 hz2 rfl (by decide) _ _ _ rfl HN7.out ⟨g,kk*15,none⟩ (n - kk) (cp - kk) (flC (R.drop kk)) rfl ?c0 (src_drop HI7.out.r HNn.out hkk) (flC_oneC _) ?c3 ?c4 hz7w ?_)
     case c0=>rw [flC_len,HL2.out]
     case c3=>unfold maxLen;omega
     case c4=>omega
     intro v9 w9 hown9 hg9 hnil9 hloc9;have HI9:=hide (HI7.out.app (G:=R.drop kk) (v':=v9) (w1:=w9) (by rw [HL2.out,List.nil_append,List.length_append,HL1.out];exact hown9) hg9 (by rw [HL2.out];exact hnil9) hloc9);rw [List.nil_append] at HI9;have HF:=hide (HI2.out.ins HC.out HCB.out EK.out HP.out HI9.out);clear hown9 hg9 hnil9 hloc9;go_wp2;go_roundw
     case rel=>exact ⟨k+1,_,by omega,by go_num,HF⟩
     case measure=>simp [Go.RowKit.intOf];omega
  ·obtain rfl:k=K:=by omega
   have eb:b.take k=b:=List.take_of_length_le (by have:=JJ.out.hN;omega);have HF:Hid (MgD a b R∧OwnC wr w.heap.size (.slice (some ⟨g,0,none⟩) n cp) R∧CesO wr w.heap.size R):=⟨⟨HI.out.asc,by have:=HI.out.pm;rw [eb] at this;exact this⟩,HI.out.r,HI.out.o.sub (List.sublist_append_left _ _)⟩;clear eb hk hkn;go_wp2;go_ret2;exact ⟨_,R,rfl,HF.out.1,HF.out.2.1,HF.out.2.2,(fun e=>by cases e),HI.out.b⟩
def allC (S:List Sd):List Ce:=S.flatMap Sd.L
theorem allC_step {S:List Sd} {k:Nat} {s:Sd} (h:S[k]?=some s):allC (S.take (k+1))=allC (S.take k) ++ s.L:=by
 unfold allC;rw [List.take_add_one,h,List.flatMap_append];simp
theorem mem_allC {S:List Sd} {c:Ce} (h:c∈allC S):∃ s∈S,c∈s.L:=by
 unfold allC at h;exact List.mem_flatMap.1 h
theorem allC_len {S:List Sd} (n:Nat) (h:∀ s∈S,s.L.length≤n):(allC S).length≤S.length*n:=by
 induction S with
 | nil=>simp [allC]
 | cons s S ih=>
  have h1:=ih (fun t ht=>h t (List.mem_cons_of_mem _ ht));have h2:=h s (List.mem_cons_self);unfold allC at h1 ⊢;rw [List.flatMap_cons,List.length_append,List.length_cons,Nat.add_mul];omega
structure QS (S:List Sd):Prop where
 ok:∀ s∈S,∀ c∈s.L,AgOk c.g∧AgSm c.g∧c.s.size≤maxLen∧PlG c.g c.p
 l:∀ s∈S,s.L.length≤60
 asc:∀ s∈S,AscC s.L
 n:S.length≤12
 dj:∀ k s,S[k]?=some s→∀ c∈s.L,¬ HasK (allC (S.take k)) c.n c.s
structure LaI (w wr:World) (S:List Sd) (k:Nat) (v:Value) (R:List Ce):Prop where
 r:OwnC wr w.heap.size v R
 o:CesO wr w.heap.size R
 asc:AscC R
 pm:(R.map Ce.key).Perm ((allC (S.take k)).map Ce.key)
 ne:v≠.slice none 0 0
 b:Below w.heap.size w wr
theorem LaI.mem {w wr:World} {S:List Sd} {k:Nat} {v:Value} {R:List Ce} (h:LaI w wr S k v R) {c:Ce} (hc:c∈R):∃ s∈S,∃ d∈s.L,d.n=c.n∧d.s=c.s∧d.g=c.g:=by
 have hm:c.key∈(allC (S.take k)).map Ce.key:=h.pm.mem_iff.1 (List.mem_map_of_mem hc);obtain ⟨d,hd,e⟩:=List.mem_map.1 hm;obtain ⟨s,hs,hd⟩:=mem_allC hd;obtain ⟨e1,e2,e3⟩:=key3 e;exact ⟨s,List.mem_of_mem_take hs,d,hd,e1,e2,e3⟩
theorem LaI.len {w wr:World} {S:List Sd} {k:Nat} {v:Value} {R:List Ce} (h:LaI w wr S k v R) (q:QS S):R.length≤720:=by
 have h1:=h.pm.length_eq;rw [List.length_map,List.length_map] at h1;have h2:=allC_len (S:=S.take k) 60 (fun s hs=>q.l s (List.mem_of_mem_take hs));have h3:=q.n;have h4:(S.take k).length≤S.length:=by rw [List.length_take];omega
 omega
theorem LaI.hask {w wr:World} {S:List Sd} {k:Nat} {v:Value} {R:List Ce} {n:Int} {s:ByteArray} (h:LaI w wr S k v R) (hk:HasK R n s):HasK (allC (S.take k)) n s:=by
 obtain ⟨c,hc,e1,e2⟩:=hk;have hm:c.key∈(allC (S.take k)).map Ce.key:=h.pm.mem_iff.1 (List.mem_map_of_mem hc);obtain ⟨d,hd,e⟩:=List.mem_map.1 hm;obtain ⟨x1,x2,x3⟩:=key3 e;exact ⟨d,hd,x1.trans e1,x2.trans e2⟩
theorem LaI.sh {w wr:World} {S:List Sd} {k g cp:Nat} {R:List Ce} (h:LaI w wr S k (.slice (some ⟨g,0,none⟩) R.length cp) R) (q:QS S):ShI wr (some ⟨g,0,none⟩) R.length R:=
 ⟨rfl,by have:=h.len q;omega,fun c hc=>by obtain ⟨s,hs,d,hd,_,_,e⟩:=h.mem hc;rw [← e];exact (q.ok s hs d hd).1,
  fun c hc=>by obtain ⟨s,hs,d,hd,_,_,e⟩:=h.mem hc;rw [← e];exact (q.ok s hs d hd).2.1,
  fun c hc=>by obtain ⟨s,hs,d,hd,_,e,_⟩:=h.mem hc;rw [← e];exact (q.ok s hs d hd).2.2.1,
  fun c hc=>(h.o.o c hc).plgX,OwnC.at h.r (fun c hc=>(h.o.o c hc).at)⟩
theorem LaI.step {w wr w1:World} {S:List Sd} {k:Nat} {v v1:Value} {R R1:List Ce} {s:Sd} (h:LaI w wr S k v R) (hs:S[k]?=some s) (m:MgD R s.L R1) (r:OwnC w1 wr.heap.size v1 R1) (o:CesO w1 wr.heap.size R1) (ne:v1≠.slice none 0 0) (b:Below wr.heap.size wr w1):LaI w w1 S (k+1) v1 R1:=
 ⟨r.le h.b.size,o.le h.b.size,m.asc,by rw [allC_step hs,List.map_append];refine m.pm.trans ?_;rw [List.map_append];exact h.pm.append_right _,ne,chain h.b b⟩
set_option maxHeartbeats 4000000 in
theorem c_l10All {w:World} {ao:Option Addr} {N ca:Nat} {S:List Sd} (p:Pi) (hN:S.length=N) (q:QS S) (hA:SdsAt w ao S) :
  Calls Tryz.prog 39 #[.agg (piArr (.slice ao N ca) p)] w fun e w'=>∃ v R,e=.returned v∧LaI w w' S N v R:=by
 have HN:=hide hN;have HQ:=hide q;have HA:=hide hA;have lN:N≤12:=by have:=q.n;omega
 have a1:∀ (W:World) o,Below W.heap.size W (W.alloc o):=fun W o=>(Below.refl _ _).alloc (Nat.le_refl _) _;have hz:(w.alloc (.cells (piArr (.slice ao N ca) p) 29)).heap.size=w.heap.size+1:=by simp
 have HR:=hide (((a1 (w.alloc (.cells (piArr (.slice ao N ca) p) 29)) (.cells #[] 69)).block w.heap.size (by rw [hz];omega)).trans (heap_alloc_new w (.cells (piArr (.slice ao N ca) p) 29)));have HT0:=hide (chain (a1 w (.cells (piArr (.slice ao N ca) p) 29)) (a1 _ (.cells #[] 69)))
 have HI0:Hid (LaI w ((w.alloc (.cells (piArr (.slice ao N ca) p) 29)).alloc (.cells #[] 69)) S 0 (.slice (some ⟨w.heap.size+1,0,none⟩) 0 0) []):=by
  have m:=OwnC.made (w.alloc (.cells (piArr (.slice ao N ca) p) 29)) #[] rfl;rw [hz] at m;exact hide ⟨m.le (by omega),CesO.nil _ _,.nil,by simp [allC],(fun e=>by cases e),HT0.out⟩
 clear hN hA a1 hz q;go_enter Tryz.func39,Tryz.ntmps39;go_upto_region 2 with fail;generalize (w.alloc (.cells (piArr (.slice ao N ca) p) 29)).alloc (.cells #[] 69)=W0 at HR HT0 HI0 ⊢;go_wp2
 go_loopw [3,4] (fun v i wr=>∃ (k:Nat) (R:List Ce),k≤N∧i=.int .i64 k∧Hid (LaI w wr S k v R)∧Hid (wr.heap[w.heap.size]?=some (.cells (piArr (.slice ao N ca) p) 29 (0,0)))) (fun v i wr=>N - (Go.RowKit.intOf i).toNat)
 case atStart=>exact ⟨0,[],Nat.zero_le _,rfl,HI0,HR⟩
 case round=>
  clear HI0 HR HT0;obtain ⟨k,R,hk,rfl,HI,HR⟩:=hrel;have r0:=cellKQ HR.out 0 rfl;by_cases hkn:k<N
  ·have hkni:(k:Int)<(N:Int):=by omega
   obtain ⟨b,off,e,hcell⟩:=HA.out.1 (by have:=HN.out;omega);subst e;obtain ⟨s,hs⟩:∃ s,S[k]?=some s:=⟨S[k]'(by have:=HN.out;omega),List.getElem?_eq_getElem _⟩;obtain ⟨x0,x1⟩:=sdc_past (hcell k s hs) HI.out.b;have HS:=hide hs;have HSm:=hide (List.mem_of_getElem? hs);have hwk:IntKind.i64.wrap ((k:Int)+1)=((k+1:Nat):Int):=by rw [show (k:Int)+1=((k+1:Nat):Int) by omega];exact IntWalk.i64_in _ ⟨by omega,by omega⟩
   obtain ⟨g,cp,ev,_⟩:=HI.out.r.src HI.out.ne;subst ev;have hlR:=HI.out.len HQ.out;clear hcell hs;go_wp2_with fail;refine (c_l08MergeD (HI.out.sh HQ.out) ⟨rfl,by have:=HQ.out.l s HSm.out;omega,fun c hc=>(HQ.out.ok s HSm.out c hc).1,fun c hc=>(HQ.out.ok s HSm.out c hc).2.1,fun c hc=>(HQ.out.ok s HSm.out c hc).2.2.1,fun c hc=>(HQ.out.ok s HSm.out c hc).2.2.2,ces_past (HA.out.2 s HSm.out) HI.out.b⟩ HI.out.asc (HQ.out.asc s HSm.out) (fun c hc h=>HQ.out.dj k s HS.out c hc (HI.out.hask h)) (by omega) (by have:=HQ.out.l s HSm.out;omega)).mono ?_;rintro e w1 ⟨v1,R1,rfl,hm,hr,ho,hne,hb1⟩;have HI2:=hide (HI.out.step HS.out hm hr ho hne hb1);have HR2:=hide ((hb1.block w.heap.size (Array.getElem?_eq_some_iff.1 HR.out).1).trans HR.out);clear hm hr ho hne hb1 r0 x0 x1;go_wp2;go_roundw
   case rel=>exact ⟨k+1,R1,by omega,by first | rfl | go_num,HI2,HR2⟩
   case measure=>simp [Go.RowKit.intOf];omega
  ·have hkni:¬ (k:Int)<(N:Int):=by omega
   obtain rfl:k=N:=by omega
   go_wp2;go_ret;exact ⟨_,rfl,R,HI.out⟩
end Go.Proofs.YtmjogablacnlgaaGreatDoor
