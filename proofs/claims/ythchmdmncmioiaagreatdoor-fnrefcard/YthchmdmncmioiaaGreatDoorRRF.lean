/-
 The law FnRef: what is wanted beside its walk: drawn samples, answers in their boxes, parts of a list.
-/
import Derived.Test.YthchmdmncmioiaaGreatDoorRRA
import Derived.Test.YthchmdmncmioiaaGreatDoorROA
import Derived.Test.YthchmdmncmioiaaGreatDoorRRD
namespace Go.Proofs.YthchmdmncmioiaaGreatDoor
set_option linter.unusedVariables false
set_option linter.unusedSimpArgs false
open Go.ChangeShapes Go.WideShapes Go.ChangeAt Go.RowKit Go.PlainAid Go.Lib
set_option maxRecDepth 10000
theorem c_lwAtB (ao:Option Addr) (ln cap k:Nat) (m:Int) (hk:k≤1000) (hm:0<m) (hm9:m≤1000) (w w0:World) (hc:CodeAt w0 w0.heap.size ao ln) (hb:Below w0.heap.size w0 w) :
  Calls Tryz.prog 23 #[.slice ao ln cap,.int .i64 k,.int .i64 m] w fun e w'=>∃ r:Nat,e=.returned (.int .i64 r)∧(r:Int)<m∧w'=w:=by
 by_cases h1:1<m
 ·refine (c_lwAtF ao ln cap k m hk h1 hm9 w w0 hc hb).mono ?_
  rintro e w' ⟨rfl,rfl⟩;obtain ⟨a,b⟩:=lwF_in hc hm k;exact ⟨(lwF w0 ao ln k m).toNat,by rw [Int.toNat_of_nonneg a],by omega,rfl⟩
 ·obtain rfl:m=1:=by omega
  clear hc hb;go_enter Tryz.func23,Tryz.ntmps23;go_wp2;go_ret;exact ⟨0,rfl,by omega,rfl⟩
theorem OwnT8.le {w:World} {B B':Nat} {v:Value} {L:List St} (h:OwnT8 w B v L) (hb:B'≤B):OwnT8 w B' v L:=own_le h hb
theorem c_DrawCellsOf {w:World} {ln cap:Nat} {ao:Option Addr} (hc:CodeAt w w.heap.size ao ln) :
  Calls Tryz.prog 20 #[.slice ao ln cap] w fun e w'=>∃ v L,e=.returned v∧L.length≤17∧OwnT8 w' w.heap.size v L∧(∀ t∈L,t.x.Ok)∧Below w.heap.size w w':=by
 have HC:=hide hc;clear hc;go_enter Tryz.func20,Tryz.ntmps20;go_wp2_with fail;refine (c_l01Source ao ln cap w HC.out).mono ?_;rintro e w1 ⟨rfl,hS⟩;have HS:=hide hS;clear hS;go_wp2_with fail;refine (c_l09Stamped HC.out HS.out).mono ?_;rintro e w2 ⟨v,L,rfl,hl,hd⟩;have HD:=hide hd;have HL:=hide hl;clear hd hl;go_wp2;go_ret;exact ⟨v,L,rfl,HL.out,HD.out.own.le (Nat.le_trans HS.out.bel.size (Nat.le_refl _)),HD.out.ok,HD.out.src.bel⟩
theorem OwnT8.capN {w:World} {B n cp:Nat} {ao:Option Addr} {L:List St} (h:OwnT8 w B (.slice ao n cp) L) (h0:0<L.length):(∃ g,ao=some ⟨g,0,none⟩)∧n=L.length∧L.length≤cp∧cp≤9223372036854775807:=by
 rcases h.2 with ⟨e,q⟩ | ⟨g,cap,cur,e,_,_,q1,q2,_⟩
 ·omega
 ·injection e with e1 e2 e3
  subst e1;subst e2;subst e3;exact ⟨⟨g,rfl⟩,rfl,q1,q2⟩
theorem sts_take {w:World} {ao:Option Addr} {L:List St} (k:Nat) (h:StsAt w ao L):StsAt w ao (L.take k):=fun h0=>by
 rw [List.length_take] at h0;obtain ⟨b,off,e,hc⟩:=h (by omega);refine ⟨b,off,e,fun i s hi=>hc i s ?_⟩;rw [List.getElem?_take] at hi
 split at hi
 ·exact hi
 ·cases hi
theorem sts_drop {w:World} {g:Nat} {L:List St} (k:Nat) (h:StsAt w (some ⟨g,0,none⟩) L):StsAt w (some ⟨g,k*8,none⟩) (L.drop k):=fun h0=>by
 rw [List.length_drop] at h0;obtain ⟨b,off,e,hc⟩:=h (by omega);injection e with e;injection e with e1 e2;subst e1;subst e2;refine ⟨_,_,rfl,fun i s hi=>?_⟩;rw [List.getElem?_drop] at hi;have:=hc (k+i) s hi;rw [show 0+(k+i)*8=k*8+i*8 by omega] at this;exact this
theorem flT_one (L:List St):∀ u∈flT L,u.oneCell'=true:=by
 intro u hu;obtain ⟨s,_,h⟩:=List.mem_flatMap.1 hu;exact stL_one s u h
theorem sts_src {w:World} {g off:Nat} {L:List St} (h:StsAt w (some ⟨g,off,none⟩) L):∀ j u,(flT L)[j]?=some u→w.cell? ((⟨g,off,none⟩:Addr).add j)=some u:=fun j u hj=>by
 have hl:=(List.getElem?_eq_some_iff.1 hj).1;rw [flT_len] at hl;obtain ⟨b,o,e,hc⟩:=h (by omega);injection e with e;injection e with e1 e2;subst e1;subst e2;have hi:j / 8<L.length:=by omega
 have hm:j % 8<8:=Nat.mod_lt _ (by omega);obtain ⟨q0,q1,q2,q3,q4,q5,q6,q7⟩:=hc (j / 8) (L[j / 8]) (List.getElem?_eq_getElem hi);have e2:=flT_at L (j / 8) (L[j / 8]) (j % 8) hm (List.getElem?_eq_getElem hi);rw [show j / 8*8+j % 8=j by omega,hj] at e2;have ea:((⟨g,off,none⟩:Addr).add j)=⟨g,off+j / 8*8+j % 8,none⟩:=by rw [Addr.add_lit,show off+j / 8*8+j % 8=off+j by omega]
 rw [ea];generalize j % 8=r at hm e2 ⊢;have:r=0∨r=1∨r=2∨r=3∨r=4∨r=5∨r=6∨r=7:=by omega
 rcases this with rfl | rfl | rfl | rfl | rfl | rfl | rfl | rfl <;> (simp [stL] at e2;subst e2;first | exact q0 | exact q1 | exact q2 | exact q3 | exact q4 | exact q5 | exact q6 | exact q7)
theorem own_turn {w:World} {B n k:Nat} {v:Value} {L:List St} (hn:L.length=n) (hk:k≤n) (h:w.ownsRow B 110 8 v (0+(n - k)+k) (([] ++ flT (L.drop k)) ++ flT (L.take k))):OwnT8 w B v (L.drop k ++ L.take k):=by
 show w.ownsRow _ _ _ _ _ _
 rw [flT_app,List.length_append,List.length_drop,List.length_take,hn,Nat.min_eq_left hk]
 simpa using h
structure CoXb (w:World) (G:Nat) (ao:Option Addr) (n cp:Nat) (R:List Ce) (code:Int) (L:List St):Prop where
 y:w.heap[G]?=some (.cells #[.slice ao n cp,.int .i64 code] 60 (0,0))
 r:OwnC w 0 (.slice ao n cp) R
 o:CesO w 0 R
 a:CoR L R code
 l:R.length=n
theorem CoXb.past {w w':World} {G n cp:Nat} {ao:Option Addr} {R:List Ce} {code:Int} {L:List St} (h:CoXb w G ao n cp R code L) (hb:Below w.heap.size w w'):CoXb w' G ao n cp R code L:=
 ⟨(hb.block G (Array.getElem?_eq_some_iff.1 h.y).1).trans h.y,h.r.past hb,h.o.past hb,h.a,h.l⟩
theorem CoP.box {w w':World} {L:List St} {e:Ending} (h:CoP w L e w'):∃ ao n cp R code,e=.returned (.agg #[.slice ao n cp,.int .i64 code])∧CoXb (w'.alloc (.cells #[.slice ao n cp,.int .i64 code] 60)) w'.heap.size ao n cp R code L∧Below w.heap.size w (w'.alloc (.cells #[.slice ao n cp,.int .i64 code] 60)):=by
 obtain ⟨v,R,code,rfl,hc,hr,ho,hb⟩:=h;obtain ⟨ao,cp,rfl,_⟩:=hr.form;have al:Below w'.heap.size w' (w'.alloc (.cells #[.slice ao R.length cp,.int .i64 code] 60)):=(Below.refl _ _).alloc (Nat.le_refl _) _;exact ⟨ao,R.length,cp,R,code,rfl,⟨heap_alloc_new w' _,(hr.past al).le (Nat.zero_le _),(ho.past al).le (Nat.zero_le _),hc,rfl⟩,chain hb al⟩
theorem CoR.q {L:List St} {R:List Ce} {code:Int} (h:CoR L R code) (ok:∀ s∈L,s.x.Ok):R.length≤60∧CnQ R∧(code=0→csR R=true):=by
 have z:CnQ []:=⟨by simp,by simp,by simp,by simp⟩
 cases h with
 | size=>exact ⟨by simp,z,fun e=>by omega⟩
 | form=>exact ⟨by simp,z,fun e=>by omega⟩
 | fall _ _ _ _ _ _ _ _ _ zz=>exact ⟨by simp,z,fun e=>absurd e zz⟩
 | ok R h m=>
  obtain ⟨a,b⟩:=m.right ok;exact ⟨(csR_iff.1 a).1,b,fun _=>a⟩
theorem shI_of {w:World} {ao:Option Addr} {n cp:Nat} {R:List Ce} (r:OwnC w 0 (.slice ao n cp) R) (o:CesO w 0 R) (l:R.length=n) (b:R.length≤60) (q:CnQ R):ShI w ao n R:=
 ⟨l,by omega,q.ok,q.sm,fun c hc=>(q.ky c hc).2,fun c hc=>(o.o c hc).plgX,OwnC.at r o.at⟩
theorem CoXb.sh {w:World} {G n cp:Nat} {ao:Option Addr} {R:List Ce} {code:Int} {L:List St} (h:CoXb w G ao n cp R code L) (ok:∀ s∈L,s.x.Ok):ShI w ao n R:=by
 obtain ⟨a,b,_⟩:=h.a.q ok;exact shI_of h.r h.o h.l a b
theorem CoXb.cells {w:World} {G n cp:Nat} {ao:Option Addr} {R:List Ce} {code:Int} {L:List St} (h:CoXb w G ao n cp R code L):w.cell? ⟨G,0,none⟩=some (.slice ao n cp)∧w.cell? ⟨G,1,none⟩=some (.int .i64 code):=⟨cellKX h.y 0 rfl,cellKX h.y 1 rfl⟩
theorem sameA_refl (g:Ag):sameA g g=true:=by simp [sameA,sameS,sameH]
theorem sameCs_refl:∀ L:List Ce,sameCs L L=true
 | []=>rfl
 | c :: L=>by
  show (sameC c c && sameCs L L)=true
  rw [sameCs_refl L,Bool.and_true];unfold sameC;rw [sameA_refl];simp
theorem csB_same {L M:List Ce} (k:L.map Ce.key=M.map Ce.key) (l:M.length≤400):csB L M=true:=by
 rw [csB_key k rfl];unfold csB;rw [sameCs_refl];simp [l]
theorem CoR.zero {L:List St} {R:List Ce} (h:CoR L R 0):CoI L R:=by
 cases h with
 | ok R h m=>exact m
 | fall _ _ _ _ _ _ _ _ _ zz=>exact absurd rfl zz
set_option maxHeartbeats 16000000 in
theorem walkRef (ao:Option Addr) (ln cap:Nat) (bo:Option Addr) (lm cbp:Nat) (w:World) (hl:ln≤maxLen) (ha:ln≤1048576→CodeAt w w.heap.size ao ln) (hm:lm≤maxLen) (hb:lm≤1048576→CodeAt w w.heap.size bo lm) (hx:MX w) :
  Calls Tryz.prog 5 #[.slice ao ln cap,.slice bo lm cbp] w fun e w'=>e=.returned (.bool true)∧Below w.heap.size w w':=by
 have hlz:ln≤9223372036854775807:=hl;have hmz:lm≤9223372036854775807:=hm;by_cases hl1:1048576<ln
 ·have hl1i:(1048576:Int)<(ln:Int):=by omega
  clear ha hb;go_enter Tryz.func5,Tryz.ntmps5;go_wp2;go_ret;exact ⟨rfl,Below.refl _ _⟩
 have hl1i:¬ (1048576:Int)<(ln:Int):=by omega
 by_cases hm1:1048576<lm
 ·have hm1i:(1048576:Int)<(lm:Int):=by omega
  clear ha hb;go_enter Tryz.func5,Tryz.ntmps5;go_wp2;go_ret;exact ⟨rfl,Below.refl _ _⟩
 have hm1i:¬ (1048576:Int)<(lm:Int):=by omega
 have HCa:=hide (ha (by omega));have HCb:=hide (hb (by omega));have HM:=hide hx;clear ha hb hx;obtain ⟨i0,hi,hz0,hz1,hz2⟩:=info_parts infoSt;go_enter Tryz.func5,Tryz.ntmps5;go_wp2_with fail;refine (c_DrawCellsOf HCa.out).mono ?_;rintro e w1 ⟨v,L,rfl,l17,own,ok,hb1⟩;obtain ⟨al,cl,rfl⟩:=own.form;obtain ⟨n,hn⟩:∃ n,L.length=n:=⟨_,rfl⟩;rw [hn] at own l17 ⊢;have HN:=hide hn;have OW1:=hide own;have AT1:=hide own.sts;have OK:=hide ok;have HT1:=hide hb1;clear hn own ok hb1;go_wp2_with fail;refine (c_i_CellsOfL (ca:=cl) HN.out (by omega) OK.out (HM.out.past HT1.out) AT1.out).mono ?_;intro e w2 hP;obtain ⟨ax,nx,px,X,cx,rfl,bx,hb2⟩:=hP.box;have BX2:=hide bx;have HB2:=hide hb2;clear bx hb2 hP;go_wp2_with fail;generalize w2.alloc (.cells #[.slice ax nx px,.int .i64 cx] 60)=W2 at BX2 HB2 ⊢;generalize w2.heap.size=gx at BX2 ⊢;have HT2:=hide (chain HT1.out HB2.out);refine (c_s_CellsOf (ca:=cl) HN.out (by omega) OK.out (sts_past AT1.out HB2.out)).mono ?_;intro e w3 hP;obtain ⟨aw,nw,pw,V,cw,rfl,bw,hb3⟩:=hP.box;have BW3:=hide bw;have HB3:=hide hb3;have BX3:=hide (BX2.out.past hb3);clear bw hb3 hP;obtain ⟨EK,rfl⟩:=CoR.same OK.out BX3.out.a BW3.out.a;have EK:=hide EK;have HT3:=hide (chain HT2.out HB3.out);have AT3:=hide (sts_past (sts_past AT1.out HB2.out) HB3.out);have OW3:=hide ((OW1.out.past HB2.out).past HB3.out);clear HT1 HT2 AT1 OW1 BX2 HB2 HB3;have LX:nx≤60:=by have:=BX3.out.l;have:=(BX3.out.a.q OK.out).1;omega
 have LW:nw≤60:=by have:=BW3.out.l;have:=(BW3.out.a.q OK.out).1;omega
 have ECS:Hid (csB X V=true):=csB_same EK.out (by have:=BW3.out.l;omega);go_upto_region 6 with fail;generalize w3.alloc (.cells #[.slice aw nw pw,.int .i64 cx] 60)=W3 at BX3 BW3 HT3 AT3 OW3 ⊢;generalize w3.heap.size=gw at BW3 ⊢;obtain ⟨x0,x1⟩:=BX3.out.cells;obtain ⟨y0,y1⟩:=BW3.out.cells;go_wp2_with fail;clear x0 x1 y0 y1;have SX:=hide (BX3.out.sh OK.out);have SW:=hide (BW3.out.sh OK.out);refine (c_s_CellsSame SX.out.hN SW.out.hN SX.out.lN SW.out.lN SX.out.sm SW.out.sm SX.out.mem SW.out.mem).mono ?_;rintro e w4 ⟨rfl,hb4⟩;rw [ECS.out];have BX4:=hide (BX3.out.past hb4);have HT4:=hide (chain HT3.out hb4);have AT4:=hide (sts_past AT3.out hb4);have OW4:=hide (OW3.out.past hb4);clear hb4 SX SW BX3 BW3 HT3 AT3 OW3 ECS EK;obtain ⟨x0,x1⟩:=BX4.out.cells;by_cases hcx:cx=0
 case neg=>
  have hc1:(cx != 0)=true:=bne_iff_ne.2 hcx;have hc2:(cx == 0)=false:=beq_eq_false_iff_ne.2 hcx;go_wp2;go_ret;exact ⟨rfl,HT4.out⟩
 case pos=>
 subst hcx;by_cases hn0:n=0
 ·subst hn0
  go_wp2;go_ret;exact ⟨rfl,HT4.out⟩
 have hn0i:((n:Int) == 0)=false:=beq_eq_false_iff_ne.2 (by omega);go_wp2_with fail;clear x0 x1;refine (c_lwAtB bo lm cbp 0 n (by omega) (by omega) (by omega) w4 w HCb.out HT4.out).mono ?_;rintro e w5 ⟨k,rfl,hkn,hw5⟩;obtain rfl:=hw5.symm;have hkn:k<n:=by omega
 obtain ⟨⟨g,rfl⟩,hnl,hcap0,hcmx⟩:=OW4.out.capN (by have:=HN.out;omega);have hcap:n≤cl:=by have:=HN.out;omega
 clear OW4 hnl hcap0;have hk0:(0:Int)≤(k:Int):=by omega
 have hk1:(k:Int)≤(n:Int):=by omega
 have hk2:(k:Int)≤(cl:Int):=by omega
 have hk3:(n:Int)≤(cl:Int):=by omega
 have hkc:¬ cl=k:=by omega
 have DR4:=hide (sts_drop k AT4.out);have TK4:=hide (sts_take k AT4.out);have LDR:Hid ((L.drop k).length=n - k):=by show _=_;rw [List.length_drop,HN.out]
 have LTK:Hid ((L.take k).length=k):=by show _=_;rw [List.length_take,HN.out];omega
 go_wp2_with fail;have HS0:(fun W=>Below w4.heap.size w4 W) w4.drew:=(Below.refl _ _).drew;refine regionK (fun W=>Below w4.heap.size w4 W) 99 (by kernel_rfl) ?_;generalize w4.drew=X0 at HS0 ⊢;replace HS0:Below w4.heap.size w4 X0:=HS0;refine tkS (i:=1) (v:=.slice (some ⟨g,0,none⟩) n cl) rfl rfl HS0 ?_;refine tkS (i:=2) (v:=.int .i64 k) rfl rfl HS0 ?_;refine tkS (i:=3) (v:=.slice (some ⟨g,k*8,none⟩) (n - k) (cl - k)) rfl rfl HS0 ?_;simp only [sA,sB,sC];refine tkS (i:=5) (v:=.slice (some ⟨g,0,none⟩) n cl) rfl rfl HS0 ?_;refine tkS (i:=6) (v:=.int .i64 k) rfl rfl HS0 ?_;refine tkS (i:=7) (v:=.slice (some ⟨g,0,none⟩) k cl) rfl rfl HS0 ?_;simp only [sA,sB,sC];refine onE (i:=0) rfl (fun K hK=>?_);go_simp;have HB6:Hid (Below w4.heap.size w4 (X0.alloc (.cells #[] 110))):=HS0.alloc HS0.size _;have HO6:=hide ((OwnT8.made X0 #[] rfl).le HS0.size);refine hK.out _ _ (fun _=>HB6.out) ?_;clear hK K
 try simp only [Act.put,sA,sB,sC]
 generalize X0.alloc (.cells #[] 110)=W6 at HB6 HO6 ⊢;generalize X0.heap.size=x0s at HO6 ⊢;replace HO6:Hid (W6.ownsRow w4.heap.size 110 8 (.slice (some ⟨x0s,0,none⟩) 0 0) 0 []):=HO6;refine onE (i:=4) rfl (fun K hK=>?_);rw [if_pos (by rfl)];refine wp_append_own _ (.tmp 52) (.tmp 55) 57 rfl w4.heap.size 110 i0 (.agg zeroSt) 8 80 Tryz.underlying57 hi hz0 hz1 hz2 rfl (by decide) _ _ _ rfl HO6.out ⟨g,k*8,none⟩ (n - k) (cl - k) (flT (L.drop k)) rfl (by rw [flT_len,LDR.out]) (sts_src (sts_past DR4.out HB6.out)) (flT_one _) (by unfold maxLen;omega) (by omega) HB6.out.size ?_;intro v7 w7 hown hgrow _;have HB7:=hide (HB6.out.grown hgrow HB6.out.size (fun j hj=>(World.ownsRow.lt HO6.out j hj).1));have HO7:=hide hown;clear hown hgrow;refine hK.out _ _ (fun _=>HB7.out) ?_;clear hK K
 try simp only [Act.put,sA,sB,sC]
 refine onE (i:=8) rfl (fun K hK=>?_);rw [if_pos (by rfl)];refine wp_append_own _ (.tmp 56) (.tmp 59) 57 rfl w4.heap.size 110 i0 (.agg zeroSt) 8 80 Tryz.underlying57 hi hz0 hz1 hz2 rfl (by decide) _ _ _ rfl HO7.out ⟨g,0,none⟩ k cl (flT (L.take k)) rfl (by rw [flT_len,LTK.out]) (sts_src (sts_past TK4.out HB7.out)) (flT_one _) (by unfold maxLen;omega) (by omega) HB7.out.size ?_;intro v8 w8 hown hgrow _;have HB8:=hide (HB7.out.grown hgrow HB7.out.size (fun j hj=>(World.ownsRow.lt HO7.out j hj).1));have HO8:=hide hown;clear hown hgrow;refine hK.out _ _ (fun _=>HB8.out) ?_;clear hK K
 try simp only [Act.put,sA,sB,sC]
 refine onE (i:=9) rfl (fun K hK=>?_);go_simp;refine hK.out _ _ (fun _=>HB8.out) ?_;clear hK K
 try simp only [Act.put,sA,sB,sC]
 refine doneK (by kernel_rfl) ?_ _;have OT8:=hide (own_turn HN.out (by omega) HO8.out);clear HO6 HO7 HO8 HB6 HB7;obtain ⟨nt,hnt⟩:∃ m,(L.drop k ++ L.take k).length=m:=⟨_,rfl⟩;have hnt2:nt≤17:=by rw [← hnt,List.length_append,LDR.out,LTK.out];omega
 obtain ⟨at_,ct,rfl⟩:=OT8.out.form;rw [hnt] at OT8 ⊢;have HNT:=hide hnt
 have OKT:Hid (∀ t∈L.drop k ++ L.take k,t.x.Ok):=fun t ht=>by
  rcases List.mem_append.1 ht with h | h
  ·exact OK.out t (List.mem_of_mem_drop h)
  ·exact OK.out t (List.mem_of_mem_take h)
 have HT8:=hide (chain HT4.out HB8.out);have BX8:=hide (BX4.out.past HB8.out);have DR8:=hide (sts_past DR4.out HB8.out);have TK8:=hide (sts_past TK4.out HB8.out);clear hnt BX4 HB8 HT4 AT4 DR4 TK4;go_wp2_with fail;refine (c_i_CellsOfL (ca:=ct) HNT.out (by omega) OKT.out (HM.out.past HT8.out) OT8.out.sts).mono ?_;intro e w9 hP;obtain ⟨ay,ny,py,Y,cy,rfl,by_,hb9⟩:=hP.box;obtain ⟨rfl,IY⟩:=CoR.sub BX8.out.a.zero OK.out (fun t ht=>by rcases List.mem_append.1 ht with h | h;exact List.mem_of_mem_drop h;exact List.mem_of_mem_take h) (by have:=HNT.out;omega) by_.a;have BY9:=hide by_;have IY:=hide IY;have BX9:=hide (BX8.out.past hb9);have HT9:=hide (chain HT8.out hb9);have DR9:=hide (sts_past DR8.out hb9);have TK9:=hide (sts_past TK8.out hb9);clear hP by_ hb9 BX8 HT8 DR8 TK8 OT8;go_wp2_with fail;generalize w9.alloc (.cells #[.slice ay ny py,.int .i64 0] 60)=W9 at BY9 BX9 HT9 DR9 TK9 ⊢;generalize w9.heap.size=gy at BY9 ⊢;refine (c_i_CellsOfL (ca:=cl) LTK.out (by omega) (fun t ht=>OK.out t (List.mem_of_mem_take ht)) (HM.out.past HT9.out) TK9.out).mono ?_;intro e w10 hP;obtain ⟨aa,na,pa,P,ca,rfl,ba,hb10⟩:=hP.box;obtain ⟨rfl,IA⟩:=CoR.sub BX9.out.a.zero OK.out (fun t ht=>List.mem_of_mem_take ht) (by have:=LTK.out;omega) ba.a;have BA10:=hide ba;have IA:=hide IA;have BX10:=hide (BX9.out.past hb10);have BY10:=hide (BY9.out.past hb10);have HT10:=hide (chain HT9.out hb10);have DR10:=hide (sts_past DR9.out hb10);clear hP ba hb10 BX9 BY9 HT9 DR9 TK9;go_wp2_with fail;generalize w10.alloc (.cells #[.slice aa na pa,.int .i64 0] 60)=W10 at BA10 BY10 BX10 HT10 DR10 ⊢;generalize w10.heap.size=ga at BA10 ⊢;refine (c_i_CellsOfL (ca:=cl - k) LDR.out (by omega) (fun t ht=>OK.out t (List.mem_of_mem_drop ht)) (HM.out.past HT10.out) DR10.out).mono ?_;intro e w11 hP;obtain ⟨ab,nb,pb,Q,cb,rfl,bb,hb11⟩:=hP.box;obtain ⟨rfl,IB⟩:=CoR.sub BX10.out.a.zero OK.out (fun t ht=>List.mem_of_mem_drop ht) (by have:=LDR.out;omega) bb.a;have BB:=hide bb;have IB:=hide IB;have BX:=hide (BX10.out.past hb11);have BY:=hide (BY10.out.past hb11);have BA:=hide (BA10.out.past hb11);have HT:=hide (chain HT10.out hb11);clear hP bb hb11 BX10 BY10 BA10 HT10 DR10;have SX:=hide (BX.out.sh OK.out);have SY:=hide (BY.out.sh OKT.out);have SA:=hide (BA.out.sh (fun t ht=>OK.out t (List.mem_of_mem_take ht)));have SB:=hide (BB.out.sh (fun t ht=>OK.out t (List.mem_of_mem_drop ht)));have IX:=hide BX.out.a.zero;have OKL:Hid (∀ t∈L.take k ++ L.drop k,t.x.Ok):=fun t ht=>by rw [List.take_append_drop] at ht;exact OK.out t ht
 have IXL:Hid (CoI (L.take k ++ L.drop k) X):=by rw [List.take_append_drop];exact IX.out
 have E1:Hid (csB X Y=true):=csB_same (IXL.out.turn OKL.out IY.out).symm (by have:=(BY.out.a.q OKT.out).1;omega);have HR:Hid (csR X=true):=(BX.out.a.q OK.out).2.2 rfl;have LX:=(BX.out.a.q OK.out).1;have HM11:=hide (HM.out.past HT.out);go_wp2_with fail;generalize w11.alloc (.cells #[.slice ab nb pb,.int .i64 0] 60)=W11 at BB BA BY BX HT SX SY SA SB HM11 ⊢;generalize w11.heap.size=gb at BB ⊢;have FC:Hid (∀ W,Below W11.heap.size W11 W→(W.cell? ⟨gx,0,none⟩=some (.slice ax nx px))∧(W.cell? ⟨gy,0,none⟩=some (.slice ay ny py)∧W.cell? ⟨gy,1,none⟩=some (.int .i64 0))∧(W.cell? ⟨ga,0,none⟩=some (.slice aa na pa)∧W.cell? ⟨ga,1,none⟩=some (.int .i64 0))∧(W.cell? ⟨gb,0,none⟩=some (.slice ab nb pb)∧W.cell? ⟨gb,1,none⟩=some (.int .i64 0))):=fun W hW=>⟨(BX.out.past hW).cells.1,(BY.out.past hW).cells,(BA.out.past hW).cells,(BB.out.past hW).cells⟩;have HS0:(fun W=>Below W11.heap.size W11 W) W11.drew:=(Below.refl _ _).drew;refine regionK (fun W=>Below W11.heap.size W11 W) 99 (by kernel_rfl) ?_;refine tkS (i:=0) (v:=.pointer (some ⟨gy,1,none⟩)) rfl rfl HS0 ?_;refine tkL (i:=1) (v:=.int .i64 0) rfl rfl HS0 (fun W hW=>?_) ?_
 ·obtain ⟨x0,⟨y0,y1⟩,⟨a0,a1⟩,⟨b0,b1⟩⟩:=FC.out W hW
  clear hW;go_simp
 refine tkS (i:=2) (v:=.bool true) rfl rfl HS0 ?_;simp only [sA,sB,sC];refine tkS (i:=3) (v:=.bool true) rfl rfl HS0 ?_;refine tkS (i:=4) (v:=.pointer (some ⟨gx,0,none⟩)) rfl rfl HS0 ?_;refine tkL (i:=5) (v:=.slice ax nx px) rfl rfl HS0 (fun W hW=>?_) ?_
 ·obtain ⟨x0,⟨y0,y1⟩,⟨a0,a1⟩,⟨b0,b1⟩⟩:=FC.out W hW
  clear hW;go_simp
 simp only [sA,sB,sC];refine tkS (i:=6) (v:=.pointer (some ⟨gy,0,none⟩)) rfl rfl HS0 ?_;refine tkL (i:=7) (v:=.slice ay ny py) rfl rfl HS0 (fun W hW=>?_) ?_
 ·obtain ⟨x0,⟨y0,y1⟩,⟨a0,a1⟩,⟨b0,b1⟩⟩:=FC.out W hW
  clear hW;go_simp
 simp only [sA,sB,sC];refine onE (i:=8) rfl (fun K hK=>?_);go_simp;refine (c_s_CellsSame SX.out.hN SY.out.hN SX.out.lN SY.out.lN SX.out.sm SY.out.sm (ces_past SX.out.mem HS0) (ces_past SY.out.mem HS0)).mono ?_;rintro e w12 ⟨rfl,hb12⟩;rw [E1.out];have HB12:Hid (Below W11.heap.size W11 w12):=chain (HS0:Below W11.heap.size W11 W11.drew) hb12;clear hb12;dsimp only;refine hK.out _ _ (fun _=>HB12.out) ?_;clear hK K
 try simp only [Act.put,sA,sB,sC]
 refine tkS (i:=9) (v:=.bool true) rfl rfl HB12.out ?_;refine tkS (i:=10) (v:=.bool true) rfl rfl HB12.out ?_;refine tkS (i:=11) (v:=.pointer (some ⟨ga,1,none⟩)) rfl rfl HB12.out ?_;simp only [sA,sB,sC];refine tkL (i:=12) (v:=.int .i64 0) rfl rfl HB12.out (fun W hW=>?_) ?_
 ·obtain ⟨x0,⟨y0,y1⟩,⟨a0,a1⟩,⟨b0,b1⟩⟩:=FC.out W hW
  clear hW;go_simp
 refine tkS (i:=13) (v:=.bool true) rfl rfl HB12.out ?_;refine tkS (i:=14) (v:=.bool true) rfl rfl HB12.out ?_;simp only [sA,sB,sC];refine tkS (i:=15) (v:=.bool true) rfl rfl HB12.out ?_;refine tkS (i:=16) (v:=.pointer (some ⟨gb,1,none⟩)) rfl rfl HB12.out ?_;refine tkL (i:=17) (v:=.int .i64 0) rfl rfl HB12.out (fun W hW=>?_) ?_
 ·obtain ⟨x0,⟨y0,y1⟩,⟨a0,a1⟩,⟨b0,b1⟩⟩:=FC.out W hW
  clear hW;go_simp
 simp only [sA,sB,sC];refine tkS (i:=18) (v:=.bool true) rfl rfl HB12.out ?_;refine tkS (i:=19) (v:=.bool true) rfl rfl HB12.out ?_;refine tkS (i:=20) (v:=.bool true) rfl rfl HB12.out ?_;simp only [sA,sB,sC];refine tkS (i:=21) (v:=.pointer (some ⟨ga,0,none⟩)) rfl rfl HB12.out ?_;refine tkL (i:=22) (v:=.slice aa na pa) rfl rfl HB12.out (fun W hW=>?_) ?_
 ·obtain ⟨x0,⟨y0,y1⟩,⟨a0,a1⟩,⟨b0,b1⟩⟩:=FC.out W hW
  clear hW;go_simp
 refine tkS (i:=23) (v:=.pointer (some ⟨gb,0,none⟩)) rfl rfl HB12.out ?_;simp only [sA,sB,sC];refine tkL (i:=24) (v:=.slice ab nb pb) rfl rfl HB12.out (fun W hW=>?_) ?_
 ·obtain ⟨x0,⟨y0,y1⟩,⟨a0,a1⟩,⟨b0,b1⟩⟩:=FC.out W hW
  clear hW;go_simp
 refine tkS (i:=26) (v:=.pointer (some ⟨gx,0,none⟩)) rfl rfl HB12.out ?_;refine tkL (i:=27) (v:=.slice ax nx px) rfl rfl HB12.out (fun W hW=>?_) ?_
 ·obtain ⟨x0,⟨y0,y1⟩,⟨a0,a1⟩,⟨b0,b1⟩⟩:=FC.out W hW
  clear hW;go_simp
 simp only [sA,sB,sC];refine onE (i:=25) rfl (fun K hK=>?_);go_simp;refine (c_i_CellsMerge (HM11.out.past HB12.out) (SA.out.past HB12.out) (SB.out.past HB12.out)).mono ?_;rintro e w13 ⟨vm,M,rfl,hmg,hr13,ho13,hb13⟩;obtain ⟨am,pm,rfl,_⟩:=hr13.form;have EM:=hide (IXL.out.mga OKL.out IA.out IB.out hmg);have LM:M.length≤60:=by have:=congrArg List.length EM.out;simp at this;omega
 have SM:Hid (ShI w13 am M.length M):=shI_of (hr13.le (Nat.zero_le _)) (ho13.le (Nat.zero_le _)) rfl LM (CnQ.keys (BX.out.a.q OK.out).2.1 EM.out);have HB13:=hide (chain HB12.out hb13);have E2:Hid (csB M X=true):=csB_same EM.out (by omega);clear hb13 hr13 ho13 hmg;dsimp only;refine hK.out _ _ (fun _=>HB13.out) ?_;clear hK K
 try simp only [Act.put,sA,sB,sC]
 refine onE (i:=28) rfl (fun K hK=>?_);go_simp;refine (c_s_CellsSame SM.out.hN SX.out.hN SM.out.lN SX.out.lN SM.out.sm SX.out.sm SM.out.mem (ces_past SX.out.mem HB13.out)).mono ?_;rintro e w14 ⟨rfl,hb14⟩;rw [E2.out];have HB14:=hide (chain HB13.out hb14);clear hb14;dsimp only;refine hK.out _ _ (fun _=>HB14.out) ?_;clear hK K
 try simp only [Act.put,sA,sB,sC]
 refine tkS (i:=29) (v:=.bool true) rfl rfl HB14.out ?_;refine tkS (i:=30) (v:=.bool true) rfl rfl HB14.out ?_;refine tkS (i:=31) (v:=.pointer (some ⟨gx,0,none⟩)) rfl rfl HB14.out ?_;simp only [sA,sB,sC];refine tkL (i:=32) (v:=.slice ax nx px) rfl rfl HB14.out (fun W hW=>?_) ?_
 ·obtain ⟨x0,⟨y0,y1⟩,⟨a0,a1⟩,⟨b0,b1⟩⟩:=FC.out W hW
  clear hW;go_simp
 simp only [sA,sB,sC];refine onE (i:=33) rfl (fun K hK=>?_);go_simp;refine (c_i_CellsRight SX.out.hN SX.out.lN SX.out.ok SX.out.sm SX.out.ss (HM11.out.past HB14.out) (ces_past SX.out.mem HB14.out)).mono ?_;rintro e w15 ⟨rfl,hb15⟩;rw [HR.out];have HB15:=hide (chain HB14.out hb15);clear hb15;dsimp only;refine hK.out _ _ (fun _=>HB15.out) ?_;clear hK K
 try simp only [Act.put,sA,sB,sC]
 refine tkS (i:=34) (v:=.bool true) rfl rfl HB15.out ?_;simp only [sA,sB,sC];refine onE (i:=35) rfl (fun K hK=>?_);go_simp;refine hK.out _ _ (fun _=>HB15.out) ?_;clear hK K
 try simp only [Act.put,sA,sB,sC]
 refine doneK (by kernel_rfl) ?_ _;go_wp2;go_ret;exact ⟨rfl,chain HT.out HB15.out⟩
end Go.Proofs.YthchmdmncmioiaaGreatDoor
