/-
 The contract of spec.l03Gather: the bins of both lists, gathered.
-/
import Derived.Test.YthpilcoklapooaaGreatDoorAJT
import Derived.Laws.OwnMore
namespace Go.Proofs.YthpilcoklapooaaGreatDoor
set_option linter.unusedVariables false
set_option linter.unusedSimpArgs false
open Go.ChangeShapes Go.WideShapes Go.ChangeAt Go.RowKit Go.PlainAid Go.Lib
set_option maxRecDepth 10000
theorem fl_snoc (R:List Bn) (x:Bn):fl encB R ++ encB x=fl encB (R ++ [x]):=by rw [fl_app,fl_one]
theorem own_some {w:World} {B n:Nat} {T:TypeId} {s:Nat} {v:Value} {xs:List Value} (h:w.ownsRow B T s v n xs) (hv:v≠.slice none 0 0):∃ g c,v=.slice (some ⟨g,0,none⟩) n c:=by
 rcases h.2 with ⟨e,_⟩ | ⟨g,c,_,e,_⟩
 ·exact absurd e hv
 ·exact ⟨g,c,e⟩
theorem mrg_ok {a b:List Bn} (ha:∀ x∈a,BnOk x) (hb:∀ x∈b,BnOk x):∀ z∈mrg a b,BnOk z:=by
 induction a,b using mrg.induct with
 | case1 b=>rw [mrg_nil];exact hb
 | case2 x a=>rw [mrg_nil'];exact ha
 | case3 x a y b h ih=>
  rw [mrg_lt h]
  intro z hz
  rcases List.mem_cons.1 hz with rfl | hz
  ·exact ha _ (List.mem_cons_self ..)
  ·exact ih (fun q hq=>ha q (List.mem_cons_of_mem _ hq)) hb z hz
 | case4 x a y b h h2 ih=>
  rw [mrg_gt h2]
  intro z hz
  rcases List.mem_cons.1 hz with rfl | hz
  ·exact hb _ (List.mem_cons_self ..)
  ·exact ih ha (fun q hq=>hb q (List.mem_cons_of_mem _ hq)) z hz
 | case5 x a y b h h2 ih=>
  rw [mrg_eq (by omega)]
  intro z hz
  rcases List.mem_cons.1 hz with rfl | hz
  ·exact ⟨(ha x (List.mem_cons_self ..)).1,wAdd_ok (ha x (List.mem_cons_self ..)).2 (hb y (List.mem_cons_self ..)).2⟩
  ·exact ih (fun q hq=>ha q (List.mem_cons_of_mem _ hq)) (fun q hq=>hb q (List.mem_cons_of_mem _ hq)) z hz
theorem set_second {R:List Bn} {s:Nat} {p x y:Int} (h:s<R.length):(fl encB (R.set s (p,x))).set (s*2+1) (.int .u64 y)=fl encB (R.set s (p,y)):=by
 have hl:s<(R.set s (p,x)).length:=by rw [List.length_set];exact h
 have h1:=fl_set (u:=.int .i64 p) (v:=.int .u64 y) encB2 (R.set s (p,x)) s (p,y) hl rfl
 rw [List.set_set] at h1
 rw [← h1]
 congr 1
 have h0:(fl encB (R.set s (p,x)))[s*2]?=some (.int .i64 p):=by
  have:=fl_at encB2 (R.set s (p,x)) s (p,x) 0 (by omega) (by simp [h])
  rw [Nat.add_zero] at this
  rw [this];rfl
 refine List.ext_getElem? fun j=>?_
 by_cases e:s*2=j
 ·subst e;rw [List.getElem?_set_self (List.getElem?_eq_some_iff.1 h0).1,h0]
 ·rw [List.getElem?_set_ne e]
theorem keep_set {R:List Bn} {s:Nat} {p x0:Int} (hq:R.length=s+30) (hs:0<s) (h:R[s]?=some (p,x0)):keepL R=(R.set s (p,foldW x0 (R.take s))).drop s:=by
 have hsR:=(List.getElem?_eq_some_iff.1 h).1
 unfold keepL
 rw [if_neg (by omega),show R.length - 30=s by omega,List.drop_eq_getElem_cons hsR]
 have hd:(R.set s (p,foldW x0 (R.take s))).drop s=(p,foldW x0 (R.take s)) :: R.drop (s+1):=by
  rw [List.drop_eq_getElem_cons (by rw [List.length_set];exact hsR)]
  rw [show (R.set s (p,foldW x0 (R.take s))).drop (s+1)=R.drop (s+1) from List.ext_getElem? fun q=>by rw [List.getElem?_drop,List.getElem?_drop,List.getElem?_set_ne (by omega)]]
  simp
 rw [hd,(List.getElem?_eq_some_iff.1 h).2]
set_option maxHeartbeats 8000000 in
theorem c_s_l03Gather {w:World} {ao bo:Option Addr} {P N:List Bn} (c c' m n:Nat) (hm:P.length=m) (hn:N.length=n) (lm:m≤30) (ln:n≤30) (hA:BinsAt w ao P) (hB:BinsAt w bo N) (kA:∀ x∈P,BnOk x) (kB:∀ x∈N,BnOk x) :
  Calls Tryz.prog 171 #[.slice ao m c,.slice bo n c'] w fun e w'=>∃ v' n',e=.returned v'∧w'.ownsRow w.heap.size 188 2 v' n' (fl encB (keepL (mrg P N)))∧n'=(keepL (mrg P N)).length∧Below w.heap.size w w':=by
 obtain ⟨i0,hi,hz0,hz1,hz2⟩:=info_parts infoBin
 have HA:=hide hA
 have HB':=hide hB
 have KA:=hide kA
 have KB:=hide kB
 have EM:=hide hm
 have EN:=hide hn
 clear hA hB kA kB hm hn
 go_enter Tryz.func171,Tryz.ntmps171
 go_wp2
 go_loopw [5,6,7] (fun v s t wr=>∃ (i k:Nat) (R:List Bn),i≤m∧k≤n∧s=.int .i64 i∧t=.int .i64 k∧v≠.slice none 0 0∧R.length≤i+k∧wr.ownsRow w.heap.size 188 2 v R.length (fl encB R)∧Hid (R ++ mrg (P.drop i) (N.drop k)=mrg P N)∧Below w.heap.size w wr) (fun v s t wr=>(m - (RowKit.intOf s).toNat)+(n - (RowKit.intOf t).toNat))
 case atStart=>exact ⟨0,0,[],Nat.zero_le _,Nat.zero_le _,rfl,rfl,(fun e=>by cases e),Nat.le_refl _,World.ownsRow_made w #[] 0 (Nat.le_refl _) (Nat.zero_le _) rfl,(rfl:[] ++ mrg (P.drop 0) (N.drop 0)=mrg P N),(Below.refl _ _).alloc (Nat.le_refl _) _⟩
 case round=>
  obtain ⟨i,k,R,hi',hk',rfl,rfl,hv,hRl,hown,HR,hbel⟩:=hrel
  obtain ⟨g,cv,rfl⟩:=own_some hown hv
  obtain ⟨q,hq⟩:∃ q,R.length=q:=⟨_,rfl⟩
  rw [hq] at hown hRl
  rw [hq]
  have HQ:=hide hq
  have HO:=hide hown
  have HB:=hide hbel
  have HOq:=hide (fun z=>(show (wr.drewN z).ownsRow w.heap.size 188 2 (.slice (some ⟨g,0,none⟩) q cv) q (fl encB R) from hown))
  have HB0:=hide (fun z o=>((bel_drews hbel z).alloc hbel.size o:Below w.heap.size w ((wr.drewN z).alloc o)))
  clear hq hv
  have cases5:(i<m∧k=n)∨(i<m∧k<n)∨(i=m∧k<n)∨(i=m∧k=n):=by omega
  rcases cases5 with ⟨him,hkn⟩ | ⟨him,hkn⟩ | ⟨him,hkn⟩ | ⟨him,hkn⟩
  ·subst hkn
   obtain ⟨⟨a,u⟩,hRi⟩:∃ x,P[i]?=some x:=⟨P[i]'(by have:=EM.out;omega),List.getElem?_eq_getElem _⟩
   obtain ⟨b,off,rfl,hcell⟩:=HA.out (by have:=EM.out;omega)
   have hc0:=cell_past hbel (hcell i _ hRi).1
   have hc1:=cell_past hbel (hcell i _ hRi).2
   have HE:Hid ((R ++ [(a,u)]) ++ mrg (P.drop (i+1)) (N.drop k)=mrg P N):=by
    refine (?_:(R ++ [(a,u)]) ++ mrg (P.drop (i+1)) (N.drop k)=mrg P N)
    rw [← HR.out,mrg_drop_l hRi (.inl EN.out.symm),List.append_assoc];rfl
   have d1:decide ((i:Int)<(m:Int))=true:=decide_eq_true (by omega)
   clear hbel hown hcell hRi
   go_wp2
   go_quiet (fail)
   go_wp2_with (at_builtin;refine wpList_append_own _ rfl (.tmp 69) (.tmp 74) 26 rfl w.heap.size 188 i0 (.agg #[.int .i64 0,.int .u64 0]) 2 16 Tryz.underlying26 hi hz0 hz1 hz2 rfl (by decide) _ _ _ rfl ((HOq.out _).alloc _) ⟨wr.heap.size,0,none⟩ 1 1 (encB (a,u)) rfl rfl (new_cells (cs:=#[.int .i64 a,.int .u64 u]) rfl) (encB_one _) (by unfold maxLen;omega) (by omega) (by simp;have:=HB.out.size;omega) ?_;intro v1 w1 hown1 hgrow1 hnil1;have O1:=hide hown1;have B1:=hide ((HB0.out _ _).grown hgrow1 (by simp;have:=HB.out.size;omega) (fun j hj=>(HO.out.lt j hj).1));have N1:=hide (show v1≠.slice none 0 0 from fun e=>by have:=(hnil1.1 e).2;omega);clear hown1 hgrow1 hnil1)
   go_roundw
   case rel=>exact ⟨i+1,k,R ++ [(a,u)],by omega,by omega,by go_num,rfl,N1.out,by simp;have:=HQ.out;omega,by have:=O1.out;rw [fl_snoc] at this;simpa [HQ.out] using this,HE,B1.out⟩
   case measure=>simp [RowKit.intOf];omega
  ·obtain ⟨⟨a,u⟩,hRi⟩:∃ x,P[i]?=some x:=⟨P[i]'(by have:=EM.out;omega),List.getElem?_eq_getElem _⟩
   obtain ⟨⟨a',u'⟩,hRk⟩:∃ x,N[k]?=some x:=⟨N[k]'(by have:=EN.out;omega),List.getElem?_eq_getElem _⟩
   obtain ⟨b,off,rfl,hcell⟩:=HA.out (by have:=EM.out;omega)
   obtain ⟨b',off',rfl,hcell'⟩:=HB'.out (by have:=EN.out;omega)
   have hc0:=cell_past hbel (hcell i _ hRi).1
   have hc1:=cell_past hbel (hcell i _ hRi).2
   have hd0:=cell_past hbel (hcell' k _ hRk).1
   have hd1:=cell_past hbel (hcell' k _ hRk).2
   obtain ⟨_,hu⟩:=KA.out _ (List.mem_of_getElem? hRi)
   obtain ⟨_,hu'⟩:=KB.out _ (List.mem_of_getElem? hRk)
   simp only at hu hu'
   have d1:decide ((i:Int)<(m:Int))=true:=decide_eq_true (by omega)
   have d2:((k:Int) == (n:Int))=false:=beq_eq_false_iff_ne.2 (by omega)
   have d3:((i:Int) == (m:Int))=false:=beq_eq_false_iff_ne.2 (by omega)
   have HRi:=hide hRi
   have HRk:=hide hRk
   have HCw:=hide (⟨(hcell i _ hRi).1,(hcell i _ hRi).2,(hcell' k _ hRk).2⟩:w.cell? ⟨b,off+i*2,none⟩=some (.int .i64 a)∧w.cell? ⟨b,off+i*2+1,none⟩=some (.int .u64 u)∧w.cell? ⟨b',off'+k*2+1,none⟩=some (.int .u64 u'))
   clear hbel hown hcell hcell' hRi hRk
   have c3:a<a'∨(¬ a<a'∧a'<a)∨(¬ a<a'∧¬ a'<a):=by omega
   rcases c3 with h1 | ⟨h1,h2⟩ | ⟨h1,h2⟩
   ·have HE:Hid ((R ++ [(a,u)]) ++ mrg (P.drop (i+1)) (N.drop k)=mrg P N):=by
     refine (?_:(R ++ [(a,u)]) ++ mrg (P.drop (i+1)) (N.drop k)=mrg P N)
     rw [← HR.out,mrg_drop_l HRi.out (.inr ⟨_,HRk.out,h1⟩),List.append_assoc];rfl
    have d4:decide (a<a')=true:=decide_eq_true h1
    go_wp2
    go_quiet (fail)
    go_wp2_with (at_builtin;refine wpList_append_own _ rfl (.tmp 69) (.tmp 74) 26 rfl w.heap.size 188 i0 (.agg #[.int .i64 0,.int .u64 0]) 2 16 Tryz.underlying26 hi hz0 hz1 hz2 rfl (by decide) _ _ _ rfl ((HOq.out _).alloc _) ⟨wr.heap.size,0,none⟩ 1 1 (encB (a,u)) rfl rfl (new_cells (cs:=#[.int .i64 a,.int .u64 u]) rfl) (encB_one _) (by unfold maxLen;omega) (by omega) (by simp;have:=HB.out.size;omega) ?_;intro v1 w1 hown1 hgrow1 hnil1;have O1:=hide hown1;have B1:=hide ((HB0.out _ _).grown hgrow1 (by simp;have:=HB.out.size;omega) (fun j hj=>(HO.out.lt j hj).1));have N1:=hide (show v1≠.slice none 0 0 from fun e=>by have:=(hnil1.1 e).2;omega);clear hown1 hgrow1 hnil1)
    go_roundw
    case rel=>exact ⟨i+1,k,R ++ [(a,u)],by omega,by omega,by go_num,by go_num,N1.out,by simp;have:=HQ.out;omega,by have:=O1.out;rw [fl_snoc] at this;simpa [HQ.out] using this,HE,B1.out⟩
    case measure=>simp [RowKit.intOf];omega
   ·have HE:Hid ((R ++ [(a',u')]) ++ mrg (P.drop i) (N.drop (k+1))=mrg P N):=by
     refine (?_:(R ++ [(a',u')]) ++ mrg (P.drop i) (N.drop (k+1))=mrg P N)
     rw [← HR.out,mrg_drop_r HRk.out (.inr ⟨_,HRi.out,h2⟩),List.append_assoc];rfl
    have d4:decide (a<a')=false:=decide_eq_false h1
    have d5:decide (a'<a)=true:=decide_eq_true h2
    go_wp2
    go_quiet (fail)
    go_wp2
    go_quiet (fail)
    go_wp2_with (at_builtin;refine wpList_append_own _ rfl (.tmp 96) (.tmp 101) 26 rfl w.heap.size 188 i0 (.agg #[.int .i64 0,.int .u64 0]) 2 16 Tryz.underlying26 hi hz0 hz1 hz2 rfl (by decide) _ _ _ rfl ((HOq.out _).alloc _) ⟨wr.heap.size,0,none⟩ 1 1 (encB (a',u')) rfl rfl (new_cells (cs:=#[.int .i64 a',.int .u64 u']) rfl) (encB_one _) (by unfold maxLen;omega) (by omega) (by simp;have:=HB.out.size;omega) ?_;intro v1 w1 hown1 hgrow1 hnil1;have O1:=hide hown1;have B1:=hide ((HB0.out _ _).grown hgrow1 (by simp;have:=HB.out.size;omega) (fun j hj=>(HO.out.lt j hj).1));have N1:=hide (show v1≠.slice none 0 0 from fun e=>by have:=(hnil1.1 e).2;omega);clear hown1 hgrow1 hnil1)
    go_roundw
    case rel=>exact ⟨i,k+1,R ++ [(a',u')],by omega,by omega,by go_num,by go_num,N1.out,by simp;have:=HQ.out;omega,by have:=O1.out;rw [fl_snoc] at this;simpa [HQ.out] using this,HE,B1.out⟩
    case measure=>simp [RowKit.intOf];omega
   ·have HE:Hid ((R ++ [(a,wAdd u u')]) ++ mrg (P.drop (i+1)) (N.drop (k+1))=mrg P N):=by
     refine (?_:(R ++ [(a,wAdd u u')]) ++ mrg (P.drop (i+1)) (N.drop (k+1))=mrg P N)
     rw [← HR.out,mrg_drop_e HRi.out HRk.out (by show a=a'; omega),List.append_assoc];rfl
    have d4:decide (a<a')=false:=decide_eq_false h1
    have d5:decide (a'<a)=false:=decide_eq_false h2
    go_wp2
    go_quiet (fail)
    go_wp2
    go_quiet (fail)
    go_wp2_with fail
    have HOh:=hide (fun (W:World) (hW:W.heap=wr.heap)=>(show W.ownsRow w.heap.size 188 2 (.slice (some ⟨g,0,none⟩) q cv) q (fl encB R) from by unfold World.ownsRow;rw [hW];exact HO.out))
    have HBh:=hide (fun (W:World) (hW:W.heap=wr.heap) (h1:W.os=wr.os) (h2:W.tape=wr.tape) (h3:W.output=wr.output)=>(⟨h1.trans HB.out.os,h2.trans HB.out.tape,h3.trans HB.out.output,by rw [hW];exact HB.out.size,fun k hk=>by rw [hW];exact HB.out.block k hk⟩:Below w.heap.size w W))
    refine regionK (fun W=>W.cell? ⟨b,off+i*2,none⟩=some (.int .i64 a)∧W.cell? ⟨b,off+i*2+1,none⟩=some (.int .u64 u)∧W.cell? ⟨b',off'+k*2+1,none⟩=some (.int .u64 u')) 999 (by kernel_rfl) ?_
    refine takeK (i:=0) (d:=21) (v:=.slice (some ⟨g,0,none⟩) q cv) rfl rfl (by kernel_rfl) (by kernel_rfl) (by kernel_rfl) (by decide) (by kernel_rfl) (fun _ _ _ h=>h) (Or.inl ⟨by rfl,fun W hW=>?_⟩) ⟨hc0,hc1,hd1⟩ ?_
    ·obtain ⟨x0,x1,x2⟩:=hW
     go_simp
    refine takeK (i:=1) (d:=22) (v:=.slice (some ⟨b,off,none⟩) m c) rfl rfl (by kernel_rfl) (by kernel_rfl) (by kernel_rfl) (by decide) (by kernel_rfl) (fun _ _ _ h=>h) (Or.inl ⟨by rfl,fun W hW=>?_⟩) ⟨hc0,hc1,hd1⟩ ?_
    ·obtain ⟨x0,x1,x2⟩:=hW
     go_simp
    refine takeK (i:=2) (d:=23) (v:=.int .i64 i) rfl rfl (by kernel_rfl) (by kernel_rfl) (by kernel_rfl) (by decide) (by kernel_rfl) (fun _ _ _ h=>h) (Or.inl ⟨by rfl,fun W hW=>?_⟩) ⟨hc0,hc1,hd1⟩ ?_
    ·obtain ⟨x0,x1,x2⟩:=hW
     go_simp
    refine takeK (i:=3) (d:=24) (v:=.pointer (some ⟨b,off+i*2,none⟩)) rfl rfl (by kernel_rfl) (by kernel_rfl) (by kernel_rfl) (by decide) (by kernel_rfl) (fun _ _ _ h=>h) (Or.inl ⟨by rfl,fun W hW=>?_⟩) ⟨hc0,hc1,hd1⟩ ?_
    ·obtain ⟨x0,x1,x2⟩:=hW
     go_simp
    refine takeK (i:=4) (d:=25) (v:=.pointer (some ⟨b,off+i*2,none⟩)) rfl rfl (by kernel_rfl) (by kernel_rfl) (by kernel_rfl) (by decide) (by kernel_rfl) (fun _ _ _ h=>h) (Or.inl ⟨by rfl,fun W hW=>?_⟩) ⟨hc0,hc1,hd1⟩ ?_
    ·obtain ⟨x0,x1,x2⟩:=hW
     go_simp
    refine takeK (i:=5) (d:=26) (v:=.int .i64 a) rfl rfl (by kernel_rfl) (by kernel_rfl) (by kernel_rfl) (by decide) (by kernel_rfl) (fun _ _ _ h=>h) (Or.inl ⟨by rfl,fun W hW=>?_⟩) ⟨hc0,hc1,hd1⟩ ?_
    ·obtain ⟨x0,x1,x2⟩:=hW
     go_simp
    refine takeK (i:=6) (d:=27) (v:=.slice (some ⟨b,off,none⟩) m c) rfl rfl (by kernel_rfl) (by kernel_rfl) (by kernel_rfl) (by decide) (by kernel_rfl) (fun _ _ _ h=>h) (Or.inl ⟨by rfl,fun W hW=>?_⟩) ⟨hc0,hc1,hd1⟩ ?_
    ·obtain ⟨x0,x1,x2⟩:=hW
     go_simp
    refine takeK (i:=7) (d:=28) (v:=.int .i64 i) rfl rfl (by kernel_rfl) (by kernel_rfl) (by kernel_rfl) (by decide) (by kernel_rfl) (fun _ _ _ h=>h) (Or.inl ⟨by rfl,fun W hW=>?_⟩) ⟨hc0,hc1,hd1⟩ ?_
    ·obtain ⟨x0,x1,x2⟩:=hW
     go_simp
    refine takeK (i:=8) (d:=29) (v:=.pointer (some ⟨b,off+i*2,none⟩)) rfl rfl (by kernel_rfl) (by kernel_rfl) (by kernel_rfl) (by decide) (by kernel_rfl) (fun _ _ _ h=>h) (Or.inl ⟨by rfl,fun W hW=>?_⟩) ⟨hc0,hc1,hd1⟩ ?_
    ·obtain ⟨x0,x1,x2⟩:=hW
     go_simp
    refine takeK (i:=9) (d:=30) (v:=.pointer (some ⟨b,off+i*2+1,none⟩)) rfl rfl (by kernel_rfl) (by kernel_rfl) (by kernel_rfl) (by decide) (by kernel_rfl) (fun _ _ _ h=>h) (Or.inl ⟨by rfl,fun W hW=>?_⟩) ⟨hc0,hc1,hd1⟩ ?_
    ·obtain ⟨x0,x1,x2⟩:=hW
     go_simp
    refine takeK (i:=10) (d:=31) (v:=.int .u64 u) rfl rfl (by kernel_rfl) (by kernel_rfl) (by kernel_rfl) (by decide) (by kernel_rfl) (fun _ _ _ h=>h) (Or.inl ⟨by rfl,fun W hW=>?_⟩) ⟨hc0,hc1,hd1⟩ ?_
    ·obtain ⟨x0,x1,x2⟩:=hW
     go_simp
    refine takeK (i:=11) (d:=32) (v:=.slice (some ⟨b',off',none⟩) n c') rfl rfl (by kernel_rfl) (by kernel_rfl) (by kernel_rfl) (by decide) (by kernel_rfl) (fun _ _ _ h=>h) (Or.inl ⟨by rfl,fun W hW=>?_⟩) ⟨hc0,hc1,hd1⟩ ?_
    ·obtain ⟨x0,x1,x2⟩:=hW
     go_simp
    refine takeK (i:=12) (d:=33) (v:=.int .i64 k) rfl rfl (by kernel_rfl) (by kernel_rfl) (by kernel_rfl) (by decide) (by kernel_rfl) (fun _ _ _ h=>h) (Or.inl ⟨by rfl,fun W hW=>?_⟩) ⟨hc0,hc1,hd1⟩ ?_
    ·obtain ⟨x0,x1,x2⟩:=hW
     go_simp
    refine takeK (i:=13) (d:=34) (v:=.pointer (some ⟨b',off'+k*2,none⟩)) rfl rfl (by kernel_rfl) (by kernel_rfl) (by kernel_rfl) (by decide) (by kernel_rfl) (fun _ _ _ h=>h) (Or.inl ⟨by rfl,fun W hW=>?_⟩) ⟨hc0,hc1,hd1⟩ ?_
    ·obtain ⟨x0,x1,x2⟩:=hW
     go_simp
    refine takeK (i:=14) (d:=35) (v:=.pointer (some ⟨b',off'+k*2+1,none⟩)) rfl rfl (by kernel_rfl) (by kernel_rfl) (by kernel_rfl) (by decide) (by kernel_rfl) (fun _ _ _ h=>h) (Or.inl ⟨by rfl,fun W hW=>?_⟩) ⟨hc0,hc1,hd1⟩ ?_
    ·obtain ⟨x0,x1,x2⟩:=hW
     go_simp
    refine takeK (i:=15) (d:=36) (v:=.int .u64 u') rfl rfl (by kernel_rfl) (by kernel_rfl) (by kernel_rfl) (by decide) (by kernel_rfl) (fun _ _ _ h=>h) (Or.inl ⟨by rfl,fun W hW=>?_⟩) ⟨hc0,hc1,hd1⟩ ?_
    ·obtain ⟨x0,x1,x2⟩:=hW
     go_simp
    simp only [sA,sB,sC]
    refine onE (i:=16) rfl (fun K hK=>?_)
    go_simp
    refine (c_s_WeightAdd _ _ hu hu' _).mono ?_
    rintro e w8 ⟨rfl,rfl⟩
    dsimp only
    refine hK.out _ _ (fun _=>⟨hc0,hc1,hd1⟩) ?_
    clear hK K
    try simp only [Act.put,sA,sB,sC]
    refine takeK (i:=17) (d:=38) (v:=.agg #[.int .i64 a,.int .u64 (wAdd u u')]) rfl rfl (by kernel_rfl) (by kernel_rfl) (by kernel_rfl) (by decide) (by kernel_rfl) (fun _ _ _ h=>h) (Or.inl ⟨by rfl,fun W hW=>?_⟩) ⟨hc0,hc1,hd1⟩ ?_
    ·obtain ⟨x0,x1,x2⟩:=hW
     go_simp
    simp only [sA,sB,sC]
    have HSz:=hide (fun (W:World) (hW:Below w.heap.size w W)=>(⟨cell_past hW HCw.out.1,cell_past hW HCw.out.2.1,cell_past hW HCw.out.2.2⟩:(fun W=>W.cell? ⟨b,off+i*2,none⟩=some (.int .i64 a)∧W.cell? ⟨b,off+i*2+1,none⟩=some (.int .u64 u)∧W.cell? ⟨b',off'+k*2+1,none⟩=some (.int .u64 u')) W))
    refine onE (i:=18) rfl (fun K hK=>?_)
    go_simp
    refine hK.out _ _ (fun _=>HSz.out _ (HB0.out _ _)) ?_
    clear hK K
    try simp only [Act.put,sA,sB,sC]
    refine onE (i:=19) rfl (fun K hK=>?_)
    rw [if_pos (by rfl)]
    refine wp_append_own _ (.tmp 21) (.tmp 39) 26 rfl w.heap.size 188 i0 (.agg #[.int .i64 0,.int .u64 0]) 2 16 Tryz.underlying26 hi hz0 hz1 hz2 rfl (by decide) _ _ _ rfl ((HOq.out _).alloc _) ⟨wr.heap.size,0,none⟩ 1 1 (encB (a,(wAdd u u'))) rfl rfl (new_cells (cs:=#[.int .i64 a,.int .u64 (wAdd u u')]) rfl) (encB_one _) (by unfold maxLen;omega) (by omega) (by simp;have:=HB.out.size;omega) ?_;intro v1 w1 hown1 hgrow1 hnil1;have O1:=hide hown1;have B1:=hide ((HB0.out _ _).grown hgrow1 (by simp;have:=HB.out.size;omega) (fun j hj=>(HO.out.lt j hj).1));have N1:=hide (show v1≠.slice none 0 0 from fun e=>by have:=(hnil1.1 e).2;omega);clear hown1 hgrow1 hnil1
    refine hK.out _ _ (fun _=>HSz.out _ B1.out) ?_
    clear hK K
    obtain ⟨ao1,c1',e1⟩:=own_any O1.out
    subst e1
    try simp only [Act.put,sA,sB,sC]
    refine onE (i:=20) rfl (fun K hK=>?_)
    go_simp
    refine hK.out _ _ (fun _=>HSz.out _ B1.out) ?_
    clear hK K
    try simp only [Act.put,sA,sB,sC]
    refine doneK (by kernel_rfl) ?_ _
    go_wp2
    go_roundw
    case rel=>exact ⟨i+1,k+1,R ++ [(a,wAdd u u')],by omega,by omega,by go_num,by go_num,N1.out,by simp;have:=HQ.out;omega,by have:=O1.out;rw [fl_snoc] at this;simpa [HQ.out] using this,HE,B1.out⟩
    case measure=>simp [RowKit.intOf];omega
  ·subst him
   obtain ⟨⟨a',u'⟩,hRk⟩:∃ x,N[k]?=some x:=⟨N[k]'(by have:=EN.out;omega),List.getElem?_eq_getElem _⟩
   obtain ⟨b',off',rfl,hcell'⟩:=HB'.out (by have:=EN.out;omega)
   have hd0:=cell_past hbel (hcell' k _ hRk).1
   have hd1:=cell_past hbel (hcell' k _ hRk).2
   have HE:Hid ((R ++ [(a',u')]) ++ mrg (P.drop i) (N.drop (k+1))=mrg P N):=by
    refine (?_:(R ++ [(a',u')]) ++ mrg (P.drop i) (N.drop (k+1))=mrg P N)
    rw [← HR.out,mrg_drop_r hRk (.inl EM.out.symm),List.append_assoc];rfl
   have d2:((k:Int) == (n:Int))=false:=beq_eq_false_iff_ne.2 (by omega)
   have d1:decide ((i:Int)<(i:Int))=false:=decide_eq_false (by omega)
   clear hbel hown hcell' hRk
   go_wp2
   go_quiet (fail)
   go_wp2
   go_quiet (fail)
   go_wp2_with (at_builtin;refine wpList_append_own _ rfl (.tmp 96) (.tmp 101) 26 rfl w.heap.size 188 i0 (.agg #[.int .i64 0,.int .u64 0]) 2 16 Tryz.underlying26 hi hz0 hz1 hz2 rfl (by decide) _ _ _ rfl ((HOq.out _).alloc _) ⟨wr.heap.size,0,none⟩ 1 1 (encB (a',u')) rfl rfl (new_cells (cs:=#[.int .i64 a',.int .u64 u']) rfl) (encB_one _) (by unfold maxLen;omega) (by omega) (by simp;have:=HB.out.size;omega) ?_;intro v1 w1 hown1 hgrow1 hnil1;have O1:=hide hown1;have B1:=hide ((HB0.out _ _).grown hgrow1 (by simp;have:=HB.out.size;omega) (fun j hj=>(HO.out.lt j hj).1));have N1:=hide (show v1≠.slice none 0 0 from fun e=>by have:=(hnil1.1 e).2;omega);clear hown1 hgrow1 hnil1)
   go_roundw
   case rel=>exact ⟨i,k+1,R ++ [(a',u')],by omega,by omega,by go_num,by go_num,N1.out,by simp;have:=HQ.out;omega,by have:=O1.out;rw [fl_snoc] at this;simpa [HQ.out] using this,HE,B1.out⟩
   case measure=>simp [RowKit.intOf];omega
  ·subst him hkn
   have HM:Hid (R=mrg P N):=by
    refine (?_:R=mrg P N)
    rw [← HR.out,← EM.out,← EN.out,List.drop_length,List.drop_length,mrg_nil,List.append_nil]
   have HOk:Hid (∀ z∈R,BnOk z):=by
    refine (?_:∀ z∈R,BnOk z)
    rw [HM.out];exact mrg_ok KA.out KB.out
   clear HR hbel
   by_cases h30:q≤30
   ·have HE:Hid (keepL (mrg P N)=R):=(by rw [← HM.out];exact if_pos (by have:=HQ.out;omega):keepL (mrg P N)=R)
    have hcs:∀ j z,(fl encB R)[j]?=some z→wr.cell? ((⟨g,0,none⟩:Addr).add j)=some z:=fun j z hz=>hown.cells rfl j z hz
    have HCs:=hide hcs
    clear hown hcs
    have d0:¬ (0:Int)<(q:Int) - 30:=by omega
    go_wp2
    go_loopw [9] (fun z w2=>z=.int .i64 0∧w2=wr) (fun z w2=>0)
    case atStart=>exact ⟨rfl,rfl⟩
    case round=>
     obtain ⟨rfl,rfl⟩:=hrel
     go_wp2_with (at_builtin;refine wpList_append_own _ rfl (.tmp 133) (.tmp 134) 26 rfl w.heap.size 188 i0 (.agg #[.int .i64 0,.int .u64 0]) 2 16 Tryz.underlying26 hi hz0 hz1 hz2 rfl (by decide) _ _ _ rfl (World.ownsRow_made _ #[] 0 HB.out.size (Nat.zero_le _) rfl) ⟨g,0,none⟩ q cv (fl encB R) rfl (by rw [fl_len encB2];have:=HQ.out;omega) (fun j z hz=>by have:=HCs.out j z hz;exact cell_on this _) (fl_oneB _) (by unfold maxLen;omega) (by omega) (by simp;have:=HB.out.size;omega) ?_;intro v1 w1 hown1 hgrow1 hnil1;simp only [Nat.zero_add,List.nil_append] at hown1;have O1:=hide hown1;have B1:=hide ((HB.out.alloc HB.out.size _).grown hgrow1 (by simp;have:=HB.out.size;omega) (fun j hj=>by cases hj;exact HB.out.size));clear hown1 hgrow1 hnil1)
     go_ret
     exact ⟨_,_,rfl,by rw [HE.out];exact O1.out,by rw [HE.out];exact HQ.out.symm,B1.out⟩
   ·obtain ⟨s,hs⟩:∃ s,q=s+30:=⟨q - 30,by omega⟩
    subst hs
    obtain ⟨⟨p,x0⟩,hRs⟩:∃ z,R[s]?=some z:=⟨R[s]'(by have:=HQ.out;omega),List.getElem?_eq_getElem _⟩
    obtain ⟨_,hx0⟩:=HOk.out _ (List.mem_of_getElem? hRs)
    simp only at hx0
    have HRs:=hide hRs
    have hcap:=own_cap hown
    have hcapm:=own_capm hown
    have e1:((s+30:Nat):Int) - 30=(s:Int):=by omega
    have hs0:0<s:=by omega
    clear hown hRs
    go_wp2
    go_loopw [9] (fun z w2=>∃ j:Nat,j≤s∧z=.int .i64 j∧w2.ownsRow w.heap.size 188 2 (.slice (some ⟨g,0,none⟩) (s+30) cv) (s+30) (fl encB (R.set s (p,foldW x0 (R.take j))))∧Below w.heap.size w w2) (fun z w2=>s - (RowKit.intOf z).toNat)
    case atStart=>exact ⟨0,Nat.zero_le _,rfl,by rw [show foldW x0 (R.take 0)=x0 from rfl,set_same HRs.out];exact HO.out,HB.out⟩
    case round=>
     clear HO HB HOq HB0
     obtain ⟨j,hj,rfl,hown,hbel⟩:=hrel
     obtain ⟨x,hx⟩:∃ x,foldW x0 (R.take j)=x:=⟨_,rfl⟩
     rw [hx] at hown
     have hux:U64 x:=by rw [← hx];exact foldW_in hx0 (fun y hy=>HOk.out y (List.mem_of_mem_take hy))
     have HX:=hide hx
     have HO:=hide hown
     have HB:=hide hbel
     have hlen:s+30=(R.set s (p,x)).length:=by rw [List.length_set];exact HQ.out.symm
     have hsR:s<R.length:=by have:=HQ.out;omega
     clear hx
     by_cases hjs:j<s
     ·obtain ⟨⟨b,y⟩,hRj⟩:∃ z,R[j]?=some z:=⟨R[j]'(by omega),List.getElem?_eq_getElem (by omega)⟩
      obtain ⟨_,hy⟩:=HOk.out _ (List.mem_of_getElem? hRj)
      simp only at hy
      have kc1:=(bin_cells hown hlen (k:=s) (x:=(p,x)) (by simp [hsR])).2
      have jc1:=(bin_cells hown hlen (k:=j) (x:=(b,y)) (by rw [List.getElem?_set_ne (by omega)];exact hRj)).2
      have kf1:=hown.frozenAt (s*2+1)
      have HW:Hid (wAdd x y=foldW x0 (R.take (j+1))):=by
       refine (?_:wAdd x y=foldW x0 (R.take (j+1)))
       rw [foldW_take hRj,HX.out]
      have HS0:(fun W=>W.cell? ⟨g,s*2+1,none⟩=some (.int .u64 x)∧W.cell? ⟨g,j*2+1,none⟩=some (.int .u64 y)∧W.frozen? ⟨g,s*2+1,none⟩=false) wr.drew:=⟨kc1,jc1,kf1⟩
      simp only at kc1 jc1
      have HHlen:=hide hlen
      have hsb:¬ (s:Int)+30≤(s:Int):=by omega
      have hjb:¬ (s:Int)+30≤(j:Int):=by omega
      clear hown hbel hRj kc1 jc1 kf1 hlen
      go_wp2_with fail
      refine regionK (fun W=>W.cell? ⟨g,s*2+1,none⟩=some (.int .u64 x)∧W.cell? ⟨g,j*2+1,none⟩=some (.int .u64 y)∧W.frozen? ⟨g,s*2+1,none⟩=false) 15 (by kernel_rfl) ?_
      refine tkL (i:=0) (d:=113) (v:=.slice (some ⟨g,0,none⟩) (s+30) cv) rfl rfl HS0 (fun W hW=>?_) ?_
      ·obtain ⟨x0',x1',x2'⟩:=hW
       go_simp
      refine tkL (i:=1) (d:=114) (v:=.int .i64 s) rfl rfl HS0 (fun W hW=>?_) ?_
      ·obtain ⟨x0',x1',x2'⟩:=hW
       go_simp
      refine tkL (i:=2) (d:=115) (v:=.slice (some ⟨g,0,none⟩) (s+30) cv) rfl rfl HS0 (fun W hW=>?_) ?_
      ·obtain ⟨x0',x1',x2'⟩:=hW
       go_simp
      refine tkL (i:=3) (d:=116) (v:=.int .i64 s) rfl rfl HS0 (fun W hW=>?_) ?_
      ·obtain ⟨x0',x1',x2'⟩:=hW
       go_simp
      refine tkL (i:=4) (d:=117) (v:=.pointer (some ⟨g,s*2,none⟩)) rfl rfl HS0 (fun W hW=>?_) ?_
      ·obtain ⟨x0',x1',x2'⟩:=hW
       go_simp
      refine tkL (i:=5) (d:=118) (v:=.pointer (some ⟨g,s*2+1,none⟩)) rfl rfl HS0 (fun W hW=>?_) ?_
      ·obtain ⟨x0',x1',x2'⟩:=hW
       go_simp
      refine tkL (i:=6) (d:=119) (v:=.int .u64 x) rfl rfl HS0 (fun W hW=>?_) ?_
      ·obtain ⟨x0',x1',x2'⟩:=hW
       go_simp
      refine tkL (i:=7) (d:=120) (v:=.slice (some ⟨g,0,none⟩) (s+30) cv) rfl rfl HS0 (fun W hW=>?_) ?_
      ·obtain ⟨x0',x1',x2'⟩:=hW
       go_simp
      refine tkL (i:=8) (d:=121) (v:=.int .i64 j) rfl rfl HS0 (fun W hW=>?_) ?_
      ·obtain ⟨x0',x1',x2'⟩:=hW
       go_simp
      refine tkL (i:=9) (d:=122) (v:=.pointer (some ⟨g,j*2,none⟩)) rfl rfl HS0 (fun W hW=>?_) ?_
      ·obtain ⟨x0',x1',x2'⟩:=hW
       go_simp
      refine tkL (i:=10) (d:=123) (v:=.pointer (some ⟨g,j*2+1,none⟩)) rfl rfl HS0 (fun W hW=>?_) ?_
      ·obtain ⟨x0',x1',x2'⟩:=hW
       go_simp
      refine tkL (i:=11) (d:=124) (v:=.int .u64 y) rfl rfl HS0 (fun W hW=>?_) ?_
      ·obtain ⟨x0',x1',x2'⟩:=hW
       go_simp
      simp only [sA,sB,sC]
      refine onE (i:=12) rfl (fun K hK=>?_)
      go_simp
      refine (c_s_WeightAdd _ _ hux hy _).mono ?_
      rintro e w8 ⟨rfl,rfl⟩
      dsimp only
      refine hK.out _ _ (fun _=>HS0) ?_
      clear hK K
      try simp only [Act.put,sA,sB,sC]
      refine onE (i:=13) rfl (fun K hK=>?_)
      go_simp
      refine hK.out _ _ (fun _=>HS0) ?_
      clear hK K
      try simp only [Act.put,sA,sB,sC]
      refine onE (i:=14) rfl (fun K hK=>?_)
      go_simp
      refine hK.out _ _ (fun _=>HS0) ?_
      clear hK K
      try simp only [Act.put,sA,sB,sC]
      obtain ⟨z0,z1,z2⟩:=HS0
      refine onE (i:=15) rfl (fun K hK=>?_)
      go_simp
      refine hK.out _ _ (fun h=>absurd rfl h) ?_
      clear hK K
      try simp only [Act.put,sA,sB,sC]
      refine doneK (by kernel_rfl) ?_ _
      go_wp2
      go_roundw
      case rel=>
       refine ⟨j+1,by omega,by go_num,?_,?_⟩
       ·have o1:=(HO.out.drew.stored (s*2+1) (.int .u64 (wAdd x y))).1
        have e2:(fl encB (R.set s (p,x))).set (s*2+1) (.int .u64 (wAdd x y))=fl encB (R.set s (p,wAdd x y)):=set_second hsR
        rw [e2] at o1
        rw [← HW.out];exact o1
       ·exact HB.out.drew.setCell (own_lt HO.out).1 _
      case measure=>simp [RowKit.intOf];omega
     ·have ejs:j=s:=by omega
      have HE:Hid (keepL (mrg P N)=(R.set s (p,x)).drop s):=by
       refine (?_:keepL (mrg P N)=(R.set s (p,x)).drop s)
       rw [← HM.out,← HX.out,ejs]
       exact keep_set HQ.out hs0 HRs.out
      have hcs:∀ jj z,(fl encB ((R.set s (p,x)).drop s))[jj]?=some z→wr.cell? ((⟨g,s*2,none⟩:Addr).add jj)=some z:=fun jj z hz=>by
       rw [fl_drop encB2,List.getElem?_drop] at hz
       have:=hown.cells rfl (s*2+jj) z hz
       rw [Addr.add_lit] at this ⊢
       simpa using this
      have hdl:((R.set s (p,x)).drop s).length=30:=by rw [List.length_drop,← hlen];omega
      have HCs:=hide hcs
      have HDl:=hide hdl
      have hnb:¬ cv=s:=by omega
      clear hown hbel hcs hdl hlen ejs
      go_wp2_with (at_builtin;refine wpList_append_own _ rfl (.tmp 133) (.tmp 134) 26 rfl w.heap.size 188 i0 (.agg #[.int .i64 0,.int .u64 0]) 2 16 Tryz.underlying26 hi hz0 hz1 hz2 rfl (by decide) _ _ _ rfl (World.ownsRow_made _ #[] 0 HB.out.size (Nat.zero_le _) rfl) ⟨g,s*2,none⟩ _ _ (fl encB ((R.set s (p,x)).drop s)) rfl (by rw [fl_len encB2,HDl.out] <;> omega) (fun j z hz=>by have:=HCs.out j z hz;exact cell_on this _) (fl_oneB _) (by unfold maxLen;omega) (by omega) (by simp;have:=HB.out.size;omega) ?_;intro v1 w1 hown1 hgrow1 hnil1;simp only [Nat.zero_add,List.nil_append,Nat.add_sub_cancel_left] at hown1;have O1:=hide hown1;have B1:=hide ((HB.out.alloc HB.out.size _).grown hgrow1 (by simp;have:=HB.out.size;omega) (fun j hj=>by cases hj;exact HB.out.size));clear hown1 hgrow1 hnil1)
      go_ret
      exact ⟨_,_,rfl,by rw [HE.out];exact O1.out,by rw [HE.out];exact HDl.out.symm,B1.out⟩
/-
 Contracts of the model's copy of a sketch.
-/
theorem bins_list {w:World} {A:Addr} {L:List Bn} (hA:BinsAt w (some A) L):∀ j z,(fl encB L)[j]?=some z→w.cell? (A.add j)=some z:=fun j z hz=>by
 have hj:=(List.getElem?_eq_some_iff.1 hz).1
 rw [fl_len encB2] at hj
 obtain ⟨b,off,e,hcell⟩:=hA (by omega)
 cases e
 obtain ⟨x,hx⟩:∃ x,L[j / 2]?=some x:=⟨L[j / 2]'(by omega),List.getElem?_eq_getElem (by omega)⟩
 have h1:=fl_at encB2 L (j / 2) x (j % 2) (by omega) hx
 rw [show j / 2*2+j % 2=j by omega,hz] at h1
 have hc:=hcell (j / 2) x hx
 rw [Addr.add_lit]
 have:j % 2=0∨j % 2=1:=by omega
 rcases this with e | e
 ·rw [e] at h1;rw [show off+j=off+j / 2*2 by omega,hc.1];simpa [encB] using h1.symm
 ·rw [e] at h1;rw [show off+j=off+j / 2*2+1 by omega,hc.2];simpa [encB] using h1.symm
theorem bins_nil {w:World} {L:List Bn} {n:Nat} (h:BinsAt w none L) (hn:L.length=n):n=0:=by
 rcases Nat.eq_zero_or_pos n with e | e
 ·exact e
 ·obtain ⟨b,off,e1,_⟩:=h (by omega);cases e1
/-- A list is appended, or nil. -/
theorem wpList_append_nil {P:Program} (w:World) {ops:Array Oper} {rest:List Oper} {o:Oper} {a:Act} {Q:Exit→Act→World→Prop} (hgd:o.guard=none) (s x:Operand) (t:TypeId)
  (ho:o.op=.call { callee:=.builtin .append,args:=#[s,x],argTypes:=#[t,t] })
  (base:Nat) (e:TypeId) (i:TypeInfo) (z:Value) (size bytes:Nat) (ht:P.underlying t=some (.slice e)) (hi:P.info? e=some i) (hz:i.zero=some z)
  (hsize:i.size=size) (hby:i.bytes=bytes) (hzs:z.cells.size=size) (hsz:0<size)
  (v:Value) (n:Nat) (xs:List Value) (hs:a.eval s=v) (hown:w.ownsRow base e size v n xs)
  (xo:Option Addr) (m c:Nat) (news:List Value) (hx:a.eval x=.slice xo m c) (hl:news.length=m*size) (hno:xo=none→m=0∧c=0) (hnews:∀ ad,xo=some ad→∀ j u,news[j]?=some u→w.cell? (ad.add j)=some u) (h1:∀ u∈news,u.oneCell'=true)
  (h63:n+m≤maxLen) (hbytes:(n+m)*bytes≤140737488355328) (hbase:base≤w.heap.size)
  (h:∀ v' w',w'.ownsRow base e size v' (n+m) (xs ++ news)→w.grownBy w' v.ownBlock→(v'=.slice none 0 0↔v=.slice none 0 0∧m=0)→wpList P ops Q rest (a.put o.dst v') w'):wpList P ops Q (o :: rest) a w:=by
 cases xo with
 | some ad=>exact wpList_append_own w hgd s x t ho base e i z size bytes ht hi hz hsize hby hzs hsz v n xs hs hown ad m c news hx hl (hnews ad rfl) h1 h63 hbytes hbase h
 | none=>
  obtain ⟨rfl,rfl⟩:=hno rfl
  obtain rfl:news=[]:=List.eq_nil_of_length_eq_zero (by rw [hl,Nat.zero_mul])
  refine wpList_plain hgd fun _ hK=>?_
  have hr:=run_append_owned_none (P:=P) (w:=w) base t o.type e i size ht hi v n xs hown
  unfold Oper.wp execOp
  simp only [ho,resolve,invoke,builtin,Sem.run_bind,Sem.run_pure,Result.andThen_ok,List.map_toArray,List.map_cons,List.map_nil,hs,hx,hr]
  exact hK _ _ (h v w (by rw [Nat.add_zero,List.append_nil];exact hown) (World.grownBy.refl _ _) (by simp))
/-- Behind the first list's copy: what the second one's needs. -/
structure CopyAt (w w1:World) (z h l:Int) (n1 n:Value) (pn:Nat) (P:List Bn):Prop where
 bel:∀ o,Below w.heap.size w ((w1.setCell ⟨w.heap.size,1,none⟩ n1).alloc o)
 made:((w1.setCell ⟨w.heap.size,1,none⟩ n1).alloc (.cells #[] 188)).ownsRow w1.heap.size 188 2 (.slice (some ⟨w1.heap.size,0,none⟩) 0 0) 0 []
 grow:∀ {o W},((w1.setCell ⟨w.heap.size,1,none⟩ n1).alloc o).grownBy W (some w1.heap.size)→Below w.heap.size w W∧W.heap[w.heap.size]?=some (.cells #[.int .u64 z,n1,n,.int .i64 h,.int .u64 l] 28 (0,0))∧W.heap[w.heap.size+1]?=some (.cells zeroSk 28 (0,0))∧OwnB W w.heap.size n1 pn P
 lt:∀ k,n1.ownBlock=some k→k<w1.heap.size
 le:w.heap.size≤w1.heap.size
theorem copy_step {w w1:World} {z h l:Int} {p n1 n:Value} {pn:Nat} {P:List Bn} (hT:Below w.heap.size w w1) (hR:w1.heap[w.heap.size]?=some (.cells #[.int .u64 z,p,n,.int .i64 h,.int .u64 l] 28 (0,0))) (hS:w1.heap[w.heap.size+1]?=some (.cells zeroSk 28 (0,0))) (hO:OwnB w1 w.heap.size n1 pn P) (hz:w.heap.size+1+1<w1.heap.size):CopyAt w w1 z h l n1 n pn P:=by
 have hB:Below w.heap.size w (w1.setCell ⟨w.heap.size,1,none⟩ n1):=hT.setCell (Nat.le_refl _) _
 refine ⟨fun o=>hB.alloc (by simp;omega) o,?_,fun {o W} hg=>?_,fun k e=>(hO.lt k e).2,by omega⟩
 ·have:=World.ownsRow_made (base:=w1.heap.size) (e:=188) (size:=2) (w1.setCell ⟨w.heap.size,1,none⟩ n1) #[] 0 (by simp) (Nat.zero_le _) rfl
  simpa using this
 ·have hb:Below w1.heap.size (w1.setCell ⟨w.heap.size,1,none⟩ n1) W:=((Below.refl _ _).alloc (by simp) o).grown hg (by simp) (fun k e=>by cases e;exact Nat.le_refl _)
  have hb':Below (w1.setCell ⟨w.heap.size,1,none⟩ n1).heap.size (w1.setCell ⟨w.heap.size,1,none⟩ n1) W:=hb.mono (by simp)
  refine ⟨hB.trans (hb.mono (by omega)),?_,?_,(hO.set (hO.ne hR (by decide)) _).past hb'⟩
  ·rw [hb.block _ (by omega)];exact heap_setCell_same w1 w.heap.size 1 _ _ _ hR
  ·rw [hb.block _ (by omega),heap_setCell_other _ _ _ _ (by simp)];exact hS
set_option maxHeartbeats 2000000 in
theorem c_s_l03Copy {w:World} {z h l:Int} {pa na:Option Addr} {pn pc nn nc:Nat} {P N:List Bn} (hp:P.length=pn) (hn:N.length=nn) (lp:pn≤1048576) (ln:nn≤1048576) (hP:BinsAt w pa P) (hN:BinsAt w na N) (cA:pa=none→pc=0) (cA':na=none→nc=0) :
  Calls Tryz.prog 128 #[.agg #[.int .u64 z,.slice pa pn pc,.slice na nn nc,.int .i64 h,.int .u64 l]] w fun e w'=>∃ v,e=.returned v∧SkOut w' w.heap.size v z P N h l∧Below w.heap.size w w':=by
 obtain ⟨i0,hi,hz0,hz1,hz2⟩:=info_parts infoBin
 have HP:=hide hP
 have HN:=hide hN
 have EP:=hide hp
 have EN:=hide hn
 have CA:=hide cA
 have CA':=hide cA'
 clear hP hN hp hn cA cA'
 have hW:∀ o1 o2 o3,Below w.heap.size w (((w.alloc o1).alloc o2).alloc o3):=fun o1 o2 o3=>(((Below.refl _ _).alloc (Nat.le_refl _) _).alloc (by simp) _).alloc (by simp;omega) _
 have HW:=hide hW
 have hM:∀ o1 o2,(((w.alloc o1).alloc o2).alloc (.cells #[] 188)).ownsRow w.heap.size 188 2 (.slice (some ⟨w.heap.size+1+1,0,none⟩) 0 0) 0 []:=fun o1 o2=>by
  have:=World.ownsRow_made (base:=w.heap.size) (e:=188) (size:=2) ((w.alloc o1).alloc o2) #[] 0 (by simp;omega) (Nat.zero_le _) rfl
  simpa using this
 have HM:=hide hM
 have hG:∀ o3 W,(((w.alloc (.cells #[.int .u64 z,.slice pa pn pc,.slice na nn nc,.int .i64 h,.int .u64 l] 28)).alloc (.cells zeroSk 28)).alloc o3).grownBy W (some (w.heap.size+1+1))→Below w.heap.size w W∧W.heap[w.heap.size]?=some (.cells #[.int .u64 z,.slice pa pn pc,.slice na nn nc,.int .i64 h,.int .u64 l] 28 (0,0))∧W.heap[w.heap.size+1]?=some (.cells zeroSk 28 (0,0))∧w.heap.size+1+1<W.heap.size:=fun o3 W hg=>by
  have hb:Below (w.heap.size+1+1) (((w.alloc (.cells #[.int .u64 z,.slice pa pn pc,.slice na nn nc,.int .i64 h,.int .u64 l] 28)).alloc (.cells zeroSk 28)).alloc o3) W:=(Below.refl _ _).grown hg (by simp) (fun k e=>by cases e;exact Nat.le_refl _)
  refine ⟨(hW _ _ _).grown hg (by simp;omega) (fun k e=>by cases e;omega),?_,?_,by have:=hg.size;simp at this;omega⟩
  ·rw [hb.block _ (by omega)]
   have h2:Below (w.heap.size+1) (w.alloc (.cells #[.int .u64 z,.slice pa pn pc,.slice na nn nc,.int .i64 h,.int .u64 l] 28)) (((w.alloc (.cells #[.int .u64 z,.slice pa pn pc,.slice na nn nc,.int .i64 h,.int .u64 l] 28)).alloc (.cells zeroSk 28)).alloc o3):=((Below.refl _ _).alloc (by simp) _).alloc (by simp) _
   rw [h2.block _ (by omega)]
   exact heap_alloc_new w _
  ·rw [hb.block _ (by omega)]
   exact mid_row w _ _ _ _
 have HG:=hide hG
 clear hW hM hG
 go_enter Tryz.func128,Tryz.ntmps128
 go_wp2_with (first
  | (at_builtin;refine wpList_append_nil _ rfl (.tmp 3) (.tmp 5) 26 rfl w.heap.size 188 i0 (.agg #[.int .i64 0,.int .u64 0]) 2 16 Tryz.underlying26 hi hz0 hz1 hz2 rfl (by decide) _ _ _ rfl (HM.out _ _) pa pn pc (fl encB P) rfl (by rw [fl_len encB2,EP.out]) (fun e=>⟨bins_nil (e ▸ HP.out) EP.out,CA.out e⟩) (fun A e=>bins_list (e ▸ bins_past HP.out (HW.out _ _ _))) (fl_oneB _) (by unfold maxLen;omega) (by omega) (by simp;omega) ?_;intro v1 w1 hown1 hgrow1 hnil1;simp only [Nat.zero_add,List.nil_append] at hown1;obtain ⟨ao1,c1,rfl⟩:=own_any hown1;obtain ⟨hT1,hR1,hS1,hz1'⟩:=HG.out _ _ hgrow1;obtain ⟨k0,k1,k2,k3,k4⟩:=cell5 hR1;have f1:=frozen_of_row w1 w.heap.size 1 _ _ hR1;have hO1:=OwnB.of hown1 EP.out.symm;have L1:=hide (copy_step hT1 hR1 hS1 hO1 hz1');have hk2:∀ o,((w1.setCell ⟨w.heap.size,1,none⟩ (.slice ao1 pn c1)).alloc o).cell? ⟨w.heap.size,2,none⟩=some (.slice na nn nc):=(fun o=>cell_on (by rw [World.cell?_setCell_other _ _ _ _ (by simp)];exact k2) o);clear hown1 hgrow1 hnil1 hT1 hR1 hS1 hO1)
  | (at_builtin;refine wpList_append_nil _ rfl (.tmp 8) (.tmp 10) 26 rfl w1.heap.size 188 i0 (.agg #[.int .i64 0,.int .u64 0]) 2 16 Tryz.underlying26 hi hz0 hz1 hz2 rfl (by decide) _ _ _ rfl L1.out.made na nn nc (fl encB N) rfl (by rw [fl_len encB2,EN.out]) (fun e=>⟨bins_nil (e ▸ HN.out) EN.out,CA'.out e⟩) (fun A e=>bins_list (e ▸ bins_past HN.out (L1.out.bel _))) (fl_oneB _) (by unfold maxLen;omega) (by omega) (by simp) ?_;intro v2 w2 hown2 hgrow2 hnil2;simp only [Nat.zero_add,List.nil_append] at hown2;obtain ⟨ao2,c2,rfl⟩:=own_any hown2;obtain ⟨hT2,hR2,hS2,hP2⟩:=L1.out.grow hgrow2;obtain ⟨y0,y1,y2,y3,y4⟩:=cell5 hR2;have f2:=frozen_of_row w2 w.heap.size 2 _ _ hR2;have hO2':=OwnB.of hown2 EN.out.symm;have hO2:=hO2'.le (B':=w.heap.size) L1.out.le;obtain ⟨r0,r1,r2,r3,r4⟩:=cell5 hS2;have e0:=frozen_of_row w2 (w.heap.size+1) 0 _ _ hS2;have e1:=frozen_of_row w2 (w.heap.size+1) 1 _ _ hS2;have e2:=frozen_of_row w2 (w.heap.size+1) 2 _ _ hS2;have e3:=frozen_of_row w2 (w.heap.size+1) 3 _ _ hS2;have e4:=frozen_of_row w2 (w.heap.size+1) 4 _ _ hS2;have hap3:Apart (.slice ao1 pn c1) (.slice ao2 nn c2):=(fun k a1 a2=>by have q1:=L1.out.lt k a1;have q2:=(hO2'.lt k a2).1;omega);have T2:=hide hT2;have S2:=hide hS2;have R2:=hide hR2;have P2:=hide hP2;have O2:=hide hO2;have Ap:=hide hap3;clear hown2 hgrow2 hnil2 hT2 hS2 hR2 hP2 hO2 hO2' hap3))
 refine bodyPost_ret (v:=.agg #[.int .u64 z,.slice ao1 pn c1,.slice ao2 nn c2,.int .i64 h,.int .u64 l]) (by simp [results,Tryz.results128,go_sem,r0,r1,r2,r3,r4]) rfl ⟨_,rfl,⟨_,_,pn,nn,rfl,?_,?_,Ap.out⟩,?_⟩
 ·have n1:=P2.out.ne S2.out (by decide)
  have n2:=P2.out.ne R2.out (by decide)
  exact (((((P2.out.set n2 _).set n1 _).set n1 _).set n1 _).set n1 _).set n1 _
 ·have n1:=O2.out.ne S2.out (by decide)
  have n2:=O2.out.ne R2.out (by decide)
  exact (((((O2.out.set n2 _).set n1 _).set n1 _).set n1 _).set n1 _).set n1 _
 ·repeat (refine Below.setCell ?_ (by simp <;> omega) _)
  exact T2.out
end Go.Proofs.YthpilcoklapooaaGreatDoor
