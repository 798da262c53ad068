/-
 The model's SeriesRight.
-/
import Derived.Test.YtmjogablacnlgaaGreatDoorOSC
namespace Go.Proofs.YtmjogablacnlgaaGreatDoor
set_option linter.unusedVariables false
set_option linter.unusedSimpArgs false
open Go.ChangeShapes Go.WideShapes Go.ChangeAt Go.RowKit Go.PlainAid
set_option maxRecDepth 10000
theorem parts_head {t name:ByteArray} {K:List ByteArray} (h:SerIs t name K):splL t 123=[name,⟨(joinT K ++ [125]).toArray⟩]:=by
 obtain ⟨h1,h2,h3,h4,h5,h6⟩:=h;refine splL_head (by rw [h6];exact serT_toL name K) (name_no h1) (fun hm=>?_);rcases List.mem_append.1 hm with hm | hm
 ·exact joinT_no h2 hm
 ·revert hm;decide
def tagsS (u:ByteArray):List ByteArray:=if u.size=0 then [] else splL u 44
theorem tagsS_of {K:List ByteArray} (h:K.all tagB=true):tagsS ⟨(joinT K).toArray⟩=K:=by
 unfold tagsS;rw [mk_size];by_cases hK:K=[]
 ·subst hK;rfl
 ·rw [if_neg (fun h0=>joinT_pos h hK (List.eq_nil_of_length_eq_zero h0))]
  obtain ⟨n,hn⟩:∃ n,K.length=n+1:=by
   cases K with
   | nil=>exact absurd rfl hK
   | cons y r=>exact ⟨r.length,rfl⟩
  exact splL_join n hn (fun x hx=>(tag_no (List.all_eq_true.1 h x hx)).2)
theorem two_pos {t a r:ByteArray} (hl:splL t 123=[a,r]):0<t.size:=by
 rcases Nat.eq_zero_or_pos t.size with h | h
 ·have:=congrArg List.length hl
  unfold splL at this;rw [h] at this;simp [spl] at this
 ·exact h
theorem last_of {l:List UInt8} {q:Nat} (h:(⟨(l ++ [125]).toArray⟩:ByteArray).size=q+1):(⟨(l ++ [125]).toArray⟩:ByteArray).extract 0 q=⟨l.toArray⟩∧bt ⟨(l ++ [125]).toArray⟩ q=125:=by
 have hq:l.length=q:=by rw [mk_size] at h;simp at h;exact h
 subst hq;refine ⟨toL_inj ?_,?_⟩
 ·rw [toL_extract,toL_mk,toL_mk,List.drop_zero,List.take_left]
 ·rw [bt_toL,toL_mk,List.getElem?_append_right (Nat.le_refl _),Nat.sub_self];rfl
theorem serF_of {t name:ByteArray} {K:List ByteArray} (h:SerIs t name K):serF name K=t:=by
 have:=serW_of h;unfold serW at this
 rwa [if_pos ⟨h.1,h.2.1⟩] at this
theorem spec_no {t:ByteArray} (h:∀ a r,splL t 123=[a,r]→(r.size=0∨∃ q,r.size=q+1∧¬ bt r q=125)):serRB t=false:=serRB_f (fun ⟨name,K,hs⟩=>by
 have e:=parts_head hs;rcases h _ _ e with h0 | ⟨q,hq,hb⟩
 ·rw [mk_size] at h0;simp at h0
 ·exact hb (last_of hq).2)
theorem spec_yes {t a r:ByteArray} (hl:splL t 123=[a,r]) {q:Nat} (hq:r.size=q+1) :
  (nameB a=true∧(tagsS (r.extract 0 q)).all tagB=true∧serF a (tagsS (r.extract 0 q))=t)↔serRP t:=by
 constructor
 ·rintro ⟨h1,h2,h3⟩
  refine of_serW (name:=a) (L:=tagsS (r.extract 0 q)) ?_ (two_pos hl);unfold serW;rw [if_pos ⟨h1,h2⟩];exact h3
 ·rintro ⟨name,K,hs⟩
  have e:=parts_head hs;rw [hl] at e;obtain ⟨rfl,e2⟩:=List.cons.inj e;obtain ⟨rfl,_⟩:=List.cons.inj e2;rw [(last_of hq).1,tagsS_of hs.2.1];exact ⟨hs.1,hs.2.1,serF_of hs⟩
theorem spec_is {t a r:ByteArray} (hl:splL t 123=[a,r]) {q:Nat} (hq:r.size=q+1) (h:serRP t):SerIs t a (tagsS (r.extract 0 q)):=by
 obtain ⟨name,K,hs⟩:=h;have e:=parts_head hs;rw [hl] at e;obtain ⟨rfl,e2⟩:=List.cons.inj e;obtain ⟨rfl,_⟩:=List.cons.inj e2;rw [(last_of hq).1,tagsS_of hs.2.1];exact hs
theorem spl_sizes (t:ByteArray) (b:Int):∀ k,k≤t.size→∀ u∈(spl t b k).1,u.size≤t.size
 | 0,_,u,h=>by cases h
 | k+1,hk,u,h=>by
  by_cases hh:bt t k=b
  ·rw [spl_hit hh] at h
   rcases List.mem_append.1 h with h | h
   ·exact spl_sizes t b k (by omega) u h
   ·obtain rfl:=List.mem_singleton.1 h
    rw [size_extract];omega
  ·rw [spl_miss hh] at h;exact spl_sizes t b k (by omega) u h
theorem splL_sizes (t:ByteArray) (b:Int):∀ u∈splL t b,u.size≤t.size:=fun u h=>by
 unfold splL at h;rcases List.mem_append.1 h with h | h
 ·exact spl_sizes t b t.size (Nat.le_refl _) u h
 ·obtain rfl:=List.mem_singleton.1 h
  rw [size_extract];omega
theorem splL_le (t:ByteArray) (b:Int):(splL t b).length≤t.size+1:=by rw [splL_len];have:=(spl_le t b t.size).2;omega
theorem isE {t:ByteArray} (h:¬ t.size=0):t.toList.isEmpty=false:=by
 rw [ByteArray.toList_eq]
 cases e:t.data.toList with
 | nil=>exact absurd (by rw [← toL_len];show t.data.toList.length=0;rw [e];rfl) h
 | cons x r=>rfl
theorem isE0 {t:ByteArray} (h:t.size=0):t.toList.isEmpty=true:=by
 rw [ByteArray.toList_eq];rw [List.isEmpty_iff];exact List.eq_nil_of_length_eq_zero (by rw [← toL_len] at h;exact h)
def PartsOut (t:ByteArray) (w:World) (e:Ending) (w':World):Prop:=∃ nm ao n c,e=.returned (.tuple #[.string nm,.slice ao n c,.bool (serRB t)])∧(serRP t→∃ K,SerIs t nm K∧K.length=n∧StrsAt w' ao K)∧Below w.heap.size w w'
theorem len_two {α:Type} {l:List α} (h:l.length=2):∃ a b,l=[a,b]:=by
 match l,h with
 | [a,b],_=>exact ⟨a,b,rfl⟩
set_option maxHeartbeats 2000000 in
theorem c_s_l06Parts {w:World} (t:ByteArray) (ht:t.size≤20000) :
  Calls Tryz.prog 133 #[.string t] w fun e w'=>PartsOut t w e w':=by
 obtain ⟨n,hn⟩:∃ n,(splL t 123).length=n:=⟨_,rfl⟩;have hn1:=splL_le t 123;by_cases h2:n=2
 ·subst h2
  obtain ⟨a,r,hl⟩:=len_two hn;have HL:=hide hl;have HN:=hide hn;have hza:=splL_sizes t 123 a (by rw [hl];simp);have hzr:=splL_sizes t 123 r (by rw [hl];simp);clear hl hn hn1;go_enter Tryz.func133,Tryz.ntmps133;go_wp2_with fail;refine (c_l01Split t 123 (by omega) (by omega) _).mono ?_;rintro e w1 ⟨g,cap,rfl,hg,hcell,hb1⟩;rw [HN.out];have hc0:=hcell 0 a (by rw [HL.out];rfl);have hc1:=hcell 1 r (by rw [HL.out];rfl);have HB1:=hide hb1;clear hcell hb1;by_cases hr0:r.size=0
  ·have hre:=isE0 hr0
   have HE:Hid (serRB t=false):=spec_no (fun a' r' e=>by rw [HL.out] at e;obtain ⟨_,e2⟩:=List.cons.inj e;obtain ⟨rfl,_⟩:=List.cons.inj e2;exact .inl hr0);have HP:Hid (¬ serRP t):=((fun h=>by have:=serRB_t h;rw [HE.out] at this;exact Bool.noConfusion this):¬ serRP t);go_wp2_with fail;refine regionK (fun W'=>W'.cell? ⟨g,1,none⟩=some (.string r)) 21 (by rfl) ?_;replace hc1:w1.drew.cell? ⟨g,1,none⟩=some (.string r):=hc1;refine tkS (i:=0) (v:=.slice (some ⟨g,0,none⟩) 2 cap) rfl rfl hc1 ?_;refine tkS (i:=1) (v:=.int .i64 2) rfl rfl hc1 ?_;refine tkS (i:=2) (v:=.bool false) rfl rfl hc1 ?_;simp only [sA,sB,sC];refine tkS (i:=3) (v:=.bool false) rfl rfl hc1 ?_;refine tkS (i:=4) (v:=.slice (some ⟨g,0,none⟩) 2 cap) rfl rfl hc1 ?_;refine tkS (i:=5) (v:=.pointer (some ⟨g,1,none⟩)) rfl rfl hc1 ?_;simp only [sA,sB,sC];refine tkL (i:=6) (v:=.string r) rfl rfl hc1 (fun W hW=>?_) ?_
   ·go_simp
   refine tkS (i:=7) (v:=.bool true) rfl rfl hc1 ?_;refine tkS (i:=8) (v:=.bool true) rfl rfl hc1 ?_;simp only [sA,sB,sC];refine tkS (i:=9) (v:=.bool true) rfl rfl hc1 ?_;refine tkU (i:=10) rfl rfl hc1 ?_;refine tkU (i:=11) rfl rfl hc1 ?_;simp only [sA,sB,sC];refine tkU (i:=12) rfl rfl hc1 ?_;refine tkU (i:=13) rfl rfl hc1 ?_;refine tkU (i:=14) rfl rfl hc1 ?_;simp only [sA,sB,sC];refine tkU (i:=15) rfl rfl hc1 ?_;refine tkU (i:=16) rfl rfl hc1 ?_;refine tkU (i:=17) rfl rfl hc1 ?_;simp only [sA,sB,sC];refine tkU (i:=18) rfl rfl hc1 ?_;refine tkU (i:=19) rfl rfl hc1 ?_;refine tkS (i:=20) (v:=.bool true) rfl rfl hc1 ?_;simp only [sA,sB,sC];refine doneK (by kernel_rfl) ?_ _;go_wp2
   go_ret3
   exact ⟨_,none,0,0,by rw [HE.out];rfl,fun h=>absurd h HP.out,HB1.out.drew⟩
  ·have hre:=isE hr0
   obtain ⟨q,hq⟩:∃ q,r.size=q+1:=⟨r.size - 1,by omega⟩;have hbt:=get_bt r;have hwq:IntKind.i64.wrap (((r.size:Nat):Int) - 1)=(q:Int):=by rw [hq];rw [IntWalk.i64_in _ ⟨by omega,by omega⟩];omega
   have hqr:q<r.size:=by omega
   have HQ:=hide hq;have hq9:q≤20000:=by omega
   clear hq;by_cases hlast:bt r q=125
   ·have HY:=hide (spec_yes HL.out HQ.out)
    have HI:=hide (fun h=>spec_is HL.out HQ.out h);go_wp2_with fail;refine regionK (fun W'=>W'.cell? ⟨g,1,none⟩=some (.string r)) 21 (by rfl) ?_;replace hc1:w1.drew.cell? ⟨g,1,none⟩=some (.string r):=hc1;refine tkS (i:=0) (v:=.slice (some ⟨g,0,none⟩) 2 cap) rfl rfl hc1 ?_;refine tkS (i:=1) (v:=.int .i64 2) rfl rfl hc1 ?_;refine tkS (i:=2) (v:=.bool false) rfl rfl hc1 ?_;simp only [sA,sB,sC];refine tkS (i:=3) (v:=.bool false) rfl rfl hc1 ?_;refine tkS (i:=4) (v:=.slice (some ⟨g,0,none⟩) 2 cap) rfl rfl hc1 ?_;refine tkS (i:=5) (v:=.pointer (some ⟨g,1,none⟩)) rfl rfl hc1 ?_;simp only [sA,sB,sC];refine tkL (i:=6) (v:=.string r) rfl rfl hc1 (fun W hW=>?_) ?_
    ·go_simp
    refine tkS (i:=7) (v:=.bool false) rfl rfl hc1 ?_;refine tkS (i:=8) (v:=.bool false) rfl rfl hc1 ?_;simp only [sA,sB,sC];refine tkS (i:=9) (v:=.bool false) rfl rfl hc1 ?_;refine tkS (i:=10) (v:=.slice (some ⟨g,0,none⟩) 2 cap) rfl rfl hc1 ?_;refine tkS (i:=11) (v:=.pointer (some ⟨g,1,none⟩)) rfl rfl hc1 ?_;simp only [sA,sB,sC];refine tkL (i:=12) (v:=.string r) rfl rfl hc1 (fun W hW=>?_) ?_
    ·go_simp
    refine tkS (i:=13) (v:=.slice (some ⟨g,0,none⟩) 2 cap) rfl rfl hc1 ?_;refine tkS (i:=14) (v:=.pointer (some ⟨g,1,none⟩)) rfl rfl hc1 ?_;simp only [sA,sB,sC];refine tkL (i:=15) (v:=.string r) rfl rfl hc1 (fun W hW=>?_) ?_
    ·go_simp
    refine tkS (i:=16) (v:=.int .i64 r.size) rfl rfl hc1 ?_;refine tkS (i:=17) (v:=.int .i64 q) rfl rfl hc1 ?_;simp only [sA,sB,sC];refine tkS (i:=18) (v:=.int .u8 (bt r q)) rfl rfl hc1 ?_;refine tkS (i:=19) (v:=.bool false) rfl rfl hc1 ?_;refine tkS (i:=20) (v:=.bool false) rfl rfl hc1 ?_;simp only [sA,sB,sC];refine doneK (by kernel_rfl) ?_ _;go_wp2_with fail;refine regionK (fun W'=>W'.cell? ⟨g,1,none⟩=some (.string r)) 10 (by rfl) ?_;replace hc1:w1.drew.drew.cell? ⟨g,1,none⟩=some (.string r):=hc1;refine tkS (i:=0) (v:=.slice (some ⟨g,0,none⟩) 2 cap) rfl rfl hc1 ?_;refine tkS (i:=1) (v:=.pointer (some ⟨g,1,none⟩)) rfl rfl hc1 ?_;refine tkL (i:=2) (v:=.string r) rfl rfl hc1 (fun W hW=>?_) ?_
    ·go_simp
    simp only [sA,sB,sC];refine tkS (i:=3) (v:=.slice (some ⟨g,0,none⟩) 2 cap) rfl rfl hc1 ?_;refine tkS (i:=4) (v:=.pointer (some ⟨g,1,none⟩)) rfl rfl hc1 ?_;refine tkL (i:=5) (v:=.string r) rfl rfl hc1 (fun W hW=>?_) ?_
    ·go_simp
    simp only [sA,sB,sC];refine tkS (i:=6) (v:=.int .i64 r.size) rfl rfl hc1 ?_;refine tkS (i:=7) (v:=.int .i64 q) rfl rfl hc1 ?_;refine tkL (i:=8) (v:=.string (r.extract 0 q)) rfl rfl hc1 (fun W hW=>?_) ?_
    ·clear hW
     go_simp;intro h;exact absurd h (by omega)
    simp only [sA,sB,sC];refine tkS (i:=9) (v:=.string (r.extract 0 q)) rfl rfl hc1 ?_;simp only [sA,sB,sC];refine doneK (by kernel_rfl) ?_ _;have hue:(r.extract 0 q).size≤20000:=by rw [size_extract];omega
    obtain ⟨u,hu⟩:∃ u,r.extract 0 q=u:=⟨_,rfl⟩;rw [hu] at HY HI hue ⊢;clear hu;by_cases hu0:u.size=0
    ·have hue0:=isE0 hu0
     have HT:Hid (tagsS u=[]):=(by unfold tagsS;rw [if_pos hu0]:tagsS u=[]);go_wp2_with fail;have HS:Hid ((w1.alloc (.cells #[] 9)).drew.drew.cell? ⟨g,0,none⟩=some (.string a)∧StrsAt (w1.alloc (.cells #[] 9)).drew.drew (some ⟨w1.heap.size,0,none⟩) (tagsS u)):=(⟨cell_on hc0 _,fun h=>by rw [HT.out] at h;exact absurd h (Nat.lt_irrefl 0)⟩:(w1.alloc (.cells #[] 9)).drew.drew.cell? ⟨g,0,none⟩=some (.string a)∧StrsAt (w1.alloc (.cells #[] 9)).drew.drew (some ⟨w1.heap.size,0,none⟩) (tagsS u));have HTN:Hid ((tagsS u).length=0):=(by rw [HT.out];rfl:(tagsS u).length=0);have HB:Hid (Below w.heap.size w (w1.alloc (.cells #[] 9)).drew.drew):=((HB1.out.alloc HB1.out.size _).drew.drew:Below w.heap.size w (w1.alloc (.cells #[] 9)).drew.drew);clear hc0 hc1 HB1 hue0 HT;generalize (w1.alloc (.cells #[] 9)).drew.drew=X at HS HB ⊢;have htn:0≤20100:=Nat.zero_le _;have HU:Hid (∀ x∈tagsS u,x.size≤maxLen):=((fun x hx=>by rw [List.eq_nil_of_length_eq_zero HTN.out] at hx;cases hx):∀ x∈tagsS u,x.size≤maxLen);generalize w1.heap.size=tg at HS ⊢;replace HS:Hid (X.drew.cell? ⟨g,0,none⟩=some (.string a)∧StrsAt X.drew (some ⟨tg,0,none⟩) (tagsS u)):=HS.out;replace HB:Hid (Below w.heap.size w X.drew):=HB.out.drew;refine regionK (fun W'=>W'.cell? ⟨g,0,none⟩=some (.string a)∧StrsAt W' (some ⟨tg,0,none⟩) (tagsS u)) 24 (by rfl) ?_;refine tkS (i:=0) (v:=.slice (some ⟨g,0,none⟩) 2 cap) rfl rfl HS.out ?_;refine tkS (i:=1) (v:=.pointer (some ⟨g,0,none⟩)) rfl rfl HS.out ?_;refine tkL (i:=2) (v:=.string a) rfl rfl HS.out (fun W hW=>?_) ?_
     ·have hW1:=hW.1
      clear hW;go_simp
     simp only [sA,sB,sC];refine tkS (i:=3) (v:=.slice (some ⟨tg,0,none⟩) 0 0) rfl rfl HS.out ?_;refine tkS (i:=4) (v:=.slice (some ⟨g,0,none⟩) 2 cap) rfl rfl HS.out ?_;refine tkS (i:=5) (v:=.pointer (some ⟨g,0,none⟩)) rfl rfl HS.out ?_;simp only [sA,sB,sC];refine tkL (i:=6) (v:=.string a) rfl rfl HS.out (fun W hW=>?_) ?_
     ·have hW1:=hW.1
      clear hW;go_simp
     simp only [sA,sB,sC];refine onE (i:=7) rfl (fun K hK=>?_);go_simp;refine (c_s_NameRight a _ (by unfold maxLen;omega)).mono ?_;rintro e w3 ⟨rfl,hw3⟩;obtain rfl:=hw3;dsimp only;refine hK.out _ _ (fun _=>HS.out) ?_;clear hK K
     try simp only [Act.put,sA,sB,sC]
     cases hna:nameB a with
     | false=>
      refine tkS (i:=8) (v:=.bool false) rfl rfl HS.out ?_;refine tkU (i:=9) rfl rfl HS.out ?_;simp only [sA,sB,sC];refine onE (i:=10) rfl (fun K hK=>?_);refine Eq.mpr (if_neg (fun h=>Bool.noConfusion (show false=true from h))) ?_;refine hK.out _ _ (fun _=>HS.out) ?_;clear hK K
      try simp only [Act.put,sA,sB,sC]
      refine tkS (i:=11) (v:=.bool false) rfl rfl HS.out ?_;refine tkS (i:=12) (v:=.bool false) rfl rfl HS.out ?_;refine tkU (i:=13) rfl rfl HS.out ?_;simp only [sA,sB,sC];refine tkU (i:=14) rfl rfl HS.out ?_;refine tkU (i:=15) rfl rfl HS.out ?_;refine tkU (i:=16) rfl rfl HS.out ?_;simp only [sA,sB,sC];refine tkU (i:=18) rfl rfl HS.out ?_;simp only [sA,sB,sC];refine onE (i:=17) rfl (fun K hK=>?_);refine Eq.mpr (if_neg (fun h=>Bool.noConfusion (show false=true from h))) ?_;refine hK.out _ _ (fun _=>HS.out) ?_;clear hK K
      try simp only [Act.put,sA,sB,sC]
      refine tkU (i:=19) rfl rfl HS.out ?_;refine tkS (i:=20) (v:=.bool false) rfl rfl HS.out ?_;refine tkS (i:=21) (v:=.string a) rfl rfl HS.out ?_;simp only [sA,sB,sC];refine tkS (i:=22) (v:=.slice (some ⟨tg,0,none⟩) 0 0) rfl rfl HS.out ?_;refine tkS (i:=23) (v:=.bool false) rfl rfl HS.out ?_;simp only [sA,sB,sC];refine doneK (by kernel_rfl) ?_ _;have HE:Hid (serRB t=false):=serRB_f (fun h=>by have:=HY.out.2 h;rw [hna] at this;exact Bool.noConfusion this.1);have HP:Hid (¬ serRP t):=((fun h=>by have:=serRB_t h;rw [HE.out] at this;exact Bool.noConfusion this):¬ serRP t);go_wp2
      go_ret3
      exact ⟨a,_,_,_,by rw [HE.out];rfl,fun h=>absurd h HP.out,HB.out⟩
     | true=>
      refine tkS (i:=8) (v:=.bool true) rfl rfl HS.out ?_;refine tkS (i:=9) (v:=.slice (some ⟨tg,0,none⟩) 0 0) rfl rfl HS.out ?_;simp only [sA,sB,sC];refine onE (i:=10) rfl (fun K hK=>?_);rw [if_pos (by rfl)];go_simp;refine (c_s_l06Tags _ _ HTN.out (by omega) HU.out HS.out.2).mono ?_;rintro e w3 ⟨rfl,hw3⟩;obtain rfl:=hw3;dsimp only;refine hK.out _ _ (fun _=>HS.out) ?_;clear hK K
      try simp only [Act.put,sA,sB,sC]
      cases hal:(tagsS u).all tagB with
      | false=>
       refine tkS (i:=11) (v:=.bool false) rfl rfl HS.out ?_;refine tkS (i:=12) (v:=.bool false) rfl rfl HS.out ?_;refine tkU (i:=13) rfl rfl HS.out ?_;simp only [sA,sB,sC];refine tkU (i:=14) rfl rfl HS.out ?_;refine tkU (i:=15) rfl rfl HS.out ?_;refine tkU (i:=16) rfl rfl HS.out ?_;simp only [sA,sB,sC];refine tkU (i:=18) rfl rfl HS.out ?_;simp only [sA,sB,sC];refine onE (i:=17) rfl (fun K hK=>?_);refine Eq.mpr (if_neg (fun h=>Bool.noConfusion (show false=true from h))) ?_;refine hK.out _ _ (fun _=>HS.out) ?_;clear hK K
       try simp only [Act.put,sA,sB,sC]
       refine tkU (i:=19) rfl rfl HS.out ?_;refine tkS (i:=20) (v:=.bool false) rfl rfl HS.out ?_;refine tkS (i:=21) (v:=.string a) rfl rfl HS.out ?_;simp only [sA,sB,sC];refine tkS (i:=22) (v:=.slice (some ⟨tg,0,none⟩) 0 0) rfl rfl HS.out ?_;refine tkS (i:=23) (v:=.bool false) rfl rfl HS.out ?_;simp only [sA,sB,sC];refine doneK (by kernel_rfl) ?_ _;have HE:Hid (serRB t=false):=serRB_f (fun h=>by have:=HY.out.2 h;rw [hal] at this;exact Bool.noConfusion this.2.1);have HP:Hid (¬ serRP t):=((fun h=>by have:=serRB_t h;rw [HE.out] at this;exact Bool.noConfusion this):¬ serRP t);go_wp2
       go_ret3
       exact ⟨a,_,_,_,by rw [HE.out];rfl,fun h=>absurd h HP.out,HB.out⟩
      | true=>
       have h40:=name_size hna;have HU2:=hide (all_size hal);refine tkS (i:=11) (v:=.bool true) rfl rfl HS.out ?_;refine tkS (i:=12) (v:=.bool true) rfl rfl HS.out ?_;refine tkS (i:=13) (v:=.slice (some ⟨g,0,none⟩) 2 cap) rfl rfl HS.out ?_;simp only [sA,sB,sC];refine tkS (i:=14) (v:=.pointer (some ⟨g,0,none⟩)) rfl rfl HS.out ?_;refine tkL (i:=15) (v:=.string a) rfl rfl HS.out (fun W hW=>?_) ?_
       ·have hW1:=hW.1
        clear hW;go_simp
       refine tkS (i:=16) (v:=.slice (some ⟨tg,0,none⟩) 0 0) rfl rfl HS.out ?_;simp only [sA,sB,sC];refine tkS (i:=18) (v:=.string t) rfl rfl HS.out ?_;simp only [sA,sB,sC];refine onE (i:=17) rfl (fun K hK=>?_);rw [if_pos (by rfl)];go_simp;refine (c_s_l06Series a _ _ (by omega) HTN.out htn HU2.out HS.out.2).mono ?_;rintro e w3 ⟨rfl,hb3⟩;replace HB:=hide (HB.out.trans (hb3.mono HB.out.size));replace HS:Hid (w3.cell? ⟨g,0,none⟩=some (.string a)∧StrsAt w3 (some ⟨tg,0,none⟩) (tagsS u)):=(⟨cell_past hb3 HS.out.1,strs_past HS.out.2 hb3⟩:w3.cell? ⟨g,0,none⟩=some (.string a)∧StrsAt w3 (some ⟨tg,0,none⟩) (tagsS u));clear hb3;dsimp only;refine hK.out _ _ (fun _=>HS.out) ?_;clear hK K
       try simp only [Act.put,sA,sB,sC]
       have hq0:((serF a (tagsS u)).toList == t.toList)=serRB t:=by
        rw [str_eqB];by_cases h:serRP t
        ·rw [serRB_t h];exact decide_eq_true (HY.out.2 h).2.2
        ·rw [serRB_f h];exact decide_eq_false (fun e=>h (HY.out.1 ⟨hna,hal,e⟩))
       generalize serF a (tagsS u)=sf at hq0 ⊢;refine tkS (i:=19) (v:=.bool (serRB t)) rfl rfl HS.out ?_;refine tkS (i:=20) (v:=.bool (serRB t)) rfl rfl HS.out ?_;refine tkS (i:=21) (v:=.string a) rfl rfl HS.out ?_;simp only [sA,sB,sC];refine tkS (i:=22) (v:=.slice (some ⟨tg,0,none⟩) 0 0) rfl rfl HS.out ?_;refine tkS (i:=23) (v:=.bool (serRB t)) rfl rfl HS.out ?_;simp only [sA,sB,sC];refine doneK (by kernel_rfl) ?_ _;go_wp2
       go_ret3
       exact ⟨a,_,_,_,rfl,fun h=>⟨tagsS u,HI.out h,HTN.out,HS.out.2⟩,HB.out⟩
    ·have hue0:=isE hu0
     have HT:Hid (tagsS u=splL u 44):=(by unfold tagsS;rw [if_neg hu0]:tagsS u=splL u 44);go_wp2_with fail;refine (c_l01Split u 44 (by omega) (by omega) _).mono ?_;rintro e w2 ⟨tg,tc,rfl,hg2,hcell2,hb2⟩;rw [← HT.out] at hcell2 ⊢;have HU:Hid (∀ x∈tagsS u,x.size≤maxLen):=((fun x hx=>by rw [HT.out] at hx;have:=splL_sizes u 44 x hx;unfold maxLen;omega):∀ x∈tagsS u,x.size≤maxLen);obtain ⟨tn,htn0⟩:∃ tn,(tagsS u).length=tn:=⟨_,rfl⟩;have htn:tn≤20100:=by have:=splL_le u 44;rw [← HT.out] at this;omega
     have HTN:=hide htn0;rw [htn0];clear htn0;have HS:Hid (w2.cell? ⟨g,0,none⟩=some (.string a)∧StrsAt w2 (some ⟨tg,0,none⟩) (tagsS u)):=(⟨cell_past hb2 (cell_on hc0 _),fun _=>⟨tg,0,rfl,fun i x hx=>by rw [Nat.zero_add];exact hcell2 i x hx⟩⟩:w2.cell? ⟨g,0,none⟩=some (.string a)∧StrsAt w2 (some ⟨tg,0,none⟩) (tagsS u));have HB:Hid (Below w.heap.size w w2):=((HB1.out.alloc HB1.out.size _).drew.drew.trans (hb2.mono (HB1.out.alloc HB1.out.size _).size):Below w.heap.size w w2);clear hc0 hc1 HB1 hue0 HT hcell2 hb2 hg2;go_wp2_with fail;generalize w2=X at HS HB ⊢;replace HS:Hid (X.drew.cell? ⟨g,0,none⟩=some (.string a)∧StrsAt X.drew (some ⟨tg,0,none⟩) (tagsS u)):=HS.out;replace HB:Hid (Below w.heap.size w X.drew):=HB.out.drew;refine regionK (fun W'=>W'.cell? ⟨g,0,none⟩=some (.string a)∧StrsAt W' (some ⟨tg,0,none⟩) (tagsS u)) 24 (by rfl) ?_;refine tkS (i:=0) (v:=.slice (some ⟨g,0,none⟩) 2 cap) rfl rfl HS.out ?_;refine tkS (i:=1) (v:=.pointer (some ⟨g,0,none⟩)) rfl rfl HS.out ?_;refine tkL (i:=2) (v:=.string a) rfl rfl HS.out (fun W hW=>?_) ?_
     ·have hW1:=hW.1
      clear hW;go_simp
     simp only [sA,sB,sC];refine tkS (i:=3) (v:=.slice (some ⟨tg,0,none⟩) tn tc) rfl rfl HS.out ?_;refine tkS (i:=4) (v:=.slice (some ⟨g,0,none⟩) 2 cap) rfl rfl HS.out ?_;refine tkS (i:=5) (v:=.pointer (some ⟨g,0,none⟩)) rfl rfl HS.out ?_;simp only [sA,sB,sC];refine tkL (i:=6) (v:=.string a) rfl rfl HS.out (fun W hW=>?_) ?_
     ·have hW1:=hW.1
      clear hW;go_simp
     simp only [sA,sB,sC];refine onE (i:=7) rfl (fun K hK=>?_);go_simp;refine (c_s_NameRight a _ (by unfold maxLen;omega)).mono ?_;rintro e w3 ⟨rfl,hw3⟩;obtain rfl:=hw3;dsimp only;refine hK.out _ _ (fun _=>HS.out) ?_;clear hK K
     try simp only [Act.put,sA,sB,sC]
     cases hna:nameB a with
     | false=>
      refine tkS (i:=8) (v:=.bool false) rfl rfl HS.out ?_;refine tkU (i:=9) rfl rfl HS.out ?_;simp only [sA,sB,sC];refine onE (i:=10) rfl (fun K hK=>?_);refine Eq.mpr (if_neg (fun h=>Bool.noConfusion (show false=true from h))) ?_;refine hK.out _ _ (fun _=>HS.out) ?_;clear hK K
      try simp only [Act.put,sA,sB,sC]
      refine tkS (i:=11) (v:=.bool false) rfl rfl HS.out ?_;refine tkS (i:=12) (v:=.bool false) rfl rfl HS.out ?_;refine tkU (i:=13) rfl rfl HS.out ?_;simp only [sA,sB,sC];refine tkU (i:=14) rfl rfl HS.out ?_;refine tkU (i:=15) rfl rfl HS.out ?_;refine tkU (i:=16) rfl rfl HS.out ?_;simp only [sA,sB,sC];refine tkU (i:=18) rfl rfl HS.out ?_;simp only [sA,sB,sC];refine onE (i:=17) rfl (fun K hK=>?_);refine Eq.mpr (if_neg (fun h=>Bool.noConfusion (show false=true from h))) ?_;refine hK.out _ _ (fun _=>HS.out) ?_;clear hK K
      try simp only [Act.put,sA,sB,sC]
      refine tkU (i:=19) rfl rfl HS.out ?_;refine tkS (i:=20) (v:=.bool false) rfl rfl HS.out ?_;refine tkS (i:=21) (v:=.string a) rfl rfl HS.out ?_;simp only [sA,sB,sC];refine tkS (i:=22) (v:=.slice (some ⟨tg,0,none⟩) tn tc) rfl rfl HS.out ?_;refine tkS (i:=23) (v:=.bool false) rfl rfl HS.out ?_;simp only [sA,sB,sC];refine doneK (by kernel_rfl) ?_ _;have HE:Hid (serRB t=false):=serRB_f (fun h=>by have:=HY.out.2 h;rw [hna] at this;exact Bool.noConfusion this.1);have HP:Hid (¬ serRP t):=((fun h=>by have:=serRB_t h;rw [HE.out] at this;exact Bool.noConfusion this):¬ serRP t);go_wp2
      go_ret3
      exact ⟨a,_,_,_,by rw [HE.out];rfl,fun h=>absurd h HP.out,HB.out⟩
     | true=>
      refine tkS (i:=8) (v:=.bool true) rfl rfl HS.out ?_;refine tkS (i:=9) (v:=.slice (some ⟨tg,0,none⟩) tn tc) rfl rfl HS.out ?_;simp only [sA,sB,sC];refine onE (i:=10) rfl (fun K hK=>?_);rw [if_pos (by rfl)];go_simp;refine (c_s_l06Tags _ _ HTN.out (by omega) HU.out HS.out.2).mono ?_;rintro e w3 ⟨rfl,hw3⟩;obtain rfl:=hw3;dsimp only;refine hK.out _ _ (fun _=>HS.out) ?_;clear hK K
      try simp only [Act.put,sA,sB,sC]
      cases hal:(tagsS u).all tagB with
      | false=>
       refine tkS (i:=11) (v:=.bool false) rfl rfl HS.out ?_;refine tkS (i:=12) (v:=.bool false) rfl rfl HS.out ?_;refine tkU (i:=13) rfl rfl HS.out ?_;simp only [sA,sB,sC];refine tkU (i:=14) rfl rfl HS.out ?_;refine tkU (i:=15) rfl rfl HS.out ?_;refine tkU (i:=16) rfl rfl HS.out ?_;simp only [sA,sB,sC];refine tkU (i:=18) rfl rfl HS.out ?_;simp only [sA,sB,sC];refine onE (i:=17) rfl (fun K hK=>?_);refine Eq.mpr (if_neg (fun h=>Bool.noConfusion (show false=true from h))) ?_;refine hK.out _ _ (fun _=>HS.out) ?_;clear hK K
       try simp only [Act.put,sA,sB,sC]
       refine tkU (i:=19) rfl rfl HS.out ?_;refine tkS (i:=20) (v:=.bool false) rfl rfl HS.out ?_;refine tkS (i:=21) (v:=.string a) rfl rfl HS.out ?_;simp only [sA,sB,sC];refine tkS (i:=22) (v:=.slice (some ⟨tg,0,none⟩) tn tc) rfl rfl HS.out ?_;refine tkS (i:=23) (v:=.bool false) rfl rfl HS.out ?_;simp only [sA,sB,sC];refine doneK (by kernel_rfl) ?_ _;have HE:Hid (serRB t=false):=serRB_f (fun h=>by have:=HY.out.2 h;rw [hal] at this;exact Bool.noConfusion this.2.1);have HP:Hid (¬ serRP t):=((fun h=>by have:=serRB_t h;rw [HE.out] at this;exact Bool.noConfusion this):¬ serRP t);go_wp2
       go_ret3
       exact ⟨a,_,_,_,by rw [HE.out];rfl,fun h=>absurd h HP.out,HB.out⟩
      | true=>
       have h40:=name_size hna;have HU2:=hide (all_size hal);refine tkS (i:=11) (v:=.bool true) rfl rfl HS.out ?_;refine tkS (i:=12) (v:=.bool true) rfl rfl HS.out ?_;refine tkS (i:=13) (v:=.slice (some ⟨g,0,none⟩) 2 cap) rfl rfl HS.out ?_;simp only [sA,sB,sC];refine tkS (i:=14) (v:=.pointer (some ⟨g,0,none⟩)) rfl rfl HS.out ?_;refine tkL (i:=15) (v:=.string a) rfl rfl HS.out (fun W hW=>?_) ?_
       ·have hW1:=hW.1
        clear hW;go_simp
       refine tkS (i:=16) (v:=.slice (some ⟨tg,0,none⟩) tn tc) rfl rfl HS.out ?_;simp only [sA,sB,sC];refine tkS (i:=18) (v:=.string t) rfl rfl HS.out ?_;simp only [sA,sB,sC];refine onE (i:=17) rfl (fun K hK=>?_);rw [if_pos (by rfl)];go_simp;refine (c_s_l06Series a _ _ (by omega) HTN.out htn HU2.out HS.out.2).mono ?_;rintro e w3 ⟨rfl,hb3⟩;replace HB:=hide (HB.out.trans (hb3.mono HB.out.size));replace HS:Hid (w3.cell? ⟨g,0,none⟩=some (.string a)∧StrsAt w3 (some ⟨tg,0,none⟩) (tagsS u)):=(⟨cell_past hb3 HS.out.1,strs_past HS.out.2 hb3⟩:w3.cell? ⟨g,0,none⟩=some (.string a)∧StrsAt w3 (some ⟨tg,0,none⟩) (tagsS u));clear hb3;dsimp only;refine hK.out _ _ (fun _=>HS.out) ?_;clear hK K
       try simp only [Act.put,sA,sB,sC]
       have hq0:((serF a (tagsS u)).toList == t.toList)=serRB t:=by
        rw [str_eqB];by_cases h:serRP t
        ·rw [serRB_t h];exact decide_eq_true (HY.out.2 h).2.2
        ·rw [serRB_f h];exact decide_eq_false (fun e=>h (HY.out.1 ⟨hna,hal,e⟩))
       generalize serF a (tagsS u)=sf at hq0 ⊢;refine tkS (i:=19) (v:=.bool (serRB t)) rfl rfl HS.out ?_;refine tkS (i:=20) (v:=.bool (serRB t)) rfl rfl HS.out ?_;refine tkS (i:=21) (v:=.string a) rfl rfl HS.out ?_;simp only [sA,sB,sC];refine tkS (i:=22) (v:=.slice (some ⟨tg,0,none⟩) tn tc) rfl rfl HS.out ?_;refine tkS (i:=23) (v:=.bool (serRB t)) rfl rfl HS.out ?_;simp only [sA,sB,sC];refine doneK (by kernel_rfl) ?_ _;go_wp2
       go_ret3
       exact ⟨a,_,_,_,rfl,fun h=>⟨tagsS u,HI.out h,HTN.out,HS.out.2⟩,HB.out⟩
   ·have hlb:(bt r q != 125)=true:=by simpa using hlast
    have HE:Hid (serRB t=false):=spec_no (fun a' r' e=>by rw [HL.out] at e;obtain ⟨_,e2⟩:=List.cons.inj e;obtain ⟨rfl,_⟩:=List.cons.inj e2;exact .inr ⟨q,HQ.out,hlast⟩);have HP:Hid (¬ serRP t):=((fun h=>by have:=serRB_t h;rw [HE.out] at this;exact Bool.noConfusion this):¬ serRP t);go_wp2_with fail;refine regionK (fun W'=>W'.cell? ⟨g,1,none⟩=some (.string r)) 21 (by rfl) ?_;replace hc1:w1.drew.cell? ⟨g,1,none⟩=some (.string r):=hc1;refine tkS (i:=0) (v:=.slice (some ⟨g,0,none⟩) 2 cap) rfl rfl hc1 ?_;refine tkS (i:=1) (v:=.int .i64 2) rfl rfl hc1 ?_;refine tkS (i:=2) (v:=.bool false) rfl rfl hc1 ?_;simp only [sA,sB,sC];refine tkS (i:=3) (v:=.bool false) rfl rfl hc1 ?_;refine tkS (i:=4) (v:=.slice (some ⟨g,0,none⟩) 2 cap) rfl rfl hc1 ?_;refine tkS (i:=5) (v:=.pointer (some ⟨g,1,none⟩)) rfl rfl hc1 ?_;simp only [sA,sB,sC];refine tkL (i:=6) (v:=.string r) rfl rfl hc1 (fun W hW=>?_) ?_
    ·go_simp
    refine tkS (i:=7) (v:=.bool false) rfl rfl hc1 ?_;refine tkS (i:=8) (v:=.bool false) rfl rfl hc1 ?_;simp only [sA,sB,sC];refine tkS (i:=9) (v:=.bool false) rfl rfl hc1 ?_;refine tkS (i:=10) (v:=.slice (some ⟨g,0,none⟩) 2 cap) rfl rfl hc1 ?_;refine tkS (i:=11) (v:=.pointer (some ⟨g,1,none⟩)) rfl rfl hc1 ?_;simp only [sA,sB,sC];refine tkL (i:=12) (v:=.string r) rfl rfl hc1 (fun W hW=>?_) ?_
    ·go_simp
    refine tkS (i:=13) (v:=.slice (some ⟨g,0,none⟩) 2 cap) rfl rfl hc1 ?_;refine tkS (i:=14) (v:=.pointer (some ⟨g,1,none⟩)) rfl rfl hc1 ?_;simp only [sA,sB,sC];refine tkL (i:=15) (v:=.string r) rfl rfl hc1 (fun W hW=>?_) ?_
    ·go_simp
    refine tkS (i:=16) (v:=.int .i64 r.size) rfl rfl hc1 ?_;refine tkS (i:=17) (v:=.int .i64 q) rfl rfl hc1 ?_;simp only [sA,sB,sC];refine tkS (i:=18) (v:=.int .u8 (bt r q)) rfl rfl hc1 ?_;refine tkS (i:=19) (v:=.bool true) rfl rfl hc1 ?_;refine tkS (i:=20) (v:=.bool true) rfl rfl hc1 ?_;simp only [sA,sB,sC];refine doneK (by kernel_rfl) ?_ _;go_wp2
    go_ret3
    exact ⟨_,none,0,0,by rw [HE.out];rfl,fun h=>absurd h HP.out,HB1.out.drew⟩
 ·have HE:Hid (serRB t=false):=serRB_f (fun ⟨name,K,hs⟩=>by have e:=parts_head hs;rw [e] at hn;simp at hn;omega)
  have HP:Hid (¬ serRP t):=((fun h=>by have:=serRB_t h;rw [HE.out] at this;exact Bool.noConfusion this):¬ serRP t);have hnb:((n:Int) == 2)=false:=by simp;omega
  have hnb2:((n:Int) != 2)=true:=by simp;omega
  go_enter Tryz.func133,Tryz.ntmps133;go_wp2_with fail;refine (c_l01Split t 123 (by omega) (by omega) _).mono ?_;rintro e w1 ⟨g,cap,rfl,hg,hcell,hb1⟩;rw [hn];clear hcell;go_wp2_with fail;refine regionK (fun W'=>True) 21 (by rfl) ?_;refine tkS (i:=0) (v:=.slice (some ⟨g,0,none⟩) n cap) rfl rfl trivial ?_;refine tkS (i:=1) (v:=.int .i64 n) rfl rfl trivial ?_;refine tkS (i:=2) (v:=.bool true) rfl rfl trivial ?_;simp only [sA,sB,sC];refine tkS (i:=3) (v:=.bool true) rfl rfl trivial ?_;refine tkU (i:=4) rfl rfl trivial ?_;refine tkU (i:=5) rfl rfl trivial ?_;simp only [sA,sB,sC];refine tkU (i:=6) rfl rfl trivial ?_;refine tkU (i:=7) rfl rfl trivial ?_;refine tkS (i:=8) (v:=.bool true) rfl rfl trivial ?_;simp only [sA,sB,sC];refine tkS (i:=9) (v:=.bool true) rfl rfl trivial ?_;refine tkU (i:=10) rfl rfl trivial ?_;refine tkU (i:=11) rfl rfl trivial ?_;simp only [sA,sB,sC];refine tkU (i:=12) rfl rfl trivial ?_;refine tkU (i:=13) rfl rfl trivial ?_;refine tkU (i:=14) rfl rfl trivial ?_;simp only [sA,sB,sC];refine tkU (i:=15) rfl rfl trivial ?_;refine tkU (i:=16) rfl rfl trivial ?_;refine tkU (i:=17) rfl rfl trivial ?_;simp only [sA,sB,sC];refine tkU (i:=18) rfl rfl trivial ?_;refine tkU (i:=19) rfl rfl trivial ?_;refine tkS (i:=20) (v:=.bool true) rfl rfl trivial ?_;simp only [sA,sB,sC];refine doneK (by kernel_rfl) ?_ _;go_wp2
  go_ret3
  exact ⟨_,none,0,0,by rw [HE.out];rfl,fun h=>absurd h HP.out,hb1.drew⟩
set_option maxHeartbeats 1000000 in
theorem c_s_SeriesRight {w:World} (t:ByteArray) (hs:t.size≤maxLen) :
  Calls Tryz.prog 102 #[.string t] w fun e w'=>e=.returned (.bool (serRB t))∧Below w.heap.size w w':=by
 unfold maxLen at hs;by_cases h1:20000<t.size
 ·have h1i:(20000:Int)<(t.size:Int):=by omega
  have HE:Hid (serRB t=false):=serRB_f (fun ⟨name,K,h⟩=>by have:=h.2.2.2.2.1;omega);go_enter Tryz.func102,Tryz.ntmps102;go_wp2;go_ret;exact ⟨ret_bool HE.out.symm,Below.refl _ _⟩
 have h1i:¬ (20000:Int)<(t.size:Int):=by omega
 go_enter Tryz.func102,Tryz.ntmps102;go_wp2_with fail;refine (c_s_l06Parts t (by omega)).mono ?_;rintro e w1 ⟨nm,ao,n,c,rfl,_,hb⟩;go_wp2;go_ret;exact ⟨rfl,hb⟩
end Go.Proofs.YtmjogablacnlgaaGreatDoor
