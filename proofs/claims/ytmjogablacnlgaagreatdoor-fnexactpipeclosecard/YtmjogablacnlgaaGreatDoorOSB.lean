/-
 The program's series: the tags stand in a map, and are told in order.
-/
import Derived.Test.YtmjogablacnlgaaGreatDoorOSA
import Derived.Test.YtmjogablacnlgaaGreatDoorOKF
import Derived.Test.YtmjogablacnlgaaGreatDoorOJK
import Derived.Sort.EveryDepth
import Derived.Lib.Split
import Derived.Lib.CountLaws
import Derived.Lib.SplitLaws
import Derived.Lib.Strings
namespace Go.Proofs.YtmjogablacnlgaaGreatDoor
set_option linter.unusedVariables false
set_option linter.unusedSimpArgs false
open Go.ChangeShapes Go.WideShapes Go.ChangeAt Go.RowKit Go.PlainAid Go.Shelf Go.Sort
set_option maxRecDepth 10000
theorem sortsT (m:Nat):AnyZ.SortsIn Tryz.prog Tryz.sortedT_ren Fence.wide m:=
 ⟨fun blk off cap ss W hH hblk hsz=>callsIn_wide.2 (AnyM.slices_Sort_string Tryz.sortT blk off cap ss W hH hblk hsz),fun p cap W=>callsIn_wide.2 (AnyM.slices_Sort_string_none Tryz.sortT p cap W)⟩
theorem c_keysT (mb:Option Nat) (W:World):Calls Tryz.prog 233 #[.map mb] W fun e w'=>e=.returned (.func (.func 256) #[] #[.pointer (some ⟨W.heap.size,0,none⟩)])∧w'=W.alloc (.cells #[.map mb] 262):=
 callsIn_wide.1 (AnyZ.keys_in Tryz.keysT Fence.wide 5 trivial rfl mb W)
theorem setT_keys {w:World} {b n:Nat} {R:Value→Option (DataW Unit×List MemPlace)} {L:List ByteArray} (h:w.ownsMap Tryz.prog 9 R b n (setT L)):∃ es,setT L=.map es∧∀ p∈es,∃ x,p.1=Lit.string x:=by
 obtain ⟨es,e,hk⟩:=h.keysOf;exact ⟨es,e,fun p hp=>by obtain ⟨v,hv⟩:=hk p hp;obtain ⟨x,_,hx,_⟩:=Go.Maps.keyOf_str Tryz.underlying9 hv;exact ⟨x,hx⟩⟩
theorem map_enc (K:List ByteArray):(K.map toL).map encStr=K.map Value.string:=by
 rw [List.map_map];refine List.map_congr_left (fun x _=>?_)
 show encStr (toL x)=.string x
 unfold encStr;rw [mk_toL]
set_option maxHeartbeats 1000000 in
theorem c_sortedT {L:List ByteArray} (b nn g:Nat) (w:World) (hg:w.heap.size=g) (hown:w.ownsMap Tryz.prog 9 (unitElem (H:=Unit)) b nn (setT L)) (hl:L.length≤100000) :
  Calls Tryz.prog 113 #[.func (.func 256) #[] #[.pointer (some ⟨g,0,none⟩)]] (w.alloc (.cells #[.map (some b)] 262)) fun e w'=>∃ v,e=.returned v∧OwnT w' 0 v (serK L)∧Below w.heap.size w w':=by
 subst hg;have hbl:=hown.lt;have hk:=setT_keys hown
 have hsz:Go.Maps.size (setT L)≤100000:=by
  have h:=(keys_sorted hk (keys_perm L hk).symm.symm).2.2;have:=serK_len L;omega
 have hseq:SeqGives Fence.wide 2 Tryz.prog 256 #[.pointer (some ⟨w.heap.size,0,none⟩)] encStr (fun ss=>ss.Perm (Go.strKeys (setT L))) (Go.Maps.size (setT L)) (w.alloc (.cells #[.map (some b)] 262)):=
  AnyZ.keys_gives (ρ:=Tryz.keysT_ren) { Tryz.keysT with } Fence.wide _ trivial rfl (by omega) w.heap.size b nn (setT L) _ (by simp) (by simp) (hown.alloc _)
 have hc:=callsIn_wide.1 (AnyZ.sorted_in Tryz.sortedT Fence.wide 5 trivial trivial trivial trivial rfl (by omega) (sortsT _) (enters_of Tryz.func147 (by kernel_rfl) rfl) 256 #[.pointer (some ⟨w.heap.size,0,none⟩)] trivial (enters_of Tryz.func256 (by kernel_rfl) rfl) _ (Go.Maps.size (setT L)) (by unfold maxLen;omega) (by omega) _ hseq);refine hc.mono ?_;rintro e w' ⟨v,ss,rfl,hS,hrow,hnil,hb⟩;obtain ⟨h1,h2,_⟩:=keys_sorted hk hS;refine ⟨v,rfl,?_,((Below.refl _ _).alloc (Nat.le_refl _) _).trans (hb.mono (by simp))⟩;have h1:ss.mergeSort (fun x y=>decide (x≤y))=(serK L).map toL:=h1;rw [h1,map_enc,h2] at hrow;exact own_le' hrow (Nat.zero_le _)
set_option maxHeartbeats 1000000 in
theorem c_joinT {w:World} {B m c:Nat} {ao:Option Addr} {K:List ByteArray} (hm:K.length=m) (ho:OwnT w B (.slice ao m c) K) (hl:m≤100000) (hu:∀ x∈K,x.size≤20) :
  Calls Tryz.prog 232 #[.slice ao m c,.string ⟨#[44]⟩] w fun e w'=>e=.returned (.string ⟨(joinT K).toArray⟩)∧Below w.heap.size w w':=by
 have hj:=joinT_len hu;have ho2:=ho;rcases ho2.2 with ⟨e,h0⟩ | ⟨g,cap,cur,e,hB,hg,hnc,_⟩
 ·cases e
  obtain rfl:K=[]:=List.eq_nil_of_length_eq_zero h0;exact (Tryz.strings_Join_none none 0 ⟨#[44]⟩ w).mono (fun e w' h=>⟨by rw [h.1];rfl,h.2 ▸ Below.refl _ _⟩)
 ·cases e
  refine (Tryz.strings_Join g 0 c K ⟨#[44]⟩ w (fun j x hx=>?_) (Array.getElem?_eq_some_iff.1 hg).1 (by omega) hnc (by show (joinT K).length≤_;omega)).mono (fun e w' h=>⟨by rw [h.1];rfl,h.2⟩);have:=(strs_owned ho) (by have:=(List.getElem?_eq_some_iff.1 hx).1;omega);obtain ⟨b',off',e',hc⟩:=this
  cases e'
  exact hc j x hx
end Go.Proofs.YtmjogablacnlgaaGreatDoor
namespace Go.Proofs.YtmjogablacnlgaaGreatDoor
set_option linter.unusedVariables false
set_option linter.unusedSimpArgs false
open Go.ChangeShapes Go.WideShapes Go.ChangeAt Go.RowKit Go.PlainAid
set_option maxRecDepth 10000
theorem lawT:Go.Maps.Keyed Tryz.prog 9:=Go.Maps.string_keyed Tryz.underlying9
def serW (name:ByteArray) (L:List ByteArray):ByteArray:=if nameB name=true∧L.all tagB=true then serF name L else ByteArray.empty
theorem tag_size {x:ByteArray} (h:tagB x=true):x.size≤20:=by
 unfold tagB at h;simp only [Bool.and_eq_true,decide_eq_true_eq] at h;exact h.1.2
theorem name_size {x:ByteArray} (h:nameB x=true):x.size≤40:=by
 unfold nameB at h;simp only [Bool.and_eq_true,decide_eq_true_eq] at h;exact h.1.1.2
theorem all_size {L:List ByteArray} (h:L.all tagB=true):∀ x∈L,x.size≤20:=fun x hx=>tag_size (List.all_eq_true.1 h x hx)
theorem key_str {x:ByteArray} (h:x.size≤maxLen):Go.keyOf Tryz.prog 9 (.string x)=some (litT x):=Go.WideMaps.keyOf_string_mk Tryz.underlying9 h
set_option maxHeartbeats 2000000 in
theorem c_i_seriesWith {w:World} {ao:Option Addr} {L:List ByteArray} (name:ByteArray) (c n:Nat) (hnm:name.size≤maxLen) (hn:L.length=n) (hl:n≤20100) (hu:∀ u∈L,u.size≤maxLen) (hA:StrsAt w ao L) :
  Calls Tryz.prog 205 #[.string name,.slice ao n c] w fun e w'=>e=.returned (.string (serW name L))∧Below w.heap.size w w':=by
 have HA:=hide hA;have HN:=hide hn;have HU:=hide hu;have HNm:=hide hnm;have hmm:=@run_makeMap Tryz.prog;clear hA hn hu hnm
 cases hnb:nameB name with
 | false=>
  have HE:Hid (serW name L=ByteArray.empty):=(by unfold serW;rw [if_neg (by rw [hnb];simp)]:serW name L=ByteArray.empty);go_enter Tryz.func205,Tryz.ntmps205;go_wp2_with (go_at_call 95;refine (c_i_NameRight _ _ HNm.out).mono ?_;rintro e w1 ⟨rfl,rfl⟩);go_ret;exact ⟨by rw [HE.out];rfl,Below.refl _ _⟩
 | true=>
  have hn40:=name_size hnb;go_enter Tryz.func205,Tryz.ntmps205;go_wp2_with (go_at_call 95;refine (c_i_NameRight _ _ HNm.out).mono ?_;rintro e w1 ⟨rfl,hw1⟩;obtain rfl:=hw1.symm);have M0:=hide (World.ownsMap_made (H:=Unit) w Tryz.prog 9 unitElem)
  go_loopw [15] (fun i wr=>∃ (k:Nat),k≤n∧i=.int .i64 k∧Hid (wr.ownsMap Tryz.prog 9 (unitElem (H:=Unit)) w.heap.size k (setT (L.take k))∧(L.take k).all tagB=true)∧Hid (Below w.heap.size w wr)) (fun i wr=>n - (Go.RowKit.intOf i).toNat)
  case atStart=>exact ⟨0,Nat.zero_le _,rfl,⟨M0.out,by simp⟩,(Below.refl _ _).alloc (Nat.le_refl _) _⟩
  case round=>
   clear M0;obtain ⟨k,hk,rfl,HO,HB⟩:=hrel;by_cases hkn:k<n
   ·obtain ⟨b,off,e,hcell⟩:=HA.out (by have:=HN.out;omega)
    obtain ⟨y,hy⟩:∃ y,L[k]?=some y:=⟨L[k]'(by have:=HN.out;omega),List.getElem?_eq_getElem _⟩;subst e;have hc0:=cell_past HB.out (hcell k y hy);have HY:=hide hy;have HZ:=hide (HU.out y (List.mem_of_getElem? hy));clear hcell hy
    cases ht:tagB y with
    | false=>
     have HE:Hid (serW name L=ByteArray.empty):=(by unfold serW;rw [if_neg (by rw [all_no HY.out ht];simp)]:serW name L=ByteArray.empty);go_wp2_with (go_at_call 231;refine (c_i_TagRight _ _ HZ.out).mono ?_;rintro e w1 ⟨rfl,hw1⟩;obtain rfl:=hw1.symm);go_ret;exact ⟨by rw [HE.out];rfl,HB.out⟩
    | true=>
     have HE:Hid ((L.take (k+1)).all tagB=true):=(by rw [List.take_add_one,HY.out,List.all_append,HO.out.2];simp [ht]:(L.take (k+1)).all tagB=true);have HS:Hid (setT (L.take (k+1))=(setT (L.take k)).put (litT y) (.agg [])):=(by rw [List.take_add_one,HY.out];exact setT_snoc _ _:setT (L.take (k+1))=(setT (L.take k)).put (litT y) (.agg []))
     go_wp2_with (first
      | (go_at_call 231;refine (c_i_TagRight _ _ HZ.out).mono ?_;rintro e w1 ⟨rfl,hw1⟩;obtain rfl:=hw1.symm)
      | (at_mapUpdate;refine wpList_mapUpdate_own _ rfl _ _ _ 262 rfl 9 263 lawT Tryz.underlying262 _ w.heap.size k _ rfl HO.out.1 (by unfold maxLen;omega) _ _ _ rfl rfl (key_str HZ.out) _ [] unitElem_mk ?_;intro w1 hown1 hgrow1;rw [← HS.out] at hown1;have HO1:=hide hown1;have HB1:=hide (HB.out.grown hgrow1 HB.out.size (fun j hj=>by cases hj;exact Nat.le_refl _));clear hown1 hgrow1))
     go_roundw
     case rel=>exact ⟨k+1,by omega,by go_num,⟨HO1.out,HE.out⟩,HB1⟩
     case measure=>simp [Go.RowKit.intOf];omega
   ·have eL:L.take k=L:=List.take_of_length_le (by have:=HN.out;omega)
    rw [eL] at HO;clear eL;have HK:Hid (∀ x∈serK L,x.size≤20):=(fun x hx=>all_size HO.out.2 x (mem_serK.1 hx):∀ x∈serK L,x.size≤20);have hkl:(serK L).length≤20100:=by have:=serK_len L;have:=HN.out;omega
    have HKl:=hide hkl;have HEq:Hid (serW name L=serF name L):=(by unfold serW;rw [if_pos ⟨hnb,HO.out.2⟩]:serW name L=serF name L);clear hkl;obtain ⟨T1,hT1⟩:∃ T1:ByteArray,T1=⟨(toL name ++ [123]).toArray⟩:=⟨_,rfl⟩
    have hadd1:Op.stringOp .add name ⟨#[123]⟩=pure (.string T1):=by
     rw [str_addL (x:=toL name) (y:=[123]) (mk_toL name).symm rfl (by rw [toL_len];simp;omega),hT1]
    have hjl:=joinT_len HK.out;have hj2:(joinT (serK L)).length≤422100:=by have:=HKl.out;omega
    obtain ⟨T2,hT2⟩:∃ T2:ByteArray,T2=⟨(joinT (serK L)).toArray⟩:=⟨_,rfl⟩;obtain ⟨T3,hT3⟩:∃ T3:ByteArray,T3=⟨(headT name (serK L)).toArray⟩:=⟨_,rfl⟩
    have hadd2:Op.stringOp .add T1 T2=pure (.string T3):=by
     rw [str_addL hT1 hT2 (by simp [toL_len];omega),hT3];rfl
    obtain ⟨T4,hT4⟩:∃ T4:ByteArray,T4=serT name (serK L):=⟨_,rfl⟩
    have hadd3:Op.stringOp .add T3 ⟨#[125]⟩=pure (.string T4):=by
     rw [str_addL (y:=[125]) hT3 rfl (by simp [headT,toL_len];omega),hT4];rfl
    have hs4:T4.size≤1000000:=by rw [hT4,serT_size];omega
    obtain ⟨m,hm⟩:∃ m,(serK L).length=m:=⟨_,rfl⟩;have HF:Hid (serF name L=if 8<m∨100<T4.size then ByteArray.empty else T4):=(by unfold serF;rw [hT4,hm]:serF name L=if 8<m∨100<T4.size then ByteArray.empty else T4);have HT2:=hide hT2;have HM:=hide hm;have hm9:m≤20100:=by have:=HKl.out;omega
    clear hT1 hT2 hT3 hT4 hm hjl hj2;go_wp2_with fail;refine (c_keysT _ _).mono ?_;rintro e w1 ⟨rfl,hw1⟩;obtain rfl:=hw1;go_wp2_with fail;refine (c_sortedT w.heap.size k wr.heap.size wr rfl HO.out.1 (by have:=HN.out;omega)).mono ?_;rintro e w2 ⟨v2,rfl,o2,hb2⟩;obtain ⟨ao2,c2,rfl⟩:=ownT_any o2;rw [HM.out] at o2 ⊢;have HO2:=hide o2;have HB2:=hide (HB.out.trans (hb2.mono HB.out.size));have HM2:=hide (HO.out.1.kept (row:=none) ⟨hb2.os,hb2.tape,hb2.output,hb2.size,fun j hj _=>hb2.block j hj⟩ (by simp));clear o2 hb2;go_wp2_with fail;refine (c_joinT HM.out HO2.out (by omega) HK.out).mono ?_;rintro e w3 ⟨rfl,hb3⟩;rw [← HT2.out];have HB3:=hide (HB2.out.trans (hb3.mono HB2.out.size));have HM3:=hide (HM2.out.kept (row:=none) ⟨hb3.os,hb3.tape,hb3.output,hb3.size,fun j hj _=>hb3.block j hj⟩ (by simp));clear hb3 HO2 HB2 HM2;have hsz:Go.Maps.size (setT L)=m:=by rw [← HM.out];exact (keys_sorted (setT_keys HM3.out) (keys_perm L (setT_keys HM3.out))).2.2
    have hlen:=HM3.out.len Tryz.underlying262 3;rw [hsz] at hlen;clear hsz;by_cases h8:8<m
    ·have h8i:(8:Int)<(m:Int):=by omega
     have HF2:Hid (serF name L=ByteArray.empty):=(by rw [HF.out,if_pos (.inl h8)]:serF name L=ByteArray.empty);go_wp2;go_ret;exact ⟨by rw [HEq.out,HF2.out];rfl,HB3.out⟩
    ·have h8i:¬ (8:Int)<(m:Int):=by omega
     by_cases h100:100<T4.size
     ·have h100i:(100:Int)<(T4.size:Int):=by omega
      have HF2:Hid (serF name L=ByteArray.empty):=(by rw [HF.out,if_pos (.inr h100)]:serF name L=ByteArray.empty);go_wp2;go_ret;exact ⟨by rw [HEq.out,HF2.out];rfl,HB3.out⟩
     ·have h100i:¬ (100:Int)<(T4.size:Int):=by omega
      have HF2:Hid (serF name L=T4):=(by rw [HF.out,if_neg (by omega)]:serF name L=T4);go_wp2;go_ret;exact ⟨by rw [HEq.out,HF2.out];rfl,HB3.out⟩
def serO (name:ByteArray) (L:List ByteArray):ByteArray:=if 400<L.length then ByteArray.empty else serW name L
theorem mem_toL {s:ByteArray} {x:UInt8} (h:x∈toL s):∃ k,k<s.size∧bt s k=(x.toNat:Int):=by
 obtain ⟨k,hk,e⟩:=List.mem_iff_getElem.1 h;have hk2:k<s.size:=by rw [← toL_len];exact hk
 refine ⟨k,hk2,?_⟩;unfold bt;rw [dif_pos hk2,← e];simp [toL]
 rfl
theorem allB_at {s:ByteArray}:∀ {n k:Nat},allB s n=true→k<n→nmB (bt s k)=true
 | n+1,k,h,hk=>by
  unfold allB at h;obtain ⟨h1,h2⟩:=Bool.and_eq_true_iff.1 h;by_cases e:k=n
  ·subst e;exact h2
  ·exact allB_at h1 (by omega)
theorem allT_at {s:ByteArray}:∀ {n k:Nat},allT s n=true→k<n→tgB (bt s k)=true
 | n+1,k,h,hk=>by
  unfold allT at h;obtain ⟨h1,h2⟩:=Bool.and_eq_true_iff.1 h;by_cases e:k=n
  ·subst e;exact h2
  ·exact allT_at h1 (by omega)
theorem name_no {s:ByteArray} (h:nameB s=true):(123:UInt8) ∉ toL s:=fun hm=>by
 obtain ⟨k,hk,e⟩:=mem_toL hm;unfold nameB at h;have ha:=(Bool.and_eq_true_iff.1 h).2;have:=allB_at ha hk;rw [e] at this
 revert this;decide
theorem tag_no {s:ByteArray} (h:tagB s=true):(123:UInt8) ∉ toL s∧(44:UInt8) ∉ toL s:=by
 unfold tagB at h;have ha:=(Bool.and_eq_true_iff.1 h).2;refine ⟨fun hm=>?_,fun hm=>?_⟩ <;>
 ·obtain ⟨k,hk,e⟩:=mem_toL hm
  have:=allT_at ha hk;rw [e] at this
  revert this;decide
theorem tag_pos {s:ByteArray} (h:tagB s=true):1≤s.size:=by
 unfold tagB at h;simp only [Bool.and_eq_true,decide_eq_true_eq] at h;exact h.1.1
def SerIs (t name:ByteArray) (K:List ByteArray):Prop:=nameB name=true∧K.all tagB=true∧RiseT K∧K.length≤8∧t.size≤100∧t=serT name K
def serRP (t:ByteArray):Prop:=∃ name K,SerIs t name K
noncomputable def serRB (t:ByteArray):Bool:=@decide (serRP t) (Classical.propDecidable _)
theorem serRB_f {t:ByteArray} (h:¬ serRP t):serRB t=false:=@decide_eq_false _ (Classical.propDecidable _) h
theorem serRB_t {t:ByteArray} (h:serRP t):serRB t=true:=@decide_eq_true _ (Classical.propDecidable _) h
theorem serK_id {K:List ByteArray} (h:RiseT K):serK K=K:=riseT_one (serK_rise K) h (fun x=>mem_serK)
theorem serW_of {t name:ByteArray} {K:List ByteArray} (h:SerIs t name K):serW name K=t:=by
 obtain ⟨h1,h2,h3,h4,h5,h6⟩:=h;unfold serW serF;rw [if_pos ⟨h1,h2⟩,serK_id h3,← h6,if_neg (by omega)]
theorem of_serW {t name:ByteArray} {L:List ByteArray} (h:serW name L=t) (h0:0<t.size):serRP t:=by
 unfold serW at h
 split at h
 ·rename_i hc
  unfold serF at h
  split at h
  ·subst h;exact absurd h0 (by decide)
  ·rename_i hc2
   refine ⟨name,serK L,hc.1,List.all_eq_true.2 (fun x hx=>List.all_eq_true.1 hc.2 x (mem_serK.1 hx)),serK_rise L,by omega,by rw [← h];omega,h.symm⟩
 ·subst h;exact absurd h0 (by decide)
theorem serT_toL (name:ByteArray) (K:List ByteArray):toL (serT name K)=toL name ++ 123 :: (joinT K ++ [125]):=by
 unfold serT;rw [toL_mk];simp [headT]
theorem index_no {c:UInt8}:∀ {l:List UInt8},c ∉ l→Lib.index l [c]=-1
 | [],_=>by simp [Lib.index]
 | x :: l,h=>by
  have h1:¬ c=x:=fun e=>h (by rw [e];exact List.mem_cons_self);have h2:=index_no (l:=l) (fun m=>h (List.mem_cons_of_mem _ m));unfold Lib.index;rw [h2];simp [h1]
theorem index_at {c:UInt8}:∀ {p:List UInt8} {r:List UInt8},c ∉ p→Lib.index (p ++ c :: r) [c]=p.length
 | [],r,_=>by simp [Lib.index]
 | x :: p,r,h=>by
  have h1:¬ c=x:=fun e=>h (by rw [e];exact List.mem_cons_self);have h2:=index_at (p:=p) (r:=r) (fun m=>h (List.mem_cons_of_mem _ m));rw [List.cons_append];unfold Lib.index;rw [h2];simp [h1]
theorem cut_at {c:UInt8} {p r:List UInt8} (h:c ∉ p):Lib.cut (p ++ c :: r) [c]=(p,r,true):=by
 unfold Lib.cut;rw [index_at h,if_pos (by omega)];simp
theorem joinT_no {K:List ByteArray} (h:K.all tagB=true):(123:UInt8) ∉ joinT K:=by
 cases K with
 | nil=>simp [joinT,Lib.join]
 | cons y r=>
  have hall:=List.all_eq_true.1 h;unfold joinT;rw [List.map_cons,Lib.join_cons];intro hm;rcases List.mem_append.1 hm with hm | hm
  ·exact (tag_no (hall y List.mem_cons_self)).1 hm
  ·unfold Lib.joinTail at hm
   obtain ⟨l,hl,hx⟩:=List.mem_flatten.1 hm;obtain ⟨l2,hl2,rfl⟩:=List.mem_map.1 hl;obtain ⟨x,hxr,rfl⟩:=List.mem_map.1 hl2;rcases List.mem_append.1 hx with hx | hx
   ·revert hx;decide
   ·exact (tag_no (hall x (List.mem_cons_of_mem _ hxr))).1 hx
theorem joinT_pos {K:List ByteArray} (h:K.all tagB=true) (hne:K≠[]):joinT K≠[]:=by
 cases K with
 | nil=>exact absurd rfl hne
 | cons y r=>
  have h1:=tag_pos (List.all_eq_true.1 h y List.mem_cons_self);unfold joinT;rw [List.map_cons,Lib.join_cons];intro e;have:=congrArg List.length e;rw [List.length_append,toL_len,List.length_nil] at this;omega
theorem joinT_cons (y z:ByteArray) (r:List ByteArray):joinT (y :: z :: r)=toL y ++ 44 :: joinT (z :: r):=by
 unfold joinT;rw [List.map_cons,List.map_cons,Lib.join_cons,Lib.join_cons];simp [Lib.joinTail]
theorem splitK_join:∀ {K:List ByteArray} {n:Nat},K≠[]→(∀ x∈K,(44:UInt8) ∉ toL x)→K.length≤n+1→Lib.splitK [44] 0 n (joinT K)=K.map toL
 | [],n,h,_,_=>absurd rfl h
 | [y],n,_,hn,_=>by
  have hi:=index_no (hn y List.mem_cons_self);rw [joinT_one]
  cases n with
  | zero=>rfl
  | succ n=>unfold Lib.splitK;rw [hi];rfl
 | y :: z :: r,n,_,hn,hl=>by
  cases n with
  | zero=>simp at hl
  | succ n=>
   have hi:=index_at (r:=joinT (z :: r)) (hn y List.mem_cons_self);have ih:=splitK_join (K:=z :: r) (n:=n) (by simp) (fun x hx=>hn x (List.mem_cons_of_mem _ hx)) (by simp at hl ⊢; omega);rw [joinT_cons];unfold Lib.splitK;rw [hi,if_neg (by simp)];simp only [Int.toNat_natCast,Nat.add_zero,List.length_cons,List.length_nil];rw [List.take_left,show (toL y ++ 44 :: joinT (z :: r)).drop ((toL y).length+(0+1))=joinT (z :: r) by rw [← List.drop_drop,List.drop_left];rfl,ih]
   rfl
theorem count_join:∀ {K:List ByteArray} {f:Nat},K≠[]→(∀ x∈K,(44:UInt8) ∉ toL x)→K.length≤f→Lib.countFrom [44] f (joinT K)+1=K.length
 | [],f,h,_,_=>absurd rfl h
 | [y],f,_,hn,hl=>by
  have hi:=index_no (hn y List.mem_cons_self);rw [joinT_one]
  cases f with
  | zero=>simp at hl
  | succ f=>unfold Lib.countFrom;rw [hi];rfl
 | y :: z :: r,f,_,hn,hl=>by
  cases f with
  | zero=>simp at hl
  | succ f=>
   have hi:=index_at (r:=joinT (z :: r)) (hn y List.mem_cons_self);have ih:=count_join (K:=z :: r) (f:=f) (by simp) (fun x hx=>hn x (List.mem_cons_of_mem _ hx)) (by simp at hl ⊢; omega);rw [joinT_cons];unfold Lib.countFrom;rw [hi,if_neg (by simp)];simp only [Int.toNat_natCast,List.length_cons,List.length_nil];rw [show (toL y ++ 44 :: joinT (z :: r)).drop ((toL y).length+(0+1))=joinT (z :: r) by rw [← List.drop_drop,List.drop_left];rfl];simp only [List.length_cons] at ih;omega
theorem joinT_long:∀ (K:List ByteArray),K.all tagB=true→K.length≤(joinT K).length+1
 | [],_=>by simp
 | [y],_=>by simp
 | y :: z :: r,h=>by
  have ih:=joinT_long (z :: r) (by simp at h ⊢; exact ⟨h.2.1,h.2.2⟩);rw [joinT_cons];simp only [List.length_append,List.length_cons] at ih ⊢;omega
theorem splitB_join {K:List ByteArray} (h:K.all tagB=true) (hne:K≠[]):Lib.splitB ⟨#[44]⟩ 0 (Lib.countB ⟨(joinT K).toArray⟩ ⟨#[44]⟩) ⟨(joinT K).toArray⟩=K:=by
 have hn:∀ x∈K,(44:UInt8) ∉ toL x:=fun x hx=>(tag_no (List.all_eq_true.1 h x hx)).2
 have hc:Lib.countB ⟨(joinT K).toArray⟩ ⟨#[44]⟩+1=K.length:=by
  have e:Lib.countB ⟨(joinT K).toArray⟩ ⟨#[44]⟩=Lib.countFrom [44] ((joinT K).length+1) (joinT K):=by
   show Lib.count _ _=_
   unfold Lib.count;simp
  rw [e];exact count_join hne hn (joinT_long K h)
 have hd:=Lib.splitB_data ⟨#[44]⟩ 0 (Lib.countB ⟨(joinT K).toArray⟩ ⟨#[44]⟩) ⟨(joinT K).toArray⟩;have hs:=splitK_join (K:=K) (n:=Lib.countB ⟨(joinT K).toArray⟩ ⟨#[44]⟩) hne hn (by omega);have hd2:(Lib.splitB ⟨#[44]⟩ 0 (Lib.countB ⟨(joinT K).toArray⟩ ⟨#[44]⟩) ⟨(joinT K).toArray⟩).map toL=K.map toL:=hd.trans (by simpa using hs);exact (List.map_inj_right (fun a b e=>toL_inj e)).1 hd2
end Go.Proofs.YtmjogablacnlgaaGreatDoor
