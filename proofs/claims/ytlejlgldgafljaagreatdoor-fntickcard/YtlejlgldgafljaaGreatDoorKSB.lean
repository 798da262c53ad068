/-
 Parts.
-/
import Derived.Test.YtlejlgldgafljaaGreatDoorKSA
import Derived.Test.YtlejlgldgafljaaGreatDoorKKF
import Derived.Test.YtlejlgldgafljaaGreatDoorKJK
import Derived.Sort.EveryDepth
import Derived.Lib.Split
import Derived.Lib.CountLaws
import Derived.Lib.SplitLaws
import Derived.Lib.Strings
set_option maxRecDepth 10000
set_option maxHeartbeats 2000000
set_option linter.all false
namespace Go.Proofs.YtlejlgldgafljaaGreatDoor
open Go.ChangeShapes Go.WideShapes Go.ChangeAt Go.RowKit Go.PlainAid Go.Shelf Go.Sort Tryz
theorem Qsm (m:Nat):AnyZ.SortsIn prog Tryz.sortedT_ren Fence.wide m:=
 ⟨fun blk off cap ss W hH hblk hsz=>callsIn_wide.2 (AnyM.slices_Sort_string Tryz.sortT blk off cap ss W hH hblk hsz),fun p cap W=>callsIn_wide.2 (AnyM.slices_Sort_string_none Tryz.sortT p cap W)⟩
theorem QtA (mb:Option Nat) (W:World):Calls prog 219 #[.map mb] W fun e w'=>e=.returned (.func (.func 238) #[] #[.pointer (some ⟨W.heap.size,0,none⟩)])/\w'=W.alloc (.cells #[.map mb] 250):=
 callsIn_wide.1 (AnyZ.keys_in Tryz.keysT Fence.wide 5 trivial rfl mb W)
variable {w:World}
variable {K L:List ByteArray}
theorem Qgq {b n:Nat} {R:Value->Option (DataW Unit×List MemPlace)} (h:w.ownsMap prog 9 R b n (QfE L)):∃ es,QfE L=.map es/\∀ p∈es,∃ x,p.1=Lit.string x:=by
 obtain ⟨es,e,hk⟩:=h.keysOf;exact ⟨es,e,fun p hp=>by obtain ⟨v,hv⟩:=hk p hp;obtain ⟨x,_,hx,_⟩:=Go.Maps.keyOf_str underlying9 hv;exact ⟨x,hx⟩⟩
theorem QoF (K:List ByteArray):(K.map toL).map encStr=K.map Value.string:=by
 rw [List.map_map];refine List.map_congr_left (fun x _=>?_)
 show encStr (toL x)=.string x
 unfold encStr;rw [Qfw]
theorem Qpd (b nn g:Nat) (w:World) (hg:w.heap.size=g) (hown:w.ownsMap prog 9 (unitElem (H:=Unit)) b nn (QfE L)) (hl:L.length<=100000) :
  Calls prog 97 #[.func (.func 238) #[] #[.pointer (some ⟨g,0,none⟩)]] (w.alloc (.cells #[.map (some b)] 250)) fun e w'=>∃ v,e=.returned v/\OwnT w' 0 v (QdS L)/\Below w.heap.size w w':=by
 subst hg;have ad:=hown.lt;have hk:=Qgq hown
 have ae:Go.Maps.size (QfE L)<=100000:=by
  have h:=(Qea hk (Qep L hk).symm.symm).2.2;have:=QfR L;omega
 have ab:SeqGives Fence.wide 2 prog 238 #[.pointer (some ⟨w.heap.size,0,none⟩)] encStr (fun ss=>ss.Perm (Go.strKeys (QfE L))) (Go.Maps.size (QfE L)) (w.alloc (.cells #[.map (some b)] 250)):=
  AnyZ.keys_gives (ρ:=Tryz.keysT_ren) { Tryz.keysT with } Fence.wide _ trivial rfl (by omega) w.heap.size b nn (QfE L) _ (by simp) (by simp) (hown.alloc _)
 have hc:=callsIn_wide.1 (AnyZ.sorted_in Tryz.sortedT Fence.wide 5 trivial trivial trivial trivial rfl (by omega) (Qsm _) (enters_of func140 (by kernel_rfl) rfl) 238 #[.pointer (some ⟨w.heap.size,0,none⟩)] trivial (enters_of func238 (by kernel_rfl) rfl) _ (Go.Maps.size (QfE L)) (by unfold maxLen;omega) (by omega) _ ab);refine hc.mono ?_;rintro e w' ⟨v,ss,rfl,hS,aa,ac,hb⟩;obtain ⟨h1,h2,_⟩:=Qea hk hS;refine ⟨v,rfl,?_,((Below.refl _ _).alloc (Nat.le_refl _) _).trans (hb.mono (by simp))⟩;have h1:ss.mergeSort (fun x y=>decide (x<=y))=(QdS L).map toL:=h1;rw [h1,QoF,h2] at aa;exact Qih aa (ZZj _)
variable {ao:Option Addr}
theorem Qth {B m c:Nat} (hm:K.length=m) (ho:OwnT w B (.slice ao m c) K) (hl:m<=100000) (hu:∀ x∈K,x.size<=20) :
  Calls prog 218 #[.slice ao m c,.string ⟨#[44]⟩] w fun e w'=>e=.returned (.string ⟨(QaM K).toArray⟩)/\Below w.heap.size w w':=by
 have hj:=QeC hu;have ac:=ho;rcases ac.2 with ⟨e,h0⟩ | ⟨g,ae,ad,e,hB,hg,aa,_⟩
 ·cases e
  obtain rfl:K=[]:=List.eq_nil_of_length_eq_zero h0;exact (Tryz.strings_Join_none none 0 ⟨#[44]⟩ w).mono (fun e w' h=>⟨by rw [h.1];rfl,h.2 ▸ Below.refl _ _⟩)
 ·cases e
  refine (Tryz.strings_Join g 0 c K ⟨#[44]⟩ w (fun j x hx=>?_) (Array.getElem?_eq_some_iff.1 hg).1 (by omega) aa (by show (QaM K).length<=_;omega)).mono (fun e w' h=>⟨by rw [h.1];rfl,h.2⟩);have:=(QdI ho) (by have:=(ZZd.1 hx).1;omega);obtain ⟨b',ab,e',hc⟩:=this
  cases e'
  exact hc j x hx
theorem lawT:Go.Maps.Keyed prog 9:=Go.Maps.string_keyed underlying9
def Qce (name:ByteArray) (L:List ByteArray):ByteArray:=if QaE name=true/\L.all Qbk=true then Qb2 name L else ByteArray.empty
variable {name s t x:ByteArray}
theorem Qp6 (h:Qbk x=true):x.size<=20:=by
 unfold Qbk at h;simp only [Bool.and_eq_true,decide_eq_true_eq] at h;exact h.1.2
theorem QcG (h:QaE x=true):x.size<=40:=by
 unfold QaE at h;simp only [Bool.and_eq_true,decide_eq_true_eq] at h;exact h.1.1.2
theorem QeN (h:L.all Qbk=true):∀ x∈L,x.size<=20:=fun x hx=>Qp6 (List.all_eq_true.1 h x hx)
theorem Qty (h:x.size<=maxLen):Go.keyOf prog 9 (.string x)=some (Qey x):=Go.WideMaps.keyOf_string_mk underlying9 h
theorem Qg3 (name:ByteArray) (c n:Nat) (hnm:name.size<=maxLen) (hn:L.length=n) (hl:n<=20100) (hu:∀ u∈L,u.size<=maxLen) (hA:Qas w ao L) :
  Calls prog 204 #[.string name,.slice ao n c] w fun e w'=>e=.returned (.string (Qce name L))/\Below w.heap.size w w':=by
 have HA:=Qaa hA;have HN:=Qaa hn;have HU:=Qaa hu;have aD:=Qaa hnm;have aP:=@run_makeMap prog;clear hA hn hu hnm
 cases hnb:QaE name with
 | false=>
  have HE:Hid (Qce name L=ByteArray.empty):=(by unfold Qce;rw [if_neg (by rw [hnb];simp)]:Qce name L=ByteArray.empty);go_enter func204,ntmps204;go_wp2_with (go_at_call 71;refine (Qbg _ _ aD).mono ?_;rintro e w1 ⟨rfl,rfl⟩);go_ret;exact ⟨by rw [HE.out];rfl,Below.refl _ _⟩
 | true=>
  have aE:=QcG hnb;go_enter func204,ntmps204;go_wp2_with (go_at_call 71;refine (Qbg _ _ aD).mono ?_;rintro e w1 ⟨rfl,ae⟩;obtain rfl:=ae.symm);have M0:=Qaa (World.ownsMap_made (H:=Unit) w prog 9 unitElem)
  go_loopw [15] (fun i wr=>∃ (k:Nat),k<=n/\i=.int .i64 k/\Hid (wr.ownsMap prog 9 (unitElem (H:=Unit)) w.heap.size k (QfE (L.take k))/\(L.take k).all Qbk=true)/\Hid (Below w.heap.size w wr)) (fun i wr=>n - (Go.RowKit.intOf i).toNat)
  case atStart=>exact ⟨0,Nat.zero_le _,rfl,⟨M0,by simp⟩,(Below.refl _ _).alloc (Nat.le_refl _) _⟩
  case round=>
   clear M0;obtain ⟨k,hk,rfl,HO,HB⟩:=hrel;by_cases aQ:k<n
   ·obtain ⟨b,aR,e,ac⟩:=HA.out (by have:=HN.out;omega)
    obtain ⟨y,hy⟩:∃ y,L[k]?=some y:=⟨L[k]'(by have:=HN.out;omega),ZZe _⟩;subst e;have aN:=Qab HB (ac k y hy);have HY:=Qaa hy;have HZ:=Qaa (HU.out y (ZZn hy));clear ac hy
    cases ht:Qbk y with
    | false=>
     have HE:Hid (Qce name L=ByteArray.empty):=(by unfold Qce;rw [if_neg (by rw [Qsk HY.out ht];simp)]:Qce name L=ByteArray.empty);go_wp2_with (go_at_call 217;refine (Qfm _ _ HZ).mono ?_;rintro e w1 ⟨rfl,ae⟩;obtain rfl:=ae.symm);go_ret;exact ⟨by rw [HE.out];rfl,HB⟩
    | true=>
     have HE:Hid ((L.take (k+1)).all Qbk=true):=(by rw [List.take_add_one,HY.out,List.all_append,HO.out.2];simp [ht]:(L.take (k+1)).all Qbk=true);have HS:Hid (QfE (L.take (k+1))=(QfE (L.take k)).put (Qey y) (.agg [])):=(by rw [List.take_add_one,HY.out];exact QoI _ _:QfE (L.take (k+1))=(QfE (L.take k)).put (Qey y) (.agg []))
     go_wp2_with (first
      | (go_at_call 217;refine (Qfm _ _ HZ).mono ?_;rintro e w1 ⟨rfl,ae⟩;obtain rfl:=ae.symm)
      | (at_mapUpdate;refine wpList_mapUpdate_own _ rfl _ _ _ 250 rfl 9 251 lawT underlying250 _ w.heap.size k _ rfl HO.out.1 (by unfold maxLen;omega) _ _ _ rfl rfl (Qty HZ) _ [] unitElem_mk ?_;intro w1 aa ab;rw [<- HS.out] at aa;have aH:=Qaa aa;have aK:=Qaa (HB.out.grown ab HB.out.size (fun j hj=>by cases hj;exact Nat.le_refl _));clear aa ab))
     go_roundw
     case rel=>exact ⟨k+1,by omega,by go_num,⟨aH,HE⟩,aK⟩
     case measure=>simp [zI];omega
   ·have eL:L.take k=L:=List.take_of_length_le (by have:=HN.out;omega)
    rw [eL] at HO;clear eL;have HK:Hid (∀ x∈QdS L,x.size<=20):=(fun x hx=>QeN HO.out.2 x (mem_serK.1 hx):∀ x∈QdS L,x.size<=20);have aB:(QdS L).length<=20100:=by have:=QfR L;have:=HN.out;omega
    have ay:=Qaa aB;have aq:Hid (Qce name L=Qb2 name L):=(by unfold Qce;rw [if_pos ⟨hnb,HO.out.2⟩]:Qce name L=Qb2 name L);clear aB;obtain ⟨T1,al⟩:∃ T1:ByteArray,T1=⟨(toL name ++ [123]).toArray⟩:=⟨_,rfl⟩
    have ax:Op.stringOp .add name ⟨#[123]⟩=pure (.string T1):=by
     rw [Qcq (x:=toL name) (y:=[123]) (Qfw name).symm rfl (by rw [Qaq];simp;omega),al]
    have aI:=QeC HK;have aG:(QaM (QdS L)).length<=422100:=by have:=ay.out;omega
    obtain ⟨T2,ak⟩:∃ T2:ByteArray,T2=⟨(QaM (QdS L)).toArray⟩:=⟨_,rfl⟩;obtain ⟨T3,ap⟩:∃ T3:ByteArray,T3=⟨(QcT name (QdS L)).toArray⟩:=⟨_,rfl⟩
    have aw:Op.stringOp .add T1 T2=pure (.string T3):=by
     rw [Qcq al ak (by simp [Qaq];omega),ap];rfl
    obtain ⟨T4,ai⟩:∃ T4:ByteArray,T4=QpV name (QdS L):=⟨_,rfl⟩
    have aA:Op.stringOp .add T3 ⟨#[125]⟩=pure (.string T4):=by
     rw [Qcq (y:=[125]) ap rfl (by simp [QcT,Qaq];omega),ai];rfl
    have aO:T4.size<=1000000:=by rw [ai,Qjw];omega
    obtain ⟨m,hm⟩:∃ m,(QdS L).length=m:=⟨_,rfl⟩;have HF:Hid (Qb2 name L=if 8<m∨100<T4.size then ByteArray.empty else T4):=(by unfold Qb2;rw [ai,hm]:Qb2 name L=if 8<m∨100<T4.size then ByteArray.empty else T4);have aJ:=Qaa ak;have HM:=Qaa hm;have aL:m<=20100:=by have:=ay.out;omega
    clear al ak ap ai hm aI aG;go_wp2_with fail;refine (QtA _ _).mono ?_;rintro e w1 ⟨rfl,ae⟩;obtain rfl:=ae;go_wp2_with fail;refine (Qpd w.heap.size k wr.heap.size wr rfl HO.out.1 (by have:=HN.out;omega)).mono ?_;rintro e w2 ⟨v2,rfl,o2,af⟩;obtain ⟨aM,c2,rfl⟩:=QdJ o2;rw [HM.out] at o2 ⊢;have av:=Qaa o2;have an:=Qaa (HB.out.trans (af.mono HB.out.size));have aC:=Qaa (HO.out.1.kept (row:=none) ⟨af.os,af.tape,af.output,af.size,fun j hj _=>af.block j hj⟩ (by simp));clear o2 af;go_wp2_with fail;refine (Qth HM av (by omega) HK).mono ?_;rintro e w3 ⟨rfl,ad⟩;rw [<- aJ.out];have au:=Qaa (an.out.trans (ad.mono an.out.size));have am:=Qaa (aC.out.kept (row:=none) ⟨ad.os,ad.tape,ad.output,ad.size,fun j hj _=>ad.block j hj⟩ (by simp));clear ad av an aC;have az:Go.Maps.size (QfE L)=m:=by rw [<- HM.out];exact (Qea (Qgq am) (Qep L (Qgq am))).2.2
    have aj:=am.out.len underlying250 3;rw [az] at aj;clear az;by_cases h8:8<m
    ·have aF:(8:Int)<(m:Int):=by omega
     have ag:Hid (Qb2 name L=ByteArray.empty):=(by rw [HF.out,if_pos (.inl h8)]:Qb2 name L=ByteArray.empty);go_wp2;go_ret;exact ⟨by rw [aq.out,ag.out];rfl,au⟩
    ·have aF:¬ (8:Int)<(m:Int):=by omega
     by_cases ar:100<T4.size
     ·have ah:(100:Int)<(T4.size:Int):=by omega
      have ag:Hid (Qb2 name L=ByteArray.empty):=(by rw [HF.out,if_pos (.inr ar)]:Qb2 name L=ByteArray.empty);go_wp2;go_ret;exact ⟨by rw [aq.out,ag.out];rfl,au⟩
     ·have ah:¬ (100:Int)<(T4.size:Int):=by omega
      have ag:Hid (Qb2 name L=T4):=(by rw [HF.out,if_neg (by omega)]:Qb2 name L=T4);go_wp2;go_ret;exact ⟨by rw [aq.out,ag.out];rfl,au⟩
def Qmy (name:ByteArray) (L:List ByteArray):ByteArray:=if 400<L.length then ByteArray.empty else Qce name L
theorem QjT (name:ByteArray) (c n:Nat) (hnm:name.size<=maxLen) (hn:L.length=n) (hl:n<=1048576) (hu:∀ u∈L,u.size<=maxLen) (hA:Qas w ao L) :
  Calls prog 185 #[.string name,.slice ao n c] w fun e w'=>e=.returned (.string (Qmy name L))/\Below w.heap.size w w':=by
 have HN:=Qaa hn;have hz:name.size<=9223372036854775807:=hnm;clear hn;by_cases hb:20000<name.size
 ·have af:(20000:Int)<(name.size:Int):=by omega
  have ab:QaE name=false:=by
   cases h:QaE name with
   | false=>rfl
   | true=>have:=QcG h;omega
  have HE:Hid (Qmy name L=ByteArray.empty):=(by unfold Qmy;split;rfl;unfold Qce;rw [if_neg (by rw [ab];simp)]:Qmy name L=ByteArray.empty);clear ab;go_enter func185,ntmps185;go_wp2;go_ret;exact ⟨by rw [HE.out];rfl,Below.refl _ _⟩
 have af:¬ (20000:Int)<(name.size:Int):=by omega
 by_cases h4:400<n
 ·have ae:(400:Int)<(n:Int):=by omega
  have HE:Hid (Qmy name L=ByteArray.empty):=(by unfold Qmy;rw [if_pos (by rw [HN.out];exact h4)]:Qmy name L=ByteArray.empty);go_enter func185,ntmps185;go_wp2;go_ret;exact ⟨by rw [HE.out];rfl,Below.refl _ _⟩
 ·have ae:¬ (400:Int)<(n:Int):=by omega
  have HE:Hid (Qmy name L=Qce name L):=(by unfold Qmy;rw [if_neg (by rw [HN.out];exact h4)]:Qmy name L=Qce name L);have ah:n<=20100:=by omega
  cases ab:QaE name with
  | false=>
   have ac:Hid (Qce name L=ByteArray.empty):=(by unfold Qce;rw [if_neg (by rw [ab];simp)]:Qce name L=ByteArray.empty);go_enter func185,ntmps185;go_wp2_with (go_at_call 44;refine (QaI _ _ hnm).mono ?_;rintro e w1 ⟨rfl,aa⟩;obtain rfl:=aa.symm);go_ret;exact ⟨by rw [HE.out,ac.out];rfl,Below.refl _ _⟩
  | true=>
   cases hal:L.all Qbk with
   | false=>
    have ac:Hid (Qce name L=ByteArray.empty):=(by unfold Qce;rw [if_neg (by rw [hal];simp)]:Qce name L=ByteArray.empty);go_enter func185,ntmps185
    go_wp2_with (first
     | (go_at_call 44;refine (QaI _ _ hnm).mono ?_;rintro e w1 ⟨rfl,aa⟩;obtain rfl:=aa.symm)
     | (go_at_call 158;refine (Qcm c n HN hl hu hA).mono ?_;rintro e w1 ⟨rfl,aa⟩;obtain rfl:=aa.symm))
    go_ret;exact ⟨by rw [HE.out,ac.out];rfl,Below.refl _ _⟩
   | true=>
    have ac:Hid (Qce name L=Qb2 name L):=(by unfold Qce;rw [if_pos ⟨ab,hal⟩]:Qce name L=Qb2 name L);have ai:=QcG ab;have ag:=Qaa (QeN hal);go_enter func185,ntmps185
    go_wp2_with (first
     | (go_at_call 44;refine (QaI _ _ hnm).mono ?_;rintro e w1 ⟨rfl,aa⟩;obtain rfl:=aa.symm)
     | (go_at_call 158;refine (Qcm c n HN hl hu hA).mono ?_;rintro e w1 ⟨rfl,aa⟩;obtain rfl:=aa.symm)
     | (go_at_call 114;refine (Qbu name c n (by omega) HN ah ag hA).mono ?_;rintro e w2 ⟨rfl,ad⟩))
    go_ret;exact ⟨by rw [HE.out,ac.out];rfl,ad⟩
theorem Qom {x:UInt8} (h:x∈toL s):∃ k,k<s.size/\bt s k=(x.toNat:Int):=by
 obtain ⟨k,hk,e⟩:=List.mem_iff_getElem.1 h;have aa:k<s.size:=by rw [<- Qaq];exact hk
 refine ⟨k,aa,?_⟩;unfold bt;rw [dif_pos aa,<- e];simp [toL]
 rfl
theorem QnG {s:ByteArray}:∀ {n k:Nat},QgV s n=true->k<n->nmB (bt s k)=true
 | n+1,k,h,hk=>by
  unfold QgV at h;obtain ⟨h1,h2⟩:=Bool.and_eq_true_iff.1 h;by_cases e:k=n
  ·subst e;exact h2
  ·exact QnG h1 (by omega)
theorem Qot {s:ByteArray}:∀ {n k:Nat},QgU s n=true->k<n->tgB (bt s k)=true
 | n+1,k,h,hk=>by
  unfold QgU at h;obtain ⟨h1,h2⟩:=Bool.and_eq_true_iff.1 h;by_cases e:k=n
  ·subst e;exact h2
  ·exact Qot h1 (by omega)
theorem QnN (h:QaE s=true):(123:UInt8) ∉ toL s:=fun hm=>by
 obtain ⟨k,hk,e⟩:=Qom hm;unfold QaE at h;have ha:=(Bool.and_eq_true_iff.1 h).2;have:=QnG ha hk;rw [e] at this
 revert this;decide
theorem QlY (h:Qbk s=true):(123:UInt8) ∉ toL s/\(44:UInt8) ∉ toL s:=by
 unfold Qbk at h;have ha:=(Bool.and_eq_true_iff.1 h).2;refine ⟨fun hm=>?_,fun hm=>?_⟩ <;>
 ·obtain ⟨k,hk,e⟩:=Qom hm
  have:=Qot ha hk;rw [e] at this
  revert this;decide
theorem QsW (h:Qbk s=true):1<=s.size:=by
 unfold Qbk at h;simp only [Bool.and_eq_true,decide_eq_true_eq] at h;exact h.1.1
def Qg7 (t name:ByteArray) (K:List ByteArray):Prop:=QaE name=true/\K.all Qbk=true/\QdP K/\K.length<=8/\t.size<=100/\t=QpV name K
def QbW (t:ByteArray):Prop:=∃ name K,Qg7 t name K
noncomputable def Qbn (t:ByteArray):Bool:=@decide (QbW t) (Classical.propDecidable _)
theorem QbO (h:¬ QbW t):Qbn t=false:=@ZZg _ (Classical.propDecidable _) h
theorem Qch (h:QbW t):Qbn t=true:=@ZZh _ (Classical.propDecidable _) h
theorem QsO (h:QdP K):QdS K=K:=Qnk (Qev K) h (fun x=>mem_serK)
theorem QoS (h:Qg7 t name K):Qce name K=t:=by
 obtain ⟨h1,h2,h3,h4,h5,h6⟩:=h;unfold Qce Qb2;rw [if_pos ⟨h1,h2⟩,QsO h3,<- h6,if_neg (by omega)]
theorem Qke (h:Qce name L=t) (h0:0<t.size):QbW t:=by
 unfold Qce at h
 split at h
 ·rename_i hc
  unfold Qb2 at h
  split at h
  ·subst h;exact absurd h0 (by decide)
  ·rename_i aa
   refine ⟨name,QdS L,hc.1,List.all_eq_true.2 (fun x hx=>List.all_eq_true.1 hc.2 x (mem_serK.1 hx)),Qev L,by omega,by rw [<- h];omega,h.symm⟩
 ·subst h;exact absurd h0 (by decide)
theorem Ql3 (name:ByteArray) (K:List ByteArray):toL (QpV name K)=toL name ++ 123 :: (QaM K ++ [125]):=by
 unfold QpV;rw [Qa8];simp [QcT]
theorem Qeu {c:UInt8}:∀ {l:List UInt8},c ∉ l->Lib.index l [c]=-1
 | [],_=>by simp [Lib.index]
 | x :: l,h=>by
  have h1:¬ c=x:=fun e=>h (by rw [e];exact List.mem_cons_self);have h2:=Qeu (l:=l) (fun m=>h (ZZm _ m));unfold Lib.index;rw [h2];simp [h1]
theorem Qdy {c:UInt8}:∀ {p:List UInt8} {r:List UInt8},c ∉ p->Lib.index (p ++ c :: r) [c]=p.length
 | [],r,_=>by simp [Lib.index]
 | x :: p,r,h=>by
  have h1:¬ c=x:=fun e=>h (by rw [e];exact List.mem_cons_self);have h2:=Qdy (p:=p) (r:=r) (fun m=>h (ZZm _ m));rw [List.cons_append];unfold Lib.index;rw [h2];simp [h1]
theorem Qnw {c:UInt8} {p r:List UInt8} (h:c ∉ p):Lib.cut (p ++ c :: r) [c]=(p,r,true):=by
 unfold Lib.cut;rw [Qdy h,if_pos (by omega)];simp
theorem Qp1 (h:K.all Qbk=true):(123:UInt8) ∉ QaM K:=by
 cases K with
 | nil=>simp [QaM,Lib.join]
 | cons y r=>
  have aa:=List.all_eq_true.1 h;unfold QaM;rw [List.map_cons,Lib.join_cons];intro hm;rcases List.mem_append.1 hm with hm | hm
  ·exact (QlY (aa y List.mem_cons_self)).1 hm
  ·unfold Lib.joinTail at hm
   obtain ⟨l,hl,hx⟩:=List.mem_flatten.1 hm;obtain ⟨l2,ac,rfl⟩:=List.mem_map.1 hl;obtain ⟨x,ab,rfl⟩:=List.mem_map.1 ac;rcases List.mem_append.1 hx with hx | hx
   ·revert hx;decide
   ·exact (QlY (aa x (ZZm _ ab))).1 hx
theorem QjL (h:K.all Qbk=true) (hne:K≠[]):QaM K≠[]:=by
 cases K with
 | nil=>exact absurd rfl hne
 | cons y r=>
  have h1:=QsW (List.all_eq_true.1 h y List.mem_cons_self);unfold QaM;rw [List.map_cons,Lib.join_cons];intro e;have:=congrArg List.length e;rw [List.length_append,Qaq,List.length_nil] at this;omega
theorem QeW (y z:ByteArray) (r:List ByteArray):QaM (y :: z :: r)=toL y ++ 44 :: QaM (z :: r):=by
 unfold QaM;rw [List.map_cons,List.map_cons,Lib.join_cons,Lib.join_cons];simp [Lib.joinTail]
theorem QgI:∀ {K:List ByteArray} {n:Nat},K≠[]->(∀ x∈K,(44:UInt8) ∉ toL x)->K.length<=n+1->Lib.splitK [44] 0 n (QaM K)=K.map toL
 | [],n,h,_,_=>absurd rfl h
 | [y],n,_,hn,_=>by
  have hi:=Qeu (hn y List.mem_cons_self);rw [Qda]
  cases n with
  | zero=>rfl
  | succ n=>unfold Lib.splitK;rw [hi];rfl
 | y :: z :: r,n,_,hn,hl=>by
  cases n with
  | zero=>simp at hl
  | succ n=>
   have hi:=Qdy (r:=QaM (z :: r)) (hn y List.mem_cons_self);have ih:=QgI (K:=z :: r) (n:=n) (by simp) (fun x hx=>hn x (List.mem_cons_of_mem _ hx)) (by simp at hl ⊢; omega);rw [QeW];unfold Lib.splitK;rw [hi,if_neg (by simp)];simp only [Int.toNat_natCast,Nat.add_zero,List.length_cons,List.length_nil];rw [List.take_left,show (toL y ++ 44 :: QaM (z :: r)).drop ((toL y).length+(0+1))=QaM (z :: r) by rw [<- List.drop_drop,List.drop_left];rfl,ih]
   rfl
theorem QhM:∀ {K:List ByteArray} {f:Nat},K≠[]->(∀ x∈K,(44:UInt8) ∉ toL x)->K.length<=f->Lib.countFrom [44] f (QaM K)+1=K.length
 | [],f,h,_,_=>absurd rfl h
 | [y],f,_,hn,hl=>by
  have hi:=Qeu (hn y List.mem_cons_self);rw [Qda]
  cases f with
  | zero=>simp at hl
  | succ f=>unfold Lib.countFrom;rw [hi];rfl
 | y :: z :: r,f,_,hn,hl=>by
  cases f with
  | zero=>simp at hl
  | succ f=>
   have hi:=Qdy (r:=QaM (z :: r)) (hn y List.mem_cons_self);have ih:=QhM (K:=z :: r) (f:=f) (by simp) (fun x hx=>hn x (List.mem_cons_of_mem _ hx)) (by simp at hl ⊢; omega);rw [QeW];unfold Lib.countFrom;rw [hi,if_neg (by simp)];simp only [Int.toNat_natCast,List.length_cons,List.length_nil];rw [show (toL y ++ 44 :: QaM (z :: r)).drop ((toL y).length+(0+1))=QaM (z :: r) by rw [<- List.drop_drop,List.drop_left];rfl];simp only [List.length_cons] at ih;omega
theorem Qhh:∀ (K:List ByteArray),K.all Qbk=true->K.length<=(QaM K).length+1
 | [],_=>by simp
 | [y],_=>by simp
 | y :: z :: r,h=>by
  have ih:=Qhh (z :: r) (by simp at h ⊢; exact ⟨h.2.1,h.2.2⟩);rw [QeW];simp only [List.length_append,List.length_cons] at ih ⊢;omega
theorem Qkw (h:K.all Qbk=true) (hne:K≠[]):Lib.splitB ⟨#[44]⟩ 0 (Lib.countB ⟨(QaM K).toArray⟩ ⟨#[44]⟩) ⟨(QaM K).toArray⟩=K:=by
 have hn:∀ x∈K,(44:UInt8) ∉ toL x:=fun x hx=>(QlY (List.all_eq_true.1 h x hx)).2
 have hc:Lib.countB ⟨(QaM K).toArray⟩ ⟨#[44]⟩+1=K.length:=by
  have e:Lib.countB ⟨(QaM K).toArray⟩ ⟨#[44]⟩=Lib.countFrom [44] ((QaM K).length+1) (QaM K):=by
   show Lib.count _ _=_
   unfold Lib.count;simp
  rw [e];exact QhM hne hn (Qhh K h)
 have hd:=Lib.splitB_data ⟨#[44]⟩ 0 (Lib.countB ⟨(QaM K).toArray⟩ ⟨#[44]⟩) ⟨(QaM K).toArray⟩;have hs:=QgI (K:=K) (n:=Lib.countB ⟨(QaM K).toArray⟩ ⟨#[44]⟩) hne hn (by omega);have aa:(Lib.splitB ⟨#[44]⟩ 0 (Lib.countB ⟨(QaM K).toArray⟩ ⟨#[44]⟩) ⟨(QaM K).toArray⟩).map toL=K.map toL:=hd.trans (by simpa using hs);exact (List.map_inj_right (fun a b e=>Qa5 e)).1 aa
end Go.Proofs.YtlejlgldgafljaaGreatDoor
