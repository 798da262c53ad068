/-
 Parts.
-/
import Derived.Test.YtlejlgldgafljaaGreatDoorVSA
import Derived.Test.YtlejlgldgafljaaGreatDoorVKF
import Derived.Test.YtlejlgldgafljaaGreatDoorVJK
import Derived.Sort.EveryDepth
import Derived.Lib.Split
import Derived.Lib.CountLaws
import Derived.Lib.SplitLaws
import Derived.Lib.Strings
set_option maxRecDepth 10000
set_option maxHeartbeats 2000000
set_option linter.all false
namespace Go.Proofs.YtlejlgldgafljaaGreatDoor
open Go.ChangeShapes Go.WideShapes Go.ChangeAt Go.RowKit Go.PlainAid Go.Shelf Tryz
open Go.Sort
theorem Qtq (m:Nat):AnyZ.SortsIn prog Tryz.sortedT_ren Fence.wide m:=
 ⟨fun blk off cap ss W hH hblk hsz=>callsIn_wide.2 (AnyM.slices_Sort_string Tryz.sortT blk off cap ss W hH hblk hsz),fun p cap W=>callsIn_wide.2 (AnyM.slices_Sort_string_none Tryz.sortT p cap W)⟩
theorem QuY (mb:Option Nat) (W:World):Calls prog 219 #[.map mb] W fun e w'=>e=.returned (.func (.func 238) #[] #[.pointer (some ⟨W.heap.size,0,none⟩)])/\w'=W.alloc (.cells #[.map mb] 250):=
 callsIn_wide.1 (AnyZ.keys_in Tryz.keysT Fence.wide 5 trivial rfl mb W)
variable {w:World}
variable {K L:List ByteArray}
theorem Qgr {b n:Nat} {R:Value->Option (DataW Unit×List MemPlace)} (h:w.ownsMap prog 9 R b n (QfY L)):∃ es,QfY L=.map es/\∀ p∈es,∃ x,p.1=Lit.string x:=by
 obtain ⟨es,e,hk⟩:=h.keysOf;exact ⟨es,e,fun p hp=>by obtain ⟨v,hv⟩:=hk p hp;obtain ⟨x,_,hx,_⟩:=Go.Maps.keyOf_str underlying9 hv;exact ⟨x,hx⟩⟩
theorem Qqc (K:List ByteArray):(K.map toL).map encStr=K.map Value.string:=by
 rw [List.map_map];refine List.map_congr_left (fun x _=>?_)
 show encStr (toL x)=.string x
 unfold encStr;rw [QfM]
theorem Qob (b nn g:Nat) (w:World) (hg:w.heap.size=g) (hown:w.ownsMap prog 9 (unitElem (H:=Unit)) b nn (QfY L)) (hl:L.length<=100000) :
  Calls prog 97 #[.func (.func 238) #[] #[.pointer (some ⟨g,0,none⟩)]] (w.alloc (.cells #[.map (some b)] 250)) fun e w'=>∃ v,e=.returned v/\OwnT w' 0 v (Qd6 L)/\Bw w w':=by
 subst hg;have ae:=hown.lt;have hk:=Qgr hown
 have ad:Go.Maps.size (QfY L)<=100000:=by
  have h:=(Qee hk (Qfb L hk).symm.symm).2.2;have:=Qf7 L;omega
 have ab:SeqGives Fence.wide 2 prog 238 #[.pointer (some ⟨w.heap.size,0,none⟩)] encStr (fun ss=>ss.Perm (Go.strKeys (QfY L))) (Go.Maps.size (QfY L)) (w.alloc (.cells #[.map (some b)] 250)):=
  AnyZ.keys_gives (ρ:=Tryz.keysT_ren) { Tryz.keysT with } Fence.wide _ trivial rfl (by omega) w.heap.size b nn (QfY L) _ (by simp) (by simp) (hown.alloc _)
 have hc:=callsIn_wide.1 (AnyZ.sorted_in Tryz.sortedT Fence.wide 5 trivial trivial trivial trivial rfl (by omega) (Qtq _) (enters_of func140 (by kernel_rfl) rfl) 238 #[.pointer (some ⟨w.heap.size,0,none⟩)] trivial (enters_of func238 (by kernel_rfl) rfl) _ (Go.Maps.size (QfY L)) (by unfold maxLen;omega) (by omega) _ ab);refine hc.mono ?_;rintro e w' ⟨v,ss,rfl,hS,aa,ac,hb⟩;obtain ⟨h1,h2,_⟩:=Qee hk hS;refine ⟨v,rfl,?_,((Below.refl _ _).alloc (Nat.le_refl _) _).trans (hb.mono (by simp))⟩;have h1:ss.mergeSort (fun x y=>decide (x<=y))=(Qd6 L).map toL:=h1;rw [h1,Qqc,h2] at aa;exact Qir aa (ZZj _)
variable {ao:Option Addr}
theorem Quy {B m c:Nat} (hm:K.length=m) (ho:OwnT w B (.slice ao m c) K) (hl:m<=100000) (hu:∀ x∈K,x.size<=20) :
  Calls prog 218 #[.slice ao m c,.string ⟨#[44]⟩] w fun e w'=>e=.returned (.string ⟨(QaQ K).toArray⟩)/\Bw w w':=by
 have hj:=QeY hu;have ab:=ho;rcases ab.2 with ⟨e,h0⟩ | ⟨g,ad,ae,e,hB,hg,aa,_⟩
 ·cases e
  obtain rfl:K=[]:=List.eq_nil_of_length_eq_zero h0;exact (Tryz.strings_Join_none none 0 ⟨#[44]⟩ w).mono (fun e w' h=>⟨by rw [h.1];rfl,h.2 ▸ Below.refl _ _⟩)
 ·cases e
  refine (Tryz.strings_Join g 0 c K ⟨#[44]⟩ w (fun j x hx=>?_) (Array.getElem?_eq_some_iff.1 hg).1 (by omega) aa (by show (QaQ K).length<=_;omega)).mono (fun e w' h=>⟨by rw [h.1];rfl,h.2⟩);have:=(QdM ho) (by have:=(ZZd.1 hx).1;omega);obtain ⟨b',ac,e',hc⟩:=this
  cases e'
  exact hc j x hx
theorem lawT:Go.Maps.Keyed prog 9:=Go.Maps.string_keyed underlying9
def Qcp (name:ByteArray) (L:List ByteArray):ByteArray:=if QaB name=true/\L.all Qbn=true then Qch name L else ByteArray.empty
variable {name s t x:ByteArray}
theorem QrY (h:Qbn x=true):x.size<=20:=by
 unfold Qbn at h;simp only [yB,decide_eq_true_eq] at h;exact h.1.2
theorem Qb3 (h:QaB x=true):x.size<=40:=by
 unfold QaB at h;simp only [yB,decide_eq_true_eq] at h;exact h.1.1.2
theorem QeD (h:L.all Qbn=true):∀ x∈L,x.size<=20:=fun x hx=>QrY (List.all_eq_true.1 h x hx)
theorem QtO (h:x.size<=maxLen):Go.keyOf prog 9 (.string x)=some (QcP x):=Go.WideMaps.keyOf_string_mk underlying9 h
theorem Qhq (name:ByteArray) (c n:Nat) (hnm:name.size<=maxLen) (hn:L.length=n) (hl:n<=20100) (hu:∀ u∈L,u.size<=maxLen) (hA:Qau w ao L) :
  Calls prog 204 #[.string name,.slice ao n c] w fun e w'=>e=.returned (.string (Qcp name L))/\Bw w w':=by
 have HA:=Qaa hA;have HN:=Qaa hn;have HU:=Qaa hu;have aw:=Qaa hnm;have aR:=@run_makeMap prog;clear hA hn hu hnm
 cases hnb:QaB name with
 | false=>
  have HE:Hid (Qcp name L=ByteArray.empty):=(by unfold Qcp;rw [if_neg (by rw [hnb];simp)]:Qcp name L=ByteArray.empty);go_enter func204,ntmps204;go_wp2_with (go_at_call 71;refine (Qa9 _ _ aw).mono ?_;rintro e w1 ⟨rfl,rfl⟩);go_ret;exact ⟨by rw [HE.out];rfl,Below.refl _ _⟩
 | true=>
  have aG:=Qb3 hnb;go_enter func204,ntmps204;go_wp2_with (go_at_call 71;refine (Qa9 _ _ aw).mono ?_;rintro e w1 ⟨rfl,ae⟩;obtain rfl:=ae.symm);have M0:=Qaa (World.ownsMap_made (H:=Unit) w prog 9 unitElem)
  go_loopw [15] (fun i wr=>∃ (k:Nat),k<=n/\i=.int .i64 k/\Hid (wr.ownsMap prog 9 (unitElem (H:=Unit)) w.heap.size k (QfY (L.take k))/\(L.take k).all Qbn=true)/\Hid (Bw w wr)) (fun i wr=>n - (Go.RowKit.intOf i).toNat)
  case atStart=>exact ⟨0,Nat.zero_le _,rfl,⟨M0,by simp⟩,(Below.refl _ _).alloc (Nat.le_refl _) _⟩
  case round=>
   clear M0;obtain ⟨k,hk,rfl,HO,HB⟩:=hrel;by_cases aO:k<n
   ·obtain ⟨b,aQ,e,ac⟩:=HA.out (by have:=HN.out;omega)
    obtain ⟨y,hy⟩:∃ y,L[k]?=some y:=⟨L[k]'(by have:=HN.out;omega),ZZe _⟩;subst e;have aP:=Qab HB (ac k y hy);have HY:=Qaa hy;have HZ:=Qaa (HU.out y (ZZn hy));clear ac hy
    cases ht:Qbn y with
    | false=>
     have HE:Hid (Qcp name L=ByteArray.empty):=(by unfold Qcp;rw [if_neg (by rw [QsO HY.out ht];simp)]:Qcp name L=ByteArray.empty);go_wp2_with (go_at_call 217;refine (QfH _ _ HZ).mono ?_;rintro e w1 ⟨rfl,ae⟩;obtain rfl:=ae.symm);go_ret;exact ⟨by rw [HE.out];rfl,HB⟩
    | true=>
     have HE:Hid ((L.take (k+1)).all Qbn=true):=(by rw [List.take_add_one,HY.out,List.all_append,HO.2];simp [ht]:(L.take (k+1)).all Qbn=true);have HS:Hid (QfY (L.take (k+1))=(QfY (L.take k)).put (QcP y) (.agg [])):=(by rw [List.take_add_one,HY.out];exact QpQ _ _:QfY (L.take (k+1))=(QfY (L.take k)).put (QcP y) (.agg []))
     go_wp2_with (first
      | (go_at_call 217;refine (QfH _ _ HZ).mono ?_;rintro e w1 ⟨rfl,ae⟩;obtain rfl:=ae.symm)
      | (at_mapUpdate;refine wpList_mapUpdate_own _ rfl _ _ _ 250 rfl 9 251 lawT underlying250 _ w.heap.size k _ rfl HO.1 (by unfold maxLen;omega) _ _ _ rfl rfl (QtO HZ) _ [] unitElem_mk ?_;intro w1 ab aa;rw [<- HS.out] at ab;have aK:=Qaa ab;have aE:=Qaa (HB.grown aa HB.size (fun j hj=>by cases hj;exact Nat.le_refl _));clear ab aa))
     go_roundw
     case rel=>exact ⟨k+1,by omega,by go_num,⟨aK,HE⟩,aE⟩
     case measure=>simp [zI];omega
   ·have eL:L.take k=L:=List.take_of_length_le (by have:=HN.out;omega)
    rw [eL] at HO;clear eL;have HK:Hid (∀ x∈Qd6 L,x.size<=20):=(fun x hx=>QeD HO.2 x (mem_serK.1 hx):∀ x∈Qd6 L,x.size<=20);have aD:(Qd6 L).length<=20100:=by have:=Qf7 L;have:=HN.out;omega
    have az:=Qaa aD;have ap:Hid (Qcp name L=Qch name L):=(by unfold Qcp;rw [if_pos ⟨hnb,HO.2⟩]:Qcp name L=Qch name L);clear aD;obtain ⟨T1,aj⟩:∃ T1:ByteArray,T1=⟨(toL name ++ [123]).toArray⟩:=⟨_,rfl⟩
    have aC:Op.stringOp .add name ⟨#[123]⟩=pure (.string T1):=by
     rw [QcG (x:=toL name) (y:=[123]) (QfM name).symm rfl (by rw [Qaq];simp;omega),aj]
    have aJ:=QeY HK;have aF:(QaQ (Qd6 L)).length<=422100:=by have:=az.out;omega
    obtain ⟨T2,ar⟩:∃ T2:ByteArray,T2=⟨(QaQ (Qd6 L)).toArray⟩:=⟨_,rfl⟩;obtain ⟨T3,an⟩:∃ T3:ByteArray,T3=⟨(QcY name (Qd6 L)).toArray⟩:=⟨_,rfl⟩
    have ay:Op.stringOp .add T1 T2=pure (.string T3):=by
     rw [QcG aj ar (by simp [Qaq];omega),an];rfl
    obtain ⟨T4,ai⟩:∃ T4:ByteArray,T4=QqW name (Qd6 L):=⟨_,rfl⟩
    have ax:Op.stringOp .add T3 ⟨#[125]⟩=pure (.string T4):=by
     rw [QcG (y:=[125]) an rfl (by simp [QcY,Qaq];omega),ai];rfl
    have aL:T4.size<=1000000:=by rw [ai,QkC];omega
    obtain ⟨m,hm⟩:∃ m,(Qd6 L).length=m:=⟨_,rfl⟩;have HF:Hid (Qch name L=if 8<m∨100<T4.size then ByteArray.empty else T4):=(by unfold Qch;rw [ai,hm]:Qch name L=if 8<m∨100<T4.size then ByteArray.empty else T4);have aI:=Qaa ar;have HM:=Qaa hm;have aN:m<=20100:=by have:=az.out;omega
    clear aj ar an ai hm aJ aF;go_wp2_with fail;refine (QuY _ _).mono ?_;rintro e w1 ⟨rfl,ae⟩;obtain rfl:=ae;go_wp2_with fail;refine (Qob w.heap.size k wr.heap.size wr rfl HO.1 (by have:=HN.out;omega)).mono ?_;rintro e w2 ⟨v2,rfl,o2,af⟩;obtain ⟨aM,c2,rfl⟩:=Qcj o2;rw [HM.out] at o2 ⊢;have av:=Qaa o2;have ak:=Qaa (HB.trans (af.mono HB.size));have aB:=Qaa (HO.1.kept (row:=none) ⟨af.os,af.tape,af.output,af.size,fun j hj _=>af.block j hj⟩ (by simp));clear o2 af;go_wp2_with fail;refine (Quy HM av (by omega) HK).mono ?_;rintro e w3 ⟨rfl,ad⟩;rw [<- aI.out];have al:=Qaa (ak.trans (ad.mono ak.size));have au:=Qaa (aB.kept (row:=none) ⟨ad.os,ad.tape,ad.output,ad.size,fun j hj _=>ad.block j hj⟩ (by simp));clear ad av ak aB;have aA:Go.Maps.size (QfY L)=m:=by rw [<- HM.out];exact (Qee (Qgr au) (Qfb L (Qgr au))).2.2
    have aq:=au.len underlying250 3;rw [aA] at aq;clear aA;by_cases h8:8<m
    ·have aH:(8:Int)<(m:Int):=by omega
     have ag:Hid (Qch name L=ByteArray.empty):=(by rw [HF.out,if_pos (.inl h8)]:Qch name L=ByteArray.empty);go_wp2;go_ret;exact ⟨by rw [ap.out,ag.out];rfl,al⟩
    ·have aH:¬ (8:Int)<(m:Int):=by omega
     by_cases am:100<T4.size
     ·have ah:(100:Int)<(T4.size:Int):=by omega
      have ag:Hid (Qch name L=ByteArray.empty):=(by rw [HF.out,if_pos (.inr am)]:Qch name L=ByteArray.empty);go_wp2;go_ret;exact ⟨by rw [ap.out,ag.out];rfl,al⟩
     ·have ah:¬ (100:Int)<(T4.size:Int):=by omega
      have ag:Hid (Qch name L=T4):=(by rw [HF.out,if_neg (by omega)]:Qch name L=T4);go_wp2;go_ret;exact ⟨by rw [ap.out,ag.out];rfl,al⟩
def QnD (name:ByteArray) (L:List ByteArray):ByteArray:=if 400<L.length then ByteArray.empty else Qcp name L
theorem QjO (name:ByteArray) (c n:Nat) (hnm:name.size<=maxLen) (hn:L.length=n) (hl:n<=1048576) (hu:∀ u∈L,u.size<=maxLen) (hA:Qau w ao L) :
  Calls prog 185 #[.string name,.slice ao n c] w fun e w'=>e=.returned (.string (QnD name L))/\Bw w w':=by
 have HN:=Qaa hn;have hz:name.size<=9223372036854775807:=hnm;clear hn;by_cases hb:20000<name.size
 ·have ag:(20000:Int)<(name.size:Int):=by omega
  have ab:QaB name=false:=by
   cases h:QaB name with
   | false=>rfl
   | true=>have:=Qb3 h;omega
  have HE:Hid (QnD name L=ByteArray.empty):=(by unfold QnD;split;rfl;unfold Qcp;rw [if_neg (by rw [ab];simp)]:QnD name L=ByteArray.empty);clear ab;go_enter func185,ntmps185;go_wp2;go_ret;exact ⟨by rw [HE.out];rfl,Below.refl _ _⟩
 have ag:¬ (20000:Int)<(name.size:Int):=by omega
 by_cases h4:400<n
 ·have ae:(400:Int)<(n:Int):=by omega
  have HE:Hid (QnD name L=ByteArray.empty):=(by unfold QnD;rw [if_pos (by rw [HN.out];exact h4)]:QnD name L=ByteArray.empty);go_enter func185,ntmps185;go_wp2;go_ret;exact ⟨by rw [HE.out];rfl,Below.refl _ _⟩
 ·have ae:¬ (400:Int)<(n:Int):=by omega
  have HE:Hid (QnD name L=Qcp name L):=(by unfold QnD;rw [if_neg (by rw [HN.out];exact h4)]:QnD name L=Qcp name L);have ad:n<=20100:=by omega
  cases ab:QaB name with
  | false=>
   have ac:Hid (Qcp name L=ByteArray.empty):=(by unfold Qcp;rw [if_neg (by rw [ab];simp)]:Qcp name L=ByteArray.empty);go_enter func185,ntmps185;go_wp2_with (go_at_call 44;refine (QaH _ _ hnm).mono ?_;rintro e w1 ⟨rfl,aa⟩;obtain rfl:=aa.symm);go_ret;exact ⟨by rw [HE.out,ac.out];rfl,Below.refl _ _⟩
  | true=>
   cases hal:L.all Qbn with
   | false=>
    have ac:Hid (Qcp name L=ByteArray.empty):=(by unfold Qcp;rw [if_neg (by rw [hal];simp)]:Qcp name L=ByteArray.empty);go_enter func185,ntmps185
    go_wp2_with (first
     | (go_at_call 44;refine (QaH _ _ hnm).mono ?_;rintro e w1 ⟨rfl,aa⟩;obtain rfl:=aa.symm)
     | (go_at_call 158;refine (QcD c n HN hl hu hA).mono ?_;rintro e w1 ⟨rfl,aa⟩;obtain rfl:=aa.symm))
    go_ret;exact ⟨by rw [HE.out,ac.out];rfl,Below.refl _ _⟩
   | true=>
    have ac:Hid (Qcp name L=Qch name L):=(by unfold Qcp;rw [if_pos ⟨ab,hal⟩]:Qcp name L=Qch name L);have ai:=Qb3 ab;have af:=Qaa (QeD hal);go_enter func185,ntmps185
    go_wp2_with (first
     | (go_at_call 44;refine (QaH _ _ hnm).mono ?_;rintro e w1 ⟨rfl,aa⟩;obtain rfl:=aa.symm)
     | (go_at_call 158;refine (QcD c n HN hl hu hA).mono ?_;rintro e w1 ⟨rfl,aa⟩;obtain rfl:=aa.symm)
     | (go_at_call 114;refine (QbA name c n (by omega) HN ad af hA).mono ?_;rintro e w2 ⟨rfl,ah⟩))
    go_ret;exact ⟨by rw [HE.out,ac.out];rfl,ah⟩
theorem Qn9 {x:UInt8} (h:x∈toL s):∃ k,k<s.size/\bt s k=(x.toNat:Int):=by
 obtain ⟨k,hk,e⟩:=List.mem_iff_getElem.1 h;have aa:k<s.size:=by rw [<- Qaq];exact hk
 refine ⟨k,aa,?_⟩;unfold bt;rw [dif_pos aa,<- e];simp [toL]
 rfl
theorem Qqs {s:ByteArray}:∀ {n k:Nat},Qhn s n=true->k<n->nmB (bt s k)=true
 | n+1,k,h,hk=>by
  unfold Qhn at h;obtain ⟨h1,h2⟩:=Bool.and_eq_true_iff.1 h;by_cases e:k=n
  ·subst e;exact h2
  ·exact Qqs h1 (by omega)
theorem QqF {s:ByteArray}:∀ {n k:Nat},Qho s n=true->k<n->tgB (bt s k)=true
 | n+1,k,h,hk=>by
  unfold Qho at h;obtain ⟨h1,h2⟩:=Bool.and_eq_true_iff.1 h;by_cases e:k=n
  ·subst e;exact h2
  ·exact QqF h1 (by omega)
theorem QoN (h:QaB s=true):(123:UInt8) ∉ toL s:=fun hm=>by
 obtain ⟨k,hk,e⟩:=Qn9 hm;unfold QaB at h;have ha:=(Bool.and_eq_true_iff.1 h).2;have:=Qqs ha hk;rw [e] at this
 revert this;decide
theorem QmI (h:Qbn s=true):(123:UInt8) ∉ toL s/\(44:UInt8) ∉ toL s:=by
 unfold Qbn at h;have ha:=(Bool.and_eq_true_iff.1 h).2;refine ⟨fun hm=>?_,fun hm=>?_⟩ <;>
 ·obtain ⟨k,hk,e⟩:=Qn9 hm
  have:=QqF ha hk;rw [e] at this
  revert this;decide
theorem Quc (h:Qbn s=true):1<=s.size:=by
 unfold Qbn at h;simp only [yB,decide_eq_true_eq] at h;exact h.1.1
def Qhr (t name:ByteArray) (K:List ByteArray):Prop:=QaB name=true/\K.all Qbn=true/\Qcd K/\K.length<=8/\t.size<=100/\t=QqW name K
def Qca (t:ByteArray):Prop:=∃ name K,Qhr t name K
noncomputable def Qbt (t:ByteArray):Bool:=@decide (Qca t) (Classical.propDecidable _)
theorem QbY (h:¬ Qca t):Qbt t=false:=@ZZg _ (Classical.propDecidable _) h
theorem QcC (h:Qca t):Qbt t=true:=@ZZh _ (Classical.propDecidable _) h
theorem QuB (h:Qcd K):Qd6 K=K:=Qp2 (QeA K) h (fun x=>mem_serK)
theorem Qqg (h:Qhr t name K):Qcp name K=t:=by
 obtain ⟨h1,h2,h3,h4,h5,h6⟩:=h;unfold Qcp Qch;rw [if_pos ⟨h1,h2⟩,QuB h3,<- h6,if_neg (by omega)]
theorem QlG (h:Qcp name L=t) (h0:0<t.size):Qca t:=by
 unfold Qcp at h
 split at h
 ·rename_i hc
  unfold Qch at h
  split at h
  ·subst h;exact absurd h0 (by decide)
  ·rename_i aa
   refine ⟨name,Qd6 L,hc.1,List.all_eq_true.2 (fun x hx=>List.all_eq_true.1 hc.2 x (mem_serK.1 hx)),QeA L,by omega,by rw [<- h];omega,h.symm⟩
 ·subst h;exact absurd h0 (by decide)
theorem QlR (name:ByteArray) (K:List ByteArray):toL (QqW name K)=toL name ++ 123 :: (QaQ K ++ [125]):=by
 unfold QqW;rw [Qba];simp [QcY]
theorem QeM {c:UInt8}:∀ {l:List UInt8},c ∉ l->Lib.index l [c]=-1
 | [],_=>by simp [Lib.index]
 | x :: l,h=>by
  have h1:¬ c=x:=fun e=>h (by rw [e];exact List.mem_cons_self);have h2:=QeM (l:=l) (fun m=>h (ZZm _ m));unfold Lib.index;rw [h2];simp [h1]
theorem QdP {c:UInt8}:∀ {p:List UInt8} {r:List UInt8},c ∉ p->Lib.index (p ++ c :: r) [c]=p.length
 | [],r,_=>by simp [Lib.index]
 | x :: p,r,h=>by
  have h1:¬ c=x:=fun e=>h (by rw [e];exact List.mem_cons_self);have h2:=QdP (p:=p) (r:=r) (fun m=>h (ZZm _ m));rw [List.cons_append];unfold Lib.index;rw [h2];simp [h1]
theorem QpY {c:UInt8} {p r:List UInt8} (h:c ∉ p):Lib.cut (p ++ c :: r) [c]=(p,r,true):=by
 unfold Lib.cut;rw [QdP h,if_pos (by omega)];simp
theorem Qst (h:K.all Qbn=true):(123:UInt8) ∉ QaQ K:=by
 cases K with
 | nil=>simp [QaQ,Lib.join]
 | cons y r=>
  have aa:=List.all_eq_true.1 h;unfold QaQ;rw [List.map_cons,Lib.join_cons];intro hm;rcases List.mem_append.1 hm with hm | hm
  ·exact (QmI (aa y List.mem_cons_self)).1 hm
  ·unfold Lib.joinTail at hm
   obtain ⟨l,hl,hx⟩:=List.mem_flatten.1 hm;obtain ⟨l2,ac,rfl⟩:=List.mem_map.1 hl;obtain ⟨x,ab,rfl⟩:=List.mem_map.1 ac;rcases List.mem_append.1 hx with hx | hx
   ·revert hx;decide
   ·exact (QmI (aa x (ZZm _ ab))).1 hx
theorem Qku (h:K.all Qbn=true) (hne:K≠[]):QaQ K≠[]:=by
 cases K with
 | nil=>exact absurd rfl hne
 | cons y r=>
  have h1:=Quc (List.all_eq_true.1 h y List.mem_cons_self);unfold QaQ;rw [List.map_cons,Lib.join_cons];intro e;have:=congrArg List.length e;rw [List.length_append,Qaq,List.length_nil] at this;omega
theorem QfB (y z:ByteArray) (r:List ByteArray):QaQ (y :: z :: r)=toL y ++ 44 :: QaQ (z :: r):=by
 unfold QaQ;rw [List.map_cons,List.map_cons,Lib.join_cons,Lib.join_cons];simp [Lib.joinTail]
theorem QgL:∀ {K:List ByteArray} {n:Nat},K≠[]->(∀ x∈K,(44:UInt8) ∉ toL x)->K.length<=n+1->Lib.splitK [44] 0 n (QaQ K)=K.map toL
 | [],n,h,_,_=>absurd rfl h
 | [y],n,_,hn,_=>by
  have hi:=QeM (hn y List.mem_cons_self);rw [Qdm]
  cases n with
  | zero=>rfl
  | succ n=>unfold Lib.splitK;rw [hi];rfl
 | y :: z :: r,n,_,hn,hl=>by
  cases n with
  | zero=>simp at hl
  | succ n=>
   have hi:=QdP (r:=QaQ (z :: r)) (hn y List.mem_cons_self);have ih:=QgL (K:=z :: r) (n:=n) (by simp) (fun x hx=>hn x (List.mem_cons_of_mem _ hx)) (by simp at hl ⊢; omega);rw [QfB];unfold Lib.splitK;rw [hi,if_neg (by simp)];simp only [Int.toNat_natCast,Nat.add_zero,List.length_cons,List.length_nil];rw [List.take_left,show (toL y ++ 44 :: QaQ (z :: r)).drop ((toL y).length+(0+1))=QaQ (z :: r) by rw [<- List.drop_drop,List.drop_left];rfl,ih]
   rfl
theorem Qh6:∀ {K:List ByteArray} {f:Nat},K≠[]->(∀ x∈K,(44:UInt8) ∉ toL x)->K.length<=f->Lib.countFrom [44] f (QaQ K)+1=K.length
 | [],f,h,_,_=>absurd rfl h
 | [y],f,_,hn,hl=>by
  have hi:=QeM (hn y List.mem_cons_self);rw [Qdm]
  cases f with
  | zero=>simp at hl
  | succ f=>unfold Lib.countFrom;rw [hi];rfl
 | y :: z :: r,f,_,hn,hl=>by
  cases f with
  | zero=>simp at hl
  | succ f=>
   have hi:=QdP (r:=QaQ (z :: r)) (hn y List.mem_cons_self);have ih:=Qh6 (K:=z :: r) (f:=f) (by simp) (fun x hx=>hn x (List.mem_cons_of_mem _ hx)) (by simp at hl ⊢; omega);rw [QfB];unfold Lib.countFrom;rw [hi,if_neg (by simp)];simp only [Int.toNat_natCast,List.length_cons,List.length_nil];rw [show (toL y ++ 44 :: QaQ (z :: r)).drop ((toL y).length+(0+1))=QaQ (z :: r) by rw [<- List.drop_drop,List.drop_left];rfl];simp only [List.length_cons] at ih;omega
theorem Qh8:∀ (K:List ByteArray),K.all Qbn=true->K.length<=(QaQ K).length+1
 | [],_=>by simp
 | [y],_=>by simp
 | y :: z :: r,h=>by
  have ih:=Qh8 (z :: r) (by simp at h ⊢; exact ⟨h.2.1,h.2.2⟩);rw [QfB];simp only [List.length_append,List.length_cons] at ih ⊢;omega
theorem Qlk (h:K.all Qbn=true) (hne:K≠[]):Lib.splitB ⟨#[44]⟩ 0 (Lib.countB ⟨(QaQ K).toArray⟩ ⟨#[44]⟩) ⟨(QaQ K).toArray⟩=K:=by
 have hn:∀ x∈K,(44:UInt8) ∉ toL x:=fun x hx=>(QmI (List.all_eq_true.1 h x hx)).2
 have hc:Lib.countB ⟨(QaQ K).toArray⟩ ⟨#[44]⟩+1=K.length:=by
  have e:Lib.countB ⟨(QaQ K).toArray⟩ ⟨#[44]⟩=Lib.countFrom [44] ((QaQ K).length+1) (QaQ K):=by
   show Lib.count _ _=_
   unfold Lib.count;simp
  rw [e];exact Qh6 hne hn (Qh8 K h)
 have hd:=Lib.splitB_data ⟨#[44]⟩ 0 (Lib.countB ⟨(QaQ K).toArray⟩ ⟨#[44]⟩) ⟨(QaQ K).toArray⟩;have hs:=QgL (K:=K) (n:=Lib.countB ⟨(QaQ K).toArray⟩ ⟨#[44]⟩) hne hn (by omega);have aa:(Lib.splitB ⟨#[44]⟩ 0 (Lib.countB ⟨(QaQ K).toArray⟩ ⟨#[44]⟩) ⟨(QaQ K).toArray⟩).map toL=K.map toL:=hd.trans (by simpa using hs);exact (List.map_inj_right (fun a b e=>Qbc e)).1 aa
end Go.Proofs.YtlejlgldgafljaaGreatDoor
