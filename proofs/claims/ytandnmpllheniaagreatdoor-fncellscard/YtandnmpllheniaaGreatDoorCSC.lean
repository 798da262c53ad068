/-
 Parts.
-/
import Derived.Test.YtandnmpllheniaaGreatDoorCSB
import Derived.Lib.Split
import Derived.Lib.CountLaws
import Derived.Lib.SplitLaws
import Derived.Lib.Strings
set_option linter.all false
set_option maxHeartbeats 2000000
set_option maxRecDepth 10000
namespace Go.Proofs.YtandnmpllheniaaGreatDoor
open Go.ChangeShapes Go.WideShapes Go.ChangeAt Go.RowKit Go.PlainAid Go.Shelf Go.Sort
theorem sortsT (m:Nat):AnyZ.SortsIn Tryz.prog Tryz.sortedT_ren Fence.wide m:=
 ⟨fun blk off cap ss W hH hblk hsz=>callsIn_wide.2 (AnyM.slices_Sort_string Tryz.sortT blk off cap ss W hH hblk hsz),fun p cap W=>callsIn_wide.2 (AnyM.slices_Sort_string_none Tryz.sortT p cap W)⟩
theorem Qra (mb:Option Nat) (W:World):Calls Tryz.prog 160 #[.map mb] W fun e w'=>e=.returned (.func (.func 205) #[] #[.pointer (some ⟨W.heap.size,0,none⟩)])/\w'=W.alloc (.cells #[.map mb] 204):=
 callsIn_wide.1 (AnyZ.keys_in Tryz.keysT Fence.wide 5 trivial rfl mb W)
theorem QgD {w:World} {b n:Nat} {R:Value->Option (DataW Unit×List MemPlace)} {L:List ByteArray} (h:w.ownsMap Tryz.prog 9 R b n (setT L)):∃ es,setT L=.map es/\∀ p∈es,∃ x,p.1=Lit.string x:=by
 obtain ⟨es,e,hk⟩:=h.keysOf;exact ⟨es,e,fun p hp=>by obtain ⟨v,hv⟩:=hk p hp;obtain ⟨x,_,hx,_⟩:=Go.Maps.keyOf_str Tryz.underlying9 hv;exact ⟨x,hx⟩⟩
theorem QqH (K:List ByteArray):(K.map toL).map encStr=K.map Value.string:=by
 rw [List.map_map];refine List.map_congr_left (fun x _=>?_)
 show encStr (toL x)=.string x
 unfold encStr;rw [Qgv]
theorem Qnr {L:List ByteArray} (b nn g:Nat) (w:World) (hg:w.heap.size=g) (hown:w.ownsMap Tryz.prog 9 (unitElem (H:=Unit)) b nn (setT L)) (hl:L.length<=100000) :
  Calls Tryz.prog 159 #[.func (.func 205) #[] #[.pointer (some ⟨g,0,none⟩)]] (w.alloc (.cells #[.map (some b)] 204)) fun e w'=>∃ v,e=.returned v/\OwnT w' 0 v (Qeo L)/\Below w.heap.size w w':=by
 subst hg;have ad:=hown.lt;have hk:=QgD hown
 have ae:Go.Maps.size (setT L)<=100000:=by
  have h:=(QeG hk (Qfc L hk).symm.symm).2.2;have:=Qgq L;omega
 have ab:SeqGives Fence.wide 2 Tryz.prog 205 #[.pointer (some ⟨w.heap.size,0,none⟩)] encStr (fun ss=>ss.Perm (Go.strKeys (setT L))) (Go.Maps.size (setT L)) (w.alloc (.cells #[.map (some b)] 204)):=
  AnyZ.keys_gives (ρ:=Tryz.keysT_ren) { Tryz.keysT with } Fence.wide _ trivial rfl (by omega) w.heap.size b nn (setT L) _ (by simp) (by simp) (hown.alloc _)
 have hc:=callsIn_wide.1 (AnyZ.sorted_in Tryz.sortedT Fence.wide 5 trivial trivial trivial trivial rfl (by omega) (sortsT _) (enters_of Tryz.func204 (by kernel_rfl) rfl) 205 #[.pointer (some ⟨w.heap.size,0,none⟩)] trivial (enters_of Tryz.func205 (by kernel_rfl) rfl) _ (Go.Maps.size (setT L)) (by unfold maxLen;omega) (by omega) _ ab);refine hc.mono ?_;rintro e w' ⟨v,ss,rfl,hS,aa,ac,hb⟩;obtain ⟨h1,h2,_⟩:=QeG hk hS;refine ⟨v,rfl,?_,((Below.refl _ _).alloc (Nat.le_refl _) _).trans (hb.mono (by simp))⟩;have h1:ss.mergeSort (fun x y=>decide (x<=y))=(Qeo L).map toL:=h1;rw [h1,QqH,h2] at aa;exact QmN aa (ZZj _)
theorem QqR {w:World} {B m c:Nat} {ao:Option Addr} {K:List ByteArray} (hm:K.length=m) (ho:OwnT w B (.slice ao m c) K) (hl:m<=100000) (hu:∀ x∈K,x.size<=20) :
  Calls Tryz.prog 158 #[.slice ao m c,.string ⟨#[44]⟩] w fun e w'=>e=.returned (.string ⟨(QaT K).toArray⟩)/\Below w.heap.size w w':=by
 have hj:=QgQ hu;have ac:=ho;rcases ac.2 with ⟨e,h0⟩ | ⟨g,ae,ad,e,hB,hg,aa,_⟩
 ·cases e
  obtain rfl:K=[]:=List.eq_nil_of_length_eq_zero h0;exact (Tryz.strings_Join_none none 0 ⟨#[44]⟩ w).mono (fun e w' h=>⟨by rw [h.1];rfl,h.2 ▸ Below.refl _ _⟩)
 ·cases e
  refine (Tryz.strings_Join g 0 c K ⟨#[44]⟩ w (fun j x hx=>?_) (Array.getElem?_eq_some_iff.1 hg).1 (by omega) aa (by show (QaT K).length<=_;omega)).mono (fun e w' h=>⟨by rw [h.1];rfl,h.2⟩);have:=(QhL ho) (by have:=(ZZd.1 hx).1;omega);obtain ⟨b',ab,e',hc⟩:=this
  cases e'
  exact hc j x hx
end Go.Proofs.YtandnmpllheniaaGreatDoor
namespace Go.Proofs.YtandnmpllheniaaGreatDoor
open Go.ChangeShapes Go.WideShapes Go.ChangeAt Go.RowKit Go.PlainAid
theorem lawT:Go.Maps.Keyed Tryz.prog 9:=Go.Maps.string_keyed Tryz.underlying9
def Qeh (name:ByteArray) (L:List ByteArray):ByteArray:=if Qa3 name=true/\L.all QbS=true then Qeg name L else ByteArray.empty
theorem QpF {x:ByteArray} (h:QbS x=true):x.size<=20:=by
 unfold QbS at h;simp only [Bool.and_eq_true,decide_eq_true_eq] at h;exact h.1.2
theorem QdS {x:ByteArray} (h:Qa3 x=true):x.size<=40:=by
 unfold Qa3 at h;simp only [Bool.and_eq_true,decide_eq_true_eq] at h;exact h.1.1.2
theorem Qge {L:List ByteArray} (h:L.all QbS=true):∀ x∈L,x.size<=20:=fun x hx=>QpF (List.all_eq_true.1 h x hx)
theorem Qry {x:ByteArray} (h:x.size<=maxLen):Go.keyOf Tryz.prog 9 (.string x)=some (QmG x):=Go.WideMaps.keyOf_string_mk Tryz.underlying9 h
theorem Qhq {w:World} {ao:Option Addr} {L:List ByteArray} (name:ByteArray) (c n:Nat) (hnm:name.size<=maxLen) (hn:L.length=n) (hl:n<=20100) (hu:∀ u∈L,u.size<=maxLen) (hA:Qa6 w ao L) :
  Calls Tryz.prog 122 #[.string name,.slice ao n c] w fun e w'=>e=.returned (.string (Qeh name L))/\Below w.heap.size w w':=by
 have HA:=Qaa hA;have HN:=Qaa hn;have HU:=Qaa hu;have az:=Qaa hnm;have aP:=@run_makeMap Tryz.prog;clear hA hn hu hnm
 cases hnb:Qa3 name with
 | false=>
  have HE:Hid (Qeh name L=ByteArray.empty):=(by unfold Qeh;rw [if_neg (by rw [hnb];simp)]:Qeh name L=ByteArray.empty);go_enter Tryz.func122,Tryz.ntmps122;go_wp2_with (go_at_call 50;refine (Qdc _ _ az).mono ?_;rintro e w1 ⟨rfl,rfl⟩);go_ret;exact ⟨by rw [HE.out];rfl,Below.refl _ _⟩
 | true=>
  have aI:=QdS hnb;go_enter Tryz.func122,Tryz.ntmps122;go_wp2_with (go_at_call 50;refine (Qdc _ _ az).mono ?_;rintro e w1 ⟨rfl,ad⟩;obtain rfl:=ad.symm);have M0:=Qaa (World.ownsMap_made (H:=Unit) w Tryz.prog 9 unitElem)
  go_loopw [15] (fun i wr=>∃ (k:Nat),k<=n/\i=.int .i64 k/\Hid (wr.ownsMap Tryz.prog 9 (unitElem (H:=Unit)) w.heap.size k (setT (L.take k))/\(L.take k).all QbS=true)/\Hid (Below w.heap.size w wr)) (fun i wr=>n - (Go.RowKit.intOf i).toNat)
  case atStart=>exact ⟨0,Nat.zero_le _,rfl,⟨M0,by simp⟩,(Below.refl _ _).alloc (Nat.le_refl _) _⟩
  case round=>
   clear M0;obtain ⟨k,hk,rfl,HO,HB⟩:=hrel;by_cases aQ:k<n
   ·obtain ⟨b,aM,e,ac⟩:=HA.out (by have:=HN.out;omega)
    obtain ⟨y,hy⟩:∃ y,L[k]?=some y:=⟨L[k]'(by have:=HN.out;omega),ZZe _⟩;subst e;have aR:=Qab HB (ac k y hy);have HY:=Qaa hy;have HZ:=Qaa (HU.out y (ZZn hy));clear ac hy
    cases ht:QbS y with
    | false=>
     have HE:Hid (Qeh name L=ByteArray.empty):=(by unfold Qeh;rw [if_neg (by rw [Qqg HY.out ht];simp)]:Qeh name L=ByteArray.empty);go_wp2_with (go_at_call 123;refine (QdW _ _ HZ).mono ?_;rintro e w1 ⟨rfl,ad⟩;obtain rfl:=ad.symm);go_ret;exact ⟨by rw [HE.out];rfl,HB⟩
    | true=>
     have HE:Hid ((L.take (k+1)).all QbS=true):=(by rw [List.take_add_one,HY.out,List.all_append,HO.out.2];simp [ht]:(L.take (k+1)).all QbS=true);have HS:Hid (setT (L.take (k+1))=(setT (L.take k)).put (QmG y) (.agg [])):=(by rw [List.take_add_one,HY.out];exact QnF _ _:setT (L.take (k+1))=(setT (L.take k)).put (QmG y) (.agg []))
     go_wp2_with (first
      | (go_at_call 123;refine (QdW _ _ HZ).mono ?_;rintro e w1 ⟨rfl,ad⟩;obtain rfl:=ad.symm)
      | (at_mapUpdate;refine wpList_mapUpdate_own _ rfl _ _ _ 204 rfl 9 205 lawT Tryz.underlying204 _ w.heap.size k _ rfl HO.out.1 (by unfold maxLen;omega) _ _ _ rfl rfl (Qry HZ) _ [] unitElem_mk ?_;intro w1 ab aa;rw [<- HS.out] at ab;have aK:=Qaa ab;have aJ:=Qaa (HB.out.grown aa HB.out.size (fun j hj=>by cases hj;exact Nat.le_refl _));clear ab aa))
     go_roundw
     case rel=>exact ⟨k+1,by omega,by go_num,⟨aK,HE⟩,aJ⟩
     case measure=>simp [zI];omega
   ·have eL:L.take k=L:=List.take_of_length_le (by have:=HN.out;omega)
    rw [eL] at HO;clear eL;have HK:Hid (∀ x∈Qeo L,x.size<=20):=(fun x hx=>Qge HO.out.2 x (mem_serK.1 hx):∀ x∈Qeo L,x.size<=20);have ay:(Qeo L).length<=20100:=by have:=Qgq L;have:=HN.out;omega
    have av:=Qaa ay;have au:Hid (Qeh name L=Qeg name L):=(by unfold Qeh;rw [if_pos ⟨hnb,HO.out.2⟩]:Qeh name L=Qeg name L);clear ay;obtain ⟨T1,aj⟩:∃ T1:ByteArray,T1=⟨(toL name ++ [123]).toArray⟩:=⟨_,rfl⟩
    have aB:Op.stringOp .add name ⟨#[123]⟩=pure (.string T1):=by
     rw [QcM (x:=toL name) (y:=[123]) (Qgv name).symm rfl (by rw [QaC];simp;omega),aj]
    have aF:=QgQ HK;have aH:(QaT (Qeo L)).length<=422100:=by have:=av.out;omega
    obtain ⟨T2,an⟩:∃ T2:ByteArray,T2=⟨(QaT (Qeo L)).toArray⟩:=⟨_,rfl⟩;obtain ⟨T3,ak⟩:∃ T3:ByteArray,T3=⟨(Qdf name (Qeo L)).toArray⟩:=⟨_,rfl⟩
    have aA:Op.stringOp .add T1 T2=pure (.string T3):=by
     rw [QcM aj an (by simp [QaC];omega),ak];rfl
    obtain ⟨T4,ai⟩:∃ T4:ByteArray,T4=Qoy name (Qeo L):=⟨_,rfl⟩
    have ax:Op.stringOp .add T3 ⟨#[125]⟩=pure (.string T4):=by
     rw [QcM (y:=[125]) ak rfl (by simp [Qdf,QaC];omega),ai];rfl
    have aO:T4.size<=1000000:=by rw [ai,Qi4];omega
    obtain ⟨m,hm⟩:∃ m,(Qeo L).length=m:=⟨_,rfl⟩;have HF:Hid (Qeg name L=if 8<m∨100<T4.size then ByteArray.empty else T4):=(by unfold Qeg;rw [ai,hm]:Qeg name L=if 8<m∨100<T4.size then ByteArray.empty else T4);have aE:=Qaa an;have HM:=Qaa hm;have aN:m<=20100:=by have:=av.out;omega
    clear aj an ak ai hm aF aH;go_wp2_with fail;refine (Qra _ _).mono ?_;rintro e w1 ⟨rfl,ad⟩;obtain rfl:=ad;go_wp2_with fail;refine (Qnr w.heap.size k wr.heap.size wr rfl HO.out.1 (by have:=HN.out;omega)).mono ?_;rintro e w2 ⟨v2,rfl,o2,af⟩;obtain ⟨aL,c2,rfl⟩:=QlI o2;rw [HM.out] at o2 ⊢;have aw:=Qaa o2;have al:=Qaa (HB.out.trans (af.mono HB.out.size));have aC:=Qaa (HO.out.1.kept (row:=none) ⟨af.os,af.tape,af.output,af.size,fun j hj _=>af.block j hj⟩ (by simp));clear o2 af;go_wp2_with fail;refine (QqR HM aw (by omega) HK).mono ?_;rintro e w3 ⟨rfl,ae⟩;rw [<- aE.out];have ap:=Qaa (al.out.trans (ae.mono al.out.size));have aq:=Qaa (aC.out.kept (row:=none) ⟨ae.os,ae.tape,ae.output,ae.size,fun j hj _=>ae.block j hj⟩ (by simp));clear ae aw al aC;have aD:Go.Maps.size (setT L)=m:=by rw [<- HM.out];exact (QeG (QgD aq) (Qfc L (QgD aq))).2.2
    have ar:=aq.out.len Tryz.underlying204 3;rw [aD] at ar;clear aD;by_cases h8:8<m
    ·have aG:(8:Int)<(m:Int):=by omega
     have ah:Hid (Qeg name L=ByteArray.empty):=(by rw [HF.out,if_pos (.inl h8)]:Qeg name L=ByteArray.empty);go_wp2;go_ret;exact ⟨by rw [au.out,ah.out];rfl,ap⟩
    ·have aG:¬ (8:Int)<(m:Int):=by omega
     by_cases am:100<T4.size
     ·have ag:(100:Int)<(T4.size:Int):=by omega
      have ah:Hid (Qeg name L=ByteArray.empty):=(by rw [HF.out,if_pos (.inr am)]:Qeg name L=ByteArray.empty);go_wp2;go_ret;exact ⟨by rw [au.out,ah.out];rfl,ap⟩
     ·have ag:¬ (100:Int)<(T4.size:Int):=by omega
      have ah:Hid (Qeg name L=T4):=(by rw [HF.out,if_neg (by omega)]:Qeg name L=T4);go_wp2;go_ret;exact ⟨by rw [au.out,ah.out];rfl,ap⟩
def Qml (name:ByteArray) (L:List ByteArray):ByteArray:=if 400<L.length then ByteArray.empty else Qeh name L
theorem QiT {w:World} {ao:Option Addr} {L:List ByteArray} (name:ByteArray) (c n:Nat) (hnm:name.size<=maxLen) (hn:L.length=n) (hl:n<=1048576) (hu:∀ u∈L,u.size<=maxLen) (hA:Qa6 w ao L) :
  Calls Tryz.prog 120 #[.string name,.slice ao n c] w fun e w'=>e=.returned (.string (Qml name L))/\Below w.heap.size w w':=by
 have HN:=Qaa hn;have hz:name.size<=9223372036854775807:=hnm;clear hn;by_cases hb:20000<name.size
 ·have af:(20000:Int)<(name.size:Int):=by omega
  have ab:Qa3 name=false:=by
   cases h:Qa3 name with
   | false=>rfl
   | true=>have:=QdS h;omega
  have HE:Hid (Qml name L=ByteArray.empty):=(by unfold Qml;split;rfl;unfold Qeh;rw [if_neg (by rw [ab];simp)]:Qml name L=ByteArray.empty);clear ab;go_enter Tryz.func120,Tryz.ntmps120;go_wp2;go_ret;exact ⟨by rw [HE.out];rfl,Below.refl _ _⟩
 have af:¬ (20000:Int)<(name.size:Int):=by omega
 by_cases h4:400<n
 ·have ah:(400:Int)<(n:Int):=by omega
  have HE:Hid (Qml name L=ByteArray.empty):=(by unfold Qml;rw [if_pos (by rw [HN.out];exact h4)]:Qml name L=ByteArray.empty);go_enter Tryz.func120,Tryz.ntmps120;go_wp2;go_ret;exact ⟨by rw [HE.out];rfl,Below.refl _ _⟩
 ·have ah:¬ (400:Int)<(n:Int):=by omega
  have HE:Hid (Qml name L=Qeh name L):=(by unfold Qml;rw [if_neg (by rw [HN.out];exact h4)]:Qml name L=Qeh name L);have ae:n<=20100:=by omega
  cases ab:Qa3 name with
  | false=>
   have ac:Hid (Qeh name L=ByteArray.empty):=(by unfold Qeh;rw [if_neg (by rw [ab];simp)]:Qeh name L=ByteArray.empty);go_enter Tryz.func120,Tryz.ntmps120;go_wp2_with (go_at_call 89;refine (Qby _ _ hnm).mono ?_;rintro e w1 ⟨rfl,aa⟩;obtain rfl:=aa.symm);go_ret;exact ⟨by rw [HE.out,ac.out];rfl,Below.refl _ _⟩
  | true=>
   cases hal:L.all QbS with
   | false=>
    have ac:Hid (Qeh name L=ByteArray.empty):=(by unfold Qeh;rw [if_neg (by rw [hal];simp)]:Qeh name L=ByteArray.empty);go_enter Tryz.func120,Tryz.ntmps120
    go_wp2_with (first
     | (go_at_call 89;refine (Qby _ _ hnm).mono ?_;rintro e w1 ⟨rfl,aa⟩;obtain rfl:=aa.symm)
     | (go_at_call 146;refine (Qdd c n HN hl hu hA).mono ?_;rintro e w1 ⟨rfl,aa⟩;obtain rfl:=aa.symm))
    go_ret;exact ⟨by rw [HE.out,ac.out];rfl,Below.refl _ _⟩
   | true=>
    have ac:Hid (Qeh name L=Qeg name L):=(by unfold Qeh;rw [if_pos ⟨ab,hal⟩]:Qeh name L=Qeg name L);have ai:=QdS ab;have ag:=Qaa (Qge hal);go_enter Tryz.func120,Tryz.ntmps120
    go_wp2_with (first
     | (go_at_call 89;refine (Qby _ _ hnm).mono ?_;rintro e w1 ⟨rfl,aa⟩;obtain rfl:=aa.symm)
     | (go_at_call 146;refine (Qdd c n HN hl hu hA).mono ?_;rintro e w1 ⟨rfl,aa⟩;obtain rfl:=aa.symm)
     | (go_at_call 147;refine (Qdq name c n (by omega) HN ae ag hA).mono ?_;rintro e w2 ⟨rfl,ad⟩))
    go_ret;exact ⟨by rw [HE.out,ac.out];rfl,ad⟩
theorem QmS {s:ByteArray} {x:UInt8} (h:x∈toL s):∃ k,k<s.size/\bt s k=(x.toNat:Int):=by
 obtain ⟨k,hk,e⟩:=List.mem_iff_getElem.1 h;have aa:k<s.size:=by rw [<- QaC];exact hk
 refine ⟨k,aa,?_⟩;unfold bt;rw [dif_pos aa,<- e];simp [toL]
 rfl
theorem Qov {s:ByteArray}:∀ {n k:Nat},Qhk s n=true->k<n->nmB (bt s k)=true
 | n+1,k,h,hk=>by
  unfold Qhk at h;obtain ⟨h1,h2⟩:=Bool.and_eq_true_iff.1 h;by_cases e:k=n
  ·subst e;exact h2
  ·exact Qov h1 (by omega)
theorem QnW {s:ByteArray}:∀ {n k:Nat},Qhi s n=true->k<n->tgB (bt s k)=true
 | n+1,k,h,hk=>by
  unfold Qhi at h;obtain ⟨h1,h2⟩:=Bool.and_eq_true_iff.1 h;by_cases e:k=n
  ·subst e;exact h2
  ·exact QnW h1 (by omega)
theorem QnN {s:ByteArray} (h:Qa3 s=true):(123:UInt8) ∉ toL s:=fun hm=>by
 obtain ⟨k,hk,e⟩:=QmS hm;unfold Qa3 at h;have ha:=(Bool.and_eq_true_iff.1 h).2;have:=Qov ha hk;rw [e] at this
 revert this;decide
theorem QlB {s:ByteArray} (h:QbS s=true):(123:UInt8) ∉ toL s/\(44:UInt8) ∉ toL s:=by
 unfold QbS at h;have ha:=(Bool.and_eq_true_iff.1 h).2;refine ⟨fun hm=>?_,fun hm=>?_⟩ <;>
 ·obtain ⟨k,hk,e⟩:=QmS hm
  have:=QnW ha hk;rw [e] at this
  revert this;decide
theorem Qqp {s:ByteArray} (h:QbS s=true):1<=s.size:=by
 unfold QbS at h;simp only [Bool.and_eq_true,decide_eq_true_eq] at h;exact h.1.1
def Qj2 (t name:ByteArray) (K:List ByteArray):Prop:=Qa3 name=true/\K.all QbS=true/\Qgx K/\K.length<=8/\t.size<=100/\t=Qoy name K
def Qcj (t:ByteArray):Prop:=∃ name K,Qj2 t name K
noncomputable def Qbv (t:ByteArray):Bool:=@decide (Qcj t) (Classical.propDecidable _)
theorem Qcd {t:ByteArray} (h:¬ Qcj t):Qbv t=false:=@ZZg _ (Classical.propDecidable _) h
theorem QcU {t:ByteArray} (h:Qcj t):Qbv t=true:=@ZZh _ (Classical.propDecidable _) h
theorem Qrm {K:List ByteArray} (h:Qgx K):Qeo K=K:=QnK (Qfa K) h (fun x=>mem_serK)
theorem QnM {t name:ByteArray} {K:List ByteArray} (h:Qj2 t name K):Qeh name K=t:=by
 obtain ⟨h1,h2,h3,h4,h5,h6⟩:=h;unfold Qeh Qeg;rw [if_pos ⟨h1,h2⟩,Qrm h3,<- h6,if_neg (by omega)]
theorem Qm7 {t name:ByteArray} {L:List ByteArray} (h:Qeh name L=t) (h0:0<t.size):Qcj t:=by
 unfold Qeh at h
 split at h
 ·rename_i hc
  unfold Qeg at h
  split at h
  ·subst h;exact absurd h0 (by decide)
  ·rename_i aa
   refine ⟨name,Qeo L,hc.1,List.all_eq_true.2 (fun x hx=>List.all_eq_true.1 hc.2 x (mem_serK.1 hx)),Qfa L,by omega,by rw [<- h];omega,h.symm⟩
 ·subst h;exact absurd h0 (by decide)
theorem QkM (name:ByteArray) (K:List ByteArray):toL (Qoy name K)=toL name ++ 123 :: (QaT K ++ [125]):=by
 unfold Qoy;rw [QcD];simp [Qdf]
theorem Qin {c:UInt8}:∀ {l:List UInt8},c ∉ l->Lib.index l [c]=-1
 | [],_=>by simp [Lib.index]
 | x :: l,h=>by
  have h1:¬ c=x:=fun e=>h (by rw [e];exact List.mem_cons_self);have h2:=Qin (l:=l) (fun m=>h (ZZm _ m));unfold Lib.index;rw [h2];simp [h1]
theorem Qgo {c:UInt8}:∀ {p:List UInt8} {r:List UInt8},c ∉ p->Lib.index (p ++ c :: r) [c]=p.length
 | [],r,_=>by simp [Lib.index]
 | x :: p,r,h=>by
  have h1:¬ c=x:=fun e=>h (by rw [e];exact List.mem_cons_self);have h2:=Qgo (p:=p) (r:=r) (fun m=>h (ZZm _ m));rw [List.cons_append];unfold Lib.index;rw [h2];simp [h1]
theorem cut_at {c:UInt8} {p r:List UInt8} (h:c ∉ p):Lib.cut (p ++ c :: r) [c]=(p,r,true):=by
 unfold Lib.cut;rw [Qgo h,if_pos (by omega)];simp
theorem Qpa {K:List ByteArray} (h:K.all QbS=true):(123:UInt8) ∉ QaT K:=by
 cases K with
 | nil=>simp [QaT,Lib.join]
 | cons y r=>
  have aa:=List.all_eq_true.1 h;unfold QaT;rw [List.map_cons,Lib.join_cons];intro hm;rcases List.mem_append.1 hm with hm | hm
  ·exact (QlB (aa y List.mem_cons_self)).1 hm
  ·unfold Lib.joinTail at hm
   obtain ⟨l,hl,hx⟩:=List.mem_flatten.1 hm;obtain ⟨l2,ab,rfl⟩:=List.mem_map.1 hl;obtain ⟨x,ac,rfl⟩:=List.mem_map.1 ab;rcases List.mem_append.1 hx with hx | hx
   ·revert hx;decide
   ·exact (QlB (aa x (ZZm _ ac))).1 hx
theorem Qjp {K:List ByteArray} (h:K.all QbS=true) (hne:K≠[]):QaT K≠[]:=by
 cases K with
 | nil=>exact absurd rfl hne
 | cons y r=>
  have h1:=Qqp (List.all_eq_true.1 h y List.mem_cons_self);unfold QaT;rw [List.map_cons,Lib.join_cons];intro e;have:=congrArg List.length e;rw [List.length_append,QaC,List.length_nil] at this;omega
theorem QfI (y z:ByteArray) (r:List ByteArray):QaT (y :: z :: r)=toL y ++ 44 :: QaT (z :: r):=by
 unfold QaT;rw [List.map_cons,List.map_cons,Lib.join_cons,Lib.join_cons];simp [Lib.joinTail]
theorem QgL:∀ {K:List ByteArray} {n:Nat},K≠[]->(∀ x∈K,(44:UInt8) ∉ toL x)->K.length<=n+1->Lib.splitK [44] 0 n (QaT K)=K.map toL
 | [],n,h,_,_=>absurd rfl h
 | [y],n,_,hn,_=>by
  have hi:=Qin (hn y List.mem_cons_self);rw [QeS]
  cases n with
  | zero=>rfl
  | succ n=>unfold Lib.splitK;rw [hi];rfl
 | y :: z :: r,n,_,hn,hl=>by
  cases n with
  | zero=>simp at hl
  | succ n=>
   have hi:=Qgo (r:=QaT (z :: r)) (hn y List.mem_cons_self);have ih:=QgL (K:=z :: r) (n:=n) (by simp) (fun x hx=>hn x (List.mem_cons_of_mem _ hx)) (by simp at hl ⊢; omega);rw [QfI];unfold Lib.splitK;rw [hi,if_neg (by simp)];simp only [Int.toNat_natCast,Nat.add_zero,List.length_cons,List.length_nil];rw [List.take_left,show (toL y ++ 44 :: QaT (z :: r)).drop ((toL y).length+(0+1))=QaT (z :: r) by rw [<- List.drop_drop,List.drop_left];rfl,ih]
   rfl
theorem QhX:∀ {K:List ByteArray} {f:Nat},K≠[]->(∀ x∈K,(44:UInt8) ∉ toL x)->K.length<=f->Lib.countFrom [44] f (QaT K)+1=K.length
 | [],f,h,_,_=>absurd rfl h
 | [y],f,_,hn,hl=>by
  have hi:=Qin (hn y List.mem_cons_self);rw [QeS]
  cases f with
  | zero=>simp at hl
  | succ f=>unfold Lib.countFrom;rw [hi];rfl
 | y :: z :: r,f,_,hn,hl=>by
  cases f with
  | zero=>simp at hl
  | succ f=>
   have hi:=Qgo (r:=QaT (z :: r)) (hn y List.mem_cons_self);have ih:=QhX (K:=z :: r) (f:=f) (by simp) (fun x hx=>hn x (List.mem_cons_of_mem _ hx)) (by simp at hl ⊢; omega);rw [QfI];unfold Lib.countFrom;rw [hi,if_neg (by simp)];simp only [Int.toNat_natCast,List.length_cons,List.length_nil];rw [show (toL y ++ 44 :: QaT (z :: r)).drop ((toL y).length+(0+1))=QaT (z :: r) by rw [<- List.drop_drop,List.drop_left];rfl];simp only [List.length_cons] at ih;omega
theorem QhD:∀ (K:List ByteArray),K.all QbS=true->K.length<=(QaT K).length+1
 | [],_=>by simp
 | [y],_=>by simp
 | y :: z :: r,h=>by
  have ih:=QhD (z :: r) (by simp at h ⊢; exact ⟨h.2.1,h.2.2⟩);rw [QfI];simp only [List.length_append,List.length_cons] at ih ⊢;omega
theorem QjW {K:List ByteArray} (h:K.all QbS=true) (hne:K≠[]):Lib.splitB ⟨#[44]⟩ 0 (Lib.countB ⟨(QaT K).toArray⟩ ⟨#[44]⟩) ⟨(QaT K).toArray⟩=K:=by
 have hn:∀ x∈K,(44:UInt8) ∉ toL x:=fun x hx=>(QlB (List.all_eq_true.1 h x hx)).2
 have hc:Lib.countB ⟨(QaT K).toArray⟩ ⟨#[44]⟩+1=K.length:=by
  have e:Lib.countB ⟨(QaT K).toArray⟩ ⟨#[44]⟩=Lib.countFrom [44] ((QaT K).length+1) (QaT K):=by
   show Lib.count _ _=_
   unfold Lib.count;simp
  rw [e];exact QhX hne hn (QhD K h)
 have hd:=Lib.splitB_data ⟨#[44]⟩ 0 (Lib.countB ⟨(QaT K).toArray⟩ ⟨#[44]⟩) ⟨(QaT K).toArray⟩;have hs:=QgL (K:=K) (n:=Lib.countB ⟨(QaT K).toArray⟩ ⟨#[44]⟩) hne hn (by omega);have aa:(Lib.splitB ⟨#[44]⟩ 0 (Lib.countB ⟨(QaT K).toArray⟩ ⟨#[44]⟩) ⟨(QaT K).toArray⟩).map toL=K.map toL:=hd.trans (by simpa using hs);exact (List.map_inj_right (fun a b e=>QdR e)).1 aa
end Go.Proofs.YtandnmpllheniaaGreatDoor
