/-
 The program's series: the tags stand in a map, and are told in order.
-/
import Derived.Test.YthchmdmncmioiaaGreatDoorZSB
import Derived.Lib.Split
import Derived.Lib.CountLaws
import Derived.Lib.SplitLaws
import Derived.Lib.Strings
set_option maxHeartbeats 2000000
namespace Go.Proofs.YthchmdmncmioiaaGreatDoor
set_option linter.unusedVariables false
set_option linter.unusedSimpArgs false
open Go.ChangeShapes Go.WideShapes Go.ChangeAt Go.RowKit Go.PlainAid Go.Shelf Go.Sort
set_option maxRecDepth 10000
theorem sortsT (m:Nat):AnyZ.SortsIn Tryz.prog Tryz.sortedT_ren Fence.wide m:=
 ⟨fun blk off cap ss W hH hblk hsz=>callsIn_wide.2 (AnyM.slices_Sort_string Tryz.sortT blk off cap ss W hH hblk hsz),fun p cap W=>callsIn_wide.2 (AnyM.slices_Sort_string_none Tryz.sortT p cap W)⟩
theorem QqL (mb:Option Nat) (W:World):Calls Tryz.prog 160 #[.map mb] W fun e w'=>e=.returned (.func (.func 205) #[] #[.pointer (some ⟨W.heap.size,0,none⟩)])/\w'=W.alloc (.cells #[.map mb] 204):=
 callsIn_wide.1 (AnyZ.keys_in Tryz.keysT Fence.wide 5 trivial rfl mb W)
theorem Qgv {w:World} {b n:Nat} {R:Value->Option (DataW Unit×List MemPlace)} {L:List ByteArray} (h:w.ownsMap Tryz.prog 9 R b n (setT L)):∃ es,setT L=.map es/\∀ p∈es,∃ x,p.1=Lit.string x:=by
 obtain ⟨es,e,hk⟩:=h.keysOf;exact ⟨es,e,fun p hp=>by obtain ⟨v,hv⟩:=hk p hp;obtain ⟨x,_,hx,_⟩:=Go.Maps.keyOf_str Tryz.underlying9 hv;exact ⟨x,hx⟩⟩
theorem QpR (K:List ByteArray):(K.map toL).map encStr=K.map Value.string:=by
 rw [List.map_map];refine List.map_congr_left (fun x _=>?_)
 show encStr (toL x)=.string x
 unfold encStr;rw [Qgl]
theorem QmR {L:List ByteArray} (b nn g:Nat) (w:World) (hg:w.heap.size=g) (hown:w.ownsMap Tryz.prog 9 (unitElem (H:=Unit)) b nn (setT L)) (hl:L.length<=100000) :
  Calls Tryz.prog 159 #[.func (.func 205) #[] #[.pointer (some ⟨g,0,none⟩)]] (w.alloc (.cells #[.map (some b)] 204)) fun e w'=>∃ v,e=.returned v/\OwnT w' 0 v (QdS L)/\Below w.heap.size w w':=by
 subst hg;have hbl:=hown.lt;have hk:=Qgv hown
 have hsz:Go.Maps.size (setT L)<=100000:=by
  have h:=(Qd9 hk (QeC L hk).symm.symm).2.2;have:=QfN L;omega
 have hseq:SeqGives Fence.wide 2 Tryz.prog 205 #[.pointer (some ⟨w.heap.size,0,none⟩)] encStr (fun ss=>ss.Perm (Go.strKeys (setT L))) (Go.Maps.size (setT L)) (w.alloc (.cells #[.map (some b)] 204)):=
  AnyZ.keys_gives (ρ:=Tryz.keysT_ren) { Tryz.keysT with } Fence.wide _ trivial rfl (by omega) w.heap.size b nn (setT L) _ (by simp) (by simp) (hown.alloc _)
 have hc:=callsIn_wide.1 (AnyZ.sorted_in Tryz.sortedT Fence.wide 5 trivial trivial trivial trivial rfl (by omega) (sortsT _) (enters_of Tryz.func204 (by kernel_rfl) rfl) 205 #[.pointer (some ⟨w.heap.size,0,none⟩)] trivial (enters_of Tryz.func205 (by kernel_rfl) rfl) _ (Go.Maps.size (setT L)) (by unfold maxLen;omega) (by omega) _ hseq);refine hc.mono ?_;rintro e w' ⟨v,ss,rfl,hS,hrow,hnil,hb⟩;obtain ⟨h1,h2,_⟩:=Qd9 hk hS;refine ⟨v,rfl,?_,((Below.refl _ _).alloc (Nat.le_refl _) _).trans (hb.mono (by simp))⟩;have h1:ss.mergeSort (fun x y=>decide (x<=y))=(QdS L).map toL:=h1;rw [h1,QpR,h2] at hrow;exact Qnc hrow (ZZj _)
theorem Qqm {w:World} {B m c:Nat} {ao:Option Addr} {K:List ByteArray} (hm:K.length=m) (ho:OwnT w B (.slice ao m c) K) (hl:m<=100000) (hu:∀ x∈K,x.size<=20) :
  Calls Tryz.prog 158 #[.slice ao m c,.string ⟨#[44]⟩] w fun e w'=>e=.returned (.string ⟨(QaO K).toArray⟩)/\Below w.heap.size w w':=by
 have hj:=Qgm hu;have ho2:=ho;rcases ho2.2 with ⟨e,h0⟩ | ⟨g,cap,cur,e,hB,hg,hnc,_⟩
 ·cases e
  obtain rfl:K=[]:=List.eq_nil_of_length_eq_zero h0;exact (Tryz.strings_Join_none none 0 ⟨#[44]⟩ w).mono (fun e w' h=>⟨by rw [h.1];rfl,h.2 ▸ Below.refl _ _⟩)
 ·cases e
  refine (Tryz.strings_Join g 0 c K ⟨#[44]⟩ w (fun j x hx=>?_) (Array.getElem?_eq_some_iff.1 hg).1 (by omega) hnc (by show (QaO K).length<=_;omega)).mono (fun e w' h=>⟨by rw [h.1];rfl,h.2⟩);have:=(Qhl ho) (by have:=(ZZd.1 hx).1;omega);obtain ⟨b',off',e',hc⟩:=this
  cases e'
  exact hc j x hx
end Go.Proofs.YthchmdmncmioiaaGreatDoor
namespace Go.Proofs.YthchmdmncmioiaaGreatDoor
set_option linter.unusedVariables false
set_option linter.unusedSimpArgs false
open Go.ChangeShapes Go.WideShapes Go.ChangeAt Go.RowKit Go.PlainAid
set_option maxRecDepth 10000
theorem lawT:Go.Maps.Keyed Tryz.prog 9:=Go.Maps.string_keyed Tryz.underlying9
def QdN (name:ByteArray) (L:List ByteArray):ByteArray:=if Qa1 name=true/\L.all QbB=true then QdM name L else ByteArray.empty
theorem Qn5 {x:ByteArray} (h:QbB x=true):x.size<=20:=by
 unfold QbB at h;simp only [Bool.and_eq_true,decide_eq_true_eq] at h;exact h.1.2
theorem Qdf {x:ByteArray} (h:Qa1 x=true):x.size<=40:=by
 unfold Qa1 at h;simp only [Bool.and_eq_true,decide_eq_true_eq] at h;exact h.1.1.2
theorem Qfw {L:List ByteArray} (h:L.all QbB=true):∀ x∈L,x.size<=20:=fun x hx=>Qn5 (List.all_eq_true.1 h x hx)
theorem Qp0 {x:ByteArray} (h:x.size<=maxLen):Go.keyOf Tryz.prog 9 (.string x)=some (QlY x):=Go.WideMaps.keyOf_string_mk Tryz.underlying9 h
theorem QgN {w:World} {ao:Option Addr} {L:List ByteArray} (name:ByteArray) (c n:Nat) (hnm:name.size<=maxLen) (hn:L.length=n) (hl:n<=20100) (hu:∀ u∈L,u.size<=maxLen) (hA:Qa2 w ao L) :
  Calls Tryz.prog 122 #[.string name,.slice ao n c] w fun e w'=>e=.returned (.string (QdN name L))/\Below w.heap.size w w':=by
 have HA:=Qaa hA;have HN:=Qaa hn;have HU:=Qaa hu;have HNm:=Qaa hnm;have hmm:=@run_makeMap Tryz.prog;clear hA hn hu hnm
 cases hnb:Qa1 name with
 | false=>
  have HE:Hid (QdN name L=ByteArray.empty):=(by unfold QdN;rw [if_neg (by rw [hnb];simp)]:QdN name L=ByteArray.empty);go_enter Tryz.func122,Tryz.ntmps122;go_wp2_with (go_at_call 50;refine (QcW _ _ HNm.out).mono ?_;rintro e w1 ⟨rfl,rfl⟩);go_ret;exact ⟨by rw [HE.out];rfl,Below.refl _ _⟩
 | true=>
  have hn40:=Qdf hnb;go_enter Tryz.func122,Tryz.ntmps122;go_wp2_with (go_at_call 50;refine (QcW _ _ HNm.out).mono ?_;rintro e w1 ⟨rfl,hw1⟩;obtain rfl:=hw1.symm);have M0:=Qaa (World.ownsMap_made (H:=Unit) w Tryz.prog 9 unitElem)
  go_loopw [15] (fun i wr=>∃ (k:Nat),k<=n/\i=.int .i64 k/\Hid (wr.ownsMap Tryz.prog 9 (unitElem (H:=Unit)) w.heap.size k (setT (L.take k))/\(L.take k).all QbB=true)/\Hid (Below w.heap.size w wr)) (fun i wr=>n - (Go.RowKit.intOf i).toNat)
  case atStart=>exact ⟨0,Nat.zero_le _,rfl,⟨M0.out,by simp⟩,(Below.refl _ _).alloc (Nat.le_refl _) _⟩
  case round=>
   clear M0;obtain ⟨k,hk,rfl,HO,HB⟩:=hrel;by_cases hkn:k<n
   ·obtain ⟨b,off,e,hcell⟩:=HA.out (by have:=HN.out;omega)
    obtain ⟨y,hy⟩:∃ y,L[k]?=some y:=⟨L[k]'(by have:=HN.out;omega),ZZe _⟩;subst e;have hc0:=Qab HB.out (hcell k y hy);have HY:=Qaa hy;have HZ:=Qaa (HU.out y (ZZn hy));clear hcell hy
    cases ht:QbB y with
    | false=>
     have HE:Hid (QdN name L=ByteArray.empty):=(by unfold QdN;rw [if_neg (by rw [Qpr HY.out ht];simp)]:QdN name L=ByteArray.empty);go_wp2_with (go_at_call 123;refine (Qde _ _ HZ.out).mono ?_;rintro e w1 ⟨rfl,hw1⟩;obtain rfl:=hw1.symm);go_ret;exact ⟨by rw [HE.out];rfl,HB.out⟩
    | true=>
     have HE:Hid ((L.take (k+1)).all QbB=true):=(by rw [List.take_add_one,HY.out,List.all_append,HO.out.2];simp [ht]:(L.take (k+1)).all QbB=true);have HS:Hid (setT (L.take (k+1))=(setT (L.take k)).put (QlY y) (.agg [])):=(by rw [List.take_add_one,HY.out];exact Qnz _ _:setT (L.take (k+1))=(setT (L.take k)).put (QlY y) (.agg []))
     go_wp2_with (first
      | (go_at_call 123;refine (Qde _ _ HZ.out).mono ?_;rintro e w1 ⟨rfl,hw1⟩;obtain rfl:=hw1.symm)
      | (at_mapUpdate;refine wpList_mapUpdate_own _ rfl _ _ _ 204 rfl 9 205 lawT Tryz.underlying204 _ w.heap.size k _ rfl HO.out.1 (by unfold maxLen;omega) _ _ _ rfl rfl (Qp0 HZ.out) _ [] unitElem_mk ?_;intro w1 hown1 hgrow1;rw [<- HS.out] at hown1;have HO1:=Qaa hown1;have HB1:=Qaa (HB.out.grown hgrow1 HB.out.size (fun j hj=>by cases hj;exact Nat.le_refl _));clear hown1 hgrow1))
     go_roundw
     case rel=>exact ⟨k+1,by omega,by go_num,⟨HO1.out,HE.out⟩,HB1⟩
     case measure=>simp [Go.RowKit.intOf];omega
   ·have eL:L.take k=L:=List.take_of_length_le (by have:=HN.out;omega)
    rw [eL] at HO;clear eL;have HK:Hid (∀ x∈QdS L,x.size<=20):=(fun x hx=>Qfw HO.out.2 x (mem_serK.1 hx):∀ x∈QdS L,x.size<=20);have hkl:(QdS L).length<=20100:=by have:=QfN L;have:=HN.out;omega
    have HKl:=Qaa hkl;have HEq:Hid (QdN name L=QdM name L):=(by unfold QdN;rw [if_pos ⟨hnb,HO.out.2⟩]:QdN name L=QdM name L);clear hkl;obtain ⟨T1,hT1⟩:∃ T1:ByteArray,T1=⟨(toL name ++ [123]).toArray⟩:=⟨_,rfl⟩
    have hadd1:Op.stringOp .add name ⟨#[123]⟩=pure (.string T1):=by
     rw [Qcu (x:=toL name) (y:=[123]) (Qgl name).symm rfl (by rw [QaC];simp;omega),hT1]
    have hjl:=Qgm HK.out;have hj2:(QaO (QdS L)).length<=422100:=by have:=HKl.out;omega
    obtain ⟨T2,hT2⟩:∃ T2:ByteArray,T2=⟨(QaO (QdS L)).toArray⟩:=⟨_,rfl⟩;obtain ⟨T3,hT3⟩:∃ T3:ByteArray,T3=⟨(Qc0 name (QdS L)).toArray⟩:=⟨_,rfl⟩
    have hadd2:Op.stringOp .add T1 T2=pure (.string T3):=by
     rw [Qcu hT1 hT2 (by simp [QaC];omega),hT3];rfl
    obtain ⟨T4,hT4⟩:∃ T4:ByteArray,T4=QnS name (QdS L):=⟨_,rfl⟩
    have hadd3:Op.stringOp .add T3 ⟨#[125]⟩=pure (.string T4):=by
     rw [Qcu (y:=[125]) hT3 rfl (by simp [Qc0,QaC];omega),hT4];rfl
    have hs4:T4.size<=1000000:=by rw [hT4,Qis];omega
    obtain ⟨m,hm⟩:∃ m,(QdS L).length=m:=⟨_,rfl⟩;have HF:Hid (QdM name L=if 8<m∨100<T4.size then ByteArray.empty else T4):=(by unfold QdM;rw [hT4,hm]:QdM name L=if 8<m∨100<T4.size then ByteArray.empty else T4);have HT2:=Qaa hT2;have HM:=Qaa hm;have hm9:m<=20100:=by have:=HKl.out;omega
    clear hT1 hT2 hT3 hT4 hm hjl hj2;go_wp2_with fail;refine (QqL _ _).mono ?_;rintro e w1 ⟨rfl,hw1⟩;obtain rfl:=hw1;go_wp2_with fail;refine (QmR w.heap.size k wr.heap.size wr rfl HO.out.1 (by have:=HN.out;omega)).mono ?_;rintro e w2 ⟨v2,rfl,o2,hb2⟩;obtain ⟨ao2,c2,rfl⟩:=Qko o2;rw [HM.out] at o2 ⊢;have HO2:=Qaa o2;have HB2:=Qaa (HB.out.trans (hb2.mono HB.out.size));have HM2:=Qaa (HO.out.1.kept (row:=none) ⟨hb2.os,hb2.tape,hb2.output,hb2.size,fun j hj _=>hb2.block j hj⟩ (by simp));clear o2 hb2;go_wp2_with fail;refine (Qqm HM.out HO2.out (by omega) HK.out).mono ?_;rintro e w3 ⟨rfl,hb3⟩;rw [<- HT2.out];have HB3:=Qaa (HB2.out.trans (hb3.mono HB2.out.size));have HM3:=Qaa (HM2.out.kept (row:=none) ⟨hb3.os,hb3.tape,hb3.output,hb3.size,fun j hj _=>hb3.block j hj⟩ (by simp));clear hb3 HO2 HB2 HM2;have hsz:Go.Maps.size (setT L)=m:=by rw [<- HM.out];exact (Qd9 (Qgv HM3.out) (QeC L (Qgv HM3.out))).2.2
    have hlen:=HM3.out.len Tryz.underlying204 3;rw [hsz] at hlen;clear hsz;by_cases h8:8<m
    ·have h8i:(8:Int)<(m:Int):=by omega
     have HF2:Hid (QdM name L=ByteArray.empty):=(by rw [HF.out,if_pos (.inl h8)]:QdM name L=ByteArray.empty);go_wp2;go_ret;exact ⟨by rw [HEq.out,HF2.out];rfl,HB3.out⟩
    ·have h8i:¬ (8:Int)<(m:Int):=by omega
     by_cases h100:100<T4.size
     ·have h100i:(100:Int)<(T4.size:Int):=by omega
      have HF2:Hid (QdM name L=ByteArray.empty):=(by rw [HF.out,if_pos (.inr h100)]:QdM name L=ByteArray.empty);go_wp2;go_ret;exact ⟨by rw [HEq.out,HF2.out];rfl,HB3.out⟩
     ·have h100i:¬ (100:Int)<(T4.size:Int):=by omega
      have HF2:Hid (QdM name L=T4):=(by rw [HF.out,if_neg (by omega)]:QdM name L=T4);go_wp2;go_ret;exact ⟨by rw [HEq.out,HF2.out];rfl,HB3.out⟩
def Qlt (name:ByteArray) (L:List ByteArray):ByteArray:=if 400<L.length then ByteArray.empty else QdN name L
theorem Qi3 {w:World} {ao:Option Addr} {L:List ByteArray} (name:ByteArray) (c n:Nat) (hnm:name.size<=maxLen) (hn:L.length=n) (hl:n<=1048576) (hu:∀ u∈L,u.size<=maxLen) (hA:Qa2 w ao L) :
  Calls Tryz.prog 120 #[.string name,.slice ao n c] w fun e w'=>e=.returned (.string (Qlt name L))/\Below w.heap.size w w':=by
 have HN:=Qaa hn;have hz:name.size<=9223372036854775807:=hnm;clear hn;by_cases hb:20000<name.size
 ·have hbi:(20000:Int)<(name.size:Int):=by omega
  have hnb:Qa1 name=false:=by
   cases h:Qa1 name with
   | false=>rfl
   | true=>have:=Qdf h;omega
  have HE:Hid (Qlt name L=ByteArray.empty):=(by unfold Qlt;split;rfl;unfold QdN;rw [if_neg (by rw [hnb];simp)]:Qlt name L=ByteArray.empty);clear hnb;go_enter Tryz.func120,Tryz.ntmps120;go_wp2;go_ret;exact ⟨by rw [HE.out];rfl,Below.refl _ _⟩
 have hbi:¬ (20000:Int)<(name.size:Int):=by omega
 by_cases h4:400<n
 ·have h4i:(400:Int)<(n:Int):=by omega
  have HE:Hid (Qlt name L=ByteArray.empty):=(by unfold Qlt;rw [if_pos (by rw [HN.out];exact h4)]:Qlt name L=ByteArray.empty);go_enter Tryz.func120,Tryz.ntmps120;go_wp2;go_ret;exact ⟨by rw [HE.out];rfl,Below.refl _ _⟩
 ·have h4i:¬ (400:Int)<(n:Int):=by omega
  have HE:Hid (Qlt name L=QdN name L):=(by unfold Qlt;rw [if_neg (by rw [HN.out];exact h4)]:Qlt name L=QdN name L);have h20:n<=20100:=by omega
  cases hnb:Qa1 name with
  | false=>
   have HE2:Hid (QdN name L=ByteArray.empty):=(by unfold QdN;rw [if_neg (by rw [hnb];simp)]:QdN name L=ByteArray.empty);go_enter Tryz.func120,Tryz.ntmps120;go_wp2_with (go_at_call 89;refine (Qbn _ _ hnm).mono ?_;rintro e w1 ⟨rfl,hw1⟩;obtain rfl:=hw1.symm);go_ret;exact ⟨by rw [HE.out,HE2.out];rfl,Below.refl _ _⟩
  | true=>
   cases hal:L.all QbB with
   | false=>
    have HE2:Hid (QdN name L=ByteArray.empty):=(by unfold QdN;rw [if_neg (by rw [hal];simp)]:QdN name L=ByteArray.empty);go_enter Tryz.func120,Tryz.ntmps120
    go_wp2_with (first
     | (go_at_call 89;refine (Qbn _ _ hnm).mono ?_;rintro e w1 ⟨rfl,hw1⟩;obtain rfl:=hw1.symm)
     | (go_at_call 146;refine (QcU c n HN.out hl hu hA).mono ?_;rintro e w1 ⟨rfl,hw1⟩;obtain rfl:=hw1.symm))
    go_ret;exact ⟨by rw [HE.out,HE2.out];rfl,Below.refl _ _⟩
   | true=>
    have HE2:Hid (QdN name L=QdM name L):=(by unfold QdN;rw [if_pos ⟨hnb,hal⟩]:QdN name L=QdM name L);have h40:=Qdf hnb;have HU2:=Qaa (Qfw hal);go_enter Tryz.func120,Tryz.ntmps120
    go_wp2_with (first
     | (go_at_call 89;refine (Qbn _ _ hnm).mono ?_;rintro e w1 ⟨rfl,hw1⟩;obtain rfl:=hw1.symm)
     | (go_at_call 146;refine (QcU c n HN.out hl hu hA).mono ?_;rintro e w1 ⟨rfl,hw1⟩;obtain rfl:=hw1.symm)
     | (go_at_call 147;refine (Qc2 name c n (by omega) HN.out h20 HU2.out hA).mono ?_;rintro e w2 ⟨rfl,hb2⟩))
    go_ret;exact ⟨by rw [HE.out,HE2.out];rfl,hb2⟩
theorem QmJ {s:ByteArray} {x:UInt8} (h:x∈toL s):∃ k,k<s.size/\bt s k=(x.toNat:Int):=by
 obtain ⟨k,hk,e⟩:=List.mem_iff_getElem.1 h;have hk2:k<s.size:=by rw [<- QaC];exact hk
 refine ⟨k,hk2,?_⟩;unfold bt;rw [dif_pos hk2,<- e];simp [toL]
 rfl
theorem Qmq {s:ByteArray}:∀ {n k:Nat},QgD s n=true->k<n->nmB (bt s k)=true
 | n+1,k,h,hk=>by
  unfold QgD at h;obtain ⟨h1,h2⟩:=Bool.and_eq_true_iff.1 h;by_cases e:k=n
  ·subst e;exact h2
  ·exact Qmq h1 (by omega)
theorem Qmi {s:ByteArray}:∀ {n k:Nat},QgA s n=true->k<n->tgB (bt s k)=true
 | n+1,k,h,hk=>by
  unfold QgA at h;obtain ⟨h1,h2⟩:=Bool.and_eq_true_iff.1 h;by_cases e:k=n
  ·subst e;exact h2
  ·exact Qmi h1 (by omega)
theorem Qnl {s:ByteArray} (h:Qa1 s=true):(123:UInt8) ∉ toL s:=fun hm=>by
 obtain ⟨k,hk,e⟩:=QmJ hm;unfold Qa1 at h;have ha:=(Bool.and_eq_true_iff.1 h).2;have:=Qmq ha hk;rw [e] at this
 revert this;decide
theorem QkL {s:ByteArray} (h:QbB s=true):(123:UInt8) ∉ toL s/\(44:UInt8) ∉ toL s:=by
 unfold QbB at h;have ha:=(Bool.and_eq_true_iff.1 h).2;refine ⟨fun hm=>?_,fun hm=>?_⟩ <;>
 ·obtain ⟨k,hk,e⟩:=QmJ hm
  have:=Qmi ha hk;rw [e] at this
  revert this;decide
theorem Qql {s:ByteArray} (h:QbB s=true):1<=s.size:=by
 unfold QbB at h;simp only [Bool.and_eq_true,decide_eq_true_eq] at h;exact h.1.1
def Qje (t name:ByteArray) (K:List ByteArray):Prop:=Qa1 name=true/\K.all QbB=true/\Qgp K/\K.length<=8/\t.size<=100/\t=QnS name K
def Qb2 (t:ByteArray):Prop:=∃ name K,Qje t name K
noncomputable def Qbh (t:ByteArray):Bool:=@decide (Qb2 t) (Classical.propDecidable _)
theorem QbZ {t:ByteArray} (h:¬ Qb2 t):Qbh t=false:=@ZZg _ (Classical.propDecidable _) h
theorem QcC {t:ByteArray} (h:Qb2 t):Qbh t=true:=@ZZh _ (Classical.propDecidable _) h
theorem QpD {K:List ByteArray} (h:Qgp K):QdS K=K:=QmB (Qen K) h (fun x=>mem_serK)
theorem Qmt {t name:ByteArray} {K:List ByteArray} (h:Qje t name K):QdN name K=t:=by
 obtain ⟨h1,h2,h3,h4,h5,h6⟩:=h;unfold QdN QdM;rw [if_pos ⟨h1,h2⟩,QpD h3,<- h6,if_neg (by omega)]
theorem QnI {t name:ByteArray} {L:List ByteArray} (h:QdN name L=t) (h0:0<t.size):Qb2 t:=by
 unfold QdN at h
 split at h
 ·rename_i hc
  unfold QdM at h
  split at h
  ·subst h;exact absurd h0 (by decide)
  ·rename_i hc2
   refine ⟨name,QdS L,hc.1,List.all_eq_true.2 (fun x hx=>List.all_eq_true.1 hc.2 x (mem_serK.1 hx)),Qen L,by omega,by rw [<- h];omega,h.symm⟩
 ·subst h;exact absurd h0 (by decide)
theorem QkM (name:ByteArray) (K:List ByteArray):toL (QnS name K)=toL name ++ 123 :: (QaO K ++ [125]):=by
 unfold QnS;rw [Qcc];simp [Qc0]
theorem Qib {c:UInt8}:∀ {l:List UInt8},c ∉ l->Lib.index l [c]=-1
 | [],_=>by simp [Lib.index]
 | x :: l,h=>by
  have h1:¬ c=x:=fun e=>h (by rw [e];exact List.mem_cons_self);have h2:=Qib (l:=l) (fun m=>h (ZZm _ m));unfold Lib.index;rw [h2];simp [h1]
theorem Qfx {c:UInt8}:∀ {p:List UInt8} {r:List UInt8},c ∉ p->Lib.index (p ++ c :: r) [c]=p.length
 | [],r,_=>by simp [Lib.index]
 | x :: p,r,h=>by
  have h1:¬ c=x:=fun e=>h (by rw [e];exact List.mem_cons_self);have h2:=Qfx (p:=p) (r:=r) (fun m=>h (ZZm _ m));rw [List.cons_append];unfold Lib.index;rw [h2];simp [h1]
theorem cut_at {c:UInt8} {p r:List UInt8} (h:c ∉ p):Lib.cut (p ++ c :: r) [c]=(p,r,true):=by
 unfold Lib.cut;rw [Qfx h,if_pos (by omega)];simp
theorem QnZ {K:List ByteArray} (h:K.all QbB=true):(123:UInt8) ∉ QaO K:=by
 cases K with
 | nil=>simp [QaO,Lib.join]
 | cons y r=>
  have hall:=List.all_eq_true.1 h;unfold QaO;rw [List.map_cons,Lib.join_cons];intro hm;rcases List.mem_append.1 hm with hm | hm
  ·exact (QkL (hall y List.mem_cons_self)).1 hm
  ·unfold Lib.joinTail at hm
   obtain ⟨l,hl,hx⟩:=List.mem_flatten.1 hm;obtain ⟨l2,hl2,rfl⟩:=List.mem_map.1 hl;obtain ⟨x,hxr,rfl⟩:=List.mem_map.1 hl2;rcases List.mem_append.1 hx with hx | hx
   ·revert hx;decide
   ·exact (QkL (hall x (ZZm _ hxr))).1 hx
theorem Qiq {K:List ByteArray} (h:K.all QbB=true) (hne:K≠[]):QaO K≠[]:=by
 cases K with
 | nil=>exact absurd rfl hne
 | cons y r=>
  have h1:=Qql (List.all_eq_true.1 h y List.mem_cons_self);unfold QaO;rw [List.map_cons,Lib.join_cons];intro e;have:=congrArg List.length e;rw [List.length_append,QaC,List.length_nil] at this;omega
theorem Qe3 (y z:ByteArray) (r:List ByteArray):QaO (y :: z :: r)=toL y ++ 44 :: QaO (z :: r):=by
 unfold QaO;rw [List.map_cons,List.map_cons,Lib.join_cons,Lib.join_cons];simp [Lib.joinTail]
theorem Qgh:∀ {K:List ByteArray} {n:Nat},K≠[]->(∀ x∈K,(44:UInt8) ∉ toL x)->K.length<=n+1->Lib.splitK [44] 0 n (QaO K)=K.map toL
 | [],n,h,_,_=>absurd rfl h
 | [y],n,_,hn,_=>by
  have hi:=Qib (hn y List.mem_cons_self);rw [Qeu]
  cases n with
  | zero=>rfl
  | succ n=>unfold Lib.splitK;rw [hi];rfl
 | y :: z :: r,n,_,hn,hl=>by
  cases n with
  | zero=>simp at hl
  | succ n=>
   have hi:=Qfx (r:=QaO (z :: r)) (hn y List.mem_cons_self);have ih:=Qgh (K:=z :: r) (n:=n) (by simp) (fun x hx=>hn x (List.mem_cons_of_mem _ hx)) (by simp at hl ⊢; omega);rw [Qe3];unfold Lib.splitK;rw [hi,if_neg (by simp)];simp only [Int.toNat_natCast,Nat.add_zero,List.length_cons,List.length_nil];rw [List.take_left,show (toL y ++ 44 :: QaO (z :: r)).drop ((toL y).length+(0+1))=QaO (z :: r) by rw [<- List.drop_drop,List.drop_left];rfl,ih]
   rfl
theorem Qg0:∀ {K:List ByteArray} {f:Nat},K≠[]->(∀ x∈K,(44:UInt8) ∉ toL x)->K.length<=f->Lib.countFrom [44] f (QaO K)+1=K.length
 | [],f,h,_,_=>absurd rfl h
 | [y],f,_,hn,hl=>by
  have hi:=Qib (hn y List.mem_cons_self);rw [Qeu]
  cases f with
  | zero=>simp at hl
  | succ f=>unfold Lib.countFrom;rw [hi];rfl
 | y :: z :: r,f,_,hn,hl=>by
  cases f with
  | zero=>simp at hl
  | succ f=>
   have hi:=Qfx (r:=QaO (z :: r)) (hn y List.mem_cons_self);have ih:=Qg0 (K:=z :: r) (f:=f) (by simp) (fun x hx=>hn x (List.mem_cons_of_mem _ hx)) (by simp at hl ⊢; omega);rw [Qe3];unfold Lib.countFrom;rw [hi,if_neg (by simp)];simp only [Int.toNat_natCast,List.length_cons,List.length_nil];rw [show (toL y ++ 44 :: QaO (z :: r)).drop ((toL y).length+(0+1))=QaO (z :: r) by rw [<- List.drop_drop,List.drop_left];rfl];simp only [List.length_cons] at ih;omega
theorem Qhd:∀ (K:List ByteArray),K.all QbB=true->K.length<=(QaO K).length+1
 | [],_=>by simp
 | [y],_=>by simp
 | y :: z :: r,h=>by
  have ih:=Qhd (z :: r) (by simp at h ⊢; exact ⟨h.2.1,h.2.2⟩);rw [Qe3];simp only [List.length_append,List.length_cons] at ih ⊢;omega
theorem QjS {K:List ByteArray} (h:K.all QbB=true) (hne:K≠[]):Lib.splitB ⟨#[44]⟩ 0 (Lib.countB ⟨(QaO K).toArray⟩ ⟨#[44]⟩) ⟨(QaO K).toArray⟩=K:=by
 have hn:∀ x∈K,(44:UInt8) ∉ toL x:=fun x hx=>(QkL (List.all_eq_true.1 h x hx)).2
 have hc:Lib.countB ⟨(QaO K).toArray⟩ ⟨#[44]⟩+1=K.length:=by
  have e:Lib.countB ⟨(QaO K).toArray⟩ ⟨#[44]⟩=Lib.countFrom [44] ((QaO K).length+1) (QaO K):=by
   show Lib.count _ _=_
   unfold Lib.count;simp
  rw [e];exact Qg0 hne hn (Qhd K h)
 have hd:=Lib.splitB_data ⟨#[44]⟩ 0 (Lib.countB ⟨(QaO K).toArray⟩ ⟨#[44]⟩) ⟨(QaO K).toArray⟩;have hs:=Qgh (K:=K) (n:=Lib.countB ⟨(QaO K).toArray⟩ ⟨#[44]⟩) hne hn (by omega);have hd2:(Lib.splitB ⟨#[44]⟩ 0 (Lib.countB ⟨(QaO K).toArray⟩ ⟨#[44]⟩) ⟨(QaO K).toArray⟩).map toL=K.map toL:=hd.trans (by simpa using hs);exact (List.map_inj_right (fun a b e=>Qdp e)).1 hd2
end Go.Proofs.YthchmdmncmioiaaGreatDoor
