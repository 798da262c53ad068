/-
 Parts.
-/
import Derived.Test.YtioohanfodmddaaGreatDoorCSA
import Derived.Test.YtioohanfodmddaaGreatDoorCKF
import Derived.Test.YtioohanfodmddaaGreatDoorCJK
import Derived.Sort.EveryDepth
import Derived.Lib.Split
import Derived.Lib.CountLaws
import Derived.Lib.SplitLaws
import Derived.Lib.Strings
set_option maxRecDepth 10000
set_option maxHeartbeats 2000000
set_option linter.all false
namespace Go.Proofs.YtioohanfodmddaaGreatDoor
open Go.ChangeShapes Go.WideShapes Go.ChangeAt Go.RowKit Go.PlainAid Go.Shelf Tryz
open Go.Sort
theorem mDr {p:Prop} (h:p:=by go_wp2;go_ret;exact ⟨by rw [ak.out,ag.out];rfl,al⟩):p:=h
theorem mDv {p:Prop} (h:p:=by go_ret;exact ⟨by rw [HE.out];rfl,Below.refl _ _⟩):p:=h
theorem mEb {p:Prop} (h:p:=by rw [List.map_cons,List.map_cons,Lib.join_cons,Lib.join_cons];simp [Lib.joinTail]):p:=h
theorem Qt0 (m:Nat):AnyZ.SortsIn prog Tryz.sortedT_ren Fence.wide m:=
 ⟨fun blk off cap ss W hH hblk hsz=>callsIn_wide.2 (AnyM.slices_Sort_string Tryz.sortT blk off cap ss W hH hblk hsz),fun p cap W=>callsIn_wide.2 (AnyM.slices_Sort_string_none Tryz.sortT p cap W)⟩
theorem Qvm (mb:Option Nat) (W:World):Calls prog 175 #[.map mb] W fun e w'=>e=.returned (.func (.func 226) #[] #[.pointer (some ⟨W.heap.size,0,none⟩)])/\w'=W.alloc (.cells #[.map mb] 222):=
 callsIn_wide.1 (AnyZ.keys_in Tryz.keysT Fence.wide 5 trivial rfl mb W)
variable {w:World}
variable {K L:List ByteArray}
theorem QgL {b n:Nat} {R:Value->Option (DataW Unit×List MemPlace)} (h:w.ownsMap prog 9 R b n (Qgs L)):∃ es,Qgs L=.map es/\∀ p∈es,∃ x,p.1=Lit.string x:=by
 obtain ⟨es,e,hk⟩:=h.keysOf;exact ⟨es,e,fun p hp=>by obtain ⟨v,hv⟩:=hk p hp;obtain ⟨x,_,hx,_⟩:=Go.Maps.keyOf_str underlying9 hv;exact ⟨x,hx⟩⟩
theorem Qri (K:List ByteArray):(K.map toL).map encStr=K.map Value.string:=by
 rw [List.map_map];refine List.map_congr_left (fun x _=>?_)
 show encStr (toL x)=.string x
 unfold encStr;rw [Qee]
theorem QoL (b nn g:Nat) (w:World) (hg:w.heap.size=g) (hown:w.ownsMap prog 9 (unitElem (H:=Unit)) b nn (Qgs L)) (hl:L.length<=100000) :
  Calls prog 98 #[.func (.func 226) #[] #[.pointer (some ⟨g,0,none⟩)]] (w.alloc (.cells #[.map (some b)] 222)) fun e w'=>∃ v,e=.returned v/\OwnT w' 0 v (Qef L)/\Bw w w':=by
 subst hg;have ae:=hown.lt;have hk:=QgL hown
 have ad:Go.Maps.size (Qgs L)<=100000:=by
  have h:=(Qew hk (Qfj L hk).symm.symm).2.2;have:=Qgp L;omega
 have ab:SeqGives Fence.wide 2 prog 226 #[.pointer (some ⟨w.heap.size,0,none⟩)] encStr (fun ss=>ss.Perm (Go.strKeys (Qgs L))) (Go.Maps.size (Qgs L)) (w.alloc (.cells #[.map (some b)] 222)):=
  AnyZ.keys_gives (ρ:=Tryz.keysT_ren) { Tryz.keysT with } Fence.wide _ trivial rfl oB w.heap.size b nn (Qgs L) _ oE oE (hown.alloc _)
 have hc:=callsIn_wide.1 (AnyZ.sorted_in Tryz.sortedT Fence.wide 5 trivial trivial trivial trivial rfl oB (Qt0 _) (enters_of func152 oG rfl) 226 #[.pointer (some ⟨w.heap.size,0,none⟩)] trivial (enters_of func226 oG rfl) _ (Go.Maps.size (Qgs L)) oC oB _ ab);refine hc.mono ?_;rintro e w' ⟨v,ss,rfl,hS,aa,ac,hb⟩;obtain ⟨h1,h2,_⟩:=Qew hk hS;refine ⟨v,rfl,?_,((Below.refl _ _).alloc (Nat.le_refl _) _).trans (hb.mono oE)⟩;have h1:ss.mergeSort (fun x y=>decide (x<=y))=(Qef L).map toL:=h1;rw [h1,Qri,h2] at aa;exact Qjk aa (ZZj _)
variable {ao:Option Addr}
theorem QvJ {B m c:Nat} (hm:K.length=m) (ho:OwnT w B (.slice ao m c) K) (hl:m<=100000) (hu:∀ x∈K,x.size<=20) :
  Calls prog 174 #[.slice ao m c,.string ⟨#[44]⟩] w fun e w'=>e=.returned (.string ⟨(QaN K).toArray⟩)/\Bw w w':=by
 have hj:=Qe8 hu;have ac:=ho;rcases ac.2 with ⟨e,h0⟩ | ⟨g,ad,ae,e,hB,hg,ab,_⟩
 ·cases e
  obtain rfl:K=[]:=List.eq_nil_of_length_eq_zero h0;exact (Tryz.strings_Join_none none 0 ⟨#[44]⟩ w).mono (fun e w' h=>⟨by rw [h.1];rfl,h.2 ▸ Below.refl _ _⟩)
 ·cases e
  refine (Tryz.strings_Join g 0 c K ⟨#[44]⟩ w (fun j x hx=>?_) (Array.getElem?_eq_some_iff.1 hg).1 oB ab (by show (QaN K).length<=_;omega)).mono (fun e w' h=>⟨by rw [h.1];rfl,h.2⟩);have:=(QdX ho) xL;obtain ⟨b',aa,e',hc⟩:=this
  cases e'
  exact hc j x hx
theorem lawT:Go.Maps.Keyed prog 9:=Go.Maps.string_keyed underlying9
def QbM (name:ByteArray) (L:List ByteArray):ByteArray:=if QaF name=true/\L.all Qbg=true then Qb6 name L else ByteArray.empty
variable {name s t x:ByteArray}
theorem QrN (h:Qbg x=true):x.size<=20:=by
 unfold Qbg at h;simp only [yB,decide_eq_true_eq] at h;exact h.1.2
theorem QcK (h:QaF x=true):x.size<=40:=by
 unfold QaF at h;simp only [yB,decide_eq_true_eq] at h;exact h.1.1.2
theorem QeN (h:L.all Qbg=true):∀ x∈L,x.size<=20:=fun x hx=>QrN (List.all_eq_true.1 h x hx)
theorem QvG (h:x.size<=maxLen):Go.keyOf prog 9 (.string x)=some (Qda x):=Go.WideMaps.keyOf_string_mk underlying9 h
theorem Qd9 (name:ByteArray) (c n:Nat) (hnm:name.size<=maxLen) (hn:L.length=n) (hl:n<=20100) (hu:∀ u∈L,u.size<=maxLen) (hA:Qat w ao L) :
  Calls prog 115 #[.string name,.slice ao n c] w fun e w'=>e=.returned (.string (QbM name L))/\Bw w w':=by
 have HA:=Qaa hA;have HN:=Qaa hn;have HU:=Qaa hu;have ay:=Qaa hnm;have aM:=@run_makeMap prog;clear hA hn hu hnm
 cases hnb:QaF name with
 | false=>
  have HE:Hid (QbM name L=ByteArray.empty):=Qaa (by unfold QbM;rw [if_neg (by rw [hnb];simp)]);go_enter func115,ntmps115;go_wp2_with (go_at_call 147;refine (Qbd _ _ ay).mono ?_;rintro e w1 ⟨rfl,rfl⟩);exact mDv
 | true=>
  have aJ:=QcK hnb;go_enter func115,ntmps115;go_wp2_with (go_at_call 147;refine (Qbd _ _ ay).mono ?_;rintro e w1 ⟨rfl,ae⟩;obtain rfl:=ae.symm);have M0:=Qaa (World.ownsMap_made (H:=Unit) w prog 9 unitElem)
  go_loopw [15] (fun i wr=>∃ (k:Nat),k<=n/\i=.int .i64 k/\Hid (wr.ownsMap prog 9 (unitElem (H:=Unit)) w.heap.size k (Qgs (L.take k))/\(L.take k).all Qbg=true)/\Hid (Bw w wr)) (fun i wr=>n - (Go.RowKit.intOf i).toNat)
  case atStart=>exact ⟨0,Nat.zero_le _,rfl,⟨M0,by simp⟩,(Below.refl _ _).alloc (Nat.le_refl _) _⟩
  case round=>
   clear M0;obtain ⟨k,hk,rfl,HO,HB⟩:=hrel;by_cases aL:k<n
   ·obtain ⟨b,aR,e,ac⟩:=HA.out (oA HN.out)
    obtain ⟨y,hy⟩:∃ y,L[k]?=some y:=⟨L[k]'(oA HN.out),ZZe _⟩;subst e;have aN:=Qab HB (ac k y hy);have HY:=Qaa hy;have HZ:=Qaa (HU.out y (ZZn hy));clear ac hy
    cases ht:Qbg y with
    | false=>
     have HE:Hid (QbM name L=ByteArray.empty):=Qaa (by unfold QbM;rw [if_neg (by rw [Qtj HY.out ht];simp)]);go_wp2_with (go_at_call 173;refine (QfT _ _ HZ).mono ?_;rintro e w1 ⟨rfl,ae⟩;obtain rfl:=ae.symm);go_ret;exact ⟨by rw [HE.out];rfl,HB⟩
    | true=>
     have HE:Hid ((L.take (k+1)).all Qbg=true):=Qaa (by rw [List.take_add_one,HY.out,List.all_append,HO.2];simp [ht]);have HS:Hid (Qgs (L.take (k+1))=(Qgs (L.take k)).put (Qda y) (.agg [])):=Qaa (by rw [List.take_add_one,HY.out];exact QoM _ _)
     go_wp2_with (first
      | (go_at_call 173;refine (QfT _ _ HZ).mono ?_;rintro e w1 ⟨rfl,ae⟩;obtain rfl:=ae.symm)
      | (at_mapUpdate;refine wpList_mapUpdate_own _ rfl _ _ _ 222 rfl 9 223 lawT underlying222 _ w.heap.size k _ rfl HO.1 oC _ _ _ rfl rfl (QvG HZ) _ [] unitElem_mk ?_;intro w1 aa ab;rw [<- HS.out] at aa;have aH:=Qaa aa;have aE:=Qaa (HB.grown ab HB.size (fun j hj=>by cases hj;exact Nat.le_refl _));clear aa ab))
     go_roundw
     case rel=>exact ⟨k+1,by omega,by go_num,⟨aH,HE⟩,aE⟩
     case measure=>simp [zI];omega
   ·have eL:L.take k=L:=List.take_of_length_le (oA HN.out)
    rw [eL] at HO;clear eL;have HK:Hid (∀ x∈Qef L,x.size<=20):=Qaa (fun x hx=>QeN HO.2 x (mem_serK.1 hx));have aC:(Qef L).length<=20100:=by have:=Qgp L;have:=HN.out;omega
    have ax:=Qaa aC;have ak:Hid (QbM name L=Qb6 name L):=Qaa (by unfold QbM;rw [if_pos ⟨hnb,HO.2⟩]);clear aC;obtain ⟨T1,ap⟩:∃ T1:ByteArray,T1=⟨(toL name ++ [123]).toArray⟩:=⟨_,rfl⟩
    have aA:Op.stringOp .add name ⟨#[123]⟩=pure (.string T1):=by
     rw [Qcy (x:=toL name) (y:=[123]) (Qee name).symm rfl xS,ap]
    have aF:=Qe8 HK;have aK:(QaN (Qef L)).length<=422100:=by have:=ax.out;omega
    obtain ⟨T2,an⟩:∃ T2:ByteArray,T2=⟨(QaN (Qef L)).toArray⟩:=⟨_,rfl⟩;obtain ⟨T3,ar⟩:∃ T3:ByteArray,T3=⟨(QcY name (Qef L)).toArray⟩:=⟨_,rfl⟩
    have av:Op.stringOp .add T1 T2=pure (.string T3):=by
     rw [Qcy ap an (by simp [Qam];omega),ar];rfl
    obtain ⟨T4,ai⟩:∃ T4:ByteArray,T4=Qru name (Qef L):=⟨_,rfl⟩
    have az:Op.stringOp .add T3 ⟨#[125]⟩=pure (.string T4):=by
     rw [Qcy (y:=[125]) ar rfl (by simp [QcY,Qam];omega),ai];rfl
    have aQ:T4.size<=1000000:=by rw [ai,Qkd];omega
    obtain ⟨m,hm⟩:∃ m,(Qef L).length=m:=⟨_,rfl⟩;have HF:Hid (Qb6 name L=if 8<m∨100<T4.size then ByteArray.empty else T4):=Qaa (by unfold Qb6;rw [ai,hm]);have aI:=Qaa an;have HM:=Qaa hm;have aO:m<=20100:=by have:=ax.out;omega
    clear ap an ar ai hm aF aK;go_wp2_with fail;refine (Qvm _ _).mono ?_;rintro e w1 ⟨rfl,ae⟩;obtain rfl:=ae;go_wp2_with fail;refine (QoL w.heap.size k wr.heap.size wr rfl HO.1 (oA HN.out)).mono ?_;rintro e w2 ⟨v2,rfl,o2,ad⟩;obtain ⟨aP,c2,rfl⟩:=QcR o2;rw [HM.out] at o2 ⊢;have aB:=Qaa o2;have aq:=Qaa (HB.trans (ad.mono HB.size));have aD:=Qaa (HO.1.kept (row:=none) ⟨ad.os,ad.tape,ad.output,ad.size,fun j hj _=>ad.block j hj⟩ oE);clear o2 ad;go_wp2_with fail;refine (QvJ HM aB oB HK).mono ?_;rintro e w3 ⟨rfl,af⟩;rw [<- aI.out];have al:=Qaa (aq.trans (af.mono aq.size));have aj:=Qaa (aD.kept (row:=none) ⟨af.os,af.tape,af.output,af.size,fun j hj _=>af.block j hj⟩ oE);clear af aB aq aD;have aw:Go.Maps.size (Qgs L)=m:=by rw [<- HM.out];exact (Qew (QgL aj) (Qfj L (QgL aj))).2.2
    have au:=aj.len underlying222 3;rw [aw] at au;clear aw;by_cases h8:8<m
    ·have aG:(8:Int)<(m:Int):=by omega
     have ag:Hid (Qb6 name L=ByteArray.empty):=Qaa (by rw [HF.out,if_pos (.inl h8)]);exact mDr
    ·have aG:¬ (8:Int)<(m:Int):=by omega
     by_cases am:100<T4.size
     ·have ah:(100:Int)<(T4.size:Int):=by omega
      have ag:Hid (Qb6 name L=ByteArray.empty):=Qaa (by rw [HF.out,if_pos (.inr am)]);exact mDr
     ·have ah:¬ (100:Int)<(T4.size:Int):=by omega
      have ag:Hid (Qb6 name L=T4):=Qaa (by rw [HF.out,if_neg oB]);exact mDr
def Qn2 (name:ByteArray) (L:List ByteArray):ByteArray:=if 400<L.length then ByteArray.empty else QbM name L
theorem QkW (name:ByteArray) (c n:Nat) (hnm:name.size<=maxLen) (hn:L.length=n) (hl:n<=1048576) (hu:∀ u∈L,u.size<=maxLen) (hA:Qat w ao L) :
  Calls prog 240 #[.string name,.slice ao n c] w fun e w'=>e=.returned (.string (Qn2 name L))/\Bw w w':=by
 have HN:=Qaa hn;have hz:name.size<=9223372036854775807:=hnm;clear hn;by_cases hb:20000<name.size
 ·have ag:(20000:Int)<(name.size:Int):=by omega
  have ab:QaF name=false:=by
   cases h:QaF name with
   | false=>rfl
   | true=>have:=QcK h;omega
  have HE:Hid (Qn2 name L=ByteArray.empty):=Qaa (by unfold Qn2;split;rfl;unfold QbM;rw [if_neg (by rw [ab];simp)]);clear ab;go_enter func240,ntmps240;go_wp2;exact mDv
 have ag:¬ (20000:Int)<(name.size:Int):=oB
 by_cases h4:400<n
 ·have ae:(400:Int)<(n:Int):=by omega
  have HE:Hid (Qn2 name L=ByteArray.empty):=Qaa (by unfold Qn2;rw [if_pos (by rw [HN.out];exact h4)]);go_enter func240,ntmps240;go_wp2;exact mDv
 ·have ae:¬ (400:Int)<(n:Int):=by omega
  have HE:Hid (Qn2 name L=QbM name L):=Qaa (by unfold Qn2;rw [if_neg (by rw [HN.out];exact h4)]);have ad:n<=20100:=oB
  cases ab:QaF name with
  | false=>
   have ac:Hid (QbM name L=ByteArray.empty):=Qaa (by unfold QbM;rw [if_neg (by rw [ab];simp)]);go_enter func240,ntmps240;go_wp2_with (go_at_call 66;refine (QaH _ _ hnm).mono ?_;rintro e w1 ⟨rfl,aa⟩;obtain rfl:=aa.symm);go_ret;exact ⟨by rw [HE.out,ac.out];rfl,Below.refl _ _⟩
  | true=>
   cases hal:L.all Qbg with
   | false=>
    have ac:Hid (QbM name L=ByteArray.empty):=Qaa (by unfold QbM;rw [if_neg (by rw [hal];simp)]);go_enter func240,ntmps240
    go_wp2_with (first
     | (go_at_call 66;refine (QaH _ _ hnm).mono ?_;rintro e w1 ⟨rfl,aa⟩;obtain rfl:=aa.symm)
     | (go_at_call 193;refine (Qcn c n HN hl hu hA).mono ?_;rintro e w1 ⟨rfl,aa⟩;obtain rfl:=aa.symm))
    go_ret;exact ⟨by rw [HE.out,ac.out];rfl,Below.refl _ _⟩
   | true=>
    have ac:Hid (QbM name L=Qb6 name L):=Qaa (by unfold QbM;rw [if_pos ⟨ab,hal⟩]);have ai:=QcK ab;have ah:=Qaa (QeN hal);go_enter func240,ntmps240
    go_wp2_with (first
     | (go_at_call 66;refine (QaH _ _ hnm).mono ?_;rintro e w1 ⟨rfl,aa⟩;obtain rfl:=aa.symm)
     | (go_at_call 193;refine (Qcn c n HN hl hu hA).mono ?_;rintro e w1 ⟨rfl,aa⟩;obtain rfl:=aa.symm)
     | (go_at_call 136;refine (Qbs name c n oB HN ad ah hA).mono ?_;rintro e w2 ⟨rfl,af⟩))
    go_ret;exact ⟨by rw [HE.out,ac.out];rfl,af⟩
theorem Qrn {x:UInt8} (h:x∈toL s):∃ k,k<s.size/\bt s k=(x.toNat:Int):=by
 obtain ⟨k,hk,e⟩:=List.mem_iff_getElem.1 h;have aa:k<s.size:=by rw [<- Qam];exact hk
 refine ⟨k,aa,?_⟩;unfold bt;rw [dif_pos aa,<- e];simp [toL]
 rfl
theorem QqO {s:ByteArray}:∀ {n k:Nat},Qht s n=true->k<n->nmB (bt s k)=true
 | n+1,k,h,hk=>by
  unfold Qht at h;obtain ⟨h1,h2⟩:=Bool.and_eq_true_iff.1 h;by_cases e:k=n
  ·subst e;exact h2
  ·exact QqO h1 oB
theorem QqH {s:ByteArray}:∀ {n k:Nat},Qhs s n=true->k<n->tgB (bt s k)=true
 | n+1,k,h,hk=>by
  unfold Qhs at h;obtain ⟨h1,h2⟩:=Bool.and_eq_true_iff.1 h;by_cases e:k=n
  ·subst e;exact h2
  ·exact QqH h1 oB
theorem QpK (h:QaF s=true):(123:UInt8) ∉ toL s:=fun hm=>by
 obtain ⟨k,hk,e⟩:=Qrn hm;unfold QaF at h;have ha:=(Bool.and_eq_true_iff.1 h).2;have:=QqO ha hk;rw [e] at this
 revert this;decide
theorem Qmg (h:Qbg s=true):(123:UInt8) ∉ toL s/\(44:UInt8) ∉ toL s:=by
 unfold Qbg at h;have ha:=(Bool.and_eq_true_iff.1 h).2;refine ⟨fun hm=>?_,fun hm=>?_⟩ <;>
 ·obtain ⟨k,hk,e⟩:=Qrn hm
  have:=QqH ha hk;rw [e] at this
  revert this;decide
theorem QuN (h:Qbg s=true):1<=s.size:=by
 unfold Qbg at h;simp only [yB,decide_eq_true_eq] at h;exact h.1.1
def QhA (t name:ByteArray) (K:List ByteArray):Prop:=QaF name=true/\K.all Qbg=true/\Qeh K/\K.length<=8/\t.size<=100/\t=Qru name K
def QbX (t:ByteArray):Prop:=∃ name K,QhA t name K
noncomputable def Qbl (t:ByteArray):Bool:=@decide (QbX t) (Classical.propDecidable _)
theorem QbP (h:¬ QbX t):Qbl t=false:=@ZZg _ (Classical.propDecidable _) h
theorem Qcl (h:QbX t):Qbl t=true:=@ZZh _ (Classical.propDecidable _) h
theorem Qvp (h:Qeh K):Qef K=K:=QoP (Qe0 K) h (fun x=>mem_serK)
theorem Qqx (h:QhA t name K):QbM name K=t:=by
 obtain ⟨h1,h2,h3,h4,h5,h6⟩:=h;unfold QbM Qb6;rw [if_pos ⟨h1,h2⟩,Qvp h3,<- h6,if_neg oB]
theorem Ql8 (h:QbM name L=t) (h0:0<t.size):QbX t:=by
 unfold QbM at h
 split at h
 ·rename_i hc
  unfold Qb6 at h
  split at h
  ·subst h;exact absurd h0 oF
  ·rename_i aa
   refine ⟨name,Qef L,hc.1,List.all_eq_true.2 (fun x hx=>List.all_eq_true.1 hc.2 x (mem_serK.1 hx)),Qe0 L,by omega,by rw [<- h];omega,h.symm⟩
 ·subst h;exact absurd h0 oF
theorem QnF (name:ByteArray) (K:List ByteArray):toL (Qru name K)=toL name ++ 123 :: (QaN K ++ [125]):=by
 unfold Qru;rw [QaQ];simp [QcY]
theorem QdD {c:UInt8}:∀ {l:List UInt8},c ∉ l->Lib.index l [c]=-1
 | [],_=>by simp [Lib.index]
 | x :: l,h=>by
  have h1:¬ c=x:=fun e=>h (by rw [e];exact List.mem_cons_self);have h2:=QdD (l:=l) (fun m=>h (ZZm _ m));unfold Lib.index;rw [h2];simp [h1]
theorem QdY {c:UInt8}:∀ {p:List UInt8} {r:List UInt8},c ∉ p->Lib.index (p ++ c :: r) [c]=p.length
 | [],r,_=>by simp [Lib.index]
 | x :: p,r,h=>by
  have h1:¬ c=x:=fun e=>h (by rw [e];exact List.mem_cons_self);have h2:=QdY (p:=p) (r:=r) (fun m=>h (ZZm _ m));rw [List.cons_append];unfold Lib.index;rw [h2];simp [h1]
theorem Qne {c:UInt8} {p r:List UInt8} (h:c ∉ p):Lib.cut (p ++ c :: r) [c]=(p,r,true):=by
 unfold Lib.cut;rw [QdY h,if_pos oB];simp
theorem QsH (h:K.all Qbg=true):(123:UInt8) ∉ QaN K:=by
 cases K with
 | nil=>simp [QaN,Lib.join]
 | cons y r=>
  have aa:=List.all_eq_true.1 h;unfold QaN;rw [List.map_cons,Lib.join_cons];intro hm;rcases List.mem_append.1 hm with hm | hm
  ·exact (Qmg (aa y List.mem_cons_self)).1 hm
  ·unfold Lib.joinTail at hm
   obtain ⟨l,hl,hx⟩:=List.mem_flatten.1 hm;obtain ⟨l2,ab,rfl⟩:=List.mem_map.1 hl;obtain ⟨x,ac,rfl⟩:=List.mem_map.1 ab;rcases List.mem_append.1 hx with hx | hx
   ·revert hx;decide
   ·exact (Qmg (aa x (ZZm _ ac))).1 hx
theorem QkI (h:K.all Qbg=true) (hne:K≠[]):QaN K≠[]:=by
 cases K with
 | nil=>exact absurd rfl hne
 | cons y r=>
  have h1:=QuN (List.all_eq_true.1 h y List.mem_cons_self);unfold QaN;rw [List.map_cons,Lib.join_cons];intro e;have:=congrArg List.length e;rw [List.length_append,Qam,List.length_nil] at this;omega
theorem QfG (y z:ByteArray) (r:List ByteArray):QaN (y :: z :: r)=toL y ++ 44 :: QaN (z :: r):=by
 unfold QaN;exact mEb
theorem Qgy:∀ {K:List ByteArray} {n:Nat},K≠[]->(∀ x∈K,(44:UInt8) ∉ toL x)->K.length<=n+1->Lib.splitK [44] 0 n (QaN K)=K.map toL
 | [],n,h,_,_=>absurd rfl h
 | [y],n,_,hn,_=>by
  have hi:=QdD (hn y List.mem_cons_self);rw [Qdw]
  cases n with
  | zero=>rfl
  | succ n=>unfold Lib.splitK;rw [hi];rfl
 | y :: z :: r,n,_,hn,hl=>by
  cases n with
  | zero=>simp at hl
  | succ n=>
   have hi:=QdY (r:=QaN (z :: r)) (hn y List.mem_cons_self);have ih:=Qgy (K:=z :: r) (n:=n) oE (fun x hx=>hn x (List.mem_cons_of_mem _ hx)) xC;rw [QfG];unfold Lib.splitK;rw [hi,if_neg oE];simp only [Int.toNat_natCast,Nat.add_zero,List.length_cons,List.length_nil];rw [List.take_left,show (toL y ++ 44 :: QaN (z :: r)).drop ((toL y).length+(0+1))=QaN (z :: r) by rw [<- List.drop_drop,List.drop_left];rfl,ih]
   rfl
theorem QhM:∀ {K:List ByteArray} {f:Nat},K≠[]->(∀ x∈K,(44:UInt8) ∉ toL x)->K.length<=f->Lib.countFrom [44] f (QaN K)+1=K.length
 | [],f,h,_,_=>absurd rfl h
 | [y],f,_,hn,hl=>by
  have hi:=QdD (hn y List.mem_cons_self);rw [Qdw]
  cases f with
  | zero=>simp at hl
  | succ f=>unfold Lib.countFrom;rw [hi];rfl
 | y :: z :: r,f,_,hn,hl=>by
  cases f with
  | zero=>simp at hl
  | succ f=>
   have hi:=QdY (r:=QaN (z :: r)) (hn y List.mem_cons_self);have ih:=QhM (K:=z :: r) (f:=f) oE (fun x hx=>hn x (List.mem_cons_of_mem _ hx)) xC;rw [QfG];unfold Lib.countFrom;rw [hi,if_neg oE];simp only [Int.toNat_natCast,List.length_cons,List.length_nil];rw [show (toL y ++ 44 :: QaN (z :: r)).drop ((toL y).length+(0+1))=QaN (z :: r) by rw [<- List.drop_drop,List.drop_left];rfl];simp only [List.length_cons] at ih;omega
theorem Qin:∀ (K:List ByteArray),K.all Qbg=true->K.length<=(QaN K).length+1
 | [],_=>by simp
 | [y],_=>by simp
 | y :: z :: r,h=>by
  have ih:=Qin (z :: r) (by simp at h ⊢; exact ⟨h.2.1,h.2.2⟩);rw [QfG];simp only [List.length_append,List.length_cons] at ih ⊢;omega
theorem QlI (h:K.all Qbg=true) (hne:K≠[]):Lib.splitB ⟨#[44]⟩ 0 (Lib.countB ⟨(QaN K).toArray⟩ ⟨#[44]⟩) ⟨(QaN K).toArray⟩=K:=by
 have hn:∀ x∈K,(44:UInt8) ∉ toL x:=fun x hx=>(Qmg (List.all_eq_true.1 h x hx)).2
 have hc:Lib.countB ⟨(QaN K).toArray⟩ ⟨#[44]⟩+1=K.length:=by
  have e:Lib.countB ⟨(QaN K).toArray⟩ ⟨#[44]⟩=Lib.countFrom [44] ((QaN K).length+1) (QaN K):=by
   show Lib.count _ _=_
   unfold Lib.count;simp
  rw [e];exact QhM hne hn (Qin K h)
 have hd:=Lib.splitB_data ⟨#[44]⟩ 0 (Lib.countB ⟨(QaN K).toArray⟩ ⟨#[44]⟩) ⟨(QaN K).toArray⟩;have hs:=Qgy (K:=K) (n:=Lib.countB ⟨(QaN K).toArray⟩ ⟨#[44]⟩) hne hn oB;have aa:(Lib.splitB ⟨#[44]⟩ 0 (Lib.countB ⟨(QaN K).toArray⟩ ⟨#[44]⟩) ⟨(QaN K).toArray⟩).map toL=K.map toL:=hd.trans (by simpa using hs);exact (List.map_inj_right (fun a b e=>QaW e)).1 aa
end Go.Proofs.YtioohanfodmddaaGreatDoor
