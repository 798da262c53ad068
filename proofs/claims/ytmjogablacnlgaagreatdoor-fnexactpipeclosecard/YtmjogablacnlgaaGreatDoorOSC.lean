/-
 The contract of spec.l01Split: a text's pieces between a byte.
-/
import Derived.Test.YtmjogablacnlgaaGreatDoorOSB
namespace Go.Proofs.YtmjogablacnlgaaGreatDoor
set_option linter.unusedVariables false
set_option linter.unusedSimpArgs false
open Go.ChangeShapes Go.WideShapes Go.ChangeAt Go.RowKit Go.PlainAid
theorem size_extract (s:ByteArray) (a b:Nat):(s.extract a b).size=min b s.size - a:=by simp
def spl (t:ByteArray) (b:Int):Nat→List ByteArray×Nat
 | 0=>([],0)
 | k+1=>if bt t k=b then ((spl t b k).1 ++ [t.extract (spl t b k).2 k],k+1) else spl t b k
theorem spl_hit {t:ByteArray} {b:Int} {k:Nat} (h:bt t k=b):spl t b (k+1)=((spl t b k).1 ++ [t.extract (spl t b k).2 k],k+1):=by
 show (if bt t k=b then _ else _)=_;rw [if_pos h]
theorem spl_miss {t:ByteArray} {b:Int} {k:Nat} (h:¬ bt t k=b):spl t b (k+1)=spl t b k:=by
 show (if bt t k=b then _ else _)=_;rw [if_neg h]
theorem spl_le (t:ByteArray) (b:Int):∀ k,(spl t b k).2≤k∧(spl t b k).1.length≤k
 | 0=>⟨Nat.le_refl _,Nat.le_refl _⟩
 | k+1=>by
  have ih:=spl_le t b k;by_cases h:bt t k=b
  ·rw [spl_hit h];simp;omega
  ·rw [spl_miss h];omega
def splL (t:ByteArray) (b:Int):List ByteArray:=(spl t b t.size).1 ++ [t.extract (spl t b t.size).2 t.size]
theorem splL_len (t:ByteArray) (b:Int):(splL t b).length=(spl t b t.size).1.length+1:=by simp [splL]
theorem infoS:(Tryz.prog.info? 9).map (fun i=>(i.zero,i.size,i.bytes))=some (some (.string ByteArray.empty),1,16):=by kernel_rfl
theorem spl_step {B k:Nat} {t:ByteArray} {b:Int} {w wr w1:World} {v:Value} {o:Obj} (hB:B≤wr.heap.size) (hown:wr.ownsRow B 9 1 v (spl t b k).1.length ((spl t b k).1.map Value.string)) (hnx:Below B w wr) (hgrow:(wr.alloc o).grownBy w1 v.ownBlock):Below B w w1:=
 (hnx.alloc hB o).grown hgrow (by simp;omega) (fun j hj=>(hown.lt j hj).1)
theorem own_cast {B:Nat} {w:World} {v:Value} {n n':Nat} {xs xs':List Value} (h:w.ownsRow B 9 1 v n xs) (e:n=n') (e2:xs=xs'):w.ownsRow B 9 1 v n' xs':=by subst e e2;exact h
theorem own_out {B:Nat} {w:World} {v:Value} {L:List ByteArray} (h:w.ownsRow B 9 1 v L.length (L.map Value.string)) (hne:0<L.length) :
  ∃ g cap,v=.slice (some ⟨g,0,none⟩) L.length cap∧B≤g∧∀ j u,L[j]?=some u→w.cell? ⟨g,j,none⟩=some (.string u):=by
 have hc:=fun g hg=>h.cells (g:=g) hg;rcases h.2 with ⟨_,e⟩ | ⟨g,cap,cur,e,hb,_⟩
 ·omega
 ·refine ⟨g,cap,e,hb,fun j u hj=>?_⟩
  have:=hc g (by rw [e];rfl) j (.string u) (by simp [hj]);by_cases h0:j=0
  ·subst h0;simpa [Addr.add] using this
  ·simpa [Addr.add,h0] using this
set_option maxHeartbeats 2000000 in
theorem c_l01Split (t:ByteArray) (b:Int) (ht:t.size≤1048576) (hb:0≤b∧b≤255) (w:World) :
  Calls Tryz.prog 171 #[.string t,.int .u8 b] w fun e w'=>∃ g cap,e=.returned (.slice (some ⟨g,0,none⟩) (splL t b).length cap)∧w.heap.size≤g∧(∀ j u,(splL t b)[j]?=some u→w'.cell? ⟨g,j,none⟩=some (.string u))∧Below w.heap.size w w':=by
 obtain ⟨i0,hi,hz0,hz1,hz2⟩:=info_parts infoS;have hbt:=get_bt t;go_enter Tryz.func171,Tryz.ntmps171;go_wp2
 go_loopw [5,6,7] (fun v f i wr=>∃ k:Nat,k≤t.size∧i=.int .i64 k∧f=.int .i64 ((spl t b k).2:Nat)∧wr.ownsRow w.heap.size 9 1 v (spl t b k).1.length ((spl t b k).1.map Value.string)∧Below w.heap.size w wr) (fun v f i wr=>t.size - (Go.RowKit.intOf i).toNat)
 case atStart=>exact ⟨0,Nat.zero_le _,rfl,rfl,World.ownsRow_made w #[] 0 (Nat.le_refl _) (Nat.zero_le _) rfl,(Below.refl _ _).alloc (Nat.le_refl _) _⟩
 case round=>
  obtain ⟨k,hk,rfl,rfl,hown,hbel⟩:=hrel;have hsz:=hbel.size;obtain ⟨hf,hln⟩:=spl_le t b k;obtain ⟨F,hF⟩:∃ F,F=(spl t b k).2:=⟨_,rfl⟩;rw [← hF] at hf;rw [← hF];by_cases hlt:k<t.size
  ·have hki:(k:Int)<(t.size:Int):=by omega
   by_cases hh:bt t k=b
   ·have hh':(bt t k == b)=true:=by simp [hh]
    have HS:Hid (spl t b (k+1)=((spl t b k).1 ++ [t.extract F k],k+1)):=(by rw [spl_hit hh,hF]:spl t b (k+1)=((spl t b k).1 ++ [t.extract F k],k+1));have HF:Hid (F=(spl t b k).2):=hF;have HB:Hid (Below w.heap.size w wr):=hbel;have HO:Hid (wr.ownsRow w.heap.size 9 1 u5 (spl t b k).1.length ((spl t b k).1.map Value.string)):=hown;clear hF hh hown hbel
    go_wp2_with (first
     | (at_builtin;refine wpList_append_own _ rfl _ _ 48 rfl w.heap.size 9 i0 (.string ByteArray.empty) 1 16 Tryz.underlying48 hi hz0 hz1 hz2 rfl (by decide) _ _ _ rfl (HO.out.alloc _) ⟨wr.heap.size,0,none⟩ 1 1 [.string (t.extract F k)] rfl rfl ?c1 ?c2 ?c3 ?c4 ?c5 ?_))
    case c1=>
     intro j u hj
     match j,hj with
     | 0,hj=>simp at hj;subst hj;simp [Addr.add]
    case c2=>intro u hu;simp at hu;subst hu;rfl
    case c3=>unfold maxLen;omega
    case c4=>omega
    case c5=>simp;omega
    ·intro v' w1 hown' hgrow _
     have R:=spl_step (t:=t) (b:=b) (k:=k) hsz HO.out HB.out hgrow;have R2:w1.ownsRow w.heap.size 9 1 v' (spl t b (k+1)).1.length ((spl t b (k+1)).1.map Value.string):=own_cast hown' (by rw [HS.out];simp) (by rw [HS.out];simp);clear hown' hgrow HO HB;go_wp2;go_roundw
     case rel=>exact ⟨k+1,by omega,by go_num,by rw [HS.out];go_num,R2,R⟩
     case measure=>simp [Go.RowKit.intOf];omega
   ·have hh':(bt t k == b)=false:=beq_eq_false_iff_ne.2 hh
    have HS:Hid (spl t b (k+1)=spl t b k):=spl_miss hh;have HF:Hid (F=(spl t b k).2):=hF;have HB:Hid (Below w.heap.size w wr):=hbel;have HO:Hid (wr.ownsRow w.heap.size 9 1 u5 (spl t b k).1.length ((spl t b k).1.map Value.string)):=hown;clear hF hh hown hbel;go_wp2;go_roundw
    case rel=>exact ⟨k+1,by omega,by go_num,by rw [HS.out,HF.out],by rw [HS.out];exact HO.out,HB.out⟩
    case measure=>simp [Go.RowKit.intOf];omega
  ·have e:k=t.size:=by omega
   subst e;have hki:¬ (t.size:Int)<(t.size:Int):=by omega
   have hfi:(F:Int)≤(t.size:Int):=by omega
   have HF:Hid (F=(spl t b t.size).2):=hF;have HB:Hid (Below w.heap.size w wr):=hbel;have HO:Hid (wr.ownsRow w.heap.size 9 1 u5 (spl t b t.size).1.length ((spl t b t.size).1.map Value.string)):=hown;clear hF hown hbel
   go_wp2_with (first
     | (at_builtin;refine wpList_append_own _ rfl _ _ 48 rfl w.heap.size 9 i0 (.string ByteArray.empty) 1 16 Tryz.underlying48 hi hz0 hz1 hz2 rfl (by decide) _ _ _ rfl (HO.out.alloc _) ⟨wr.heap.size,0,none⟩ 1 1 [.string (t.extract F t.size)] rfl rfl ?d1 ?d2 ?d3 ?d4 ?d5 ?_))
   case d2=>first | rfl | simp [Value.oneCell'] | (intro u hu;simp at hu;subst hu;rfl)
   case d3=>unfold maxLen;omega
   case d4=>omega
   case d5=>first | omega | (simp;omega)
   ·intro v' w1 hown' hgrow _
    have R:=spl_step (t:=t) (b:=b) (k:=t.size) hsz HO.out HB.out hgrow;have R2:w1.ownsRow w.heap.size 9 1 v' (splL t b).length ((splL t b).map Value.string):=own_cast hown' (by rw [splL_len]) (by unfold splL;rw [← HF.out];simp);obtain ⟨g,cap,rfl,hg,hcell⟩:=own_out R2 (by rw [splL_len];omega);clear hown' hgrow HO HB;go_wp2;go_ret;exact ⟨g,cap,rfl,hg,hcell,R⟩
theorem toL_extract (t:ByteArray) (a b:Nat):toL (t.extract a b)=((toL t).take b).drop a:=by
 unfold toL;rw [ByteArray.data_extract,Array.toList_extract];rw [List.extract_eq_take_drop]
 try rw [List.drop_take]
theorem bt_toL (t:ByteArray) (k:Nat):bt t k=(((toL t)[k]?.map UInt8.toNat).getD 0:Nat):=by
 unfold bt
 split
 ·rename_i h
  have h2:k<(toL t).length:=by rw [toL_len];exact h
  rw [List.getElem?_eq_getElem h2];simp [toL]
  rfl
 ·rename_i h
  rw [List.getElem?_eq_none (by rw [toL_len];omega)];rfl
theorem bt_agree {t u:ByteArray} {k:Nat} (h:(toL t).take (k+1)=(toL u).take (k+1)):bt t k=bt u k:=by
 have e:∀ v:ByteArray,(toL v)[k]?=((toL v).take (k+1))[k]?:=fun v=>by rw [List.getElem?_take,if_pos (by omega)]
 rw [bt_toL,bt_toL,e t,e u,h]
theorem spl_agree {t u:ByteArray} {b:Int}:∀ k,(toL t).take k=(toL u).take k→spl t b k=spl u b k
 | 0,_=>rfl
 | k+1,h=>by
  have h1:(toL t).take k=(toL u).take k:=by
   have:=congrArg (List.take k) h
   rwa [List.take_take,List.take_take,Nat.min_eq_left (by omega)] at this
  have ih:=spl_agree (b:=b) k h1;have hb:=bt_agree h;by_cases hh:bt t k=b
  ·rw [spl_hit hh,spl_hit (by rw [← hb];exact hh),ih]
   have e:t.extract (spl u b k).2 k=u.extract (spl u b k).2 k:=toL_inj (by rw [toL_extract,toL_extract,h1]);rw [e]
  ·rw [spl_miss hh,spl_miss (by rw [← hb];exact hh),ih]
theorem spl_rest {t:ByteArray} {b:Int} {k:Nat}:∀ n,(∀ j,k≤j→j<k+n→¬ bt t j=b)→spl t b (k+n)=spl t b k
 | 0,_=>rfl
 | n+1,h=>by
  rw [← Nat.add_assoc,spl_miss (h (k+n) (by omega) (by omega)),spl_rest n (fun j h1 h2=>h j h1 (by omega))]
theorem no_bt {t:ByteArray} {c:UInt8} {x:List UInt8} {k:Nat} (hx:c ∉ x) (h:(toL t).drop k=x):∀ j,k≤j→j<k+x.length→¬ bt t j=(c.toNat:Int):=fun j h1 h2 e=>by
 have hg:(toL t)[j]?=x[j - k]?:=by rw [← h,List.getElem?_drop];congr 1;omega
 rw [bt_toL,hg,List.getElem?_eq_getElem (by omega)] at e;simp at e;have:x[j - k]'(by omega)=c:=UInt8.toNat_inj.1 (by exact_mod_cast e);exact hx (by rw [← this];exact List.getElem_mem _)
theorem splL_none {t:ByteArray} {c:UInt8} (h:c ∉ toL t):splL t (c.toNat:Int)=[t]:=by
 have h1:=spl_rest (t:=t) (b:=(c.toNat:Int)) (k:=0) t.size (fun j h1 h2=>no_bt (k:=0) h (by simp) j h1 (by rw [toL_len];exact h2));rw [Nat.zero_add] at h1;unfold splL;rw [h1];have e:t.extract 0 t.size=t:=toL_inj (by rw [toL_extract,List.drop_zero,List.take_of_length_le (by rw [toL_len];exact Nat.le_refl _)])
 show [] ++ [t.extract 0 t.size]=[t]
 rw [e];rfl
theorem splL_snoc {t u x:ByteArray} {c:UInt8} (ht:toL t=toL u ++ c :: toL x) (hx:c ∉ toL x):splL t (c.toNat:Int)=splL u (c.toNat:Int) ++ [x]:=by
 have hsz:t.size=u.size+1+x.size:=by rw [← toL_len,ht,List.length_append,List.length_cons,toL_len,toL_len];omega
 have hul:(toL u).length=u.size:=toL_len u;have hag:(toL t).take u.size=(toL u).take u.size:=by rw [ht,List.take_append_of_le_length (by omega)]
 have h1:=spl_agree (b:=(c.toNat:Int)) u.size hag
 have hhit:bt t u.size=(c.toNat:Int):=by
  rw [bt_toL,ht,List.getElem?_append_right (by omega),hul,Nat.sub_self];rfl
 have h2:=spl_hit hhit;rw [h1] at h2;have e1:t.extract (spl u (c.toNat:Int) u.size).2 u.size=u.extract (spl u (c.toNat:Int) u.size).2 u.size:=toL_inj (by rw [toL_extract,toL_extract,hag]);rw [e1] at h2
 have hdr:(toL t).drop (u.size+1)=toL x:=by
  rw [ht,← hul,← List.drop_drop,List.drop_left];rfl
 have h3:=spl_rest (t:=t) (b:=(c.toNat:Int)) (k:=u.size+1) x.size (fun j a1 a2=>no_bt hx hdr j a1 (by rw [toL_len];exact a2));rw [← hsz,h2] at h3;have e2:t.extract (u.size+1) t.size=x:=toL_inj (by rw [toL_extract,List.take_of_length_le (by rw [toL_len];exact Nat.le_refl _),hdr]);unfold splL;rw [h3]
 show (spl u (c.toNat:Int) u.size).1 ++ [u.extract (spl u (c.toNat:Int) u.size).2 u.size] ++ [t.extract (u.size+1) t.size]=_
 rw [e2]
theorem splL_join:∀ (n:Nat) {K:List ByteArray},K.length=n+1→(∀ x∈K,(44:UInt8) ∉ toL x)→splL ⟨(joinT K).toArray⟩ 44=K
 | 0,K,hl,hn=>by
  obtain ⟨y,rfl⟩:=List.length_eq_one_iff.1 hl;rw [joinT_one,mk_toL];exact splL_none (c:=44) (hn y List.mem_cons_self)
 | n+1,K,hl,hn=>by
  rcases List.eq_nil_or_concat K with rfl | ⟨K',x,rfl⟩
  ·simp at hl
  ·rw [List.concat_eq_append] at hl hn ⊢
   have hl2:K'.length=n+1:=by simpa using hl
   have ih:=splL_join n hl2 (fun y hy=>hn y (List.mem_append_left _ hy));have hne:K'≠[]:=fun e=>by rw [e] at hl2;simp at hl2
   have:=splL_snoc (t:=⟨(joinT (K' ++ [x])).toArray⟩) (u:=⟨(joinT K').toArray⟩) (x:=x) (c:=44) (by rw [toL_mk,toL_mk,joinT_snoc hne];simp) (hn x (by simp));have e:splL ⟨(joinT (K' ++ [x])).toArray⟩ 44=splL ⟨(joinT K').toArray⟩ 44 ++ [x]:=this;rw [e,ih]
theorem splL_head {t name:ByteArray} {r:List UInt8} (ht:toL t=toL name ++ 123 :: r) (h1:(123:UInt8) ∉ toL name) (h2:(123:UInt8) ∉ r):splL t 123=[name,⟨r.toArray⟩]:=by
 have:=splL_snoc (t:=t) (u:=name) (x:=⟨r.toArray⟩) (c:=123) (by rw [toL_mk];exact ht) (by rw [toL_mk];exact h2);have e:=splL_none (c:=123) h1;exact this.trans (by rw [e];rfl)
set_option maxRecDepth 10000
def MX (w:World):Prop:=∃ m,w.cell? ⟨0,0,none⟩=some (.int .i64 m)
theorem MX.past {w w':World} (h:MX w) (hb:Below w.heap.size w w'):MX w':=by
 obtain ⟨m,hm⟩:=h;exact ⟨m,cell_past hb hm⟩
theorem MX.drews {w:World} (h:MX w) (n:Nat):MX (w.drewN n):=h.past ⟨rfl,rfl,rfl,Nat.le_refl _,fun _ _=>rfl⟩
theorem mx_of {w:World} (h:w.ShapedOpen Tryz.prog):MX w:=Tryz.laysM145.s1_3 w h
def tagsOf (t:ByteArray):List ByteArray:=if t.size=0 then [] else Lib.splitB ⟨#[44]⟩ 0 (Lib.countB t ⟨#[44]⟩) t
theorem splitB_size (sep:ByteArray):∀ (k:Nat) (s:ByteArray),∀ u∈Lib.splitB sep 0 k s,u.size≤s.size
 | 0,s,u,h=>by
  rw [Lib.splitB_zero] at h;obtain rfl:=List.mem_singleton.1 h;exact Nat.le_refl _
 | k+1,s,u,h=>by
  unfold Lib.splitB at h
  split at h
  ·obtain rfl:=List.mem_singleton.1 h;exact Nat.le_refl _
  ·rcases List.mem_cons.1 h with rfl | h
   ·rw [size_extract];omega
   ·have:=splitB_size sep k _ u h
    rw [size_extract] at this;omega
theorem tagsOf_size (t:ByteArray):∀ u∈tagsOf t,u.size≤t.size:=fun u h=>by
 unfold tagsOf at h
 split at h
 ·cases h
 ·exact splitB_size _ _ _ u h
theorem tagsOf_len {t:ByteArray} (h:¬ t.size=0):(tagsOf t).length=Lib.countB t ⟨#[44]⟩+1:=by
 unfold tagsOf;rw [if_neg h];exact Lib.splitB_all ⟨#[44]⟩ (by decide) 0 _ t rfl
theorem tagsOf_le (t:ByteArray):(tagsOf t).length≤t.size+1:=by
 by_cases h:t.size=0
 ·unfold tagsOf;rw [if_pos h];simp
 ·rw [tagsOf_len h]
  have:=Lib.countB_le ⟨#[44]⟩ (by decide) t.size t (Nat.le_refl _);omega
def partsN (t:ByteArray):ByteArray:=⟨(Lib.cut (toL t) [123]).1.toArray⟩
def partsR (t:ByteArray):ByteArray:=⟨(Lib.cut (toL t) [123]).2.1.toArray⟩
def partsI (t:ByteArray):ByteArray:=⟨(Lib.trimSuffix (toL (partsR t)) [125]).toArray⟩
theorem mk_size (l:List UInt8):(⟨l.toArray⟩:ByteArray).size=l.length:=by rw [← toL_len,toL_mk]
theorem cut_size (t:ByteArray):(partsN t).size≤t.size∧(partsR t).size≤t.size:=by
 unfold partsN partsR;rw [mk_size,mk_size];have hl:=toL_len t;have hl2:t.data.toList.length=t.size:=hl;by_cases h:0≤Lib.index (toL t) [123]
 ·have e:Lib.cut (toL t) [123]=((toL t).take (Lib.index (toL t) [123]).toNat,(toL t).drop ((Lib.index (toL t) [123]).toNat + [(123:UInt8)].length),true):=by unfold Lib.cut;rw [if_pos h]
  rw [e];refine ⟨?_,?_⟩
  ·show ((toL t).take _).length≤_
   rw [List.length_take];exact Nat.le_trans (Nat.min_le_right _ _) (Nat.le_of_eq hl)
  ·show ((toL t).drop _).length≤_
   rw [List.length_drop];exact Nat.le_trans (Nat.sub_le _ _) (Nat.le_of_eq hl)
 ·have e:Lib.cut (toL t) [123]=(toL t,[],false):=by unfold Lib.cut;rw [if_neg h]
  rw [e];exact ⟨Nat.le_of_eq hl,Nat.zero_le _⟩
theorem trim_size (t:ByteArray):(partsI t).size≤(partsR t).size:=by
 unfold partsI;rw [mk_size];have:=toL_len (partsR t);unfold Lib.trimSuffix
 split
 ·rw [List.length_take];omega
 ·omega
theorem trim_at (l:List UInt8):Lib.trimSuffix (l ++ [125]) [125]=l:=by
 unfold Lib.trimSuffix Lib.hasSuffix;rw [if_pos (by simp)];simp
theorem parts_of {t name:ByteArray} {K:List ByteArray} (h:SerIs t name K):partsN t=name∧tagsOf (partsI t)=K:=by
 obtain ⟨h1,h2,h3,h4,h5,h6⟩:=h;have ht:toL t=toL name ++ 123 :: (joinT K ++ [125]):=by rw [h6];exact serT_toL name K
 have hc:=cut_at (r:=joinT K ++ [125]) (name_no h1);rw [← ht] at hc;refine ⟨?_,?_⟩
 ·unfold partsN;rw [hc];exact mk_toL name
 ·have e:partsI t=⟨(joinT K).toArray⟩:=by
   unfold partsI partsR;rw [hc,toL_mk];show (⟨(Lib.trimSuffix (joinT K ++ [125]) [125]).toArray⟩:ByteArray)=_;rw [trim_at]
  rw [e];unfold tagsOf;rw [mk_size];by_cases hK:K=[]
  ·subst hK;rfl
  ·rw [if_neg (fun h0=>joinT_pos h2 hK (List.eq_nil_of_length_eq_zero h0))]
   exact splitB_join h2 hK
theorem str_eqB (a b:ByteArray):(a.toList == b.toList)=decide (a=b):=by
 by_cases h:a=b
 ·subst h;simp
 ·rw [decide_eq_false h]
  cases e:(a.toList == b.toList) with
  | false=>rfl
  | true=>exact absurd (str_ext e) h
theorem right_eq {t:ByteArray} (h1:1≤t.size):decide (serW (partsN t) (tagsOf (partsI t))=t)=serRB t:=by
 by_cases h:serRP t
 ·rw [serRB_t h]
  obtain ⟨name,K,hs⟩:=h;obtain ⟨e1,e2⟩:=parts_of hs;rw [e1,e2];exact decide_eq_true (serW_of hs)
 ·rw [serRB_f h]
  exact decide_eq_false (fun e=>h (of_serW e (by omega)))
set_option maxHeartbeats 1000000 in
theorem c_splitTags {w:World} (t:ByteArray) (hm:MX w) (hs:t.size≤1000000) :
  Calls Tryz.prog 229 #[.string t] w fun e w'=>∃ ao n c,e=.returned (.slice ao n c)∧(tagsOf t).length=n∧StrsAt w' ao (tagsOf t)∧Below w.heap.size w w':=by
 by_cases h0:t.size=0
 ·have e:t=ByteArray.empty:=toL_inj (List.eq_nil_of_length_eq_zero (by rw [toL_len];exact h0))
  subst e;go_enter Tryz.func229,Tryz.ntmps229;go_wp2;go_ret;exact ⟨none,0,0,rfl,rfl,fun h=>absurd h (Nat.lt_irrefl 0),Below.refl _ _⟩
 ·have hne:t.toList.isEmpty=false:=by
   rw [ByteArray.toList_eq]
   cases e:t.data.toList with
   | nil=>exact absurd (by rw [← toL_len];show t.data.toList.length=0;rw [e];rfl) h0
   | cons x r=>rfl
  have HN:=hide (tagsOf_len h0);have HT:Hid (tagsOf t=Lib.splitB ⟨#[44]⟩ 0 (Lib.countB t ⟨#[44]⟩) t):=(by unfold tagsOf;rw [if_neg h0]:tagsOf t=Lib.splitB ⟨#[44]⟩ 0 (Lib.countB t ⟨#[44]⟩) t);obtain ⟨m,hm⟩:=hm;go_enter Tryz.func229,Tryz.ntmps229;go_wp2_with (go_at_call 251;refine (Tryz.strings_Split _ _ m _ (by omega) hm (by decide)).mono ?_;rintro e w1 ⟨rfl,rfl⟩);go_ret;refine ⟨some ⟨w.heap.size,0,none⟩,_,_,rfl,HN.out,fun _=>⟨w.heap.size,0,rfl,fun i u hu=>?_⟩,(Below.refl _ _).alloc (Nat.le_refl _) _⟩;rw [cell_of_row _ w.heap.size _ _ _ (0,0) (heap_alloc_new w _),Nat.zero_add];rw [HT.out] at hu;simp [hu]
set_option maxHeartbeats 1000000 in
theorem c_seriesParts {w:World} (t:ByteArray) (hm:MX w) (hs:t.size≤1000000) :
  Calls Tryz.prog 204 #[.string t] w fun e w'=>∃ ao n c,e=.returned (.tuple #[.string (partsN t),.slice ao n c])∧(tagsOf (partsI t)).length=n∧StrsAt w' ao (tagsOf (partsI t))∧Below w.heap.size w w':=by
 obtain ⟨z1,z2⟩:=cut_size t;have z3:=trim_size t;have HM:=hide hm;obtain ⟨m,hm⟩:=hm;go_enter Tryz.func204,Tryz.ntmps204;go_wp2_with fail;refine (Tryz.strings_Cut t ⟨#[123]⟩ m _ (by omega) hm).mono ?_;rintro e w1 ⟨rfl,k,rfl⟩;have e1:(⟨(Lib.cut t.data.toList (⟨#[123]⟩:ByteArray).data.toList).1.toArray⟩:ByteArray)=partsN t:=rfl;have e2:(⟨(Lib.cut t.data.toList (⟨#[123]⟩:ByteArray).data.toList).2.1.toArray⟩:ByteArray)=partsR t:=rfl;rw [e1,e2];clear e1 e2;go_wp2_with fail;refine (Tryz.strings_TrimSuffix (partsR t) ⟨#[125]⟩ _ (by omega)).mono ?_;rintro e w1 ⟨rfl,rfl⟩;have e3:(⟨(Lib.trimSuffix (partsR t).data.toList (⟨#[125]⟩:ByteArray).data.toList).toArray⟩:ByteArray)=partsI t:=rfl;rw [e3];clear e3;go_wp2_with fail;refine (c_splitTags (partsI t) (HM.out.drews k) (by omega)).mono ?_;rintro e w2 ⟨ao,n,c,rfl,hn,hS,hb⟩;go_wp2;go_ret2;exact ⟨ao,n,c,rfl,hn,hS,(bel_drews (Below.refl _ _) k).trans (hb.mono (Nat.le_refl _))⟩
set_option maxHeartbeats 1000000 in
theorem c_i_SeriesRight {w:World} (t:ByteArray) (hm:MX w) (hs:t.size≤maxLen) :
  Calls Tryz.prog 177 #[.string t] w fun e w'=>e=.returned (.bool (serRB t))∧Below w.heap.size w w':=by
 unfold maxLen at hs;by_cases h0:t.size<1
 ·have h0i:(t.size:Int)<1:=by omega
  have HE:Hid (serRB t=false):=serRB_f (fun ⟨name,K,h⟩=>by
   have:=h.2.2.2.2.2;have e:=congrArg ByteArray.size this;rw [serT_size] at e;omega)
  go_enter Tryz.func177,Tryz.ntmps177;go_wp2;go_ret;exact ⟨ret_bool HE.out.symm,Below.refl _ _⟩
 have h0i:¬ (t.size:Int)<1:=by omega
 by_cases h1:100<t.size
 ·have h1i:(100:Int)<(t.size:Int):=by omega
  have HE:Hid (serRB t=false):=serRB_f (fun ⟨name,K,h⟩=>by have:=h.2.2.2.2.1;omega);go_enter Tryz.func177,Tryz.ntmps177;go_wp2;go_ret;exact ⟨ret_bool HE.out.symm,Below.refl _ _⟩
 have h1i:¬ (100:Int)<(t.size:Int):=by omega
 have HE:=hide (right_eq (t:=t) (by omega));obtain ⟨z1,z2⟩:=cut_size t;have z3:=trim_size t;have z4:=tagsOf_le (partsI t);have z5:=tagsOf_size (partsI t);have HZ:=hide z5;clear z5;go_enter Tryz.func177,Tryz.ntmps177;go_wp2_with fail;refine (c_seriesParts t hm (by omega)).mono ?_;rintro e w2 ⟨ao,n,c,rfl,hn,hS,hb⟩;have HN:=hide hn;have HS:=hide hS;clear hn hS;go_wp2_with fail;refine (c_i_seriesWith (partsN t) c n (by unfold maxLen;omega) HN.out (by have:=HN.out;omega) (fun u hu=>by have:=HZ.out u hu;unfold maxLen;omega) HS.out).mono ?_;rintro e w3 ⟨rfl,hb3⟩;have HB:=hide (hb.trans (hb3.mono hb.size));have hq:=str_eqB (serW (partsN t) (tagsOf (partsI t))) t;rw [HE.out] at hq;clear hb hb3 HE;generalize serW (partsN t) (tagsOf (partsI t))=u at hq ⊢;go_wp2;go_ret;exact ⟨rfl,HB.out⟩
end Go.Proofs.YtmjogablacnlgaaGreatDoor
