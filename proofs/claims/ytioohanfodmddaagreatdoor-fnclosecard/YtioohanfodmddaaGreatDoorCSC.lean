/-
 Parts.
-/
import Derived.Test.YtioohanfodmddaaGreatDoorCSB
set_option maxHeartbeats 2000000
set_option linter.all false
namespace Go.Proofs.YtioohanfodmddaaGreatDoor
open Go.ChangeShapes Go.WideShapes Go.ChangeAt Go.RowKit Go.PlainAid Tryz
theorem mD8 {p:Prop} (h:p:=by go_wp2;go_ret;exact ⟨Qaw HE.symm,ZZb _ _⟩):p:=h
theorem size_extract (s:ByteArray) (a b:Nat):(s.extract a b).size=min b s.size - a:=oE
theorem Qof (s:ByteArray) (a b j:Nat) (hb:b<=s.size) (h:a+j<b):bt (s.extract a b) j=bt s (a+j):=by
 unfold bt;rw [dif_pos (show j<(s.extract a b).size by rw [size_extract];omega),dif_pos (show a+j<s.size by omega)];simp [ByteArray.getElem_extract]
def spl (t:ByteArray) (b:Int):Nat->List ByteArray×Nat
 | 0=>([],0)
 | k+1=>if bt t k=b then ((spl t b k).1 ++ [t.extract (spl t b k).2 k],k+1) else spl t b k
variable {name t u:ByteArray}
variable {b:Int}
variable {B k:Nat}
theorem Qfz (h:bt t k=b):spl t b (k+1)=((spl t b k).1 ++ [t.extract (spl t b k).2 k],k+1):=by
 show (if bt t k=b then _ else _)=_;rw [if_pos h]
theorem QdS (h:¬ bt t k=b):spl t b (k+1)=spl t b k:=by
 show (if bt t k=b then _ else _)=_;rw [if_neg h]
theorem Qqg (t:ByteArray) (b:Int):∀ k,(spl t b k).2<=k/\(spl t b k).1.length<=k
 | 0=>⟨ZZa _,ZZa _⟩
 | k+1=>by
  have ih:=Qqg t b k;by_cases h:bt t k=b
  ·rw [Qfz h];simp;omega
  ·rw [QdS h];omega
def Qa7 (t:ByteArray) (b:Int):List ByteArray:=(spl t b t.size).1 ++ [t.extract (spl t b t.size).2 t.size]
theorem Qgi (t:ByteArray) (b:Int):(Qa7 t b).length=(spl t b t.size).1.length+1:=by simp [Qa7]
theorem infoS:(prog.info? 9).map (fun i=>(i.zero,i.size,i.bytes))=some (some (.string ByteArray.empty),1,16):=oG
variable {w:World}
variable {v:Value}
theorem Qm4 {wr w1:World} {o:Obj} (hB:B<=wr.heap.size) (hown:wr.ownsRow B 9 1 v (spl t b k).1.length ((spl t b k).1.map Value.string)) (hnx:Below B w wr) (hgrow:(wr.alloc o).grownBy w1 v.ownBlock):Below B w w1:=
 (hnx.alloc hB o).grown hgrow oH (fun j hj=>(hown.lt j hj).1)
theorem Ql9 {n n':Nat} {xs xs':List Value} (h:w.ownsRow B 9 1 v n xs) (e:n=n') (e2:xs=xs'):w.ownsRow B 9 1 v n' xs':=by subst e e2;exact h
variable {L:List ByteArray}
theorem QuI (h:w.ownsRow B 9 1 v L.length (L.map Value.string)) (hne:0<L.length) :
  ∃ g cap,v=.slice (some ⟨g,0,none⟩) L.length cap/\B<=g/\∀ j u,L[j]?=some u->w.cell? ⟨g,j,none⟩=some (.string u):=by
 have hc:=fun g hg=>h.cells (g:=g) hg;rcases h.2 with ⟨_,e⟩ | ⟨g,cap,aa,e,hb,_⟩
 ·omega
 ·refine ⟨g,cap,e,hb,fun j u hj=>?_⟩
  have:=hc g oT j (.string u) (by simp [hj]);by_cases h0:j=0
  ·subst h0;simpa [Addr.add] using this
  ·simpa [Addr.add,h0] using this
theorem QsE (h:w.ownsRow B 9 1 v L.length (L.map Value.string)) (hne:0<L.length) :
  ∃ g cap,v=.slice (some ⟨g,0,none⟩) L.length cap/\B<=g/\L.length<=cap/\∀ j u,L[j]?=some u->w.cell? ⟨g,j,none⟩=some (.string u):=by
 obtain ⟨g,cap,e,hb,hc⟩:=QuI h hne;refine ⟨g,cap,e,hb,?_,hc⟩;rcases h.2 with ⟨_,e2⟩ | ⟨g2,aa,ac,e2,ab,h1,h2,h3,h4⟩
 ·omega
 ·rw [e] at e2
  cases e2
  omega
theorem Qkj (t:ByteArray) (b:Int) (ht:t.size<=1048576) (hb:0<=b/\b<=255) (w:World) :
  Calls prog 133 #[.string t,.int .u8 b] w fun e w'=>∃ g cap,e=.returned (.slice (some ⟨g,0,none⟩) (Qa7 t b).length cap)/\w.heap.size<=g/\(Qa7 t b).length<=cap/\(∀ j u,(Qa7 t b)[j]?=some u->w'.cell? ⟨g,j,none⟩=some (.string u))/\Bw w w':=by
 obtain ⟨i0,hi,ai,ah,ag⟩:=info_parts infoS;have ao:=get_bt t;go_enter func133,ntmps133;go_wp2
 go_loopw [5,6,7] (fun v f i wr=>∃ k:Nat,k<=t.size/\i=.int .i64 k/\f=.int .i64 ((spl t b k).2:Nat)/\wr.ownsRow w.heap.size 9 1 v (spl t b k).1.length ((spl t b k).1.map Value.string)/\Bw w wr) (fun v f i wr=>t.size - (Go.RowKit.intOf i).toNat)
 case atStart=>exact ⟨0,ZZj _,rfl,rfl,World.ownsRow_made w #[] 0 (ZZa _) (ZZj _) rfl,(ZZb _ _).alloc (ZZa _) _⟩
 case round=>
  obtain ⟨k,hk,rfl,rfl,ad,ac⟩:=hrel;have af:=ac.size;obtain ⟨hf,ap⟩:=Qqg t b k;obtain ⟨F,hF⟩:∃ F,F=(spl t b k).2:=⟨_,rfl⟩;rw [<- hF] at hf;rw [<- hF];by_cases am:k<t.size
  ·have aj:(k:Int)<(t.size:Int):=by omega
   by_cases hh:bt t k=b
   ·have ak:(bt t k == b)=true:=by simp [hh]
    have HS:Hid (spl t b (k+1)=((spl t b k).1 ++ [t.extract F k],k+1)):=Qaa (by rw [Qfz hh,hF]);have HF:Hid (F=(spl t b k).2):=hF;have HB:Hid (Bw w wr):=ac;have HO:Hid (wr.ownsRow w.heap.size 9 1 u5 (spl t b k).1.length ((spl t b k).1.map Value.string)):=ad;clear hF hh ad ac
    go_wp2_with (first
     | (at_builtin;refine wpList_append_own _ rfl _ _ 75 rfl w.heap.size 9 i0 (.string ByteArray.empty) 1 16 underlying75 hi ai ah ag rfl oF _ _ _ rfl (HO.alloc _) ⟨wr.heap.size,0,none⟩ 1 1 [.string (t.extract F k)] rfl rfl ?c1 ?c2 ?c3 ?c4 ?c5 ?_))
    case c1=>
     intro j u hj
     match j,hj with
     | 0,hj=>simp at hj;subst hj;simp [Addr.add]
    case c2=>intro u hu;simp at hu;subst hu;rfl
    case c3=>unfold maxLen;omega
    case c4=>omega
    case c5=>simp;omega
    ·intro v' w1 aa ab _
     have R:=Qm4 (t:=t) (b:=b) (k:=k) af HO HB ab;have R2:w1.ownsRow w.heap.size 9 1 v' (spl t b (k+1)).1.length ((spl t b (k+1)).1.map Value.string):=Ql9 aa (by rw [HS.out];simp) (by rw [HS.out];simp);clear aa ab HO HB;go_wp2;go_roundw
     case rel=>exact ⟨k+1,by omega,by go_num,by rw [HS.out];go_num,R2,R⟩
     case measure=>simp [zI];omega
   ·have ak:(bt t k == b)=false:=ZZf.2 hh
    have HS:Hid (spl t b (k+1)=spl t b k):=QdS hh;have HF:Hid (F=(spl t b k).2):=hF;have HB:Hid (Bw w wr):=ac;have HO:Hid (wr.ownsRow w.heap.size 9 1 u5 (spl t b k).1.length ((spl t b k).1.map Value.string)):=ad;clear hF hh ad ac;go_wp2;go_roundw
    case rel=>exact ⟨k+1,by omega,by go_num,by rw [HS.out,HF.out],by rw [HS.out];exact HO.out,HB⟩
    case measure=>simp [zI];omega
  ·have e:k=t.size:=by omega
   subst e;have aj:¬ (t.size:Int)<(t.size:Int):=oB
   have an:(F:Int)<=(t.size:Int):=oB
   have HF:Hid (F=(spl t b t.size).2):=hF;have HB:Hid (Bw w wr):=ac;have HO:Hid (wr.ownsRow w.heap.size 9 1 u5 (spl t b t.size).1.length ((spl t b t.size).1.map Value.string)):=ad;clear hF ad ac
   go_wp2_with (first
     | (at_builtin;refine wpList_append_own _ rfl _ _ 75 rfl w.heap.size 9 i0 (.string ByteArray.empty) 1 16 underlying75 hi ai ah ag rfl oF _ _ _ rfl (HO.alloc _) ⟨wr.heap.size,0,none⟩ 1 1 [.string (t.extract F t.size)] rfl rfl ?d1 ?d2 ?d3 ?d4 ?d5 ?_))
   case d2=>first | rfl | simp [Value.oneCell'] | (intro u hu;simp at hu;subst hu;rfl)
   case d3=>unfold maxLen;omega
   case d4=>omega
   case d5=>first | omega | (simp;omega)
   ·intro v' w1 aa ab _
    have R:=Qm4 (t:=t) (b:=b) (k:=t.size) af HO HB ab;have R2:w1.ownsRow w.heap.size 9 1 v' (Qa7 t b).length ((Qa7 t b).map Value.string):=Ql9 aa (by rw [Qgi]) (by unfold Qa7;rw [<- HF.out];simp);obtain ⟨g,cap,rfl,hg,al,ae⟩:=QsE R2 (by rw [Qgi];omega);clear aa ab HO HB;go_wp2;go_ret;exact ⟨g,cap,rfl,hg,al,ae,R⟩
theorem Qd0 (t:ByteArray) (b:Int) (ht:t.size<=1048576) (hb:0<=b/\b<=255) (w:World) :
  Calls prog 133 #[.string t,.int .u8 b] w fun e w'=>∃ g cap,e=.returned (.slice (some ⟨g,0,none⟩) (Qa7 t b).length cap)/\w.heap.size<=g/\(∀ j u,(Qa7 t b)[j]?=some u->w'.cell? ⟨g,j,none⟩=some (.string u))/\Bw w w':=
 (Qkj t b ht hb w).mono (fun _ _ ⟨g,c,h1,h2,_,h4⟩=>⟨g,c,h1,h2,h4⟩)
theorem Qa6 (t:ByteArray) (a b:Nat):toL (t.extract a b)=((toL t).take b).drop a:=by
 unfold toL;rw [ByteArray.data_extract,Array.toList_extract];rw [List.extract_eq_take_drop]
 try rw [List.drop_take]
theorem QfQ (t:ByteArray) (k:Nat):bt t k=(((toL t)[k]?.map UInt8.toNat).getD 0:Nat):=by
 unfold bt
 split
 ·rename_i h
  have h2:k<(toL t).length:=by rw [Qam];exact h
  rw [List.getElem?_eq_getElem h2];simp [toL]
  rfl
 ·rename_i h
  rw [List.getElem?_eq_none (by rw [Qam];omega)];rfl
theorem QsY (h:(toL t).take (k+1)=(toL u).take (k+1)):bt t k=bt u k:=by
 have e:∀ v:ByteArray,(toL v)[k]?=((toL v).take (k+1))[k]?:=fun v=>by rw [List.getElem?_take,if_pos oB]
 rw [QfQ,QfQ,e t,e u,h]
theorem QjS {t u:ByteArray} {b:Int}:∀ k,(toL t).take k=(toL u).take k->spl t b k=spl u b k
 | 0,_=>rfl
 | k+1,h=>by
  have h1:(toL t).take k=(toL u).take k:=by
   have:=congrArg (List.take k) h
   rwa [List.take_take,List.take_take,Nat.min_eq_left oB] at this
  have ih:=QjS (b:=b) k h1;have hb:=QsY h;by_cases hh:bt t k=b
  ·rw [Qfz hh,Qfz (by rw [<- hb];exact hh),ih]
   have e:t.extract (spl u b k).2 k=u.extract (spl u b k).2 k:=QaW (by rw [Qa6,Qa6,h1]);rw [e]
  ·rw [QdS hh,QdS (by rw [<- hb];exact hh),ih]
theorem Qit {t:ByteArray} {b:Int} {k:Nat}:∀ n,(∀ j,k<=j->j<k+n->¬ bt t j=b)->spl t b (k+n)=spl t b k
 | 0,_=>rfl
 | n+1,h=>by
  rw [<- Nat.add_assoc,QdS (h (k+n) oB oB),Qit n (fun j h1 h2=>h j h1 oB)]
variable {c:UInt8}
theorem no_bt {x:List UInt8} (hx:c ∉ x) (h:(toL t).drop k=x):∀ j,k<=j->j<k+x.length->¬ bt t j=(c.toNat:Int):=fun j h1 h2 e=>by
 have hg:(toL t)[j]?=x[j - k]?:=by rw [<- h,List.getElem?_drop];congr 1;omega
 rw [QfQ,hg,List.getElem?_eq_getElem oB] at e;simp at e;have:x[j - k]'oB=c:=UInt8.toNat_inj.1 (by exact_mod_cast e);exact hx (by rw [<- this];exact List.getElem_mem _)
theorem Qha (h:c ∉ toL t):Qa7 t (c.toNat:Int)=[t]:=by
 have h1:=Qit (t:=t) (b:=(c.toNat:Int)) (k:=0) t.size (fun j h1 h2=>no_bt (k:=0) h oE j h1 (by rw [Qam];exact h2));rw [Nat.zero_add] at h1;unfold Qa7;rw [h1];have e:t.extract 0 t.size=t:=QaW (by rw [Qa6,List.drop_zero,List.take_of_length_le oQ])
 show [] ++ [t.extract 0 t.size]=[t]
 rw [e];rfl
theorem QgY {x:ByteArray} (ht:toL t=toL u ++ c :: toL x) (hx:c ∉ toL x):Qa7 t (c.toNat:Int)=Qa7 u (c.toNat:Int) ++ [x]:=by
 have ae:t.size=u.size+1+x.size:=by rw [<- Qam,ht,List.length_append,List.length_cons,Qam,Qam];omega
 have ab:(toL u).length=u.size:=Qam u;have ad:(toL t).take u.size=(toL u).take u.size:=by rw [ht,List.take_append_of_le_length oB]
 have h1:=QjS (b:=(c.toNat:Int)) u.size ad
 have aa:bt t u.size=(c.toNat:Int):=by
  rw [QfQ,ht,List.getElem?_append_right oB,ab,Nat.sub_self];rfl
 have h2:=Qfz aa;rw [h1] at h2;have e1:t.extract (spl u (c.toNat:Int) u.size).2 u.size=u.extract (spl u (c.toNat:Int) u.size).2 u.size:=QaW (by rw [Qa6,Qa6,ad]);rw [e1] at h2
 have ac:(toL t).drop (u.size+1)=toL x:=by
  rw [ht,<- ab,<- List.drop_drop,List.drop_left];rfl
 have h3:=Qit (t:=t) (b:=(c.toNat:Int)) (k:=u.size+1) x.size (fun j a1 a2=>no_bt hx ac j a1 (by rw [Qam];exact a2));rw [<- ae,h2] at h3;have e2:t.extract (u.size+1) t.size=x:=QaW (by rw [Qa6,List.take_of_length_le oQ,ac]);unfold Qa7;rw [h3]
 show (spl u (c.toNat:Int) u.size).1 ++ [u.extract (spl u (c.toNat:Int) u.size).2 u.size] ++ [t.extract (u.size+1) t.size]=_
 rw [e2]
theorem QkV:∀ (n:Nat) {K:List ByteArray},K.length=n+1->(∀ x∈K,(44:UInt8) ∉ toL x)->Qa7 ⟨(QaN K).toArray⟩ 44=K
 | 0,K,hl,hn=>by
  obtain ⟨y,rfl⟩:=List.length_eq_one_iff.1 hl;rw [Qdw,Qee];exact Qha (c:=44) (hn y List.mem_cons_self)
 | n+1,K,hl,hn=>by
  rcases List.eq_nil_or_concat K with rfl | ⟨K',x,rfl⟩
  ·simp at hl
  ·rw [List.concat_eq_append] at hl hn ⊢
   have hl2:K'.length=n+1:=by simpa using hl
   have ih:=QkV n hl2 (fun y hy=>hn y (List.mem_append_left _ hy));have aa:K'≠[]:=fun e=>by rw [e] at hl2;simp at hl2
   have:=QgY (t:=⟨(QaN (K' ++ [x])).toArray⟩) (u:=⟨(QaN K').toArray⟩) (x:=x) (c:=44) (by rw [QaQ,QaQ,QfB aa];simp) (hn x oE);have e:Qa7 ⟨(QaN (K' ++ [x])).toArray⟩ 44=Qa7 ⟨(QaN K').toArray⟩ 44 ++ [x]:=this;rw [e,ih]
theorem QpU {r:List UInt8} (ht:toL t=toL name ++ 123 :: r) (h1:(123:UInt8) ∉ toL name) (h2:(123:UInt8) ∉ r):Qa7 t 123=[name,⟨r.toArray⟩]:=by
 have:=QgY (t:=t) (u:=name) (x:=⟨r.toArray⟩) (c:=123) (by rw [QaQ];exact ht) (by rw [QaQ];exact h2);have e:=Qha (c:=123) h1;exact this.trans oT
set_option maxRecDepth 10000
def MX (w:World):Prop:=∃ m,w.cell? ⟨1,0,none⟩=some (.int .i64 m)
theorem MX.past {w':World} (h:MX w) (hb:Bw w w'):MX w':=by
 obtain ⟨m,hm⟩:=h;exact ⟨m,Qab hb hm⟩
theorem MX.drews (h:MX w) (n:Nat):MX (w.drewN n):=h.past ⟨rfl,rfl,rfl,ZZa _,fun _ _=>rfl⟩
theorem mx_of (h:w.ShapedOpen prog):MX w:=Tryz.laysM145.s1_3 w h
def QbN (t:ByteArray):List ByteArray:=if t.size=0 then [] else Lib.splitB ⟨#[44]⟩ 0 (Lib.countB t ⟨#[44]⟩) t
theorem Qc6 (sep:ByteArray):∀ (k:Nat) (s:ByteArray),∀ u∈Lib.splitB sep 0 k s,u.size<=s.size
 | 0,s,u,h=>by
  rw [Lib.splitB_zero] at h;obtain rfl:=List.mem_singleton.1 h;exact ZZa _
 | k+1,s,u,h=>by
  unfold Lib.splitB at h
  split at h
  ·obtain rfl:=List.mem_singleton.1 h;exact ZZa _
  ·rcases List.mem_cons.1 h with rfl | h
   ·rw [size_extract];omega
   ·have:=Qc6 sep k _ u h
    rw [size_extract] at this;omega
theorem QlY (t:ByteArray):∀ u∈QbN t,u.size<=t.size:=fun u h=>by
 unfold QbN at h
 split at h
 ·cases h
 ·exact Qc6 _ _ _ u h
theorem QhR (h:¬ t.size=0):(QbN t).length=Lib.countB t ⟨#[44]⟩+1:=by
 unfold QbN;rw [if_neg h];exact Lib.splitB_all ⟨#[44]⟩ oF 0 _ t rfl
theorem Qq1 (t:ByteArray):(QbN t).length<=t.size+1:=by
 by_cases h:t.size=0
 ·unfold QbN;rw [if_pos h];simp
 ·rw [QhR h]
  have:=Lib.countB_le ⟨#[44]⟩ oF t.size t (ZZa _);omega
def Qd7 (t:ByteArray):ByteArray:=⟨(Lib.cut (toL t) [123]).1.toArray⟩
def QeE (t:ByteArray):ByteArray:=⟨(Lib.cut (toL t) [123]).2.1.toArray⟩
def Qcu (t:ByteArray):ByteArray:=⟨(Lib.trimSuffix (toL (QeE t)) [125]).toArray⟩
theorem Qeg (l:List UInt8):(⟨l.toArray⟩:ByteArray).size=l.length:=by rw [<- Qam,QaQ]
theorem Qmo (t:ByteArray):(Qd7 t).size<=t.size/\(QeE t).size<=t.size:=by
 unfold Qd7 QeE;rw [Qeg,Qeg];have hl:=Qam t;have aa:t.data.toList.length=t.size:=hl;by_cases h:0<=Lib.index (toL t) [123]
 ·have e:Lib.cut (toL t) [123]=((toL t).take (Lib.index (toL t) [123]).toNat,(toL t).drop ((Lib.index (toL t) [123]).toNat + [(123:UInt8)].length),true):=by unfold Lib.cut;rw [if_pos h]
  rw [e];refine ⟨?_,?_⟩
  ·show ((toL t).take _).length<=_
   rw [List.length_take];exact Nat.le_trans (Nat.min_le_right _ _) (Nat.le_of_eq hl)
  ·show ((toL t).drop _).length<=_
   rw [List.length_drop];exact Nat.le_trans (Nat.sub_le _ _) (Nat.le_of_eq hl)
 ·have e:Lib.cut (toL t) [123]=(toL t,[],false):=by unfold Lib.cut;rw [if_neg h]
  rw [e];exact ⟨Nat.le_of_eq hl,ZZj _⟩
theorem Qj0 (t:ByteArray):(Qcu t).size<=(QeE t).size:=by
 unfold Qcu;rw [Qeg];have:=Qam (QeE t);unfold Lib.trimSuffix
 split
 ·rw [List.length_take];omega
 ·omega
theorem Qvb (l:List UInt8):Lib.trimSuffix (l ++ [125]) [125]=l:=by
 unfold Lib.trimSuffix Lib.hasSuffix;rw [if_pos oE];simp
theorem QrK {K:List ByteArray} (h:QhA t name K):Qd7 t=name/\QbN (Qcu t)=K:=by
 obtain ⟨h1,h2,h3,h4,h5,h6⟩:=h;have ht:toL t=toL name ++ 123 :: (QaN K ++ [125]):=by rw [h6];exact QnF name K
 have hc:=Qne (r:=QaN K ++ [125]) (QpK h1);rw [<- ht] at hc;refine ⟨?_,?_⟩
 ·unfold Qd7;rw [hc];exact Qee name
 ·have e:Qcu t=⟨(QaN K).toArray⟩:=by
   unfold Qcu QeE;rw [hc,QaQ];show (⟨(Lib.trimSuffix (QaN K ++ [125]) [125]).toArray⟩:ByteArray)=_;rw [Qvb]
  rw [e];unfold QbN;rw [Qeg];by_cases hK:K=[]
  ·subst hK;rfl
  ·rw [if_neg (fun h0=>QkI h2 hK (List.eq_nil_of_length_eq_zero h0))]
   exact QlI h2 hK
theorem Qjd (a b:ByteArray):(a.toList == b.toList)=decide (a=b):=by
 by_cases h:a=b
 ·subst h;simp
 ·rw [decide_eq_false h]
  cases e:(a.toList == b.toList) with
  | false=>rfl
  | true=>exact absurd (QgR e) h
theorem Qsh (h1:1<=t.size):decide (QbM (Qd7 t) (QbN (Qcu t))=t)=Qbl t:=by
 by_cases h:QbX t
 ·rw [Qcl h]
  obtain ⟨aa,K,hs⟩:=h;obtain ⟨e1,e2⟩:=QrK hs;rw [e1,e2];exact ZZh (Qqx hs)
 ·rw [QbP h]
  exact ZZg (fun e=>h (Ql8 e oB))
theorem Qlp (t:ByteArray) (hm:MX w) (hs:t.size<=1000000) :
  Calls prog 267 #[.string t] w fun e w'=>∃ ao n c,e=.returned (.slice ao n c)/\(QbN t).length=n/\Qat w' ao (QbN t)/\Bw w w':=by
 by_cases h0:t.size=0
 ·have e:t=ByteArray.empty:=QaW (List.eq_nil_of_length_eq_zero (by rw [Qam];exact h0))
  subst e;go_enter func267,ntmps267;go_wp2;go_ret;exact ⟨none,0,0,rfl,rfl,fun h=>absurd h (Nat.lt_irrefl 0),ZZb _ _⟩
 ·have aa:t.toList.isEmpty=false:=by
   rw [ByteArray.toList_eq]
   cases e:t.data.toList with
   | nil=>exact absurd OU h0
   | cons x r=>rfl
  have HN:=Qaa (QhR h0);have HT:Hid (QbN t=Lib.splitB ⟨#[44]⟩ 0 (Lib.countB t ⟨#[44]⟩) t):=Qaa (by unfold QbN;rw [if_neg h0]);obtain ⟨m,hm⟩:=hm;go_enter func267,ntmps267;go_wp2_with (go_at_call 172;refine (Tryz.strings_Split _ _ m _ oB hm oF).mono ?_;rintro e w1 ⟨rfl,rfl⟩);go_ret;refine ⟨some ⟨w.heap.size,0,none⟩,_,_,rfl,HN,fun _=>⟨w.heap.size,0,rfl,fun i u hu=>?_⟩,(ZZb _ _).alloc (ZZa _) _⟩;rw [cell_of_row _ w.heap.size _ _ _ (0,0) (heap_alloc_new w _),Nat.zero_add];rw [HT.out] at hu;simp [hu]
theorem Qjc (t:ByteArray) (hm:MX w) (hs:t.size<=1000000) :
  Calls prog 236 #[.string t] w fun e w'=>∃ ao n c,e=.returned (.tuple #[.string (Qd7 t),.slice ao n c])/\(QbN (Qcu t)).length=n/\Qat w' ao (QbN (Qcu t))/\Bw w w':=by
 obtain ⟨z1,z2⟩:=Qmo t;have z3:=Qj0 t;have HM:=Qaa hm;obtain ⟨m,hm⟩:=hm;go_enter func236,ntmps236;go_wp2_with fail;refine (Tryz.strings_Cut t ⟨#[123]⟩ m _ oB hm).mono ?_;rintro e w1 ⟨rfl,k,rfl⟩;have e1:(⟨(Lib.cut t.data.toList (⟨#[123]⟩:ByteArray).data.toList).1.toArray⟩:ByteArray)=Qd7 t:=rfl;have e2:(⟨(Lib.cut t.data.toList (⟨#[123]⟩:ByteArray).data.toList).2.1.toArray⟩:ByteArray)=QeE t:=rfl;rw [e1,e2];clear e1 e2;go_wp2_with fail;refine (Tryz.strings_TrimSuffix (QeE t) ⟨#[125]⟩ _ oB).mono ?_;rintro e w1 ⟨rfl,rfl⟩;have e3:(⟨(Lib.trimSuffix (QeE t).data.toList (⟨#[125]⟩:ByteArray).data.toList).toArray⟩:ByteArray)=Qcu t:=rfl;rw [e3];clear e3;go_wp2_with fail;refine (Qlp (Qcu t) (HM.drews k) oB).mono ?_;rintro e w2 ⟨ao,n,c,rfl,hn,hS,hb⟩;go_wp2;go_ret2;exact ⟨ao,n,c,rfl,hn,hS,(Qap (ZZb _ _) k).trans (hb.mono (ZZa _))⟩
theorem Qhd (t:ByteArray) (hm:MX w) (hs:t.size<=maxLen) :
  Calls prog 184 #[.string t] w fun e w'=>e=.returned (.bool (Qbl t))/\Bw w w':=by
 unfold maxLen at hs;by_cases h0:t.size<1
 ·have ac:(t.size:Int)<1:=by omega
  have HE:Hid (Qbl t=false):=QbP (fun ⟨name,K,h⟩=>by
   have:=h.2.2.2.2.2;have e:=congrArg ByteArray.size this;rw [Qkd] at e;omega)
  go_enter func184,ntmps184;exact mD8
 have ac:¬ (t.size:Int)<1:=oB
 by_cases h1:100<t.size
 ·have ab:(100:Int)<(t.size:Int):=by omega
  have HE:Hid (Qbl t=false):=QbP (fun ⟨name,K,h⟩=>by have:=h.2.2.2.2.1;omega);go_enter func184,ntmps184;exact mD8
 have ab:¬ (100:Int)<(t.size:Int):=oB
 have HE:=Qaa (Qsh (t:=t) oB);obtain ⟨z1,z2⟩:=Qmo t;have z3:=Qj0 t;have z4:=Qq1 (Qcu t);have z5:=QlY (Qcu t);have HZ:=Qaa z5;clear z5;go_enter func184,ntmps184;go_wp2_with fail;refine (Qjc t hm oB).mono ?_;rintro e w2 ⟨ao,n,c,rfl,hn,hS,hb⟩;have HN:=Qaa hn;have HS:=Qaa hS;clear hn hS;go_wp2_with fail;refine (Qd9 (Qd7 t) c n oC HN (oA HN.out) (fun u hu=>by have:=HZ.out u hu;unfold maxLen;omega) HS).mono ?_;rintro e w3 ⟨rfl,aa⟩;have HB:=Qaa (hb.trans (aa.mono hb.size));have hq:=Qjd (QbM (Qd7 t) (QbN (Qcu t))) t;rw [HE.out] at hq;clear hb aa HE;generalize QbM (Qd7 t) (QbN (Qcu t))=u at hq ⊢;go_wp2;go_ret;exact ⟨rfl,HB⟩
end Go.Proofs.YtioohanfodmddaaGreatDoor
