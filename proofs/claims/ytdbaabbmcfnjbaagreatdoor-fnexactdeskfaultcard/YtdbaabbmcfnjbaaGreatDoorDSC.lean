/-
 Parts.
-/
import Derived.Test.YtdbaabbmcfnjbaaGreatDoorDSB
set_option maxHeartbeats 2000000
set_option linter.all false
namespace Go.Proofs.YtdbaabbmcfnjbaaGreatDoor
open Go.ChangeShapes Go.WideShapes Go.ChangeAt Go.RowKit Go.PlainAid Tryz
theorem size_extract (s:ByteArray) (a b:Nat):(s.extract a b).size=min b s.size - a:=by simp
theorem QgV (s:ByteArray) (a b j:Nat) (hb:b<=s.size) (h:a+j<b):bt (s.extract a b) j=bt s (a+j):=by
 unfold bt;rw [dif_pos (show j<(s.extract a b).size by rw [size_extract];omega),dif_pos (show a+j<s.size by omega)];simp [ByteArray.getElem_extract]
def spl (t:ByteArray) (b:Int):Nat->List ByteArray×Nat
 | 0=>([],0)
 | k+1=>if bt t k=b then ((spl t b k).1 ++ [t.extract (spl t b k).2 k],k+1) else spl t b k
variable {a name r t u:ByteArray}
variable {b:Int}
variable {B k q:Nat}
theorem Qcu (h:bt t k=b):spl t b (k+1)=((spl t b k).1 ++ [t.extract (spl t b k).2 k],k+1):=by
 show (if bt t k=b then _ else _)=_;rw [if_pos h]
theorem QbE (h:¬ bt t k=b):spl t b (k+1)=spl t b k:=by
 show (if bt t k=b then _ else _)=_;rw [if_neg h]
theorem Qfb (t:ByteArray) (b:Int):∀ k,(spl t b k).2<=k/\(spl t b k).1.length<=k
 | 0=>⟨ZZa _,ZZa _⟩
 | k+1=>by
  have ih:=Qfb t b k;by_cases h:bt t k=b
  ·rw [Qcu h];simp;omega
  ·rw [QbE h];omega
def QaG (t:ByteArray) (b:Int):List ByteArray:=(spl t b t.size).1 ++ [t.extract (spl t b t.size).2 t.size]
theorem Qcs (t:ByteArray) (b:Int):(QaG t b).length=(spl t b t.size).1.length+1:=by simp [QaG]
theorem infoS:(prog.info? 9).map (fun i=>(i.zero,i.size,i.bytes))=some (some (.string ByteArray.empty),1,16):=by kernel_rfl
variable {w:World}
variable {v:Value}
theorem QlE {wr w1:World} {o:Obj} (hB:B<=wr.heap.size) (hown:wr.ownsRow B 9 1 v (spl t b k).1.length ((spl t b k).1.map Value.string)) (hnx:Below B w wr) (hgrow:(wr.alloc o).grownBy w1 v.ownBlock):Below B w w1:=
 (hnx.alloc hB o).grown hgrow (by simp;omega) (fun j hj=>(hown.lt j hj).1)
theorem Ql1 {n n':Nat} {xs xs':List Value} (h:w.ownsRow B 9 1 v n xs) (e:n=n') (e2:xs=xs'):w.ownsRow B 9 1 v n' xs':=by subst e e2;exact h
variable {K L:List ByteArray}
theorem Qtc (h:w.ownsRow B 9 1 v L.length (L.map Value.string)) (hne:0<L.length) :
  ∃ g cap,v=.slice (some ⟨g,0,none⟩) L.length cap/\B<=g/\∀ j u,L[j]?=some u->w.cell? ⟨g,j,none⟩=some (.string u):=by
 have hc:=fun g hg=>h.cells (g:=g) hg;rcases h.2 with ⟨_,e⟩ | ⟨g,cap,aa,e,hb,_⟩
 ·omega
 ·refine ⟨g,cap,e,hb,fun j u hj=>?_⟩
  have:=hc g (by rw [e];rfl) j (.string u) (by simp [hj]);by_cases h0:j=0
  ·subst h0;simpa [Addr.add] using this
  ·simpa [Addr.add,h0] using this
theorem QqZ (h:w.ownsRow B 9 1 v L.length (L.map Value.string)) (hne:0<L.length) :
  ∃ g cap,v=.slice (some ⟨g,0,none⟩) L.length cap/\B<=g/\L.length<=cap/\∀ j u,L[j]?=some u->w.cell? ⟨g,j,none⟩=some (.string u):=by
 obtain ⟨g,cap,e,hb,hc⟩:=Qtc h hne;refine ⟨g,cap,e,hb,?_,hc⟩;rcases h.2 with ⟨_,e2⟩ | ⟨g2,aa,ab,e2,ac,h1,h2,h3,h4⟩
 ·omega
 ·rw [e] at e2
  cases e2
  omega
theorem Qey (t:ByteArray) (b:Int) (ht:t.size<=1048576) (hb:0<=b/\b<=255) (w:World) :
  Calls prog 9 #[.string t,.int .u8 b] w fun e w'=>∃ g cap,e=.returned (.slice (some ⟨g,0,none⟩) (QaG t b).length cap)/\w.heap.size<=g/\(QaG t b).length<=cap/\(∀ j u,(QaG t b)[j]?=some u->w'.cell? ⟨g,j,none⟩=some (.string u))/\Below w.heap.size w w':=by
 obtain ⟨i0,hi,af,ai,ah⟩:=info_parts infoS;have ao:=get_bt t;go_enter func9,ntmps9;go_wp2
 go_loopw [5,6,7] (fun v f i wr=>∃ k:Nat,k<=t.size/\i=.int .i64 k/\f=.int .i64 ((spl t b k).2:Nat)/\wr.ownsRow w.heap.size 9 1 v (spl t b k).1.length ((spl t b k).1.map Value.string)/\Below w.heap.size w wr) (fun v f i wr=>t.size - (Go.RowKit.intOf i).toNat)
 case atStart=>exact ⟨0,ZZj _,rfl,rfl,World.ownsRow_made w #[] 0 (ZZa _) (ZZj _) rfl,(ZZb _ _).alloc (ZZa _) _⟩
 case round=>
  obtain ⟨k,hk,rfl,rfl,ad,ac⟩:=hrel;have ag:=ac.size;obtain ⟨hf,am⟩:=Qfb t b k;obtain ⟨F,hF⟩:∃ F,F=(spl t b k).2:=⟨_,rfl⟩;rw [<- hF] at hf;rw [<- hF];by_cases ap:k<t.size
  ·have aj:(k:Int)<(t.size:Int):=by omega
   by_cases hh:bt t k=b
   ·have al:(bt t k == b)=true:=by simp [hh]
    have HS:Hid (spl t b (k+1)=((spl t b k).1 ++ [t.extract F k],k+1)):=(by rw [Qcu hh,hF]:spl t b (k+1)=((spl t b k).1 ++ [t.extract F k],k+1));have HF:Hid (F=(spl t b k).2):=hF;have HB:Hid (Below w.heap.size w wr):=ac;have HO:Hid (wr.ownsRow w.heap.size 9 1 u5 (spl t b k).1.length ((spl t b k).1.map Value.string)):=ad;clear hF hh ad ac
    go_wp2_with (first
     | (at_builtin;refine wpList_append_own _ rfl _ _ 30 rfl w.heap.size 9 i0 (.string ByteArray.empty) 1 16 underlying30 hi af ai ah rfl (by decide) _ _ _ rfl (HO.out.alloc _) ⟨wr.heap.size,0,none⟩ 1 1 [.string (t.extract F k)] rfl rfl ?c1 ?c2 ?c3 ?c4 ?c5 ?_))
    case c1=>
     intro j u hj
     match j,hj with
     | 0,hj=>simp at hj;subst hj;simp [Addr.add]
    case c2=>intro u hu;simp at hu;subst hu;rfl
    case c3=>unfold maxLen;omega
    case c4=>omega
    case c5=>simp;omega
    ·intro v' w1 aa ab _
     have R:=QlE (t:=t) (b:=b) (k:=k) ag HO HB ab;have R2:w1.ownsRow w.heap.size 9 1 v' (spl t b (k+1)).1.length ((spl t b (k+1)).1.map Value.string):=Ql1 aa (by rw [HS.out];simp) (by rw [HS.out];simp);clear aa ab HO HB;go_wp2;go_roundw
     case rel=>exact ⟨k+1,by omega,by go_num,by rw [HS.out];go_num,R2,R⟩
     case measure=>simp [zI];omega
   ·have al:(bt t k == b)=false:=ZZf.2 hh
    have HS:Hid (spl t b (k+1)=spl t b k):=QbE hh;have HF:Hid (F=(spl t b k).2):=hF;have HB:Hid (Below w.heap.size w wr):=ac;have HO:Hid (wr.ownsRow w.heap.size 9 1 u5 (spl t b k).1.length ((spl t b k).1.map Value.string)):=ad;clear hF hh ad ac;go_wp2;go_roundw
    case rel=>exact ⟨k+1,by omega,by go_num,by rw [HS.out,HF.out],by rw [HS.out];exact HO.out,HB⟩
    case measure=>simp [zI];omega
  ·have e:k=t.size:=by omega
   subst e;have aj:¬ (t.size:Int)<(t.size:Int):=by omega
   have an:(F:Int)<=(t.size:Int):=by omega
   have HF:Hid (F=(spl t b t.size).2):=hF;have HB:Hid (Below w.heap.size w wr):=ac;have HO:Hid (wr.ownsRow w.heap.size 9 1 u5 (spl t b t.size).1.length ((spl t b t.size).1.map Value.string)):=ad;clear hF ad ac
   go_wp2_with (first
     | (at_builtin;refine wpList_append_own _ rfl _ _ 30 rfl w.heap.size 9 i0 (.string ByteArray.empty) 1 16 underlying30 hi af ai ah rfl (by decide) _ _ _ rfl (HO.out.alloc _) ⟨wr.heap.size,0,none⟩ 1 1 [.string (t.extract F t.size)] rfl rfl ?d1 ?d2 ?d3 ?d4 ?d5 ?_))
   case d2=>first | rfl | simp [Value.oneCell'] | (intro u hu;simp at hu;subst hu;rfl)
   case d3=>unfold maxLen;omega
   case d4=>omega
   case d5=>first | omega | (simp;omega)
   ·intro v' w1 aa ab _
    have R:=QlE (t:=t) (b:=b) (k:=t.size) ag HO HB ab;have R2:w1.ownsRow w.heap.size 9 1 v' (QaG t b).length ((QaG t b).map Value.string):=Ql1 aa (by rw [Qcs]) (by unfold QaG;rw [<- HF.out];simp);obtain ⟨g,cap,rfl,hg,ak,ae⟩:=QqZ R2 (by rw [Qcs];omega);clear aa ab HO HB;go_wp2;go_ret;exact ⟨g,cap,rfl,hg,ak,ae,R⟩
theorem Qdq (t:ByteArray) (b:Int) (ht:t.size<=1048576) (hb:0<=b/\b<=255) (w:World) :
  Calls prog 9 #[.string t,.int .u8 b] w fun e w'=>∃ g cap,e=.returned (.slice (some ⟨g,0,none⟩) (QaG t b).length cap)/\w.heap.size<=g/\(∀ j u,(QaG t b)[j]?=some u->w'.cell? ⟨g,j,none⟩=some (.string u))/\Below w.heap.size w w':=
 (Qey t b ht hb w).mono (fun _ _ ⟨g,c,h1,h2,_,h4⟩=>⟨g,c,h1,h2,h4⟩)
theorem Qa7 (t:ByteArray) (a b:Nat):toL (t.extract a b)=((toL t).take b).drop a:=by
 unfold toL;rw [ByteArray.data_extract,Array.toList_extract];rw [List.extract_eq_take_drop]
 try rw [List.drop_take]
theorem Qe6 (t:ByteArray) (k:Nat):bt t k=(((toL t)[k]?.map UInt8.toNat).getD 0:Nat):=by
 unfold bt
 split
 ·rename_i h
  have h2:k<(toL t).length:=by rw [Qap];exact h
  rw [List.getElem?_eq_getElem h2];simp [toL]
  rfl
 ·rename_i h
  rw [List.getElem?_eq_none (by rw [Qap];omega)];rfl
theorem Qq1 (h:(toL t).take (k+1)=(toL u).take (k+1)):bt t k=bt u k:=by
 have e:∀ v:ByteArray,(toL v)[k]?=((toL v).take (k+1))[k]?:=fun v=>by rw [List.getElem?_take,if_pos (by omega)]
 rw [Qe6,Qe6,e t,e u,h]
theorem Qjc {t u:ByteArray} {b:Int}:∀ k,(toL t).take k=(toL u).take k->spl t b k=spl u b k
 | 0,_=>rfl
 | k+1,h=>by
  have h1:(toL t).take k=(toL u).take k:=by
   have:=congrArg (List.take k) h
   rwa [List.take_take,List.take_take,Nat.min_eq_left (by omega)] at this
  have ih:=Qjc (b:=b) k h1;have hb:=Qq1 h;by_cases hh:bt t k=b
  ·rw [Qcu hh,Qcu (by rw [<- hb];exact hh),ih]
   have e:t.extract (spl u b k).2 k=u.extract (spl u b k).2 k:=Qbf (by rw [Qa7,Qa7,h1]);rw [e]
  ·rw [QbE hh,QbE (by rw [<- hb];exact hh),ih]
theorem Qhx {t:ByteArray} {b:Int} {k:Nat}:∀ n,(∀ j,k<=j->j<k+n->¬ bt t j=b)->spl t b (k+n)=spl t b k
 | 0,_=>rfl
 | n+1,h=>by
  rw [<- Nat.add_assoc,QbE (h (k+n) (by omega) (by omega)),Qhx n (fun j h1 h2=>h j h1 (by omega))]
variable {c:UInt8}
theorem no_bt {x:List UInt8} (hx:c ∉ x) (h:(toL t).drop k=x):∀ j,k<=j->j<k+x.length->¬ bt t j=(c.toNat:Int):=fun j h1 h2 e=>by
 have hg:(toL t)[j]?=x[j - k]?:=by rw [<- h,List.getElem?_drop];congr 1;omega
 rw [Qe6,hg,List.getElem?_eq_getElem (by omega)] at e;simp at e;have:x[j - k]'(by omega)=c:=UInt8.toNat_inj.1 (by exact_mod_cast e);exact hx (by rw [<- this];exact List.getElem_mem _)
theorem QfV (h:c ∉ toL t):QaG t (c.toNat:Int)=[t]:=by
 have h1:=Qhx (t:=t) (b:=(c.toNat:Int)) (k:=0) t.size (fun j h1 h2=>no_bt (k:=0) h (by simp) j h1 (by rw [Qap];exact h2));rw [Nat.zero_add] at h1;unfold QaG;rw [h1];have e:t.extract 0 t.size=t:=Qbf (by rw [Qa7,List.drop_zero,List.take_of_length_le (by rw [Qap];exact Nat.le_refl _)])
 show [] ++ [t.extract 0 t.size]=[t]
 rw [e];rfl
theorem QfL {x:ByteArray} (ht:toL t=toL u ++ c :: toL x) (hx:c ∉ toL x):QaG t (c.toNat:Int)=QaG u (c.toNat:Int) ++ [x]:=by
 have ae:t.size=u.size+1+x.size:=by rw [<- Qap,ht,List.length_append,List.length_cons,Qap,Qap];omega
 have ad:(toL u).length=u.size:=Qap u;have ab:(toL t).take u.size=(toL u).take u.size:=by rw [ht,List.take_append_of_le_length (by omega)]
 have h1:=Qjc (b:=(c.toNat:Int)) u.size ab
 have aa:bt t u.size=(c.toNat:Int):=by
  rw [Qe6,ht,List.getElem?_append_right (by omega),ad,Nat.sub_self];rfl
 have h2:=Qcu aa;rw [h1] at h2;have e1:t.extract (spl u (c.toNat:Int) u.size).2 u.size=u.extract (spl u (c.toNat:Int) u.size).2 u.size:=Qbf (by rw [Qa7,Qa7,ab]);rw [e1] at h2
 have ac:(toL t).drop (u.size+1)=toL x:=by
  rw [ht,<- ad,<- List.drop_drop,List.drop_left];rfl
 have h3:=Qhx (t:=t) (b:=(c.toNat:Int)) (k:=u.size+1) x.size (fun j a1 a2=>no_bt hx ac j a1 (by rw [Qap];exact a2));rw [<- ae,h2] at h3;have e2:t.extract (u.size+1) t.size=x:=Qbf (by rw [Qa7,List.take_of_length_le (by rw [Qap];exact Nat.le_refl _),ac]);unfold QaG;rw [h3]
 show (spl u (c.toNat:Int) u.size).1 ++ [u.extract (spl u (c.toNat:Int) u.size).2 u.size] ++ [t.extract (u.size+1) t.size]=_
 rw [e2]
theorem Qju:∀ (n:Nat) {K:List ByteArray},K.length=n+1->(∀ x∈K,(44:UInt8) ∉ toL x)->QaG ⟨(Qb1 K).toArray⟩ 44=K
 | 0,K,hl,hn=>by
  obtain ⟨y,rfl⟩:=List.length_eq_one_iff.1 hl;rw [Qi2,Qk3];exact QfV (c:=44) (hn y List.mem_cons_self)
 | n+1,K,hl,hn=>by
  rcases List.eq_nil_or_concat K with rfl | ⟨K',x,rfl⟩
  ·simp at hl
  ·rw [List.concat_eq_append] at hl hn ⊢
   have hl2:K'.length=n+1:=by simpa using hl
   have ih:=Qju n hl2 (fun y hy=>hn y (List.mem_append_left _ hy));have aa:K'≠[]:=fun e=>by rw [e] at hl2;simp at hl2
   have:=QfL (t:=⟨(Qb1 (K' ++ [x])).toArray⟩) (u:=⟨(Qb1 K').toArray⟩) (x:=x) (c:=44) (by rw [Qbc,Qbc,Qhb aa];simp) (hn x (by simp));have e:QaG ⟨(Qb1 (K' ++ [x])).toArray⟩ 44=QaG ⟨(Qb1 K').toArray⟩ 44 ++ [x]:=this;rw [e,ih]
theorem Qov {r:List UInt8} (ht:toL t=toL name ++ 123 :: r) (h1:(123:UInt8) ∉ toL name) (h2:(123:UInt8) ∉ r):QaG t 123=[name,⟨r.toArray⟩]:=by
 have:=QfL (t:=t) (u:=name) (x:=⟨r.toArray⟩) (c:=123) (by rw [Qbc];exact ht) (by rw [Qbc];exact h2);have e:=QfV (c:=123) h1;exact this.trans (by rw [e];rfl)
set_option maxRecDepth 10000
def MX (w:World):Prop:=∃ m,w.cell? ⟨6,0,none⟩=some (.int .i64 m)
def tagsOf (t:ByteArray):List ByteArray:=if t.size=0 then [] else Lib.splitB ⟨#[44]⟩ 0 (Lib.countB t ⟨#[44]⟩) t
theorem QdV (sep:ByteArray):∀ (k:Nat) (s:ByteArray),∀ u∈Lib.splitB sep 0 k s,u.size<=s.size
 | 0,s,u,h=>by
  rw [Lib.splitB_zero] at h;obtain rfl:=List.mem_singleton.1 h;exact ZZa _
 | k+1,s,u,h=>by
  unfold Lib.splitB at h
  split at h
  ·obtain rfl:=List.mem_singleton.1 h;exact ZZa _
  ·rcases List.mem_cons.1 h with rfl | h
   ·rw [size_extract];omega
   ·have:=QdV sep k _ u h
    rw [size_extract] at this;omega
def partsN (t:ByteArray):ByteArray:=⟨(Lib.cut (toL t) [123]).1.toArray⟩
def partsR (t:ByteArray):ByteArray:=⟨(Lib.cut (toL t) [123]).2.1.toArray⟩
def partsI (t:ByteArray):ByteArray:=⟨(Lib.trimSuffix (toL (partsR t)) [125]).toArray⟩
theorem Qkr (l:List UInt8):(⟨l.toArray⟩:ByteArray).size=l.length:=by rw [<- Qap,Qbc]
theorem Qj2 (a b:ByteArray):(a.toList == b.toList)=decide (a=b):=by
 by_cases h:a=b
 ·subst h;simp
 ·rw [decide_eq_false h]
  cases e:(a.toList == b.toList) with
  | false=>rfl
  | true=>exact absurd (QbV e) h
theorem QdA (h:QkB t name K):QaG t 123=[name,⟨(Qb1 K ++ [125]).toArray⟩]:=by
 obtain ⟨h1,h2,h3,h4,h5,h6⟩:=h;refine Qov (by rw [h6];exact Qp3 name K) (Qti h1) (fun hm=>?_);rcases List.mem_append.1 hm with hm | hm
 ·exact Qqm h2 hm
 ·revert hm;decide
def Qa8 (u:ByteArray):List ByteArray:=if u.size=0 then [] else QaG u 44
theorem Ql4 (h:K.all QbG=true):Qa8 ⟨(Qb1 K).toArray⟩=K:=by
 unfold Qa8;rw [Qkr];by_cases hK:K=[]
 ·subst hK;rfl
 ·rw [if_neg (fun h0=>Qo8 h hK (List.eq_nil_of_length_eq_zero h0))]
  obtain ⟨n,hn⟩:∃ n,K.length=n+1:=by
   cases K with
   | nil=>exact absurd rfl hK
   | cons y r=>exact ⟨r.length,rfl⟩
  exact Qju n hn (fun x hx=>(Qo7 (List.all_eq_true.1 h x hx)).2)
theorem Quo (hl:QaG t 123=[a,r]):0<t.size:=by
 rcases Nat.eq_zero_or_pos t.size with h | h
 ·have:=congrArg List.length hl
  unfold QaG at this;rw [h] at this;simp [spl] at this
 ·exact h
theorem Qj3 {l:List UInt8} (h:(⟨(l ++ [125]).toArray⟩:ByteArray).size=q+1):(⟨(l ++ [125]).toArray⟩:ByteArray).extract 0 q=⟨l.toArray⟩/\bt ⟨(l ++ [125]).toArray⟩ q=125:=by
 have hq:l.length=q:=by rw [Qkr] at h;simp at h;exact h
 subst hq;refine ⟨Qbf ?_,?_⟩
 ·rw [Qa7,Qbc,Qbc,List.drop_zero,List.take_left]
 ·rw [Qe6,Qbc,List.getElem?_append_right (Nat.le_refl _),Nat.sub_self];rfl
theorem Qu6 (h:QkB t name K):Qdk name K=t:=by
 have:=Qtu h;unfold Qgx at this
 rwa [if_pos ⟨h.1,h.2.1⟩] at this
theorem QoQ (h:∀ a r,QaG t 123=[a,r]->(r.size=0∨∃ q,r.size=q+1/\¬ bt r q=125)):Qby t=false:=QcR (fun ⟨name,K,hs⟩=>by
 have e:=QdA hs;rcases h _ _ e with h0 | ⟨q,hq,hb⟩
 ·rw [Qkr] at h0;simp at h0
 ·exact hb (Qj3 hq).2)
theorem Qr1 (hl:QaG t 123=[a,r]) (hq:r.size=q+1) :
  (QaK a=true/\(Qa8 (r.extract 0 q)).all QbG=true/\Qdk a (Qa8 (r.extract 0 q))=t)↔QbY t:=by
 constructor
 ·rintro ⟨h1,h2,h3⟩
  refine QoJ (name:=a) (L:=Qa8 (r.extract 0 q)) ?_ (Quo hl);unfold Qgx;rw [if_pos ⟨h1,h2⟩];exact h3
 ·rintro ⟨name,K,hs⟩
  have e:=QdA hs;rw [hl] at e;obtain ⟨rfl,e2⟩:=List.cons.inj e;obtain ⟨rfl,_⟩:=List.cons.inj e2;rw [(Qj3 hq).1,Ql4 hs.2.1];exact ⟨hs.1,hs.2.1,Qu6 hs⟩
theorem QtX (hl:QaG t 123=[a,r]) (hq:r.size=q+1) (h:QbY t):QkB t a (Qa8 (r.extract 0 q)):=by
 obtain ⟨aa,K,hs⟩:=h;have e:=QdA hs;rw [hl] at e;obtain ⟨rfl,e2⟩:=List.cons.inj e;obtain ⟨rfl,_⟩:=List.cons.inj e2;rw [(Qj3 hq).1,Ql4 hs.2.1];exact hs
theorem Qgr (t:ByteArray) (b:Int):∀ k,k<=t.size->∀ u∈(spl t b k).1,u.size<=t.size
 | 0,_,u,h=>by cases h
 | k+1,hk,u,h=>by
  by_cases hh:bt t k=b
  ·rw [Qcu hh] at h
   rcases List.mem_append.1 h with h | h
   ·exact Qgr t b k (by omega) u h
   ·obtain rfl:=List.mem_singleton.1 h
    rw [size_extract];omega
  ·rw [QbE hh] at h;exact Qgr t b k (by omega) u h
theorem Qds (t:ByteArray) (b:Int):∀ u∈QaG t b,u.size<=t.size:=fun u h=>by
 unfold QaG at h;rcases List.mem_append.1 h with h | h
 ·exact Qgr t b t.size (ZZa _) u h
 ·obtain rfl:=List.mem_singleton.1 h
  rw [size_extract];omega
theorem Qo2 (t:ByteArray) (b:Int):(QaG t b).length<=t.size+1:=by rw [Qcs];have:=(Qfb t b t.size).2;omega
theorem isE (h:¬ t.size=0):t.toList.isEmpty=false:=by
 rw [ByteArray.toList_eq]
 cases e:t.data.toList with
 | nil=>exact absurd (by rw [<- Qap];show t.data.toList.length=0;rw [e];rfl) h
 | cons x r=>rfl
theorem isE0 (h:t.size=0):t.toList.isEmpty=true:=by
 rw [ByteArray.toList_eq];rw [List.isEmpty_iff];exact List.eq_nil_of_length_eq_zero (by rw [<- Qap] at h;exact h)
def QrQ (t:ByteArray) (w:World) (e:Ending) (w':World):Prop:=∃ nm ao n c,e=.returned (.tuple #[.string nm,.slice ao n c,.bool (Qby t)])/\(QbY t->∃ K,QkB t nm K/\K.length=n/\Qaw w' ao K)/\Below w.heap.size w w'
theorem QuY {α:Type} {l:List α} (h:l.length=2):∃ a b,l=[a,b]:=by
 match l,h with
 | [a,b],_=>exact ⟨a,b,rfl⟩
theorem QjC (t:ByteArray) (ht:t.size<=20000) :
  Calls prog 294 #[.string t] w fun e w'=>QrQ t w e w':=by
 obtain ⟨n,hn⟩:∃ n,(QaG t 123).length=n:=⟨_,rfl⟩;have aw:=Qo2 t 123;by_cases h2:n=2
 ·subst h2
  obtain ⟨a,r,hl⟩:=QuY hn;have HL:=Qaa hl;have HN:=Qaa hn;have aD:=Qds t 123 a (by rw [hl];simp);have aC:=Qds t 123 r (by rw [hl];simp);clear hl hn aw;go_enter func294,ntmps294;go_wp2_with fail;refine (Qdq t 123 (by omega) (by omega) _).mono ?_;rintro e w1 ⟨g,ab,rfl,hg,ac,am⟩;rw [HN.out];have ao:=ac 0 a (by rw [HL.out];rfl);have aa:=ac 1 r (by rw [HL.out];rfl);have ae:=Qaa am;clear ac am;by_cases aq:r.size=0
  ·have aA:=isE0 aq
   have HE:Hid (Qby t=false):=QoQ (fun a' r' e=>by rw [HL.out] at e;obtain ⟨_,e2⟩:=List.cons.inj e;obtain ⟨rfl,_⟩:=List.cons.inj e2;exact .inl aq);have HP:Hid (¬ QbY t):=((fun h=>by have:=QcB h;rw [HE.out] at this;exact Bool.noConfusion this):¬ QbY t);go_wp2_with fail;refine Qao (fun W'=>W'.cell? ⟨g,1,none⟩=some (.string r)) 21 (by rfl) ?_;replace aa:w1.drew.cell? ⟨g,1,none⟩=some (.string r):=aa;refine tkS 0 (.slice (some ⟨g,0,none⟩) 2 ab) aa ?_;refine tkS 1 (.int .i64 2) aa ?_;refine tkS 2 (.bool false) aa ?_;simp only [sX];refine tkS 3 (.bool false) aa ?_;refine tkS 4 (.slice (some ⟨g,0,none⟩) 2 ab) aa ?_;refine tkS 5 (.pointer (some ⟨g,1,none⟩)) aa ?_;simp only [sX];refine tkL 6 (.string r) aa (fun W hW=>?_) ?_
   ·go_simp
   refine tkS 7 (.bool true) aa ?_;refine tkS 8 (.bool true) aa ?_;simp only [sX];refine tkS 9 (.bool true) aa ?_;refine tkU 10 aa ?_;refine tkU 11 aa ?_;simp only [sX];refine tkU 12 aa ?_;refine tkU 13 aa ?_;refine tkU 14 aa ?_;simp only [sX];refine tkU 15 aa ?_;refine tkU 16 aa ?_;refine tkU 17 aa ?_;simp only [sX];refine tkU 18 aa ?_;refine tkU 19 aa ?_;refine tkS 20 (.bool true) aa ?_;simp only [sX];refine dnE ?_ _;go_wp2
   go_ret3
   exact ⟨_,none,0,0,by rw [HE.out];rfl,fun h=>absurd h HP,ae.out.drew⟩
  ·have aA:=isE aq
   obtain ⟨q,hq⟩:∃ q,r.size=q+1:=⟨r.size - 1,by omega⟩;have aH:=get_bt r;have aE:IntKind.i64.wrap (((r.size:Nat):Int) - 1)=(q:Int):=by rw [hq];rw [IntWalk.i64_in _ ⟨by omega,by omega⟩];omega
   have aF:q<r.size:=by omega
   have HQ:=Qaa hq;have aJ:q<=20000:=by omega
   clear hq;by_cases ah:bt r q=125
   ·have HY:=Qaa (Qr1 HL HQ)
    have HI:=Qaa (fun h=>QtX HL HQ h);go_wp2_with fail;refine Qao (fun W'=>W'.cell? ⟨g,1,none⟩=some (.string r)) 21 (by rfl) ?_;replace aa:w1.drew.cell? ⟨g,1,none⟩=some (.string r):=aa;refine tkS 0 (.slice (some ⟨g,0,none⟩) 2 ab) aa ?_;refine tkS 1 (.int .i64 2) aa ?_;refine tkS 2 (.bool false) aa ?_;simp only [sX];refine tkS 3 (.bool false) aa ?_;refine tkS 4 (.slice (some ⟨g,0,none⟩) 2 ab) aa ?_;refine tkS 5 (.pointer (some ⟨g,1,none⟩)) aa ?_;simp only [sX];refine tkL 6 (.string r) aa (fun W hW=>?_) ?_
    ·go_simp
    refine tkS 7 (.bool false) aa ?_;refine tkS 8 (.bool false) aa ?_;simp only [sX];refine tkS 9 (.bool false) aa ?_;refine tkS 10 (.slice (some ⟨g,0,none⟩) 2 ab) aa ?_;refine tkS 11 (.pointer (some ⟨g,1,none⟩)) aa ?_;simp only [sX];refine tkL 12 (.string r) aa (fun W hW=>?_) ?_
    ·go_simp
    refine tkS 13 (.slice (some ⟨g,0,none⟩) 2 ab) aa ?_;refine tkS 14 (.pointer (some ⟨g,1,none⟩)) aa ?_;simp only [sX];refine tkL 15 (.string r) aa (fun W hW=>?_) ?_
    ·go_simp
    refine tkS 16 (.int .i64 r.size) aa ?_;refine tkS 17 (.int .i64 q) aa ?_;simp only [sX];refine tkS 18 (.int .u8 (bt r q)) aa ?_;refine tkS 19 (.bool false) aa ?_;refine tkS 20 (.bool false) aa ?_;simp only [sX];refine dnE ?_ _;go_wp2_with fail;refine Qao (fun W'=>W'.cell? ⟨g,1,none⟩=some (.string r)) 10 (by rfl) ?_;replace aa:w1.drew.drew.cell? ⟨g,1,none⟩=some (.string r):=aa;refine tkS 0 (.slice (some ⟨g,0,none⟩) 2 ab) aa ?_;refine tkS 1 (.pointer (some ⟨g,1,none⟩)) aa ?_;refine tkL 2 (.string r) aa (fun W hW=>?_) ?_
    ·go_simp
    simp only [sX];refine tkS 3 (.slice (some ⟨g,0,none⟩) 2 ab) aa ?_;refine tkS 4 (.pointer (some ⟨g,1,none⟩)) aa ?_;refine tkL 5 (.string r) aa (fun W hW=>?_) ?_
    ·go_simp
    simp only [sX];refine tkS 6 (.int .i64 r.size) aa ?_;refine tkS 7 (.int .i64 q) aa ?_;refine tkL 8 (.string (r.extract 0 q)) aa (fun W hW=>?_) ?_
    ·clear hW
     go_simp;intro h;exact absurd h (by omega)
    simp only [sX];refine tkS 9 (.string (r.extract 0 q)) aa ?_;simp only [sX];refine dnE ?_ _;have ay:(r.extract 0 q).size<=20000:=by rw [size_extract];omega
    obtain ⟨u,hu⟩:∃ u,r.extract 0 q=u:=⟨_,rfl⟩;rw [hu] at HY HI ay ⊢;clear hu;by_cases an:u.size=0
    ·have ai:=isE0 an
     have HT:Hid (Qa8 u=[]):=(by unfold Qa8;rw [if_pos an]:Qa8 u=[]);go_wp2_with fail;have HS:Hid ((w1.alloc (.cells #[] 9)).drew.drew.cell? ⟨g,0,none⟩=some (.string a)/\Qaw (w1.alloc (.cells #[] 9)).drew.drew (some ⟨w1.heap.size,0,none⟩) (Qa8 u)):=(⟨Qf8 ao _,fun h=>by rw [HT.out] at h;exact absurd h (Nat.lt_irrefl 0)⟩:(w1.alloc (.cells #[] 9)).drew.drew.cell? ⟨g,0,none⟩=some (.string a)/\Qaw (w1.alloc (.cells #[] 9)).drew.drew (some ⟨w1.heap.size,0,none⟩) (Qa8 u));have ag:Hid ((Qa8 u).length=0):=(by rw [HT.out];rfl:(Qa8 u).length=0);have HB:Hid (Below w.heap.size w (w1.alloc (.cells #[] 9)).drew.drew):=((ae.out.alloc ae.out.size _).drew.drew:Below w.heap.size w (w1.alloc (.cells #[] 9)).drew.drew);clear ao aa ae ai HT;generalize (w1.alloc (.cells #[] 9)).drew.drew=X at HS HB ⊢;have au:0<=20100:=ZZj _;have HU:Hid (∀ x∈Qa8 u,x.size<=maxLen):=((fun x hx=>by rw [List.eq_nil_of_length_eq_zero ag.out] at hx;cases hx):∀ x∈Qa8 u,x.size<=maxLen);generalize w1.heap.size=tg at HS ⊢;replace HS:Hid (X.drew.cell? ⟨g,0,none⟩=some (.string a)/\Qaw X.drew (some ⟨tg,0,none⟩) (Qa8 u)):=HS.out;replace HB:Hid (Below w.heap.size w X.drew):=HB.out.drew;refine Qao (fun W'=>W'.cell? ⟨g,0,none⟩=some (.string a)/\Qaw W' (some ⟨tg,0,none⟩) (Qa8 u)) 24 (by rfl) ?_;refine tkS 0 (.slice (some ⟨g,0,none⟩) 2 ab) HS ?_;refine tkS 1 (.pointer (some ⟨g,0,none⟩)) HS ?_;refine tkL 2 (.string a) HS (fun W hW=>?_) ?_
     ·have al:=hW.1
      clear hW;go_simp
     simp only [sX];refine tkS 3 (.slice (some ⟨tg,0,none⟩) 0 0) HS ?_;refine tkS 4 (.slice (some ⟨g,0,none⟩) 2 ab) HS ?_;refine tkS 5 (.pointer (some ⟨g,0,none⟩)) HS ?_;simp only [sX];refine tkL 6 (.string a) HS (fun W hW=>?_) ?_
     ·have al:=hW.1
      clear hW;go_simp
     simp only [sX];refine onE 7 fun K hK=>?_;go_simp;refine (QaL a _ (by unfold maxLen;omega)).mono ?_;rintro e w3 ⟨rfl,aj⟩;obtain rfl:=aj;dsimp only;refine gK hK HS.out ?_
     try simp only [sX]
     cases hna:QaK a with
     | false=>
      refine tkS 8 (.bool false) HS ?_;refine tkU 9 HS ?_;simp only [sX];refine onE 10 fun K hK=>?_;refine Eq.mpr (if_neg (fun h=>Bool.noConfusion (show false=true from h))) ?_;refine gK hK HS.out ?_
      try simp only [sX]
      refine tkS 11 (.bool false) HS ?_;refine tkS 12 (.bool false) HS ?_;refine tkU 13 HS ?_;simp only [sX];refine tkU 14 HS ?_;refine tkU 15 HS ?_;refine tkU 16 HS ?_;simp only [sX];refine tkU 18 HS ?_;simp only [sX];refine onE 17 fun K hK=>?_;refine Eq.mpr (if_neg (fun h=>Bool.noConfusion (show false=true from h))) ?_;refine gK hK HS.out ?_
      try simp only [sX]
      refine tkU 19 HS ?_;refine tkS 20 (.bool false) HS ?_;refine tkS 21 (.string a) HS ?_;simp only [sX];refine tkS 22 (.slice (some ⟨tg,0,none⟩) 0 0) HS ?_;refine tkS 23 (.bool false) HS ?_;simp only [sX];refine dnE ?_ _;have HE:Hid (Qby t=false):=QcR (fun h=>by have:=HY.out.2 h;rw [hna] at this;exact Bool.noConfusion this.1);have HP:Hid (¬ QbY t):=((fun h=>by have:=QcB h;rw [HE.out] at this;exact Bool.noConfusion this):¬ QbY t);go_wp2
      go_ret3
      exact ⟨a,_,_,_,by rw [HE.out];rfl,fun h=>absurd h HP,HB⟩
     | true=>
      refine tkS 8 (.bool true) HS ?_;refine tkS 9 (.slice (some ⟨tg,0,none⟩) 0 0) HS ?_;simp only [sX];refine onE 10 fun K hK=>?_;rw [if_pos (by rfl)];go_simp;refine (Qd0 _ _ ag (by omega) HU HS.out.2).mono ?_;rintro e w3 ⟨rfl,aj⟩;obtain rfl:=aj;dsimp only;refine gK hK HS.out ?_
      try simp only [sX]
      cases hal:(Qa8 u).all QbG with
      | false=>
       refine tkS 11 (.bool false) HS ?_;refine tkS 12 (.bool false) HS ?_;refine tkU 13 HS ?_;simp only [sX];refine tkU 14 HS ?_;refine tkU 15 HS ?_;refine tkU 16 HS ?_;simp only [sX];refine tkU 18 HS ?_;simp only [sX];refine onE 17 fun K hK=>?_;refine Eq.mpr (if_neg (fun h=>Bool.noConfusion (show false=true from h))) ?_;refine gK hK HS.out ?_
       try simp only [sX]
       refine tkU 19 HS ?_;refine tkS 20 (.bool false) HS ?_;refine tkS 21 (.string a) HS ?_;simp only [sX];refine tkS 22 (.slice (some ⟨tg,0,none⟩) 0 0) HS ?_;refine tkS 23 (.bool false) HS ?_;simp only [sX];refine dnE ?_ _;have HE:Hid (Qby t=false):=QcR (fun h=>by have:=HY.out.2 h;rw [hal] at this;exact Bool.noConfusion this.2.1);have HP:Hid (¬ QbY t):=((fun h=>by have:=QcB h;rw [HE.out] at this;exact Bool.noConfusion this):¬ QbY t);go_wp2
       go_ret3
       exact ⟨a,_,_,_,by rw [HE.out];rfl,fun h=>absurd h HP,HB⟩
      | true=>
       have ax:=Qeu hna;have ap:=Qaa (Qhz hal);refine tkS 11 (.bool true) HS ?_;refine tkS 12 (.bool true) HS ?_;refine tkS 13 (.slice (some ⟨g,0,none⟩) 2 ab) HS ?_;simp only [sX];refine tkS 14 (.pointer (some ⟨g,0,none⟩)) HS ?_;refine tkL 15 (.string a) HS (fun W hW=>?_) ?_
       ·have al:=hW.1
        clear hW;go_simp
       refine tkS 16 (.slice (some ⟨tg,0,none⟩) 0 0) HS ?_;simp only [sX];refine tkS 18 (.string t) HS ?_;simp only [sX];refine onE 17 fun K hK=>?_;rw [if_pos (by rfl)];go_simp;refine (QbA a _ _ (by omega) ag au ap HS.out.2).mono ?_;rintro e w3 ⟨rfl,af⟩;replace HB:=Qaa (HB.out.trans (af.mono HB.out.size));replace HS:Hid (w3.cell? ⟨g,0,none⟩=some (.string a)/\Qaw w3 (some ⟨tg,0,none⟩) (Qa8 u)):=(⟨Qab af HS.out.1,QaB HS.out.2 af⟩:w3.cell? ⟨g,0,none⟩=some (.string a)/\Qaw w3 (some ⟨tg,0,none⟩) (Qa8 u));clear af;dsimp only;refine gK hK HS.out ?_
       try simp only [sX]
       have av:((Qdk a (Qa8 u)).toList == t.toList)=Qby t:=by
        rw [Qj2];by_cases h:QbY t
        ·rw [QcB h];exact ZZh (HY.out.2 h).2.2
        ·rw [QcR h];exact ZZg (fun e=>h (HY.out.1 ⟨hna,hal,e⟩))
       generalize Qdk a (Qa8 u)=sf at av ⊢;refine tkS 19 (.bool (Qby t)) HS ?_;refine tkS 20 (.bool (Qby t)) HS ?_;refine tkS 21 (.string a) HS ?_;simp only [sX];refine tkS 22 (.slice (some ⟨tg,0,none⟩) 0 0) HS ?_;refine tkS 23 (.bool (Qby t)) HS ?_;simp only [sX];refine dnE ?_ _;go_wp2
       go_ret3
       exact ⟨a,_,_,_,rfl,fun h=>⟨Qa8 u,HI.out h,ag,HS.out.2⟩,HB⟩
    ·have ai:=isE an
     have HT:Hid (Qa8 u=QaG u 44):=(by unfold Qa8;rw [if_neg an]:Qa8 u=QaG u 44);go_wp2_with fail;refine (Qdq u 44 (by omega) (by omega) _).mono ?_;rintro e w2 ⟨tg,tc,rfl,az,ad,ar⟩;rw [<- HT.out] at ad ⊢;have HU:Hid (∀ x∈Qa8 u,x.size<=maxLen):=((fun x hx=>by rw [HT.out] at hx;have:=Qds u 44 x hx;unfold maxLen;omega):∀ x∈Qa8 u,x.size<=maxLen);obtain ⟨tn,ak⟩:∃ tn,(Qa8 u).length=tn:=⟨_,rfl⟩;have au:tn<=20100:=by have:=Qo2 u 44;rw [<- HT.out] at this;omega
     have ag:=Qaa ak;rw [ak];clear ak;have HS:Hid (w2.cell? ⟨g,0,none⟩=some (.string a)/\Qaw w2 (some ⟨tg,0,none⟩) (Qa8 u)):=(⟨Qab ar (Qf8 ao _),fun _=>⟨tg,0,rfl,fun i x hx=>by rw [Nat.zero_add];exact ad i x hx⟩⟩:w2.cell? ⟨g,0,none⟩=some (.string a)/\Qaw w2 (some ⟨tg,0,none⟩) (Qa8 u));have HB:Hid (Below w.heap.size w w2):=((ae.out.alloc ae.out.size _).drew.drew.trans (ar.mono (ae.out.alloc ae.out.size _).size):Below w.heap.size w w2);clear ao aa ae ai HT ad ar az;go_wp2_with fail;generalize w2=X at HS HB ⊢;replace HS:Hid (X.drew.cell? ⟨g,0,none⟩=some (.string a)/\Qaw X.drew (some ⟨tg,0,none⟩) (Qa8 u)):=HS.out;replace HB:Hid (Below w.heap.size w X.drew):=HB.out.drew;refine Qao (fun W'=>W'.cell? ⟨g,0,none⟩=some (.string a)/\Qaw W' (some ⟨tg,0,none⟩) (Qa8 u)) 24 (by rfl) ?_;refine tkS 0 (.slice (some ⟨g,0,none⟩) 2 ab) HS ?_;refine tkS 1 (.pointer (some ⟨g,0,none⟩)) HS ?_;refine tkL 2 (.string a) HS (fun W hW=>?_) ?_
     ·have al:=hW.1
      clear hW;go_simp
     simp only [sX];refine tkS 3 (.slice (some ⟨tg,0,none⟩) tn tc) HS ?_;refine tkS 4 (.slice (some ⟨g,0,none⟩) 2 ab) HS ?_;refine tkS 5 (.pointer (some ⟨g,0,none⟩)) HS ?_;simp only [sX];refine tkL 6 (.string a) HS (fun W hW=>?_) ?_
     ·have al:=hW.1
      clear hW;go_simp
     simp only [sX];refine onE 7 fun K hK=>?_;go_simp;refine (QaL a _ (by unfold maxLen;omega)).mono ?_;rintro e w3 ⟨rfl,aj⟩;obtain rfl:=aj;dsimp only;refine gK hK HS.out ?_
     try simp only [sX]
     cases hna:QaK a with
     | false=>
      refine tkS 8 (.bool false) HS ?_;refine tkU 9 HS ?_;simp only [sX];refine onE 10 fun K hK=>?_;refine Eq.mpr (if_neg (fun h=>Bool.noConfusion (show false=true from h))) ?_;refine gK hK HS.out ?_
      try simp only [sX]
      refine tkS 11 (.bool false) HS ?_;refine tkS 12 (.bool false) HS ?_;refine tkU 13 HS ?_;simp only [sX];refine tkU 14 HS ?_;refine tkU 15 HS ?_;refine tkU 16 HS ?_;simp only [sX];refine tkU 18 HS ?_;simp only [sX];refine onE 17 fun K hK=>?_;refine Eq.mpr (if_neg (fun h=>Bool.noConfusion (show false=true from h))) ?_;refine gK hK HS.out ?_
      try simp only [sX]
      refine tkU 19 HS ?_;refine tkS 20 (.bool false) HS ?_;refine tkS 21 (.string a) HS ?_;simp only [sX];refine tkS 22 (.slice (some ⟨tg,0,none⟩) tn tc) HS ?_;refine tkS 23 (.bool false) HS ?_;simp only [sX];refine dnE ?_ _;have HE:Hid (Qby t=false):=QcR (fun h=>by have:=HY.out.2 h;rw [hna] at this;exact Bool.noConfusion this.1);have HP:Hid (¬ QbY t):=((fun h=>by have:=QcB h;rw [HE.out] at this;exact Bool.noConfusion this):¬ QbY t);go_wp2
      go_ret3
      exact ⟨a,_,_,_,by rw [HE.out];rfl,fun h=>absurd h HP,HB⟩
     | true=>
      refine tkS 8 (.bool true) HS ?_;refine tkS 9 (.slice (some ⟨tg,0,none⟩) tn tc) HS ?_;simp only [sX];refine onE 10 fun K hK=>?_;rw [if_pos (by rfl)];go_simp;refine (Qd0 _ _ ag (by omega) HU HS.out.2).mono ?_;rintro e w3 ⟨rfl,aj⟩;obtain rfl:=aj;dsimp only;refine gK hK HS.out ?_
      try simp only [sX]
      cases hal:(Qa8 u).all QbG with
      | false=>
       refine tkS 11 (.bool false) HS ?_;refine tkS 12 (.bool false) HS ?_;refine tkU 13 HS ?_;simp only [sX];refine tkU 14 HS ?_;refine tkU 15 HS ?_;refine tkU 16 HS ?_;simp only [sX];refine tkU 18 HS ?_;simp only [sX];refine onE 17 fun K hK=>?_;refine Eq.mpr (if_neg (fun h=>Bool.noConfusion (show false=true from h))) ?_;refine gK hK HS.out ?_
       try simp only [sX]
       refine tkU 19 HS ?_;refine tkS 20 (.bool false) HS ?_;refine tkS 21 (.string a) HS ?_;simp only [sX];refine tkS 22 (.slice (some ⟨tg,0,none⟩) tn tc) HS ?_;refine tkS 23 (.bool false) HS ?_;simp only [sX];refine dnE ?_ _;have HE:Hid (Qby t=false):=QcR (fun h=>by have:=HY.out.2 h;rw [hal] at this;exact Bool.noConfusion this.2.1);have HP:Hid (¬ QbY t):=((fun h=>by have:=QcB h;rw [HE.out] at this;exact Bool.noConfusion this):¬ QbY t);go_wp2
       go_ret3
       exact ⟨a,_,_,_,by rw [HE.out];rfl,fun h=>absurd h HP,HB⟩
      | true=>
       have ax:=Qeu hna;have ap:=Qaa (Qhz hal);refine tkS 11 (.bool true) HS ?_;refine tkS 12 (.bool true) HS ?_;refine tkS 13 (.slice (some ⟨g,0,none⟩) 2 ab) HS ?_;simp only [sX];refine tkS 14 (.pointer (some ⟨g,0,none⟩)) HS ?_;refine tkL 15 (.string a) HS (fun W hW=>?_) ?_
       ·have al:=hW.1
        clear hW;go_simp
       refine tkS 16 (.slice (some ⟨tg,0,none⟩) tn tc) HS ?_;simp only [sX];refine tkS 18 (.string t) HS ?_;simp only [sX];refine onE 17 fun K hK=>?_;rw [if_pos (by rfl)];go_simp;refine (QbA a _ _ (by omega) ag au ap HS.out.2).mono ?_;rintro e w3 ⟨rfl,af⟩;replace HB:=Qaa (HB.out.trans (af.mono HB.out.size));replace HS:Hid (w3.cell? ⟨g,0,none⟩=some (.string a)/\Qaw w3 (some ⟨tg,0,none⟩) (Qa8 u)):=(⟨Qab af HS.out.1,QaB HS.out.2 af⟩:w3.cell? ⟨g,0,none⟩=some (.string a)/\Qaw w3 (some ⟨tg,0,none⟩) (Qa8 u));clear af;dsimp only;refine gK hK HS.out ?_
       try simp only [sX]
       have av:((Qdk a (Qa8 u)).toList == t.toList)=Qby t:=by
        rw [Qj2];by_cases h:QbY t
        ·rw [QcB h];exact ZZh (HY.out.2 h).2.2
        ·rw [QcR h];exact ZZg (fun e=>h (HY.out.1 ⟨hna,hal,e⟩))
       generalize Qdk a (Qa8 u)=sf at av ⊢;refine tkS 19 (.bool (Qby t)) HS ?_;refine tkS 20 (.bool (Qby t)) HS ?_;refine tkS 21 (.string a) HS ?_;simp only [sX];refine tkS 22 (.slice (some ⟨tg,0,none⟩) tn tc) HS ?_;refine tkS 23 (.bool (Qby t)) HS ?_;simp only [sX];refine dnE ?_ _;go_wp2
       go_ret3
       exact ⟨a,_,_,_,rfl,fun h=>⟨Qa8 u,HI.out h,ag,HS.out.2⟩,HB⟩
   ·have aI:(bt r q != 125)=true:=by simpa using ah
    have HE:Hid (Qby t=false):=QoQ (fun a' r' e=>by rw [HL.out] at e;obtain ⟨_,e2⟩:=List.cons.inj e;obtain ⟨rfl,_⟩:=List.cons.inj e2;exact .inr ⟨q,HQ,ah⟩);have HP:Hid (¬ QbY t):=((fun h=>by have:=QcB h;rw [HE.out] at this;exact Bool.noConfusion this):¬ QbY t);go_wp2_with fail;refine Qao (fun W'=>W'.cell? ⟨g,1,none⟩=some (.string r)) 21 (by rfl) ?_;replace aa:w1.drew.cell? ⟨g,1,none⟩=some (.string r):=aa;refine tkS 0 (.slice (some ⟨g,0,none⟩) 2 ab) aa ?_;refine tkS 1 (.int .i64 2) aa ?_;refine tkS 2 (.bool false) aa ?_;simp only [sX];refine tkS 3 (.bool false) aa ?_;refine tkS 4 (.slice (some ⟨g,0,none⟩) 2 ab) aa ?_;refine tkS 5 (.pointer (some ⟨g,1,none⟩)) aa ?_;simp only [sX];refine tkL 6 (.string r) aa (fun W hW=>?_) ?_
    ·go_simp
    refine tkS 7 (.bool false) aa ?_;refine tkS 8 (.bool false) aa ?_;simp only [sX];refine tkS 9 (.bool false) aa ?_;refine tkS 10 (.slice (some ⟨g,0,none⟩) 2 ab) aa ?_;refine tkS 11 (.pointer (some ⟨g,1,none⟩)) aa ?_;simp only [sX];refine tkL 12 (.string r) aa (fun W hW=>?_) ?_
    ·go_simp
    refine tkS 13 (.slice (some ⟨g,0,none⟩) 2 ab) aa ?_;refine tkS 14 (.pointer (some ⟨g,1,none⟩)) aa ?_;simp only [sX];refine tkL 15 (.string r) aa (fun W hW=>?_) ?_
    ·go_simp
    refine tkS 16 (.int .i64 r.size) aa ?_;refine tkS 17 (.int .i64 q) aa ?_;simp only [sX];refine tkS 18 (.int .u8 (bt r q)) aa ?_;refine tkS 19 (.bool true) aa ?_;refine tkS 20 (.bool true) aa ?_;simp only [sX];refine dnE ?_ _;go_wp2
    go_ret3
    exact ⟨_,none,0,0,by rw [HE.out];rfl,fun h=>absurd h HP,ae.out.drew⟩
 ·have HE:Hid (Qby t=false):=QcR (fun ⟨name,K,hs⟩=>by have e:=QdA hs;rw [e] at hn;simp at hn;omega)
  have HP:Hid (¬ QbY t):=((fun h=>by have:=QcB h;rw [HE.out] at this;exact Bool.noConfusion this):¬ QbY t);have aG:((n:Int) == 2)=false:=by simp;omega
  have aB:((n:Int) != 2)=true:=by simp;omega
  go_enter func294,ntmps294;go_wp2_with fail;refine (Qdq t 123 (by omega) (by omega) _).mono ?_;rintro e w1 ⟨g,ab,rfl,hg,ac,am⟩;rw [hn];clear ac;go_wp2_with fail;refine Qao (fun W'=>True) 21 (by rfl) ?_;refine tkS 0 (.slice (some ⟨g,0,none⟩) n ab) trivial ?_;refine tkS 1 (.int .i64 n) trivial ?_;refine tkS 2 (.bool true) trivial ?_;simp only [sX];refine tkS 3 (.bool true) trivial ?_;refine tkU 4 trivial ?_;refine tkU 5 trivial ?_;simp only [sX];refine tkU 6 trivial ?_;refine tkU 7 trivial ?_;refine tkS 8 (.bool true) trivial ?_;simp only [sX];refine tkS 9 (.bool true) trivial ?_;refine tkU 10 trivial ?_;refine tkU 11 trivial ?_;simp only [sX];refine tkU 12 trivial ?_;refine tkU 13 trivial ?_;refine tkU 14 trivial ?_;simp only [sX];refine tkU 15 trivial ?_;refine tkU 16 trivial ?_;refine tkU 17 trivial ?_;simp only [sX];refine tkU 18 trivial ?_;refine tkU 19 trivial ?_;refine tkS 20 (.bool true) trivial ?_;simp only [sX];refine dnE ?_ _;go_wp2
  go_ret3
  exact ⟨_,none,0,0,by rw [HE.out];rfl,fun h=>absurd h HP,am.drew⟩
theorem Qgf (t:ByteArray) (hs:t.size<=maxLen) :
  Calls prog 231 #[.string t] w fun e w'=>e=.returned (.bool (Qby t))/\Below w.heap.size w w':=by
 unfold maxLen at hs;by_cases h1:20000<t.size
 ·have aa:(20000:Int)<(t.size:Int):=by omega
  have HE:Hid (Qby t=false):=QcR (fun ⟨name,K,h⟩=>by have:=h.2.2.2.2.1;omega);go_enter func231,ntmps231;go_wp2;go_ret;exact ⟨QaW HE.out.symm,ZZb _ _⟩
 have aa:¬ (20000:Int)<(t.size:Int):=by omega
 go_enter func231,ntmps231;go_wp2_with fail;refine (QjC t (by omega)).mono ?_;rintro e w1 ⟨nm,ao,n,c,rfl,_,hb⟩;go_wp2;go_ret;exact ⟨rfl,hb⟩
end Go.Proofs.YtdbaabbmcfnjbaaGreatDoor
