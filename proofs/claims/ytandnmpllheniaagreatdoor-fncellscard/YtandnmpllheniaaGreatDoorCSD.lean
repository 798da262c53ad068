/-
 Parts.
-/
import Derived.Test.YtandnmpllheniaaGreatDoorCSC
set_option linter.all false
set_option maxHeartbeats 2000000
namespace Go.Proofs.YtandnmpllheniaaGreatDoor
open Go.ChangeShapes Go.WideShapes Go.ChangeAt Go.RowKit Go.PlainAid
theorem Qb6 (s:ByteArray) (a b:Nat):(s.extract a b).size=min b s.size - a:=by simp
def spl (t:ByteArray) (b:Int):Nat->List ByteArray×Nat
 | 0=>([],0)
 | k+1=>if bt t k=b then ((spl t b k).1 ++ [t.extract (spl t b k).2 k],k+1) else spl t b k
theorem QfN {t:ByteArray} {b:Int} {k:Nat} (h:bt t k=b):spl t b (k+1)=((spl t b k).1 ++ [t.extract (spl t b k).2 k],k+1):=by
 show (if bt t k=b then _ else _)=_;rw [if_pos h]
theorem Qd7 {t:ByteArray} {b:Int} {k:Nat} (h:¬ bt t k=b):spl t b (k+1)=spl t b k:=by
 show (if bt t k=b then _ else _)=_;rw [if_neg h]
theorem QmR (t:ByteArray) (b:Int):∀ k,(spl t b k).2<=k/\(spl t b k).1.length<=k
 | 0=>⟨ZZa _,ZZa _⟩
 | k+1=>by
  have ih:=QmR t b k;by_cases h:bt t k=b
  ·rw [QfN h];simp;omega
  ·rw [Qd7 h];omega
def Qfi (t:ByteArray) (b:Int):List ByteArray:=(spl t b t.size).1 ++ [t.extract (spl t b t.size).2 t.size]
theorem Qh9 (t:ByteArray) (b:Int):(Qfi t b).length=(spl t b t.size).1.length+1:=by simp [Qfi]
theorem infoS:(Tryz.prog.info? 9).map (fun i=>(i.zero,i.size,i.bytes))=some (some (.string ByteArray.empty),1,16):=by kernel_rfl
theorem QlN {B k:Nat} {t:ByteArray} {b:Int} {w wr w1:World} {v:Value} {o:Obj} (hB:B<=wr.heap.size) (hown:wr.ownsRow B 9 1 v (spl t b k).1.length ((spl t b k).1.map Value.string)) (hnx:Below B w wr) (hgrow:(wr.alloc o).grownBy w1 v.ownBlock):Below B w w1:=
 (hnx.alloc hB o).grown hgrow (by simp;omega) (fun j hj=>(hown.lt j hj).1)
theorem QkY {B:Nat} {w:World} {v:Value} {n n':Nat} {xs xs':List Value} (h:w.ownsRow B 9 1 v n xs) (e:n=n') (e2:xs=xs'):w.ownsRow B 9 1 v n' xs':=by subst e e2;exact h
theorem QqF {B:Nat} {w:World} {v:Value} {L:List ByteArray} (h:w.ownsRow B 9 1 v L.length (L.map Value.string)) (hne:0<L.length) :
  ∃ g cap,v=.slice (some ⟨g,0,none⟩) L.length cap/\B<=g/\∀ j u,L[j]?=some u->w.cell? ⟨g,j,none⟩=some (.string u):=by
 have hc:=fun g hg=>h.cells (g:=g) hg;rcases h.2 with ⟨_,e⟩ | ⟨g,cap,aa,e,hb,_⟩
 ·omega
 ·refine ⟨g,cap,e,hb,fun j u hj=>?_⟩
  have:=hc g (by rw [e];rfl) j (.string u) (by simp [hj]);by_cases h0:j=0
  ·subst h0;simpa [Addr.add] using this
  ·simpa [Addr.add,h0] using this
theorem QfP (t:ByteArray) (b:Int) (ht:t.size<=1048576) (hb:0<=b/\b<=255) (w:World) :
  Calls Tryz.prog 145 #[.string t,.int .u8 b] w fun e w'=>∃ g cap,e=.returned (.slice (some ⟨g,0,none⟩) (Qfi t b).length cap)/\w.heap.size<=g/\(∀ j u,(Qfi t b)[j]?=some u->w'.cell? ⟨g,j,none⟩=some (.string u))/\Below w.heap.size w w':=by
 obtain ⟨i0,hi,af,ah,ai⟩:=info_parts infoS;have am:=get_bt t;go_enter Tryz.func145,Tryz.ntmps145;go_wp2
 go_loopw [5,6,7] (fun v f i wr=>∃ k:Nat,k<=t.size/\i=.int .i64 k/\f=.int .i64 ((spl t b k).2:Nat)/\wr.ownsRow w.heap.size 9 1 v (spl t b k).1.length ((spl t b k).1.map Value.string)/\Below w.heap.size w wr) (fun v f i wr=>t.size - (Go.RowKit.intOf i).toNat)
 case atStart=>exact ⟨0,ZZj _,rfl,rfl,World.ownsRow_made w #[] 0 (ZZa _) (ZZj _) rfl,(ZZb _ _).alloc (ZZa _) _⟩
 case round=>
  obtain ⟨k,hk,rfl,rfl,ad,ac⟩:=hrel;have ag:=ac.size;obtain ⟨hf,ao⟩:=QmR t b k;obtain ⟨F,hF⟩:∃ F,F=(spl t b k).2:=⟨_,rfl⟩;rw [<- hF] at hf;rw [<- hF];by_cases an:k<t.size
  ·have ak:(k:Int)<(t.size:Int):=by omega
   by_cases hh:bt t k=b
   ·have aj:(bt t k == b)=true:=by simp [hh]
    have HS:Hid (spl t b (k+1)=((spl t b k).1 ++ [t.extract F k],k+1)):=(by rw [QfN hh,hF]:spl t b (k+1)=((spl t b k).1 ++ [t.extract F k],k+1));have HF:Hid (F=(spl t b k).2):=hF;have HB:Hid (Below w.heap.size w wr):=ac;have HO:Hid (wr.ownsRow w.heap.size 9 1 u5 (spl t b k).1.length ((spl t b k).1.map Value.string)):=ad;clear hF hh ad ac
    go_wp2_with (first
     | (at_builtin;refine wpList_append_own _ rfl _ _ 119 rfl w.heap.size 9 i0 (.string ByteArray.empty) 1 16 Tryz.underlying119 hi af ah ai rfl (by decide) _ _ _ rfl (HO.out.alloc _) ⟨wr.heap.size,0,none⟩ 1 1 [.string (t.extract F k)] rfl rfl ?c1 ?c2 ?c3 ?c4 ?c5 ?_))
    case c1=>
     intro j u hj
     match j,hj with
     | 0,hj=>simp at hj;subst hj;simp [Addr.add]
    case c2=>intro u hu;simp at hu;subst hu;rfl
    case c3=>unfold maxLen;omega
    case c4=>omega
    case c5=>simp;omega
    ·intro v' w1 aa ab _
     have R:=QlN (t:=t) (b:=b) (k:=k) ag HO HB ab;have R2:w1.ownsRow w.heap.size 9 1 v' (spl t b (k+1)).1.length ((spl t b (k+1)).1.map Value.string):=QkY aa (by rw [HS.out];simp) (by rw [HS.out];simp);clear aa ab HO HB;go_wp2;go_roundw
     case rel=>exact ⟨k+1,by omega,by go_num,by rw [HS.out];go_num,R2,R⟩
     case measure=>simp [zI];omega
   ·have aj:(bt t k == b)=false:=ZZf.2 hh
    have HS:Hid (spl t b (k+1)=spl t b k):=Qd7 hh;have HF:Hid (F=(spl t b k).2):=hF;have HB:Hid (Below w.heap.size w wr):=ac;have HO:Hid (wr.ownsRow w.heap.size 9 1 u5 (spl t b k).1.length ((spl t b k).1.map Value.string)):=ad;clear hF hh ad ac;go_wp2;go_roundw
    case rel=>exact ⟨k+1,by omega,by go_num,by rw [HS.out,HF.out],by rw [HS.out];exact HO.out,HB⟩
    case measure=>simp [zI];omega
  ·have e:k=t.size:=by omega
   subst e;have ak:¬ (t.size:Int)<(t.size:Int):=by omega
   have al:(F:Int)<=(t.size:Int):=by omega
   have HF:Hid (F=(spl t b t.size).2):=hF;have HB:Hid (Below w.heap.size w wr):=ac;have HO:Hid (wr.ownsRow w.heap.size 9 1 u5 (spl t b t.size).1.length ((spl t b t.size).1.map Value.string)):=ad;clear hF ad ac
   go_wp2_with (first
     | (at_builtin;refine wpList_append_own _ rfl _ _ 119 rfl w.heap.size 9 i0 (.string ByteArray.empty) 1 16 Tryz.underlying119 hi af ah ai rfl (by decide) _ _ _ rfl (HO.out.alloc _) ⟨wr.heap.size,0,none⟩ 1 1 [.string (t.extract F t.size)] rfl rfl ?d1 ?d2 ?d3 ?d4 ?d5 ?_))
   case d2=>first | rfl | simp [Value.oneCell'] | (intro u hu;simp at hu;subst hu;rfl)
   case d3=>unfold maxLen;omega
   case d4=>omega
   case d5=>first | omega | (simp;omega)
   ·intro v' w1 aa ab _
    have R:=QlN (t:=t) (b:=b) (k:=t.size) ag HO HB ab;have R2:w1.ownsRow w.heap.size 9 1 v' (Qfi t b).length ((Qfi t b).map Value.string):=QkY aa (by rw [Qh9]) (by unfold Qfi;rw [<- HF.out];simp);obtain ⟨g,cap,rfl,hg,ae⟩:=QqF R2 (by rw [Qh9];omega);clear aa ab HO HB;go_wp2;go_ret;exact ⟨g,cap,rfl,hg,ae,R⟩
theorem QbK (t:ByteArray) (a b:Nat):toL (t.extract a b)=((toL t).take b).drop a:=by
 unfold toL;rw [ByteArray.data_extract,Array.toList_extract];rw [List.extract_eq_take_drop]
 try rw [List.drop_take]
theorem QiZ (t:ByteArray) (k:Nat):bt t k=(((toL t)[k]?.map UInt8.toNat).getD 0:Nat):=by
 unfold bt
 split
 ·rename_i h
  have h2:k<(toL t).length:=by rw [QaC];exact h
  rw [List.getElem?_eq_getElem h2];simp [toL]
  rfl
 ·rename_i h
  rw [List.getElem?_eq_none (by rw [QaC];omega)];rfl
theorem QoD {t u:ByteArray} {k:Nat} (h:(toL t).take (k+1)=(toL u).take (k+1)):bt t k=bt u k:=by
 have e:∀ v:ByteArray,(toL v)[k]?=((toL v).take (k+1))[k]?:=fun v=>by rw [List.getElem?_take,if_pos (by omega)]
 rw [QiZ,QiZ,e t,e u,h]
theorem Qjf {t u:ByteArray} {b:Int}:∀ k,(toL t).take k=(toL u).take k->spl t b k=spl u b k
 | 0,_=>rfl
 | k+1,h=>by
  have h1:(toL t).take k=(toL u).take k:=by
   have:=congrArg (List.take k) h
   rwa [List.take_take,List.take_take,Nat.min_eq_left (by omega)] at this
  have ih:=Qjf (b:=b) k h1;have hb:=QoD h;by_cases hh:bt t k=b
  ·rw [QfN hh,QfN (by rw [<- hb];exact hh),ih]
   have e:t.extract (spl u b k).2 k=u.extract (spl u b k).2 k:=QdR (by rw [QbK,QbK,h1]);rw [e]
  ·rw [Qd7 hh,Qd7 (by rw [<- hb];exact hh),ih]
theorem Qh4 {t:ByteArray} {b:Int} {k:Nat}:∀ n,(∀ j,k<=j->j<k+n->¬ bt t j=b)->spl t b (k+n)=spl t b k
 | 0,_=>rfl
 | n+1,h=>by
  rw [<- Nat.add_assoc,Qd7 (h (k+n) (by omega) (by omega)),Qh4 n (fun j h1 h2=>h j h1 (by omega))]
theorem no_bt {t:ByteArray} {c:UInt8} {x:List UInt8} {k:Nat} (hx:c ∉ x) (h:(toL t).drop k=x):∀ j,k<=j->j<k+x.length->¬ bt t j=(c.toNat:Int):=fun j h1 h2 e=>by
 have hg:(toL t)[j]?=x[j - k]?:=by rw [<- h,List.getElem?_drop];congr 1;omega
 rw [QiZ,hg,List.getElem?_eq_getElem (by omega)] at e;simp at e;have:x[j - k]'(by omega)=c:=UInt8.toNat_inj.1 (by exact_mod_cast e);exact hx (by rw [<- this];exact List.getElem_mem _)
theorem Qjv {t:ByteArray} {c:UInt8} (h:c ∉ toL t):Qfi t (c.toNat:Int)=[t]:=by
 have h1:=Qh4 (t:=t) (b:=(c.toNat:Int)) (k:=0) t.size (fun j h1 h2=>no_bt (k:=0) h (by simp) j h1 (by rw [QaC];exact h2));rw [Nat.zero_add] at h1;unfold Qfi;rw [h1];have e:t.extract 0 t.size=t:=QdR (by rw [QbK,List.drop_zero,List.take_of_length_le (by rw [QaC];exact Nat.le_refl _)])
 show [] ++ [t.extract 0 t.size]=[t]
 rw [e];rfl
theorem QiY {t u x:ByteArray} {c:UInt8} (ht:toL t=toL u ++ c :: toL x) (hx:c ∉ toL x):Qfi t (c.toNat:Int)=Qfi u (c.toNat:Int) ++ [x]:=by
 have ae:t.size=u.size+1+x.size:=by rw [<- QaC,ht,List.length_append,List.length_cons,QaC,QaC];omega
 have ad:(toL u).length=u.size:=QaC u;have ab:(toL t).take u.size=(toL u).take u.size:=by rw [ht,List.take_append_of_le_length (by omega)]
 have h1:=Qjf (b:=(c.toNat:Int)) u.size ab
 have aa:bt t u.size=(c.toNat:Int):=by
  rw [QiZ,ht,List.getElem?_append_right (by omega),ad,Nat.sub_self];rfl
 have h2:=QfN aa;rw [h1] at h2;have e1:t.extract (spl u (c.toNat:Int) u.size).2 u.size=u.extract (spl u (c.toNat:Int) u.size).2 u.size:=QdR (by rw [QbK,QbK,ab]);rw [e1] at h2
 have ac:(toL t).drop (u.size+1)=toL x:=by
  rw [ht,<- ad,<- List.drop_drop,List.drop_left];rfl
 have h3:=Qh4 (t:=t) (b:=(c.toNat:Int)) (k:=u.size+1) x.size (fun j a1 a2=>no_bt hx ac j a1 (by rw [QaC];exact a2));rw [<- ae,h2] at h3;have e2:t.extract (u.size+1) t.size=x:=QdR (by rw [QbK,List.take_of_length_le (by rw [QaC];exact Nat.le_refl _),ac]);unfold Qfi;rw [h3]
 show (spl u (c.toNat:Int) u.size).1 ++ [u.extract (spl u (c.toNat:Int) u.size).2 u.size] ++ [t.extract (u.size+1) t.size]=_
 rw [e2]
theorem Qjn:∀ (n:Nat) {K:List ByteArray},K.length=n+1->(∀ x∈K,(44:UInt8) ∉ toL x)->Qfi ⟨(QaT K).toArray⟩ 44=K
 | 0,K,hl,hn=>by
  obtain ⟨y,rfl⟩:=List.length_eq_one_iff.1 hl;rw [QeS,Qgv];exact Qjv (c:=44) (hn y List.mem_cons_self)
 | n+1,K,hl,hn=>by
  rcases List.eq_nil_or_concat K with rfl | ⟨K',x,rfl⟩
  ·simp at hl
  ·rw [List.concat_eq_append] at hl hn ⊢
   have hl2:K'.length=n+1:=by simpa using hl
   have ih:=Qjn n hl2 (fun y hy=>hn y (List.mem_append_left _ hy));have aa:K'≠[]:=fun e=>by rw [e] at hl2;simp at hl2
   have:=QiY (t:=⟨(QaT (K' ++ [x])).toArray⟩) (u:=⟨(QaT K').toArray⟩) (x:=x) (c:=44) (by rw [QcD,QcD,QhY aa];simp) (hn x (by simp));have e:Qfi ⟨(QaT (K' ++ [x])).toArray⟩ 44=Qfi ⟨(QaT K').toArray⟩ 44 ++ [x]:=this;rw [e,ih]
theorem Qnd {t name:ByteArray} {r:List UInt8} (ht:toL t=toL name ++ 123 :: r) (h1:(123:UInt8) ∉ toL name) (h2:(123:UInt8) ∉ r):Qfi t 123=[name,⟨r.toArray⟩]:=by
 have:=QiY (t:=t) (u:=name) (x:=⟨r.toArray⟩) (c:=123) (by rw [QcD];exact ht) (by rw [QcD];exact h2);have e:=Qjv (c:=123) h1;exact this.trans (by rw [e];rfl)
set_option maxRecDepth 10000
def MX (w:World):Prop:=∃ m,w.cell? ⟨0,0,none⟩=some (.int .i64 m)
theorem MX.past {w w':World} (h:MX w) (hb:Below w.heap.size w w'):MX w':=by
 obtain ⟨m,hm⟩:=h;exact ⟨m,Qab hb hm⟩
theorem MX.drews {w:World} (h:MX w) (n:Nat):MX (w.drewN n):=h.past ⟨rfl,rfl,rfl,ZZa _,fun _ _=>rfl⟩
theorem mx_of {w:World} (h:w.ShapedOpen Tryz.prog):MX w:=Tryz.laysM145.s1_3 w h
def Qb0 (t:ByteArray):List ByteArray:=if t.size=0 then [] else Lib.splitB ⟨#[44]⟩ 0 (Lib.countB t ⟨#[44]⟩) t
theorem Qg3 (sep:ByteArray):∀ (k:Nat) (s:ByteArray),∀ u∈Lib.splitB sep 0 k s,u.size<=s.size
 | 0,s,u,h=>by
  rw [Lib.splitB_zero] at h;obtain rfl:=List.mem_singleton.1 h;exact ZZa _
 | k+1,s,u,h=>by
  unfold Lib.splitB at h
  split at h
  ·obtain rfl:=List.mem_singleton.1 h;exact ZZa _
  ·rcases List.mem_cons.1 h with rfl | h
   ·rw [Qb6];omega
   ·have:=Qg3 sep k _ u h
    rw [Qb6] at this;omega
theorem Qko (t:ByteArray):∀ u∈Qb0 t,u.size<=t.size:=fun u h=>by
 unfold Qb0 at h
 split at h
 ·cases h
 ·exact Qg3 _ _ _ u h
theorem QhK {t:ByteArray} (h:¬ t.size=0):(Qb0 t).length=Lib.countB t ⟨#[44]⟩+1:=by
 unfold Qb0;rw [if_neg h];exact Lib.splitB_all ⟨#[44]⟩ (by decide) 0 _ t rfl
theorem Qoq (t:ByteArray):(Qb0 t).length<=t.size+1:=by
 by_cases h:t.size=0
 ·unfold Qb0;rw [if_pos h];simp
 ·rw [QhK h]
  have:=Lib.countB_le ⟨#[44]⟩ (by decide) t.size t (ZZa _);omega
def Qej (t:ByteArray):ByteArray:=⟨(Lib.cut (toL t) [123]).1.toArray⟩
def QeV (t:ByteArray):ByteArray:=⟨(Lib.cut (toL t) [123]).2.1.toArray⟩
def QcJ (t:ByteArray):ByteArray:=⟨(Lib.trimSuffix (toL (QeV t)) [125]).toArray⟩
theorem QeA (l:List UInt8):(⟨l.toArray⟩:ByteArray).size=l.length:=by rw [<- QaC,QcD]
theorem Qls (t:ByteArray):(Qej t).size<=t.size/\(QeV t).size<=t.size:=by
 unfold Qej QeV;rw [QeA,QeA];have hl:=QaC t;have aa:t.data.toList.length=t.size:=hl;by_cases h:0<=Lib.index (toL t) [123]
 ·have e:Lib.cut (toL t) [123]=((toL t).take (Lib.index (toL t) [123]).toNat,(toL t).drop ((Lib.index (toL t) [123]).toNat + [(123:UInt8)].length),true):=by unfold Lib.cut;rw [if_pos h]
  rw [e];refine ⟨?_,?_⟩
  ·show ((toL t).take _).length<=_
   rw [List.length_take];exact Nat.le_trans (Nat.min_le_right _ _) (Nat.le_of_eq hl)
  ·show ((toL t).drop _).length<=_
   rw [List.length_drop];exact Nat.le_trans (Nat.sub_le _ _) (Nat.le_of_eq hl)
 ·have e:Lib.cut (toL t) [123]=(toL t,[],false):=by unfold Lib.cut;rw [if_neg h]
  rw [e];exact ⟨Nat.le_of_eq hl,ZZj _⟩
theorem Qjq (t:ByteArray):(QcJ t).size<=(QeV t).size:=by
 unfold QcJ;rw [QeA];have:=QaC (QeV t);unfold Lib.trimSuffix
 split
 ·rw [List.length_take];omega
 ·omega
theorem Qq2 (l:List UInt8):Lib.trimSuffix (l ++ [125]) [125]=l:=by
 unfold Lib.trimSuffix Lib.hasSuffix;rw [if_pos (by simp)];simp
theorem QpQ {t name:ByteArray} {K:List ByteArray} (h:Qj2 t name K):Qej t=name/\Qb0 (QcJ t)=K:=by
 obtain ⟨h1,h2,h3,h4,h5,h6⟩:=h;have ht:toL t=toL name ++ 123 :: (QaT K ++ [125]):=by rw [h6];exact QkM name K
 have hc:=cut_at (r:=QaT K ++ [125]) (QnN h1);rw [<- ht] at hc;refine ⟨?_,?_⟩
 ·unfold Qej;rw [hc];exact Qgv name
 ·have e:QcJ t=⟨(QaT K).toArray⟩:=by
   unfold QcJ QeV;rw [hc,QcD];show (⟨(Lib.trimSuffix (QaT K ++ [125]) [125]).toArray⟩:ByteArray)=_;rw [Qq2]
  rw [e];unfold Qb0;rw [QeA];by_cases hK:K=[]
  ·subst hK;rfl
  ·rw [if_neg (fun h0=>Qjp h2 hK (List.eq_nil_of_length_eq_zero h0))]
   exact QjW h2 hK
theorem Qka (a b:ByteArray):(a.toList == b.toList)=decide (a=b):=by
 by_cases h:a=b
 ·subst h;simp
 ·rw [decide_eq_false h]
  cases e:(a.toList == b.toList) with
  | false=>rfl
  | true=>exact absurd (QjT e) h
theorem Qo9 {t:ByteArray} (h1:1<=t.size):decide (Qeh (Qej t) (Qb0 (QcJ t))=t)=Qbv t:=by
 by_cases h:Qcj t
 ·rw [QcU h]
  obtain ⟨aa,K,hs⟩:=h;obtain ⟨e1,e2⟩:=QpQ hs;rw [e1,e2];exact ZZh (QnM hs)
 ·rw [Qcd h]
  exact ZZg (fun e=>h (Qm7 e (by omega)))
theorem QkH {w:World} (t:ByteArray) (hm:MX w) (hs:t.size<=1000000) :
  Calls Tryz.prog 156 #[.string t] w fun e w'=>∃ ao n c,e=.returned (.slice ao n c)/\(Qb0 t).length=n/\Qa6 w' ao (Qb0 t)/\Below w.heap.size w w':=by
 by_cases h0:t.size=0
 ·have e:t=ByteArray.empty:=QdR (List.eq_nil_of_length_eq_zero (by rw [QaC];exact h0))
  subst e;go_enter Tryz.func156,Tryz.ntmps156;go_wp2;go_ret;exact ⟨none,0,0,rfl,rfl,fun h=>absurd h (Nat.lt_irrefl 0),ZZb _ _⟩
 ·have aa:t.toList.isEmpty=false:=by
   rw [ByteArray.toList_eq]
   cases e:t.data.toList with
   | nil=>exact absurd (by rw [<- QaC];show t.data.toList.length=0;rw [e];rfl) h0
   | cons x r=>rfl
  have HN:=Qaa (QhK h0);have HT:Hid (Qb0 t=Lib.splitB ⟨#[44]⟩ 0 (Lib.countB t ⟨#[44]⟩) t):=(by unfold Qb0;rw [if_neg h0]:Qb0 t=Lib.splitB ⟨#[44]⟩ 0 (Lib.countB t ⟨#[44]⟩) t);obtain ⟨m,hm⟩:=hm;go_enter Tryz.func156,Tryz.ntmps156;go_wp2_with (go_at_call 198;refine (Tryz.strings_Split _ _ m _ (by omega) hm (by decide)).mono ?_;rintro e w1 ⟨rfl,rfl⟩);go_ret;refine ⟨some ⟨w.heap.size,0,none⟩,_,_,rfl,HN,fun _=>⟨w.heap.size,0,rfl,fun i u hu=>?_⟩,(ZZb _ _).alloc (ZZa _) _⟩;rw [cell_of_row _ w.heap.size _ _ _ (0,0) (heap_alloc_new w _),Nat.zero_add];rw [HT.out] at hu;simp [hu]
theorem Qh0 {w:World} (t:ByteArray) (hm:MX w) (hs:t.size<=1000000) :
  Calls Tryz.prog 121 #[.string t] w fun e w'=>∃ ao n c,e=.returned (.tuple #[.string (Qej t),.slice ao n c])/\(Qb0 (QcJ t)).length=n/\Qa6 w' ao (Qb0 (QcJ t))/\Below w.heap.size w w':=by
 obtain ⟨z1,z2⟩:=Qls t;have z3:=Qjq t;have HM:=Qaa hm;obtain ⟨m,hm⟩:=hm;go_enter Tryz.func121,Tryz.ntmps121;go_wp2_with fail;refine (Tryz.strings_Cut t ⟨#[123]⟩ m _ (by omega) hm).mono ?_;rintro e w1 ⟨rfl,k,rfl⟩;have e1:(⟨(Lib.cut t.data.toList (⟨#[123]⟩:ByteArray).data.toList).1.toArray⟩:ByteArray)=Qej t:=rfl;have e2:(⟨(Lib.cut t.data.toList (⟨#[123]⟩:ByteArray).data.toList).2.1.toArray⟩:ByteArray)=QeV t:=rfl;rw [e1,e2];clear e1 e2;go_wp2_with fail;refine (Tryz.strings_TrimSuffix (QeV t) ⟨#[125]⟩ _ (by omega)).mono ?_;rintro e w1 ⟨rfl,rfl⟩;have e3:(⟨(Lib.trimSuffix (QeV t).data.toList (⟨#[125]⟩:ByteArray).data.toList).toArray⟩:ByteArray)=QcJ t:=rfl;rw [e3];clear e3;go_wp2_with fail;refine (QkH (QcJ t) (HM.out.drews k) (by omega)).mono ?_;rintro e w2 ⟨ao,n,c,rfl,hn,hS,hb⟩;go_wp2;go_ret2;exact ⟨ao,n,c,rfl,hn,hS,(Qah (ZZb _ _) k).trans (hb.mono (ZZa _))⟩
theorem QdK {w:World} (t:ByteArray) (hm:MX w) (hs:t.size<=maxLen) :
  Calls Tryz.prog 78 #[.string t] w fun e w'=>e=.returned (.bool (Qbv t))/\Below w.heap.size w w':=by
 unfold maxLen at hs;by_cases h0:t.size<1
 ·have ac:(t.size:Int)<1:=by omega
  have HE:Hid (Qbv t=false):=Qcd (fun ⟨name,K,h⟩=>by
   have:=h.2.2.2.2.2;have e:=congrArg ByteArray.size this;rw [Qi4] at e;omega)
  go_enter Tryz.func78,Tryz.ntmps78;go_wp2;go_ret;exact ⟨QaI HE.out.symm,ZZb _ _⟩
 have ac:¬ (t.size:Int)<1:=by omega
 by_cases h1:100<t.size
 ·have ab:(100:Int)<(t.size:Int):=by omega
  have HE:Hid (Qbv t=false):=Qcd (fun ⟨name,K,h⟩=>by have:=h.2.2.2.2.1;omega);go_enter Tryz.func78,Tryz.ntmps78;go_wp2;go_ret;exact ⟨QaI HE.out.symm,ZZb _ _⟩
 have ab:¬ (100:Int)<(t.size:Int):=by omega
 have HE:=Qaa (Qo9 (t:=t) (by omega));obtain ⟨z1,z2⟩:=Qls t;have z3:=Qjq t;have z4:=Qoq (QcJ t);have z5:=Qko (QcJ t);have HZ:=Qaa z5;clear z5;go_enter Tryz.func78,Tryz.ntmps78;go_wp2_with fail;refine (Qh0 t hm (by omega)).mono ?_;rintro e w2 ⟨ao,n,c,rfl,hn,hS,hb⟩;have HN:=Qaa hn;have HS:=Qaa hS;clear hn hS;go_wp2_with fail;refine (Qhq (Qej t) c n (by unfold maxLen;omega) HN (by have:=HN.out;omega) (fun u hu=>by have:=HZ.out u hu;unfold maxLen;omega) HS).mono ?_;rintro e w3 ⟨rfl,aa⟩;have HB:=Qaa (hb.trans (aa.mono hb.size));have hq:=Qka (Qeh (Qej t) (Qb0 (QcJ t))) t;rw [HE.out] at hq;clear hb aa HE;generalize Qeh (Qej t) (Qb0 (QcJ t))=u at hq ⊢;go_wp2;go_ret;exact ⟨rfl,HB⟩
end Go.Proofs.YtandnmpllheniaaGreatDoor
