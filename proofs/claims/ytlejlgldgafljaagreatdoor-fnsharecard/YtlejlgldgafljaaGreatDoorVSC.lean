/-
 Parts.
-/
import Derived.Test.YtlejlgldgafljaaGreatDoorVSB
set_option maxHeartbeats 2000000
set_option linter.all false
namespace Go.Proofs.YtlejlgldgafljaaGreatDoor
open Go.ChangeShapes Go.WideShapes Go.ChangeAt Go.RowKit Go.PlainAid Tryz
theorem size_extract (s:ByteArray) (a b:Nat):(s.extract a b).size=min b s.size - a:=by simp
theorem QnO (s:ByteArray) (a b j:Nat) (hb:b<=s.size) (h:a+j<b):bt (s.extract a b) j=bt s (a+j):=by
 unfold bt;rw [dif_pos (show j<(s.extract a b).size by rw [size_extract];omega),dif_pos (show a+j<s.size by omega)];simp [ByteArray.getElem_extract]
def spl (t:ByteArray) (b:Int):Nat->List ByteArray×Nat
 | 0=>([],0)
 | k+1=>if bt t k=b then ((spl t b k).1 ++ [t.extract (spl t b k).2 k],k+1) else spl t b k
variable {name t u:ByteArray}
variable {b:Int}
variable {B k:Nat}
theorem Qft (h:bt t k=b):spl t b (k+1)=((spl t b k).1 ++ [t.extract (spl t b k).2 k],k+1):=by
 show (if bt t k=b then _ else _)=_;rw [if_pos h]
theorem QdV (h:¬ bt t k=b):spl t b (k+1)=spl t b k:=by
 show (if bt t k=b then _ else _)=_;rw [if_neg h]
theorem QoF (t:ByteArray) (b:Int):∀ k,(spl t b k).2<=k/\(spl t b k).1.length<=k
 | 0=>⟨ZZa _,ZZa _⟩
 | k+1=>by
  have ih:=QoF t b k;by_cases h:bt t k=b
  ·rw [Qft h];simp;omega
  ·rw [QdV h];omega
def Qbh (t:ByteArray) (b:Int):List ByteArray:=(spl t b t.size).1 ++ [t.extract (spl t b t.size).2 t.size]
theorem Qgg (t:ByteArray) (b:Int):(Qbh t b).length=(spl t b t.size).1.length+1:=by simp [Qbh]
theorem infoS:(prog.info? 9).map (fun i=>(i.zero,i.size,i.bytes))=some (some (.string ByteArray.empty),1,16):=by kernel_rfl
variable {w:World}
variable {v:Value}
theorem QmN {wr w1:World} {o:Obj} (hB:B<=wr.heap.size) (hown:wr.ownsRow B 9 1 v (spl t b k).1.length ((spl t b k).1.map Value.string)) (hnx:Below B w wr) (hgrow:(wr.alloc o).grownBy w1 v.ownBlock):Below B w w1:=
 (hnx.alloc hB o).grown hgrow (by simp;omega) (fun j hj=>(hown.lt j hj).1)
theorem Qmn {n n':Nat} {xs xs':List Value} (h:w.ownsRow B 9 1 v n xs) (e:n=n') (e2:xs=xs'):w.ownsRow B 9 1 v n' xs':=by subst e e2;exact h
variable {L:List ByteArray}
theorem Quz (h:w.ownsRow B 9 1 v L.length (L.map Value.string)) (hne:0<L.length) :
  ∃ g cap,v=.slice (some ⟨g,0,none⟩) L.length cap/\B<=g/\∀ j u,L[j]?=some u->w.cell? ⟨g,j,none⟩=some (.string u):=by
 have hc:=fun g hg=>h.cells (g:=g) hg;rcases h.2 with ⟨_,e⟩ | ⟨g,cap,aa,e,hb,_⟩
 ·omega
 ·refine ⟨g,cap,e,hb,fun j u hj=>?_⟩
  have:=hc g (by rw [e];rfl) j (.string u) (by simp [hj]);by_cases h0:j=0
  ·subst h0;simpa [Addr.add] using this
  ·simpa [Addr.add,h0] using this
theorem QrC (h:w.ownsRow B 9 1 v L.length (L.map Value.string)) (hne:0<L.length) :
  ∃ g cap,v=.slice (some ⟨g,0,none⟩) L.length cap/\B<=g/\L.length<=cap/\∀ j u,L[j]?=some u->w.cell? ⟨g,j,none⟩=some (.string u):=by
 obtain ⟨g,cap,e,hb,hc⟩:=Quz h hne;refine ⟨g,cap,e,hb,?_,hc⟩;rcases h.2 with ⟨_,e2⟩ | ⟨g2,aa,ab,e2,ac,h1,h2,h3,h4⟩
 ·omega
 ·rw [e] at e2
  cases e2
  omega
theorem Qka (t:ByteArray) (b:Int) (ht:t.size<=1048576) (hb:0<=b/\b<=255) (w:World) :
  Calls prog 111 #[.string t,.int .u8 b] w fun e w'=>∃ g cap,e=.returned (.slice (some ⟨g,0,none⟩) (Qbh t b).length cap)/\w.heap.size<=g/\(Qbh t b).length<=cap/\(∀ j u,(Qbh t b)[j]?=some u->w'.cell? ⟨g,j,none⟩=some (.string u))/\Bw w w':=by
 obtain ⟨i0,hi,ai,ag,ah⟩:=info_parts infoS;have ao:=get_bt t;go_enter func111,ntmps111;go_wp2
 go_loopw [5,6,7] (fun v f i wr=>∃ k:Nat,k<=t.size/\i=.int .i64 k/\f=.int .i64 ((spl t b k).2:Nat)/\wr.ownsRow w.heap.size 9 1 v (spl t b k).1.length ((spl t b k).1.map Value.string)/\Bw w wr) (fun v f i wr=>t.size - (Go.RowKit.intOf i).toNat)
 case atStart=>exact ⟨0,ZZj _,rfl,rfl,World.ownsRow_made w #[] 0 (ZZa _) (ZZj _) rfl,(ZZb _ _).alloc (ZZa _) _⟩
 case round=>
  obtain ⟨k,hk,rfl,rfl,ad,ac⟩:=hrel;have af:=ac.size;obtain ⟨hf,ap⟩:=QoF t b k;obtain ⟨F,hF⟩:∃ F,F=(spl t b k).2:=⟨_,rfl⟩;rw [<- hF] at hf;rw [<- hF];by_cases am:k<t.size
  ·have ak:(k:Int)<(t.size:Int):=by omega
   by_cases hh:bt t k=b
   ·have aj:(bt t k == b)=true:=by simp [hh]
    have HS:Hid (spl t b (k+1)=((spl t b k).1 ++ [t.extract F k],k+1)):=(by rw [Qft hh,hF]:spl t b (k+1)=((spl t b k).1 ++ [t.extract F k],k+1));have HF:Hid (F=(spl t b k).2):=hF;have HB:Hid (Bw w wr):=ac;have HO:Hid (wr.ownsRow w.heap.size 9 1 u5 (spl t b k).1.length ((spl t b k).1.map Value.string)):=ad;clear hF hh ad ac
    go_wp2_with (first
     | (at_builtin;refine wpList_append_own _ rfl _ _ 57 rfl w.heap.size 9 i0 (.string ByteArray.empty) 1 16 underlying57 hi ai ag ah rfl (by decide) _ _ _ rfl (HO.alloc _) ⟨wr.heap.size,0,none⟩ 1 1 [.string (t.extract F k)] rfl rfl ?c1 ?c2 ?c3 ?c4 ?c5 ?_))
    case c1=>
     intro j u hj
     match j,hj with
     | 0,hj=>simp at hj;subst hj;simp [Addr.add]
    case c2=>intro u hu;simp at hu;subst hu;rfl
    case c3=>unfold maxLen;omega
    case c4=>omega
    case c5=>simp;omega
    ·intro v' w1 ab aa _
     have R:=QmN (t:=t) (b:=b) (k:=k) af HO HB aa;have R2:w1.ownsRow w.heap.size 9 1 v' (spl t b (k+1)).1.length ((spl t b (k+1)).1.map Value.string):=Qmn ab (by rw [HS.out];simp) (by rw [HS.out];simp);clear ab aa HO HB;go_wp2;go_roundw
     case rel=>exact ⟨k+1,by omega,by go_num,by rw [HS.out];go_num,R2,R⟩
     case measure=>simp [zI];omega
   ·have aj:(bt t k == b)=false:=ZZf.2 hh
    have HS:Hid (spl t b (k+1)=spl t b k):=QdV hh;have HF:Hid (F=(spl t b k).2):=hF;have HB:Hid (Bw w wr):=ac;have HO:Hid (wr.ownsRow w.heap.size 9 1 u5 (spl t b k).1.length ((spl t b k).1.map Value.string)):=ad;clear hF hh ad ac;go_wp2;go_roundw
    case rel=>exact ⟨k+1,by omega,by go_num,by rw [HS.out,HF.out],by rw [HS.out];exact HO.out,HB⟩
    case measure=>simp [zI];omega
  ·have e:k=t.size:=by omega
   subst e;have ak:¬ (t.size:Int)<(t.size:Int):=by omega
   have an:(F:Int)<=(t.size:Int):=by omega
   have HF:Hid (F=(spl t b t.size).2):=hF;have HB:Hid (Bw w wr):=ac;have HO:Hid (wr.ownsRow w.heap.size 9 1 u5 (spl t b t.size).1.length ((spl t b t.size).1.map Value.string)):=ad;clear hF ad ac
   go_wp2_with (first
     | (at_builtin;refine wpList_append_own _ rfl _ _ 57 rfl w.heap.size 9 i0 (.string ByteArray.empty) 1 16 underlying57 hi ai ag ah rfl (by decide) _ _ _ rfl (HO.alloc _) ⟨wr.heap.size,0,none⟩ 1 1 [.string (t.extract F t.size)] rfl rfl ?d1 ?d2 ?d3 ?d4 ?d5 ?_))
   case d2=>first | rfl | simp [Value.oneCell'] | (intro u hu;simp at hu;subst hu;rfl)
   case d3=>unfold maxLen;omega
   case d4=>omega
   case d5=>first | omega | (simp;omega)
   ·intro v' w1 ab aa _
    have R:=QmN (t:=t) (b:=b) (k:=t.size) af HO HB aa;have R2:w1.ownsRow w.heap.size 9 1 v' (Qbh t b).length ((Qbh t b).map Value.string):=Qmn ab (by rw [Qgg]) (by unfold Qbh;rw [<- HF.out];simp);obtain ⟨g,cap,rfl,hg,al,ae⟩:=QrC R2 (by rw [Qgg];omega);clear ab aa HO HB;go_wp2;go_ret;exact ⟨g,cap,rfl,hg,al,ae,R⟩
theorem QdE (t:ByteArray) (b:Int) (ht:t.size<=1048576) (hb:0<=b/\b<=255) (w:World) :
  Calls prog 111 #[.string t,.int .u8 b] w fun e w'=>∃ g cap,e=.returned (.slice (some ⟨g,0,none⟩) (Qbh t b).length cap)/\w.heap.size<=g/\(∀ j u,(Qbh t b)[j]?=some u->w'.cell? ⟨g,j,none⟩=some (.string u))/\Bw w w':=
 (Qka t b ht hb w).mono (fun _ _ ⟨g,c,h1,h2,_,h4⟩=>⟨g,c,h1,h2,h4⟩)
theorem Qbk (t:ByteArray) (a b:Nat):toL (t.extract a b)=((toL t).take b).drop a:=by
 unfold toL;rw [ByteArray.data_extract,Array.toList_extract];rw [List.extract_eq_take_drop]
 try rw [List.drop_take]
theorem QfQ (t:ByteArray) (k:Nat):bt t k=(((toL t)[k]?.map UInt8.toNat).getD 0:Nat):=by
 unfold bt
 split
 ·rename_i h
  have h2:k<(toL t).length:=by rw [Qaq];exact h
  rw [List.getElem?_eq_getElem h2];simp [toL]
  rfl
 ·rename_i h
  rw [List.getElem?_eq_none (by rw [Qaq];omega)];rfl
theorem Qrf (h:(toL t).take (k+1)=(toL u).take (k+1)):bt t k=bt u k:=by
 have e:∀ v:ByteArray,(toL v)[k]?=((toL v).take (k+1))[k]?:=fun v=>by rw [List.getElem?_take,if_pos (by omega)]
 rw [QfQ,QfQ,e t,e u,h]
theorem Qj1 {t u:ByteArray} {b:Int}:∀ k,(toL t).take k=(toL u).take k->spl t b k=spl u b k
 | 0,_=>rfl
 | k+1,h=>by
  have h1:(toL t).take k=(toL u).take k:=by
   have:=congrArg (List.take k) h
   rwa [List.take_take,List.take_take,Nat.min_eq_left (by omega)] at this
  have ih:=Qj1 (b:=b) k h1;have hb:=Qrf h;by_cases hh:bt t k=b
  ·rw [Qft hh,Qft (by rw [<- hb];exact hh),ih]
   have e:t.extract (spl u b k).2 k=u.extract (spl u b k).2 k:=Qbc (by rw [Qbk,Qbk,h1]);rw [e]
  ·rw [QdV hh,QdV (by rw [<- hb];exact hh),ih]
theorem Qje {t:ByteArray} {b:Int} {k:Nat}:∀ n,(∀ j,k<=j->j<k+n->¬ bt t j=b)->spl t b (k+n)=spl t b k
 | 0,_=>rfl
 | n+1,h=>by
  rw [<- Nat.add_assoc,QdV (h (k+n) (by omega) (by omega)),Qje n (fun j h1 h2=>h j h1 (by omega))]
variable {c:UInt8}
theorem no_bt {x:List UInt8} (hx:c ∉ x) (h:(toL t).drop k=x):∀ j,k<=j->j<k+x.length->¬ bt t j=(c.toNat:Int):=fun j h1 h2 e=>by
 have hg:(toL t)[j]?=x[j - k]?:=by rw [<- h,List.getElem?_drop];congr 1;omega
 rw [QfQ,hg,List.getElem?_eq_getElem (by omega)] at e;simp at e;have:x[j - k]'(by omega)=c:=UInt8.toNat_inj.1 (by exact_mod_cast e);exact hx (by rw [<- this];exact List.getElem_mem _)
theorem QgM (h:c ∉ toL t):Qbh t (c.toNat:Int)=[t]:=by
 have h1:=Qje (t:=t) (b:=(c.toNat:Int)) (k:=0) t.size (fun j h1 h2=>no_bt (k:=0) h (by simp) j h1 (by rw [Qaq];exact h2));rw [Nat.zero_add] at h1;unfold Qbh;rw [h1];have e:t.extract 0 t.size=t:=Qbc (by rw [Qbk,List.drop_zero,List.take_of_length_le (by rw [Qaq];exact Nat.le_refl _)])
 show [] ++ [t.extract 0 t.size]=[t]
 rw [e];rfl
theorem QgF {x:ByteArray} (ht:toL t=toL u ++ c :: toL x) (hx:c ∉ toL x):Qbh t (c.toNat:Int)=Qbh u (c.toNat:Int) ++ [x]:=by
 have ae:t.size=u.size+1+x.size:=by rw [<- Qaq,ht,List.length_append,List.length_cons,Qaq,Qaq];omega
 have ad:(toL u).length=u.size:=Qaq u;have ab:(toL t).take u.size=(toL u).take u.size:=by rw [ht,List.take_append_of_le_length (by omega)]
 have h1:=Qj1 (b:=(c.toNat:Int)) u.size ab
 have aa:bt t u.size=(c.toNat:Int):=by
  rw [QfQ,ht,List.getElem?_append_right (by omega),ad,Nat.sub_self];rfl
 have h2:=Qft aa;rw [h1] at h2;have e1:t.extract (spl u (c.toNat:Int) u.size).2 u.size=u.extract (spl u (c.toNat:Int) u.size).2 u.size:=Qbc (by rw [Qbk,Qbk,ab]);rw [e1] at h2
 have ac:(toL t).drop (u.size+1)=toL x:=by
  rw [ht,<- ad,<- List.drop_drop,List.drop_left];rfl
 have h3:=Qje (t:=t) (b:=(c.toNat:Int)) (k:=u.size+1) x.size (fun j a1 a2=>no_bt hx ac j a1 (by rw [Qaq];exact a2));rw [<- ae,h2] at h3;have e2:t.extract (u.size+1) t.size=x:=Qbc (by rw [Qbk,List.take_of_length_le (by rw [Qaq];exact Nat.le_refl _),ac]);unfold Qbh;rw [h3]
 show (spl u (c.toNat:Int) u.size).1 ++ [u.extract (spl u (c.toNat:Int) u.size).2 u.size] ++ [t.extract (u.size+1) t.size]=_
 rw [e2]
theorem QkN:∀ (n:Nat) {K:List ByteArray},K.length=n+1->(∀ x∈K,(44:UInt8) ∉ toL x)->Qbh ⟨(QaQ K).toArray⟩ 44=K
 | 0,K,hl,hn=>by
  obtain ⟨y,rfl⟩:=List.length_eq_one_iff.1 hl;rw [Qdm,QfM];exact QgM (c:=44) (hn y List.mem_cons_self)
 | n+1,K,hl,hn=>by
  rcases List.eq_nil_or_concat K with rfl | ⟨K',x,rfl⟩
  ·simp at hl
  ·rw [List.concat_eq_append] at hl hn ⊢
   have hl2:K'.length=n+1:=by simpa using hl
   have ih:=QkN n hl2 (fun y hy=>hn y (List.mem_append_left _ hy));have aa:K'≠[]:=fun e=>by rw [e] at hl2;simp at hl2
   have:=QgF (t:=⟨(QaQ (K' ++ [x])).toArray⟩) (u:=⟨(QaQ K').toArray⟩) (x:=x) (c:=44) (by rw [Qba,Qba,Qfx aa];simp) (hn x (by simp));have e:Qbh ⟨(QaQ (K' ++ [x])).toArray⟩ 44=Qbh ⟨(QaQ K').toArray⟩ 44 ++ [x]:=this;rw [e,ih]
theorem Qpo {r:List UInt8} (ht:toL t=toL name ++ 123 :: r) (h1:(123:UInt8) ∉ toL name) (h2:(123:UInt8) ∉ r):Qbh t 123=[name,⟨r.toArray⟩]:=by
 have:=QgF (t:=t) (u:=name) (x:=⟨r.toArray⟩) (c:=123) (by rw [Qba];exact ht) (by rw [Qba];exact h2);have e:=QgM (c:=123) h1;exact this.trans (by rw [e];rfl)
set_option maxRecDepth 10000
def MX (w:World):Prop:=∃ m,w.cell? ⟨0,0,none⟩=some (.int .i64 m)
theorem MX.past {w':World} (h:MX w) (hb:Bw w w'):MX w':=by
 obtain ⟨m,hm⟩:=h;exact ⟨m,Qab hb hm⟩
theorem MX.drews (h:MX w) (n:Nat):MX (w.drewN n):=h.past ⟨rfl,rfl,rfl,ZZa _,fun _ _=>rfl⟩
theorem mx_of (h:w.ShapedOpen prog):MX w:=Tryz.laysM145.s1_3 w h
def QbW (t:ByteArray):List ByteArray:=if t.size=0 then [] else Lib.splitB ⟨#[44]⟩ 0 (Lib.countB t ⟨#[44]⟩) t
theorem Qdb (sep:ByteArray):∀ (k:Nat) (s:ByteArray),∀ u∈Lib.splitB sep 0 k s,u.size<=s.size
 | 0,s,u,h=>by
  rw [Lib.splitB_zero] at h;obtain rfl:=List.mem_singleton.1 h;exact ZZa _
 | k+1,s,u,h=>by
  unfold Lib.splitB at h
  split at h
  ·obtain rfl:=List.mem_singleton.1 h;exact ZZa _
  ·rcases List.mem_cons.1 h with rfl | h
   ·rw [size_extract];omega
   ·have:=Qdb sep k _ u h
    rw [size_extract] at this;omega
theorem QlF (t:ByteArray):∀ u∈QbW t,u.size<=t.size:=fun u h=>by
 unfold QbW at h
 split at h
 ·cases h
 ·exact Qdb _ _ _ u h
theorem Qh4 (h:¬ t.size=0):(QbW t).length=Lib.countB t ⟨#[44]⟩+1:=by
 unfold QbW;rw [if_neg h];exact Lib.splitB_all ⟨#[44]⟩ (by decide) 0 _ t rfl
theorem Qp5 (t:ByteArray):(QbW t).length<=t.size+1:=by
 by_cases h:t.size=0
 ·unfold QbW;rw [if_pos h];simp
 ·rw [Qh4 h]
  have:=Lib.countB_le ⟨#[44]⟩ (by decide) t.size t (ZZa _);omega
def Qd5 (t:ByteArray):ByteArray:=⟨(Lib.cut (toL t) [123]).1.toArray⟩
def QeT (t:ByteArray):ByteArray:=⟨(Lib.cut (toL t) [123]).2.1.toArray⟩
def QcI (t:ByteArray):ByteArray:=⟨(Lib.trimSuffix (toL (QeT t)) [125]).toArray⟩
theorem Qd9 (l:List UInt8):(⟨l.toArray⟩:ByteArray).size=l.length:=by rw [<- Qaq,Qba]
theorem Qnf (t:ByteArray):(Qd5 t).size<=t.size/\(QeT t).size<=t.size:=by
 unfold Qd5 QeT;rw [Qd9,Qd9];have hl:=Qaq t;have aa:t.data.toList.length=t.size:=hl;by_cases h:0<=Lib.index (toL t) [123]
 ·have e:Lib.cut (toL t) [123]=((toL t).take (Lib.index (toL t) [123]).toNat,(toL t).drop ((Lib.index (toL t) [123]).toNat + [(123:UInt8)].length),true):=by unfold Lib.cut;rw [if_pos h]
  rw [e];refine ⟨?_,?_⟩
  ·show ((toL t).take _).length<=_
   rw [List.length_take];exact Nat.le_trans (Nat.min_le_right _ _) (Nat.le_of_eq hl)
  ·show ((toL t).drop _).length<=_
   rw [List.length_drop];exact Nat.le_trans (Nat.sub_le _ _) (Nat.le_of_eq hl)
 ·have e:Lib.cut (toL t) [123]=(toL t,[],false):=by unfold Lib.cut;rw [if_neg h]
  rw [e];exact ⟨Nat.le_of_eq hl,ZZj _⟩
theorem QkE (t:ByteArray):(QcI t).size<=(QeT t).size:=by
 unfold QcI;rw [Qd9];have:=Qaq (QeT t);unfold Lib.trimSuffix
 split
 ·rw [List.length_take];omega
 ·omega
theorem QtJ (l:List UInt8):Lib.trimSuffix (l ++ [125]) [125]=l:=by
 unfold Lib.trimSuffix Lib.hasSuffix;rw [if_pos (by simp)];simp
theorem Qsn {K:List ByteArray} (h:Qhr t name K):Qd5 t=name/\QbW (QcI t)=K:=by
 obtain ⟨h1,h2,h3,h4,h5,h6⟩:=h;have ht:toL t=toL name ++ 123 :: (QaQ K ++ [125]):=by rw [h6];exact QlR name K
 have hc:=QpY (r:=QaQ K ++ [125]) (QoN h1);rw [<- ht] at hc;refine ⟨?_,?_⟩
 ·unfold Qd5;rw [hc];exact QfM name
 ·have e:QcI t=⟨(QaQ K).toArray⟩:=by
   unfold QcI QeT;rw [hc,Qba];show (⟨(Lib.trimSuffix (QaQ K ++ [125]) [125]).toArray⟩:ByteArray)=_;rw [QtJ]
  rw [e];unfold QbW;rw [Qd9];by_cases hK:K=[]
  ·subst hK;rfl
  ·rw [if_neg (fun h0=>Qku h2 hK (List.eq_nil_of_length_eq_zero h0))]
   exact Qlk h2 hK
theorem Qli (a b:ByteArray):(a.toList == b.toList)=decide (a=b):=by
 by_cases h:a=b
 ·subst h;simp
 ·rw [decide_eq_false h]
  cases e:(a.toList == b.toList) with
  | false=>rfl
  | true=>exact absurd (QfC e) h
theorem Qsi (h1:1<=t.size):decide (Qcp (Qd5 t) (QbW (QcI t))=t)=Qbt t:=by
 by_cases h:Qca t
 ·rw [QcC h]
  obtain ⟨aa,K,hs⟩:=h;obtain ⟨e1,e2⟩:=Qsn hs;rw [e1,e2];exact ZZh (Qqg hs)
 ·rw [QbY h]
  exact ZZg (fun e=>h (QlG e (by omega)))
theorem Qlu (t:ByteArray) (hm:MX w) (hs:t.size<=1000000) :
  Calls prog 215 #[.string t] w fun e w'=>∃ ao n c,e=.returned (.slice ao n c)/\(QbW t).length=n/\Qau w' ao (QbW t)/\Bw w w':=by
 by_cases h0:t.size=0
 ·have e:t=ByteArray.empty:=Qbc (List.eq_nil_of_length_eq_zero (by rw [Qaq];exact h0))
  subst e;go_enter func215,ntmps215;go_wp2;go_ret;exact ⟨none,0,0,rfl,rfl,fun h=>absurd h (Nat.lt_irrefl 0),ZZb _ _⟩
 ·have aa:t.toList.isEmpty=false:=by
   rw [ByteArray.toList_eq]
   cases e:t.data.toList with
   | nil=>exact absurd (by rw [<- Qaq];show t.data.toList.length=0;rw [e];rfl) h0
   | cons x r=>rfl
  have HN:=Qaa (Qh4 h0);have HT:Hid (QbW t=Lib.splitB ⟨#[44]⟩ 0 (Lib.countB t ⟨#[44]⟩) t):=(by unfold QbW;rw [if_neg h0]:QbW t=Lib.splitB ⟨#[44]⟩ 0 (Lib.countB t ⟨#[44]⟩) t);obtain ⟨m,hm⟩:=hm;go_enter func215,ntmps215;go_wp2_with (go_at_call 233;refine (Tryz.strings_Split _ _ m _ (by omega) hm (by decide)).mono ?_;rintro e w1 ⟨rfl,rfl⟩);go_ret;refine ⟨some ⟨w.heap.size,0,none⟩,_,_,rfl,HN,fun _=>⟨w.heap.size,0,rfl,fun i u hu=>?_⟩,(ZZb _ _).alloc (ZZa _) _⟩;rw [cell_of_row _ w.heap.size _ _ _ (0,0) (heap_alloc_new w _),Nat.zero_add];rw [HT.out] at hu;simp [hu]
theorem QiF (t:ByteArray) (hm:MX w) (hs:t.size<=1000000) :
  Calls prog 203 #[.string t] w fun e w'=>∃ ao n c,e=.returned (.tuple #[.string (Qd5 t),.slice ao n c])/\(QbW (QcI t)).length=n/\Qau w' ao (QbW (QcI t))/\Bw w w':=by
 obtain ⟨z1,z2⟩:=Qnf t;have z3:=QkE t;have HM:=Qaa hm;obtain ⟨m,hm⟩:=hm;go_enter func203,ntmps203;go_wp2_with fail;refine (Tryz.strings_Cut t ⟨#[123]⟩ m _ (by omega) hm).mono ?_;rintro e w1 ⟨rfl,k,rfl⟩;have e1:(⟨(Lib.cut t.data.toList (⟨#[123]⟩:ByteArray).data.toList).1.toArray⟩:ByteArray)=Qd5 t:=rfl;have e2:(⟨(Lib.cut t.data.toList (⟨#[123]⟩:ByteArray).data.toList).2.1.toArray⟩:ByteArray)=QeT t:=rfl;rw [e1,e2];clear e1 e2;go_wp2_with fail;refine (Tryz.strings_TrimSuffix (QeT t) ⟨#[125]⟩ _ (by omega)).mono ?_;rintro e w1 ⟨rfl,rfl⟩;have e3:(⟨(Lib.trimSuffix (QeT t).data.toList (⟨#[125]⟩:ByteArray).data.toList).toArray⟩:ByteArray)=QcI t:=rfl;rw [e3];clear e3;go_wp2_with fail;refine (Qlu (QcI t) (HM.drews k) (by omega)).mono ?_;rintro e w2 ⟨ao,n,c,rfl,hn,hS,hb⟩;go_wp2;go_ret2;exact ⟨ao,n,c,rfl,hn,hS,(Qao (ZZb _ _) k).trans (hb.mono (ZZa _))⟩
theorem Qgn (t:ByteArray) (hm:MX w) (hs:t.size<=maxLen) :
  Calls prog 187 #[.string t] w fun e w'=>e=.returned (.bool (Qbt t))/\Bw w w':=by
 unfold maxLen at hs;by_cases h0:t.size<1
 ·have ab:(t.size:Int)<1:=by omega
  have HE:Hid (Qbt t=false):=QbY (fun ⟨name,K,h⟩=>by
   have:=h.2.2.2.2.2;have e:=congrArg ByteArray.size this;rw [QkC] at e;omega)
  go_enter func187,ntmps187;go_wp2;go_ret;exact ⟨Qax HE.symm,ZZb _ _⟩
 have ab:¬ (t.size:Int)<1:=by omega
 by_cases h1:100<t.size
 ·have ac:(100:Int)<(t.size:Int):=by omega
  have HE:Hid (Qbt t=false):=QbY (fun ⟨name,K,h⟩=>by have:=h.2.2.2.2.1;omega);go_enter func187,ntmps187;go_wp2;go_ret;exact ⟨Qax HE.symm,ZZb _ _⟩
 have ac:¬ (100:Int)<(t.size:Int):=by omega
 have HE:=Qaa (Qsi (t:=t) (by omega));obtain ⟨z1,z2⟩:=Qnf t;have z3:=QkE t;have z4:=Qp5 (QcI t);have z5:=QlF (QcI t);have HZ:=Qaa z5;clear z5;go_enter func187,ntmps187;go_wp2_with fail;refine (QiF t hm (by omega)).mono ?_;rintro e w2 ⟨ao,n,c,rfl,hn,hS,hb⟩;have HN:=Qaa hn;have HS:=Qaa hS;clear hn hS;go_wp2_with fail;refine (Qhq (Qd5 t) c n (by unfold maxLen;omega) HN (by have:=HN.out;omega) (fun u hu=>by have:=HZ.out u hu;unfold maxLen;omega) HS).mono ?_;rintro e w3 ⟨rfl,aa⟩;have HB:=Qaa (hb.trans (aa.mono hb.size));have hq:=Qli (Qcp (Qd5 t) (QbW (QcI t))) t;rw [HE.out] at hq;clear hb aa HE;generalize Qcp (Qd5 t) (QbW (QcI t))=u at hq ⊢;go_wp2;go_ret;exact ⟨rfl,HB⟩
end Go.Proofs.YtlejlgldgafljaaGreatDoor
