/-
 Parts.
-/
import Derived.Test.YtlejlgldgafljaaGreatDoorKSB
set_option maxHeartbeats 2000000
set_option linter.all false
namespace Go.Proofs.YtlejlgldgafljaaGreatDoor
open Go.ChangeShapes Go.WideShapes Go.ChangeAt Go.RowKit Go.PlainAid Tryz
theorem size_extract (s:ByteArray) (a b:Nat):(s.extract a b).size=min b s.size - a:=by simp
theorem QmU (s:ByteArray) (a b j:Nat) (hb:b<=s.size) (h:a+j<b):bt (s.extract a b) j=bt s (a+j):=by
 unfold bt;rw [dif_pos (show j<(s.extract a b).size by rw [size_extract];omega),dif_pos (show a+j<s.size by omega)];simp [ByteArray.getElem_extract]
def spl (t:ByteArray) (b:Int):Nat->List ByteArray×Nat
 | 0=>([],0)
 | k+1=>if bt t k=b then ((spl t b k).1 ++ [t.extract (spl t b k).2 k],k+1) else spl t b k
variable {name t u:ByteArray}
variable {b:Int}
variable {B k:Nat}
theorem Qcd (h:bt t k=b):spl t b (k+1)=((spl t b k).1 ++ [t.extract (spl t b k).2 k],k+1):=by
 show (if bt t k=b then _ else _)=_;rw [if_pos h]
theorem QbR (h:¬ bt t k=b):spl t b (k+1)=spl t b k:=by
 show (if bt t k=b then _ else _)=_;rw [if_neg h]
theorem Qmb (t:ByteArray) (b:Int):∀ k,(spl t b k).2<=k/\(spl t b k).1.length<=k
 | 0=>⟨ZZa _,ZZa _⟩
 | k+1=>by
  have ih:=Qmb t b k;by_cases h:bt t k=b
  ·rw [Qcd h];simp;omega
  ·rw [QbR h];omega
def Qba (t:ByteArray) (b:Int):List ByteArray:=(spl t b t.size).1 ++ [t.extract (spl t b t.size).2 t.size]
theorem QcV (t:ByteArray) (b:Int):(Qba t b).length=(spl t b t.size).1.length+1:=by simp [Qba]
theorem Qml {t:ByteArray} {b:Int}:∀ k,(∀ j,j<k->¬ bt t j=b)->spl t b k=([],0)
 | 0,_=>rfl
 | k+1,h=>by rw [QbR (h k (by omega))];exact Qml k (fun j hj=>h j (by omega))
theorem QsF {t:ByteArray} {b:Int} {d:Nat} (hd:bt t d=b):∀ k,d<k->(∀ j,j<k->j≠d->¬ bt t j=b)->spl t b k=([t.extract 0 d],d+1)
 | 0,h,_=>absurd h (by omega)
 | k+1,h,hn=>by
  by_cases e:k=d
  ·subst e
   rw [Qcd hd,Qml k (fun j hj=>hn j (by omega) (by omega))];rfl
  ·rw [QbR (hn k (by omega) e)];exact QsF hd k (by omega) (fun j hj=>hn j (by omega))
theorem Qic (t:ByteArray) (b:Int) (k:Nat):∀ n,(spl t b k).1.length<=(spl t b (k+n)).1.length
 | 0=>ZZa _
 | n+1=>by
  have ih:=Qic t b k n;by_cases h:bt t (k+n)=b
  ·rw [<- Nat.add_assoc,Qcd h];simp;omega
  ·rw [<- Nat.add_assoc,QbR h];exact ih
theorem spl_two {d e:Nat} (hd:bt t d=b) (he:bt t e=b) (hde:d<e) (hes:e<t.size):2<(Qba t b).length:=by
 rw [QcV];have h1:=Qic t b (d+1) (e - (d+1));have h2:=Qic t b (e+1) (t.size - (e+1));rw [show d+1+(e - (d+1))=e by omega] at h1;rw [show e+1+(t.size - (e+1))=t.size by omega] at h2;rw [Qcd hd] at h1;rw [Qcd he] at h2;simp at h1 h2;omega
theorem infoS:(prog.info? 9).map (fun i=>(i.zero,i.size,i.bytes))=some (some (.string ByteArray.empty),1,16):=by kernel_rfl
variable {w:World}
variable {v:Value}
theorem QfI {wr w1:World} {o:Obj} (hB:B<=wr.heap.size) (hown:wr.ownsRow B 9 1 v (spl t b k).1.length ((spl t b k).1.map Value.string)) (hnx:Below B w wr) (hgrow:(wr.alloc o).grownBy w1 v.ownBlock):Below B w w1:=
 (hnx.alloc hB o).grown hgrow (by simp;omega) (fun j hj=>(hown.lt j hj).1)
theorem QfT {n n':Nat} {xs xs':List Value} (h:w.ownsRow B 9 1 v n xs) (e:n=n') (e2:xs=xs'):w.ownsRow B 9 1 v n' xs':=by subst e e2;exact h
theorem Qox {L:List ByteArray} (h:w.ownsRow B 9 1 v L.length (L.map Value.string)) (hne:0<L.length) :
  ∃ g cap,v=.slice (some ⟨g,0,none⟩) L.length cap/\B<=g/\∀ j u,L[j]?=some u->w.cell? ⟨g,j,none⟩=some (.string u):=by
 have hc:=fun g hg=>h.cells (g:=g) hg;rcases h.2 with ⟨_,e⟩ | ⟨g,cap,aa,e,hb,_⟩
 ·omega
 ·refine ⟨g,cap,e,hb,fun j u hj=>?_⟩
  have:=hc g (by rw [e];rfl) j (.string u) (by simp [hj]);by_cases h0:j=0
  ·subst h0;simpa [Addr.add] using this
  ·simpa [Addr.add,h0] using this
theorem QdA (t:ByteArray) (b:Int) (ht:t.size<=1048576) (hb:0<=b/\b<=255) (w:World) :
  Calls prog 111 #[.string t,.int .u8 b] w fun e w'=>∃ g cap,e=.returned (.slice (some ⟨g,0,none⟩) (Qba t b).length cap)/\w.heap.size<=g/\(∀ j u,(Qba t b)[j]?=some u->w'.cell? ⟨g,j,none⟩=some (.string u))/\Below w.heap.size w w':=by
 obtain ⟨i0,hi,ah,ai,ag⟩:=info_parts infoS;have an:=get_bt t;go_enter func111,ntmps111;go_wp2
 go_loopw [5,6,7] (fun v f i wr=>∃ k:Nat,k<=t.size/\i=.int .i64 k/\f=.int .i64 ((spl t b k).2:Nat)/\wr.ownsRow w.heap.size 9 1 v (spl t b k).1.length ((spl t b k).1.map Value.string)/\Below w.heap.size w wr) (fun v f i wr=>t.size - (Go.RowKit.intOf i).toNat)
 case atStart=>exact ⟨0,ZZj _,rfl,rfl,World.ownsRow_made w #[] 0 (ZZa _) (ZZj _) rfl,(ZZb _ _).alloc (ZZa _) _⟩
 case round=>
  obtain ⟨k,hk,rfl,rfl,ad,ac⟩:=hrel;have af:=ac.size;obtain ⟨hf,ao⟩:=Qmb t b k;obtain ⟨F,hF⟩:∃ F,F=(spl t b k).2:=⟨_,rfl⟩;rw [<- hF] at hf;rw [<- hF];by_cases al:k<t.size
  ·have aj:(k:Int)<(t.size:Int):=by omega
   by_cases hh:bt t k=b
   ·have ak:(bt t k == b)=true:=by simp [hh]
    have HS:Hid (spl t b (k+1)=((spl t b k).1 ++ [t.extract F k],k+1)):=(by rw [Qcd hh,hF]:spl t b (k+1)=((spl t b k).1 ++ [t.extract F k],k+1));have HF:Hid (F=(spl t b k).2):=hF;have HB:Hid (Below w.heap.size w wr):=ac;have HO:Hid (wr.ownsRow w.heap.size 9 1 u5 (spl t b k).1.length ((spl t b k).1.map Value.string)):=ad;clear hF hh ad ac
    go_wp2_with (first
     | (at_builtin;refine wpList_append_own _ rfl _ _ 57 rfl w.heap.size 9 i0 (.string ByteArray.empty) 1 16 underlying57 hi ah ai ag rfl (by decide) _ _ _ rfl (HO.out.alloc _) ⟨wr.heap.size,0,none⟩ 1 1 [.string (t.extract F k)] rfl rfl ?c1 ?c2 ?c3 ?c4 ?c5 ?_))
    case c1=>
     intro j u hj
     match j,hj with
     | 0,hj=>simp at hj;subst hj;simp [Addr.add]
    case c2=>intro u hu;simp at hu;subst hu;rfl
    case c3=>unfold maxLen;omega
    case c4=>omega
    case c5=>simp;omega
    ·intro v' w1 aa ab _
     have R:=QfI (t:=t) (b:=b) (k:=k) af HO HB ab;have R2:w1.ownsRow w.heap.size 9 1 v' (spl t b (k+1)).1.length ((spl t b (k+1)).1.map Value.string):=QfT aa (by rw [HS.out];simp) (by rw [HS.out];simp);clear aa ab HO HB;go_wp2;go_roundw
     case rel=>exact ⟨k+1,by omega,by go_num,by rw [HS.out];go_num,R2,R⟩
     case measure=>simp [zI];omega
   ·have ak:(bt t k == b)=false:=ZZf.2 hh
    have HS:Hid (spl t b (k+1)=spl t b k):=QbR hh;have HF:Hid (F=(spl t b k).2):=hF;have HB:Hid (Below w.heap.size w wr):=ac;have HO:Hid (wr.ownsRow w.heap.size 9 1 u5 (spl t b k).1.length ((spl t b k).1.map Value.string)):=ad;clear hF hh ad ac;go_wp2;go_roundw
    case rel=>exact ⟨k+1,by omega,by go_num,by rw [HS.out,HF.out],by rw [HS.out];exact HO.out,HB⟩
    case measure=>simp [zI];omega
  ·have e:k=t.size:=by omega
   subst e;have aj:¬ (t.size:Int)<(t.size:Int):=by omega
   have am:(F:Int)<=(t.size:Int):=by omega
   have HF:Hid (F=(spl t b t.size).2):=hF;have HB:Hid (Below w.heap.size w wr):=ac;have HO:Hid (wr.ownsRow w.heap.size 9 1 u5 (spl t b t.size).1.length ((spl t b t.size).1.map Value.string)):=ad;clear hF ad ac
   go_wp2_with (first
     | (at_builtin;refine wpList_append_own _ rfl _ _ 57 rfl w.heap.size 9 i0 (.string ByteArray.empty) 1 16 underlying57 hi ah ai ag rfl (by decide) _ _ _ rfl (HO.out.alloc _) ⟨wr.heap.size,0,none⟩ 1 1 [.string (t.extract F t.size)] rfl rfl ?d1 ?d2 ?d3 ?d4 ?d5 ?_))
   case d2=>first | rfl | simp [Value.oneCell'] | (intro u hu;simp at hu;subst hu;rfl)
   case d3=>unfold maxLen;omega
   case d4=>omega
   case d5=>first | omega | (simp;omega)
   ·intro v' w1 aa ab _
    have R:=QfI (t:=t) (b:=b) (k:=t.size) af HO HB ab;have R2:w1.ownsRow w.heap.size 9 1 v' (Qba t b).length ((Qba t b).map Value.string):=QfT aa (by rw [QcV]) (by unfold Qba;rw [<- HF.out];simp);obtain ⟨g,cap,rfl,hg,ae⟩:=Qox R2 (by rw [QcV];omega);clear aa ab HO HB;go_wp2;go_ret;exact ⟨g,cap,rfl,hg,ae,R⟩
theorem Qbf (t:ByteArray) (a b:Nat):toL (t.extract a b)=((toL t).take b).drop a:=by
 unfold toL;rw [ByteArray.data_extract,Array.toList_extract];rw [List.extract_eq_take_drop]
 try rw [List.drop_take]
theorem Qfp (t:ByteArray) (k:Nat):bt t k=(((toL t)[k]?.map UInt8.toNat).getD 0:Nat):=by
 unfold bt
 split
 ·rename_i h
  have h2:k<(toL t).length:=by rw [Qaq];exact h
  rw [List.getElem?_eq_getElem h2];simp [toL]
  rfl
 ·rename_i h
  rw [List.getElem?_eq_none (by rw [Qaq];omega)];rfl
theorem Qre (h:(toL t).take (k+1)=(toL u).take (k+1)):bt t k=bt u k:=by
 have e:∀ v:ByteArray,(toL v)[k]?=((toL v).take (k+1))[k]?:=fun v=>by rw [List.getElem?_take,if_pos (by omega)]
 rw [Qfp,Qfp,e t,e u,h]
theorem Qjq {t u:ByteArray} {b:Int}:∀ k,(toL t).take k=(toL u).take k->spl t b k=spl u b k
 | 0,_=>rfl
 | k+1,h=>by
  have h1:(toL t).take k=(toL u).take k:=by
   have:=congrArg (List.take k) h
   rwa [List.take_take,List.take_take,Nat.min_eq_left (by omega)] at this
  have ih:=Qjq (b:=b) k h1;have hb:=Qre h;by_cases hh:bt t k=b
  ·rw [Qcd hh,Qcd (by rw [<- hb];exact hh),ih]
   have e:t.extract (spl u b k).2 k=u.extract (spl u b k).2 k:=Qa5 (by rw [Qbf,Qbf,h1]);rw [e]
  ·rw [QbR hh,QbR (by rw [<- hb];exact hh),ih]
theorem QiB {t:ByteArray} {b:Int} {k:Nat}:∀ n,(∀ j,k<=j->j<k+n->¬ bt t j=b)->spl t b (k+n)=spl t b k
 | 0,_=>rfl
 | n+1,h=>by
  rw [<- Nat.add_assoc,QbR (h (k+n) (by omega) (by omega)),QiB n (fun j h1 h2=>h j h1 (by omega))]
variable {c:UInt8}
theorem no_bt {x:List UInt8} (hx:c ∉ x) (h:(toL t).drop k=x):∀ j,k<=j->j<k+x.length->¬ bt t j=(c.toNat:Int):=fun j h1 h2 e=>by
 have hg:(toL t)[j]?=x[j - k]?:=by rw [<- h,List.getElem?_drop];congr 1;omega
 rw [Qfp,hg,List.getElem?_eq_getElem (by omega)] at e;simp at e;have:x[j - k]'(by omega)=c:=UInt8.toNat_inj.1 (by exact_mod_cast e);exact hx (by rw [<- this];exact List.getElem_mem _)
theorem QfY (h:c ∉ toL t):Qba t (c.toNat:Int)=[t]:=by
 have h1:=QiB (t:=t) (b:=(c.toNat:Int)) (k:=0) t.size (fun j h1 h2=>no_bt (k:=0) h (by simp) j h1 (by rw [Qaq];exact h2));rw [Nat.zero_add] at h1;unfold Qba;rw [h1];have e:t.extract 0 t.size=t:=Qa5 (by rw [Qbf,List.drop_zero,List.take_of_length_le (by rw [Qaq];exact Nat.le_refl _)])
 show [] ++ [t.extract 0 t.size]=[t]
 rw [e];rfl
theorem Qf9 {x:ByteArray} (ht:toL t=toL u ++ c :: toL x) (hx:c ∉ toL x):Qba t (c.toNat:Int)=Qba u (c.toNat:Int) ++ [x]:=by
 have ae:t.size=u.size+1+x.size:=by rw [<- Qaq,ht,List.length_append,List.length_cons,Qaq,Qaq];omega
 have ad:(toL u).length=u.size:=Qaq u;have ab:(toL t).take u.size=(toL u).take u.size:=by rw [ht,List.take_append_of_le_length (by omega)]
 have h1:=Qjq (b:=(c.toNat:Int)) u.size ab
 have aa:bt t u.size=(c.toNat:Int):=by
  rw [Qfp,ht,List.getElem?_append_right (by omega),ad,Nat.sub_self];rfl
 have h2:=Qcd aa;rw [h1] at h2;have e1:t.extract (spl u (c.toNat:Int) u.size).2 u.size=u.extract (spl u (c.toNat:Int) u.size).2 u.size:=Qa5 (by rw [Qbf,Qbf,ab]);rw [e1] at h2
 have ac:(toL t).drop (u.size+1)=toL x:=by
  rw [ht,<- ad,<- List.drop_drop,List.drop_left];rfl
 have h3:=QiB (t:=t) (b:=(c.toNat:Int)) (k:=u.size+1) x.size (fun j a1 a2=>no_bt hx ac j a1 (by rw [Qaq];exact a2));rw [<- ae,h2] at h3;have e2:t.extract (u.size+1) t.size=x:=Qa5 (by rw [Qbf,List.take_of_length_le (by rw [Qaq];exact Nat.le_refl _),ac]);unfold Qba;rw [h3]
 show (spl u (c.toNat:Int) u.size).1 ++ [u.extract (spl u (c.toNat:Int) u.size).2 u.size] ++ [t.extract (u.size+1) t.size]=_
 rw [e2]
theorem QjU:∀ (n:Nat) {K:List ByteArray},K.length=n+1->(∀ x∈K,(44:UInt8) ∉ toL x)->Qba ⟨(QaM K).toArray⟩ 44=K
 | 0,K,hl,hn=>by
  obtain ⟨y,rfl⟩:=List.length_eq_one_iff.1 hl;rw [Qda,Qfw];exact QfY (c:=44) (hn y List.mem_cons_self)
 | n+1,K,hl,hn=>by
  rcases List.eq_nil_or_concat K with rfl | ⟨K',x,rfl⟩
  ·simp at hl
  ·rw [List.concat_eq_append] at hl hn ⊢
   have hl2:K'.length=n+1:=by simpa using hl
   have ih:=QjU n hl2 (fun y hy=>hn y (List.mem_append_left _ hy));have aa:K'≠[]:=fun e=>by rw [e] at hl2;simp at hl2
   have:=Qf9 (t:=⟨(QaM (K' ++ [x])).toArray⟩) (u:=⟨(QaM K').toArray⟩) (x:=x) (c:=44) (by rw [Qa8,Qa8,Qfb aa];simp) (hn x (by simp));have e:Qba ⟨(QaM (K' ++ [x])).toArray⟩ 44=Qba ⟨(QaM K').toArray⟩ 44 ++ [x]:=this;rw [e,ih]
theorem Qnl {r:List UInt8} (ht:toL t=toL name ++ 123 :: r) (h1:(123:UInt8) ∉ toL name) (h2:(123:UInt8) ∉ r):Qba t 123=[name,⟨r.toArray⟩]:=by
 have:=Qf9 (t:=t) (u:=name) (x:=⟨r.toArray⟩) (c:=123) (by rw [Qa8];exact ht) (by rw [Qa8];exact h2);have e:=QfY (c:=123) h1;exact this.trans (by rw [e];rfl)
set_option maxRecDepth 10000
def MX (w:World):Prop:=∃ m,w.cell? ⟨0,0,none⟩=some (.int .i64 m)
theorem MX.past {w':World} (h:MX w) (hb:Below w.heap.size w w'):MX w':=by
 obtain ⟨m,hm⟩:=h;exact ⟨m,Qab hb hm⟩
theorem MX.drews (h:MX w) (n:Nat):MX (w.drewN n):=h.past ⟨rfl,rfl,rfl,ZZa _,fun _ _=>rfl⟩
theorem mx_of (h:w.ShapedOpen prog):MX w:=Tryz.laysM145.s1_3 w h
def QbM (t:ByteArray):List ByteArray:=if t.size=0 then [] else Lib.splitB ⟨#[44]⟩ 0 (Lib.countB t ⟨#[44]⟩) t
theorem QcW (sep:ByteArray):∀ (k:Nat) (s:ByteArray),∀ u∈Lib.splitB sep 0 k s,u.size<=s.size
 | 0,s,u,h=>by
  rw [Lib.splitB_zero] at h;obtain rfl:=List.mem_singleton.1 h;exact ZZa _
 | k+1,s,u,h=>by
  unfold Lib.splitB at h
  split at h
  ·obtain rfl:=List.mem_singleton.1 h;exact ZZa _
  ·rcases List.mem_cons.1 h with rfl | h
   ·rw [size_extract];omega
   ·have:=QcW sep k _ u h
    rw [size_extract] at this;omega
theorem QkC (t:ByteArray):∀ u∈QbM t,u.size<=t.size:=fun u h=>by
 unfold QbM at h
 split at h
 ·cases h
 ·exact QcW _ _ _ u h
theorem Qht (h:¬ t.size=0):(QbM t).length=Lib.countB t ⟨#[44]⟩+1:=by
 unfold QbM;rw [if_neg h];exact Lib.splitB_all ⟨#[44]⟩ (by decide) 0 _ t rfl
theorem Qny (t:ByteArray):(QbM t).length<=t.size+1:=by
 by_cases h:t.size=0
 ·unfold QbM;rw [if_pos h];simp
 ·rw [Qht h]
  have:=Lib.countB_le ⟨#[44]⟩ (by decide) t.size t (ZZa _);omega
def QdT (t:ByteArray):ByteArray:=⟨(Lib.cut (toL t) [123]).1.toArray⟩
def Qei (t:ByteArray):ByteArray:=⟨(Lib.cut (toL t) [123]).2.1.toArray⟩
def Qcv (t:ByteArray):ByteArray:=⟨(Lib.trimSuffix (toL (Qei t)) [125]).toArray⟩
theorem Qec (l:List UInt8):(⟨l.toArray⟩:ByteArray).size=l.length:=by rw [<- Qaq,Qa8]
theorem QlF (t:ByteArray):(QdT t).size<=t.size/\(Qei t).size<=t.size:=by
 unfold QdT Qei;rw [Qec,Qec];have hl:=Qaq t;have aa:t.data.toList.length=t.size:=hl;by_cases h:0<=Lib.index (toL t) [123]
 ·have e:Lib.cut (toL t) [123]=((toL t).take (Lib.index (toL t) [123]).toNat,(toL t).drop ((Lib.index (toL t) [123]).toNat + [(123:UInt8)].length),true):=by unfold Lib.cut;rw [if_pos h]
  rw [e];refine ⟨?_,?_⟩
  ·show ((toL t).take _).length<=_
   rw [List.length_take];exact Nat.le_trans (Nat.min_le_right _ _) (Nat.le_of_eq hl)
  ·show ((toL t).drop _).length<=_
   rw [List.length_drop];exact Nat.le_trans (Nat.sub_le _ _) (Nat.le_of_eq hl)
 ·have e:Lib.cut (toL t) [123]=(toL t,[],false):=by unfold Lib.cut;rw [if_neg h]
  rw [e];exact ⟨Nat.le_of_eq hl,ZZj _⟩
theorem Qj0 (t:ByteArray):(Qcv t).size<=(Qei t).size:=by
 unfold Qcv;rw [Qec];have:=Qaq (Qei t);unfold Lib.trimSuffix
 split
 ·rw [List.length_take];omega
 ·omega
theorem Qt4 (l:List UInt8):Lib.trimSuffix (l ++ [125]) [125]=l:=by
 unfold Lib.trimSuffix Lib.hasSuffix;rw [if_pos (by simp)];simp
theorem QqM {K:List ByteArray} (h:Qg7 t name K):QdT t=name/\QbM (Qcv t)=K:=by
 obtain ⟨h1,h2,h3,h4,h5,h6⟩:=h;have ht:toL t=toL name ++ 123 :: (QaM K ++ [125]):=by rw [h6];exact Ql3 name K
 have hc:=Qnw (r:=QaM K ++ [125]) (QnN h1);rw [<- ht] at hc;refine ⟨?_,?_⟩
 ·unfold QdT;rw [hc];exact Qfw name
 ·have e:Qcv t=⟨(QaM K).toArray⟩:=by
   unfold Qcv Qei;rw [hc,Qa8];show (⟨(Lib.trimSuffix (QaM K ++ [125]) [125]).toArray⟩:ByteArray)=_;rw [Qt4]
  rw [e];unfold QbM;rw [Qec];by_cases hK:K=[]
  ·subst hK;rfl
  ·rw [if_neg (fun h0=>QjL h2 hK (List.eq_nil_of_length_eq_zero h0))]
   exact Qkw h2 hK
theorem QkN (a b:ByteArray):(a.toList == b.toList)=decide (a=b):=by
 by_cases h:a=b
 ·subst h;simp
 ·rw [decide_eq_false h]
  cases e:(a.toList == b.toList) with
  | false=>rfl
  | true=>exact absurd (QgC e) h
theorem Qp7 (h1:1<=t.size):decide (Qce (QdT t) (QbM (Qcv t))=t)=Qbn t:=by
 by_cases h:QbW t
 ·rw [Qch h]
  obtain ⟨aa,K,hs⟩:=h;obtain ⟨e1,e2⟩:=QqM hs;rw [e1,e2];exact ZZh (QoS hs)
 ·rw [QbO h]
  exact ZZg (fun e=>h (Qke e (by omega)))
theorem QkO (t:ByteArray) (hm:MX w) (hs:t.size<=1000000) :
  Calls prog 215 #[.string t] w fun e w'=>∃ ao n c,e=.returned (.slice ao n c)/\(QbM t).length=n/\Qas w' ao (QbM t)/\Below w.heap.size w w':=by
 by_cases h0:t.size=0
 ·have e:t=ByteArray.empty:=Qa5 (List.eq_nil_of_length_eq_zero (by rw [Qaq];exact h0))
  subst e;go_enter func215,ntmps215;go_wp2;go_ret;exact ⟨none,0,0,rfl,rfl,fun h=>absurd h (Nat.lt_irrefl 0),ZZb _ _⟩
 ·have aa:t.toList.isEmpty=false:=by
   rw [ByteArray.toList_eq]
   cases e:t.data.toList with
   | nil=>exact absurd (by rw [<- Qaq];show t.data.toList.length=0;rw [e];rfl) h0
   | cons x r=>rfl
  have HN:=Qaa (Qht h0);have HT:Hid (QbM t=Lib.splitB ⟨#[44]⟩ 0 (Lib.countB t ⟨#[44]⟩) t):=(by unfold QbM;rw [if_neg h0]:QbM t=Lib.splitB ⟨#[44]⟩ 0 (Lib.countB t ⟨#[44]⟩) t);obtain ⟨m,hm⟩:=hm;go_enter func215,ntmps215;go_wp2_with (go_at_call 233;refine (Tryz.strings_Split _ _ m _ (by omega) hm (by decide)).mono ?_;rintro e w1 ⟨rfl,rfl⟩);go_ret;refine ⟨some ⟨w.heap.size,0,none⟩,_,_,rfl,HN,fun _=>⟨w.heap.size,0,rfl,fun i u hu=>?_⟩,(ZZb _ _).alloc (ZZa _) _⟩;rw [cell_of_row _ w.heap.size _ _ _ (0,0) (heap_alloc_new w _),Nat.zero_add];rw [HT.out] at hu;simp [hu]
theorem Qin (t:ByteArray) (hm:MX w) (hs:t.size<=1000000) :
  Calls prog 203 #[.string t] w fun e w'=>∃ ao n c,e=.returned (.tuple #[.string (QdT t),.slice ao n c])/\(QbM (Qcv t)).length=n/\Qas w' ao (QbM (Qcv t))/\Below w.heap.size w w':=by
 obtain ⟨z1,z2⟩:=QlF t;have z3:=Qj0 t;have HM:=Qaa hm;obtain ⟨m,hm⟩:=hm;go_enter func203,ntmps203;go_wp2_with fail;refine (Tryz.strings_Cut t ⟨#[123]⟩ m _ (by omega) hm).mono ?_;rintro e w1 ⟨rfl,k,rfl⟩;have e1:(⟨(Lib.cut t.data.toList (⟨#[123]⟩:ByteArray).data.toList).1.toArray⟩:ByteArray)=QdT t:=rfl;have e2:(⟨(Lib.cut t.data.toList (⟨#[123]⟩:ByteArray).data.toList).2.1.toArray⟩:ByteArray)=Qei t:=rfl;rw [e1,e2];clear e1 e2;go_wp2_with fail;refine (Tryz.strings_TrimSuffix (Qei t) ⟨#[125]⟩ _ (by omega)).mono ?_;rintro e w1 ⟨rfl,rfl⟩;have e3:(⟨(Lib.trimSuffix (Qei t).data.toList (⟨#[125]⟩:ByteArray).data.toList).toArray⟩:ByteArray)=Qcv t:=rfl;rw [e3];clear e3;go_wp2_with fail;refine (QkO (Qcv t) (HM.out.drews k) (by omega)).mono ?_;rintro e w2 ⟨ao,n,c,rfl,hn,hS,hb⟩;go_wp2;go_ret2;exact ⟨ao,n,c,rfl,hn,hS,(Qao (ZZb _ _) k).trans (hb.mono (ZZa _))⟩
theorem QfX (t:ByteArray) (hm:MX w) (hs:t.size<=maxLen) :
  Calls prog 187 #[.string t] w fun e w'=>e=.returned (.bool (Qbn t))/\Below w.heap.size w w':=by
 unfold maxLen at hs;by_cases h0:t.size<1
 ·have ac:(t.size:Int)<1:=by omega
  have HE:Hid (Qbn t=false):=QbO (fun ⟨name,K,h⟩=>by
   have:=h.2.2.2.2.2;have e:=congrArg ByteArray.size this;rw [Qjw] at e;omega)
  go_enter func187,ntmps187;go_wp2;go_ret;exact ⟨Qaw HE.out.symm,ZZb _ _⟩
 have ac:¬ (t.size:Int)<1:=by omega
 by_cases h1:100<t.size
 ·have ab:(100:Int)<(t.size:Int):=by omega
  have HE:Hid (Qbn t=false):=QbO (fun ⟨name,K,h⟩=>by have:=h.2.2.2.2.1;omega);go_enter func187,ntmps187;go_wp2;go_ret;exact ⟨Qaw HE.out.symm,ZZb _ _⟩
 have ab:¬ (100:Int)<(t.size:Int):=by omega
 have HE:=Qaa (Qp7 (t:=t) (by omega));obtain ⟨z1,z2⟩:=QlF t;have z3:=Qj0 t;have z4:=Qny (Qcv t);have z5:=QkC (Qcv t);have HZ:=Qaa z5;clear z5;go_enter func187,ntmps187;go_wp2_with fail;refine (Qin t hm (by omega)).mono ?_;rintro e w2 ⟨ao,n,c,rfl,hn,hS,hb⟩;have HN:=Qaa hn;have HS:=Qaa hS;clear hn hS;go_wp2_with fail;refine (Qg3 (QdT t) c n (by unfold maxLen;omega) HN (by have:=HN.out;omega) (fun u hu=>by have:=HZ.out u hu;unfold maxLen;omega) HS).mono ?_;rintro e w3 ⟨rfl,aa⟩;have HB:=Qaa (hb.trans (aa.mono hb.size));have hq:=QkN (Qce (QdT t) (QbM (Qcv t))) t;rw [HE.out] at hq;clear hb aa HE;generalize Qce (QdT t) (QbM (Qcv t))=u at hq ⊢;go_wp2;go_ret;exact ⟨rfl,HB⟩
end Go.Proofs.YtlejlgldgafljaaGreatDoor
