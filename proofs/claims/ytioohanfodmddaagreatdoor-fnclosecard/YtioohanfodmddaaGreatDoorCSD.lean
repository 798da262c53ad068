/-
 Parts.
-/
import Derived.Test.YtioohanfodmddaaGreatDoorCSC
set_option maxHeartbeats 2000000
set_option linter.all false
namespace Go.Proofs.YtioohanfodmddaaGreatDoor
open Go.ChangeShapes Go.WideShapes Go.ChangeAt Go.RowKit Go.PlainAid Tryz
set_option maxRecDepth 10000
theorem mAo {p:Prop} (h:p:=by clear hW;go_simp):p:=h
theorem mAx {p:Prop} (h:p:=by
 have HP:Hid (¬ QbX t):=Qaa ((fun h=>by have:=Qcl h;rw [HE.out] at this;exact Bool.noConfusion this));go_wp2
 go_ret3
 exact ⟨a,_,_,_,by rw [HE.out];rfl,fun h=>absurd h HP,HB⟩):p:=h
theorem mCf {p:Prop} (h:p:=by
 refine tkS 23 (.bool (Qbl t)) HS ?_;simp only [sX];refine dnE ?_ _;go_wp2
 go_ret3
 exact ⟨a,_,_,_,rfl,fun h=>⟨Qbc u,HI.out h,ah,HS.2⟩,HB⟩):p:=h
theorem mCn {p:Prop} (h:p:=by
 refine tkS 20 (.bool true) aa ?_;simp only [sX];refine dnE ?_ _;go_wp2
 go_ret3
 exact ⟨_,none,0,0,by rw [HE.out];rfl,fun h=>absurd h HP,ae.drew⟩):p:=h
theorem mCt {p:Prop} (h:p:=by
 rw [Qjd];by_cases h:QbX t
 ·rw [Qcl h];exact ZZh (HY.2 h).2.2
 ·rw [QbP h];exact ZZg (fun e=>h (HY.1 ⟨hna,hal,e⟩))):p:=h
variable {a name r t:ByteArray}
variable {K:List ByteArray}
theorem QdZ (h:QhA t name K):Qa7 t 123=[name,⟨(QaN K ++ [125]).toArray⟩]:=by
 obtain ⟨h1,h2,h3,h4,h5,h6⟩:=h;refine QpU (by rw [h6];exact QnF name K) (QpK h1) (fun hm=>?_);rcases List.mem_append.1 hm with hm | hm
 ·exact QsH h2 hm
 ·revert hm;decide
def Qbc (u:ByteArray):List ByteArray:=if u.size=0 then [] else Qa7 u 44
theorem Qmh (h:K.all Qbg=true):Qbc ⟨(QaN K).toArray⟩=K:=by
 unfold Qbc;rw [Qeg];by_cases hK:K=[]
 ·subst hK;rfl
 ·rw [if_neg (fun h0=>QkI h hK (List.eq_nil_of_length_eq_zero h0))]
  obtain ⟨n,hn⟩:∃ n,K.length=n+1:=by
   cases K with
   | nil=>exact absurd rfl hK
   | cons y r=>exact ⟨r.length,rfl⟩
  exact QkV n hn (fun x hx=>(Qmg (List.all_eq_true.1 h x hx)).2)
theorem Quf (hl:Qa7 t 123=[a,r]):0<t.size:=by
 rcases Nat.eq_zero_or_pos t.size with h | h
 ·have:=congrArg List.length hl
  unfold Qa7 at this;rw [h] at this;simp [spl] at this
 ·exact h
variable {q:Nat}
theorem QlM {l:List UInt8} (h:(⟨(l ++ [125]).toArray⟩:ByteArray).size=q+1):(⟨(l ++ [125]).toArray⟩:ByteArray).extract 0 q=⟨l.toArray⟩/\bt ⟨(l ++ [125]).toArray⟩ q=125:=by
 have hq:l.length=q:=by rw [Qeg] at h;simp at h;exact h
 subst hq;refine ⟨QaW ?_,?_⟩
 ·rw [Qa6,QaQ,QaQ,List.drop_zero,List.take_left]
 ·rw [QfQ,QaQ,List.getElem?_append_right (Nat.le_refl _),Nat.sub_self];rfl
theorem QvD (h:QhA t name K):Qb6 name K=t:=by
 have:=Qqx h;unfold QbM at this
 rwa [if_pos ⟨h.1,h.2.1⟩] at this
theorem QpL (h:∀ a r,Qa7 t 123=[a,r]->(r.size=0∨∃ q,r.size=q+1/\¬ bt r q=125)):Qbl t=false:=QbP (fun ⟨name,K,hs⟩=>by
 have e:=QdZ hs;rcases h _ _ e with h0 | ⟨q,hq,hb⟩
 ·rw [Qeg] at h0;simp at h0
 ·exact hb (QlM hq).2)
theorem Qte (hl:Qa7 t 123=[a,r]) (hq:r.size=q+1) :
  (QaF a=true/\(Qbc (r.extract 0 q)).all Qbg=true/\Qb6 a (Qbc (r.extract 0 q))=t)↔QbX t:=by
 constructor
 ·rintro ⟨h1,h2,h3⟩
  refine Ql8 (name:=a) (L:=Qbc (r.extract 0 q)) ?_ (Quf hl);unfold QbM;rw [if_pos ⟨h1,h2⟩];exact h3
 ·rintro ⟨name,K,hs⟩
  have e:=QdZ hs;rw [hl] at e;obtain ⟨rfl,e2⟩:=List.cons.inj e;obtain ⟨rfl,_⟩:=List.cons.inj e2;rw [(QlM hq).1,Qmh hs.2.1];exact ⟨hs.1,hs.2.1,QvD hs⟩
theorem Qv6 (hl:Qa7 t 123=[a,r]) (hq:r.size=q+1) (h:QbX t):QhA t a (Qbc (r.extract 0 q)):=by
 obtain ⟨aa,K,hs⟩:=h;have e:=QdZ hs;rw [hl] at e;obtain ⟨rfl,e2⟩:=List.cons.inj e;obtain ⟨rfl,_⟩:=List.cons.inj e2;rw [(QlM hq).1,Qmh hs.2.1];exact hs
theorem QgD (t:ByteArray) (b:Int):∀ k,k<=t.size->∀ u∈(spl t b k).1,u.size<=t.size
 | 0,_,u,h=>by cases h
 | k+1,hk,u,h=>by
  by_cases hh:bt t k=b
  ·rw [Qfz hh] at h
   rcases List.mem_append.1 h with h | h
   ·exact QgD t b k oB u h
   ·obtain rfl:=List.mem_singleton.1 h
    rw [size_extract];omega
  ·rw [QdS hh] at h;exact QgD t b k oB u h
theorem QdO (t:ByteArray) (b:Int):∀ u∈Qa7 t b,u.size<=t.size:=fun u h=>by
 unfold Qa7 at h;rcases List.mem_append.1 h with h | h
 ·exact QgD t b t.size (ZZa _) u h
 ·obtain rfl:=List.mem_singleton.1 h
  rw [size_extract];omega
theorem Qpu (t:ByteArray) (b:Int):(Qa7 t b).length<=t.size+1:=by rw [Qgi];have:=(Qqg t b t.size).2;omega
theorem isE (h:¬ t.size=0):t.toList.isEmpty=false:=by
 rw [ByteArray.toList_eq]
 cases e:t.data.toList with
 | nil=>exact absurd OU h
 | cons x r=>rfl
theorem isE0 (h:t.size=0):t.toList.isEmpty=true:=by
 rw [ByteArray.toList_eq];rw [List.isEmpty_iff];exact List.eq_nil_of_length_eq_zero (by rw [<- Qam] at h;exact h)
def Qsk (t:ByteArray) (w:World) (e:Ending) (w':World):Prop:=∃ nm ao n c,e=.returned (.tuple #[.string nm,.slice ao n c,.bool (Qbl t)])/\(QbX t->∃ K,QhA t nm K/\K.length=n/\Qat w' ao K)/\Bw w w'
theorem Qvg {α:Type} {l:List α} (h:l.length=2):∃ a b,l=[a,b]:=by
 match l,h with
 | [a,b],_=>exact ⟨a,b,rfl⟩
variable {w:World}
theorem QfO (t:ByteArray) (ht:t.size<=20000) :
  Calls prog 126 #[.string t] w fun e w'=>Qsk t w e w':=by
 obtain ⟨n,hn⟩:∃ n,(Qa7 t 123).length=n:=⟨_,rfl⟩;have aw:=Qpu t 123;by_cases h2:n=2
 ·subst h2
  obtain ⟨a,r,hl⟩:=Qvg hn;have HL:=Qaa hl;have HN:=Qaa hn;have aF:=QdO t 123 a (by rw [hl];simp);have aI:=QdO t 123 r (by rw [hl];simp);clear hl hn aw;go_enter func126,ntmps126;go_wp2_with fail;refine (Qd0 t 123 oB oB _).mono ?_;rintro e w1 ⟨g,ab,rfl,hg,ac,ao⟩;rw [HN.out];have am:=ac 0 a (by rw [HL.out];rfl);have aa:=ac 1 r (by rw [HL.out];rfl);have ae:=Qaa ao;clear ac ao;by_cases au:r.size=0
  ·have ax:=isE0 au
   have HE:Hid (Qbl t=false):=QpL (fun a' r' e=>by rw [HL.out] at e;obtain ⟨_,e2⟩:=List.cons.inj e;obtain ⟨rfl,_⟩:=List.cons.inj e2;exact .inl au);have HP:Hid (¬ QbX t):=Qaa ((fun h=>by have:=Qcl h;rw [HE.out] at this;exact Bool.noConfusion this));go_wp2_with fail;refine Qal (fun W'=>W'.cell? ⟨g,1,none⟩=some (.string r)) 21 oR ?_;replace aa:w1.drew.cell? ⟨g,1,none⟩=some (.string r):=aa;refine tkS 0 (.slice (some ⟨g,0,none⟩) 2 ab) aa ?_;refine tkS 1 (.int .i64 2) aa ?_;refine tkS 2 (.bool false) aa ?_;simp only [sX];refine tkS 3 (.bool false) aa ?_;refine tkS 4 (.slice (some ⟨g,0,none⟩) 2 ab) aa ?_;refine tkS 5 (.pointer (some ⟨g,1,none⟩)) aa ?_;simp only [sX];refine tkL 6 (.string r) aa (fun W hW=>?_) ?_
   ·go_simp
   refine tkS 7 (.bool true) aa ?_;refine tkS 8 (.bool true) aa ?_;simp only [sX];refine tkS 9 (.bool true) aa ?_;refine tkU 10 aa ?_;refine tkU 11 aa ?_;simp only [sX];refine tkU 12 aa ?_;refine tkU 13 aa ?_;refine tkU 14 aa ?_;simp only [sX];refine tkU 15 aa ?_;refine tkU 16 aa ?_;refine tkU 17 aa ?_;simp only [sX];refine tkU 18 aa ?_;refine tkU 19 aa ?_;exact mCn
  ·have ax:=isE au
   obtain ⟨q,hq⟩:∃ q,r.size=q+1:=⟨r.size - 1,by omega⟩;have aG:=get_bt r;have aC:IntKind.i64.wrap (((r.size:Nat):Int) - 1)=(q:Int):=by rw [hq];rw [IntWalk.i64_in _ ⟨by omega,by omega⟩];omega
   have aJ:q<r.size:=oB
   have HQ:=Qaa hq;have aH:q<=20000:=oB
   clear hq;by_cases ag:bt r q=125
   ·have HY:=Qaa (Qte HL HQ)
    have HI:=Qaa (fun h=>Qv6 HL HQ h);go_wp2_with fail;refine Qal (fun W'=>W'.cell? ⟨g,1,none⟩=some (.string r)) 21 oR ?_;replace aa:w1.drew.cell? ⟨g,1,none⟩=some (.string r):=aa;refine tkS 0 (.slice (some ⟨g,0,none⟩) 2 ab) aa ?_;refine tkS 1 (.int .i64 2) aa ?_;refine tkS 2 (.bool false) aa ?_;simp only [sX];refine tkS 3 (.bool false) aa ?_;refine tkS 4 (.slice (some ⟨g,0,none⟩) 2 ab) aa ?_;refine tkS 5 (.pointer (some ⟨g,1,none⟩)) aa ?_;simp only [sX];refine tkL 6 (.string r) aa (fun W hW=>?_) ?_
    ·go_simp
    refine tkS 7 (.bool false) aa ?_;refine tkS 8 (.bool false) aa ?_;simp only [sX];refine tkS 9 (.bool false) aa ?_;refine tkS 10 (.slice (some ⟨g,0,none⟩) 2 ab) aa ?_;refine tkS 11 (.pointer (some ⟨g,1,none⟩)) aa ?_;simp only [sX];refine tkL 12 (.string r) aa (fun W hW=>?_) ?_
    ·go_simp
    refine tkS 13 (.slice (some ⟨g,0,none⟩) 2 ab) aa ?_;refine tkS 14 (.pointer (some ⟨g,1,none⟩)) aa ?_;simp only [sX];refine tkL 15 (.string r) aa (fun W hW=>?_) ?_
    ·go_simp
    refine tkS 16 (.int .i64 r.size) aa ?_;refine tkS 17 (.int .i64 q) aa ?_;simp only [sX];refine tkS 18 (.int .u8 (bt r q)) aa ?_;refine tkS 19 (.bool false) aa ?_;refine tkS 20 (.bool false) aa ?_;simp only [sX];refine dnE ?_ _;go_wp2_with fail;refine Qal (fun W'=>W'.cell? ⟨g,1,none⟩=some (.string r)) 10 oR ?_;replace aa:w1.drew.drew.cell? ⟨g,1,none⟩=some (.string r):=aa;refine tkS 0 (.slice (some ⟨g,0,none⟩) 2 ab) aa ?_;refine tkS 1 (.pointer (some ⟨g,1,none⟩)) aa ?_;refine tkL 2 (.string r) aa (fun W hW=>?_) ?_
    ·go_simp
    simp only [sX];refine tkS 3 (.slice (some ⟨g,0,none⟩) 2 ab) aa ?_;refine tkS 4 (.pointer (some ⟨g,1,none⟩)) aa ?_;refine tkL 5 (.string r) aa (fun W hW=>?_) ?_
    ·go_simp
    simp only [sX];refine tkS 6 (.int .i64 r.size) aa ?_;refine tkS 7 (.int .i64 q) aa ?_;refine tkL 8 (.string (r.extract 0 q)) aa (fun W hW=>?_) ?_
    ·clear hW
     go_simp;intro h;exact absurd h oB
    simp only [sX];refine tkS 9 (.string (r.extract 0 q)) aa ?_;simp only [sX];refine dnE ?_ _;have aA:(r.extract 0 q).size<=20000:=by rw [size_extract];omega
    obtain ⟨u,hu⟩:∃ u,r.extract 0 q=u:=⟨_,rfl⟩;rw [hu] at HY HI aA ⊢;clear hu;by_cases an:u.size=0
    ·have ai:=isE0 an
     have HT:Hid (Qbc u=[]):=Qaa (by unfold Qbc;rw [if_pos an]);go_wp2_with fail;have HS:Hid ((w1.alloc (.cells #[] 9)).drew.drew.cell? ⟨g,0,none⟩=some (.string a)/\Qat (w1.alloc (.cells #[] 9)).drew.drew (some ⟨w1.heap.size,0,none⟩) (Qbc u)):=Qaa (⟨QcF am _,fun h=>by rw [HT.out] at h;exact absurd h (Nat.lt_irrefl 0)⟩);have ah:Hid ((Qbc u).length=0):=Qaa (by rw [HT.out];rfl);have HB:Hid (Bw w (w1.alloc (.cells #[] 9)).drew.drew):=Qaa ((ae.alloc ae.size _).drew.drew);clear am aa ae ai HT;generalize (w1.alloc _).drew.drew=X at HS HB ⊢;have ar:0<=20100:=ZZj _;have HU:Hid (∀ x∈Qbc u,x.size<=maxLen):=Qaa ((fun x hx=>by rw [List.eq_nil_of_length_eq_zero ah.out] at hx;cases hx));generalize w1.heap.size=tg at HS ⊢;replace HS:Hid (X.drew.cell? ⟨g,0,none⟩=some (.string a)/\Qat X.drew (some ⟨tg,0,none⟩) (Qbc u)):=HS.out;replace HB:Hid (Bw w X.drew):=HB.drew;refine Qal (fun W'=>W'.cell? ⟨g,0,none⟩=some (.string a)/\Qat W' (some ⟨tg,0,none⟩) (Qbc u)) 24 oR ?_;refine tkS 0 (.slice (some ⟨g,0,none⟩) 2 ab) HS ?_;refine tkS 1 (.pointer (some ⟨g,0,none⟩)) HS ?_;refine tkL 2 (.string a) HS (fun W hW=>?_) ?_
     ·have al:=hW.1
      exact mAo
     simp only [sX];refine tkS 3 (.slice (some ⟨tg,0,none⟩) 0 0) HS ?_;refine tkS 4 (.slice (some ⟨g,0,none⟩) 2 ab) HS ?_;refine tkS 5 (.pointer (some ⟨g,0,none⟩)) HS ?_;simp only [sX];refine tkL 6 (.string a) HS (fun W hW=>?_) ?_
     ·have al:=hW.1
      exact mAo
     simp only [sX];refine onE 7 fun K hK=>?_;go_simp;refine (QaH a _ oC).mono ?_;rintro e w3 ⟨rfl,aj⟩;obtain rfl:=aj;dsimp only;refine gK hK HS.out ?_
     try simp only [sX]
     cases hna:QaF a with
     | false=>
      refine tkS 8 (.bool false) HS ?_;refine tkU 9 HS ?_;simp only [sX];refine onE 10 fun K hK=>?_;refine Eq.mpr (if_neg (fun h=>Bool.noConfusion (show false=true from h))) ?_;refine gK hK HS.out ?_
      try simp only [sX]
      refine tkS 11 (.bool false) HS ?_;refine tkS 12 (.bool false) HS ?_;refine tkU 13 HS ?_;simp only [sX];refine tkU 14 HS ?_;refine tkU 15 HS ?_;refine tkU 16 HS ?_;simp only [sX];refine tkU 18 HS ?_;simp only [sX];refine onE 17 fun K hK=>?_;refine Eq.mpr (if_neg (fun h=>Bool.noConfusion (show false=true from h))) ?_;refine gK hK HS.out ?_
      try simp only [sX]
      refine tkU 19 HS ?_;refine tkS 20 (.bool false) HS ?_;refine tkS 21 (.string a) HS ?_;simp only [sX];refine tkS 22 (.slice (some ⟨tg,0,none⟩) 0 0) HS ?_;refine tkS 23 (.bool false) HS ?_;simp only [sX];refine dnE ?_ _;have HE:Hid (Qbl t=false):=QbP (fun h=>by have:=HY.2 h;rw [hna] at this;exact Bool.noConfusion this.1);exact mAx
     | true=>
      refine tkS 8 (.bool true) HS ?_;refine tkS 9 (.slice (some ⟨tg,0,none⟩) 0 0) HS ?_;simp only [sX];refine onE 10 fun K hK=>?_;rw [if_pos oR];go_simp;refine (Qcn _ _ ah oB HU HS.2).mono ?_;rintro e w3 ⟨rfl,aj⟩;obtain rfl:=aj;dsimp only;refine gK hK HS.out ?_
      try simp only [sX]
      cases hal:(Qbc u).all Qbg with
      | false=>
       refine tkS 11 (.bool false) HS ?_;refine tkS 12 (.bool false) HS ?_;refine tkU 13 HS ?_;simp only [sX];refine tkU 14 HS ?_;refine tkU 15 HS ?_;refine tkU 16 HS ?_;simp only [sX];refine tkU 18 HS ?_;simp only [sX];refine onE 17 fun K hK=>?_;refine Eq.mpr (if_neg (fun h=>Bool.noConfusion (show false=true from h))) ?_;refine gK hK HS.out ?_
       try simp only [sX]
       refine tkU 19 HS ?_;refine tkS 20 (.bool false) HS ?_;refine tkS 21 (.string a) HS ?_;simp only [sX];refine tkS 22 (.slice (some ⟨tg,0,none⟩) 0 0) HS ?_;refine tkS 23 (.bool false) HS ?_;simp only [sX];refine dnE ?_ _;have HE:Hid (Qbl t=false):=QbP (fun h=>by have:=HY.2 h;rw [hal] at this;exact Bool.noConfusion this.2.1);exact mAx
      | true=>
       have aB:=QcK hna;have av:=Qaa (QeN hal);refine tkS 11 (.bool true) HS ?_;refine tkS 12 (.bool true) HS ?_;refine tkS 13 (.slice (some ⟨g,0,none⟩) 2 ab) HS ?_;simp only [sX];refine tkS 14 (.pointer (some ⟨g,0,none⟩)) HS ?_;refine tkL 15 (.string a) HS (fun W hW=>?_) ?_
       ·have al:=hW.1
        exact mAo
       refine tkS 16 (.slice (some ⟨tg,0,none⟩) 0 0) HS ?_;simp only [sX];refine tkS 18 (.string t) HS ?_;simp only [sX];refine onE 17 fun K hK=>?_;rw [if_pos oR];go_simp;refine (Qbs a _ _ oB ah ar av HS.2).mono ?_;rintro e w3 ⟨rfl,af⟩;replace HB:=Qaa (HB.trans (af.mono HB.size));replace HS:Hid (w3.cell? ⟨g,0,none⟩=some (.string a)/\Qat w3 (some ⟨tg,0,none⟩) (Qbc u)):=Qaa (⟨Qab af HS.1,QaA HS.2 af⟩);clear af;dsimp only;refine gK hK HS.out ?_
       try simp only [sX]
       have aq:((Qb6 a (Qbc u)).toList == t.toList)=Qbl t:=by
        exact mCt
       generalize Qb6 a (Qbc u)=sf at aq ⊢;refine tkS 19 (.bool (Qbl t)) HS ?_;refine tkS 20 (.bool (Qbl t)) HS ?_;refine tkS 21 (.string a) HS ?_;simp only [sX];refine tkS 22 (.slice (some ⟨tg,0,none⟩) 0 0) HS ?_;exact mCf
    ·have ai:=isE an
     have HT:Hid (Qbc u=Qa7 u 44):=Qaa (by unfold Qbc;rw [if_neg an]);go_wp2_with fail;refine (Qd0 u 44 oB oB _).mono ?_;rintro e w2 ⟨tg,tc,rfl,az,ad,ap⟩;rw [<- HT.out] at ad ⊢;have HU:Hid (∀ x∈Qbc u,x.size<=maxLen):=Qaa ((fun x hx=>by rw [HT.out] at hx;have:=QdO u 44 x hx;unfold maxLen;omega));obtain ⟨tn,ak⟩:∃ tn,(Qbc u).length=tn:=⟨_,rfl⟩;have ar:tn<=20100:=by have:=Qpu u 44;rw [<- HT.out] at this;omega
     have ah:=Qaa ak;rw [ak];clear ak;have HS:Hid (w2.cell? ⟨g,0,none⟩=some (.string a)/\Qat w2 (some ⟨tg,0,none⟩) (Qbc u)):=Qaa (⟨Qab ap (QcF am _),fun _=>⟨tg,0,rfl,fun i x hx=>by rw [Nat.zero_add];exact ad i x hx⟩⟩);have HB:Hid (Bw w w2):=Qaa ((ae.alloc ae.size _).drew.drew.trans (ap.mono (ae.alloc ae.size _).size));clear am aa ae ai HT ad ap az;go_wp2_with fail;generalize w2=X at HS HB ⊢;replace HS:Hid (X.drew.cell? ⟨g,0,none⟩=some (.string a)/\Qat X.drew (some ⟨tg,0,none⟩) (Qbc u)):=HS.out;replace HB:Hid (Bw w X.drew):=HB.drew;refine Qal (fun W'=>W'.cell? ⟨g,0,none⟩=some (.string a)/\Qat W' (some ⟨tg,0,none⟩) (Qbc u)) 24 oR ?_;refine tkS 0 (.slice (some ⟨g,0,none⟩) 2 ab) HS ?_;refine tkS 1 (.pointer (some ⟨g,0,none⟩)) HS ?_;refine tkL 2 (.string a) HS (fun W hW=>?_) ?_
     ·have al:=hW.1
      exact mAo
     simp only [sX];refine tkS 3 (.slice (some ⟨tg,0,none⟩) tn tc) HS ?_;refine tkS 4 (.slice (some ⟨g,0,none⟩) 2 ab) HS ?_;refine tkS 5 (.pointer (some ⟨g,0,none⟩)) HS ?_;simp only [sX];refine tkL 6 (.string a) HS (fun W hW=>?_) ?_
     ·have al:=hW.1
      exact mAo
     simp only [sX];refine onE 7 fun K hK=>?_;go_simp;refine (QaH a _ oC).mono ?_;rintro e w3 ⟨rfl,aj⟩;obtain rfl:=aj;dsimp only;refine gK hK HS.out ?_
     try simp only [sX]
     cases hna:QaF a with
     | false=>
      refine tkS 8 (.bool false) HS ?_;refine tkU 9 HS ?_;simp only [sX];refine onE 10 fun K hK=>?_;refine Eq.mpr (if_neg (fun h=>Bool.noConfusion (show false=true from h))) ?_;refine gK hK HS.out ?_
      try simp only [sX]
      refine tkS 11 (.bool false) HS ?_;refine tkS 12 (.bool false) HS ?_;refine tkU 13 HS ?_;simp only [sX];refine tkU 14 HS ?_;refine tkU 15 HS ?_;refine tkU 16 HS ?_;simp only [sX];refine tkU 18 HS ?_;simp only [sX];refine onE 17 fun K hK=>?_;refine Eq.mpr (if_neg (fun h=>Bool.noConfusion (show false=true from h))) ?_;refine gK hK HS.out ?_
      try simp only [sX]
      refine tkU 19 HS ?_;refine tkS 20 (.bool false) HS ?_;refine tkS 21 (.string a) HS ?_;simp only [sX];refine tkS 22 (.slice (some ⟨tg,0,none⟩) tn tc) HS ?_;refine tkS 23 (.bool false) HS ?_;simp only [sX];refine dnE ?_ _;have HE:Hid (Qbl t=false):=QbP (fun h=>by have:=HY.2 h;rw [hna] at this;exact Bool.noConfusion this.1);exact mAx
     | true=>
      refine tkS 8 (.bool true) HS ?_;refine tkS 9 (.slice (some ⟨tg,0,none⟩) tn tc) HS ?_;simp only [sX];refine onE 10 fun K hK=>?_;rw [if_pos oR];go_simp;refine (Qcn _ _ ah oB HU HS.2).mono ?_;rintro e w3 ⟨rfl,aj⟩;obtain rfl:=aj;dsimp only;refine gK hK HS.out ?_
      try simp only [sX]
      cases hal:(Qbc u).all Qbg with
      | false=>
       refine tkS 11 (.bool false) HS ?_;refine tkS 12 (.bool false) HS ?_;refine tkU 13 HS ?_;simp only [sX];refine tkU 14 HS ?_;refine tkU 15 HS ?_;refine tkU 16 HS ?_;simp only [sX];refine tkU 18 HS ?_;simp only [sX];refine onE 17 fun K hK=>?_;refine Eq.mpr (if_neg (fun h=>Bool.noConfusion (show false=true from h))) ?_;refine gK hK HS.out ?_
       try simp only [sX]
       refine tkU 19 HS ?_;refine tkS 20 (.bool false) HS ?_;refine tkS 21 (.string a) HS ?_;simp only [sX];refine tkS 22 (.slice (some ⟨tg,0,none⟩) tn tc) HS ?_;refine tkS 23 (.bool false) HS ?_;simp only [sX];refine dnE ?_ _;have HE:Hid (Qbl t=false):=QbP (fun h=>by have:=HY.2 h;rw [hal] at this;exact Bool.noConfusion this.2.1);exact mAx
      | true=>
       have aB:=QcK hna;have av:=Qaa (QeN hal);refine tkS 11 (.bool true) HS ?_;refine tkS 12 (.bool true) HS ?_;refine tkS 13 (.slice (some ⟨g,0,none⟩) 2 ab) HS ?_;simp only [sX];refine tkS 14 (.pointer (some ⟨g,0,none⟩)) HS ?_;refine tkL 15 (.string a) HS (fun W hW=>?_) ?_
       ·have al:=hW.1
        exact mAo
       refine tkS 16 (.slice (some ⟨tg,0,none⟩) tn tc) HS ?_;simp only [sX];refine tkS 18 (.string t) HS ?_;simp only [sX];refine onE 17 fun K hK=>?_;rw [if_pos oR];go_simp;refine (Qbs a _ _ oB ah ar av HS.2).mono ?_;rintro e w3 ⟨rfl,af⟩;replace HB:=Qaa (HB.trans (af.mono HB.size));replace HS:Hid (w3.cell? ⟨g,0,none⟩=some (.string a)/\Qat w3 (some ⟨tg,0,none⟩) (Qbc u)):=Qaa (⟨Qab af HS.1,QaA HS.2 af⟩);clear af;dsimp only;refine gK hK HS.out ?_
       try simp only [sX]
       have aq:((Qb6 a (Qbc u)).toList == t.toList)=Qbl t:=by
        exact mCt
       generalize Qb6 a (Qbc u)=sf at aq ⊢;refine tkS 19 (.bool (Qbl t)) HS ?_;refine tkS 20 (.bool (Qbl t)) HS ?_;refine tkS 21 (.string a) HS ?_;simp only [sX];refine tkS 22 (.slice (some ⟨tg,0,none⟩) tn tc) HS ?_;exact mCf
   ·have aD:(bt r q != 125)=true:=by simpa using ag
    have HE:Hid (Qbl t=false):=QpL (fun a' r' e=>by rw [HL.out] at e;obtain ⟨_,e2⟩:=List.cons.inj e;obtain ⟨rfl,_⟩:=List.cons.inj e2;exact .inr ⟨q,HQ,ag⟩);have HP:Hid (¬ QbX t):=Qaa ((fun h=>by have:=Qcl h;rw [HE.out] at this;exact Bool.noConfusion this));go_wp2_with fail;refine Qal (fun W'=>W'.cell? ⟨g,1,none⟩=some (.string r)) 21 oR ?_;replace aa:w1.drew.cell? ⟨g,1,none⟩=some (.string r):=aa;refine tkS 0 (.slice (some ⟨g,0,none⟩) 2 ab) aa ?_;refine tkS 1 (.int .i64 2) aa ?_;refine tkS 2 (.bool false) aa ?_;simp only [sX];refine tkS 3 (.bool false) aa ?_;refine tkS 4 (.slice (some ⟨g,0,none⟩) 2 ab) aa ?_;refine tkS 5 (.pointer (some ⟨g,1,none⟩)) aa ?_;simp only [sX];refine tkL 6 (.string r) aa (fun W hW=>?_) ?_
    ·go_simp
    refine tkS 7 (.bool false) aa ?_;refine tkS 8 (.bool false) aa ?_;simp only [sX];refine tkS 9 (.bool false) aa ?_;refine tkS 10 (.slice (some ⟨g,0,none⟩) 2 ab) aa ?_;refine tkS 11 (.pointer (some ⟨g,1,none⟩)) aa ?_;simp only [sX];refine tkL 12 (.string r) aa (fun W hW=>?_) ?_
    ·go_simp
    refine tkS 13 (.slice (some ⟨g,0,none⟩) 2 ab) aa ?_;refine tkS 14 (.pointer (some ⟨g,1,none⟩)) aa ?_;simp only [sX];refine tkL 15 (.string r) aa (fun W hW=>?_) ?_
    ·go_simp
    refine tkS 16 (.int .i64 r.size) aa ?_;refine tkS 17 (.int .i64 q) aa ?_;simp only [sX];refine tkS 18 (.int .u8 (bt r q)) aa ?_;refine tkS 19 (.bool true) aa ?_;exact mCn
 ·have HE:Hid (Qbl t=false):=QbP (fun ⟨name,K,hs⟩=>by have e:=QdZ hs;rw [e] at hn;simp at hn;omega)
  have HP:Hid (¬ QbX t):=Qaa ((fun h=>by have:=Qcl h;rw [HE.out] at this;exact Bool.noConfusion this));have aE:((n:Int) == 2)=false:=by simp;omega
  have ay:((n:Int) != 2)=true:=by simp;omega
  go_enter func126,ntmps126;go_wp2_with fail;refine (Qd0 t 123 oB oB _).mono ?_;rintro e w1 ⟨g,ab,rfl,hg,ac,ao⟩;rw [hn];clear ac;go_wp2_with fail;refine Qal (fun W'=>True) 21 oR ?_;refine tkS 0 (.slice (some ⟨g,0,none⟩) n ab) trivial ?_;refine tkS 1 (.int .i64 n) trivial ?_;refine tkS 2 (.bool true) trivial ?_;simp only [sX];refine tkS 3 (.bool true) trivial ?_;refine tkU 4 trivial ?_;refine tkU 5 trivial ?_;simp only [sX];refine tkU 6 trivial ?_;refine tkU 7 trivial ?_;refine tkS 8 (.bool true) trivial ?_;simp only [sX];refine tkS 9 (.bool true) trivial ?_;refine tkU 10 trivial ?_;refine tkU 11 trivial ?_;simp only [sX];refine tkU 12 trivial ?_;refine tkU 13 trivial ?_;refine tkU 14 trivial ?_;simp only [sX];refine tkU 15 trivial ?_;refine tkU 16 trivial ?_;refine tkU 17 trivial ?_;simp only [sX];refine tkU 18 trivial ?_;refine tkU 19 trivial ?_;refine tkS 20 (.bool true) trivial ?_;simp only [sX];refine dnE ?_ _;go_wp2
  go_ret3
  exact ⟨_,none,0,0,by rw [HE.out];rfl,fun h=>absurd h HP,ao.drew⟩
theorem Qdr (t:ByteArray) (hs:t.size<=maxLen) :
  Calls prog 77 #[.string t] w fun e w'=>e=.returned (.bool (Qbl t))/\Bw w w':=by
 unfold maxLen at hs;by_cases h1:20000<t.size
 ·have aa:(20000:Int)<(t.size:Int):=by omega
  have HE:Hid (Qbl t=false):=QbP (fun ⟨name,K,h⟩=>by have:=h.2.2.2.2.1;omega);go_enter func77,ntmps77;exact mD8
 have aa:¬ (20000:Int)<(t.size:Int):=oB
 go_enter func77,ntmps77;go_wp2_with fail;refine (QfO t oB).mono ?_;rintro e w1 ⟨nm,ao,n,c,rfl,_,hb⟩;go_wp2;go_ret;exact ⟨rfl,hb⟩
end Go.Proofs.YtioohanfodmddaaGreatDoor
