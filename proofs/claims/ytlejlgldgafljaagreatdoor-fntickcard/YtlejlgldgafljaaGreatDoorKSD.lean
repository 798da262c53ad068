/-
 Parts.
-/
import Derived.Test.YtlejlgldgafljaaGreatDoorKSC
set_option maxHeartbeats 2000000
set_option linter.all false
namespace Go.Proofs.YtlejlgldgafljaaGreatDoor
open Go.ChangeShapes Go.WideShapes Go.ChangeAt Go.RowKit Go.PlainAid Tryz
set_option maxRecDepth 10000
variable {a name r t:ByteArray}
variable {K:List ByteArray}
theorem QdE (h:Qg7 t name K):Qba t 123=[name,⟨(QaM K ++ [125]).toArray⟩]:=by
 obtain ⟨h1,h2,h3,h4,h5,h6⟩:=h;refine Qnl (by rw [h6];exact Ql3 name K) (QnN h1) (fun hm=>?_);rcases List.mem_append.1 hm with hm | hm
 ·exact Qp1 h2 hm
 ·revert hm;decide
def Qbe (u:ByteArray):List ByteArray:=if u.size=0 then [] else Qba u 44
theorem Qmm (h:K.all Qbk=true):Qbe ⟨(QaM K).toArray⟩=K:=by
 unfold Qbe;rw [Qec];by_cases hK:K=[]
 ·subst hK;rfl
 ·rw [if_neg (fun h0=>QjL h hK (List.eq_nil_of_length_eq_zero h0))]
  obtain ⟨n,hn⟩:∃ n,K.length=n+1:=by
   cases K with
   | nil=>exact absurd rfl hK
   | cons y r=>exact ⟨r.length,rfl⟩
  exact QjU n hn (fun x hx=>(QlY (List.all_eq_true.1 h x hx)).2)
theorem QtK (hl:Qba t 123=[a,r]):0<t.size:=by
 rcases Nat.eq_zero_or_pos t.size with h | h
 ·have:=congrArg List.length hl
  unfold Qba at this;rw [h] at this;simp [spl] at this
 ·exact h
variable {q:Nat}
theorem Qku {l:List UInt8} (h:(⟨(l ++ [125]).toArray⟩:ByteArray).size=q+1):(⟨(l ++ [125]).toArray⟩:ByteArray).extract 0 q=⟨l.toArray⟩/\bt ⟨(l ++ [125]).toArray⟩ q=125:=by
 have hq:l.length=q:=by rw [Qec] at h;simp at h;exact h
 subst hq;refine ⟨Qa5 ?_,?_⟩
 ·rw [Qbf,Qa8,Qa8,List.drop_zero,List.take_left]
 ·rw [Qfp,Qa8,List.getElem?_append_right (Nat.le_refl _),Nat.sub_self];rfl
theorem QtH (h:Qg7 t name K):Qb2 name K=t:=by
 have:=QoS h;unfold Qce at this
 rwa [if_pos ⟨h.1,h.2.1⟩] at this
theorem QoP (h:∀ a r,Qba t 123=[a,r]->(r.size=0∨∃ q,r.size=q+1/\¬ bt r q=125)):Qbn t=false:=QbO (fun ⟨name,K,hs⟩=>by
 have e:=QdE hs;rcases h _ _ e with h0 | ⟨q,hq,hb⟩
 ·rw [Qec] at h0;simp at h0
 ·exact hb (Qku hq).2)
theorem QqI (hl:Qba t 123=[a,r]) (hq:r.size=q+1) :
  (QaE a=true/\(Qbe (r.extract 0 q)).all Qbk=true/\Qb2 a (Qbe (r.extract 0 q))=t)↔QbW t:=by
 constructor
 ·rintro ⟨h1,h2,h3⟩
  refine Qke (name:=a) (L:=Qbe (r.extract 0 q)) ?_ (QtK hl);unfold Qce;rw [if_pos ⟨h1,h2⟩];exact h3
 ·rintro ⟨name,K,hs⟩
  have e:=QdE hs;rw [hl] at e;obtain ⟨rfl,e2⟩:=List.cons.inj e;obtain ⟨rfl,_⟩:=List.cons.inj e2;rw [(Qku hq).1,Qmm hs.2.1];exact ⟨hs.1,hs.2.1,QtH hs⟩
theorem Qsr (hl:Qba t 123=[a,r]) (hq:r.size=q+1) (h:QbW t):Qg7 t a (Qbe (r.extract 0 q)):=by
 obtain ⟨aa,K,hs⟩:=h;have e:=QdE hs;rw [hl] at e;obtain ⟨rfl,e2⟩:=List.cons.inj e;obtain ⟨rfl,_⟩:=List.cons.inj e2;rw [(Qku hq).1,Qmm hs.2.1];exact hs
theorem QgH (t:ByteArray) (b:Int):∀ k,k<=t.size->∀ u∈(spl t b k).1,u.size<=t.size
 | 0,_,u,h=>by cases h
 | k+1,hk,u,h=>by
  by_cases hh:bt t k=b
  ·rw [Qcd hh] at h
   rcases List.mem_append.1 h with h | h
   ·exact QgH t b k (by omega) u h
   ·obtain rfl:=List.mem_singleton.1 h
    rw [size_extract];omega
  ·rw [QbR hh] at h;exact QgH t b k (by omega) u h
theorem QdG (t:ByteArray) (b:Int):∀ u∈Qba t b,u.size<=t.size:=fun u h=>by
 unfold Qba at h;rcases List.mem_append.1 h with h | h
 ·exact QgH t b t.size (ZZa _) u h
 ·obtain rfl:=List.mem_singleton.1 h
  rw [size_extract];omega
theorem QnA (t:ByteArray) (b:Int):(Qba t b).length<=t.size+1:=by rw [QcV];have:=(Qmb t b t.size).2;omega
theorem isE (h:¬ t.size=0):t.toList.isEmpty=false:=by
 rw [ByteArray.toList_eq]
 cases e:t.data.toList with
 | nil=>exact absurd (by rw [<- Qaq];show t.data.toList.length=0;rw [e];rfl) h
 | cons x r=>rfl
theorem isE0 (h:t.size=0):t.toList.isEmpty=true:=by
 rw [ByteArray.toList_eq];rw [List.isEmpty_iff];exact List.eq_nil_of_length_eq_zero (by rw [<- Qaq] at h;exact h)
def Qqz (t:ByteArray) (w:World) (e:Ending) (w':World):Prop:=∃ nm ao n c,e=.returned (.tuple #[.string nm,.slice ao n c,.bool (Qbn t)])/\(QbW t->∃ K,Qg7 t nm K/\K.length=n/\Qas w' ao K)/\Below w.heap.size w w'
theorem Quc {α:Type} {l:List α} (h:l.length=2):∃ a b,l=[a,b]:=by
 match l,h with
 | [a,b],_=>exact ⟨a,b,rfl⟩
variable {w:World}
theorem Qft (t:ByteArray) (ht:t.size<=20000) :
  Calls prog 118 #[.string t] w fun e w'=>Qqz t w e w':=by
 obtain ⟨n,hn⟩:∃ n,(Qba t 123).length=n:=⟨_,rfl⟩;have az:=QnA t 123;by_cases h2:n=2
 ·subst h2
  obtain ⟨a,r,hl⟩:=Quc hn;have HL:=Qaa hl;have HN:=Qaa hn;have aC:=QdG t 123 a (by rw [hl];simp);have aH:=QdG t 123 r (by rw [hl];simp);clear hl hn az;go_enter func118,ntmps118;go_wp2_with fail;refine (QdA t 123 (by omega) (by omega) _).mono ?_;rintro e w1 ⟨g,ab,rfl,hg,ac,ao⟩;rw [HN.out];have an:=ac 0 a (by rw [HL.out];rfl);have aa:=ac 1 r (by rw [HL.out];rfl);have ae:=Qaa ao;clear ac ao;by_cases aq:r.size=0
  ·have aw:=isE0 aq
   have HE:Hid (Qbn t=false):=QoP (fun a' r' e=>by rw [HL.out] at e;obtain ⟨_,e2⟩:=List.cons.inj e;obtain ⟨rfl,_⟩:=List.cons.inj e2;exact .inl aq);have HP:Hid (¬ QbW t):=((fun h=>by have:=Qch h;rw [HE.out] at this;exact Bool.noConfusion this):¬ QbW t);go_wp2_with fail;refine Qal (fun W'=>W'.cell? ⟨g,1,none⟩=some (.string r)) 21 (by rfl) ?_;replace aa:w1.drew.cell? ⟨g,1,none⟩=some (.string r):=aa;refine tkS 0 (.slice (some ⟨g,0,none⟩) 2 ab) aa ?_;refine tkS 1 (.int .i64 2) aa ?_;refine tkS 2 (.bool false) aa ?_;simp only [sX];refine tkS 3 (.bool false) aa ?_;refine tkS 4 (.slice (some ⟨g,0,none⟩) 2 ab) aa ?_;refine tkS 5 (.pointer (some ⟨g,1,none⟩)) aa ?_;simp only [sX];refine tkL 6 (.string r) aa (fun W hW=>?_) ?_
   ·go_simp
   refine tkS 7 (.bool true) aa ?_;refine tkS 8 (.bool true) aa ?_;simp only [sX];refine tkS 9 (.bool true) aa ?_;refine tkU 10 aa ?_;refine tkU 11 aa ?_;simp only [sX];refine tkU 12 aa ?_;refine tkU 13 aa ?_;refine tkU 14 aa ?_;simp only [sX];refine tkU 15 aa ?_;refine tkU 16 aa ?_;refine tkU 17 aa ?_;simp only [sX];refine tkU 18 aa ?_;refine tkU 19 aa ?_;refine tkS 20 (.bool true) aa ?_;simp only [sX];refine dnE ?_ _;go_wp2
   go_ret3
   exact ⟨_,none,0,0,by rw [HE.out];rfl,fun h=>absurd h HP,ae.out.drew⟩
  ·have aw:=isE aq
   obtain ⟨q,hq⟩:∃ q,r.size=q+1:=⟨r.size - 1,by omega⟩;have aJ:=get_bt r;have aI:IntKind.i64.wrap (((r.size:Nat):Int) - 1)=(q:Int):=by rw [hq];rw [IntWalk.i64_in _ ⟨by omega,by omega⟩];omega
   have aF:q<r.size:=by omega
   have HQ:=Qaa hq;have aD:q<=20000:=by omega
   clear hq;by_cases ah:bt r q=125
   ·have HY:=Qaa (QqI HL HQ)
    have HI:=Qaa (fun h=>Qsr HL HQ h);go_wp2_with fail;refine Qal (fun W'=>W'.cell? ⟨g,1,none⟩=some (.string r)) 21 (by rfl) ?_;replace aa:w1.drew.cell? ⟨g,1,none⟩=some (.string r):=aa;refine tkS 0 (.slice (some ⟨g,0,none⟩) 2 ab) aa ?_;refine tkS 1 (.int .i64 2) aa ?_;refine tkS 2 (.bool false) aa ?_;simp only [sX];refine tkS 3 (.bool false) aa ?_;refine tkS 4 (.slice (some ⟨g,0,none⟩) 2 ab) aa ?_;refine tkS 5 (.pointer (some ⟨g,1,none⟩)) aa ?_;simp only [sX];refine tkL 6 (.string r) aa (fun W hW=>?_) ?_
    ·go_simp
    refine tkS 7 (.bool false) aa ?_;refine tkS 8 (.bool false) aa ?_;simp only [sX];refine tkS 9 (.bool false) aa ?_;refine tkS 10 (.slice (some ⟨g,0,none⟩) 2 ab) aa ?_;refine tkS 11 (.pointer (some ⟨g,1,none⟩)) aa ?_;simp only [sX];refine tkL 12 (.string r) aa (fun W hW=>?_) ?_
    ·go_simp
    refine tkS 13 (.slice (some ⟨g,0,none⟩) 2 ab) aa ?_;refine tkS 14 (.pointer (some ⟨g,1,none⟩)) aa ?_;simp only [sX];refine tkL 15 (.string r) aa (fun W hW=>?_) ?_
    ·go_simp
    refine tkS 16 (.int .i64 r.size) aa ?_;refine tkS 17 (.int .i64 q) aa ?_;simp only [sX];refine tkS 18 (.int .u8 (bt r q)) aa ?_;refine tkS 19 (.bool false) aa ?_;refine tkS 20 (.bool false) aa ?_;simp only [sX];refine dnE ?_ _;go_wp2_with fail;refine Qal (fun W'=>W'.cell? ⟨g,1,none⟩=some (.string r)) 10 (by rfl) ?_;replace aa:w1.drew.drew.cell? ⟨g,1,none⟩=some (.string r):=aa;refine tkS 0 (.slice (some ⟨g,0,none⟩) 2 ab) aa ?_;refine tkS 1 (.pointer (some ⟨g,1,none⟩)) aa ?_;refine tkL 2 (.string r) aa (fun W hW=>?_) ?_
    ·go_simp
    simp only [sX];refine tkS 3 (.slice (some ⟨g,0,none⟩) 2 ab) aa ?_;refine tkS 4 (.pointer (some ⟨g,1,none⟩)) aa ?_;refine tkL 5 (.string r) aa (fun W hW=>?_) ?_
    ·go_simp
    simp only [sX];refine tkS 6 (.int .i64 r.size) aa ?_;refine tkS 7 (.int .i64 q) aa ?_;refine tkL 8 (.string (r.extract 0 q)) aa (fun W hW=>?_) ?_
    ·clear hW
     go_simp;intro h;exact absurd h (by omega)
    simp only [sX];refine tkS 9 (.string (r.extract 0 q)) aa ?_;simp only [sX];refine dnE ?_ _;have aB:(r.extract 0 q).size<=20000:=by rw [size_extract];omega
    obtain ⟨u,hu⟩:∃ u,r.extract 0 q=u:=⟨_,rfl⟩;rw [hu] at HY HI aB ⊢;clear hu;by_cases am:u.size=0
    ·have aj:=isE0 am
     have HT:Hid (Qbe u=[]):=(by unfold Qbe;rw [if_pos am]:Qbe u=[]);go_wp2_with fail;have HS:Hid ((w1.alloc (.cells #[] 9)).drew.drew.cell? ⟨g,0,none⟩=some (.string a)/\Qas (w1.alloc (.cells #[] 9)).drew.drew (some ⟨w1.heap.size,0,none⟩) (Qbe u)):=(⟨Qcc an _,fun h=>by rw [HT.out] at h;exact absurd h (Nat.lt_irrefl 0)⟩:(w1.alloc (.cells #[] 9)).drew.drew.cell? ⟨g,0,none⟩=some (.string a)/\Qas (w1.alloc (.cells #[] 9)).drew.drew (some ⟨w1.heap.size,0,none⟩) (Qbe u));have ag:Hid ((Qbe u).length=0):=(by rw [HT.out];rfl:(Qbe u).length=0);have HB:Hid (Below w.heap.size w (w1.alloc (.cells #[] 9)).drew.drew):=((ae.out.alloc ae.out.size _).drew.drew:Below w.heap.size w (w1.alloc (.cells #[] 9)).drew.drew);clear an aa ae aj HT;generalize (w1.alloc (.cells #[] 9)).drew.drew=X at HS HB ⊢;have ar:0<=20100:=ZZj _;have HU:Hid (∀ x∈Qbe u,x.size<=maxLen):=((fun x hx=>by rw [List.eq_nil_of_length_eq_zero ag.out] at hx;cases hx):∀ x∈Qbe u,x.size<=maxLen);generalize w1.heap.size=tg at HS ⊢;replace HS:Hid (X.drew.cell? ⟨g,0,none⟩=some (.string a)/\Qas X.drew (some ⟨tg,0,none⟩) (Qbe u)):=HS.out;replace HB:Hid (Below w.heap.size w X.drew):=HB.out.drew;refine Qal (fun W'=>W'.cell? ⟨g,0,none⟩=some (.string a)/\Qas W' (some ⟨tg,0,none⟩) (Qbe u)) 24 (by rfl) ?_;refine tkS 0 (.slice (some ⟨g,0,none⟩) 2 ab) HS ?_;refine tkS 1 (.pointer (some ⟨g,0,none⟩)) HS ?_;refine tkL 2 (.string a) HS (fun W hW=>?_) ?_
     ·have al:=hW.1
      clear hW;go_simp
     simp only [sX];refine tkS 3 (.slice (some ⟨tg,0,none⟩) 0 0) HS ?_;refine tkS 4 (.slice (some ⟨g,0,none⟩) 2 ab) HS ?_;refine tkS 5 (.pointer (some ⟨g,0,none⟩)) HS ?_;simp only [sX];refine tkL 6 (.string a) HS (fun W hW=>?_) ?_
     ·have al:=hW.1
      clear hW;go_simp
     simp only [sX];refine onE 7 fun K hK=>?_;go_simp;refine (QaI a _ (by unfold maxLen;omega)).mono ?_;rintro e w3 ⟨rfl,ai⟩;obtain rfl:=ai;dsimp only;refine gK hK HS.out ?_
     try simp only [sX]
     cases hna:QaE a with
     | false=>
      refine tkS 8 (.bool false) HS ?_;refine tkU 9 HS ?_;simp only [sX];refine onE 10 fun K hK=>?_;refine Eq.mpr (if_neg (fun h=>Bool.noConfusion (show false=true from h))) ?_;refine gK hK HS.out ?_
      try simp only [sX]
      refine tkS 11 (.bool false) HS ?_;refine tkS 12 (.bool false) HS ?_;refine tkU 13 HS ?_;simp only [sX];refine tkU 14 HS ?_;refine tkU 15 HS ?_;refine tkU 16 HS ?_;simp only [sX];refine tkU 18 HS ?_;simp only [sX];refine onE 17 fun K hK=>?_;refine Eq.mpr (if_neg (fun h=>Bool.noConfusion (show false=true from h))) ?_;refine gK hK HS.out ?_
      try simp only [sX]
      refine tkU 19 HS ?_;refine tkS 20 (.bool false) HS ?_;refine tkS 21 (.string a) HS ?_;simp only [sX];refine tkS 22 (.slice (some ⟨tg,0,none⟩) 0 0) HS ?_;refine tkS 23 (.bool false) HS ?_;simp only [sX];refine dnE ?_ _;have HE:Hid (Qbn t=false):=QbO (fun h=>by have:=HY.out.2 h;rw [hna] at this;exact Bool.noConfusion this.1);have HP:Hid (¬ QbW t):=((fun h=>by have:=Qch h;rw [HE.out] at this;exact Bool.noConfusion this):¬ QbW t);go_wp2
      go_ret3
      exact ⟨a,_,_,_,by rw [HE.out];rfl,fun h=>absurd h HP,HB⟩
     | true=>
      refine tkS 8 (.bool true) HS ?_;refine tkS 9 (.slice (some ⟨tg,0,none⟩) 0 0) HS ?_;simp only [sX];refine onE 10 fun K hK=>?_;rw [if_pos (by rfl)];go_simp;refine (Qcm _ _ ag (by omega) HU HS.out.2).mono ?_;rintro e w3 ⟨rfl,ai⟩;obtain rfl:=ai;dsimp only;refine gK hK HS.out ?_
      try simp only [sX]
      cases hal:(Qbe u).all Qbk with
      | false=>
       refine tkS 11 (.bool false) HS ?_;refine tkS 12 (.bool false) HS ?_;refine tkU 13 HS ?_;simp only [sX];refine tkU 14 HS ?_;refine tkU 15 HS ?_;refine tkU 16 HS ?_;simp only [sX];refine tkU 18 HS ?_;simp only [sX];refine onE 17 fun K hK=>?_;refine Eq.mpr (if_neg (fun h=>Bool.noConfusion (show false=true from h))) ?_;refine gK hK HS.out ?_
       try simp only [sX]
       refine tkU 19 HS ?_;refine tkS 20 (.bool false) HS ?_;refine tkS 21 (.string a) HS ?_;simp only [sX];refine tkS 22 (.slice (some ⟨tg,0,none⟩) 0 0) HS ?_;refine tkS 23 (.bool false) HS ?_;simp only [sX];refine dnE ?_ _;have HE:Hid (Qbn t=false):=QbO (fun h=>by have:=HY.out.2 h;rw [hal] at this;exact Bool.noConfusion this.2.1);have HP:Hid (¬ QbW t):=((fun h=>by have:=Qch h;rw [HE.out] at this;exact Bool.noConfusion this):¬ QbW t);go_wp2
       go_ret3
       exact ⟨a,_,_,_,by rw [HE.out];rfl,fun h=>absurd h HP,HB⟩
      | true=>
       have ax:=QcG hna;have au:=Qaa (QeN hal);refine tkS 11 (.bool true) HS ?_;refine tkS 12 (.bool true) HS ?_;refine tkS 13 (.slice (some ⟨g,0,none⟩) 2 ab) HS ?_;simp only [sX];refine tkS 14 (.pointer (some ⟨g,0,none⟩)) HS ?_;refine tkL 15 (.string a) HS (fun W hW=>?_) ?_
       ·have al:=hW.1
        clear hW;go_simp
       refine tkS 16 (.slice (some ⟨tg,0,none⟩) 0 0) HS ?_;simp only [sX];refine tkS 18 (.string t) HS ?_;simp only [sX];refine onE 17 fun K hK=>?_;rw [if_pos (by rfl)];go_simp;refine (Qbu a _ _ (by omega) ag ar au HS.out.2).mono ?_;rintro e w3 ⟨rfl,af⟩;replace HB:=Qaa (HB.out.trans (af.mono HB.out.size));replace HS:Hid (w3.cell? ⟨g,0,none⟩=some (.string a)/\Qas w3 (some ⟨tg,0,none⟩) (Qbe u)):=(⟨Qab af HS.out.1,Qay HS.out.2 af⟩:w3.cell? ⟨g,0,none⟩=some (.string a)/\Qas w3 (some ⟨tg,0,none⟩) (Qbe u));clear af;dsimp only;refine gK hK HS.out ?_
       try simp only [sX]
       have av:((Qb2 a (Qbe u)).toList == t.toList)=Qbn t:=by
        rw [QkN];by_cases h:QbW t
        ·rw [Qch h];exact ZZh (HY.out.2 h).2.2
        ·rw [QbO h];exact ZZg (fun e=>h (HY.out.1 ⟨hna,hal,e⟩))
       generalize Qb2 a (Qbe u)=sf at av ⊢;refine tkS 19 (.bool (Qbn t)) HS ?_;refine tkS 20 (.bool (Qbn t)) HS ?_;refine tkS 21 (.string a) HS ?_;simp only [sX];refine tkS 22 (.slice (some ⟨tg,0,none⟩) 0 0) HS ?_;refine tkS 23 (.bool (Qbn t)) HS ?_;simp only [sX];refine dnE ?_ _;go_wp2
       go_ret3
       exact ⟨a,_,_,_,rfl,fun h=>⟨Qbe u,HI.out h,ag,HS.out.2⟩,HB⟩
    ·have aj:=isE am
     have HT:Hid (Qbe u=Qba u 44):=(by unfold Qbe;rw [if_neg am]:Qbe u=Qba u 44);go_wp2_with fail;refine (QdA u 44 (by omega) (by omega) _).mono ?_;rintro e w2 ⟨tg,tc,rfl,ay,ad,ap⟩;rw [<- HT.out] at ad ⊢;have HU:Hid (∀ x∈Qbe u,x.size<=maxLen):=((fun x hx=>by rw [HT.out] at hx;have:=QdG u 44 x hx;unfold maxLen;omega):∀ x∈Qbe u,x.size<=maxLen);obtain ⟨tn,ak⟩:∃ tn,(Qbe u).length=tn:=⟨_,rfl⟩;have ar:tn<=20100:=by have:=QnA u 44;rw [<- HT.out] at this;omega
     have ag:=Qaa ak;rw [ak];clear ak;have HS:Hid (w2.cell? ⟨g,0,none⟩=some (.string a)/\Qas w2 (some ⟨tg,0,none⟩) (Qbe u)):=(⟨Qab ap (Qcc an _),fun _=>⟨tg,0,rfl,fun i x hx=>by rw [Nat.zero_add];exact ad i x hx⟩⟩:w2.cell? ⟨g,0,none⟩=some (.string a)/\Qas w2 (some ⟨tg,0,none⟩) (Qbe u));have HB:Hid (Below w.heap.size w w2):=((ae.out.alloc ae.out.size _).drew.drew.trans (ap.mono (ae.out.alloc ae.out.size _).size):Below w.heap.size w w2);clear an aa ae aj HT ad ap ay;go_wp2_with fail;generalize w2=X at HS HB ⊢;replace HS:Hid (X.drew.cell? ⟨g,0,none⟩=some (.string a)/\Qas X.drew (some ⟨tg,0,none⟩) (Qbe u)):=HS.out;replace HB:Hid (Below w.heap.size w X.drew):=HB.out.drew;refine Qal (fun W'=>W'.cell? ⟨g,0,none⟩=some (.string a)/\Qas W' (some ⟨tg,0,none⟩) (Qbe u)) 24 (by rfl) ?_;refine tkS 0 (.slice (some ⟨g,0,none⟩) 2 ab) HS ?_;refine tkS 1 (.pointer (some ⟨g,0,none⟩)) HS ?_;refine tkL 2 (.string a) HS (fun W hW=>?_) ?_
     ·have al:=hW.1
      clear hW;go_simp
     simp only [sX];refine tkS 3 (.slice (some ⟨tg,0,none⟩) tn tc) HS ?_;refine tkS 4 (.slice (some ⟨g,0,none⟩) 2 ab) HS ?_;refine tkS 5 (.pointer (some ⟨g,0,none⟩)) HS ?_;simp only [sX];refine tkL 6 (.string a) HS (fun W hW=>?_) ?_
     ·have al:=hW.1
      clear hW;go_simp
     simp only [sX];refine onE 7 fun K hK=>?_;go_simp;refine (QaI a _ (by unfold maxLen;omega)).mono ?_;rintro e w3 ⟨rfl,ai⟩;obtain rfl:=ai;dsimp only;refine gK hK HS.out ?_
     try simp only [sX]
     cases hna:QaE a with
     | false=>
      refine tkS 8 (.bool false) HS ?_;refine tkU 9 HS ?_;simp only [sX];refine onE 10 fun K hK=>?_;refine Eq.mpr (if_neg (fun h=>Bool.noConfusion (show false=true from h))) ?_;refine gK hK HS.out ?_
      try simp only [sX]
      refine tkS 11 (.bool false) HS ?_;refine tkS 12 (.bool false) HS ?_;refine tkU 13 HS ?_;simp only [sX];refine tkU 14 HS ?_;refine tkU 15 HS ?_;refine tkU 16 HS ?_;simp only [sX];refine tkU 18 HS ?_;simp only [sX];refine onE 17 fun K hK=>?_;refine Eq.mpr (if_neg (fun h=>Bool.noConfusion (show false=true from h))) ?_;refine gK hK HS.out ?_
      try simp only [sX]
      refine tkU 19 HS ?_;refine tkS 20 (.bool false) HS ?_;refine tkS 21 (.string a) HS ?_;simp only [sX];refine tkS 22 (.slice (some ⟨tg,0,none⟩) tn tc) HS ?_;refine tkS 23 (.bool false) HS ?_;simp only [sX];refine dnE ?_ _;have HE:Hid (Qbn t=false):=QbO (fun h=>by have:=HY.out.2 h;rw [hna] at this;exact Bool.noConfusion this.1);have HP:Hid (¬ QbW t):=((fun h=>by have:=Qch h;rw [HE.out] at this;exact Bool.noConfusion this):¬ QbW t);go_wp2
      go_ret3
      exact ⟨a,_,_,_,by rw [HE.out];rfl,fun h=>absurd h HP,HB⟩
     | true=>
      refine tkS 8 (.bool true) HS ?_;refine tkS 9 (.slice (some ⟨tg,0,none⟩) tn tc) HS ?_;simp only [sX];refine onE 10 fun K hK=>?_;rw [if_pos (by rfl)];go_simp;refine (Qcm _ _ ag (by omega) HU HS.out.2).mono ?_;rintro e w3 ⟨rfl,ai⟩;obtain rfl:=ai;dsimp only;refine gK hK HS.out ?_
      try simp only [sX]
      cases hal:(Qbe u).all Qbk with
      | false=>
       refine tkS 11 (.bool false) HS ?_;refine tkS 12 (.bool false) HS ?_;refine tkU 13 HS ?_;simp only [sX];refine tkU 14 HS ?_;refine tkU 15 HS ?_;refine tkU 16 HS ?_;simp only [sX];refine tkU 18 HS ?_;simp only [sX];refine onE 17 fun K hK=>?_;refine Eq.mpr (if_neg (fun h=>Bool.noConfusion (show false=true from h))) ?_;refine gK hK HS.out ?_
       try simp only [sX]
       refine tkU 19 HS ?_;refine tkS 20 (.bool false) HS ?_;refine tkS 21 (.string a) HS ?_;simp only [sX];refine tkS 22 (.slice (some ⟨tg,0,none⟩) tn tc) HS ?_;refine tkS 23 (.bool false) HS ?_;simp only [sX];refine dnE ?_ _;have HE:Hid (Qbn t=false):=QbO (fun h=>by have:=HY.out.2 h;rw [hal] at this;exact Bool.noConfusion this.2.1);have HP:Hid (¬ QbW t):=((fun h=>by have:=Qch h;rw [HE.out] at this;exact Bool.noConfusion this):¬ QbW t);go_wp2
       go_ret3
       exact ⟨a,_,_,_,by rw [HE.out];rfl,fun h=>absurd h HP,HB⟩
      | true=>
       have ax:=QcG hna;have au:=Qaa (QeN hal);refine tkS 11 (.bool true) HS ?_;refine tkS 12 (.bool true) HS ?_;refine tkS 13 (.slice (some ⟨g,0,none⟩) 2 ab) HS ?_;simp only [sX];refine tkS 14 (.pointer (some ⟨g,0,none⟩)) HS ?_;refine tkL 15 (.string a) HS (fun W hW=>?_) ?_
       ·have al:=hW.1
        clear hW;go_simp
       refine tkS 16 (.slice (some ⟨tg,0,none⟩) tn tc) HS ?_;simp only [sX];refine tkS 18 (.string t) HS ?_;simp only [sX];refine onE 17 fun K hK=>?_;rw [if_pos (by rfl)];go_simp;refine (Qbu a _ _ (by omega) ag ar au HS.out.2).mono ?_;rintro e w3 ⟨rfl,af⟩;replace HB:=Qaa (HB.out.trans (af.mono HB.out.size));replace HS:Hid (w3.cell? ⟨g,0,none⟩=some (.string a)/\Qas w3 (some ⟨tg,0,none⟩) (Qbe u)):=(⟨Qab af HS.out.1,Qay HS.out.2 af⟩:w3.cell? ⟨g,0,none⟩=some (.string a)/\Qas w3 (some ⟨tg,0,none⟩) (Qbe u));clear af;dsimp only;refine gK hK HS.out ?_
       try simp only [sX]
       have av:((Qb2 a (Qbe u)).toList == t.toList)=Qbn t:=by
        rw [QkN];by_cases h:QbW t
        ·rw [Qch h];exact ZZh (HY.out.2 h).2.2
        ·rw [QbO h];exact ZZg (fun e=>h (HY.out.1 ⟨hna,hal,e⟩))
       generalize Qb2 a (Qbe u)=sf at av ⊢;refine tkS 19 (.bool (Qbn t)) HS ?_;refine tkS 20 (.bool (Qbn t)) HS ?_;refine tkS 21 (.string a) HS ?_;simp only [sX];refine tkS 22 (.slice (some ⟨tg,0,none⟩) tn tc) HS ?_;refine tkS 23 (.bool (Qbn t)) HS ?_;simp only [sX];refine dnE ?_ _;go_wp2
       go_ret3
       exact ⟨a,_,_,_,rfl,fun h=>⟨Qbe u,HI.out h,ag,HS.out.2⟩,HB⟩
   ·have aG:(bt r q != 125)=true:=by simpa using ah
    have HE:Hid (Qbn t=false):=QoP (fun a' r' e=>by rw [HL.out] at e;obtain ⟨_,e2⟩:=List.cons.inj e;obtain ⟨rfl,_⟩:=List.cons.inj e2;exact .inr ⟨q,HQ,ah⟩);have HP:Hid (¬ QbW t):=((fun h=>by have:=Qch h;rw [HE.out] at this;exact Bool.noConfusion this):¬ QbW t);go_wp2_with fail;refine Qal (fun W'=>W'.cell? ⟨g,1,none⟩=some (.string r)) 21 (by rfl) ?_;replace aa:w1.drew.cell? ⟨g,1,none⟩=some (.string r):=aa;refine tkS 0 (.slice (some ⟨g,0,none⟩) 2 ab) aa ?_;refine tkS 1 (.int .i64 2) aa ?_;refine tkS 2 (.bool false) aa ?_;simp only [sX];refine tkS 3 (.bool false) aa ?_;refine tkS 4 (.slice (some ⟨g,0,none⟩) 2 ab) aa ?_;refine tkS 5 (.pointer (some ⟨g,1,none⟩)) aa ?_;simp only [sX];refine tkL 6 (.string r) aa (fun W hW=>?_) ?_
    ·go_simp
    refine tkS 7 (.bool false) aa ?_;refine tkS 8 (.bool false) aa ?_;simp only [sX];refine tkS 9 (.bool false) aa ?_;refine tkS 10 (.slice (some ⟨g,0,none⟩) 2 ab) aa ?_;refine tkS 11 (.pointer (some ⟨g,1,none⟩)) aa ?_;simp only [sX];refine tkL 12 (.string r) aa (fun W hW=>?_) ?_
    ·go_simp
    refine tkS 13 (.slice (some ⟨g,0,none⟩) 2 ab) aa ?_;refine tkS 14 (.pointer (some ⟨g,1,none⟩)) aa ?_;simp only [sX];refine tkL 15 (.string r) aa (fun W hW=>?_) ?_
    ·go_simp
    refine tkS 16 (.int .i64 r.size) aa ?_;refine tkS 17 (.int .i64 q) aa ?_;simp only [sX];refine tkS 18 (.int .u8 (bt r q)) aa ?_;refine tkS 19 (.bool true) aa ?_;refine tkS 20 (.bool true) aa ?_;simp only [sX];refine dnE ?_ _;go_wp2
    go_ret3
    exact ⟨_,none,0,0,by rw [HE.out];rfl,fun h=>absurd h HP,ae.out.drew⟩
 ·have HE:Hid (Qbn t=false):=QbO (fun ⟨name,K,hs⟩=>by have e:=QdE hs;rw [e] at hn;simp at hn;omega)
  have HP:Hid (¬ QbW t):=((fun h=>by have:=Qch h;rw [HE.out] at this;exact Bool.noConfusion this):¬ QbW t);have aE:((n:Int) == 2)=false:=by simp;omega
  have aA:((n:Int) != 2)=true:=by simp;omega
  go_enter func118,ntmps118;go_wp2_with fail;refine (QdA t 123 (by omega) (by omega) _).mono ?_;rintro e w1 ⟨g,ab,rfl,hg,ac,ao⟩;rw [hn];clear ac;go_wp2_with fail;refine Qal (fun W'=>True) 21 (by rfl) ?_;refine tkS 0 (.slice (some ⟨g,0,none⟩) n ab) trivial ?_;refine tkS 1 (.int .i64 n) trivial ?_;refine tkS 2 (.bool true) trivial ?_;simp only [sX];refine tkS 3 (.bool true) trivial ?_;refine tkU 4 trivial ?_;refine tkU 5 trivial ?_;simp only [sX];refine tkU 6 trivial ?_;refine tkU 7 trivial ?_;refine tkS 8 (.bool true) trivial ?_;simp only [sX];refine tkS 9 (.bool true) trivial ?_;refine tkU 10 trivial ?_;refine tkU 11 trivial ?_;simp only [sX];refine tkU 12 trivial ?_;refine tkU 13 trivial ?_;refine tkU 14 trivial ?_;simp only [sX];refine tkU 15 trivial ?_;refine tkU 16 trivial ?_;refine tkU 17 trivial ?_;simp only [sX];refine tkU 18 trivial ?_;refine tkU 19 trivial ?_;refine tkS 20 (.bool true) trivial ?_;simp only [sX];refine dnE ?_ _;go_wp2
  go_ret3
  exact ⟨_,none,0,0,by rw [HE.out];rfl,fun h=>absurd h HP,ao.drew⟩
theorem QaF (t:ByteArray) (hs:t.size<=maxLen) :
  Calls prog 99 #[.string t] w fun e w'=>e=.returned (.bool (Qbn t))/\Below w.heap.size w w':=by
 unfold maxLen at hs;by_cases h1:20000<t.size
 ·have aa:(20000:Int)<(t.size:Int):=by omega
  have HE:Hid (Qbn t=false):=QbO (fun ⟨name,K,h⟩=>by have:=h.2.2.2.2.1;omega);go_enter func99,ntmps99;go_wp2;go_ret;exact ⟨Qaw HE.out.symm,ZZb _ _⟩
 have aa:¬ (20000:Int)<(t.size:Int):=by omega
 go_enter func99,ntmps99;go_wp2_with fail;refine (Qft t (by omega)).mono ?_;rintro e w1 ⟨nm,ao,n,c,rfl,_,hb⟩;go_wp2;go_ret;exact ⟨rfl,hb⟩
end Go.Proofs.YtlejlgldgafljaaGreatDoor
