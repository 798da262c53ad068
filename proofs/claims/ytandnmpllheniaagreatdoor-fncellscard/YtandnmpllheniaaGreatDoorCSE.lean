/-
 Parts.
-/
import Derived.Test.YtandnmpllheniaaGreatDoorCSD
import Derived.Test.YtandnmpllheniaaGreatDoorRows
import Derived.ShutString
import Derived.ChangeOld
import Derived.ChangeSame
import Derived.ChangeVars
import Derived.JoinedOf
import Derived.LaidLaws
import Derived.LaidHandle
import Derived.LaidSub
import Derived.Lib.LaidTab
import Derived.Lay
import Derived.MakeChecks
import Derived.Stop.Joined
import Derived.SevenTiedAt
import Derived.Deep.DeepHandedRow
set_option linter.all false
set_option maxHeartbeats 2000000
namespace Go.Proofs.YtandnmpllheniaaGreatDoor
open Go.ChangeShapes Go.WideShapes Go.ChangeAt Go.RowKit Go.PlainAid
set_option maxRecDepth 10000
theorem Qd8 {t name:ByteArray} {K:List ByteArray} (h:Qj2 t name K):Qfi t 123=[name,⟨(QaT K ++ [125]).toArray⟩]:=by
 obtain ⟨h1,h2,h3,h4,h5,h6⟩:=h;refine Qnd (by rw [h6];exact QkM name K) (QnN h1) (fun hm=>?_);rcases List.mem_append.1 hm with hm | hm
 ·exact Qpa h2 hm
 ·revert hm;decide
def Qbk (u:ByteArray):List ByteArray:=if u.size=0 then [] else Qfi u 44
theorem QlG {K:List ByteArray} (h:K.all QbS=true):Qbk ⟨(QaT K).toArray⟩=K:=by
 unfold Qbk;rw [QeA];by_cases hK:K=[]
 ·subst hK;rfl
 ·rw [if_neg (fun h0=>Qjp h hK (List.eq_nil_of_length_eq_zero h0))]
  obtain ⟨n,hn⟩:∃ n,K.length=n+1:=by
   cases K with
   | nil=>exact absurd rfl hK
   | cons y r=>exact ⟨r.length,rfl⟩
  exact Qjn n hn (fun x hx=>(QlB (List.all_eq_true.1 h x hx)).2)
theorem QqO {t a r:ByteArray} (hl:Qfi t 123=[a,r]):0<t.size:=by
 rcases Nat.eq_zero_or_pos t.size with h | h
 ·have:=congrArg List.length hl
  unfold Qfi at this;rw [h] at this;simp [spl] at this
 ·exact h
theorem QkK {l:List UInt8} {q:Nat} (h:(⟨(l ++ [125]).toArray⟩:ByteArray).size=q+1):(⟨(l ++ [125]).toArray⟩:ByteArray).extract 0 q=⟨l.toArray⟩/\bt ⟨(l ++ [125]).toArray⟩ q=125:=by
 have hq:l.length=q:=by rw [QeA] at h;simp at h;exact h
 subst hq;refine ⟨QdR ?_,?_⟩
 ·rw [QbK,QcD,QcD,List.drop_zero,List.take_left]
 ·rw [QiZ,QcD,List.getElem?_append_right (Nat.le_refl _),Nat.sub_self];rfl
theorem Qqy {t name:ByteArray} {K:List ByteArray} (h:Qj2 t name K):Qeg name K=t:=by
 have:=QnM h;unfold Qeh at this
 rwa [if_pos ⟨h.1,h.2.1⟩] at this
theorem Qox {t:ByteArray} (h:∀ a r,Qfi t 123=[a,r]->(r.size=0∨∃ q,r.size=q+1/\¬ bt r q=125)):Qbv t=false:=Qcd (fun ⟨name,K,hs⟩=>by
 have e:=Qd8 hs;rcases h _ _ e with h0 | ⟨q,hq,hb⟩
 ·rw [QeA] at h0;simp at h0
 ·exact hb (QkK hq).2)
theorem QpG {t a r:ByteArray} (hl:Qfi t 123=[a,r]) {q:Nat} (hq:r.size=q+1) :
  (Qa3 a=true/\(Qbk (r.extract 0 q)).all QbS=true/\Qeg a (Qbk (r.extract 0 q))=t)↔Qcj t:=by
 constructor
 ·rintro ⟨h1,h2,h3⟩
  refine Qm7 (name:=a) (L:=Qbk (r.extract 0 q)) ?_ (QqO hl);unfold Qeh;rw [if_pos ⟨h1,h2⟩];exact h3
 ·rintro ⟨name,K,hs⟩
  have e:=Qd8 hs;rw [hl] at e;obtain ⟨rfl,e2⟩:=List.cons.inj e;obtain ⟨rfl,_⟩:=List.cons.inj e2;rw [(QkK hq).1,QlG hs.2.1];exact ⟨hs.1,hs.2.1,Qqy hs⟩
theorem Qqw {t a r:ByteArray} (hl:Qfi t 123=[a,r]) {q:Nat} (hq:r.size=q+1) (h:Qcj t):Qj2 t a (Qbk (r.extract 0 q)):=by
 obtain ⟨aa,K,hs⟩:=h;have e:=Qd8 hs;rw [hl] at e;obtain ⟨rfl,e2⟩:=List.cons.inj e;obtain ⟨rfl,_⟩:=List.cons.inj e2;rw [(QkK hq).1,QlG hs.2.1];exact hs
theorem QgB (t:ByteArray) (b:Int):∀ k,k<=t.size->∀ u∈(spl t b k).1,u.size<=t.size
 | 0,_,u,h=>by cases h
 | k+1,hk,u,h=>by
  by_cases hh:bt t k=b
  ·rw [QfN hh] at h
   rcases List.mem_append.1 h with h | h
   ·exact QgB t b k (by omega) u h
   ·obtain rfl:=List.mem_singleton.1 h
    rw [Qb6];omega
  ·rw [Qd7 hh] at h;exact QgB t b k (by omega) u h
theorem Qfy (t:ByteArray) (b:Int):∀ u∈Qfi t b,u.size<=t.size:=fun u h=>by
 unfold Qfi at h;rcases List.mem_append.1 h with h | h
 ·exact QgB t b t.size (ZZa _) u h
 ·obtain rfl:=List.mem_singleton.1 h
  rw [Qb6];omega
theorem Qm1 (t:ByteArray) (b:Int):(Qfi t b).length<=t.size+1:=by rw [Qh9];have:=(QmR t b t.size).2;omega
theorem isE {t:ByteArray} (h:¬ t.size=0):t.toList.isEmpty=false:=by
 rw [ByteArray.toList_eq]
 cases e:t.data.toList with
 | nil=>exact absurd (by rw [<- QaC];show t.data.toList.length=0;rw [e];rfl) h
 | cons x r=>rfl
theorem isE0 {t:ByteArray} (h:t.size=0):t.toList.isEmpty=true:=by
 rw [ByteArray.toList_eq];rw [List.isEmpty_iff];exact List.eq_nil_of_length_eq_zero (by rw [<- QaC] at h;exact h)
def QoM (t:ByteArray) (w:World) (e:Ending) (w':World):Prop:=∃ nm ao n c,e=.returned (.tuple #[.string nm,.slice ao n c,.bool (Qbv t)])/\(Qcj t->∃ K,Qj2 t nm K/\K.length=n/\Qa6 w' ao K)/\Below w.heap.size w w'
theorem QqX {α:Type} {l:List α} (h:l.length=2):∃ a b,l=[a,b]:=by
 match l,h with
 | [a,b],_=>exact ⟨a,b,rfl⟩
theorem QjI {w:World} (t:ByteArray) (ht:t.size<=20000) :
  Calls Tryz.prog 103 #[.string t] w fun e w'=>QoM t w e w':=by
 obtain ⟨n,hn⟩:∃ n,(Qfi t 123).length=n:=⟨_,rfl⟩;have aA:=Qm1 t 123;by_cases h2:n=2
 ·subst h2
  obtain ⟨a,r,hl⟩:=QqX hn;have HL:=Qaa hl;have HN:=Qaa hn;have aI:=Qfy t 123 a (by rw [hl];simp);have aD:=Qfy t 123 r (by rw [hl];simp);clear hl hn aA;go_enter Tryz.func103,Tryz.ntmps103;go_wp2_with fail;refine (QfP t 123 (by omega) (by omega) _).mono ?_;rintro e w1 ⟨g,ab,rfl,hg,ac,an⟩;rw [HN.out];have ao:=ac 0 a (by rw [HL.out];rfl);have aa:=ac 1 r (by rw [HL.out];rfl);have ae:=Qaa an;clear ac an;by_cases ar:r.size=0
  ·have aB:=isE0 ar
   have HE:Hid (Qbv t=false):=Qox (fun a' r' e=>by rw [HL.out] at e;obtain ⟨_,e2⟩:=List.cons.inj e;obtain ⟨rfl,_⟩:=List.cons.inj e2;exact .inl ar);have HP:Hid (¬ Qcj t):=((fun h=>by have:=QcU h;rw [HE.out] at this;exact Bool.noConfusion this):¬ Qcj t);go_wp2_with fail;refine Qaj (fun W'=>W'.cell? ⟨g,1,none⟩=some (.string r)) 21 (by rfl) ?_;replace aa:w1.drew.cell? ⟨g,1,none⟩=some (.string r):=aa;refine tkS 0 (.slice (some ⟨g,0,none⟩) 2 ab) aa ?_;refine tkS 1 (.int .i64 2) aa ?_;refine tkS 2 (.bool false) aa ?_;simp only [sX];refine tkS 3 (.bool false) aa ?_;refine tkS 4 (.slice (some ⟨g,0,none⟩) 2 ab) aa ?_;refine tkS 5 (.pointer (some ⟨g,1,none⟩)) aa ?_;simp only [sX];refine tkL 6 (.string r) aa (fun W hW=>?_) ?_
   ·go_simp
   refine tkS 7 (.bool true) aa ?_;refine tkS 8 (.bool true) aa ?_;simp only [sX];refine tkS 9 (.bool true) aa ?_;refine tkU 10 aa ?_;refine tkU 11 aa ?_;simp only [sX];refine tkU 12 aa ?_;refine tkU 13 aa ?_;refine tkU 14 aa ?_;simp only [sX];refine tkU 15 aa ?_;refine tkU 16 aa ?_;refine tkU 17 aa ?_;simp only [sX];refine tkU 18 aa ?_;refine tkU 19 aa ?_;refine tkS 20 (.bool true) aa ?_;simp only [sX];refine dnE ?_ _;go_wp2
   go_ret3
   exact ⟨_,none,0,0,by rw [HE.out];rfl,fun h=>absurd h HP,ae.out.drew⟩
  ·have aB:=isE ar
   obtain ⟨q,hq⟩:∃ q,r.size=q+1:=⟨r.size - 1,by omega⟩;have aC:=get_bt r;have aJ:IntKind.i64.wrap (((r.size:Nat):Int) - 1)=(q:Int):=by rw [hq];rw [IntWalk.i64_in _ ⟨by omega,by omega⟩];omega
   have aH:q<r.size:=by omega
   have HQ:=Qaa hq;have aE:q<=20000:=by omega
   clear hq;by_cases ag:bt r q=125
   ·have HY:=Qaa (QpG HL HQ)
    have HI:=Qaa (fun h=>Qqw HL HQ h);go_wp2_with fail;refine Qaj (fun W'=>W'.cell? ⟨g,1,none⟩=some (.string r)) 21 (by rfl) ?_;replace aa:w1.drew.cell? ⟨g,1,none⟩=some (.string r):=aa;refine tkS 0 (.slice (some ⟨g,0,none⟩) 2 ab) aa ?_;refine tkS 1 (.int .i64 2) aa ?_;refine tkS 2 (.bool false) aa ?_;simp only [sX];refine tkS 3 (.bool false) aa ?_;refine tkS 4 (.slice (some ⟨g,0,none⟩) 2 ab) aa ?_;refine tkS 5 (.pointer (some ⟨g,1,none⟩)) aa ?_;simp only [sX];refine tkL 6 (.string r) aa (fun W hW=>?_) ?_
    ·go_simp
    refine tkS 7 (.bool false) aa ?_;refine tkS 8 (.bool false) aa ?_;simp only [sX];refine tkS 9 (.bool false) aa ?_;refine tkS 10 (.slice (some ⟨g,0,none⟩) 2 ab) aa ?_;refine tkS 11 (.pointer (some ⟨g,1,none⟩)) aa ?_;simp only [sX];refine tkL 12 (.string r) aa (fun W hW=>?_) ?_
    ·go_simp
    refine tkS 13 (.slice (some ⟨g,0,none⟩) 2 ab) aa ?_;refine tkS 14 (.pointer (some ⟨g,1,none⟩)) aa ?_;simp only [sX];refine tkL 15 (.string r) aa (fun W hW=>?_) ?_
    ·go_simp
    refine tkS 16 (.int .i64 r.size) aa ?_;refine tkS 17 (.int .i64 q) aa ?_;simp only [sX];refine tkS 18 (.int .u8 (bt r q)) aa ?_;refine tkS 19 (.bool false) aa ?_;refine tkS 20 (.bool false) aa ?_;simp only [sX];refine dnE ?_ _;go_wp2_with fail;refine Qaj (fun W'=>W'.cell? ⟨g,1,none⟩=some (.string r)) 10 (by rfl) ?_;replace aa:w1.drew.drew.cell? ⟨g,1,none⟩=some (.string r):=aa;refine tkS 0 (.slice (some ⟨g,0,none⟩) 2 ab) aa ?_;refine tkS 1 (.pointer (some ⟨g,1,none⟩)) aa ?_;refine tkL 2 (.string r) aa (fun W hW=>?_) ?_
    ·go_simp
    simp only [sX];refine tkS 3 (.slice (some ⟨g,0,none⟩) 2 ab) aa ?_;refine tkS 4 (.pointer (some ⟨g,1,none⟩)) aa ?_;refine tkL 5 (.string r) aa (fun W hW=>?_) ?_
    ·go_simp
    simp only [sX];refine tkS 6 (.int .i64 r.size) aa ?_;refine tkS 7 (.int .i64 q) aa ?_;refine tkL 8 (.string (r.extract 0 q)) aa (fun W hW=>?_) ?_
    ·clear hW
     go_simp;intro h;exact absurd h (by omega)
    simp only [sX];refine tkS 9 (.string (r.extract 0 q)) aa ?_;simp only [sX];refine dnE ?_ _;have ax:(r.extract 0 q).size<=20000:=by rw [Qb6];omega
    obtain ⟨u,hu⟩:∃ u,r.extract 0 q=u:=⟨_,rfl⟩;rw [hu] at HY HI ax ⊢;clear hu;by_cases am:u.size=0
    ·have aj:=isE0 am
     have HT:Hid (Qbk u=[]):=(by unfold Qbk;rw [if_pos am]:Qbk u=[]);go_wp2_with fail;have HS:Hid ((w1.alloc (.cells #[] 9)).drew.drew.cell? ⟨g,0,none⟩=some (.string a)/\Qa6 (w1.alloc (.cells #[] 9)).drew.drew (some ⟨w1.heap.size,0,none⟩) (Qbk u)):=(⟨QeN ao _,fun h=>by rw [HT.out] at h;exact absurd h (Nat.lt_irrefl 0)⟩:(w1.alloc (.cells #[] 9)).drew.drew.cell? ⟨g,0,none⟩=some (.string a)/\Qa6 (w1.alloc (.cells #[] 9)).drew.drew (some ⟨w1.heap.size,0,none⟩) (Qbk u));have ah:Hid ((Qbk u).length=0):=(by rw [HT.out];rfl:(Qbk u).length=0);have HB:Hid (Below w.heap.size w (w1.alloc (.cells #[] 9)).drew.drew):=((ae.out.alloc ae.out.size _).drew.drew:Below w.heap.size w (w1.alloc (.cells #[] 9)).drew.drew);clear ao aa ae aj HT;generalize (w1.alloc (.cells #[] 9)).drew.drew=X at HS HB ⊢;have ap:0<=20100:=ZZj _;have HU:Hid (∀ x∈Qbk u,x.size<=maxLen):=((fun x hx=>by rw [List.eq_nil_of_length_eq_zero ah.out] at hx;cases hx):∀ x∈Qbk u,x.size<=maxLen);generalize w1.heap.size=tg at HS ⊢;replace HS:Hid (X.drew.cell? ⟨g,0,none⟩=some (.string a)/\Qa6 X.drew (some ⟨tg,0,none⟩) (Qbk u)):=HS.out;replace HB:Hid (Below w.heap.size w X.drew):=HB.out.drew;refine Qaj (fun W'=>W'.cell? ⟨g,0,none⟩=some (.string a)/\Qa6 W' (some ⟨tg,0,none⟩) (Qbk u)) 24 (by rfl) ?_;refine tkS 0 (.slice (some ⟨g,0,none⟩) 2 ab) HS ?_;refine tkS 1 (.pointer (some ⟨g,0,none⟩)) HS ?_;refine tkL 2 (.string a) HS (fun W hW=>?_) ?_
     ·have al:=hW.1
      clear hW;go_simp
     simp only [sX];refine tkS 3 (.slice (some ⟨tg,0,none⟩) 0 0) HS ?_;refine tkS 4 (.slice (some ⟨g,0,none⟩) 2 ab) HS ?_;refine tkS 5 (.pointer (some ⟨g,0,none⟩)) HS ?_;simp only [sX];refine tkL 6 (.string a) HS (fun W hW=>?_) ?_
     ·have al:=hW.1
      clear hW;go_simp
     simp only [sX];refine onE 7 fun K hK=>?_;go_simp;refine (Qby a _ (by unfold maxLen;omega)).mono ?_;rintro e w3 ⟨rfl,ak⟩;obtain rfl:=ak;dsimp only;refine gK hK HS.out ?_
     try simp only [sX]
     cases hna:Qa3 a with
     | false=>
      refine tkS 8 (.bool false) HS ?_;refine tkU 9 HS ?_;simp only [sX];refine onE 10 fun K hK=>?_;refine Eq.mpr (if_neg (fun h=>Bool.noConfusion (show false=true from h))) ?_;refine gK hK HS.out ?_
      try simp only [sX]
      refine tkS 11 (.bool false) HS ?_;refine tkS 12 (.bool false) HS ?_;refine tkU 13 HS ?_;simp only [sX];refine tkU 14 HS ?_;refine tkU 15 HS ?_;refine tkU 16 HS ?_;simp only [sX];refine tkU 18 HS ?_;simp only [sX];refine onE 17 fun K hK=>?_;refine Eq.mpr (if_neg (fun h=>Bool.noConfusion (show false=true from h))) ?_;refine gK hK HS.out ?_
      try simp only [sX]
      refine tkU 19 HS ?_;refine tkS 20 (.bool false) HS ?_;refine tkS 21 (.string a) HS ?_;simp only [sX];refine tkS 22 (.slice (some ⟨tg,0,none⟩) 0 0) HS ?_;refine tkS 23 (.bool false) HS ?_;simp only [sX];refine dnE ?_ _;have HE:Hid (Qbv t=false):=Qcd (fun h=>by have:=HY.out.2 h;rw [hna] at this;exact Bool.noConfusion this.1);have HP:Hid (¬ Qcj t):=((fun h=>by have:=QcU h;rw [HE.out] at this;exact Bool.noConfusion this):¬ Qcj t);go_wp2
      go_ret3
      exact ⟨a,_,_,_,by rw [HE.out];rfl,fun h=>absurd h HP,HB⟩
     | true=>
      refine tkS 8 (.bool true) HS ?_;refine tkS 9 (.slice (some ⟨tg,0,none⟩) 0 0) HS ?_;simp only [sX];refine onE 10 fun K hK=>?_;rw [if_pos (by rfl)];go_simp;refine (Qdd _ _ ah (by omega) HU HS.out.2).mono ?_;rintro e w3 ⟨rfl,ak⟩;obtain rfl:=ak;dsimp only;refine gK hK HS.out ?_
      try simp only [sX]
      cases hal:(Qbk u).all QbS with
      | false=>
       refine tkS 11 (.bool false) HS ?_;refine tkS 12 (.bool false) HS ?_;refine tkU 13 HS ?_;simp only [sX];refine tkU 14 HS ?_;refine tkU 15 HS ?_;refine tkU 16 HS ?_;simp only [sX];refine tkU 18 HS ?_;simp only [sX];refine onE 17 fun K hK=>?_;refine Eq.mpr (if_neg (fun h=>Bool.noConfusion (show false=true from h))) ?_;refine gK hK HS.out ?_
       try simp only [sX]
       refine tkU 19 HS ?_;refine tkS 20 (.bool false) HS ?_;refine tkS 21 (.string a) HS ?_;simp only [sX];refine tkS 22 (.slice (some ⟨tg,0,none⟩) 0 0) HS ?_;refine tkS 23 (.bool false) HS ?_;simp only [sX];refine dnE ?_ _;have HE:Hid (Qbv t=false):=Qcd (fun h=>by have:=HY.out.2 h;rw [hal] at this;exact Bool.noConfusion this.2.1);have HP:Hid (¬ Qcj t):=((fun h=>by have:=QcU h;rw [HE.out] at this;exact Bool.noConfusion this):¬ Qcj t);go_wp2
       go_ret3
       exact ⟨a,_,_,_,by rw [HE.out];rfl,fun h=>absurd h HP,HB⟩
      | true=>
       have ay:=QdS hna;have au:=Qaa (Qge hal);refine tkS 11 (.bool true) HS ?_;refine tkS 12 (.bool true) HS ?_;refine tkS 13 (.slice (some ⟨g,0,none⟩) 2 ab) HS ?_;simp only [sX];refine tkS 14 (.pointer (some ⟨g,0,none⟩)) HS ?_;refine tkL 15 (.string a) HS (fun W hW=>?_) ?_
       ·have al:=hW.1
        clear hW;go_simp
       refine tkS 16 (.slice (some ⟨tg,0,none⟩) 0 0) HS ?_;simp only [sX];refine tkS 18 (.string t) HS ?_;simp only [sX];refine onE 17 fun K hK=>?_;rw [if_pos (by rfl)];go_simp;refine (Qdq a _ _ (by omega) ah ap au HS.out.2).mono ?_;rintro e w3 ⟨rfl,af⟩;replace HB:=Qaa (HB.out.trans (af.mono HB.out.size));replace HS:Hid (w3.cell? ⟨g,0,none⟩=some (.string a)/\Qa6 w3 (some ⟨tg,0,none⟩) (Qbk u)):=(⟨Qab af HS.out.1,QbY HS.out.2 af⟩:w3.cell? ⟨g,0,none⟩=some (.string a)/\Qa6 w3 (some ⟨tg,0,none⟩) (Qbk u));clear af;dsimp only;refine gK hK HS.out ?_
       try simp only [sX]
       have aq:((Qeg a (Qbk u)).toList == t.toList)=Qbv t:=by
        rw [Qka];by_cases h:Qcj t
        ·rw [QcU h];exact ZZh (HY.out.2 h).2.2
        ·rw [Qcd h];exact ZZg (fun e=>h (HY.out.1 ⟨hna,hal,e⟩))
       generalize Qeg a (Qbk u)=sf at aq ⊢;refine tkS 19 (.bool (Qbv t)) HS ?_;refine tkS 20 (.bool (Qbv t)) HS ?_;refine tkS 21 (.string a) HS ?_;simp only [sX];refine tkS 22 (.slice (some ⟨tg,0,none⟩) 0 0) HS ?_;refine tkS 23 (.bool (Qbv t)) HS ?_;simp only [sX];refine dnE ?_ _;go_wp2
       go_ret3
       exact ⟨a,_,_,_,rfl,fun h=>⟨Qbk u,HI.out h,ah,HS.out.2⟩,HB⟩
    ·have aj:=isE am
     have HT:Hid (Qbk u=Qfi u 44):=(by unfold Qbk;rw [if_neg am]:Qbk u=Qfi u 44);go_wp2_with fail;refine (QfP u 44 (by omega) (by omega) _).mono ?_;rintro e w2 ⟨tg,tc,rfl,az,ad,av⟩;rw [<- HT.out] at ad ⊢;have HU:Hid (∀ x∈Qbk u,x.size<=maxLen):=((fun x hx=>by rw [HT.out] at hx;have:=Qfy u 44 x hx;unfold maxLen;omega):∀ x∈Qbk u,x.size<=maxLen);obtain ⟨tn,ai⟩:∃ tn,(Qbk u).length=tn:=⟨_,rfl⟩;have ap:tn<=20100:=by have:=Qm1 u 44;rw [<- HT.out] at this;omega
     have ah:=Qaa ai;rw [ai];clear ai;have HS:Hid (w2.cell? ⟨g,0,none⟩=some (.string a)/\Qa6 w2 (some ⟨tg,0,none⟩) (Qbk u)):=(⟨Qab av (QeN ao _),fun _=>⟨tg,0,rfl,fun i x hx=>by rw [Nat.zero_add];exact ad i x hx⟩⟩:w2.cell? ⟨g,0,none⟩=some (.string a)/\Qa6 w2 (some ⟨tg,0,none⟩) (Qbk u));have HB:Hid (Below w.heap.size w w2):=((ae.out.alloc ae.out.size _).drew.drew.trans (av.mono (ae.out.alloc ae.out.size _).size):Below w.heap.size w w2);clear ao aa ae aj HT ad av az;go_wp2_with fail;generalize w2=X at HS HB ⊢;replace HS:Hid (X.drew.cell? ⟨g,0,none⟩=some (.string a)/\Qa6 X.drew (some ⟨tg,0,none⟩) (Qbk u)):=HS.out;replace HB:Hid (Below w.heap.size w X.drew):=HB.out.drew;refine Qaj (fun W'=>W'.cell? ⟨g,0,none⟩=some (.string a)/\Qa6 W' (some ⟨tg,0,none⟩) (Qbk u)) 24 (by rfl) ?_;refine tkS 0 (.slice (some ⟨g,0,none⟩) 2 ab) HS ?_;refine tkS 1 (.pointer (some ⟨g,0,none⟩)) HS ?_;refine tkL 2 (.string a) HS (fun W hW=>?_) ?_
     ·have al:=hW.1
      clear hW;go_simp
     simp only [sX];refine tkS 3 (.slice (some ⟨tg,0,none⟩) tn tc) HS ?_;refine tkS 4 (.slice (some ⟨g,0,none⟩) 2 ab) HS ?_;refine tkS 5 (.pointer (some ⟨g,0,none⟩)) HS ?_;simp only [sX];refine tkL 6 (.string a) HS (fun W hW=>?_) ?_
     ·have al:=hW.1
      clear hW;go_simp
     simp only [sX];refine onE 7 fun K hK=>?_;go_simp;refine (Qby a _ (by unfold maxLen;omega)).mono ?_;rintro e w3 ⟨rfl,ak⟩;obtain rfl:=ak;dsimp only;refine gK hK HS.out ?_
     try simp only [sX]
     cases hna:Qa3 a with
     | false=>
      refine tkS 8 (.bool false) HS ?_;refine tkU 9 HS ?_;simp only [sX];refine onE 10 fun K hK=>?_;refine Eq.mpr (if_neg (fun h=>Bool.noConfusion (show false=true from h))) ?_;refine gK hK HS.out ?_
      try simp only [sX]
      refine tkS 11 (.bool false) HS ?_;refine tkS 12 (.bool false) HS ?_;refine tkU 13 HS ?_;simp only [sX];refine tkU 14 HS ?_;refine tkU 15 HS ?_;refine tkU 16 HS ?_;simp only [sX];refine tkU 18 HS ?_;simp only [sX];refine onE 17 fun K hK=>?_;refine Eq.mpr (if_neg (fun h=>Bool.noConfusion (show false=true from h))) ?_;refine gK hK HS.out ?_
      try simp only [sX]
      refine tkU 19 HS ?_;refine tkS 20 (.bool false) HS ?_;refine tkS 21 (.string a) HS ?_;simp only [sX];refine tkS 22 (.slice (some ⟨tg,0,none⟩) tn tc) HS ?_;refine tkS 23 (.bool false) HS ?_;simp only [sX];refine dnE ?_ _;have HE:Hid (Qbv t=false):=Qcd (fun h=>by have:=HY.out.2 h;rw [hna] at this;exact Bool.noConfusion this.1);have HP:Hid (¬ Qcj t):=((fun h=>by have:=QcU h;rw [HE.out] at this;exact Bool.noConfusion this):¬ Qcj t);go_wp2
      go_ret3
      exact ⟨a,_,_,_,by rw [HE.out];rfl,fun h=>absurd h HP,HB⟩
     | true=>
      refine tkS 8 (.bool true) HS ?_;refine tkS 9 (.slice (some ⟨tg,0,none⟩) tn tc) HS ?_;simp only [sX];refine onE 10 fun K hK=>?_;rw [if_pos (by rfl)];go_simp;refine (Qdd _ _ ah (by omega) HU HS.out.2).mono ?_;rintro e w3 ⟨rfl,ak⟩;obtain rfl:=ak;dsimp only;refine gK hK HS.out ?_
      try simp only [sX]
      cases hal:(Qbk u).all QbS with
      | false=>
       refine tkS 11 (.bool false) HS ?_;refine tkS 12 (.bool false) HS ?_;refine tkU 13 HS ?_;simp only [sX];refine tkU 14 HS ?_;refine tkU 15 HS ?_;refine tkU 16 HS ?_;simp only [sX];refine tkU 18 HS ?_;simp only [sX];refine onE 17 fun K hK=>?_;refine Eq.mpr (if_neg (fun h=>Bool.noConfusion (show false=true from h))) ?_;refine gK hK HS.out ?_
       try simp only [sX]
       refine tkU 19 HS ?_;refine tkS 20 (.bool false) HS ?_;refine tkS 21 (.string a) HS ?_;simp only [sX];refine tkS 22 (.slice (some ⟨tg,0,none⟩) tn tc) HS ?_;refine tkS 23 (.bool false) HS ?_;simp only [sX];refine dnE ?_ _;have HE:Hid (Qbv t=false):=Qcd (fun h=>by have:=HY.out.2 h;rw [hal] at this;exact Bool.noConfusion this.2.1);have HP:Hid (¬ Qcj t):=((fun h=>by have:=QcU h;rw [HE.out] at this;exact Bool.noConfusion this):¬ Qcj t);go_wp2
       go_ret3
       exact ⟨a,_,_,_,by rw [HE.out];rfl,fun h=>absurd h HP,HB⟩
      | true=>
       have ay:=QdS hna;have au:=Qaa (Qge hal);refine tkS 11 (.bool true) HS ?_;refine tkS 12 (.bool true) HS ?_;refine tkS 13 (.slice (some ⟨g,0,none⟩) 2 ab) HS ?_;simp only [sX];refine tkS 14 (.pointer (some ⟨g,0,none⟩)) HS ?_;refine tkL 15 (.string a) HS (fun W hW=>?_) ?_
       ·have al:=hW.1
        clear hW;go_simp
       refine tkS 16 (.slice (some ⟨tg,0,none⟩) tn tc) HS ?_;simp only [sX];refine tkS 18 (.string t) HS ?_;simp only [sX];refine onE 17 fun K hK=>?_;rw [if_pos (by rfl)];go_simp;refine (Qdq a _ _ (by omega) ah ap au HS.out.2).mono ?_;rintro e w3 ⟨rfl,af⟩;replace HB:=Qaa (HB.out.trans (af.mono HB.out.size));replace HS:Hid (w3.cell? ⟨g,0,none⟩=some (.string a)/\Qa6 w3 (some ⟨tg,0,none⟩) (Qbk u)):=(⟨Qab af HS.out.1,QbY HS.out.2 af⟩:w3.cell? ⟨g,0,none⟩=some (.string a)/\Qa6 w3 (some ⟨tg,0,none⟩) (Qbk u));clear af;dsimp only;refine gK hK HS.out ?_
       try simp only [sX]
       have aq:((Qeg a (Qbk u)).toList == t.toList)=Qbv t:=by
        rw [Qka];by_cases h:Qcj t
        ·rw [QcU h];exact ZZh (HY.out.2 h).2.2
        ·rw [Qcd h];exact ZZg (fun e=>h (HY.out.1 ⟨hna,hal,e⟩))
       generalize Qeg a (Qbk u)=sf at aq ⊢;refine tkS 19 (.bool (Qbv t)) HS ?_;refine tkS 20 (.bool (Qbv t)) HS ?_;refine tkS 21 (.string a) HS ?_;simp only [sX];refine tkS 22 (.slice (some ⟨tg,0,none⟩) tn tc) HS ?_;refine tkS 23 (.bool (Qbv t)) HS ?_;simp only [sX];refine dnE ?_ _;go_wp2
       go_ret3
       exact ⟨a,_,_,_,rfl,fun h=>⟨Qbk u,HI.out h,ah,HS.out.2⟩,HB⟩
   ·have aF:(bt r q != 125)=true:=by simpa using ag
    have HE:Hid (Qbv t=false):=Qox (fun a' r' e=>by rw [HL.out] at e;obtain ⟨_,e2⟩:=List.cons.inj e;obtain ⟨rfl,_⟩:=List.cons.inj e2;exact .inr ⟨q,HQ,ag⟩);have HP:Hid (¬ Qcj t):=((fun h=>by have:=QcU h;rw [HE.out] at this;exact Bool.noConfusion this):¬ Qcj t);go_wp2_with fail;refine Qaj (fun W'=>W'.cell? ⟨g,1,none⟩=some (.string r)) 21 (by rfl) ?_;replace aa:w1.drew.cell? ⟨g,1,none⟩=some (.string r):=aa;refine tkS 0 (.slice (some ⟨g,0,none⟩) 2 ab) aa ?_;refine tkS 1 (.int .i64 2) aa ?_;refine tkS 2 (.bool false) aa ?_;simp only [sX];refine tkS 3 (.bool false) aa ?_;refine tkS 4 (.slice (some ⟨g,0,none⟩) 2 ab) aa ?_;refine tkS 5 (.pointer (some ⟨g,1,none⟩)) aa ?_;simp only [sX];refine tkL 6 (.string r) aa (fun W hW=>?_) ?_
    ·go_simp
    refine tkS 7 (.bool false) aa ?_;refine tkS 8 (.bool false) aa ?_;simp only [sX];refine tkS 9 (.bool false) aa ?_;refine tkS 10 (.slice (some ⟨g,0,none⟩) 2 ab) aa ?_;refine tkS 11 (.pointer (some ⟨g,1,none⟩)) aa ?_;simp only [sX];refine tkL 12 (.string r) aa (fun W hW=>?_) ?_
    ·go_simp
    refine tkS 13 (.slice (some ⟨g,0,none⟩) 2 ab) aa ?_;refine tkS 14 (.pointer (some ⟨g,1,none⟩)) aa ?_;simp only [sX];refine tkL 15 (.string r) aa (fun W hW=>?_) ?_
    ·go_simp
    refine tkS 16 (.int .i64 r.size) aa ?_;refine tkS 17 (.int .i64 q) aa ?_;simp only [sX];refine tkS 18 (.int .u8 (bt r q)) aa ?_;refine tkS 19 (.bool true) aa ?_;refine tkS 20 (.bool true) aa ?_;simp only [sX];refine dnE ?_ _;go_wp2
    go_ret3
    exact ⟨_,none,0,0,by rw [HE.out];rfl,fun h=>absurd h HP,ae.out.drew⟩
 ·have HE:Hid (Qbv t=false):=Qcd (fun ⟨name,K,hs⟩=>by have e:=Qd8 hs;rw [e] at hn;simp at hn;omega)
  have HP:Hid (¬ Qcj t):=((fun h=>by have:=QcU h;rw [HE.out] at this;exact Bool.noConfusion this):¬ Qcj t);have aG:((n:Int) == 2)=false:=by simp;omega
  have aw:((n:Int) != 2)=true:=by simp;omega
  go_enter Tryz.func103,Tryz.ntmps103;go_wp2_with fail;refine (QfP t 123 (by omega) (by omega) _).mono ?_;rintro e w1 ⟨g,ab,rfl,hg,ac,an⟩;rw [hn];clear ac;go_wp2_with fail;refine Qaj (fun W'=>True) 21 (by rfl) ?_;refine tkS 0 (.slice (some ⟨g,0,none⟩) n ab) trivial ?_;refine tkS 1 (.int .i64 n) trivial ?_;refine tkS 2 (.bool true) trivial ?_;simp only [sX];refine tkS 3 (.bool true) trivial ?_;refine tkU 4 trivial ?_;refine tkU 5 trivial ?_;simp only [sX];refine tkU 6 trivial ?_;refine tkU 7 trivial ?_;refine tkS 8 (.bool true) trivial ?_;simp only [sX];refine tkS 9 (.bool true) trivial ?_;refine tkU 10 trivial ?_;refine tkU 11 trivial ?_;simp only [sX];refine tkU 12 trivial ?_;refine tkU 13 trivial ?_;refine tkU 14 trivial ?_;simp only [sX];refine tkU 15 trivial ?_;refine tkU 16 trivial ?_;refine tkU 17 trivial ?_;simp only [sX];refine tkU 18 trivial ?_;refine tkU 19 trivial ?_;refine tkS 20 (.bool true) trivial ?_;simp only [sX];refine dnE ?_ _;go_wp2
  go_ret3
  exact ⟨_,none,0,0,by rw [HE.out];rfl,fun h=>absurd h HP,an.drew⟩
theorem QaG {w:World} (t:ByteArray) (hs:t.size<=maxLen) :
  Calls Tryz.prog 58 #[.string t] w fun e w'=>e=.returned (.bool (Qbv t))/\Below w.heap.size w w':=by
 unfold maxLen at hs;by_cases h1:20000<t.size
 ·have aa:(20000:Int)<(t.size:Int):=by omega
  have HE:Hid (Qbv t=false):=Qcd (fun ⟨name,K,h⟩=>by have:=h.2.2.2.2.1;omega);go_enter Tryz.func58,Tryz.ntmps58;go_wp2;go_ret;exact ⟨QaI HE.out.symm,ZZb _ _⟩
 have aa:¬ (20000:Int)<(t.size:Int):=by omega
 go_enter Tryz.func58,Tryz.ntmps58;go_wp2_with fail;refine (QjI t (by omega)).mono ?_;rintro e w1 ⟨nm,ao,n,c,rfl,_,hb⟩;go_wp2;go_ret;exact ⟨rfl,hb⟩
end Go.Proofs.YtandnmpllheniaaGreatDoor
namespace Go.Proofs.YtandnmpllheniaaGreatDoor
open Go.ChangeShapes Go.WideShapes Go.ChangeAt Go.RowKit
theorem QiF {H:Type} {enc:TypeId×Value->H} {a:Assume} {C:Checked} {os:Os} {f:FuncId} {fn:Func} {s:ChangeSpec} {conds:List PathCond} {apart fresh handsOn again:Bool} {L:List (String×DataW Unit)}
  (own:ownKnob C.prog.godebug=none) (started:os.Started) (noInit:C.prog.inits.idxOf? f=none) (hfn:C.prog.funcs[f]?=some fn)
  (wit:∃ (w:World) (tape:Tape) (i:Input),w.os=os/\(w.forCall tape i).Shaped C.prog/\i.vars=[]/\Input.okWide C.prog (w.forCall tape i) .any w.heap.size f i /\
   ((s.pre enc C.prog fn conds apart (w.forCall tape i).memory i.args/\laidMetH C.prog L (w.forCall tape i).memory)/\sizedMet enc C.prog fn (OpenSpec.ofChange s) apart (w.forCall tape i).memory i.args)/\a.holds C.prog (lone (Frame.enter C.prog f i.args .normal) [] (w.forCall tape i)))
  (step:∀ (W:World) (base:Nat) (args:Array Value) (ds gs:List (DataW H)) (before:List MemPlace),
   (∀ (j:Nat) t v,fn.params[j]?=some t->args[j]?=some v->Value.okWide C.prog W .any base t v)->DataW.Whole enc C.prog fn.params.toList s.vars apart W args.toList ds gs before ->
   laidMetH C.prog L W->W.ShapedOpen C.prog ->
   Calls C.prog f args W fun e W'=>∃ v,e=.returned v/\s.post enc C.prog fn apart fresh handsOn again W args v W') :
  ReturnsInHanded a C os f .any (fun w args=>(s.pre enc C.prog fn conds apart w args/\laidMetH C.prog L w)/\sizedMet enc C.prog fn (OpenSpec.ofChange s) apart w args) (s.post enc C.prog fn apart fresh handsOn again):=by
 refine returnsInHanded_of_calls own started noInit wit ?_;rintro w tape i _ ad _ ⟨_,_,_,ac,ab,_,_,_,_,aa⟩ ⟨⟨⟨ds,gs,before,hw,_⟩,hl⟩,_⟩ _;obtain rfl:ac=fn:=Option.some.inj (ab.symm.trans hfn);refine (step (w.forCall tape i) w.heap.size i.args ds gs before aa (DataW.Whole.of_heap (w':=w.forCall tape i) (by rfl) hw) (hl.of_heap (by rfl)) ad).mono ?_;rintro e W' ⟨v,rfl,hp⟩;exact ChangeSpec.post_blind hp
end Go.Proofs.YtandnmpllheniaaGreatDoor
