/-
 Parts.
-/
import Derived.Test.YtlejlgldgafljaaGreatDoorVSC
set_option maxHeartbeats 2000000
set_option linter.all false
namespace Go.Proofs.YtlejlgldgafljaaGreatDoor
open Go.ChangeShapes Go.WideShapes Go.ChangeAt Go.RowKit Go.PlainAid Tryz
set_option maxRecDepth 10000
variable {a name r t:ByteArray}
variable {K:List ByteArray}
theorem QdK (h:Qhr t name K):Qbh t 123=[name,⟨(QaQ K ++ [125]).toArray⟩]:=by
 obtain ⟨h1,h2,h3,h4,h5,h6⟩:=h;refine Qpo (by rw [h6];exact QlR name K) (QoN h1) (fun hm=>?_);rcases List.mem_append.1 hm with hm | hm
 ·exact Qst h2 hm
 ·revert hm;decide
def Qbj (u:ByteArray):List ByteArray:=if u.size=0 then [] else Qbh u 44
theorem QlN (h:K.all Qbn=true):Qbj ⟨(QaQ K).toArray⟩=K:=by
 unfold Qbj;rw [Qd9];by_cases hK:K=[]
 ·subst hK;rfl
 ·rw [if_neg (fun h0=>Qku h hK (List.eq_nil_of_length_eq_zero h0))]
  obtain ⟨n,hn⟩:∃ n,K.length=n+1:=by
   cases K with
   | nil=>exact absurd rfl hK
   | cons y r=>exact ⟨r.length,rfl⟩
  exact QkN n hn (fun x hx=>(QmI (List.all_eq_true.1 h x hx)).2)
theorem Qu5 (hl:Qbh t 123=[a,r]):0<t.size:=by
 rcases Nat.eq_zero_or_pos t.size with h | h
 ·have:=congrArg List.length hl
  unfold Qbh at this;rw [h] at this;simp [spl] at this
 ·exact h
variable {q:Nat}
theorem Qk5 {l:List UInt8} (h:(⟨(l ++ [125]).toArray⟩:ByteArray).size=q+1):(⟨(l ++ [125]).toArray⟩:ByteArray).extract 0 q=⟨l.toArray⟩/\bt ⟨(l ++ [125]).toArray⟩ q=125:=by
 have hq:l.length=q:=by rw [Qd9] at h;simp at h;exact h
 subst hq;refine ⟨Qbc ?_,?_⟩
 ·rw [Qbk,Qba,Qba,List.drop_zero,List.take_left]
 ·rw [QfQ,Qba,List.getElem?_append_right (Nat.le_refl _),Nat.sub_self];rfl
theorem QuI (h:Qhr t name K):Qch name K=t:=by
 have:=Qqg h;unfold Qcp at this
 rwa [if_pos ⟨h.1,h.2.1⟩] at this
theorem QoV (h:∀ a r,Qbh t 123=[a,r]->(r.size=0∨∃ q,r.size=q+1/\¬ bt r q=125)):Qbt t=false:=QbY (fun ⟨name,K,hs⟩=>by
 have e:=QdK hs;rcases h _ _ e with h0 | ⟨q,hq,hb⟩
 ·rw [Qd9] at h0;simp at h0
 ·exact hb (Qk5 hq).2)
theorem Qrx (hl:Qbh t 123=[a,r]) (hq:r.size=q+1) :
  (QaB a=true/\(Qbj (r.extract 0 q)).all Qbn=true/\Qch a (Qbj (r.extract 0 q))=t)↔Qca t:=by
 constructor
 ·rintro ⟨h1,h2,h3⟩
  refine QlG (name:=a) (L:=Qbj (r.extract 0 q)) ?_ (Qu5 hl);unfold Qcp;rw [if_pos ⟨h1,h2⟩];exact h3
 ·rintro ⟨name,K,hs⟩
  have e:=QdK hs;rw [hl] at e;obtain ⟨rfl,e2⟩:=List.cons.inj e;obtain ⟨rfl,_⟩:=List.cons.inj e2;rw [(Qk5 hq).1,QlN hs.2.1];exact ⟨hs.1,hs.2.1,QuI hs⟩
theorem Que (hl:Qbh t 123=[a,r]) (hq:r.size=q+1) (h:Qca t):Qhr t a (Qbj (r.extract 0 q)):=by
 obtain ⟨aa,K,hs⟩:=h;have e:=QdK hs;rw [hl] at e;obtain ⟨rfl,e2⟩:=List.cons.inj e;obtain ⟨rfl,_⟩:=List.cons.inj e2;rw [(Qk5 hq).1,QlN hs.2.1];exact hs
theorem QgA (t:ByteArray) (b:Int):∀ k,k<=t.size->∀ u∈(spl t b k).1,u.size<=t.size
 | 0,_,u,h=>by cases h
 | k+1,hk,u,h=>by
  by_cases hh:bt t k=b
  ·rw [Qft hh] at h
   rcases List.mem_append.1 h with h | h
   ·exact QgA t b k (by omega) u h
   ·obtain rfl:=List.mem_singleton.1 h
    rw [size_extract];omega
  ·rw [QdV hh] at h;exact QgA t b k (by omega) u h
theorem QdZ (t:ByteArray) (b:Int):∀ u∈Qbh t b,u.size<=t.size:=fun u h=>by
 unfold Qbh at h;rcases List.mem_append.1 h with h | h
 ·exact QgA t b t.size (ZZa _) u h
 ·obtain rfl:=List.mem_singleton.1 h
  rw [size_extract];omega
theorem QoX (t:ByteArray) (b:Int):(Qbh t b).length<=t.size+1:=by rw [Qgg];have:=(QoF t b t.size).2;omega
theorem isE (h:¬ t.size=0):t.toList.isEmpty=false:=by
 rw [ByteArray.toList_eq]
 cases e:t.data.toList with
 | nil=>exact absurd (by rw [<- Qaq];show t.data.toList.length=0;rw [e];rfl) h
 | cons x r=>rfl
theorem isE0 (h:t.size=0):t.toList.isEmpty=true:=by
 rw [ByteArray.toList_eq];rw [List.isEmpty_iff];exact List.eq_nil_of_length_eq_zero (by rw [<- Qaq] at h;exact h)
def Qrv (t:ByteArray) (w:World) (e:Ending) (w':World):Prop:=∃ nm ao n c,e=.returned (.tuple #[.string nm,.slice ao n c,.bool (Qbt t)])/\(Qca t->∃ K,Qhr t nm K/\K.length=n/\Qau w' ao K)/\Bw w w'
theorem Qur {α:Type} {l:List α} (h:l.length=2):∃ a b,l=[a,b]:=by
 match l,h with
 | [a,b],_=>exact ⟨a,b,rfl⟩
variable {w:World}
theorem QfG (t:ByteArray) (ht:t.size<=20000) :
  Calls prog 118 #[.string t] w fun e w'=>Qrv t w e w':=by
 obtain ⟨n,hn⟩:∃ n,(Qbh t 123).length=n:=⟨_,rfl⟩;have aw:=QoX t 123;by_cases h2:n=2
 ·subst h2
  obtain ⟨a,r,hl⟩:=Qur hn;have HL:=Qaa hl;have HN:=Qaa hn;have aF:=QdZ t 123 a (by rw [hl];simp);have aC:=QdZ t 123 r (by rw [hl];simp);clear hl hn aw;go_enter func118,ntmps118;go_wp2_with fail;refine (QdE t 123 (by omega) (by omega) _).mono ?_;rintro e w1 ⟨g,ab,rfl,hg,ac,ao⟩;rw [HN.out];have an:=ac 0 a (by rw [HL.out];rfl);have aa:=ac 1 r (by rw [HL.out];rfl);have ae:=Qaa ao;clear ac ao;by_cases ar:r.size=0
  ·have aA:=isE0 ar
   have HE:Hid (Qbt t=false):=QoV (fun a' r' e=>by rw [HL.out] at e;obtain ⟨_,e2⟩:=List.cons.inj e;obtain ⟨rfl,_⟩:=List.cons.inj e2;exact .inl ar);have HP:Hid (¬ Qca t):=((fun h=>by have:=QcC h;rw [HE.out] at this;exact Bool.noConfusion this):¬ Qca t);go_wp2_with fail;refine Qal (fun W'=>W'.cell? ⟨g,1,none⟩=some (.string r)) 21 (by rfl) ?_;replace aa:w1.drew.cell? ⟨g,1,none⟩=some (.string r):=aa;refine tkS 0 (.slice (some ⟨g,0,none⟩) 2 ab) aa ?_;refine tkS 1 (.int .i64 2) aa ?_;refine tkS 2 (.bool false) aa ?_;simp only [sX];refine tkS 3 (.bool false) aa ?_;refine tkS 4 (.slice (some ⟨g,0,none⟩) 2 ab) aa ?_;refine tkS 5 (.pointer (some ⟨g,1,none⟩)) aa ?_;simp only [sX];refine tkL 6 (.string r) aa (fun W hW=>?_) ?_
   ·go_simp
   refine tkS 7 (.bool true) aa ?_;refine tkS 8 (.bool true) aa ?_;simp only [sX];refine tkS 9 (.bool true) aa ?_;refine tkU 10 aa ?_;refine tkU 11 aa ?_;simp only [sX];refine tkU 12 aa ?_;refine tkU 13 aa ?_;refine tkU 14 aa ?_;simp only [sX];refine tkU 15 aa ?_;refine tkU 16 aa ?_;refine tkU 17 aa ?_;simp only [sX];refine tkU 18 aa ?_;refine tkU 19 aa ?_;refine tkS 20 (.bool true) aa ?_;simp only [sX];refine dnE ?_ _;go_wp2
   go_ret3
   exact ⟨_,none,0,0,by rw [HE.out];rfl,fun h=>absurd h HP,ae.drew⟩
  ·have aA:=isE ar
   obtain ⟨q,hq⟩:∃ q,r.size=q+1:=⟨r.size - 1,by omega⟩;have aH:=get_bt r;have aI:IntKind.i64.wrap (((r.size:Nat):Int) - 1)=(q:Int):=by rw [hq];rw [IntWalk.i64_in _ ⟨by omega,by omega⟩];omega
   have aD:q<r.size:=by omega
   have HQ:=Qaa hq;have aG:q<=20000:=by omega
   clear hq;by_cases ah:bt r q=125
   ·have HY:=Qaa (Qrx HL HQ)
    have HI:=Qaa (fun h=>Que HL HQ h);go_wp2_with fail;refine Qal (fun W'=>W'.cell? ⟨g,1,none⟩=some (.string r)) 21 (by rfl) ?_;replace aa:w1.drew.cell? ⟨g,1,none⟩=some (.string r):=aa;refine tkS 0 (.slice (some ⟨g,0,none⟩) 2 ab) aa ?_;refine tkS 1 (.int .i64 2) aa ?_;refine tkS 2 (.bool false) aa ?_;simp only [sX];refine tkS 3 (.bool false) aa ?_;refine tkS 4 (.slice (some ⟨g,0,none⟩) 2 ab) aa ?_;refine tkS 5 (.pointer (some ⟨g,1,none⟩)) aa ?_;simp only [sX];refine tkL 6 (.string r) aa (fun W hW=>?_) ?_
    ·go_simp
    refine tkS 7 (.bool false) aa ?_;refine tkS 8 (.bool false) aa ?_;simp only [sX];refine tkS 9 (.bool false) aa ?_;refine tkS 10 (.slice (some ⟨g,0,none⟩) 2 ab) aa ?_;refine tkS 11 (.pointer (some ⟨g,1,none⟩)) aa ?_;simp only [sX];refine tkL 12 (.string r) aa (fun W hW=>?_) ?_
    ·go_simp
    refine tkS 13 (.slice (some ⟨g,0,none⟩) 2 ab) aa ?_;refine tkS 14 (.pointer (some ⟨g,1,none⟩)) aa ?_;simp only [sX];refine tkL 15 (.string r) aa (fun W hW=>?_) ?_
    ·go_simp
    refine tkS 16 (.int .i64 r.size) aa ?_;refine tkS 17 (.int .i64 q) aa ?_;simp only [sX];refine tkS 18 (.int .u8 (bt r q)) aa ?_;refine tkS 19 (.bool false) aa ?_;refine tkS 20 (.bool false) aa ?_;simp only [sX];refine dnE ?_ _;go_wp2_with fail;refine Qal (fun W'=>W'.cell? ⟨g,1,none⟩=some (.string r)) 10 (by rfl) ?_;replace aa:w1.drew.drew.cell? ⟨g,1,none⟩=some (.string r):=aa;refine tkS 0 (.slice (some ⟨g,0,none⟩) 2 ab) aa ?_;refine tkS 1 (.pointer (some ⟨g,1,none⟩)) aa ?_;refine tkL 2 (.string r) aa (fun W hW=>?_) ?_
    ·go_simp
    simp only [sX];refine tkS 3 (.slice (some ⟨g,0,none⟩) 2 ab) aa ?_;refine tkS 4 (.pointer (some ⟨g,1,none⟩)) aa ?_;refine tkL 5 (.string r) aa (fun W hW=>?_) ?_
    ·go_simp
    simp only [sX];refine tkS 6 (.int .i64 r.size) aa ?_;refine tkS 7 (.int .i64 q) aa ?_;refine tkL 8 (.string (r.extract 0 q)) aa (fun W hW=>?_) ?_
    ·clear hW
     go_simp;intro h;exact absurd h (by omega)
    simp only [sX];refine tkS 9 (.string (r.extract 0 q)) aa ?_;simp only [sX];refine dnE ?_ _;have aB:(r.extract 0 q).size<=20000:=by rw [size_extract];omega
    obtain ⟨u,hu⟩:∃ u,r.extract 0 q=u:=⟨_,rfl⟩;rw [hu] at HY HI aB ⊢;clear hu;by_cases am:u.size=0
    ·have ai:=isE0 am
     have HT:Hid (Qbj u=[]):=(by unfold Qbj;rw [if_pos am]:Qbj u=[]);go_wp2_with fail;have HS:Hid ((w1.alloc (.cells #[] 9)).drew.drew.cell? ⟨g,0,none⟩=some (.string a)/\Qau (w1.alloc (.cells #[] 9)).drew.drew (some ⟨w1.heap.size,0,none⟩) (Qbj u)):=(⟨QcJ an _,fun h=>by rw [HT.out] at h;exact absurd h (Nat.lt_irrefl 0)⟩:(w1.alloc (.cells #[] 9)).drew.drew.cell? ⟨g,0,none⟩=some (.string a)/\Qau (w1.alloc (.cells #[] 9)).drew.drew (some ⟨w1.heap.size,0,none⟩) (Qbj u));have ag:Hid ((Qbj u).length=0):=(by rw [HT.out];rfl:(Qbj u).length=0);have HB:Hid (Bw w (w1.alloc (.cells #[] 9)).drew.drew):=((ae.alloc ae.size _).drew.drew:Bw w (w1.alloc (.cells #[] 9)).drew.drew);clear an aa ae ai HT;generalize (w1.alloc _).drew.drew=X at HS HB ⊢;have ap:0<=20100:=ZZj _;have HU:Hid (∀ x∈Qbj u,x.size<=maxLen):=((fun x hx=>by rw [List.eq_nil_of_length_eq_zero ag.out] at hx;cases hx):∀ x∈Qbj u,x.size<=maxLen);generalize w1.heap.size=tg at HS ⊢;replace HS:Hid (X.drew.cell? ⟨g,0,none⟩=some (.string a)/\Qau X.drew (some ⟨tg,0,none⟩) (Qbj u)):=HS.out;replace HB:Hid (Bw w X.drew):=HB.drew;refine Qal (fun W'=>W'.cell? ⟨g,0,none⟩=some (.string a)/\Qau W' (some ⟨tg,0,none⟩) (Qbj u)) 24 (by rfl) ?_;refine tkS 0 (.slice (some ⟨g,0,none⟩) 2 ab) HS ?_;refine tkS 1 (.pointer (some ⟨g,0,none⟩)) HS ?_;refine tkL 2 (.string a) HS (fun W hW=>?_) ?_
     ·have al:=hW.1
      clear hW;go_simp
     simp only [sX];refine tkS 3 (.slice (some ⟨tg,0,none⟩) 0 0) HS ?_;refine tkS 4 (.slice (some ⟨g,0,none⟩) 2 ab) HS ?_;refine tkS 5 (.pointer (some ⟨g,0,none⟩)) HS ?_;simp only [sX];refine tkL 6 (.string a) HS (fun W hW=>?_) ?_
     ·have al:=hW.1
      clear hW;go_simp
     simp only [sX];refine onE 7 fun K hK=>?_;go_simp;refine (QaH a _ (by unfold maxLen;omega)).mono ?_;rintro e w3 ⟨rfl,aj⟩;obtain rfl:=aj;dsimp only;refine gK hK HS.out ?_
     try simp only [sX]
     cases hna:QaB a with
     | false=>
      refine tkS 8 (.bool false) HS ?_;refine tkU 9 HS ?_;simp only [sX];refine onE 10 fun K hK=>?_;refine Eq.mpr (if_neg (fun h=>Bool.noConfusion (show false=true from h))) ?_;refine gK hK HS.out ?_
      try simp only [sX]
      refine tkS 11 (.bool false) HS ?_;refine tkS 12 (.bool false) HS ?_;refine tkU 13 HS ?_;simp only [sX];refine tkU 14 HS ?_;refine tkU 15 HS ?_;refine tkU 16 HS ?_;simp only [sX];refine tkU 18 HS ?_;simp only [sX];refine onE 17 fun K hK=>?_;refine Eq.mpr (if_neg (fun h=>Bool.noConfusion (show false=true from h))) ?_;refine gK hK HS.out ?_
      try simp only [sX]
      refine tkU 19 HS ?_;refine tkS 20 (.bool false) HS ?_;refine tkS 21 (.string a) HS ?_;simp only [sX];refine tkS 22 (.slice (some ⟨tg,0,none⟩) 0 0) HS ?_;refine tkS 23 (.bool false) HS ?_;simp only [sX];refine dnE ?_ _;have HE:Hid (Qbt t=false):=QbY (fun h=>by have:=HY.2 h;rw [hna] at this;exact Bool.noConfusion this.1);have HP:Hid (¬ Qca t):=((fun h=>by have:=QcC h;rw [HE.out] at this;exact Bool.noConfusion this):¬ Qca t);go_wp2
      go_ret3
      exact ⟨a,_,_,_,by rw [HE.out];rfl,fun h=>absurd h HP,HB⟩
     | true=>
      refine tkS 8 (.bool true) HS ?_;refine tkS 9 (.slice (some ⟨tg,0,none⟩) 0 0) HS ?_;simp only [sX];refine onE 10 fun K hK=>?_;rw [if_pos (by rfl)];go_simp;refine (QcD _ _ ag (by omega) HU HS.2).mono ?_;rintro e w3 ⟨rfl,aj⟩;obtain rfl:=aj;dsimp only;refine gK hK HS.out ?_
      try simp only [sX]
      cases hal:(Qbj u).all Qbn with
      | false=>
       refine tkS 11 (.bool false) HS ?_;refine tkS 12 (.bool false) HS ?_;refine tkU 13 HS ?_;simp only [sX];refine tkU 14 HS ?_;refine tkU 15 HS ?_;refine tkU 16 HS ?_;simp only [sX];refine tkU 18 HS ?_;simp only [sX];refine onE 17 fun K hK=>?_;refine Eq.mpr (if_neg (fun h=>Bool.noConfusion (show false=true from h))) ?_;refine gK hK HS.out ?_
       try simp only [sX]
       refine tkU 19 HS ?_;refine tkS 20 (.bool false) HS ?_;refine tkS 21 (.string a) HS ?_;simp only [sX];refine tkS 22 (.slice (some ⟨tg,0,none⟩) 0 0) HS ?_;refine tkS 23 (.bool false) HS ?_;simp only [sX];refine dnE ?_ _;have HE:Hid (Qbt t=false):=QbY (fun h=>by have:=HY.2 h;rw [hal] at this;exact Bool.noConfusion this.2.1);have HP:Hid (¬ Qca t):=((fun h=>by have:=QcC h;rw [HE.out] at this;exact Bool.noConfusion this):¬ Qca t);go_wp2
       go_ret3
       exact ⟨a,_,_,_,by rw [HE.out];rfl,fun h=>absurd h HP,HB⟩
      | true=>
       have ax:=Qb3 hna;have av:=Qaa (QeD hal);refine tkS 11 (.bool true) HS ?_;refine tkS 12 (.bool true) HS ?_;refine tkS 13 (.slice (some ⟨g,0,none⟩) 2 ab) HS ?_;simp only [sX];refine tkS 14 (.pointer (some ⟨g,0,none⟩)) HS ?_;refine tkL 15 (.string a) HS (fun W hW=>?_) ?_
       ·have al:=hW.1
        clear hW;go_simp
       refine tkS 16 (.slice (some ⟨tg,0,none⟩) 0 0) HS ?_;simp only [sX];refine tkS 18 (.string t) HS ?_;simp only [sX];refine onE 17 fun K hK=>?_;rw [if_pos (by rfl)];go_simp;refine (QbA a _ _ (by omega) ag ap av HS.2).mono ?_;rintro e w3 ⟨rfl,af⟩;replace HB:=Qaa (HB.trans (af.mono HB.size));replace HS:Hid (w3.cell? ⟨g,0,none⟩=some (.string a)/\Qau w3 (some ⟨tg,0,none⟩) (Qbj u)):=(⟨Qab af HS.1,QaA HS.2 af⟩:w3.cell? ⟨g,0,none⟩=some (.string a)/\Qau w3 (some ⟨tg,0,none⟩) (Qbj u));clear af;dsimp only;refine gK hK HS.out ?_
       try simp only [sX]
       have aq:((Qch a (Qbj u)).toList == t.toList)=Qbt t:=by
        rw [Qli];by_cases h:Qca t
        ·rw [QcC h];exact ZZh (HY.2 h).2.2
        ·rw [QbY h];exact ZZg (fun e=>h (HY.1 ⟨hna,hal,e⟩))
       generalize Qch a (Qbj u)=sf at aq ⊢;refine tkS 19 (.bool (Qbt t)) HS ?_;refine tkS 20 (.bool (Qbt t)) HS ?_;refine tkS 21 (.string a) HS ?_;simp only [sX];refine tkS 22 (.slice (some ⟨tg,0,none⟩) 0 0) HS ?_;refine tkS 23 (.bool (Qbt t)) HS ?_;simp only [sX];refine dnE ?_ _;go_wp2
       go_ret3
       exact ⟨a,_,_,_,rfl,fun h=>⟨Qbj u,HI.out h,ag,HS.2⟩,HB⟩
    ·have ai:=isE am
     have HT:Hid (Qbj u=Qbh u 44):=(by unfold Qbj;rw [if_neg am]:Qbj u=Qbh u 44);go_wp2_with fail;refine (QdE u 44 (by omega) (by omega) _).mono ?_;rintro e w2 ⟨tg,tc,rfl,ay,ad,au⟩;rw [<- HT.out] at ad ⊢;have HU:Hid (∀ x∈Qbj u,x.size<=maxLen):=((fun x hx=>by rw [HT.out] at hx;have:=QdZ u 44 x hx;unfold maxLen;omega):∀ x∈Qbj u,x.size<=maxLen);obtain ⟨tn,ak⟩:∃ tn,(Qbj u).length=tn:=⟨_,rfl⟩;have ap:tn<=20100:=by have:=QoX u 44;rw [<- HT.out] at this;omega
     have ag:=Qaa ak;rw [ak];clear ak;have HS:Hid (w2.cell? ⟨g,0,none⟩=some (.string a)/\Qau w2 (some ⟨tg,0,none⟩) (Qbj u)):=(⟨Qab au (QcJ an _),fun _=>⟨tg,0,rfl,fun i x hx=>by rw [Nat.zero_add];exact ad i x hx⟩⟩:w2.cell? ⟨g,0,none⟩=some (.string a)/\Qau w2 (some ⟨tg,0,none⟩) (Qbj u));have HB:Hid (Bw w w2):=((ae.alloc ae.size _).drew.drew.trans (au.mono (ae.alloc ae.size _).size):Bw w w2);clear an aa ae ai HT ad au ay;go_wp2_with fail;generalize w2=X at HS HB ⊢;replace HS:Hid (X.drew.cell? ⟨g,0,none⟩=some (.string a)/\Qau X.drew (some ⟨tg,0,none⟩) (Qbj u)):=HS.out;replace HB:Hid (Bw w X.drew):=HB.drew;refine Qal (fun W'=>W'.cell? ⟨g,0,none⟩=some (.string a)/\Qau W' (some ⟨tg,0,none⟩) (Qbj u)) 24 (by rfl) ?_;refine tkS 0 (.slice (some ⟨g,0,none⟩) 2 ab) HS ?_;refine tkS 1 (.pointer (some ⟨g,0,none⟩)) HS ?_;refine tkL 2 (.string a) HS (fun W hW=>?_) ?_
     ·have al:=hW.1
      clear hW;go_simp
     simp only [sX];refine tkS 3 (.slice (some ⟨tg,0,none⟩) tn tc) HS ?_;refine tkS 4 (.slice (some ⟨g,0,none⟩) 2 ab) HS ?_;refine tkS 5 (.pointer (some ⟨g,0,none⟩)) HS ?_;simp only [sX];refine tkL 6 (.string a) HS (fun W hW=>?_) ?_
     ·have al:=hW.1
      clear hW;go_simp
     simp only [sX];refine onE 7 fun K hK=>?_;go_simp;refine (QaH a _ (by unfold maxLen;omega)).mono ?_;rintro e w3 ⟨rfl,aj⟩;obtain rfl:=aj;dsimp only;refine gK hK HS.out ?_
     try simp only [sX]
     cases hna:QaB a with
     | false=>
      refine tkS 8 (.bool false) HS ?_;refine tkU 9 HS ?_;simp only [sX];refine onE 10 fun K hK=>?_;refine Eq.mpr (if_neg (fun h=>Bool.noConfusion (show false=true from h))) ?_;refine gK hK HS.out ?_
      try simp only [sX]
      refine tkS 11 (.bool false) HS ?_;refine tkS 12 (.bool false) HS ?_;refine tkU 13 HS ?_;simp only [sX];refine tkU 14 HS ?_;refine tkU 15 HS ?_;refine tkU 16 HS ?_;simp only [sX];refine tkU 18 HS ?_;simp only [sX];refine onE 17 fun K hK=>?_;refine Eq.mpr (if_neg (fun h=>Bool.noConfusion (show false=true from h))) ?_;refine gK hK HS.out ?_
      try simp only [sX]
      refine tkU 19 HS ?_;refine tkS 20 (.bool false) HS ?_;refine tkS 21 (.string a) HS ?_;simp only [sX];refine tkS 22 (.slice (some ⟨tg,0,none⟩) tn tc) HS ?_;refine tkS 23 (.bool false) HS ?_;simp only [sX];refine dnE ?_ _;have HE:Hid (Qbt t=false):=QbY (fun h=>by have:=HY.2 h;rw [hna] at this;exact Bool.noConfusion this.1);have HP:Hid (¬ Qca t):=((fun h=>by have:=QcC h;rw [HE.out] at this;exact Bool.noConfusion this):¬ Qca t);go_wp2
      go_ret3
      exact ⟨a,_,_,_,by rw [HE.out];rfl,fun h=>absurd h HP,HB⟩
     | true=>
      refine tkS 8 (.bool true) HS ?_;refine tkS 9 (.slice (some ⟨tg,0,none⟩) tn tc) HS ?_;simp only [sX];refine onE 10 fun K hK=>?_;rw [if_pos (by rfl)];go_simp;refine (QcD _ _ ag (by omega) HU HS.2).mono ?_;rintro e w3 ⟨rfl,aj⟩;obtain rfl:=aj;dsimp only;refine gK hK HS.out ?_
      try simp only [sX]
      cases hal:(Qbj u).all Qbn with
      | false=>
       refine tkS 11 (.bool false) HS ?_;refine tkS 12 (.bool false) HS ?_;refine tkU 13 HS ?_;simp only [sX];refine tkU 14 HS ?_;refine tkU 15 HS ?_;refine tkU 16 HS ?_;simp only [sX];refine tkU 18 HS ?_;simp only [sX];refine onE 17 fun K hK=>?_;refine Eq.mpr (if_neg (fun h=>Bool.noConfusion (show false=true from h))) ?_;refine gK hK HS.out ?_
       try simp only [sX]
       refine tkU 19 HS ?_;refine tkS 20 (.bool false) HS ?_;refine tkS 21 (.string a) HS ?_;simp only [sX];refine tkS 22 (.slice (some ⟨tg,0,none⟩) tn tc) HS ?_;refine tkS 23 (.bool false) HS ?_;simp only [sX];refine dnE ?_ _;have HE:Hid (Qbt t=false):=QbY (fun h=>by have:=HY.2 h;rw [hal] at this;exact Bool.noConfusion this.2.1);have HP:Hid (¬ Qca t):=((fun h=>by have:=QcC h;rw [HE.out] at this;exact Bool.noConfusion this):¬ Qca t);go_wp2
       go_ret3
       exact ⟨a,_,_,_,by rw [HE.out];rfl,fun h=>absurd h HP,HB⟩
      | true=>
       have ax:=Qb3 hna;have av:=Qaa (QeD hal);refine tkS 11 (.bool true) HS ?_;refine tkS 12 (.bool true) HS ?_;refine tkS 13 (.slice (some ⟨g,0,none⟩) 2 ab) HS ?_;simp only [sX];refine tkS 14 (.pointer (some ⟨g,0,none⟩)) HS ?_;refine tkL 15 (.string a) HS (fun W hW=>?_) ?_
       ·have al:=hW.1
        clear hW;go_simp
       refine tkS 16 (.slice (some ⟨tg,0,none⟩) tn tc) HS ?_;simp only [sX];refine tkS 18 (.string t) HS ?_;simp only [sX];refine onE 17 fun K hK=>?_;rw [if_pos (by rfl)];go_simp;refine (QbA a _ _ (by omega) ag ap av HS.2).mono ?_;rintro e w3 ⟨rfl,af⟩;replace HB:=Qaa (HB.trans (af.mono HB.size));replace HS:Hid (w3.cell? ⟨g,0,none⟩=some (.string a)/\Qau w3 (some ⟨tg,0,none⟩) (Qbj u)):=(⟨Qab af HS.1,QaA HS.2 af⟩:w3.cell? ⟨g,0,none⟩=some (.string a)/\Qau w3 (some ⟨tg,0,none⟩) (Qbj u));clear af;dsimp only;refine gK hK HS.out ?_
       try simp only [sX]
       have aq:((Qch a (Qbj u)).toList == t.toList)=Qbt t:=by
        rw [Qli];by_cases h:Qca t
        ·rw [QcC h];exact ZZh (HY.2 h).2.2
        ·rw [QbY h];exact ZZg (fun e=>h (HY.1 ⟨hna,hal,e⟩))
       generalize Qch a (Qbj u)=sf at aq ⊢;refine tkS 19 (.bool (Qbt t)) HS ?_;refine tkS 20 (.bool (Qbt t)) HS ?_;refine tkS 21 (.string a) HS ?_;simp only [sX];refine tkS 22 (.slice (some ⟨tg,0,none⟩) tn tc) HS ?_;refine tkS 23 (.bool (Qbt t)) HS ?_;simp only [sX];refine dnE ?_ _;go_wp2
       go_ret3
       exact ⟨a,_,_,_,rfl,fun h=>⟨Qbj u,HI.out h,ag,HS.2⟩,HB⟩
   ·have aE:(bt r q != 125)=true:=by simpa using ah
    have HE:Hid (Qbt t=false):=QoV (fun a' r' e=>by rw [HL.out] at e;obtain ⟨_,e2⟩:=List.cons.inj e;obtain ⟨rfl,_⟩:=List.cons.inj e2;exact .inr ⟨q,HQ,ah⟩);have HP:Hid (¬ Qca t):=((fun h=>by have:=QcC h;rw [HE.out] at this;exact Bool.noConfusion this):¬ Qca t);go_wp2_with fail;refine Qal (fun W'=>W'.cell? ⟨g,1,none⟩=some (.string r)) 21 (by rfl) ?_;replace aa:w1.drew.cell? ⟨g,1,none⟩=some (.string r):=aa;refine tkS 0 (.slice (some ⟨g,0,none⟩) 2 ab) aa ?_;refine tkS 1 (.int .i64 2) aa ?_;refine tkS 2 (.bool false) aa ?_;simp only [sX];refine tkS 3 (.bool false) aa ?_;refine tkS 4 (.slice (some ⟨g,0,none⟩) 2 ab) aa ?_;refine tkS 5 (.pointer (some ⟨g,1,none⟩)) aa ?_;simp only [sX];refine tkL 6 (.string r) aa (fun W hW=>?_) ?_
    ·go_simp
    refine tkS 7 (.bool false) aa ?_;refine tkS 8 (.bool false) aa ?_;simp only [sX];refine tkS 9 (.bool false) aa ?_;refine tkS 10 (.slice (some ⟨g,0,none⟩) 2 ab) aa ?_;refine tkS 11 (.pointer (some ⟨g,1,none⟩)) aa ?_;simp only [sX];refine tkL 12 (.string r) aa (fun W hW=>?_) ?_
    ·go_simp
    refine tkS 13 (.slice (some ⟨g,0,none⟩) 2 ab) aa ?_;refine tkS 14 (.pointer (some ⟨g,1,none⟩)) aa ?_;simp only [sX];refine tkL 15 (.string r) aa (fun W hW=>?_) ?_
    ·go_simp
    refine tkS 16 (.int .i64 r.size) aa ?_;refine tkS 17 (.int .i64 q) aa ?_;simp only [sX];refine tkS 18 (.int .u8 (bt r q)) aa ?_;refine tkS 19 (.bool true) aa ?_;refine tkS 20 (.bool true) aa ?_;simp only [sX];refine dnE ?_ _;go_wp2
    go_ret3
    exact ⟨_,none,0,0,by rw [HE.out];rfl,fun h=>absurd h HP,ae.drew⟩
 ·have HE:Hid (Qbt t=false):=QbY (fun ⟨name,K,hs⟩=>by have e:=QdK hs;rw [e] at hn;simp at hn;omega)
  have HP:Hid (¬ Qca t):=((fun h=>by have:=QcC h;rw [HE.out] at this;exact Bool.noConfusion this):¬ Qca t);have aJ:((n:Int) == 2)=false:=by simp;omega
  have az:((n:Int) != 2)=true:=by simp;omega
  go_enter func118,ntmps118;go_wp2_with fail;refine (QdE t 123 (by omega) (by omega) _).mono ?_;rintro e w1 ⟨g,ab,rfl,hg,ac,ao⟩;rw [hn];clear ac;go_wp2_with fail;refine Qal (fun W'=>True) 21 (by rfl) ?_;refine tkS 0 (.slice (some ⟨g,0,none⟩) n ab) trivial ?_;refine tkS 1 (.int .i64 n) trivial ?_;refine tkS 2 (.bool true) trivial ?_;simp only [sX];refine tkS 3 (.bool true) trivial ?_;refine tkU 4 trivial ?_;refine tkU 5 trivial ?_;simp only [sX];refine tkU 6 trivial ?_;refine tkU 7 trivial ?_;refine tkS 8 (.bool true) trivial ?_;simp only [sX];refine tkS 9 (.bool true) trivial ?_;refine tkU 10 trivial ?_;refine tkU 11 trivial ?_;simp only [sX];refine tkU 12 trivial ?_;refine tkU 13 trivial ?_;refine tkU 14 trivial ?_;simp only [sX];refine tkU 15 trivial ?_;refine tkU 16 trivial ?_;refine tkU 17 trivial ?_;simp only [sX];refine tkU 18 trivial ?_;refine tkU 19 trivial ?_;refine tkS 20 (.bool true) trivial ?_;simp only [sX];refine dnE ?_ _;go_wp2
  go_ret3
  exact ⟨_,none,0,0,by rw [HE.out];rfl,fun h=>absurd h HP,ao.drew⟩
theorem Qdi (t:ByteArray) (hs:t.size<=maxLen) :
  Calls prog 99 #[.string t] w fun e w'=>e=.returned (.bool (Qbt t))/\Bw w w':=by
 unfold maxLen at hs;by_cases h1:20000<t.size
 ·have aa:(20000:Int)<(t.size:Int):=by omega
  have HE:Hid (Qbt t=false):=QbY (fun ⟨name,K,h⟩=>by have:=h.2.2.2.2.1;omega);go_enter func99,ntmps99;go_wp2;go_ret;exact ⟨Qax HE.symm,ZZb _ _⟩
 have aa:¬ (20000:Int)<(t.size:Int):=by omega
 go_enter func99,ntmps99;go_wp2_with fail;refine (QfG t (by omega)).mono ?_;rintro e w1 ⟨nm,ao,n,c,rfl,_,hb⟩;go_wp2;go_ret;exact ⟨rfl,hb⟩
end Go.Proofs.YtlejlgldgafljaaGreatDoor
