/-
 Parts.
-/
import Derived.Test.YtandnmpllheniaaGreatDoorCJE
import Derived.Test.YtandnmpllheniaaGreatDoorCJN
import Derived.Laws.IdiomCopy
import Derived.Deep.DeepCutAuto
set_option linter.all false
set_option maxHeartbeats 8000000
namespace Go.Proofs.YtandnmpllheniaaGreatDoor
open Go.ChangeShapes Go.WideShapes Go.ChangeAt Go.RowKit Go.PlainAid Go.Lib
set_option maxRecDepth 10000
structure Ce where
  n:Int
  s:ByteArray
  g:Ag
  p:Pl
abbrev Qap (c:Ce):Array Value:=#[.int .i64 c.n,.string c.s,.int .i64 c.g.k,.int .u64 c.g.s,.int .i64 c.g.h,.int .u64 c.g.l,.int .i64 c.g.a,.int .i64 c.g.t,.int .u64 c.g.z,.slice c.p.pa c.g.P.length c.p.pc,.slice c.p.na c.g.N.length c.p.nc,.int .i64 c.g.x,.int .u64 c.g.y,.slice c.p.ea c.g.E.length c.p.ec,.slice c.p.ra c.g.R.length c.p.rc]
def Ce.key (c:Ce):Int×ByteArray×Ag:=(c.n,c.s,c.g)
abbrev Qcg (w:World) (b o:Nat) (c:Ce):Prop:=w.cell? ⟨b,o,none⟩=some (.int .i64 c.n)/\w.cell? ⟨b,o+1,none⟩=some (.string c.s)/\w.cell? ⟨b,o+2,none⟩=some (.int .i64 c.g.k)/\w.cell? ⟨b,o+3,none⟩=some (.int .u64 c.g.s)/\w.cell? ⟨b,o+4,none⟩=some (.int .i64 c.g.h)/\w.cell? ⟨b,o+5,none⟩=some (.int .u64 c.g.l)/\w.cell? ⟨b,o+6,none⟩=some (.int .i64 c.g.a)/\w.cell? ⟨b,o+7,none⟩=some (.int .i64 c.g.t)/\w.cell? ⟨b,o+8,none⟩=some (.int .u64 c.g.z)/\w.cell? ⟨b,o+9,none⟩=some (.slice c.p.pa c.g.P.length c.p.pc)/\w.cell? ⟨b,o+10,none⟩=some (.slice c.p.na c.g.N.length c.p.nc)/\w.cell? ⟨b,o+11,none⟩=some (.int .i64 c.g.x)/\w.cell? ⟨b,o+12,none⟩=some (.int .u64 c.g.y)/\w.cell? ⟨b,o+13,none⟩=some (.slice c.p.ea c.g.E.length c.p.ec)/\w.cell? ⟨b,o+14,none⟩=some (.slice c.p.ra c.g.R.length c.p.rc)
theorem Qai {w w':World} {b o:Nat} {c:Ce} (k:Qcg w b o c) (hb:Below w.heap.size w w'):Qcg w' b o c:=by
  obtain ⟨x0,x1,x2,x3,x4,x5,x6,x7,x8,x9,ab,aa,ae,ac,ad⟩:=k;exact ⟨Qab hb x0,Qab hb x1,Qab hb x2,Qab hb x3,Qab hb x4,Qab hb x5,Qab hb x6,Qab hb x7,Qab hb x8,Qab hb x9,Qab hb ab,Qab hb aa,Qab hb ae,Qab hb ac,Qab hb ad⟩
theorem Qq5 {w:World} {b o:Nat} {c:Ce} {cur:Array Value} {T:TypeId} (h:w.heap[b]?=some (.cells cur T (0,0))) (hc:∀ j v,(Qap c)[j]?=some v->cur[o+j]?=some v):Qcg w b o c:=by
  have q:∀ j v,(Qap c)[j]?=some v->w.cell? ⟨b,o+j,none⟩=some v:=fun j v e=>by rw [cell_of_row _ _ _ _ _ (0,0) h];exact hc j v e
  exact ⟨q 0 _ rfl,q 1 _ rfl,q 2 _ rfl,q 3 _ rfl,q 4 _ rfl,q 5 _ rfl,q 6 _ rfl,q 7 _ rfl,q 8 _ rfl,q 9 _ rfl,q 10 _ rfl,q 11 _ rfl,q 12 _ rfl,q 13 _ rfl,q 14 _ rfl⟩
theorem QfF (w:World) (t:TypeId) (c:Ce):Qcg (w.alloc (.cells (Qap c) t)) w.heap.size 0 c:=Qq5 (heap_alloc_new w _) (fun j v e=>by rw [Nat.zero_add];exact e)
def Qb7 (w:World) (ao:Option Addr) (L:List Ce):Prop:=(0<L.length->∃ b off,ao=some ⟨b,off,none⟩/\∀ i c,L[i]?=some c->Qcg w b (off+i*15) c)/\∀ c∈L,AgAt w c.g c.p
theorem Qa1 {w w':World} {ao:Option Addr} {L:List Ce} (h:Qb7 w ao L) (hb:Below w.heap.size w w'):Qb7 w' ao L:=
  ⟨fun h0=>by
    obtain ⟨b,off,e,hc⟩:=h.1 h0;exact ⟨b,off,e,fun i c hx=>Qai (hc i c hx) hb⟩,fun c hc=>Qao (h.2 c hc) hb⟩
structure CesLen (L:List Ce):Prop where
  len:L.length<=maxLen
  s:∀ c∈L,c.s.size<=maxLen
  g:∀ c∈L,AgLen c.g
abbrev Qch:Array Value:=#[.int .i64 0,.string ⟨#[]⟩,.int .i64 0,.int .u64 0,.int .i64 0,.int .u64 0,.int .i64 0,.int .i64 0,.int .u64 0,.slice none 0 0,.slice none 0 0,.int .i64 0,.int .u64 0,.slice none 0 0,.slice none 0 0]
theorem Qay {w:World} {r:Nat} {cs:Array Value} {T:TypeId} (h:w.heap[r]?=some (.cells cs T (0,0))) (j:Nat) {v:Value} (e:cs[j]?=some v):w.cell? ⟨r,j,none⟩=some v:=by rw [cell_of_row _ _ j _ _ (0,0) h];exact e
theorem QoP:(Tryz.prog.info? 51).map (fun i=>(i.zero,i.size,i.bytes))=some (some (.agg Qch),15,192):=by kernel_rfl
structure CeRow (w:World) (g N:Nat) (M:List Ce):Prop where
  row:∃ cur:Array Value,w.heap[g]?=some (.cells cur 51 (0,0))/\N*15<=cur.size/\∀ i c,M[i]?=some c->∀ j v,(Qap c)[j]?=some v->cur[i*15+j]?=some v
  own:∀ c∈M,AgOwn w (g+1) c.g c.p
theorem QnO (w:World) (t:TypeId) (c d:Ce) (W:World) (hb:Below ((w.alloc (.cells (Qap c) t)).alloc (.cells (Qap d) t)).heap.size ((w.alloc (.cells (Qap c) t)).alloc (.cells (Qap d) t)) W):Qcg W w.heap.size 0 c/\Qcg W (w.heap.size+1) 0 d:=by
  refine ⟨Qai (Qai (QfF w t c) ((ZZb _ _).alloc (ZZa _) _)) hb,?_⟩;have:=QfF (w.alloc (.cells (Qap c) t)) t d;exact Qai (by simpa using this) hb
theorem Qk3 {c d:Ce} (h:c.key=d.key):∃ q,d=⟨c.n,c.s,c.g,q⟩:=by
  obtain ⟨n,s,g,p⟩:=c;obtain ⟨n',s',g',p'⟩:=d;simp only [Ce.key,Prod.mk.injEq] at h;obtain ⟨rfl,rfl,rfl⟩:=h;exact ⟨p',rfl⟩
def Qc5 (c d:Ce):Bool:=((c.n == d.n) && (c.s.toList == d.s.toList)) && QaF c.g d.g
def Qbh:List Ce->List Ce->Bool
  | [],[]=>true
  | c :: L,d :: M=>Qc5 c d && Qbh L M
  | _,_=>false
theorem Qhf {L M:List Ce} {k:Nat} {c d:Ce} (hc:L[k]?=some c) (hd:M[k]?=some d):Qbh (L.drop k) (M.drop k)=(Qc5 c d && Qbh (L.drop (k+1)) (M.drop (k+1))):=by
  have h1:=(ZZd.1 hc).1;have h2:=(ZZd.1 hd).1;rw [List.drop_eq_getElem_cons h1,List.drop_eq_getElem_cons h2,(List.getElem?_eq_some_iff.1 hc).2,(List.getElem?_eq_some_iff.1 hd).2]
  rfl
theorem QfG:∀ {L M:List Ce},¬ L.length=M.length->Qbh L M=false
  | [],[],h=>absurd rfl h
  | [],d :: M,_=>rfl
  | c :: L,[],_=>rfl
  | c :: L,d :: M,h=>by
    unfold Qbh;rw [QfG (by simpa using h)];simp
def csB (L M:List Ce):Bool:=decide (L.length<=400) && decide (M.length<=400) && Qbh L M
theorem Qoo {c d c' d':Ce} (h:c.key=c'.key) (k:d.key=d'.key):Qc5 c d=Qc5 c' d':=by
  obtain ⟨q,rfl⟩:=Qk3 h;obtain ⟨q',rfl⟩:=Qk3 k
  rfl
theorem QhS:∀ {L M L' M':List Ce},L.map Ce.key=L'.map Ce.key->M.map Ce.key=M'.map Ce.key->Qbh L M=Qbh L' M'
  | [],[],[],[],_,_=>rfl
  | [],d :: M,[],d' :: M',_,_=>rfl
  | c :: L,[],c' :: L',[],_,_=>rfl
  | c :: L,d :: M,c' :: L',d' :: M',h,k=>by
    simp only [List.map_cons,List.cons.injEq] at h k;unfold Qbh;rw [Qoo h.1 k.1,QhS h.2 k.2]
  | [],_,_ :: _,_,h,_=>by simp at h
  | _ :: _,_,[],_,h,_=>by simp at h
  | _,[],_,_ :: _,_,k=>by simp at k
  | _,_ :: _,_,[],_,k=>by simp at k
theorem QqC {L M L' M':List Ce} (h:L.map Ce.key=L'.map Ce.key) (k:M.map Ce.key=M'.map Ce.key):csB L M=csB L' M':=by
  have e1:L.length=L'.length:=by have:=congrArg List.length h;simpa using this
  have e2:M.length=M'.length:=by have:=congrArg List.length k;simpa using this
  unfold csB;rw [e1,e2,QhS h k]
theorem QfA (c:Ce) (w:World):Calls Tryz.prog 53 #[.agg (Qap c)] w fun e w'=>e=.returned (.agg #[.int .i64 c.n,.string c.s])/\Below w.heap.size w w':=by
  go_enter Tryz.func53,Tryz.ntmps53;go_wp2;refine bodyPost_ret (v:=.agg #[.int .i64 c.n,.string c.s]) (by simp [results,Tryz.results53,go_sem]) rfl ⟨rfl,?_⟩
  first
    | exact ((Below.refl _ _).alloc (Nat.le_refl _) _).alloc (by simp) _
    | (repeat (refine Below.setCell ?_ (by simp) _)
       exact ((Below.refl _ _).alloc (Nat.le_refl _) _).alloc (by simp) _)
theorem Qmv {w:World} (c d:Ce) (sm:AgSm c.g) (sm':AgSm d.g) (hA:AgAt w c.g c.p) (hB:AgAt w d.g d.p) :
    Calls Tryz.prog 57 #[.agg (Qap c),.agg (Qap d)] w fun e w'=>e=.returned (.bool (Qc5 c d))/\Below w.heap.size w w':=by
  have HA:=Qaa hA;have HB:=Qaa hB;have SM:=Qaa sm;have aw:=Qaa sm';have av:Hid (∀ o1 o2,Below w.heap.size w ((w.alloc o1).alloc o2)):=fun o1 o2=>((Below.refl _ _).alloc (Nat.le_refl _) _).alloc (by simp) _;clear hA hB sm sm';go_enter Tryz.func57,Tryz.ntmps57;go_wp2_with fail;generalize hW0:(w.alloc (Obj.cells (Qap c) 51)).alloc (Obj.cells (Qap d) 51)=W0;have T0:Below w.heap.size w W0:=by rw [<- hW0];exact av.out _ _
  have hC:∀ W,Below W0.heap.size W0 W->Qcg W w.heap.size 0 c/\Qcg W (w.heap.size+1) 0 d:=fun W hW=>QnO w 51 c d W (by rw [hW0];exact hW);have HC:=Qaa hC;have an:=Qaa T0;clear hW0 hC T0;have ao:(fun W=>Below W0.heap.size W0 W) W0.drew:=(ZZb _ _).drew;refine Qaj (fun W=>Below W0.heap.size W0 W) 13 (by kernel_rfl) ?_;refine tkL 0 (.agg (Qap c)) ao (fun W hW=>?_) ?_
  · obtain ⟨⟨x0,x1,x2,x3,x4,x5,x6,x7,x8,x9,al,af,ai,ac,ae⟩,⟨y0,y1,y2,y3,y4,y5,y6,y7,y8,y9,ad,aj,ah,ag,ak⟩⟩:=HC.out W hW
    simp only [Nat.zero_add] at x0 x1 x2 x3 x4 x5 x6 x7 x8 x9 al af ai ac ae y0 y1 y2 y3 y4 y5 y6 y7 y8 y9 ad aj ah ag ak;clear hW;go_simp
  refine tkL 2 (.agg (Qap d)) ao (fun W hW=>?_) ?_
  · obtain ⟨⟨x0,x1,x2,x3,x4,x5,x6,x7,x8,x9,al,af,ai,ac,ae⟩,⟨y0,y1,y2,y3,y4,y5,y6,y7,y8,y9,ad,aj,ah,ag,ak⟩⟩:=HC.out W hW
    simp only [Nat.zero_add] at x0 x1 x2 x3 x4 x5 x6 x7 x8 x9 al af ai ac ae y0 y1 y2 y3 y4 y5 y6 y7 y8 y9 ad aj ah ag ak;clear hW;go_simp
  simp only [sX];refine onE 1 fun K hK=>?_;go_simp;refine (QfA c _).mono ?_;rintro e w1 ⟨rfl,ar⟩;have aq:Hid (Below W0.heap.size W0 w1):=(ao:Below W0.heap.size W0 _).trans (ar.mono (ZZa _));clear ar
  try dsimp only
  refine gK hK aq.out ?_
  try simp only [sX]
  refine onE 3 fun K hK=>?_;go_simp;refine (QfA d _).mono ?_;rintro e w2 ⟨rfl,au⟩;have aa:=Qaa (Qac aq au);clear au
  try dsimp only
  refine gK hK aa.out ?_
  try simp only [sX]
  by_cases ab:(c.n == d.n)=true/\(c.s.toList == d.s.toList)=true
  · obtain ⟨k1,k2⟩:=ab
    have HE:Hid (QaF c.g d.g=Qc5 c d):=by unfold Qc5;rw [k1,k2];exact Qaa rfl
    refine tkS 4 (.bool true) aa ?_;refine tkS 5 (.bool true) aa ?_;refine tkS 6 (.pointer (some ⟨w.heap.size,2,none⟩)) aa ?_;simp only [sX];refine tkL 7 (.agg (Qak c.g c.p)) aa (fun W hW=>?_) ?_
    · obtain ⟨⟨x0,x1,x2,x3,x4,x5,x6,x7,x8,x9,al,af,ai,ac,ae⟩,⟨y0,y1,y2,y3,y4,y5,y6,y7,y8,y9,ad,aj,ah,ag,ak⟩⟩:=HC.out W hW
      simp only [Nat.zero_add] at x0 x1 x2 x3 x4 x5 x6 x7 x8 x9 al af ai ac ae y0 y1 y2 y3 y4 y5 y6 y7 y8 y9 ad aj ah ag ak;clear hW;go_simp
    refine tkS 8 (.pointer (some ⟨w.heap.size+1,2,none⟩)) aa ?_;refine tkL 9 (.agg (Qak d.g d.p)) aa (fun W hW=>?_) ?_
    · obtain ⟨⟨x0,x1,x2,x3,x4,x5,x6,x7,x8,x9,al,af,ai,ac,ae⟩,⟨y0,y1,y2,y3,y4,y5,y6,y7,y8,y9,ad,aj,ah,ag,ak⟩⟩:=HC.out W hW
      simp only [Nat.zero_add] at x0 x1 x2 x3 x4 x5 x6 x7 x8 x9 al af ai ac ae y0 y1 y2 y3 y4 y5 y6 y7 y8 y9 ad aj ah ag ak;clear hW;go_simp
    simp only [sX];refine onE 10 fun K hK=>?_;rw [if_pos (by rfl)];go_simp;refine (Qcx (g:=c.g) (p:=c.p) (g':=d.g) (p':=d.p) SM aw (Qao HA (Qac an aa)) (Qao HB (Qac an aa))).mono ?_;rintro e w3 ⟨rfl,ap⟩;have am:=Qaa (Qac aa ap);clear ap
    try dsimp only
    refine gK hK am.out ?_
    try simp only [sX]
    refine tkS 11 (.bool (QaF c.g d.g)) am ?_;simp only [sX];refine onE 12 fun K hK=>?_;go_simp;refine gK hK am.out ?_
    try simp only [sX]
    refine dnE ?_ _;go_wp2;go_ret;exact ⟨by rw [<- HE.out];rfl,Qac an am⟩
  · have ax:((c.n == d.n) && (c.s.toList == d.s.toList))=false:=by
      cases e1:(c.n == d.n) with
      | false=>rfl
      | true=>
        cases e2:(c.s.toList == d.s.toList) with
        | false=>rfl
        | true=>exact absurd ⟨e1,e2⟩ ab
    have HE:Hid (false=Qc5 c d):=by unfold Qc5;rw [ax];exact Qaa rfl
    refine tkL 4 (.bool false) aa (fun W hW=>?_) ?_
    · clear hW
      go_simp;exact fun e1 e2=>ab ⟨by simp [e1],by simp [e2]⟩
    refine tkS 5 (.bool false) aa ?_;refine tkU 6 aa ?_;simp only [sX];refine tkU 7 aa ?_;refine tkU 8 aa ?_;refine tkU 9 aa ?_;simp only [sX];refine onE 10 fun K hK=>?_;refine Eq.mpr (if_neg (fun h=>Bool.noConfusion (show false=true from h))) ?_;refine gK hK aa.out ?_
    try simp only [sX]
    refine tkS 11 (.bool false) aa ?_;simp only [sX];refine onE 12 fun K hK=>?_;go_simp;refine gK hK aa.out ?_
    try simp only [sX]
    refine dnE ?_ _;go_wp2;go_ret;exact ⟨by rw [<- HE.out];rfl,Qac an aa⟩
theorem QdT {a b:Bool} (h:a=b):Ending.returned (.bool a)=.returned (.bool b):=by rw [h]
theorem Qjb {w:World} {ao bo:Option Addr} {N M ca cb:Nat} {L K:List Ce} (hN:L.length=N) (hM:K.length=M) (lN:N<=1048576) (lM:M<=1048576) (sm:∀ c∈L,AgSm c.g) (sm':∀ c∈K,AgSm c.g) (hA:Qb7 w ao L) (hB:Qb7 w bo K) :
    Calls Tryz.prog 56 #[.slice ao N ca,.slice bo M cb,.func (.func 57) #[] #[]] w fun e w'=>e=.returned (.bool (Qbh L K))/\Below w.heap.size w w':=by
  have HN:=Qaa hN;have HM:=Qaa hM;have SM:=Qaa sm;have ai:=Qaa sm';have HA:=Qaa hA;have HB:=Qaa hB;clear hN hM sm sm' hA hB;by_cases aw:N=M
  · subst aw
    go_enter Tryz.func56,Tryz.ntmps56;go_wp2
    go_loopw [17] (fun i wr=>∃ k:Nat,k<=N/\i=.int .i64 k/\Hid (Qbh (L.drop k) (K.drop k)=Qbh L K)/\Hid (Below w.heap.size w wr)) (fun i wr=>N - (Go.RowKit.intOf i).toNat)
    case atStart=>exact ⟨0,ZZj _,rfl,Qaa rfl,ZZb _ _⟩
    case round=>
      obtain ⟨k,hk,rfl,HE,ac⟩:=hrel;by_cases az:k<N
      · have aj:(k:Int)<(N:Int):=by omega
        obtain ⟨b,aA,e,ab⟩:=HA.out.1 (by have:=HN.out;omega);subst e;obtain ⟨b',au,e,aa⟩:=HB.out.1 (by have:=HM.out;omega);subst e;obtain ⟨c,hc⟩:∃ c,L[k]?=some c:=⟨L[k]'(by have:=HN.out;omega),ZZe _⟩;obtain ⟨d,hd⟩:∃ d,K[k]?=some d:=⟨K[k]'(by have:=HM.out;omega),ZZe _⟩;have HS:=Qaa (Qhf hc hd);have hm:=ZZn hc;have ae:=ZZn hd;obtain ⟨x0,x1,x2,x3,x4,x5,x6,x7,x8,x9,ax,ah,ap,ak,ay⟩:=Qai (ab k c hc) ac;obtain ⟨y0,y1,y2,y3,y4,y5,y6,y7,y8,y9,av,aq,am,al,ar⟩:=Qai (Qai (aa k d hd) ac) ((ZZb _ _).alloc (ZZa _) (.cells (Qap c) 51));have ad:=Qaa (And.intro hm ae);clear ab aa hc hd hm ae;go_wp2_with fail;clear x0 x1 x2 x3 x4 x5 x6 x7 x8 x9 ax ah ap ak ay y0 y1 y2 y3 y4 y5 y6 y7 y8 y9 av aq am al ar;have hW:∀ o1 o2,Below wr.heap.size wr ((wr.alloc o1).alloc o2):=fun o1 o2=>((Below.refl _ _).alloc (Nat.le_refl _) _).alloc (by simp) _;refine (Qmv c d (SM.out c ad.out.1) (ai.out d ad.out.2) (Qao (HA.out.2 c ad.out.1) (Qac ac (hW _ _))) (Qao (HB.out.2 d ad.out.2) (Qac ac (hW _ _)))).mono ?_;rintro e w1 ⟨rfl,af⟩;have ag:=Qaa (Qac (Qac ac (hW _ _)) af);clear af hW
        cases hq:Qc5 c d with
        | false=>
          have HF:Hid (false=Qbh L K):=by rw [<- HE.out,HS.out,hq];exact Qaa rfl
          go_wp2;go_ret;exact ⟨QdT HF,ag⟩
        | true=>
          have an:Hid (Qbh (L.drop (k+1)) (K.drop (k+1))=Qbh L K):=by
            have:=HE.out;rw [HS.out,hq,Bool.true_and] at this;exact this
          go_wp2;go_roundw
          case rel=>exact ⟨k+1,by omega,by go_num,an,ag⟩
          case measure=>simp [zI];omega
      · obtain rfl:N=k:=by omega
        have HF:Hid (true=Qbh L K):=by
          rw [<- HE.out,List.drop_eq_nil_of_le (by have:=HN.out;omega),List.drop_eq_nil_of_le (by have:=HM.out;omega)];exact Qaa rfl
        go_wp2;go_ret;exact ⟨QdT HF,ac⟩
  · have HF:Hid (false=Qbh L K):=(QfG (by have:=HN.out;have:=HM.out;omega)).symm
    have hb:((N:Int) != (M:Int))=true:=by simp;omega
    go_enter Tryz.func56,Tryz.ntmps56;go_wp2;go_ret;exact ⟨QdT HF,ZZb _ _⟩
theorem Qik {w:World} {ao bo:Option Addr} {N M ca cb:Nat} {L K:List Ce} (hN:L.length=N) (hM:K.length=M) (lN:N<=1048576) (lM:M<=1048576) (sm:∀ c∈L,AgSm c.g) (sm':∀ c∈K,AgSm c.g) (hA:Qb7 w ao L) (hB:Qb7 w bo K) :
    Calls Tryz.prog 18 #[.slice ao N ca,.slice bo M cb] w fun e w'=>e=.returned (.bool (csB L K))/\Below w.heap.size w w':=by
  have HC:=Qaa (Qjb (ca:=ca) (cb:=cb) hN hM lN lM sm sm' hA hB);have HE:Hid (csB L K=(decide (N<=400) && decide (M<=400) && Qbh L K)):=by unfold csB;rw [hN,hM];exact Qaa rfl
  clear hN hM sm sm' hA hB;by_cases h1:N<=400
  · have d1:decide ((400:Int)<(N:Int))=false:=ZZg (by omega)
    by_cases h2:M<=400
    · have d2:decide ((400:Int)<(M:Int))=false:=ZZg (by omega)
      have HF:Hid (Qbh L K=csB L K):=by rw [HE.out,decide_eq_true h1,decide_eq_true h2];exact Qaa rfl
      go_enter Tryz.func18,Tryz.ntmps18;go_wp2_with fail;refine HC.out.mono ?_;rintro e w1 ⟨rfl,aa⟩;have ab:=Qaa aa;clear aa;go_wp2;go_ret;exact ⟨QdT HF,ab⟩
    · have d2:decide ((400:Int)<(M:Int))=true:=ZZh (by omega)
      have HF:Hid (false=csB L K):=by rw [HE.out,decide_eq_false h2];simp;exact Qaa trivial
      go_enter Tryz.func18,Tryz.ntmps18;go_wp2;go_ret;exact ⟨QdT HF,ZZb _ _⟩
  · have d1:decide ((400:Int)<(N:Int))=true:=ZZh (by omega)
    have HF:Hid (false=csB L K):=by rw [HE.out,decide_eq_false h1];simp;exact Qaa trivial
    go_enter Tryz.func18,Tryz.ntmps18;go_wp2;go_ret;exact ⟨QdT HF,ZZb _ _⟩
theorem Qfd {w:World} {ao bo:Option Addr} {N M ca cb:Nat} {L K:List Ce} (hN:L.length=N) (hM:K.length=M) (lN:N<=1048576) (lM:M<=1048576) (sm:∀ c∈L,AgSm c.g) (sm':∀ c∈K,AgSm c.g) (hA:Qb7 w ao L) (hB:Qb7 w bo K) :
    Calls Tryz.prog 10 #[.slice ao N ca,.slice bo M cb] w fun e w'=>e=.returned (.bool (csB L K))/\Below w.heap.size w w':=by
  have HE:Hid (csB L K=(decide (N<=400) && decide (M<=400) && Qbh L K)):=by unfold csB;rw [hN,hM];exact Qaa rfl
  have HN:=Qaa hN;have HM:=Qaa hM;have SM:=Qaa sm;have aC:=Qaa sm';have HA:=Qaa hA;have HB:=Qaa hB;clear hN hM sm sm' hA hB;by_cases h1:N<=400
  · have d1:decide ((400:Int)<(N:Int))=false:=ZZg (by omega)
    by_cases h2:M<=400
    · have d2:decide ((400:Int)<(M:Int))=false:=ZZg (by omega)
      by_cases aB:N=M
      · subst aB
        have HF:Hid (Qbh L K=csB L K):=by rw [HE.out,decide_eq_true h1];exact Qaa rfl
        go_enter Tryz.func10,Tryz.ntmps10;go_wp2
        go_loopw [5] (fun i wr=>∃ k:Nat,k<=N/\i=.int .i64 k/\Hid (Qbh (L.drop k) (K.drop k)=Qbh L K)/\Hid (Below w.heap.size w wr)) (fun i wr=>N - (Go.RowKit.intOf i).toNat)
        case atStart=>exact ⟨0,ZZj _,rfl,Qaa rfl,ZZb _ _⟩
        case round=>
          obtain ⟨k,hk,rfl,aw,ae⟩:=hrel;by_cases aE:k<N
          · have aA:(k:Int)<(N:Int):=by omega
            obtain ⟨b,ad,e,af⟩:=HA.out.1 (by have:=HN.out;omega);subst e;obtain ⟨b',ab,e,ac⟩:=HB.out.1 (by have:=HM.out;omega);subst e;obtain ⟨c,hc⟩:∃ c,L[k]?=some c:=⟨L[k]'(by have:=HN.out;omega),ZZe _⟩;obtain ⟨d,hd⟩:∃ d,K[k]?=some d:=⟨K[k]'(by have:=HM.out;omega),ZZe _⟩;have HS:=Qaa (Qhf hc hd);have hm:=ZZn hc;have ax:=ZZn hd;have hC:∀ W,Below wr.heap.size wr W->Qcg W b (ad+k*15) c/\Qcg W b' (ab+k*15) d:=fun W hW=>⟨Qai (af k c hc) (Qac ae hW),Qai (ac k _ hd) (Qac ae hW)⟩;have HC:=Qaa hC;have ar:=Qaa (And.intro hm ax);clear af ac hc hd hm ax hC;go_upto_region 6 with fail
            go_cut [64] (fun v w'=>v=.bool (!Qc5 c d)/\Hid (Below w.heap.size w w'))
            case first=>
              have aa:(fun W=>Below wr.heap.size wr W) wr.drew:=(ZZb _ _).drew;refine Qaj (fun W=>Below wr.heap.size wr W) 38 (by kernel_rfl) ?_;refine tkS 0 (.slice (some ⟨b,ad,none⟩) N ca) aa ?_;refine tkS 1 (.int .i64 (k:Int)) aa ?_;refine tkS 2 (.pointer (some ⟨b,ad+k*15,none⟩)) aa ?_;simp only [sX];refine tkS 3 (.pointer (some ⟨b,ad+k*15,none⟩)) aa ?_;refine tkL 4 (.int .i64 c.n) aa (fun W hW=>?_) ?_
              · obtain ⟨⟨x0,x1,x2,x3,x4,x5,x6,x7,x8,x9,aq,aj,am,ag,ai⟩,⟨y0,y1,y2,y3,y4,y5,y6,y7,y8,y9,ah,an,al,ak,ap⟩⟩:=HC.out W hW
                clear hW;go_simp
              refine tkS 5 (.slice (some ⟨b',ab,none⟩) N cb) aa ?_;simp only [sX];refine tkS 6 (.int .i64 (k:Int)) aa ?_;refine tkS 7 (.pointer (some ⟨b',ab+k*15,none⟩)) aa ?_;refine tkS 8 (.pointer (some ⟨b',ab+k*15,none⟩)) aa ?_;simp only [sX];refine tkL 9 (.int .i64 d.n) aa (fun W hW=>?_) ?_
              · obtain ⟨⟨x0,x1,x2,x3,x4,x5,x6,x7,x8,x9,aq,aj,am,ag,ai⟩,⟨y0,y1,y2,y3,y4,y5,y6,y7,y8,y9,ah,an,al,ak,ap⟩⟩:=HC.out W hW
                clear hW;go_simp
              simp only [sX];by_cases hn:c.n=d.n
              · have b1:(c.n != d.n)=false:=by simp [hn]
                refine tkS 10 (.bool false) aa ?_;refine tkS 11 (.bool false) aa ?_;refine tkS 12 (.slice (some ⟨b,ad,none⟩) N ca) aa ?_;simp only [sX];refine tkS 13 (.int .i64 (k:Int)) aa ?_;refine tkS 14 (.pointer (some ⟨b,ad+k*15,none⟩)) aa ?_;refine tkS 15 (.pointer (some ⟨b,ad+k*15+1,none⟩)) aa ?_;simp only [sX];refine tkL 16 (.string c.s) aa (fun W hW=>?_) ?_
                · obtain ⟨⟨x0,x1,x2,x3,x4,x5,x6,x7,x8,x9,aq,aj,am,ag,ai⟩,⟨y0,y1,y2,y3,y4,y5,y6,y7,y8,y9,ah,an,al,ak,ap⟩⟩:=HC.out W hW
                  clear hW;go_simp
                refine tkS 17 (.slice (some ⟨b',ab,none⟩) N cb) aa ?_;refine tkS 18 (.int .i64 (k:Int)) aa ?_;simp only [sX];refine tkS 19 (.pointer (some ⟨b',ab+k*15,none⟩)) aa ?_;refine tkS 20 (.pointer (some ⟨b',ab+k*15+1,none⟩)) aa ?_;refine tkL 21 (.string d.s) aa (fun W hW=>?_) ?_
                · obtain ⟨⟨x0,x1,x2,x3,x4,x5,x6,x7,x8,x9,aq,aj,am,ag,ai⟩,⟨y0,y1,y2,y3,y4,y5,y6,y7,y8,y9,ah,an,al,ak,ap⟩⟩:=HC.out W hW
                  clear hW;go_simp
                simp only [sX]
                cases hs:(c.s.toList == d.s.toList) with
                | true=>
                  have b2:(c.s.toList != d.s.toList)=false:=by simp [bne,hs]
                  have HR:Hid ((!Qc5 c d)=(!QaF c.g d.g)):=by unfold Qc5;rw [hs,show (c.n == d.n)=true by simp [hn]];exact Qaa rfl
                  refine tkS 22 (.bool false) aa ?_;refine tkS 23 (.bool false) aa ?_;refine tkS 24 (.bool false) aa ?_;simp only [sX];refine tkS 25 (.slice (some ⟨b,ad,none⟩) N ca) aa ?_;refine tkS 26 (.int .i64 (k:Int)) aa ?_;refine tkS 27 (.pointer (some ⟨b,ad+k*15,none⟩)) aa ?_;simp only [sX];refine tkS 28 (.pointer (some ⟨b,ad+k*15+2,none⟩)) aa ?_;refine tkL 29 (.agg (Qak c.g c.p)) aa (fun W hW=>?_) ?_
                  · obtain ⟨⟨x0,x1,x2,x3,x4,x5,x6,x7,x8,x9,aq,aj,am,ag,ai⟩,⟨y0,y1,y2,y3,y4,y5,y6,y7,y8,y9,ah,an,al,ak,ap⟩⟩:=HC.out W hW
                    clear hW;go_simp
                  refine tkS 30 (.slice (some ⟨b',ab,none⟩) N cb) aa ?_;simp only [sX];refine tkS 31 (.int .i64 (k:Int)) aa ?_;refine tkS 32 (.pointer (some ⟨b',ab+k*15,none⟩)) aa ?_;refine tkS 33 (.pointer (some ⟨b',ab+k*15+2,none⟩)) aa ?_;simp only [sX];refine tkL 34 (.agg (Qak d.g d.p)) aa (fun W hW=>?_) ?_
                  · obtain ⟨⟨x0,x1,x2,x3,x4,x5,x6,x7,x8,x9,aq,aj,am,ag,ai⟩,⟨y0,y1,y2,y3,y4,y5,y6,y7,y8,y9,ah,an,al,ak,ap⟩⟩:=HC.out W hW
                    clear hW;go_simp
                  simp only [sX];refine onE 35 fun K hK=>?_;rw [if_pos (by rfl)];go_simp;refine (QkJ (g:=c.g) (p:=c.p) (g':=d.g) (p':=d.p) (SM.out c ar.out.1) (aC.out d ar.out.2) (Qao (HA.out.2 c ar.out.1) (Qac ae aa)) (Qao (HB.out.2 d ar.out.2) (Qac ae aa))).mono ?_;rintro e w1 ⟨rfl,ay⟩;have au:Hid (Below wr.heap.size wr w1):=(aa:Below wr.heap.size wr _).trans (ay.mono (ZZa _));clear ay
                  try dsimp only
                  refine gK hK au.out ?_
                  try simp only [sX]
                  refine tkS 36 (.bool (!QaF c.g d.g)) au ?_;refine tkS 37 (.bool (!QaF c.g d.g)) au ?_;simp only [sX];refine dnE ?_ _;go_wp2;go_meet;exact ⟨by rw [HR.out],Qaa (Qac ae au)⟩
                | false=>
                  have b2:(c.s.toList != d.s.toList)=true:=by simp [bne,hs]
                  have HR:Hid ((!Qc5 c d)=true):=by unfold Qc5;rw [hs];simp;exact Qaa trivial
                  refine tkS 22 (.bool true) aa ?_;refine tkS 23 (.bool true) aa ?_;refine tkS 24 (.bool true) aa ?_;simp only [sX];refine tkU 25 aa ?_;refine tkU 26 aa ?_;refine tkU 27 aa ?_;simp only [sX];refine tkU 28 aa ?_;refine tkU 29 aa ?_;refine tkU 30 aa ?_;simp only [sX];refine tkU 31 aa ?_;refine tkU 32 aa ?_;refine tkU 33 aa ?_;simp only [sX];refine tkU 34 aa ?_;simp only [sX];refine onE 35 fun K hK=>?_;refine Eq.mpr (if_neg (fun h=>Bool.noConfusion (show false=true from h))) ?_;refine gK hK aa ?_
                  try simp only [sX]
                  refine tkU 36 aa ?_;refine tkS 37 (.bool true) aa ?_;simp only [sX];refine dnE ?_ _;go_wp2;go_meet;exact ⟨by rw [HR.out],Qaa (Qac ae aa)⟩
              · have b1:(c.n != d.n)=true:=by simp [hn]
                have HR:Hid ((!Qc5 c d)=true):=by unfold Qc5;rw [show (c.n == d.n)=false by simp [hn]];simp;exact Qaa trivial
                refine tkS 10 (.bool true) aa ?_;refine tkS 11 (.bool true) aa ?_;refine tkU 12 aa ?_;simp only [sX];refine tkU 13 aa ?_;refine tkU 14 aa ?_;refine tkU 15 aa ?_;simp only [sX];refine tkU 16 aa ?_;refine tkU 17 aa ?_;refine tkU 18 aa ?_;simp only [sX];refine tkU 19 aa ?_;refine tkU 20 aa ?_;refine tkU 21 aa ?_;simp only [sX];refine tkU 22 aa ?_;refine tkS 23 (.bool true) aa ?_;refine tkS 24 (.bool true) aa ?_;simp only [sX];refine tkU 25 aa ?_;refine tkU 26 aa ?_;refine tkU 27 aa ?_;simp only [sX];refine tkU 28 aa ?_;refine tkU 29 aa ?_;refine tkU 30 aa ?_;simp only [sX];refine tkU 31 aa ?_;refine tkU 32 aa ?_;refine tkU 33 aa ?_;simp only [sX];refine tkU 34 aa ?_;simp only [sX];refine onE 35 fun K hK=>?_;refine Eq.mpr (if_neg (fun h=>Bool.noConfusion (show false=true from h))) ?_;refine gK hK aa ?_
                try simp only [sX]
                refine tkU 36 aa ?_;refine tkS 37 (.bool true) aa ?_;simp only [sX];refine dnE ?_ _;go_wp2;go_meet;exact ⟨by rw [HR.out],Qaa (Qac ae aa)⟩
            case rest=>
              obtain ⟨rfl,az⟩:=hcut
              cases hq:Qc5 c d with
              | false=>
                have av:Hid (false=csB L K):=by rw [<- HF.out,<- aw.out,HS.out,hq];exact Qaa rfl
                go_wp2;go_ret;exact ⟨QdT av,az⟩
              | true=>
                have aD:Hid (Qbh (L.drop (k+1)) (K.drop (k+1))=Qbh L K):=by
                  have:=aw.out;rw [HS.out,hq,Bool.true_and] at this;exact this
                go_wp2;go_roundw
                case rel=>exact ⟨k+1,by omega,by go_num,aD,az⟩
                case measure=>simp [zI];omega
          · obtain rfl:N=k:=by omega
            have av:Hid (true=csB L K):=by
              rw [<- HF.out,<- aw.out,List.drop_eq_nil_of_le (by have:=HN.out;omega),List.drop_eq_nil_of_le (by have:=HM.out;omega)];exact Qaa rfl
            go_wp2;go_ret;exact ⟨QdT av,ae⟩
      · have HF:Hid (false=csB L K):=by rw [HE.out,QfG (by have:=HN.out;have:=HM.out;omega)];simp;exact Qaa trivial
        have hb:((N:Int) != (M:Int))=true:=by simp;omega
        go_enter Tryz.func10,Tryz.ntmps10;go_wp2;go_ret;exact ⟨QdT HF,ZZb _ _⟩
    · have d2:decide ((400:Int)<(M:Int))=true:=ZZh (by omega)
      have HF:Hid (false=csB L K):=by rw [HE.out,decide_eq_false h2];simp;exact Qaa trivial
      go_enter Tryz.func10,Tryz.ntmps10;go_wp2;go_ret;exact ⟨QdT HF,ZZb _ _⟩
  · have d1:decide ((400:Int)<(N:Int))=true:=ZZh (by omega)
    have HF:Hid (false=csB L K):=by rw [HE.out,decide_eq_false h1];simp;exact Qaa trivial
    go_enter Tryz.func10,Tryz.ntmps10;go_wp2;go_ret;exact ⟨QdT HF,ZZb _ _⟩
end Go.Proofs.YtandnmpllheniaaGreatDoor
