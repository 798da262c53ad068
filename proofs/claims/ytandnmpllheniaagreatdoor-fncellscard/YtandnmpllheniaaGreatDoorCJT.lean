/-
 Parts.
-/
import Derived.Test.YtandnmpllheniaaGreatDoorCJQ
import Derived.Laws.OwnMore
set_option linter.all false
set_option maxHeartbeats 8000000
set_option maxRecDepth 10000
namespace Go.Proofs.YtandnmpllheniaaGreatDoor
open Go.ChangeShapes Go.WideShapes Go.ChangeAt Go.RowKit Go.PlainAid Go.Lib
def QcA (x:Int) (L:List Bn):Int:=L.foldl (fun s y=>Qar s y.2) x
theorem Qit {x:Int} (hx:U64 x):∀ {L:List Bn},(∀ y∈L,Qa8 y)->U64 (QcA x L)
 | [],_=>hx
 | y :: r,h=>by
  have hy:=(h y (List.mem_cons_self ..)).2;have:U64 (Qar x y.2):=by unfold Qar;unfold U64 at *; split <;> omega
  exact Qit this (fun z hz=>h z (ZZm _ hz))
theorem QhO {x:Int} {L:List Bn} {j:Nat} {y:Bn} (h:L[j]?=some y):QcA x (L.take (j+1))=Qar (QcA x (L.take j)) y.2:=by
 rw [List.take_add_one,h];simp [QcA,List.foldl_append]
def Qan (L:List Bn):List Bn:=if L.length<=30 then L else match L.drop (L.length - 30) with
 | []=>[]
 | x :: r=>(x.1,QcA x.2 (L.take (L.length - 30))) :: r
def OwnB (w:World) (B:Nat) (v:Value) (n:Nat) (L:List Bn):Prop:=n=L.length/\((v=.slice none 0 0/\n=0)∨∃ b off c cur,v=.slice (some ⟨b,off,none⟩) n c/\B<=b/\w.heap[b]?=some (.cells cur 199 (0,0))/\(∀ (j:Nat) (q:Value),(fl QaL L)[j]?=some q->cur[off+j]?=some q)/\n<=c/\c<=maxLen/\off+c*2<=cur.size)
theorem OwnB.past {w w':World} {B:Nat} {v:Value} {n:Nat} {L:List Bn} (h:OwnB w B v n L) (hb:Below w.heap.size w w'):OwnB w' B v n L:=by
 refine ⟨h.1,?_⟩;rcases h.2 with h | ⟨b,ab,c,aa,e,h1,h2,h3⟩
 ·exact .inl h
 ·exact .inr ⟨b,ab,c,aa,e,h1,by rw [hb.block b (Array.getElem?_eq_some_iff.1 h2).1];exact h2,h3⟩
theorem OwnB.any {w:World} {B:Nat} {v:Value} {n:Nat} {L:List Bn} (h:OwnB w B v n L):∃ ao c,v=.slice ao n c:=by
 rcases h.2 with ⟨e,e2⟩ | ⟨b,ab,c,aa,e,_⟩
 ·subst e2;exact ⟨_,_,e⟩
 ·exact ⟨_,_,e⟩
theorem OwnB.at {w:World} {B:Nat} {n c:Nat} {ao:Option Addr} {L:List Bn} (h:OwnB w B (.slice ao n c) n L):QaA w ao L:=fun h0=>by
 rcases h.2 with ⟨e,e2⟩ | ⟨b,off,c,cur,e,h1,h2,h3⟩
 ·have:=h.1;omega
 ·cases e
  refine ⟨b,off,rfl,fun i x hx=>?_⟩;have e0:=Qi7 Qbx L i x 0 (by omega) hx;have e1:=Qi7 Qbx L i x 1 (by omega) hx;rw [Nat.add_zero] at e0;exact ⟨by rw [cell_of_row w b _ _ _ (0,0) h2];exact h3.1 _ _ e0,by rw [cell_of_row w b _ _ _ (0,0) h2,Nat.add_assoc];exact h3.1 _ _ e1⟩
theorem OwnB.of {w:World} {B:Nat} {v:Value} {n:Nat} {L:List Bn} (h:w.ownsRow B 199 2 v n (fl QaL L)) (hn:n=L.length):OwnB w B v n L:=by
 refine ⟨hn,?_⟩;rcases h.2 with ⟨e,e2⟩ | ⟨g,ab,aa,e,h1,h2,h3,h4,h5,h6⟩
 ·exact .inl ⟨e,e2⟩
 ·refine .inr ⟨g,0,ab,aa,e,h1,h2,fun j q hq=>?_,h3,h4,by omega⟩
  rw [<- h6,List.getElem?_take] at hq
  split at hq
  ·rw [Nat.zero_add];rwa [Array.getElem?_toList] at hq
  ·cases hq
theorem Qk6 {L:List Bn} {k:Nat} {x:Bn} (h:L[k]?=some x):L.set k x=L:=by
 refine List.ext_getElem? fun j=>?_;by_cases e:k=j
 ·subst e;rw [List.getElem?_set_self (List.getElem?_eq_some_iff.1 h).1,h]
 ·rw [List.getElem?_set_ne e]
theorem c_keep {w:World} {B g n:Nat} {v:Value} {L:List Bn} (hok:∀ x∈L,Qa8 x) (hl:n<=500) (h:Gat w B g v n L) :
  Calls Tryz.prog 298 #[.pointer (some ⟨g,0,none⟩),.int .i64 30] w fun e w'=>∃ r v' n',e=.returned r/\w'.heap[g]?=some (.cells #[v',fnPl,QqN] 310 (0,0))/\OwnB w' B v' n' (Qan L)/\Below B w w':=by
 obtain ⟨c0,cG⟩:=h.cells;have HH:=Qaa h;have HK:=Qaa hok;obtain ⟨ao,cc,rfl⟩:=Qam h.own;clear h hok;by_cases aL:n<=30
 ·have HE:Hid (Qan L=L):=(if_pos (by have:=HH.out.len;omega):Qan L=L)
  go_enter Tryz.func298,Tryz.ntmps298;go_wp2;refine bodyPost_ret (v:=.tuple #[]) (by simp [results,Tryz.results298,go_sem]) rfl ?_;exact ⟨_,_,_,rfl,HH.out.blk,by rw [HE.out];exact OwnB.of HH.out.own HH.out.len,Below.refl _ _⟩
 ·obtain ⟨go,aM,e⟩:=Qff HH.out.own (by omega)
  cases e
  obtain ⟨k,hk⟩:∃ k,n=k+30:=⟨n - 30,by omega⟩;have ag:=HH.out.len;obtain ⟨⟨p,x0⟩,aq⟩:∃ a,L[k]?=some a:=⟨L[k]'(by omega),ZZe (by omega)⟩;obtain ⟨_,az⟩:=HK.out _ (ZZn aq);simp only at az;have aK:=QjU HH.out.own;have aw:=Qis HH.out.own;have an:go≠g:=fun e=>HH.out.ne (by rw [e];rfl);have aA:=Qaa aq;have aG:=Qaa ag;clear aq ag;subst hk;have e1:((k+30:Nat):Int) - 30=(k:Int):=by omega
  go_enter Tryz.func298,Tryz.ntmps298;go_wp2
  go_quiet (fail)
  go_wp2;simp only [Nat.add_sub_cancel_left]
  go_loopw [40] (fun i wr=>∃ j:Nat,j<=k/\i=.int .i64 j/\Gat wr B g (.slice (some ⟨go,0,none⟩) (k+30) cc) (k+30) (L.set k (p,QcA x0 (L.take j)))/\Below B w wr) (fun i wr=>k - (RowKit.intOf i).toNat)
  case atStart=>exact ⟨0,Nat.zero_le _,rfl,by rw [show QcA x0 (L.take 0)=x0 from rfl,Qk6 aA.out];exact HH.out.past (Qah (Below.refl _ _) _),(Qah (Below.refl _ _) _)⟩
  case round=>
   obtain ⟨j,hj,rfl,hG,af⟩:=hrel;obtain ⟨x,hx⟩:∃ x,QcA x0 (L.take j)=x:=⟨_,rfl⟩;rw [hx] at hG;have aC:U64 x:=by rw [<- hx];exact Qit az (fun y hy=>HK.out y (ZZo hy))
   have HX:=Qaa hx;have HG:=Qaa hG;have HB:=Qaa af;have ac:=aG.out;have ak:k<L.length:=by omega
   obtain ⟨al,ai⟩:=QdF hG.own hG.len (k:=k) (x:=(p,x)) (by simp [ak]);have ap:=hG.own.frozenAt (k*2);have ar:=hG.own.frozenAt (k*2+1);have aF:=hG.cells.2;have aJ:=hG.cells.1;have aH:=hG.frozen 0;have ae:=Qaa ac;clear hx hG af ac;by_cases aO:j<k
   ·obtain ⟨⟨b,y⟩,aj⟩:∃ a,L[j]?=some a:=⟨L[j]'(by omega),ZZe (by omega)⟩
    obtain ⟨_,hy⟩:=HK.out _ (ZZn aj);simp only at hy;obtain ⟨aQ,aN⟩:=QdF HG.out.own HG.out.len (k:=j) (x:=(b,y)) (by rw [List.getElem?_set_ne (by omega)];exact aj)
    have HW:Hid (Qar x y=QcA x0 (L.take (j+1))):=by
     refine (?_:Qar x y=QcA x0 (L.take (j+1)));rw [QhO aj,HX.out]
    have hT:∀ o,Below wr.heap.size wr (wr.alloc o):=fun o=>(ZZb _ _).alloc (ZZa _) o
    have hS:∀ W t,Below (wr.heap.size+1) (wr.alloc (.cells #[.int .i64 b,.int .u64 y] t)) W->(fun W=>QaM W wr.heap.size b y/\Qih W g/\W.cell? ⟨go,k*2,none⟩=some (.int .i64 p)/\W.cell? ⟨go,k*2+1,none⟩=some (.int .u64 x)/\W.frozen? ⟨go,k*2,none⟩=false/\W.frozen? ⟨go,k*2+1,none⟩=false) W:=fun W t hW=>by
     have ad:Below wr.heap.size wr W:=(hT _).trans (hW.mono (by omega));have hn:=Qf3 wr t b y;exact ⟨⟨by rw [hW.cell (by exact Nat.lt_succ_self _)];exact hn.1,by rw [hW.cell (by exact Nat.lt_succ_self _)];exact hn.2⟩,Qdn aF ad,Qab ad al,Qab ad ai,by rw [Qb3 ad al];exact ap,by rw [Qb3 ad ai];exact ar⟩
    have HS:=Qaa hS;have HT:=Qaa hT;clear aj hT hS al ai ap ar aJ aH;go_wp2_with fail;have aa:=HS.out _ 199 ((ZZb _ _).drew);refine Qaj (fun W=>QaM W wr.heap.size b y/\Qih W g/\W.cell? ⟨go,k*2,none⟩=some (.int .i64 p)/\W.cell? ⟨go,k*2+1,none⟩=some (.int .u64 x)/\W.frozen? ⟨go,k*2,none⟩=false/\W.frozen? ⟨go,k*2+1,none⟩=false) 11 (by kernel_rfl) ?_;refine tkL 0 (.slice (some ⟨go,k*2,none⟩) 30 30) aa (fun W hW=>?_) ?_
    ·obtain ⟨⟨x0,x1⟩,⟨x2,x3⟩,x4,x5,x6,x7⟩:=hW
     go_simp
    refine tkL 1 (.pointer (some ⟨g,0,none⟩)) aa (fun W hW=>?_) ?_
    ·obtain ⟨⟨x0,x1⟩,⟨x2,x3⟩,x4,x5,x6,x7⟩:=hW
     go_simp
    refine tkL 2 (.pointer (some ⟨g,0,none⟩)) aa (fun W hW=>?_) ?_
    ·obtain ⟨⟨x0,x1⟩,⟨x2,x3⟩,x4,x5,x6,x7⟩:=hW
     go_simp
    simp only [sX];refine tkL 3 (.pointer (some ⟨g,2,none⟩)) aa (fun W hW=>?_) ?_
    ·obtain ⟨⟨x0,x1⟩,⟨x2,x3⟩,x4,x5,x6,x7⟩:=hW
     go_simp
    refine tkL 4 QqN aa (fun W hW=>?_) ?_
    ·obtain ⟨⟨x0,x1⟩,⟨x2,x3⟩,x4,x5,x6,x7⟩:=hW
     go_simp
    refine tkL 5 (.slice (some ⟨go,k*2,none⟩) 30 30) aa (fun W hW=>?_) ?_
    ·obtain ⟨⟨x0,x1⟩,⟨x2,x3⟩,x4,x5,x6,x7⟩:=hW
     go_simp
    simp only [sX];refine tkL 6 (.pointer (some ⟨go,k*2,none⟩)) aa (fun W hW=>?_) ?_
    ·obtain ⟨⟨x0,x1⟩,⟨x2,x3⟩,x4,x5,x6,x7⟩:=hW
     go_simp
    refine tkL 7 (.agg #[.int .i64 p,.int .u64 x]) aa (fun W hW=>?_) ?_
    ·obtain ⟨⟨x0,x1⟩,⟨x2,x3⟩,x4,x5,x6,x7⟩:=hW
     go_simp
    refine tkL 8 (.agg #[.int .i64 b,.int .u64 y]) aa (fun W hW=>?_) ?_
    ·obtain ⟨⟨x0,x1⟩,⟨x2,x3⟩,x4,x5,x6,x7⟩:=hW
     go_simp
    simp only [sX];refine onE 9 fun K hK=>?_;go_simp;refine (Qp9 _ _ _ _ aC hy _).mono ?_;rintro e w8 ⟨rfl,ay⟩;dsimp only;have au:Below (wr.heap.size+1) (wr.alloc (.cells #[.int .i64 b,.int .u64 y] 199)) w8:=((Below.refl _ _).drew).trans (ay.mono (by simp));have am:=Qaa (HS.out _ 199 au);have ax:=Qaa ((HT.out _).trans (au.mono (by omega)));clear ay au;refine gK hK am.out ?_
    try simp only [sX]
    refine onE 10 fun K hK=>?_;go_simp;refine gK hK am.out ?_
    try simp only [sX]
    obtain ⟨_,_,x4,x5,x6,x7⟩:=am.out;have H8:=HG.out.past ax
    have ah:Gat ((w8.setCell ⟨go,k*2,none⟩ (.int .i64 p)).setCell ⟨go,k*2+1,none⟩ (.int .u64 (Qar x y))) B g (.slice (some ⟨go,0,none⟩) (k+30) cc) (k+30) (L.set k (p,QcA x0 (L.take (j+1))))/\Below B w ((w8.setCell ⟨go,k*2,none⟩ (.int .i64 p)).setCell ⟨go,k*2+1,none⟩ (.int .u64 (Qar x y))):=by
     refine ⟨⟨?_,?_,by rw [List.length_set];exact ae.out,H8.hB⟩,?_⟩
     ·rw [heap_setCell_other _ _ _ _ (by simpa using an.symm),heap_setCell_other _ _ _ _ (by simpa using an.symm)];exact H8.blk
     ·have:=(((H8.own.stored (k*2) (.int .i64 p)).1).stored (k*2+1) (.int .u64 (Qar x y))).1
      rw [<- HW.out]
      rwa [Qlp Qbx _ k (p,Qar x y) (by rw [List.length_set];exact ak) rfl,List.set_set] at this
     ·have av:=(Qlf H8.own).1
      have aD:B<=wr.heap.size:=by have:=H8.hB;have:=HG.out.lt;omega
      exact ((HB.out.trans (ax.out.mono aD)).setCell av _).setCell av _
    have ab:=Qaa ah;clear ah H8;refine onE 11 fun K hK=>?_;go_simp;refine hK.out _ _ (fun h=>absurd rfl h) ?_
    try simp only [sX]
    refine dnE ?_ _;go_wp2;go_roundw
    case rel=>exact ⟨j+1,by omega,by go_num,ab.out.1,ab.out.2⟩
    case measure=>simp [RowKit.intOf];omega
   ·have aB:j=k:=by omega
    have aI:=ae.out
    have ah:(wr.setCell ⟨g,0,none⟩ (.slice (some ⟨go,k*2,none⟩) 30 30)).heap[g]?=some (.cells #[.slice (some ⟨go,k*2,none⟩) 30 30,fnPl,QqN] 310 (0,0))/\OwnB (wr.setCell ⟨g,0,none⟩ (.slice (some ⟨go,k*2,none⟩) 30 30)) B (.slice (some ⟨go,k*2,none⟩) 30 30) 30 (Qan L)/\Below B w (wr.setCell ⟨g,0,none⟩ (.slice (some ⟨go,k*2,none⟩) 30 30)):=by
     refine ⟨ZZl wr g 0 _ _ _ HG.out.blk,?_,HB.out.setCell HG.out.hB _⟩
     have ek:Qan L=(L.set k (p,x)).drop k:=by
      unfold Qan;rw [if_neg (by omega),show L.length - 30=k by omega,List.drop_eq_getElem_cons ak]
      have hd:(L.set k (p,x)).drop k=(p,x) :: L.drop (k+1):=by
       rw [List.drop_eq_getElem_cons (by rw [List.length_set];exact ak)];rw [show (L.set k (p,x)).drop (k+1)=L.drop (k+1) from List.ext_getElem? fun q=>by rw [List.getElem?_drop,List.getElem?_drop,List.getElem?_set_ne (by omega)]];simp
      rw [hd];have:=(ZZd.1 aA).2;rw [this,<- HX.out,aB]
     rcases HG.out.own.2 with ⟨e,_⟩ | ⟨g',aP,aE,e,h1,h2,h3,h4,h5,h6⟩
     ·cases e
     cases e
     refine ⟨by rw [ek,List.length_drop,List.length_set];omega,.inr ⟨go,k*2,30,aE,rfl,h1,?_,fun q v hq=>?_,Nat.le_refl _,by unfold maxLen;omega,by omega⟩⟩
     ·rw [heap_setCell_other _ _ _ _ (by simpa using an)];exact h2
     ·rw [ek,QiO Qbx,List.getElem?_drop,<- h6,List.getElem?_take] at hq
      split at hq
      ·rwa [Array.getElem?_toList] at hq
      ·cases hq
    have ab:=Qaa ah;clear ah aI aB al ai ap ar;go_wp2;exact bodyPost_end (v:=.tuple #[]) (by simp [results,Tryz.results298,go_sem]) rfl ⟨_,_,_,rfl,ab.out.1,ab.out.2.1,ab.out.2.2⟩
def Qqd (a b:List Bn):List Bn:=Qan (QaZ (QaZ [] a) b)
theorem Qe4 {w:World} {a:Addr} {v old:Value} (hc:w.cell? a=some old) (hf:w.frozen? a=false) (h1:v.oneCell'=true):(store a v).run Tryz.prog w=.ok () (w.setCell a v):=by
 rw [run_store Tryz.prog w _ v _ h1];simp [hc,hf]
theorem QdL {w:World} {ao bo:Option Addr} {P N:List Bn} (c c' m n:Nat) (hm:P.length=m) (hn:N.length=n) (lm:m<=30) (ln:n<=30) (hA:QaA w ao P) (hB:QaA w bo N) (kA:∀ x∈P,Qa8 x) (kB:∀ x∈N,Qa8 x) :
  Calls Tryz.prog 291 #[.slice ao m c,.slice bo n c'] w fun e w'=>∃ v' n',e=.returned v'/\OwnB w' w.heap.size v' n' (Qqd P N)/\Below w.heap.size w w':=by
 have HA:=Qaa hA;have HB:=Qaa hB;have KA:=Qaa kA;have KB:=Qaa kB;have EM:=Qaa hm;have EN:=Qaa hn;clear hA hB kA kB hm hn;have an:=ZZk w (.cells #[.slice none 0 0,.nilFunc,.nilFunc] 310);have ac:=ZZk w (.cells #[.slice none 0 0,(.func (.func 295) #[] #[]),.nilFunc] 310)
 have s1:(store ⟨w.heap.size,1,none⟩ (.func (.func 295) #[] #[])).run Tryz.prog (w.alloc (.cells #[.slice none 0 0,.nilFunc,.nilFunc] 310))=.ok () ((w.alloc (.cells #[.slice none 0 0,.nilFunc,.nilFunc] 310)).setCell ⟨w.heap.size,1,none⟩ (.func (.func 295) #[] #[])):=
  Qe4 (old:=.nilFunc) (by rw [cell_of_row _ w.heap.size 1 _ _ (0,0) an];rfl) (frozen_of_row _ w.heap.size 1 _ _ an) rfl
 have s2:(store ⟨w.heap.size,2,none⟩ (.func (.func 296) #[] #[])).run Tryz.prog (w.alloc (.cells #[.slice none 0 0,(.func (.func 295) #[] #[]),.nilFunc] 310))=.ok () ((w.alloc (.cells #[.slice none 0 0,(.func (.func 295) #[] #[]),.nilFunc] 310)).setCell ⟨w.heap.size,2,none⟩ (.func (.func 296) #[] #[])):=
  Qe4 (old:=.nilFunc) (by rw [cell_of_row _ w.heap.size 2 _ _ (0,0) ac];rfl) (frozen_of_row _ w.heap.size 2 _ _ ac) rfl
 clear an ac;go_enter Tryz.func291,Tryz.ntmps291;go_wp2
 go_loopw [13] (fun i wr=>∃ (j:Nat) (v:Value) (q:Nat),j<=m/\i=.int .i64 j/\Gat wr w.heap.size w.heap.size v q (QaZ [] (P.take j))/\Below w.heap.size w wr) (fun i wr=>m - (RowKit.intOf i).toNat)
 case atStart=>exact ⟨0,_,0,ZZj _,rfl,⟨ZZk w _,World.ownsRow_nil _ _ _ _,rfl,ZZa _⟩,(by first | exact (ZZb _ _).alloc (ZZa _) _ | exact (((ZZb _ _).alloc (ZZa _) _).setCell (ZZa _) _).setCell (ZZa _) _)⟩
 case round=>
  obtain ⟨j,v,q,hj,rfl,hG,aa⟩:=hrel;have HG:=Qaa hG;have af:=Qaa aa;clear hG;by_cases aw:j<m
  ·obtain ⟨⟨a,u⟩,ad⟩:∃ x,P[j]?=some x:=⟨P[j]'(by have:=EM.out;omega),ZZe _⟩
   obtain ⟨ka,ku⟩:=KA.out _ (ZZn ad);obtain ⟨b,ar,rfl,ab⟩:=HA.out (by have:=EM.out;omega);have av:=Qab aa (ab j _ ad).1;have aq:=Qab aa (ab j _ ad).2;have ae:q<=500:=by have:=HG.out.len;have:=Qd9 (P.take j) [];rw [List.length_take] at this;simp at this;omega
   have HR:=Qaa (QgT (L:=[]) ad);have ak:∀ o,Below wr.heap.size wr (wr.alloc o):=fun o=>(ZZb _ _).alloc (ZZa _) o;have aj:=Qaa ak;simp only at ka ku;clear aa ab ad ak;go_wp2_with fail;refine (c_put _ _ ka ku (QcB Qda) (Qfn (fun x hx=>KA.out x (ZZo hx)) (fun x hx=>by cases hx)) ae (HG.out.past (aj.out _))).mono ?_;rintro e w1 ⟨r,v',n',rfl,ah,ac⟩;rw [<- HR.out] at ah;have am:=Qaa ah;have ai:=Qaa ((af.out.trans ((aj.out _).mono af.out.size)).trans ac);clear ah ac;go_wp2;go_roundw
   case rel=>exact ⟨j+1,v',n',by omega,by go_num,am,ai⟩
   case measure=>simp [RowKit.intOf];omega
  ·have HE:Hid (QaZ [] (P.take j)=QaZ (QaZ [] P) (N.take 0)):=(by rw [List.take_of_length_le (by have:=EM.out;omega)];rfl:QaZ [] (P.take j)=QaZ (QaZ [] P) (N.take 0))
   clear aa;go_wp2
   go_loopw [22] (fun i wr=>∃ (j:Nat) (v:Value) (q:Nat),j<=n/\i=.int .i64 j/\Gat wr w.heap.size w.heap.size v q (QaZ (QaZ [] P) (N.take j))/\Below w.heap.size w wr) (fun i wr=>n - (RowKit.intOf i).toNat)
   case atStart=>exact ⟨0,v,q,Nat.zero_le _,rfl,by rw [<- HE.out];exact HG.out,af⟩
   case round=>
    clear HG af HE;obtain ⟨t,v,q,ht,rfl,hG,aa⟩:=hrel;have HG:=Qaa hG;have af:=Qaa aa
    have ae:q<=500:=by
     have h1:=HG.out.len;have h2:=Qd9 (N.take t) (QaZ [] P);have h3:=Qd9 P [];rw [List.length_take] at h2;simp at h3;have:=EM.out;omega
    have au:=Qaa (QcB (M:=N.take t) (QcB (M:=P) Qda));have ap:=Qaa (Qfn (M:=N.take t) (fun x hx=>KB.out x (ZZo hx)) (Qfn (M:=P) (L:=[]) KA (fun x hx=>by cases hx)));clear hG;by_cases az:t<n
    ·obtain ⟨⟨a,u⟩,ad⟩:∃ x,N[t]?=some x:=⟨N[t]'(by have:=EN.out;omega),ZZe _⟩
     obtain ⟨ka,ku⟩:=KB.out _ (ZZn ad);obtain ⟨b,ar,rfl,ab⟩:=HB.out (by have:=EN.out;omega);have av:=Qab aa (ab t _ ad).1;have aq:=Qab aa (ab t _ ad).2;have HR:=Qaa (QgT (L:=QaZ [] P) ad);have ak:∀ o,Below wr.heap.size wr (wr.alloc o):=fun o=>(ZZb _ _).alloc (ZZa _) o;have aj:=Qaa ak;simp only at ka ku;clear aa ab ad ak;go_wp2_with fail;refine (c_put _ _ ka ku au ap ae (HG.out.past (aj.out _))).mono ?_;rintro e w1 ⟨r,v',n',rfl,ah,ac⟩;rw [<- HR.out] at ah;have am:=Qaa ah;have ai:=Qaa ((af.out.trans ((aj.out _).mono af.out.size)).trans ac);clear ah ac;go_wp2;go_roundw
     case rel=>exact ⟨t+1,v',n',by omega,by go_num,am,ai⟩
     case measure=>simp [RowKit.intOf];omega
    ·have HE:Hid (QaZ (QaZ [] P) (N.take t)=QaZ (QaZ [] P) N):=(by rw [List.take_of_length_le (by have:=EN.out;omega)]:QaZ (QaZ [] P) (N.take t)=QaZ (QaZ [] P) N)
     clear aa;go_wp2_with fail;refine (c_keep ap ae HG).mono ?_;rintro e w1 ⟨r,v',n',rfl,ac,al,ag⟩;rw [HE.out] at al;have c1:w1.cell? ⟨w.heap.size,0,none⟩=some v':=by rw [cell_of_row w1 w.heap.size 0 _ _ (0,0) ac];rfl
     have HO:=Qaa al;have ai:=Qaa (af.out.trans ag);obtain ⟨ay,ax,rfl⟩:=al.any;clear ac al ag;go_wp2;go_ret;exact ⟨_,_,rfl,HO,ai⟩
end Go.Proofs.YtandnmpllheniaaGreatDoor
namespace Go.Proofs.YtandnmpllheniaaGreatDoor
def mrg:List Bn->List Bn->List Bn
 | [],b=>b
 | x :: a,[]=>x :: a
 | x :: a,y :: b=>if x.1<y.1 then x :: mrg a (y :: b) else if y.1<x.1 then y :: mrg (x :: a) b else (x.1,Qar x.2 y.2) :: mrg a b
termination_by a b=>a.length+b.length
theorem Qbf (b:List Bn):mrg [] b=b:=by rw [mrg]
theorem QaK (a:List Bn):mrg a []=a:=by cases a <;> rw [mrg]
theorem Qa2 {x y:Bn} {a b:List Bn} (h:x.1<y.1):mrg (x :: a) (y :: b)=x :: mrg a (y :: b):=by rw [mrg,if_pos h]
theorem Qa7 {x y:Bn} {a b:List Bn} (h:y.1<x.1):mrg (x :: a) (y :: b)=y :: mrg (x :: a) b:=by rw [mrg,if_neg (by omega),if_pos h]
theorem Qbi {x y:Bn} {a b:List Bn} (h:x.1=y.1):mrg (x :: a) (y :: b)=(x.1,Qar x.2 y.2) :: mrg a b:=by rw [mrg,if_neg (by omega),if_neg (by omega)]
theorem Qe7 {x:Bn} {a b:List Bn} (h:∀ y∈b,x.1<y.1):mrg (x :: a) b=x :: mrg a b:=by
 cases b with
 | nil=>rw [QaK,QaK]
 | cons y r=>exact Qa2 (h y (List.mem_cons_self ..))
theorem QnZ {y:Bn} {M:List Bn} (hM:∀ z∈M,y.1<z.1):∀ P:List Bn,mrg (QeQ y P) M=mrg P (y :: M)
 | []=>by rw [QeQ,Qbf,Qe7 hM,Qbf]
 | x :: r=>by
  unfold QeQ
  split
  ·rename_i h
   rw [Qa2 h,Qe7 (fun z hz=>by have:=hM z hz;omega),QnZ hM r]
  ·split
   ·rename_i h
    rw [Qbi h,Qe7 (fun z hz=>by have:=hM z hz;show x.1<z.1;omega)]
   ·rw [Qa7 (by omega),Qe7 hM]
theorem Qed:∀ {N P:List Bn},Qc6 N->QaZ P N=mrg P N
 | [],P,_=>by rw [QaK];rfl
 | y :: N,P,h=>by
  obtain ⟨h1,h2⟩:=rise_cons.1 h
  show QaZ (QeQ y P) N=_
  rw [Qed h2,QnZ h1]
theorem QmC {P:List Bn} (h:Qc6 P):QaZ [] P=P:=by rw [Qed h,Qbf]
theorem QhC {P N:List Bn} {i k:Nat} {x:Bn} (hx:P[i]?=some x) (h:k=N.length∨∃ y,N[k]?=some y/\x.1<y.1):mrg (P.drop i) (N.drop k)=x :: mrg (P.drop (i+1)) (N.drop k):=by
 have hi:=(ZZd.1 hx).1;rw [List.drop_eq_getElem_cons hi,(List.getElem?_eq_some_iff.1 hx).2];rcases h with rfl | ⟨y,hy,aa⟩
 ·rw [List.drop_length,QaK,QaK]
 ·have hk:=(ZZd.1 hy).1
  rw [List.drop_eq_getElem_cons hk,(List.getElem?_eq_some_iff.1 hy).2,Qa2 aa]
theorem QhW {P N:List Bn} {i k:Nat} {y:Bn} (hy:N[k]?=some y) (h:i=P.length∨∃ x,P[i]?=some x/\y.1<x.1):mrg (P.drop i) (N.drop k)=y :: mrg (P.drop i) (N.drop (k+1)):=by
 have hk:=(ZZd.1 hy).1;rw [List.drop_eq_getElem_cons hk,(List.getElem?_eq_some_iff.1 hy).2];rcases h with rfl | ⟨x,hx,aa⟩
 ·rw [List.drop_length,Qbf,Qbf]
 ·have hi:=(ZZd.1 hx).1
  rw [List.drop_eq_getElem_cons hi,(List.getElem?_eq_some_iff.1 hx).2,Qa7 aa]
theorem QmB {P N:List Bn} {i k:Nat} {x y:Bn} (hx:P[i]?=some x) (hy:N[k]?=some y) (h:x.1=y.1):mrg (P.drop i) (N.drop k)=(x.1,Qar x.2 y.2) :: mrg (P.drop (i+1)) (N.drop (k+1)):=by
 have hi:=(ZZd.1 hx).1;have hk:=(ZZd.1 hy).1;rw [List.drop_eq_getElem_cons hi,(List.getElem?_eq_some_iff.1 hx).2,List.drop_eq_getElem_cons hk,(List.getElem?_eq_some_iff.1 hy).2,Qbi h]
open Go.ChangeAt Go.ChangeShapes Go.Lib Go.PlainAid Go.RowKit Go.WideShapes
theorem OwnB.le {w:World} {B B':Nat} {v:Value} {n:Nat} {L:List Bn} (h:OwnB w B v n L) (hb:B'<=B):OwnB w B' v n L:=by
 refine ⟨h.1,?_⟩;rcases h.2 with h | ⟨b,ab,c,aa,e,h1,h2,h3⟩
 ·exact .inl h
 ·exact .inr ⟨b,ab,c,aa,e,Nat.le_trans hb h1,h2,h3⟩
theorem OwnB.lt {w:World} {B:Nat} {v:Value} {n:Nat} {L:List Bn} (h:OwnB w B v n L):∀ k,v.ownBlock=some k->B<=k/\k<w.heap.size:=fun k e=>by
 rcases h.2 with ⟨e1,_⟩ | ⟨b,off,c,cur,e1,h1,h2,h3⟩
 ·rw [e1] at e;cases e
 ·rw [e1] at e;cases e;exact ⟨h1,(ZZc.1 h2).1⟩
theorem OwnB.ne {w:World} {B:Nat} {v:Value} {n:Nat} {L:List Bn} (h:OwnB w B v n L) {r:Nat} {cs:Array Value} {T:TypeId} {fz:Nat×Nat} (hr:w.heap[r]?=some (.cells cs T fz)) (hT:T≠199):v.ownBlock≠some r:=fun e=>by
 rcases h.2 with ⟨e1,_⟩ | ⟨b,off,c,cur,e1,h1,h2,h3⟩
 ·rw [e1] at e;cases e
 ·rw [e1] at e;cases e;rw [h2] at hr;cases hr;exact hT rfl
theorem OwnB.kept {w w':World} {B:Nat} {v:Value} {n:Nat} {L:List Bn} {r:Option Nat} (h:OwnB w B v n L) (hg:w.grownBy w' r) (hne:v.ownBlock=none∨v.ownBlock≠r):OwnB w' B v n L:=by
 refine ⟨h.1,?_⟩;rcases h.2 with h | ⟨b,ab,c,aa,e,h1,h2,h3⟩
 ·exact .inl h
 ·refine .inr ⟨b,ab,c,aa,e,h1,?_,h3⟩
  rw [hg.block b (Array.getElem?_eq_some_iff.1 h2).1 (fun e2=>by
   rw [e] at hne;rcases hne with h | h
   ·cases h
   ·exact h e2)]
  exact h2
theorem OwnB.set {w:World} {B:Nat} {v:Value} {n:Nat} {L:List Bn} (h:OwnB w B v n L) {a:Addr} (hne:v.ownBlock≠some a.block) (u:Value):OwnB (w.setCell a u) B v n L:=
 h.kept (r:=some a.block) ⟨rfl,rfl,rfl,by simp [World.setCell],fun k hk hn=>Below.heap_setCell _ _ _ _ (fun e=>hn (by rw [e]))⟩ (.inr hne)
theorem Qnj {w:World} {ao:Option Addr} {L:List Bn} (c n:Nat) (hn:L.length=n) (hl:n<=1048576) (hA:QaA w ao L) :
  Calls Tryz.prog 161 #[.slice ao n c] w fun e w'=>∃ v,e=.returned v/\OwnB w' w.heap.size v n L/\Below w.heap.size w w':=by
 obtain ⟨i0,hi,ag,ah,aj⟩:=info_parts QgE
 cases ao with
 | none=>
  have h0:n=0:=by
   rcases Nat.eq_zero_or_pos n with h | h
   ·exact h
   ·obtain ⟨b,ae,e,_⟩:=hA (by omega);cases e
  subst h0;have hq:=fun W=>Lib.run_eql_slice_nil (P:=Tryz.prog) W 41 199 none 0 c 0 0 Tryz.underlying41;have HN:=Qaa hn;clear hA hn;go_enter Tryz.func161,Tryz.ntmps161;go_wp2;go_ret;exact ⟨_,rfl,⟨HN.out.symm,.inl ⟨rfl,rfl⟩⟩,ZZb _ _⟩
 | some A=>
  have af:∀ j z,(fl QaL L)[j]?=some z->w.cell? (A.add j)=some z:=fun j z hz=>by
   have hj:=(ZZd.1 hz).1;rw [QcO Qbx] at hj;obtain ⟨b,ae,e,ad⟩:=hA (by omega)
   cases e
   obtain ⟨x,hx⟩:∃ x,L[j / 2]?=some x:=⟨L[j / 2]'(by omega),ZZe (by omega)⟩;have h1:=Qi7 Qbx L (j / 2) x (j % 2) (by omega) hx;rw [show j / 2*2+j % 2=j by omega,hz] at h1;have hc:=ad (j / 2) x hx;rw [Addr.add_lit];have:j % 2=0∨j % 2=1:=by omega
   rcases this with e | e
   ·rw [e] at h1;rw [show ae+j=ae+j / 2*2 by omega,hc.1];simpa [QaL] using h1.symm
   ·rw [e] at h1;rw [show ae+j=ae+j / 2*2+1 by omega,hc.2];simpa [QaL] using h1.symm
  have ai:=Qaa af;have hq:=fun W=>Lib.run_eql_slice_nil (P:=Tryz.prog) W 41 199 (some A) n c 0 0 Tryz.underlying41;have HN:=Qaa hn;clear hA af hn;go_enter Tryz.func161,Tryz.ntmps161;go_wp2_with (at_builtin;refine wpList_append_own _ rfl (.tmp 5) (.tmp 6) 41 rfl w.heap.size 199 i0 (.agg #[.int .i64 0,.int .u64 0]) 2 16 Tryz.underlying41 hi ag ah aj rfl (by decide) _ _ _ rfl (World.ownsRow_made _ #[] 0 (Nat.le_refl _) (Nat.zero_le _) rfl) A n c (fl QaL L) rfl (by rw [QcO Qbx,HN.out]) (fun j z hz=>by have:=ai.out j z hz;exact QeN this _) (QfM _) (by unfold maxLen;omega) (by omega) (by simp) ?_;intro v1 w1 aa ab ac;simp only [Nat.zero_add,List.nil_append] at aa;have O1:=Qaa aa;have B1:=Qaa (((Below.refl _ _).alloc (Nat.le_refl _) _).grown ab (by simp) (fun j hj=>by cases hj;exact Nat.le_refl _));clear aa ab ac);go_ret;exact ⟨_,rfl,OwnB.of O1 HN.out.symm,B1⟩
def QdP (p n:Value):Prop:=∀ k,p.ownBlock=some k->n.ownBlock≠some k
def QeH (w:World) (B:Nat) (v:Value) (z:Int) (P N:List Bn) (h l:Int):Prop:=∃ p n pn nn,v=.agg #[.int .u64 z,p,n,.int .i64 h,.int .u64 l]/\OwnB w B p pn P/\OwnB w B n nn N/\QdP p n
abbrev Qax:Array Value:=#[.int .u64 0,.slice none 0 0,.slice none 0 0,.int .i64 0,.int .u64 0]
theorem QbO {w:World} {r:Nat} {T:TypeId} {u0 u1 u2 u3 u4:Value} (h:w.heap[r]?=some (.cells #[u0,u1,u2,u3,u4] T (0,0))) :
  w.cell? ⟨r,0,none⟩=some u0/\w.cell? ⟨r,1,none⟩=some u1/\w.cell? ⟨r,2,none⟩=some u2/\w.cell? ⟨r,3,none⟩=some u3/\w.cell? ⟨r,4,none⟩=some u4:=
 ⟨by rw [cell_of_row w r 0 _ _ (0,0) h];rfl,by rw [cell_of_row w r 1 _ _ (0,0) h];rfl,by rw [cell_of_row w r 2 _ _ (0,0) h];rfl,by rw [cell_of_row w r 3 _ _ (0,0) h];rfl,by rw [cell_of_row w r 4 _ _ (0,0) h];rfl⟩
theorem Qf4 {w:World} {z h l:Int} {pa na:Option Addr} {pn pc nn nc:Nat} {P N:List Bn} (hp:P.length=pn) (hn:N.length=nn) (lp:pn<=1048576) (ln:nn<=1048576) (hP:QaA w pa P) (hN:QaA w na N) :
  Calls Tryz.prog 126 #[.agg #[.int .u64 z,.slice pa pn pc,.slice na nn nc,.int .i64 h,.int .u64 l]] w fun e w'=>∃ v,e=.returned v/\QeH w' w.heap.size v z P N h l/\Below w.heap.size w w':=by
 have HP:=Qaa hP;have HN:=Qaa hN;clear hP hN;go_enter Tryz.func126,Tryz.ntmps126;go_wp2_with fail;generalize hW0:(w.alloc (Obj.cells #[.int .u64 z,.slice pa pn pc,.slice na nn nc,.int .i64 h,.int .u64 l] 43)).alloc (Obj.cells Qax 43)=W0;have T0:Below w.heap.size w W0:=by rw [<- hW0];exact ((Below.refl _ _).alloc (Nat.le_refl _) _).alloc (by simp) _
 have K0:Qbb W0 w.heap.size z (.slice pa pn pc) (.slice na nn nc) h l:=by rw [<- hW0];exact QaB (QdD w _ _ _ _ _ _) ((ZZb _ _).alloc (ZZa _) _)
 have R0:W0.heap[w.heap.size+1]?=some (.cells Qax 43 (0,0)):=by rw [<- hW0];simpa using heap_alloc_new (w.alloc (Obj.cells #[.int .u64 z,.slice pa pn pc,.slice na nn nc,.int .i64 h,.int .u64 l] 43)) (Obj.cells Qax 43)
 have ao:W0.heap.size=w.heap.size+2:=by rw [<- hW0];simp
 clear hW0;have ad:=Qaa T0;have hC:∀ W,Below W0.heap.size W0 W->Qbb W w.heap.size z (.slice pa pn pc) (.slice na nn nc) h l/\W.heap[w.heap.size+1]?=some (.cells Qax 43 (0,0)):=fun W hW=>⟨QaB K0 hW,by rw [hW.block _ (by omega)];exact R0⟩;have HC:=Qaa hC;clear T0 hC K0 R0;have aa:(fun W=>Below W0.heap.size W0 W) W0.drew:=(ZZb _ _).drew;refine Qaj (fun W=>Below W0.heap.size W0 W) 11 (by kernel_rfl) ?_;refine tkL 0 (.pointer (some ⟨w.heap.size,0,none⟩)) aa (fun W hW=>?_) ?_
 ·obtain ⟨⟨x0,x1,x2,x3,x4⟩,_⟩:=HC.out W hW
  go_simp
 refine tkL 1 (.int .u64 z) aa (fun W hW=>?_) ?_
 ·obtain ⟨⟨x0,x1,x2,x3,x4⟩,_⟩:=HC.out W hW
  go_simp
 refine tkL 2 (.pointer (some ⟨w.heap.size,1,none⟩)) aa (fun W hW=>?_) ?_
 ·obtain ⟨⟨x0,x1,x2,x3,x4⟩,_⟩:=HC.out W hW
  go_simp
 simp only [sX];refine tkL 3 (.slice pa pn pc) aa (fun W hW=>?_) ?_
 ·obtain ⟨⟨x0,x1,x2,x3,x4⟩,_⟩:=HC.out W hW
  go_simp
 refine tkL 5 (.pointer (some ⟨w.heap.size,2,none⟩)) aa (fun W hW=>?_) ?_
 ·obtain ⟨⟨x0,x1,x2,x3,x4⟩,_⟩:=HC.out W hW
  go_simp
 refine tkL 6 (.slice na nn nc) aa (fun W hW=>?_) ?_
 ·obtain ⟨⟨x0,x1,x2,x3,x4⟩,_⟩:=HC.out W hW
  go_simp
 simp only [sX];refine tkL 8 (.pointer (some ⟨w.heap.size,3,none⟩)) aa (fun W hW=>?_) ?_
 ·obtain ⟨⟨x0,x1,x2,x3,x4⟩,_⟩:=HC.out W hW
  go_simp
 refine tkL 9 (.agg #[.int .i64 h,.int .u64 l]) aa (fun W hW=>?_) ?_
 ·obtain ⟨⟨x0,x1,x2,x3,x4⟩,_⟩:=HC.out W hW
  go_simp
 simp only [sX];refine onE 4 fun K hK=>?_;go_simp;refine (Qnj _ _ hp lp (Qae HP (ad.out.trans ((ZZb _ _).drew.mono ad.out.size)))).mono ?_;rintro e w1 ⟨v1,rfl,ah,am⟩;dsimp only;have ae:=Qaa ((aa:Below W0.heap.size W0 W0.drew).trans am);have an:=Qaa (ah.le (B':=w.heap.size) (by show w.heap.size<=W0.heap.size;omega));obtain ⟨af,c1,rfl⟩:=ah.any;clear ah am;refine gK hK ae.out ?_
 try simp only [sX]
 refine onE 7 fun K hK=>?_;go_simp;refine (Qnj _ _ hn ln (Qae HN (Qac ad ae))).mono ?_;rintro e w2 ⟨v2,rfl,ag,ai⟩;dsimp only;have ac:=Qaa (Qac ae ai);have ak:=Qaa (ag.le (B':=w.heap.size) (by have:=ae.out.size;omega));have ab:=Qaa (an.out.past ai);have ap:Hid (QdP (.slice af pn c1) v2):=(fun k e1 e2=>by have:=(an.out.lt k e1).2;have:=(ag.lt k e2).1;omega:QdP (.slice af pn c1) v2);obtain ⟨al,c2,rfl⟩:=ag.any;clear ag ai;refine gK hK ac.out ?_
 try simp only [sX]
 refine tkS 10 (.agg #[.int .u64 z,.slice af pn c1,.slice al nn c2,.int .i64 h,.int .u64 l]) ac ?_;simp only [sX];have R2:=(HC.out _ ac).2;obtain ⟨q0,q1,q2,q3,q4⟩:=QbO R2;obtain ⟨f0,f1,f2,f3,f4⟩:=fA5 R2;refine onE 11 fun K hK=>?_;go_simp;refine hK.out _ _ (fun h=>absurd rfl h) ?_
 try simp only [sX]
 refine dnE ?_ _;go_wp2;refine bodyPost_ret (v:=.agg #[.int .u64 z,.slice af pn c1,.slice al nn c2,.int .i64 h,.int .u64 l]) (by simp [results,Tryz.results126,go_sem,q0,q1,q2,q3,q4]) rfl ⟨_,rfl,⟨_,_,pn,nn,rfl,?_,?_,ap⟩,?_⟩
 ·have aj:=ab.out.ne R2 (by decide)
  repeat (refine OwnB.set ?_ aj _)
  exact ab.out
 ·have aj:=ak.out.ne R2 (by decide)
  repeat (refine OwnB.set ?_ aj _)
  exact ak.out
 ·repeat (refine Below.setCell ?_ (by simp <;> omega) _)
  exact Qac ad ac
theorem Qha (R:List Bn) (x:Bn):fl QaL R ++ QaL x=fl QaL (R ++ [x]):=by rw [Qm9,Qp0]
theorem Qpc {w:World} {B n:Nat} {T:TypeId} {s:Nat} {v:Value} {xs:List Value} (h:w.ownsRow B T s v n xs) (hv:v≠.slice none 0 0):∃ g c,v=.slice (some ⟨g,0,none⟩) n c:=by
 rcases h.2 with ⟨e,_⟩ | ⟨g,c,_,e,_⟩
 ·exact absurd e hv
 ·exact ⟨g,c,e⟩
theorem mrg_ok {a b:List Bn} (ha:∀ x∈a,Qa8 x) (hb:∀ x∈b,Qa8 x):∀ z∈mrg a b,Qa8 z:=by
 induction a,b using mrg.induct with
 | case1 b=>rw [Qbf];exact hb
 | case2 x a=>rw [QaK];exact ha
 | case3 x a y b h ih=>
  rw [Qa2 h];intro z hz;rcases List.mem_cons.1 hz with rfl | hz
  ·exact ha _ (List.mem_cons_self ..)
  ·exact ih (fun q hq=>ha q (ZZm _ hq)) hb z hz
 | case4 x a y b h h2 ih=>
  rw [Qa7 h2];intro z hz;rcases List.mem_cons.1 hz with rfl | hz
  ·exact hb _ (List.mem_cons_self ..)
  ·exact ih ha (fun q hq=>hb q (ZZm _ hq)) z hz
 | case5 x a y b h h2 ih=>
  rw [Qbi (by omega)];intro z hz;rcases List.mem_cons.1 hz with rfl | hz
  ·exact ⟨(ha x (List.mem_cons_self ..)).1,QgC (ha x (List.mem_cons_self ..)).2 (hb y (List.mem_cons_self ..)).2⟩
  ·exact ih (fun q hq=>ha q (ZZm _ hq)) (fun q hq=>hb q (ZZm _ hq)) z hz
theorem Qmo {R:List Bn} {s:Nat} {p x y:Int} (h:s<R.length):(fl QaL (R.set s (p,x))).set (s*2+1) (.int .u64 y)=fl QaL (R.set s (p,y)):=by
 have hl:s<(R.set s (p,x)).length:=by rw [List.length_set];exact h
 have h1:=Qlp (u:=.int .i64 p) (v:=.int .u64 y) Qbx (R.set s (p,x)) s (p,y) hl rfl;rw [List.set_set] at h1;rw [<- h1]
 congr 1
 have h0:(fl QaL (R.set s (p,x)))[s*2]?=some (.int .i64 p):=by
  have:=Qi7 Qbx (R.set s (p,x)) s (p,x) 0 (by omega) (by simp [h]);rw [Nat.add_zero] at this;rw [this];rfl
 refine List.ext_getElem? fun j=>?_;by_cases e:s*2=j
 ·subst e;rw [List.getElem?_set_self (List.getElem?_eq_some_iff.1 h0).1,h0]
 ·rw [List.getElem?_set_ne e]
theorem Qpx {R:List Bn} {s:Nat} {p x0:Int} (hq:R.length=s+30) (hs:0<s) (h:R[s]?=some (p,x0)):Qan R=(R.set s (p,QcA x0 (R.take s))).drop s:=by
 have aa:=(ZZd.1 h).1;unfold Qan;rw [if_neg (by omega),show R.length - 30=s by omega,List.drop_eq_getElem_cons aa]
 have hd:(R.set s (p,QcA x0 (R.take s))).drop s=(p,QcA x0 (R.take s)) :: R.drop (s+1):=by
  rw [List.drop_eq_getElem_cons (by rw [List.length_set];exact aa)];rw [show (R.set s (p,QcA x0 (R.take s))).drop (s+1)=R.drop (s+1) from List.ext_getElem? fun q=>by rw [List.getElem?_drop,List.getElem?_drop,List.getElem?_set_ne (by omega)]];simp
 rw [hd,(List.getElem?_eq_some_iff.1 h).2]
theorem Qcl {w:World} {ao bo:Option Addr} {P N:List Bn} (c c' m n:Nat) (hm:P.length=m) (hn:N.length=n) (lm:m<=30) (ln:n<=30) (hA:QaA w ao P) (hB:QaA w bo N) (kA:∀ x∈P,Qa8 x) (kB:∀ x∈N,Qa8 x) :
  Calls Tryz.prog 178 #[.slice ao m c,.slice bo n c'] w fun e w'=>∃ v' n',e=.returned v'/\w'.ownsRow w.heap.size 199 2 v' n' (fl QaL (Qan (mrg P N)))/\n'=(Qan (mrg P N)).length/\Below w.heap.size w w':=by
 obtain ⟨i0,hi,aA,ax,az⟩:=info_parts QgE;have HA:=Qaa hA;have aU:=Qaa hB;have KA:=Qaa kA;have KB:=Qaa kB;have EM:=Qaa hm;have EN:=Qaa hn;clear hA hB kA kB hm hn;go_enter Tryz.func178,Tryz.ntmps178;go_wp2
 go_loopw [5,6,7] (fun v s t wr=>∃ (i k:Nat) (R:List Bn),i<=m/\k<=n/\s=.int .i64 i/\t=.int .i64 k/\v≠.slice none 0 0/\R.length<=i+k/\wr.ownsRow w.heap.size 199 2 v R.length (fl QaL R)/\Hid (R ++ mrg (P.drop i) (N.drop k)=mrg P N)/\Below w.heap.size w wr) (fun v s t wr=>(m - (RowKit.intOf s).toNat)+(n - (RowKit.intOf t).toNat))
 case atStart=>exact ⟨0,0,[],ZZj _,ZZj _,rfl,rfl,(fun e=>by cases e),ZZa _,World.ownsRow_made w #[] 0 (ZZa _) (ZZj _) rfl,(rfl:[] ++ mrg (P.drop 0) (N.drop 0)=mrg P N),(ZZb _ _).alloc (ZZa _) _⟩
 case round=>
  obtain ⟨i,k,R,a5,ba,rfl,rfl,hv,a1,ad,HR,ae⟩:=hrel;obtain ⟨g,cv,rfl⟩:=Qpc ad hv;obtain ⟨q,hq⟩:∃ q,R.length=q:=⟨_,rfl⟩;rw [hq] at ad a1;rw [hq];have HQ:=Qaa hq;have HO:=Qaa ad;have HB:=Qaa ae;have aB:=Qaa (fun z=>(show (wr.drewN z).ownsRow w.heap.size 199 2 (.slice (some ⟨g,0,none⟩) q cv) q (fl QaL R) from ad));have aw:=Qaa (fun z o=>((Qah ae z).alloc ae.size o:Below w.heap.size w ((wr.drewN z).alloc o)));clear hq hv;have ay:(i<m/\k=n)∨(i<m/\k<n)∨(i=m/\k<n)∨(i=m/\k=n):=by omega
  rcases ay with ⟨aC,aE⟩ | ⟨aC,aE⟩ | ⟨aC,aE⟩ | ⟨aC,aE⟩
  ·subst aE
   obtain ⟨⟨a,u⟩,ap⟩:∃ x,P[i]?=some x:=⟨P[i]'(by have:=EM.out;omega),ZZe _⟩;obtain ⟨b,am,rfl,ag⟩:=HA.out (by have:=EM.out;omega);have aj:=Qab ae (ag i _ ap).1;have ah:=Qab ae (ag i _ ap).2
   have HE:Hid ((R ++ [(a,u)]) ++ mrg (P.drop (i+1)) (N.drop k)=mrg P N):=by
    refine (?_:(R ++ [(a,u)]) ++ mrg (P.drop (i+1)) (N.drop k)=mrg P N);rw [<- HR.out,QhC ap (.inl EN.out.symm),List.append_assoc];rfl
   have d1:decide ((i:Int)<(m:Int))=true:=ZZh (by omega);clear ae ad ag ap;go_wp2
   go_quiet (fail)
   go_wp2_with (at_builtin;refine wpList_append_own _ rfl (.tmp 69) (.tmp 74) 41 rfl w.heap.size 199 i0 (.agg #[.int .i64 0,.int .u64 0]) 2 16 Tryz.underlying41 hi aA ax az rfl (by decide) _ _ _ rfl ((aB.out _).alloc _) ⟨wr.heap.size,0,none⟩ 1 1 (QaL (a,u)) rfl rfl (QaP (cs:=#[.int .i64 a,.int .u64 u]) rfl) (Qb5 _) (by unfold maxLen;omega) (by omega) (by simp;have:=HB.out.size;omega) ?_;intro v1 w1 ab aa ac;have O1:=Qaa ab;have B1:=Qaa ((aw.out _ _).grown aa (by simp;have:=HB.out.size;omega) (fun j hj=>(HO.out.lt j hj).1));have N1:=Qaa (show v1≠.slice none 0 0 from fun e=>by have:=(ac.1 e).2;omega);clear ab aa ac);go_roundw
   case rel=>exact ⟨i+1,k,R ++ [(a,u)],by omega,by omega,by go_num,rfl,N1,by simp;have:=HQ.out;omega,by have:=O1.out;rw [Qha] at this;simpa [HQ.out] using this,HE,B1⟩
   case measure=>simp [RowKit.intOf];omega
  ·obtain ⟨⟨a,u⟩,ap⟩:∃ x,P[i]?=some x:=⟨P[i]'(by have:=EM.out;omega),ZZe _⟩
   obtain ⟨⟨a',u'⟩,av⟩:∃ x,N[k]?=some x:=⟨N[k]'(by have:=EN.out;omega),ZZe _⟩;obtain ⟨b,am,rfl,ag⟩:=HA.out (by have:=EM.out;omega);obtain ⟨b',al,rfl,af⟩:=aU.out (by have:=EN.out;omega);have aj:=Qab ae (ag i _ ap).1;have ah:=Qab ae (ag i _ ap).2;have a3:=Qab ae (af k _ av).1;have ai:=Qab ae (af k _ av).2;obtain ⟨_,hu⟩:=KA.out _ (ZZn ap);obtain ⟨_,aW⟩:=KB.out _ (ZZn av);simp only at hu aW;have d1:decide ((i:Int)<(m:Int))=true:=ZZh (by omega);have d2:((k:Int) == (n:Int))=false:=ZZf.2 (by omega);have d3:((i:Int) == (m:Int))=false:=ZZf.2 (by omega);have aM:=Qaa ap;have aK:=Qaa av;have aO:=Qaa (⟨(ag i _ ap).1,(ag i _ ap).2,(af k _ av).2⟩:w.cell? ⟨b,am+i*2,none⟩=some (.int .i64 a)/\w.cell? ⟨b,am+i*2+1,none⟩=some (.int .u64 u)/\w.cell? ⟨b',al+k*2+1,none⟩=some (.int .u64 u'));clear ae ad ag af ap av;have c3:a<a'∨(¬ a<a'/\a'<a)∨(¬ a<a'/\¬ a'<a):=by omega
   rcases c3 with h1 | ⟨h1,h2⟩ | ⟨h1,h2⟩
   ·have HE:Hid ((R ++ [(a,u)]) ++ mrg (P.drop (i+1)) (N.drop k)=mrg P N):=by
     refine (?_:(R ++ [(a,u)]) ++ mrg (P.drop (i+1)) (N.drop k)=mrg P N);rw [<- HR.out,QhC aM.out (.inr ⟨_,aK.out,h1⟩),List.append_assoc];rfl
    have d4:decide (a<a')=true:=ZZh h1;go_wp2
    go_quiet (fail)
    go_wp2_with (at_builtin;refine wpList_append_own _ rfl (.tmp 69) (.tmp 74) 41 rfl w.heap.size 199 i0 (.agg #[.int .i64 0,.int .u64 0]) 2 16 Tryz.underlying41 hi aA ax az rfl (by decide) _ _ _ rfl ((aB.out _).alloc _) ⟨wr.heap.size,0,none⟩ 1 1 (QaL (a,u)) rfl rfl (QaP (cs:=#[.int .i64 a,.int .u64 u]) rfl) (Qb5 _) (by unfold maxLen;omega) (by omega) (by simp;have:=HB.out.size;omega) ?_;intro v1 w1 ab aa ac;have O1:=Qaa ab;have B1:=Qaa ((aw.out _ _).grown aa (by simp;have:=HB.out.size;omega) (fun j hj=>(HO.out.lt j hj).1));have N1:=Qaa (show v1≠.slice none 0 0 from fun e=>by have:=(ac.1 e).2;omega);clear ab aa ac);go_roundw
    case rel=>exact ⟨i+1,k,R ++ [(a,u)],by omega,by omega,by go_num,by go_num,N1,by simp;have:=HQ.out;omega,by have:=O1.out;rw [Qha] at this;simpa [HQ.out] using this,HE,B1⟩
    case measure=>simp [RowKit.intOf];omega
   ·have HE:Hid ((R ++ [(a',u')]) ++ mrg (P.drop i) (N.drop (k+1))=mrg P N):=by
     refine (?_:(R ++ [(a',u')]) ++ mrg (P.drop i) (N.drop (k+1))=mrg P N);rw [<- HR.out,QhW aK.out (.inr ⟨_,aM.out,h2⟩),List.append_assoc];rfl
    have d4:decide (a<a')=false:=ZZg h1;have d5:decide (a'<a)=true:=ZZh h2;go_wp2
    go_quiet (fail)
    go_wp2
    go_quiet (fail)
    go_wp2_with (at_builtin;refine wpList_append_own _ rfl (.tmp 96) (.tmp 101) 41 rfl w.heap.size 199 i0 (.agg #[.int .i64 0,.int .u64 0]) 2 16 Tryz.underlying41 hi aA ax az rfl (by decide) _ _ _ rfl ((aB.out _).alloc _) ⟨wr.heap.size,0,none⟩ 1 1 (QaL (a',u')) rfl rfl (QaP (cs:=#[.int .i64 a',.int .u64 u']) rfl) (Qb5 _) (by unfold maxLen;omega) (by omega) (by simp;have:=HB.out.size;omega) ?_;intro v1 w1 ab aa ac;have O1:=Qaa ab;have B1:=Qaa ((aw.out _ _).grown aa (by simp;have:=HB.out.size;omega) (fun j hj=>(HO.out.lt j hj).1));have N1:=Qaa (show v1≠.slice none 0 0 from fun e=>by have:=(ac.1 e).2;omega);clear ab aa ac);go_roundw
    case rel=>exact ⟨i,k+1,R ++ [(a',u')],by omega,by omega,by go_num,by go_num,N1,by simp;have:=HQ.out;omega,by have:=O1.out;rw [Qha] at this;simpa [HQ.out] using this,HE,B1⟩
    case measure=>simp [RowKit.intOf];omega
   ·have HE:Hid ((R ++ [(a,Qar u u')]) ++ mrg (P.drop (i+1)) (N.drop (k+1))=mrg P N):=by
     refine (?_:(R ++ [(a,Qar u u')]) ++ mrg (P.drop (i+1)) (N.drop (k+1))=mrg P N);rw [<- HR.out,QmB aM.out aK.out (by show a=a'; omega),List.append_assoc];rfl
    have d4:decide (a<a')=false:=ZZg h1;have d5:decide (a'<a)=false:=ZZg h2;go_wp2
    go_quiet (fail)
    go_wp2
    go_quiet (fail)
    go_wp2_with fail;have a8:=Qaa (fun (W:World) (hW:W.heap=wr.heap)=>(show W.ownsRow w.heap.size 199 2 (.slice (some ⟨g,0,none⟩) q cv) q (fl QaL R) from by unfold World.ownsRow;rw [hW];exact HO.out));have a7:=Qaa (fun (W:World) (hW:W.heap=wr.heap) (h1:W.os=wr.os) (h2:W.tape=wr.tape) (h3:W.output=wr.output)=>(⟨h1.trans HB.out.os,h2.trans HB.out.tape,h3.trans HB.out.output,by rw [hW];exact HB.out.size,fun k hk=>by rw [hW];exact HB.out.block k hk⟩:Below w.heap.size w W));refine Qaj (fun W=>W.cell? ⟨b,am+i*2,none⟩=some (.int .i64 a)/\W.cell? ⟨b,am+i*2+1,none⟩=some (.int .u64 u)/\W.cell? ⟨b',al+k*2+1,none⟩=some (.int .u64 u')) 999 (by kernel_rfl) ?_;refine QcY (i:=0) (d:=21) (v:=.slice (some ⟨g,0,none⟩) q cv) rfl rfl (by kernel_rfl) (by kernel_rfl) (by kernel_rfl) (by decide) (by kernel_rfl) (fun _ _ _ h=>h) (Or.inl ⟨by rfl,fun W hW=>?_⟩) ⟨aj,ah,ai⟩ ?_
    ·obtain ⟨x0,x1,x2⟩:=hW
     go_simp
    refine QcY (i:=1) (d:=22) (v:=.slice (some ⟨b,am,none⟩) m c) rfl rfl (by kernel_rfl) (by kernel_rfl) (by kernel_rfl) (by decide) (by kernel_rfl) (fun _ _ _ h=>h) (Or.inl ⟨by rfl,fun W hW=>?_⟩) ⟨aj,ah,ai⟩ ?_
    ·obtain ⟨x0,x1,x2⟩:=hW
     go_simp
    refine QcY (i:=2) (d:=23) (v:=.int .i64 i) rfl rfl (by kernel_rfl) (by kernel_rfl) (by kernel_rfl) (by decide) (by kernel_rfl) (fun _ _ _ h=>h) (Or.inl ⟨by rfl,fun W hW=>?_⟩) ⟨aj,ah,ai⟩ ?_
    ·obtain ⟨x0,x1,x2⟩:=hW
     go_simp
    simp only [sX];refine QcY (i:=3) (d:=24) (v:=.pointer (some ⟨b,am+i*2,none⟩)) rfl rfl (by kernel_rfl) (by kernel_rfl) (by kernel_rfl) (by decide) (by kernel_rfl) (fun _ _ _ h=>h) (Or.inl ⟨by rfl,fun W hW=>?_⟩) ⟨aj,ah,ai⟩ ?_
    ·obtain ⟨x0,x1,x2⟩:=hW
     go_simp
    refine QcY (i:=4) (d:=25) (v:=.pointer (some ⟨b,am+i*2,none⟩)) rfl rfl (by kernel_rfl) (by kernel_rfl) (by kernel_rfl) (by decide) (by kernel_rfl) (fun _ _ _ h=>h) (Or.inl ⟨by rfl,fun W hW=>?_⟩) ⟨aj,ah,ai⟩ ?_
    ·obtain ⟨x0,x1,x2⟩:=hW
     go_simp
    refine QcY (i:=5) (d:=26) (v:=.int .i64 a) rfl rfl (by kernel_rfl) (by kernel_rfl) (by kernel_rfl) (by decide) (by kernel_rfl) (fun _ _ _ h=>h) (Or.inl ⟨by rfl,fun W hW=>?_⟩) ⟨aj,ah,ai⟩ ?_
    ·obtain ⟨x0,x1,x2⟩:=hW
     go_simp
    simp only [sX];refine QcY (i:=6) (d:=27) (v:=.slice (some ⟨b,am,none⟩) m c) rfl rfl (by kernel_rfl) (by kernel_rfl) (by kernel_rfl) (by decide) (by kernel_rfl) (fun _ _ _ h=>h) (Or.inl ⟨by rfl,fun W hW=>?_⟩) ⟨aj,ah,ai⟩ ?_
    ·obtain ⟨x0,x1,x2⟩:=hW
     go_simp
    refine QcY (i:=7) (d:=28) (v:=.int .i64 i) rfl rfl (by kernel_rfl) (by kernel_rfl) (by kernel_rfl) (by decide) (by kernel_rfl) (fun _ _ _ h=>h) (Or.inl ⟨by rfl,fun W hW=>?_⟩) ⟨aj,ah,ai⟩ ?_
    ·obtain ⟨x0,x1,x2⟩:=hW
     go_simp
    refine QcY (i:=8) (d:=29) (v:=.pointer (some ⟨b,am+i*2,none⟩)) rfl rfl (by kernel_rfl) (by kernel_rfl) (by kernel_rfl) (by decide) (by kernel_rfl) (fun _ _ _ h=>h) (Or.inl ⟨by rfl,fun W hW=>?_⟩) ⟨aj,ah,ai⟩ ?_
    ·obtain ⟨x0,x1,x2⟩:=hW
     go_simp
    simp only [sX];refine QcY (i:=9) (d:=30) (v:=.pointer (some ⟨b,am+i*2+1,none⟩)) rfl rfl (by kernel_rfl) (by kernel_rfl) (by kernel_rfl) (by decide) (by kernel_rfl) (fun _ _ _ h=>h) (Or.inl ⟨by rfl,fun W hW=>?_⟩) ⟨aj,ah,ai⟩ ?_
    ·obtain ⟨x0,x1,x2⟩:=hW
     go_simp
    refine QcY (i:=10) (d:=31) (v:=.int .u64 u) rfl rfl (by kernel_rfl) (by kernel_rfl) (by kernel_rfl) (by decide) (by kernel_rfl) (fun _ _ _ h=>h) (Or.inl ⟨by rfl,fun W hW=>?_⟩) ⟨aj,ah,ai⟩ ?_
    ·obtain ⟨x0,x1,x2⟩:=hW
     go_simp
    refine QcY (i:=11) (d:=32) (v:=.slice (some ⟨b',al,none⟩) n c') rfl rfl (by kernel_rfl) (by kernel_rfl) (by kernel_rfl) (by decide) (by kernel_rfl) (fun _ _ _ h=>h) (Or.inl ⟨by rfl,fun W hW=>?_⟩) ⟨aj,ah,ai⟩ ?_
    ·obtain ⟨x0,x1,x2⟩:=hW
     go_simp
    simp only [sX];refine QcY (i:=12) (d:=33) (v:=.int .i64 k) rfl rfl (by kernel_rfl) (by kernel_rfl) (by kernel_rfl) (by decide) (by kernel_rfl) (fun _ _ _ h=>h) (Or.inl ⟨by rfl,fun W hW=>?_⟩) ⟨aj,ah,ai⟩ ?_
    ·obtain ⟨x0,x1,x2⟩:=hW
     go_simp
    refine QcY (i:=13) (d:=34) (v:=.pointer (some ⟨b',al+k*2,none⟩)) rfl rfl (by kernel_rfl) (by kernel_rfl) (by kernel_rfl) (by decide) (by kernel_rfl) (fun _ _ _ h=>h) (Or.inl ⟨by rfl,fun W hW=>?_⟩) ⟨aj,ah,ai⟩ ?_
    ·obtain ⟨x0,x1,x2⟩:=hW
     go_simp
    refine QcY (i:=14) (d:=35) (v:=.pointer (some ⟨b',al+k*2+1,none⟩)) rfl rfl (by kernel_rfl) (by kernel_rfl) (by kernel_rfl) (by decide) (by kernel_rfl) (fun _ _ _ h=>h) (Or.inl ⟨by rfl,fun W hW=>?_⟩) ⟨aj,ah,ai⟩ ?_
    ·obtain ⟨x0,x1,x2⟩:=hW
     go_simp
    simp only [sX];refine QcY (i:=15) (d:=36) (v:=.int .u64 u') rfl rfl (by kernel_rfl) (by kernel_rfl) (by kernel_rfl) (by decide) (by kernel_rfl) (fun _ _ _ h=>h) (Or.inl ⟨by rfl,fun W hW=>?_⟩) ⟨aj,ah,ai⟩ ?_
    ·obtain ⟨x0,x1,x2⟩:=hW
     go_simp
    simp only [sX];refine onE 16 fun K hK=>?_;go_simp;refine (Qbj _ _ hu aW _).mono ?_;rintro e w8 ⟨rfl,rfl⟩;dsimp only;refine hK.out _ _ (fun _=>⟨aj,ah,ai⟩) ?_
    try simp only [sX]
    refine QcY (i:=17) (d:=38) (v:=.agg #[.int .i64 a,.int .u64 (Qar u u')]) rfl rfl (by kernel_rfl) (by kernel_rfl) (by kernel_rfl) (by decide) (by kernel_rfl) (fun _ _ _ h=>h) (Or.inl ⟨by rfl,fun W hW=>?_⟩) ⟨aj,ah,ai⟩ ?_
    ·obtain ⟨x0,x1,x2⟩:=hW
     go_simp
    simp only [sX];have aJ:=Qaa (fun (W:World) (hW:Below w.heap.size w W)=>(⟨Qab hW aO.out.1,Qab hW aO.out.2.1,Qab hW aO.out.2.2⟩:(fun W=>W.cell? ⟨b,am+i*2,none⟩=some (.int .i64 a)/\W.cell? ⟨b,am+i*2+1,none⟩=some (.int .u64 u)/\W.cell? ⟨b',al+k*2+1,none⟩=some (.int .u64 u')) W));refine onE 18 fun K hK=>?_;go_simp;refine hK.out _ _ (fun _=>aJ.out _ (aw.out _ _)) ?_
    try simp only [sX]
    refine onE 19 fun K hK=>?_;rw [if_pos (by rfl)];refine wp_append_own _ (.tmp 21) (.tmp 39) 41 rfl w.heap.size 199 i0 (.agg #[.int .i64 0,.int .u64 0]) 2 16 Tryz.underlying41 hi aA ax az rfl (by decide) _ _ _ rfl ((aB.out _).alloc _) ⟨wr.heap.size,0,none⟩ 1 1 (QaL (a,(Qar u u'))) rfl rfl (QaP (cs:=#[.int .i64 a,.int .u64 (Qar u u')]) rfl) (Qb5 _) (by unfold maxLen;omega) (by omega) (by simp;have:=HB.out.size;omega) ?_;intro v1 w1 ab aa ac;have O1:=Qaa ab;have B1:=Qaa ((aw.out _ _).grown aa (by simp;have:=HB.out.size;omega) (fun j hj=>(HO.out.lt j hj).1));have N1:=Qaa (show v1≠.slice none 0 0 from fun e=>by have:=(ac.1 e).2;omega);clear ab aa ac;refine hK.out _ _ (fun _=>aJ.out _ B1) ?_;obtain ⟨bc,a9,e1⟩:=Qam O1;subst e1
    try simp only [sX]
    refine onE 20 fun K hK=>?_;go_simp;refine hK.out _ _ (fun _=>aJ.out _ B1) ?_
    try simp only [sX]
    refine dnE ?_ _;go_wp2;go_roundw
    case rel=>exact ⟨i+1,k+1,R ++ [(a,Qar u u')],by omega,by omega,by go_num,by go_num,N1,by simp;have:=HQ.out;omega,by have:=O1.out;rw [Qha] at this;simpa [HQ.out] using this,HE,B1⟩
    case measure=>simp [RowKit.intOf];omega
  ·subst aC
   obtain ⟨⟨a',u'⟩,av⟩:∃ x,N[k]?=some x:=⟨N[k]'(by have:=EN.out;omega),ZZe _⟩;obtain ⟨b',al,rfl,af⟩:=aU.out (by have:=EN.out;omega);have a3:=Qab ae (af k _ av).1;have ai:=Qab ae (af k _ av).2
   have HE:Hid ((R ++ [(a',u')]) ++ mrg (P.drop i) (N.drop (k+1))=mrg P N):=by
    refine (?_:(R ++ [(a',u')]) ++ mrg (P.drop i) (N.drop (k+1))=mrg P N);rw [<- HR.out,QhW av (.inl EM.out.symm),List.append_assoc];rfl
   have d2:((k:Int) == (n:Int))=false:=ZZf.2 (by omega);have d1:decide ((i:Int)<(i:Int))=false:=ZZg (by omega);clear ae ad af av;go_wp2
   go_quiet (fail)
   go_wp2
   go_quiet (fail)
   go_wp2_with (at_builtin;refine wpList_append_own _ rfl (.tmp 96) (.tmp 101) 41 rfl w.heap.size 199 i0 (.agg #[.int .i64 0,.int .u64 0]) 2 16 Tryz.underlying41 hi aA ax az rfl (by decide) _ _ _ rfl ((aB.out _).alloc _) ⟨wr.heap.size,0,none⟩ 1 1 (QaL (a',u')) rfl rfl (QaP (cs:=#[.int .i64 a',.int .u64 u']) rfl) (Qb5 _) (by unfold maxLen;omega) (by omega) (by simp;have:=HB.out.size;omega) ?_;intro v1 w1 ab aa ac;have O1:=Qaa ab;have B1:=Qaa ((aw.out _ _).grown aa (by simp;have:=HB.out.size;omega) (fun j hj=>(HO.out.lt j hj).1));have N1:=Qaa (show v1≠.slice none 0 0 from fun e=>by have:=(ac.1 e).2;omega);clear ab aa ac);go_roundw
   case rel=>exact ⟨i,k+1,R ++ [(a',u')],by omega,by omega,by go_num,by go_num,N1,by simp;have:=HQ.out;omega,by have:=O1.out;rw [Qha] at this;simpa [HQ.out] using this,HE,B1⟩
   case measure=>simp [RowKit.intOf];omega
  ·subst aC aE
   have HM:Hid (R=mrg P N):=by
    refine (?_:R=mrg P N);rw [<- HR.out,<- EM.out,<- EN.out,List.drop_length,List.drop_length,Qbf,List.append_nil]
   have aL:Hid (∀ z∈R,Qa8 z):=by
    refine (?_:∀ z∈R,Qa8 z);rw [HM.out];exact mrg_ok KA KB
   clear HR ae;by_cases a6:q<=30
   ·have HE:Hid (Qan (mrg P N)=R):=(by rw [<- HM.out];exact if_pos (by have:=HQ.out;omega):Qan (mrg P N)=R)
    have aD:∀ j z,(fl QaL R)[j]?=some z->wr.cell? ((⟨g,0,none⟩:Addr).add j)=some z:=fun j z hz=>ad.cells rfl j z hz;have aN:=Qaa aD;clear ad aD;have d0:¬ (0:Int)<(q:Int) - 30:=by omega
    go_wp2
    go_loopw [9] (fun z w2=>z=.int .i64 0/\w2=wr) (fun z w2=>0)
    case atStart=>exact ⟨rfl,rfl⟩
    case round=>
     obtain ⟨rfl,rfl⟩:=hrel;go_wp2_with (at_builtin;refine wpList_append_own _ rfl (.tmp 133) (.tmp 134) 41 rfl w.heap.size 199 i0 (.agg #[.int .i64 0,.int .u64 0]) 2 16 Tryz.underlying41 hi aA ax az rfl (by decide) _ _ _ rfl (World.ownsRow_made _ #[] 0 HB.out.size (Nat.zero_le _) rfl) ⟨g,0,none⟩ q cv (fl QaL R) rfl (by rw [QcO Qbx];have:=HQ.out;omega) (fun j z hz=>by have:=aN.out j z hz;exact QeN this _) (QfM _) (by unfold maxLen;omega) (by omega) (by simp;have:=HB.out.size;omega) ?_;intro v1 w1 ab aa ac;simp only [Nat.zero_add,List.nil_append] at ab;have O1:=Qaa ab;have B1:=Qaa ((HB.out.alloc HB.out.size _).grown aa (by simp;have:=HB.out.size;omega) (fun j hj=>by cases hj;exact HB.out.size));clear ab aa ac);go_ret;exact ⟨_,_,rfl,by rw [HE.out];exact O1.out,by rw [HE.out];exact HQ.out.symm,B1⟩
   ·obtain ⟨s,hs⟩:∃ s,q=s+30:=⟨q - 30,by omega⟩
    subst hs;obtain ⟨⟨p,x0⟩,aI⟩:∃ z,R[s]?=some z:=⟨R[s]'(by have:=HQ.out;omega),ZZe _⟩;obtain ⟨_,aY⟩:=aL.out _ (ZZn aI);simp only at aY;have aP:=Qaa aI;have a4:=QjU ad;have aS:=Qis ad;have e1:((s+30:Nat):Int) - 30=(s:Int):=by omega
    have a0:0<s:=by omega
    clear ad aI;go_wp2
    go_loopw [9] (fun z w2=>∃ j:Nat,j<=s/\z=.int .i64 j/\w2.ownsRow w.heap.size 199 2 (.slice (some ⟨g,0,none⟩) (s+30) cv) (s+30) (fl QaL (R.set s (p,QcA x0 (R.take j))))/\Below w.heap.size w w2) (fun z w2=>s - (RowKit.intOf z).toNat)
    case atStart=>exact ⟨0,Nat.zero_le _,rfl,by rw [show QcA x0 (R.take 0)=x0 from rfl,Qk6 aP.out];exact HO.out,HB⟩
    case round=>
     clear HO HB aB aw;obtain ⟨j,hj,rfl,ad,ae⟩:=hrel;obtain ⟨x,hx⟩:∃ x,QcA x0 (R.take j)=x:=⟨_,rfl⟩;rw [hx] at ad;have a2:U64 x:=by rw [<- hx];exact Qit aY (fun y hy=>aL.out y (ZZo hy))
     have HX:=Qaa hx;have HO:=Qaa ad;have HB:=Qaa ae;have an:s+30=(R.set s (p,x)).length:=by rw [List.length_set];exact HQ.out.symm
     have aX:s<R.length:=by have:=HQ.out;omega
     clear hx;by_cases bf:j<s
     ·obtain ⟨⟨b,y⟩,aF⟩:∃ z,R[j]?=some z:=⟨R[j]'(by omega),ZZe (by omega)⟩
      obtain ⟨_,hy⟩:=aL.out _ (ZZn aF);simp only at hy;have aG:=(QdF ad an (k:=s) (x:=(p,x)) (by simp [aX])).2;have aH:=(QdF ad an (k:=j) (x:=(b,y)) (by rw [List.getElem?_set_ne (by omega)];exact aF)).2;have aV:=ad.frozenAt (s*2+1)
      have HW:Hid (Qar x y=QcA x0 (R.take (j+1))):=by
       refine (?_:Qar x y=QcA x0 (R.take (j+1)));rw [QhO aF,HX.out]
      have ak:(fun W=>W.cell? ⟨g,s*2+1,none⟩=some (.int .u64 x)/\W.cell? ⟨g,j*2+1,none⟩=some (.int .u64 y)/\W.frozen? ⟨g,s*2+1,none⟩=false) wr.drew:=⟨aG,aH,aV⟩;simp only at aG aH;have aQ:=Qaa an;have bb:¬ (s:Int)+30<=(s:Int):=by omega
      have bd:¬ (s:Int)+30<=(j:Int):=by omega
      clear ad ae aF aG aH aV an;go_wp2_with fail;refine Qaj (fun W=>W.cell? ⟨g,s*2+1,none⟩=some (.int .u64 x)/\W.cell? ⟨g,j*2+1,none⟩=some (.int .u64 y)/\W.frozen? ⟨g,s*2+1,none⟩=false) 15 (by kernel_rfl) ?_;refine tkL 0 (.slice (some ⟨g,0,none⟩) (s+30) cv) ak (fun W hW=>?_) ?_
      ·obtain ⟨aq,au,ar⟩:=hW
       go_simp
      refine tkL 1 (.int .i64 s) ak (fun W hW=>?_) ?_
      ·obtain ⟨aq,au,ar⟩:=hW
       go_simp
      refine tkL 2 (.slice (some ⟨g,0,none⟩) (s+30) cv) ak (fun W hW=>?_) ?_
      ·obtain ⟨aq,au,ar⟩:=hW
       go_simp
      simp only [sX];refine tkL 3 (.int .i64 s) ak (fun W hW=>?_) ?_
      ·obtain ⟨aq,au,ar⟩:=hW
       go_simp
      refine tkL 4 (.pointer (some ⟨g,s*2,none⟩)) ak (fun W hW=>?_) ?_
      ·obtain ⟨aq,au,ar⟩:=hW
       go_simp
      refine tkL 5 (.pointer (some ⟨g,s*2+1,none⟩)) ak (fun W hW=>?_) ?_
      ·obtain ⟨aq,au,ar⟩:=hW
       go_simp
      simp only [sX];refine tkL 6 (.int .u64 x) ak (fun W hW=>?_) ?_
      ·obtain ⟨aq,au,ar⟩:=hW
       go_simp
      refine tkL 7 (.slice (some ⟨g,0,none⟩) (s+30) cv) ak (fun W hW=>?_) ?_
      ·obtain ⟨aq,au,ar⟩:=hW
       go_simp
      refine tkL 8 (.int .i64 j) ak (fun W hW=>?_) ?_
      ·obtain ⟨aq,au,ar⟩:=hW
       go_simp
      simp only [sX];refine tkL 9 (.pointer (some ⟨g,j*2,none⟩)) ak (fun W hW=>?_) ?_
      ·obtain ⟨aq,au,ar⟩:=hW
       go_simp
      refine tkL 10 (.pointer (some ⟨g,j*2+1,none⟩)) ak (fun W hW=>?_) ?_
      ·obtain ⟨aq,au,ar⟩:=hW
       go_simp
      refine tkL 11 (.int .u64 y) ak (fun W hW=>?_) ?_
      ·obtain ⟨aq,au,ar⟩:=hW
       go_simp
      simp only [sX];refine onE 12 fun K hK=>?_;go_simp;refine (Qbj _ _ a2 hy _).mono ?_;rintro e w8 ⟨rfl,rfl⟩;dsimp only;refine gK hK ak ?_
      try simp only [sX]
      refine onE 13 fun K hK=>?_;go_simp;refine gK hK ak ?_
      try simp only [sX]
      refine onE 14 fun K hK=>?_;go_simp;refine gK hK ak ?_
      try simp only [sX]
      obtain ⟨z0,z1,z2⟩:=ak;refine onE 15 fun K hK=>?_;go_simp;refine hK.out _ _ (fun h=>absurd rfl h) ?_
      try simp only [sX]
      refine dnE ?_ _;go_wp2;go_roundw
      case rel=>
       refine ⟨j+1,by omega,by go_num,?_,?_⟩
       ·have o1:=(HO.out.drew.stored (s*2+1) (.int .u64 (Qar x y))).1
        have e2:(fl QaL (R.set s (p,x))).set (s*2+1) (.int .u64 (Qar x y))=fl QaL (R.set s (p,Qar x y)):=Qmo aX;rw [e2] at o1;rw [<- HW.out];exact o1
       ·exact HB.out.drew.setCell (Qlf HO).1 _
      case measure=>simp [RowKit.intOf];omega
     ·have aT:j=s:=by omega
      have HE:Hid (Qan (mrg P N)=(R.set s (p,x)).drop s):=by
       refine (?_:Qan (mrg P N)=(R.set s (p,x)).drop s);rw [<- HM.out,<- HX.out,aT];exact Qpx HQ a0 aP
      have aD:∀ jj z,(fl QaL ((R.set s (p,x)).drop s))[jj]?=some z->wr.cell? ((⟨g,s*2,none⟩:Addr).add jj)=some z:=fun jj z hz=>by
       rw [QiO Qbx,List.getElem?_drop] at hz;have:=ad.cells rfl (s*2+jj) z hz;rw [Addr.add_lit] at this ⊢
       simpa using this
      have aZ:((R.set s (p,x)).drop s).length=30:=by rw [List.length_drop,<- an];omega
      have aN:=Qaa aD;have aR:=Qaa aZ;have be:¬ cv=s:=by omega
      clear ad ae aD aZ an aT;go_wp2_with (at_builtin;refine wpList_append_own _ rfl (.tmp 133) (.tmp 134) 41 rfl w.heap.size 199 i0 (.agg #[.int .i64 0,.int .u64 0]) 2 16 Tryz.underlying41 hi aA ax az rfl (by decide) _ _ _ rfl (World.ownsRow_made _ #[] 0 HB.out.size (Nat.zero_le _) rfl) ⟨g,s*2,none⟩ _ _ (fl QaL ((R.set s (p,x)).drop s)) rfl (by rw [QcO Qbx,aR.out] <;> omega) (fun j z hz=>by have:=aN.out j z hz;exact QeN this _) (QfM _) (by unfold maxLen;omega) (by omega) (by simp;have:=HB.out.size;omega) ?_;intro v1 w1 ab aa ac;simp only [Nat.zero_add,List.nil_append,Nat.add_sub_cancel_left] at ab;have O1:=Qaa ab;have B1:=Qaa ((HB.out.alloc HB.out.size _).grown aa (by simp;have:=HB.out.size;omega) (fun j hj=>by cases hj;exact HB.out.size));clear ab aa ac);go_ret;exact ⟨_,_,rfl,by rw [HE.out];exact O1.out,by rw [HE.out];exact aR.out.symm,B1⟩
theorem QjB {w:World} {A:Addr} {L:List Bn} (hA:QaA w (some A) L):∀ j z,(fl QaL L)[j]?=some z->w.cell? (A.add j)=some z:=fun j z hz=>by
 have hj:=(ZZd.1 hz).1;rw [QcO Qbx] at hj;obtain ⟨b,off,e,hcell⟩:=hA (by omega)
 cases e
 obtain ⟨x,hx⟩:∃ x,L[j / 2]?=some x:=⟨L[j / 2]'(by omega),ZZe (by omega)⟩;have h1:=Qi7 Qbx L (j / 2) x (j % 2) (by omega) hx;rw [show j / 2*2+j % 2=j by omega,hz] at h1;have hc:=hcell (j / 2) x hx;rw [Addr.add_lit];have:j % 2=0∨j % 2=1:=by omega
 rcases this with e | e
 ·rw [e] at h1;rw [show off+j=off+j / 2*2 by omega,hc.1];simpa [QaL] using h1.symm
 ·rw [e] at h1;rw [show off+j=off+j / 2*2+1 by omega,hc.2];simpa [QaL] using h1.symm
theorem QkX {w:World} {L:List Bn} {n:Nat} (h:QaA w none L) (hn:L.length=n):n=0:=by
 rcases Nat.eq_zero_or_pos n with e | e
 ·exact e
 ·obtain ⟨b,aa,e1,_⟩:=h (by omega);cases e1
theorem Qc8 {P:Program} (w:World) {ops:Array Oper} {rest:List Oper} {o:Oper} {a:Act} {Q:Exit->Act->World->Prop} (hgd:o.guard=none) (s x:Operand) (t:TypeId)
  (ho:o.op=.call { callee:=.builtin .append,args:=#[s,x],argTypes:=#[t,t] })
  (base:Nat) (e:TypeId) (i:TypeInfo) (z:Value) (size bytes:Nat) (ht:P.underlying t=some (.slice e)) (hi:P.info? e=some i) (hz:i.zero=some z)
  (hsize:i.size=size) (hby:i.bytes=bytes) (hzs:z.cells.size=size) (hsz:0<size)
  (v:Value) (n:Nat) (xs:List Value) (hs:a.eval s=v) (hown:w.ownsRow base e size v n xs)
  (xo:Option Addr) (m c:Nat) (news:List Value) (hx:a.eval x=.slice xo m c) (hl:news.length=m*size) (hno:xo=none->m=0/\c=0) (hnews:∀ ad,xo=some ad->∀ j u,news[j]?=some u->w.cell? (ad.add j)=some u) (h1:∀ u∈news,u.oneCell'=true)
  (h63:n+m<=maxLen) (hbytes:(n+m)*bytes<=140737488355328) (hbase:base<=w.heap.size)
  (h:∀ v' w',w'.ownsRow base e size v' (n+m) (xs ++ news)->w.grownBy w' v.ownBlock->(v'=.slice none 0 0↔v=.slice none 0 0/\m=0)->wpList P ops Q rest (a.put o.dst v') w'):wpList P ops Q (o :: rest) a w:=by
 cases xo with
 | some ad=>exact wpList_append_own w hgd s x t ho base e i z size bytes ht hi hz hsize hby hzs hsz v n xs hs hown ad m c news hx hl (hnews ad rfl) h1 h63 hbytes hbase h
 | none=>
  obtain ⟨rfl,rfl⟩:=hno rfl;obtain rfl:news=[]:=List.eq_nil_of_length_eq_zero (by rw [hl,Nat.zero_mul]);refine wpList_plain hgd fun _ hK=>?_;have hr:=run_append_owned_none (P:=P) (w:=w) base t o.type e i size ht hi v n xs hown;unfold Oper.wp execOp;simp only [ho,resolve,invoke,builtin,Sem.run_bind,Sem.run_pure,Result.andThen_ok,List.map_toArray,List.map_cons,List.map_nil,hs,hx,hr];exact hK _ _ (h v w (by rw [Nat.add_zero,List.append_nil];exact hown) (World.grownBy.refl _ _) (by simp))
structure CopyAt (w w1:World) (z h l:Int) (n1 n:Value) (pn:Nat) (P:List Bn):Prop where
 bel:∀ o,Below w.heap.size w ((w1.setCell ⟨w.heap.size,1,none⟩ n1).alloc o)
 made:((w1.setCell ⟨w.heap.size,1,none⟩ n1).alloc (.cells #[] 199)).ownsRow w1.heap.size 199 2 (.slice (some ⟨w1.heap.size,0,none⟩) 0 0) 0 []
 grow:∀ {o W},((w1.setCell ⟨w.heap.size,1,none⟩ n1).alloc o).grownBy W (some w1.heap.size)->Below w.heap.size w W/\W.heap[w.heap.size]?=some (.cells #[.int .u64 z,n1,n,.int .i64 h,.int .u64 l] 43 (0,0))/\W.heap[w.heap.size+1]?=some (.cells Qax 43 (0,0))/\OwnB W w.heap.size n1 pn P
 lt:∀ k,n1.ownBlock=some k->k<w1.heap.size
 le:w.heap.size<=w1.heap.size
theorem Qnt {w w1:World} {z h l:Int} {p n1 n:Value} {pn:Nat} {P:List Bn} (hT:Below w.heap.size w w1) (hR:w1.heap[w.heap.size]?=some (.cells #[.int .u64 z,p,n,.int .i64 h,.int .u64 l] 43 (0,0))) (hS:w1.heap[w.heap.size+1]?=some (.cells Qax 43 (0,0))) (hO:OwnB w1 w.heap.size n1 pn P) (hz:w.heap.size+1+1<w1.heap.size):CopyAt w w1 z h l n1 n pn P:=by
 have hB:Below w.heap.size w (w1.setCell ⟨w.heap.size,1,none⟩ n1):=hT.setCell (ZZa _) _;refine ⟨fun o=>hB.alloc (by simp;omega) o,?_,fun {o W} hg=>?_,fun k e=>(hO.lt k e).2,by omega⟩
 ·have:=World.ownsRow_made (base:=w1.heap.size) (e:=199) (size:=2) (w1.setCell ⟨w.heap.size,1,none⟩ n1) #[] 0 (by simp) (Nat.zero_le _) rfl
  simpa using this
 ·have hb:Below w1.heap.size (w1.setCell ⟨w.heap.size,1,none⟩ n1) W:=((Below.refl _ _).alloc (by simp) o).grown hg (by simp) (fun k e=>by cases e;exact Nat.le_refl _)
  have aa:Below (w1.setCell ⟨w.heap.size,1,none⟩ n1).heap.size (w1.setCell ⟨w.heap.size,1,none⟩ n1) W:=hb.mono (by simp);refine ⟨hB.trans (hb.mono (by omega)),?_,?_,(hO.set (hO.ne hR (by decide)) _).past aa⟩
  ·rw [hb.block _ (by omega)];exact ZZl w1 w.heap.size 1 _ _ _ hR
  ·rw [hb.block _ (by omega),heap_setCell_other _ _ _ _ (by simp)];exact hS
theorem Qgw {w:World} {z h l:Int} {pa na:Option Addr} {pn pc nn nc:Nat} {P N:List Bn} (hp:P.length=pn) (hn:N.length=nn) (lp:pn<=1048576) (ln:nn<=1048576) (hP:QaA w pa P) (hN:QaA w na N) (cA:pa=none->pc=0) (cA':na=none->nc=0) :
  Calls Tryz.prog 174 #[.agg #[.int .u64 z,.slice pa pn pc,.slice na nn nc,.int .i64 h,.int .u64 l]] w fun e w'=>∃ v,e=.returned v/\QeH w' w.heap.size v z P N h l/\Below w.heap.size w w':=by
 obtain ⟨i0,hi,av,ar,ay⟩:=info_parts QgE;have HP:=Qaa hP;have HN:=Qaa hN;have EP:=Qaa hp;have EN:=Qaa hn;have CA:=Qaa cA;have az:=Qaa cA';clear hP hN hp hn cA cA';have hW:∀ o1 o2 o3,Below w.heap.size w (((w.alloc o1).alloc o2).alloc o3):=fun o1 o2 o3=>(((Below.refl _ _).alloc (Nat.le_refl _) _).alloc (by simp) _).alloc (by simp;omega) _;have HW:=Qaa hW
 have hM:∀ o1 o2,(((w.alloc o1).alloc o2).alloc (.cells #[] 199)).ownsRow w.heap.size 199 2 (.slice (some ⟨w.heap.size+1+1,0,none⟩) 0 0) 0 []:=fun o1 o2=>by
  have:=World.ownsRow_made (base:=w.heap.size) (e:=199) (size:=2) ((w.alloc o1).alloc o2) #[] 0 (by simp;omega) (Nat.zero_le _) rfl
  simpa using this
 have HM:=Qaa hM
 have hG:∀ o3 W,(((w.alloc (.cells #[.int .u64 z,.slice pa pn pc,.slice na nn nc,.int .i64 h,.int .u64 l] 43)).alloc (.cells Qax 43)).alloc o3).grownBy W (some (w.heap.size+1+1))->Below w.heap.size w W/\W.heap[w.heap.size]?=some (.cells #[.int .u64 z,.slice pa pn pc,.slice na nn nc,.int .i64 h,.int .u64 l] 43 (0,0))/\W.heap[w.heap.size+1]?=some (.cells Qax 43 (0,0))/\w.heap.size+1+1<W.heap.size:=fun o3 W hg=>by
  have hb:Below (w.heap.size+1+1) (((w.alloc (.cells #[.int .u64 z,.slice pa pn pc,.slice na nn nc,.int .i64 h,.int .u64 l] 43)).alloc (.cells Qax 43)).alloc o3) W:=(Below.refl _ _).grown hg (by simp) (fun k e=>by cases e;exact Nat.le_refl _);refine ⟨(hW _ _ _).grown hg (by simp;omega) (fun k e=>by cases e;omega),?_,?_,by have:=hg.size;simp at this;omega⟩
  ·rw [hb.block _ (by omega)]
   have h2:Below (w.heap.size+1) (w.alloc (.cells #[.int .u64 z,.slice pa pn pc,.slice na nn nc,.int .i64 h,.int .u64 l] 43)) (((w.alloc (.cells #[.int .u64 z,.slice pa pn pc,.slice na nn nc,.int .i64 h,.int .u64 l] 43)).alloc (.cells Qax 43)).alloc o3):=((Below.refl _ _).alloc (by simp) _).alloc (by simp) _;rw [h2.block _ (by omega)];exact ZZk w _
  ·rw [hb.block _ (by omega)]
   exact Qq8 w _ _ _ _
 have HG:=Qaa hG;clear hW hM hG;go_enter Tryz.func174,Tryz.ntmps174
 go_wp2_with (first
  | (at_builtin;refine Qc8 _ rfl (.tmp 3) (.tmp 5) 41 rfl w.heap.size 199 i0 (.agg #[.int .i64 0,.int .u64 0]) 2 16 Tryz.underlying41 hi av ar ay rfl (by decide) _ _ _ rfl (HM.out _ _) pa pn pc (fl QaL P) rfl (by rw [QcO Qbx,EP.out]) (fun e=>⟨QkX (e ▸ HP.out) EP,CA.out e⟩) (fun A e=>QjB (e ▸ Qae HP (HW.out _ _ _))) (QfM _) (by unfold maxLen;omega) (by omega) (by simp;omega) ?_;intro v1 w1 aa ad ai;simp only [Nat.zero_add,List.nil_append] at aa;obtain ⟨al,c1,rfl⟩:=Qam aa;obtain ⟨an,aj,au,am⟩:=HG.out _ _ ad;obtain ⟨k0,k1,k2,k3,k4⟩:=QbO aj;have f1:=frozen_of_row w1 w.heap.size 1 _ _ aj;have ax:=OwnB.of aa EP.out.symm;have L1:=Qaa (Qnt an aj au ax am);have aA:∀ o,((w1.setCell ⟨w.heap.size,1,none⟩ (.slice al pn c1)).alloc o).cell? ⟨w.heap.size,2,none⟩=some (.slice na nn nc):=(fun o=>QeN (by rw [World.cell?_setCell_other _ _ _ _ (by simp)];exact k2) o);clear aa ad ai an aj au ax)
  | (at_builtin;refine Qc8 _ rfl (.tmp 8) (.tmp 10) 41 rfl w1.heap.size 199 i0 (.agg #[.int .i64 0,.int .u64 0]) 2 16 Tryz.underlying41 hi av ar ay rfl (by decide) _ _ _ rfl L1.out.made na nn nc (fl QaL N) rfl (by rw [QcO Qbx,EN.out]) (fun e=>⟨QkX (e ▸ HN.out) EN,az.out e⟩) (fun A e=>QjB (e ▸ Qae HN (L1.out.bel _))) (QfM _) (by unfold maxLen;omega) (by omega) (by simp) ?_;intro v2 w2 ab ac ag;simp only [Nat.zero_add,List.nil_append] at ab;obtain ⟨ao,c2,rfl⟩:=Qam ab;obtain ⟨aq,ak,ae,ap⟩:=L1.out.grow ac;obtain ⟨y0,y1,y2,y3,y4⟩:=QbO ak;have f2:=frozen_of_row w2 w.heap.size 2 _ _ ak;have af:=OwnB.of ab EN.out.symm;have aw:=af.le (B':=w.heap.size) L1.out.le;obtain ⟨r0,r1,r2,r3,r4⟩:=QbO ae;have e0:=frozen_of_row w2 (w.heap.size+1) 0 _ _ ae;have e1:=frozen_of_row w2 (w.heap.size+1) 1 _ _ ae;have e2:=frozen_of_row w2 (w.heap.size+1) 2 _ _ ae;have e3:=frozen_of_row w2 (w.heap.size+1) 3 _ _ ae;have e4:=frozen_of_row w2 (w.heap.size+1) 4 _ _ ae;have ah:QdP (.slice al pn c1) (.slice ao nn c2):=(fun k a1 a2=>by have q1:=L1.out.lt k a1;have q2:=(af.lt k a2).1;omega);have T2:=Qaa aq;have S2:=Qaa ae;have R2:=Qaa ak;have P2:=Qaa ap;have O2:=Qaa aw;have Ap:=Qaa ah;clear ab ac ag aq ae ak ap aw af ah))
 refine bodyPost_ret (v:=.agg #[.int .u64 z,.slice al pn c1,.slice ao nn c2,.int .i64 h,.int .u64 l]) (by simp [results,Tryz.results174,go_sem,r0,r1,r2,r3,r4]) rfl ⟨_,rfl,⟨_,_,pn,nn,rfl,?_,?_,Ap⟩,?_⟩
 ·have n1:=P2.out.ne S2 (by decide)
  have n2:=P2.out.ne R2 (by decide);exact (((((P2.out.set n2 _).set n1 _).set n1 _).set n1 _).set n1 _).set n1 _
 ·have n1:=O2.out.ne S2 (by decide)
  have n2:=O2.out.ne R2 (by decide);exact (((((O2.out.set n2 _).set n1 _).set n1 _).set n1 _).set n1 _).set n1 _
 ·repeat (refine Below.setCell ?_ (by simp <;> omega) _)
  exact T2.out
end Go.Proofs.YtandnmpllheniaaGreatDoor
