/-
 Keeping the greatest bins; the others join the least of these.
-/
import Derived.Test.YthchmdmncmioiaaGreatDoorZJQ
import Derived.Laws.OwnMore
set_option maxHeartbeats 8000000
namespace Go.Proofs.YthchmdmncmioiaaGreatDoor
set_option linter.unusedVariables false
set_option linter.unusedSimpArgs false
open Go.ChangeShapes Go.WideShapes Go.ChangeAt Go.RowKit Go.PlainAid Go.Lib
set_option maxRecDepth 10000
def Qb9 (x:Int) (L:List Bn):Int:=L.foldl (fun s y=>QaA s y.2) x
theorem Qht {x:Int} (hx:U64 x):∀ {L:List Bn},(∀ y∈L,Qbk y)->U64 (Qb9 x L)
 | [],_=>hx
 | y :: r,h=>by
  have hy:=(h y (List.mem_cons_self ..)).2;have:U64 (QaA x y.2):=by unfold QaA;unfold U64 at *; split <;> omega
  exact Qht this (fun z hz=>h z (ZZm _ hz))
theorem QgZ {x:Int} {L:List Bn} {j:Nat} {y:Bn} (h:L[j]?=some y):Qb9 x (L.take (j+1))=QaA (Qb9 x (L.take j)) y.2:=by
 rw [List.take_add_one,h];simp [Qb9,List.foldl_append]
def QaJ (L:List Bn):List Bn:=if L.length<=30 then L else match L.drop (L.length - 30) with
 | []=>[]
 | x :: r=>(x.1,Qb9 x.2 (L.take (L.length - 30))) :: r
def OwnB (w:World) (B:Nat) (v:Value) (n:Nat) (L:List Bn):Prop:=n=L.length/\((v=.slice none 0 0/\n=0)∨∃ b off c cur,v=.slice (some ⟨b,off,none⟩) n c/\B<=b/\w.heap[b]?=some (.cells cur 199 (0,0))/\(∀ (j:Nat) (q:Value),(fl QaK L)[j]?=some q->cur[off+j]?=some q)/\n<=c/\c<=maxLen/\off+c*2<=cur.size)
theorem OwnB.past {w w':World} {B:Nat} {v:Value} {n:Nat} {L:List Bn} (h:OwnB w B v n L) (hb:Below w.heap.size w w'):OwnB w' B v n L:=by
 refine ⟨h.1,?_⟩;rcases h.2 with h | ⟨b,off,c,cur,e,h1,h2,h3⟩
 ·exact .inl h
 ·exact .inr ⟨b,off,c,cur,e,h1,by rw [hb.block b (Array.getElem?_eq_some_iff.1 h2).1];exact h2,h3⟩
theorem OwnB.any {w:World} {B:Nat} {v:Value} {n:Nat} {L:List Bn} (h:OwnB w B v n L):∃ ao c,v=.slice ao n c:=by
 rcases h.2 with ⟨e,e2⟩ | ⟨b,off,c,cur,e,_⟩
 ·subst e2;exact ⟨_,_,e⟩
 ·exact ⟨_,_,e⟩
theorem OwnB.at {w:World} {B:Nat} {n c:Nat} {ao:Option Addr} {L:List Bn} (h:OwnB w B (.slice ao n c) n L):Qay w ao L:=fun h0=>by
 rcases h.2 with ⟨e,e2⟩ | ⟨b,off,c,cur,e,h1,h2,h3⟩
 ·have:=h.1;omega
 ·cases e
  refine ⟨b,off,rfl,fun i x hx=>?_⟩;have e0:=QiK Qbl L i x 0 (by omega) hx;have e1:=QiK Qbl L i x 1 (by omega) hx;rw [Nat.add_zero] at e0;exact ⟨by rw [cell_of_row w b _ _ _ (0,0) h2];exact h3.1 _ _ e0,by rw [cell_of_row w b _ _ _ (0,0) h2,Nat.add_assoc];exact h3.1 _ _ e1⟩
theorem OwnB.of {w:World} {B:Nat} {v:Value} {n:Nat} {L:List Bn} (h:w.ownsRow B 199 2 v n (fl QaK L)) (hn:n=L.length):OwnB w B v n L:=by
 refine ⟨hn,?_⟩;rcases h.2 with ⟨e,e2⟩ | ⟨g,cap,cur,e,h1,h2,h3,h4,h5,h6⟩
 ·exact .inl ⟨e,e2⟩
 ·refine .inr ⟨g,0,cap,cur,e,h1,h2,fun j q hq=>?_,h3,h4,by omega⟩
  rw [<- h6,List.getElem?_take] at hq
  split at hq
  ·rw [Nat.zero_add];rwa [Array.getElem?_toList] at hq
  ·cases hq
theorem Qlk {L:List Bn} {k:Nat} {x:Bn} (h:L[k]?=some x):L.set k x=L:=by
 refine List.ext_getElem? fun j=>?_;by_cases e:k=j
 ·subst e;rw [List.getElem?_set_self (List.getElem?_eq_some_iff.1 h).1,h]
 ·rw [List.getElem?_set_ne e]
theorem c_keep {w:World} {B g n:Nat} {v:Value} {L:List Bn} (hok:∀ x∈L,Qbk x) (hl:n<=500) (h:Gat w B g v n L) :
  Calls Tryz.prog 298 #[.pointer (some ⟨g,0,none⟩),.int .i64 30] w fun e w'=>∃ r v' n',e=.returned r/\w'.heap[g]?=some (.cells #[v',fnPl,Qqj] 310 (0,0))/\OwnB w' B v' n' (QaJ L)/\Below B w w':=by
 obtain ⟨c0,cG⟩:=h.cells;have HH:=Qaa h;have HK:=Qaa hok;obtain ⟨ao,cc,rfl⟩:=Qam h.own;clear h hok;by_cases h30:n<=30
 ·have HE:Hid (QaJ L=L):=(if_pos (by have:=HH.out.len;omega):QaJ L=L)
  go_enter Tryz.func298,Tryz.ntmps298;go_wp2;refine bodyPost_ret (v:=.tuple #[]) (by simp [results,Tryz.results298,go_sem]) rfl ?_;exact ⟨_,_,_,rfl,HH.out.blk,by rw [HE.out];exact OwnB.of HH.out.own HH.out.len,Below.refl _ _⟩
 ·obtain ⟨go,cc',e⟩:=Qfz HH.out.own (by omega)
  cases e
  obtain ⟨k,hk⟩:∃ k,n=k+30:=⟨n - 30,by omega⟩;have hlen:=HH.out.len;obtain ⟨⟨p,x0⟩,hRk⟩:∃ a,L[k]?=some a:=⟨L[k]'(by omega),ZZe (by omega)⟩;obtain ⟨_,hx0⟩:=HK.out _ (ZZn hRk);simp only at hx0;have hcap:=Qm6 HH.out.own;have hcapm:=Qk8 HH.out.own;have hgo:go≠g:=fun e=>HH.out.ne (by rw [e];rfl);have HRk:=Qaa hRk;have HLn:=Qaa hlen;clear hRk hlen;subst hk;have e1:((k+30:Nat):Int) - 30=(k:Int):=by omega
  go_enter Tryz.func298,Tryz.ntmps298;go_wp2
  go_quiet (fail)
  go_wp2;simp only [Nat.add_sub_cancel_left]
  go_loopw [40] (fun i wr=>∃ j:Nat,j<=k/\i=.int .i64 j/\Gat wr B g (.slice (some ⟨go,0,none⟩) (k+30) cc) (k+30) (L.set k (p,Qb9 x0 (L.take j)))/\Below B w wr) (fun i wr=>k - (RowKit.intOf i).toNat)
  case atStart=>exact ⟨0,Nat.zero_le _,rfl,by rw [show Qb9 x0 (L.take 0)=x0 from rfl,Qlk HRk.out];exact HH.out.past (Qah (Below.refl _ _) _),(Qah (Below.refl _ _) _)⟩
  case round=>
   obtain ⟨j,hj,rfl,hG,hbel⟩:=hrel;obtain ⟨x,hx⟩:∃ x,Qb9 x0 (L.take j)=x:=⟨_,rfl⟩;rw [hx] at hG;have hux:U64 x:=by rw [<- hx];exact Qht hx0 (fun y hy=>HK.out y (ZZo hy))
   have HX:=Qaa hx;have HG:=Qaa hG;have HB:=Qaa hbel;have HLen:=HLn.out;have hkL:k<L.length:=by omega
   obtain ⟨kc0,kc1⟩:=Qdo hG.own hG.len (k:=k) (x:=(p,x)) (by simp [hkL]);have kf0:=hG.own.frozenAt (k*2);have kf1:=hG.own.frozenAt (k*2+1);have cG7:=hG.cells.2;have cv7:=hG.cells.1;have hf7:=hG.frozen 0;have HLe2:=Qaa HLen;clear hx hG hbel HLen;by_cases hjk:j<k
   ·obtain ⟨⟨b,y⟩,hRj⟩:∃ a,L[j]?=some a:=⟨L[j]'(by omega),ZZe (by omega)⟩
    obtain ⟨_,hy⟩:=HK.out _ (ZZn hRj);simp only at hy;obtain ⟨jc0,jc1⟩:=Qdo HG.out.own HG.out.len (k:=j) (x:=(b,y)) (by rw [List.getElem?_set_ne (by omega)];exact hRj)
    have HW:Hid (QaA x y=Qb9 x0 (L.take (j+1))):=by
     refine (?_:QaA x y=Qb9 x0 (L.take (j+1)));rw [QgZ hRj,HX.out]
    have hT:∀ o,Below wr.heap.size wr (wr.alloc o):=fun o=>(ZZb _ _).alloc (ZZa _) o
    have hS:∀ W t,Below (wr.heap.size+1) (wr.alloc (.cells #[.int .i64 b,.int .u64 y] t)) W->(fun W=>QaL W wr.heap.size b y/\QhM W g/\W.cell? ⟨go,k*2,none⟩=some (.int .i64 p)/\W.cell? ⟨go,k*2+1,none⟩=some (.int .u64 x)/\W.frozen? ⟨go,k*2,none⟩=false/\W.frozen? ⟨go,k*2+1,none⟩=false) W:=fun W t hW=>by
     have hW':Below wr.heap.size wr W:=(hT _).trans (hW.mono (by omega));have hn:=Qfo wr t b y;exact ⟨⟨by rw [hW.cell (by exact Nat.lt_succ_self _)];exact hn.1,by rw [hW.cell (by exact Nat.lt_succ_self _)];exact hn.2⟩,QcS cG7 hW',Qab hW' kc0,Qab hW' kc1,by rw [QbL hW' kc0];exact kf0,by rw [QbL hW' kc1];exact kf1⟩
    have HS:=Qaa hS;have HT:=Qaa hT;clear hRj hT hS kc0 kc1 kf0 kf1 cv7 hf7;go_wp2_with fail;have HS0:=HS.out _ 199 ((ZZb _ _).drew);refine Qaj (fun W=>QaL W wr.heap.size b y/\QhM W g/\W.cell? ⟨go,k*2,none⟩=some (.int .i64 p)/\W.cell? ⟨go,k*2+1,none⟩=some (.int .u64 x)/\W.frozen? ⟨go,k*2,none⟩=false/\W.frozen? ⟨go,k*2+1,none⟩=false) 11 (by kernel_rfl) ?_;refine tkL (i:=0) (v:=.slice (some ⟨go,k*2,none⟩) 30 30) rfl rfl HS0 (fun W hW=>?_) ?_
    ·obtain ⟨⟨x0,x1⟩,⟨x2,x3⟩,x4,x5,x6,x7⟩:=hW
     go_simp
    refine tkL (i:=1) (v:=.pointer (some ⟨g,0,none⟩)) rfl rfl HS0 (fun W hW=>?_) ?_
    ·obtain ⟨⟨x0,x1⟩,⟨x2,x3⟩,x4,x5,x6,x7⟩:=hW
     go_simp
    refine tkL (i:=2) (v:=.pointer (some ⟨g,0,none⟩)) rfl rfl HS0 (fun W hW=>?_) ?_
    ·obtain ⟨⟨x0,x1⟩,⟨x2,x3⟩,x4,x5,x6,x7⟩:=hW
     go_simp
    simp only [sA,sB,sC];refine tkL (i:=3) (v:=.pointer (some ⟨g,2,none⟩)) rfl rfl HS0 (fun W hW=>?_) ?_
    ·obtain ⟨⟨x0,x1⟩,⟨x2,x3⟩,x4,x5,x6,x7⟩:=hW
     go_simp
    refine tkL (i:=4) (v:=Qqj) rfl rfl HS0 (fun W hW=>?_) ?_
    ·obtain ⟨⟨x0,x1⟩,⟨x2,x3⟩,x4,x5,x6,x7⟩:=hW
     go_simp
    refine tkL (i:=5) (v:=.slice (some ⟨go,k*2,none⟩) 30 30) rfl rfl HS0 (fun W hW=>?_) ?_
    ·obtain ⟨⟨x0,x1⟩,⟨x2,x3⟩,x4,x5,x6,x7⟩:=hW
     go_simp
    simp only [sA,sB,sC];refine tkL (i:=6) (v:=.pointer (some ⟨go,k*2,none⟩)) rfl rfl HS0 (fun W hW=>?_) ?_
    ·obtain ⟨⟨x0,x1⟩,⟨x2,x3⟩,x4,x5,x6,x7⟩:=hW
     go_simp
    refine tkL (i:=7) (v:=.agg #[.int .i64 p,.int .u64 x]) rfl rfl HS0 (fun W hW=>?_) ?_
    ·obtain ⟨⟨x0,x1⟩,⟨x2,x3⟩,x4,x5,x6,x7⟩:=hW
     go_simp
    refine tkL (i:=8) (v:=.agg #[.int .i64 b,.int .u64 y]) rfl rfl HS0 (fun W hW=>?_) ?_
    ·obtain ⟨⟨x0,x1⟩,⟨x2,x3⟩,x4,x5,x6,x7⟩:=hW
     go_simp
    simp only [sA,sB,sC];refine onE (i:=9) rfl (fun K hK=>?_);go_simp;refine (Qpu _ _ _ _ hux hy _).mono ?_;rintro e w8 ⟨rfl,hb8⟩;dsimp only;have hb9:Below (wr.heap.size+1) (wr.alloc (.cells #[.int .i64 b,.int .u64 y] 199)) w8:=((Below.refl _ _).drew).trans (hb8.mono (by simp));have HS8:=Qaa (HS.out _ 199 hb9);have HB8:=Qaa ((HT.out _).trans (hb9.mono (by omega)));clear hb8 hb9;refine hK.out _ _ (fun _=>HS8.out) ?_;clear hK K
    try simp only [Act.put,sA,sB,sC]
    refine onE (i:=10) rfl (fun K hK=>?_);go_simp;refine hK.out _ _ (fun _=>HS8.out) ?_;clear hK K
    try simp only [Act.put,sA,sB,sC]
    obtain ⟨_,_,x4,x5,x6,x7⟩:=HS8.out;have H8:=HG.out.past HB8.out
    have fin:Gat ((w8.setCell ⟨go,k*2,none⟩ (.int .i64 p)).setCell ⟨go,k*2+1,none⟩ (.int .u64 (QaA x y))) B g (.slice (some ⟨go,0,none⟩) (k+30) cc) (k+30) (L.set k (p,Qb9 x0 (L.take (j+1))))/\Below B w ((w8.setCell ⟨go,k*2,none⟩ (.int .i64 p)).setCell ⟨go,k*2+1,none⟩ (.int .u64 (QaA x y))):=by
     refine ⟨⟨?_,?_,by rw [List.length_set];exact HLe2.out,H8.hB⟩,?_⟩
     ·rw [heap_setCell_other _ _ _ _ (by simpa using hgo.symm),heap_setCell_other _ _ _ _ (by simpa using hgo.symm)];exact H8.blk
     ·have:=(((H8.own.stored (k*2) (.int .i64 p)).1).stored (k*2+1) (.int .u64 (QaA x y))).1
      rw [<- HW.out]
      rwa [Qkw Qbl _ k (p,QaA x y) (by rw [List.length_set];exact hkL) rfl,List.set_set] at this
     ·have hBg:=(Qlb H8.own).1
      have hBs:B<=wr.heap.size:=by have:=H8.hB;have:=HG.out.lt;omega
      exact ((HB.out.trans (HB8.out.mono hBs)).setCell hBg _).setCell hBg _
    have FIN:=Qaa fin;clear fin H8;refine onE (i:=11) rfl (fun K hK=>?_);go_simp;refine hK.out _ _ (fun h=>absurd rfl h) ?_;clear hK K
    try simp only [Act.put,sA,sB,sC]
    refine Qar (by kernel_rfl) ?_ _;go_wp2;go_roundw
    case rel=>exact ⟨j+1,by omega,by go_num,FIN.out.1,FIN.out.2⟩
    case measure=>simp [RowKit.intOf];omega
   ·have ejk:j=k:=by omega
    have hLL:=HLe2.out
    have fin:(wr.setCell ⟨g,0,none⟩ (.slice (some ⟨go,k*2,none⟩) 30 30)).heap[g]?=some (.cells #[.slice (some ⟨go,k*2,none⟩) 30 30,fnPl,Qqj] 310 (0,0))/\OwnB (wr.setCell ⟨g,0,none⟩ (.slice (some ⟨go,k*2,none⟩) 30 30)) B (.slice (some ⟨go,k*2,none⟩) 30 30) 30 (QaJ L)/\Below B w (wr.setCell ⟨g,0,none⟩ (.slice (some ⟨go,k*2,none⟩) 30 30)):=by
     refine ⟨ZZl wr g 0 _ _ _ HG.out.blk,?_,HB.out.setCell HG.out.hB _⟩
     have ek:QaJ L=(L.set k (p,x)).drop k:=by
      unfold QaJ;rw [if_neg (by omega),show L.length - 30=k by omega,List.drop_eq_getElem_cons hkL]
      have hd:(L.set k (p,x)).drop k=(p,x) :: L.drop (k+1):=by
       rw [List.drop_eq_getElem_cons (by rw [List.length_set];exact hkL)];rw [show (L.set k (p,x)).drop (k+1)=L.drop (k+1) from List.ext_getElem? fun q=>by rw [List.getElem?_drop,List.getElem?_drop,List.getElem?_set_ne (by omega)]];simp
      rw [hd];have:=(ZZd.1 HRk.out).2;rw [this,<- HX.out,ejk]
     rcases HG.out.own.2 with ⟨e,_⟩ | ⟨g',cap,cur,e,h1,h2,h3,h4,h5,h6⟩
     ·cases e
     cases e
     refine ⟨by rw [ek,List.length_drop,List.length_set];omega,.inr ⟨go,k*2,30,cur,rfl,h1,?_,fun q v hq=>?_,Nat.le_refl _,by unfold maxLen;omega,by omega⟩⟩
     ·rw [heap_setCell_other _ _ _ _ (by simpa using hgo)];exact h2
     ·rw [ek,QhI Qbl,List.getElem?_drop,<- h6,List.getElem?_take] at hq
      split at hq
      ·rwa [Array.getElem?_toList] at hq
      ·cases hq
    have FIN:=Qaa fin;clear fin hLL ejk kc0 kc1 kf0 kf1;go_wp2;exact bodyPost_end (v:=.tuple #[]) (by simp [results,Tryz.results298,go_sem]) rfl ⟨_,_,_,rfl,FIN.out.1,FIN.out.2.1,FIN.out.2.2⟩
def Qps (a b:List Bn):List Bn:=QaJ (QaW (QaW [] a) b)
theorem Qer {w:World} {a:Addr} {v old:Value} (hc:w.cell? a=some old) (hf:w.frozen? a=false) (h1:v.oneCell'=true):(store a v).run Tryz.prog w=.ok () (w.setCell a v):=by
 rw [run_store Tryz.prog w _ v _ h1];simp [hc,hf]
theorem Qdg {w:World} {ao bo:Option Addr} {P N:List Bn} (c c' m n:Nat) (hm:P.length=m) (hn:N.length=n) (lm:m<=30) (ln:n<=30) (hA:Qay w ao P) (hB:Qay w bo N) (kA:∀ x∈P,Qbk x) (kB:∀ x∈N,Qbk x) :
  Calls Tryz.prog 291 #[.slice ao m c,.slice bo n c'] w fun e w'=>∃ v' n',e=.returned v'/\OwnB w' w.heap.size v' n' (Qps P N)/\Below w.heap.size w w':=by
 have HA:=Qaa hA;have HB:=Qaa hB;have KA:=Qaa kA;have KB:=Qaa kB;have EM:=Qaa hm;have EN:=Qaa hn;clear hA hB kA kB hm hn;have hb0:=ZZk w (.cells #[.slice none 0 0,.nilFunc,.nilFunc] 310);have hb1:=ZZk w (.cells #[.slice none 0 0,(.func (.func 295) #[] #[]),.nilFunc] 310)
 have s1:(store ⟨w.heap.size,1,none⟩ (.func (.func 295) #[] #[])).run Tryz.prog (w.alloc (.cells #[.slice none 0 0,.nilFunc,.nilFunc] 310))=.ok () ((w.alloc (.cells #[.slice none 0 0,.nilFunc,.nilFunc] 310)).setCell ⟨w.heap.size,1,none⟩ (.func (.func 295) #[] #[])):=
  Qer (old:=.nilFunc) (by rw [cell_of_row _ w.heap.size 1 _ _ (0,0) hb0];rfl) (frozen_of_row _ w.heap.size 1 _ _ hb0) rfl
 have s2:(store ⟨w.heap.size,2,none⟩ (.func (.func 296) #[] #[])).run Tryz.prog (w.alloc (.cells #[.slice none 0 0,(.func (.func 295) #[] #[]),.nilFunc] 310))=.ok () ((w.alloc (.cells #[.slice none 0 0,(.func (.func 295) #[] #[]),.nilFunc] 310)).setCell ⟨w.heap.size,2,none⟩ (.func (.func 296) #[] #[])):=
  Qer (old:=.nilFunc) (by rw [cell_of_row _ w.heap.size 2 _ _ (0,0) hb1];rfl) (frozen_of_row _ w.heap.size 2 _ _ hb1) rfl
 clear hb0 hb1;go_enter Tryz.func291,Tryz.ntmps291;go_wp2
 go_loopw [13] (fun i wr=>∃ (j:Nat) (v:Value) (q:Nat),j<=m/\i=.int .i64 j/\Gat wr w.heap.size w.heap.size v q (QaW [] (P.take j))/\Below w.heap.size w wr) (fun i wr=>m - (RowKit.intOf i).toNat)
 case atStart=>exact ⟨0,_,0,ZZj _,rfl,⟨ZZk w _,World.ownsRow_nil _ _ _ _,rfl,ZZa _⟩,(by first | exact (ZZb _ _).alloc (ZZa _) _ | exact (((ZZb _ _).alloc (ZZa _) _).setCell (ZZa _) _).setCell (ZZa _) _)⟩
 case round=>
  obtain ⟨j,v,q,hj,rfl,hG,hbel⟩:=hrel;have HG:=Qaa hG;have HBl:=Qaa hbel;clear hG;by_cases hjm:j<m
  ·obtain ⟨⟨a,u⟩,hRj⟩:∃ x,P[j]?=some x:=⟨P[j]'(by have:=EM.out;omega),ZZe _⟩
   obtain ⟨ka,ku⟩:=KA.out _ (ZZn hRj);obtain ⟨b,off,rfl,hcell⟩:=HA.out (by have:=EM.out;omega);have hc0:=Qab hbel (hcell j _ hRj).1;have hc1:=Qab hbel (hcell j _ hRj).2;have hlen:q<=500:=by have:=HG.out.len;have:=Qdz (P.take j) [];rw [List.length_take] at this;simp at this;omega
   have HR:=Qaa (Qf7 (L:=[]) hRj);have hbA:∀ o,Below wr.heap.size wr (wr.alloc o):=fun o=>(ZZb _ _).alloc (ZZa _) o;have HbA:=Qaa hbA;simp only at ka ku;clear hbel hcell hRj hbA;go_wp2_with fail;refine (c_put _ _ ka ku (Qcg Qc1) (Qey (fun x hx=>KA.out x (ZZo hx)) (fun x hx=>by cases hx)) hlen (HG.out.past (HbA.out _))).mono ?_;rintro e w1 ⟨r,v',n',rfl,hG1,hb1⟩;rw [<- HR.out] at hG1;have HG1:=Qaa hG1;have HB1:=Qaa ((HBl.out.trans ((HbA.out _).mono HBl.out.size)).trans hb1);clear hG1 hb1;go_wp2;go_roundw
   case rel=>exact ⟨j+1,v',n',by omega,by go_num,HG1.out,HB1.out⟩
   case measure=>simp [RowKit.intOf];omega
  ·have HE:Hid (QaW [] (P.take j)=QaW (QaW [] P) (N.take 0)):=(by rw [List.take_of_length_le (by have:=EM.out;omega)];rfl:QaW [] (P.take j)=QaW (QaW [] P) (N.take 0))
   clear hbel;go_wp2
   go_loopw [22] (fun i wr=>∃ (j:Nat) (v:Value) (q:Nat),j<=n/\i=.int .i64 j/\Gat wr w.heap.size w.heap.size v q (QaW (QaW [] P) (N.take j))/\Below w.heap.size w wr) (fun i wr=>n - (RowKit.intOf i).toNat)
   case atStart=>exact ⟨0,v,q,Nat.zero_le _,rfl,by rw [<- HE.out];exact HG.out,HBl.out⟩
   case round=>
    clear HG HBl HE;obtain ⟨t,v,q,ht,rfl,hG,hbel⟩:=hrel;have HG:=Qaa hG;have HBl:=Qaa hbel
    have hlen:q<=500:=by
     have h1:=HG.out.len;have h2:=Qdz (N.take t) (QaW [] P);have h3:=Qdz P [];rw [List.length_take] at h2;simp at h3;have:=EM.out;omega
    have HRi:=Qaa (Qcg (M:=N.take t) (Qcg (M:=P) Qc1));have HOk:=Qaa (Qey (M:=N.take t) (fun x hx=>KB.out x (ZZo hx)) (Qey (M:=P) (L:=[]) KA.out (fun x hx=>by cases hx)));clear hG;by_cases htn:t<n
    ·obtain ⟨⟨a,u⟩,hRj⟩:∃ x,N[t]?=some x:=⟨N[t]'(by have:=EN.out;omega),ZZe _⟩
     obtain ⟨ka,ku⟩:=KB.out _ (ZZn hRj);obtain ⟨b,off,rfl,hcell⟩:=HB.out (by have:=EN.out;omega);have hc0:=Qab hbel (hcell t _ hRj).1;have hc1:=Qab hbel (hcell t _ hRj).2;have HR:=Qaa (Qf7 (L:=QaW [] P) hRj);have hbA:∀ o,Below wr.heap.size wr (wr.alloc o):=fun o=>(ZZb _ _).alloc (ZZa _) o;have HbA:=Qaa hbA;simp only at ka ku;clear hbel hcell hRj hbA;go_wp2_with fail;refine (c_put _ _ ka ku HRi.out HOk.out hlen (HG.out.past (HbA.out _))).mono ?_;rintro e w1 ⟨r,v',n',rfl,hG1,hb1⟩;rw [<- HR.out] at hG1;have HG1:=Qaa hG1;have HB1:=Qaa ((HBl.out.trans ((HbA.out _).mono HBl.out.size)).trans hb1);clear hG1 hb1;go_wp2;go_roundw
     case rel=>exact ⟨t+1,v',n',by omega,by go_num,HG1.out,HB1.out⟩
     case measure=>simp [RowKit.intOf];omega
    ·have HE:Hid (QaW (QaW [] P) (N.take t)=QaW (QaW [] P) N):=(by rw [List.take_of_length_le (by have:=EN.out;omega)]:QaW (QaW [] P) (N.take t)=QaW (QaW [] P) N)
     clear hbel;go_wp2_with fail;refine (c_keep HOk.out hlen HG.out).mono ?_;rintro e w1 ⟨r,v',n',rfl,hb1,ho1,hbel1⟩;rw [HE.out] at ho1;have c1:w1.cell? ⟨w.heap.size,0,none⟩=some v':=by rw [cell_of_row w1 w.heap.size 0 _ _ (0,0) hb1];rfl
     have HO:=Qaa ho1;have HB1:=Qaa (HBl.out.trans hbel1);obtain ⟨ao1,c1',rfl⟩:=ho1.any;clear hb1 ho1 hbel1;go_wp2;go_ret;exact ⟨_,_,rfl,HO.out,HB1.out⟩
end Go.Proofs.YthchmdmncmioiaaGreatDoor
namespace Go.Proofs.YthchmdmncmioiaaGreatDoor
set_option linter.unusedVariables false
set_option linter.unusedSimpArgs false
def mrg:List Bn->List Bn->List Bn
 | [],b=>b
 | x :: a,[]=>x :: a
 | x :: a,y :: b=>if x.1<y.1 then x :: mrg a (y :: b) else if y.1<x.1 then y :: mrg (x :: a) b else (x.1,QaA x.2 y.2) :: mrg a b
termination_by a b=>a.length+b.length
theorem QbN (b:List Bn):mrg [] b=b:=by rw [mrg]
theorem Qbf (a:List Bn):mrg a []=a:=by cases a <;> rw [mrg]
theorem Qfm {x y:Bn} {a b:List Bn} (h:x.1<y.1):mrg (x :: a) (y :: b)=x :: mrg a (y :: b):=by rw [mrg,if_pos h]
theorem Qgw {x y:Bn} {a b:List Bn} (h:y.1<x.1):mrg (x :: a) (y :: b)=y :: mrg (x :: a) b:=by rw [mrg,if_neg (by omega),if_pos h]
theorem Qgy {x y:Bn} {a b:List Bn} (h:x.1=y.1):mrg (x :: a) (y :: b)=(x.1,QaA x.2 y.2) :: mrg a b:=by rw [mrg,if_neg (by omega),if_neg (by omega)]
theorem Qei {x:Bn} {a b:List Bn} (h:∀ y∈b,x.1<y.1):mrg (x :: a) b=x :: mrg a b:=by
 cases b with
 | nil=>rw [Qbf,Qbf]
 | cons y r=>exact Qfm (h y (List.mem_cons_self ..))
theorem Qm3 {y:Bn} {M:List Bn} (hM:∀ z∈M,y.1<z.1):∀ P:List Bn,mrg (Qeh y P) M=mrg P (y :: M)
 | []=>by rw [Qeh,QbN,Qei hM,QbN]
 | x :: r=>by
  unfold Qeh
  split
  ·rename_i h
   rw [Qfm h,Qei (fun z hz=>by have:=hM z hz;omega),Qm3 hM r]
  ·split
   ·rename_i h
    rw [Qgy h,Qei (fun z hz=>by have:=hM z hz;show x.1<z.1;omega)]
   ·rw [Qgw (by omega),Qei hM]
theorem QdA:∀ {N P:List Bn},Qc9 N->QaW P N=mrg P N
 | [],P,_=>by rw [Qbf];rfl
 | y :: N,P,h=>by
  obtain ⟨h1,h2⟩:=rise_cons.1 h
  show QaW (Qeh y P) N=_
  rw [QdA h2,Qm3 h1]
theorem QlK {P:List Bn} (h:Qc9 P):QaW [] P=P:=by rw [QdA h,QbN]
theorem QgV {P N:List Bn} {i k:Nat} {x:Bn} (hx:P[i]?=some x) (h:k=N.length∨∃ y,N[k]?=some y/\x.1<y.1):mrg (P.drop i) (N.drop k)=x :: mrg (P.drop (i+1)) (N.drop k):=by
 have hi:=(ZZd.1 hx).1;rw [List.drop_eq_getElem_cons hi,(List.getElem?_eq_some_iff.1 hx).2];rcases h with rfl | ⟨y,hy,hlt⟩
 ·rw [List.drop_length,Qbf,Qbf]
 ·have hk:=(ZZd.1 hy).1
  rw [List.drop_eq_getElem_cons hk,(List.getElem?_eq_some_iff.1 hy).2,Qfm hlt]
theorem Qha {P N:List Bn} {i k:Nat} {y:Bn} (hy:N[k]?=some y) (h:i=P.length∨∃ x,P[i]?=some x/\y.1<x.1):mrg (P.drop i) (N.drop k)=y :: mrg (P.drop i) (N.drop (k+1)):=by
 have hk:=(ZZd.1 hy).1;rw [List.drop_eq_getElem_cons hk,(List.getElem?_eq_some_iff.1 hy).2];rcases h with rfl | ⟨x,hx,hlt⟩
 ·rw [List.drop_length,QbN,QbN]
 ·have hi:=(ZZd.1 hx).1
  rw [List.drop_eq_getElem_cons hi,(List.getElem?_eq_some_iff.1 hx).2,Qgw hlt]
theorem Qly {P N:List Bn} {i k:Nat} {x y:Bn} (hx:P[i]?=some x) (hy:N[k]?=some y) (h:x.1=y.1):mrg (P.drop i) (N.drop k)=(x.1,QaA x.2 y.2) :: mrg (P.drop (i+1)) (N.drop (k+1)):=by
 have hi:=(ZZd.1 hx).1;have hk:=(ZZd.1 hy).1;rw [List.drop_eq_getElem_cons hi,(List.getElem?_eq_some_iff.1 hx).2,List.drop_eq_getElem_cons hk,(List.getElem?_eq_some_iff.1 hy).2,Qgy h]
set_option maxRecDepth 10000
open Go.ChangeAt Go.ChangeShapes Go.Lib Go.PlainAid Go.RowKit Go.WideShapes
theorem OwnB.le {w:World} {B B':Nat} {v:Value} {n:Nat} {L:List Bn} (h:OwnB w B v n L) (hb:B'<=B):OwnB w B' v n L:=by
 refine ⟨h.1,?_⟩;rcases h.2 with h | ⟨b,off,c,cur,e,h1,h2,h3⟩
 ·exact .inl h
 ·exact .inr ⟨b,off,c,cur,e,Nat.le_trans hb h1,h2,h3⟩
theorem OwnB.lt {w:World} {B:Nat} {v:Value} {n:Nat} {L:List Bn} (h:OwnB w B v n L):∀ k,v.ownBlock=some k->B<=k/\k<w.heap.size:=fun k e=>by
 rcases h.2 with ⟨e1,_⟩ | ⟨b,off,c,cur,e1,h1,h2,h3⟩
 ·rw [e1] at e;cases e
 ·rw [e1] at e;cases e;exact ⟨h1,(ZZc.1 h2).1⟩
theorem OwnB.ne {w:World} {B:Nat} {v:Value} {n:Nat} {L:List Bn} (h:OwnB w B v n L) {r:Nat} {cs:Array Value} {T:TypeId} {fz:Nat×Nat} (hr:w.heap[r]?=some (.cells cs T fz)) (hT:T≠199):v.ownBlock≠some r:=fun e=>by
 rcases h.2 with ⟨e1,_⟩ | ⟨b,off,c,cur,e1,h1,h2,h3⟩
 ·rw [e1] at e;cases e
 ·rw [e1] at e;cases e;rw [h2] at hr;cases hr;exact hT rfl
theorem OwnB.kept {w w':World} {B:Nat} {v:Value} {n:Nat} {L:List Bn} {r:Option Nat} (h:OwnB w B v n L) (hg:w.grownBy w' r) (hne:v.ownBlock=none∨v.ownBlock≠r):OwnB w' B v n L:=by
 refine ⟨h.1,?_⟩;rcases h.2 with h | ⟨b,off,c,cur,e,h1,h2,h3⟩
 ·exact .inl h
 ·refine .inr ⟨b,off,c,cur,e,h1,?_,h3⟩
  rw [hg.block b (Array.getElem?_eq_some_iff.1 h2).1 (fun e2=>by
   rw [e] at hne;rcases hne with h | h
   ·cases h
   ·exact h e2)]
  exact h2
theorem OwnB.set {w:World} {B:Nat} {v:Value} {n:Nat} {L:List Bn} (h:OwnB w B v n L) {a:Addr} (hne:v.ownBlock≠some a.block) (u:Value):OwnB (w.setCell a u) B v n L:=
 h.kept (r:=some a.block) ⟨rfl,rfl,rfl,by simp [World.setCell],fun k hk hn=>Below.heap_setCell _ _ _ _ (fun e=>hn (by rw [e]))⟩ (.inr hne)
theorem QnM {w:World} {ao:Option Addr} {L:List Bn} (c n:Nat) (hn:L.length=n) (hl:n<=1048576) (hA:Qay w ao L) :
  Calls Tryz.prog 161 #[.slice ao n c] w fun e w'=>∃ v,e=.returned v/\OwnB w' w.heap.size v n L/\Below w.heap.size w w':=by
 obtain ⟨i0,hi,hz0,hz1,hz2⟩:=info_parts Qf5
 cases ao with
 | none=>
  have h0:n=0:=by
   rcases Nat.eq_zero_or_pos n with h | h
   ·exact h
   ·obtain ⟨b,off,e,_⟩:=hA (by omega);cases e
  subst h0;have hq:=fun W=>Lib.run_eql_slice_nil (P:=Tryz.prog) W 41 199 none 0 c 0 0 Tryz.underlying41;have HN:=Qaa hn;clear hA hn;go_enter Tryz.func161,Tryz.ntmps161;go_wp2;go_ret;exact ⟨_,rfl,⟨HN.out.symm,.inl ⟨rfl,rfl⟩⟩,ZZb _ _⟩
 | some A=>
  have hcs:∀ j z,(fl QaK L)[j]?=some z->w.cell? (A.add j)=some z:=fun j z hz=>by
   have hj:=(ZZd.1 hz).1;rw [Qcv Qbl] at hj;obtain ⟨b,off,e,hcell⟩:=hA (by omega)
   cases e
   obtain ⟨x,hx⟩:∃ x,L[j / 2]?=some x:=⟨L[j / 2]'(by omega),ZZe (by omega)⟩;have h1:=QiK Qbl L (j / 2) x (j % 2) (by omega) hx;rw [show j / 2*2+j % 2=j by omega,hz] at h1;have hc:=hcell (j / 2) x hx;rw [Addr.add_lit];have:j % 2=0∨j % 2=1:=by omega
   rcases this with e | e
   ·rw [e] at h1;rw [show off+j=off+j / 2*2 by omega,hc.1];simpa [QaK] using h1.symm
   ·rw [e] at h1;rw [show off+j=off+j / 2*2+1 by omega,hc.2];simpa [QaK] using h1.symm
  have HCs:=Qaa hcs;have hq:=fun W=>Lib.run_eql_slice_nil (P:=Tryz.prog) W 41 199 (some A) n c 0 0 Tryz.underlying41;have HN:=Qaa hn;clear hA hcs hn;go_enter Tryz.func161,Tryz.ntmps161;go_wp2_with (at_builtin;refine wpList_append_own _ rfl (.tmp 5) (.tmp 6) 41 rfl w.heap.size 199 i0 (.agg #[.int .i64 0,.int .u64 0]) 2 16 Tryz.underlying41 hi hz0 hz1 hz2 rfl (by decide) _ _ _ rfl (World.ownsRow_made _ #[] 0 (Nat.le_refl _) (Nat.zero_le _) rfl) A n c (fl QaK L) rfl (by rw [Qcv Qbl,HN.out]) (fun j z hz=>by have:=HCs.out j z hz;exact Qeb this _) (Qfe _) (by unfold maxLen;omega) (by omega) (by simp) ?_;intro v1 w1 hown1 hgrow1 hnil1;simp only [Nat.zero_add,List.nil_append] at hown1;have O1:=Qaa hown1;have B1:=Qaa (((Below.refl _ _).alloc (Nat.le_refl _) _).grown hgrow1 (by simp) (fun j hj=>by cases hj;exact Nat.le_refl _));clear hown1 hgrow1 hnil1);go_ret;exact ⟨_,rfl,OwnB.of O1.out HN.out.symm,B1.out⟩
def QdX (p n:Value):Prop:=∀ k,p.ownBlock=some k->n.ownBlock≠some k
def Qef (w:World) (B:Nat) (v:Value) (z:Int) (P N:List Bn) (h l:Int):Prop:=∃ p n pn nn,v=.agg #[.int .u64 z,p,n,.int .i64 h,.int .u64 l]/\OwnB w B p pn P/\OwnB w B n nn N/\QdX p n
abbrev Qav:Array Value:=#[.int .u64 0,.slice none 0 0,.slice none 0 0,.int .i64 0,.int .u64 0]
theorem Qbx {w:World} {r:Nat} {T:TypeId} {u0 u1 u2 u3 u4:Value} (h:w.heap[r]?=some (.cells #[u0,u1,u2,u3,u4] T (0,0))) :
  w.cell? ⟨r,0,none⟩=some u0/\w.cell? ⟨r,1,none⟩=some u1/\w.cell? ⟨r,2,none⟩=some u2/\w.cell? ⟨r,3,none⟩=some u3/\w.cell? ⟨r,4,none⟩=some u4:=
 ⟨by rw [cell_of_row w r 0 _ _ (0,0) h];rfl,by rw [cell_of_row w r 1 _ _ (0,0) h];rfl,by rw [cell_of_row w r 2 _ _ (0,0) h];rfl,by rw [cell_of_row w r 3 _ _ (0,0) h];rfl,by rw [cell_of_row w r 4 _ _ (0,0) h];rfl⟩
theorem Qfn {w:World} {z h l:Int} {pa na:Option Addr} {pn pc nn nc:Nat} {P N:List Bn} (hp:P.length=pn) (hn:N.length=nn) (lp:pn<=1048576) (ln:nn<=1048576) (hP:Qay w pa P) (hN:Qay w na N) :
  Calls Tryz.prog 126 #[.agg #[.int .u64 z,.slice pa pn pc,.slice na nn nc,.int .i64 h,.int .u64 l]] w fun e w'=>∃ v,e=.returned v/\Qef w' w.heap.size v z P N h l/\Below w.heap.size w w':=by
 have HP:=Qaa hP;have HN:=Qaa hN;clear hP hN;go_enter Tryz.func126,Tryz.ntmps126;go_wp2_with fail;generalize hW0:(w.alloc (Obj.cells #[.int .u64 z,.slice pa pn pc,.slice na nn nc,.int .i64 h,.int .u64 l] 43)).alloc (Obj.cells Qav 43)=W0;have T0:Below w.heap.size w W0:=by rw [<- hW0];exact ((Below.refl _ _).alloc (Nat.le_refl _) _).alloc (by simp) _
 have K0:Qa4 W0 w.heap.size z (.slice pa pn pc) (.slice na nn nc) h l:=by rw [<- hW0];exact Qaz (Qdk w _ _ _ _ _ _) ((ZZb _ _).alloc (ZZa _) _)
 have R0:W0.heap[w.heap.size+1]?=some (.cells Qav 43 (0,0)):=by rw [<- hW0];simpa using heap_alloc_new (w.alloc (Obj.cells #[.int .u64 z,.slice pa pn pc,.slice na nn nc,.int .i64 h,.int .u64 l] 43)) (Obj.cells Qav 43)
 have hsz0:W0.heap.size=w.heap.size+2:=by rw [<- hW0];simp
 clear hW0;have HT0:=Qaa T0;have hC:∀ W,Below W0.heap.size W0 W->Qa4 W w.heap.size z (.slice pa pn pc) (.slice na nn nc) h l/\W.heap[w.heap.size+1]?=some (.cells Qav 43 (0,0)):=fun W hW=>⟨Qaz K0 hW,by rw [hW.block _ (by omega)];exact R0⟩;have HC:=Qaa hC;clear T0 hC K0 R0;have HS0:(fun W=>Below W0.heap.size W0 W) W0.drew:=(ZZb _ _).drew;refine Qaj (fun W=>Below W0.heap.size W0 W) 11 (by kernel_rfl) ?_;refine tkL (i:=0) (v:=.pointer (some ⟨w.heap.size,0,none⟩)) rfl rfl HS0 (fun W hW=>?_) ?_
 ·obtain ⟨⟨x0,x1,x2,x3,x4⟩,_⟩:=HC.out W hW
  go_simp
 refine tkL (i:=1) (v:=.int .u64 z) rfl rfl HS0 (fun W hW=>?_) ?_
 ·obtain ⟨⟨x0,x1,x2,x3,x4⟩,_⟩:=HC.out W hW
  go_simp
 refine tkL (i:=2) (v:=.pointer (some ⟨w.heap.size,1,none⟩)) rfl rfl HS0 (fun W hW=>?_) ?_
 ·obtain ⟨⟨x0,x1,x2,x3,x4⟩,_⟩:=HC.out W hW
  go_simp
 simp only [sA,sB,sC];refine tkL (i:=3) (v:=.slice pa pn pc) rfl rfl HS0 (fun W hW=>?_) ?_
 ·obtain ⟨⟨x0,x1,x2,x3,x4⟩,_⟩:=HC.out W hW
  go_simp
 refine tkL (i:=5) (v:=.pointer (some ⟨w.heap.size,2,none⟩)) rfl rfl HS0 (fun W hW=>?_) ?_
 ·obtain ⟨⟨x0,x1,x2,x3,x4⟩,_⟩:=HC.out W hW
  go_simp
 refine tkL (i:=6) (v:=.slice na nn nc) rfl rfl HS0 (fun W hW=>?_) ?_
 ·obtain ⟨⟨x0,x1,x2,x3,x4⟩,_⟩:=HC.out W hW
  go_simp
 simp only [sA,sB,sC];refine tkL (i:=8) (v:=.pointer (some ⟨w.heap.size,3,none⟩)) rfl rfl HS0 (fun W hW=>?_) ?_
 ·obtain ⟨⟨x0,x1,x2,x3,x4⟩,_⟩:=HC.out W hW
  go_simp
 refine tkL (i:=9) (v:=.agg #[.int .i64 h,.int .u64 l]) rfl rfl HS0 (fun W hW=>?_) ?_
 ·obtain ⟨⟨x0,x1,x2,x3,x4⟩,_⟩:=HC.out W hW
  go_simp
 simp only [sA,sB,sC];refine onE (i:=4) rfl (fun K hK=>?_);go_simp;refine (QnM _ _ hp lp (Qae HP.out (HT0.out.trans ((ZZb _ _).drew.mono HT0.out.size)))).mono ?_;rintro e w1 ⟨v1,rfl,ho1,hb1⟩;dsimp only;have HB1:=Qaa ((HS0:Below W0.heap.size W0 W0.drew).trans hb1);have HO1:=Qaa (ho1.le (B':=w.heap.size) (by show w.heap.size<=W0.heap.size;omega));obtain ⟨ao1,c1,rfl⟩:=ho1.any;clear ho1 hb1;refine hK.out _ _ (fun _=>HB1.out) ?_;clear hK K
 try simp only [Act.put,sA,sB,sC]
 refine onE (i:=7) rfl (fun K hK=>?_);go_simp;refine (QnM _ _ hn ln (Qae HN.out (Qad HT0.out HB1.out))).mono ?_;rintro e w2 ⟨v2,rfl,ho2,hb2⟩;dsimp only;have HB2:=Qaa (Qad HB1.out hb2);have HO2:=Qaa (ho2.le (B':=w.heap.size) (by have:=HB1.out.size;omega));have HO12:=Qaa (HO1.out.past hb2);have HAp:Hid (QdX (.slice ao1 pn c1) v2):=(fun k e1 e2=>by have:=(HO1.out.lt k e1).2;have:=(ho2.lt k e2).1;omega:QdX (.slice ao1 pn c1) v2);obtain ⟨ao2,c2,rfl⟩:=ho2.any;clear ho2 hb2;refine hK.out _ _ (fun _=>HB2.out) ?_;clear hK K
 try simp only [Act.put,sA,sB,sC]
 refine tkS (i:=10) (v:=.agg #[.int .u64 z,.slice ao1 pn c1,.slice ao2 nn c2,.int .i64 h,.int .u64 l]) rfl rfl HB2.out ?_;simp only [sA,sB,sC];have R2:=(HC.out _ HB2.out).2;obtain ⟨q0,q1,q2,q3,q4⟩:=Qbx R2;obtain ⟨f0,f1,f2,f3,f4⟩:=fA5 R2;refine onE (i:=11) rfl (fun K hK=>?_);go_simp;refine hK.out _ _ (fun h=>absurd rfl h) ?_;clear hK K
 try simp only [Act.put,sA,sB,sC]
 refine Qar (by kernel_rfl) ?_ _;go_wp2;refine bodyPost_ret (v:=.agg #[.int .u64 z,.slice ao1 pn c1,.slice ao2 nn c2,.int .i64 h,.int .u64 l]) (by simp [results,Tryz.results126,go_sem,q0,q1,q2,q3,q4]) rfl ⟨_,rfl,⟨_,_,pn,nn,rfl,?_,?_,HAp.out⟩,?_⟩
 ·have hne:=HO12.out.ne R2 (by decide)
  repeat (refine OwnB.set ?_ hne _)
  exact HO12.out
 ·have hne:=HO2.out.ne R2 (by decide)
  repeat (refine OwnB.set ?_ hne _)
  exact HO2.out
 ·repeat (refine Below.setCell ?_ (by simp <;> omega) _)
  exact Qad HT0.out HB2.out
theorem Qgq (R:List Bn) (x:Bn):fl QaK R ++ QaK x=fl QaK (R ++ [x]):=by rw [QmP,QpB]
theorem Qoy {w:World} {B n:Nat} {T:TypeId} {s:Nat} {v:Value} {xs:List Value} (h:w.ownsRow B T s v n xs) (hv:v≠.slice none 0 0):∃ g c,v=.slice (some ⟨g,0,none⟩) n c:=by
 rcases h.2 with ⟨e,_⟩ | ⟨g,c,_,e,_⟩
 ·exact absurd e hv
 ·exact ⟨g,c,e⟩
theorem mrg_ok {a b:List Bn} (ha:∀ x∈a,Qbk x) (hb:∀ x∈b,Qbk x):∀ z∈mrg a b,Qbk z:=by
 induction a,b using mrg.induct with
 | case1 b=>rw [QbN];exact hb
 | case2 x a=>rw [Qbf];exact ha
 | case3 x a y b h ih=>
  rw [Qfm h];intro z hz;rcases List.mem_cons.1 hz with rfl | hz
  ·exact ha _ (List.mem_cons_self ..)
  ·exact ih (fun q hq=>ha q (ZZm _ hq)) hb z hz
 | case4 x a y b h h2 ih=>
  rw [Qgw h2];intro z hz;rcases List.mem_cons.1 hz with rfl | hz
  ·exact hb _ (List.mem_cons_self ..)
  ·exact ih ha (fun q hq=>hb q (ZZm _ hq)) z hz
 | case5 x a y b h h2 ih=>
  rw [Qgy (by omega)];intro z hz;rcases List.mem_cons.1 hz with rfl | hz
  ·exact ⟨(ha x (List.mem_cons_self ..)).1,Qf8 (ha x (List.mem_cons_self ..)).2 (hb y (List.mem_cons_self ..)).2⟩
  ·exact ih (fun q hq=>ha q (ZZm _ hq)) (fun q hq=>hb q (ZZm _ hq)) z hz
theorem QlJ {R:List Bn} {s:Nat} {p x y:Int} (h:s<R.length):(fl QaK (R.set s (p,x))).set (s*2+1) (.int .u64 y)=fl QaK (R.set s (p,y)):=by
 have hl:s<(R.set s (p,x)).length:=by rw [List.length_set];exact h
 have h1:=Qkw (u:=.int .i64 p) (v:=.int .u64 y) Qbl (R.set s (p,x)) s (p,y) hl rfl;rw [List.set_set] at h1;rw [<- h1]
 congr 1
 have h0:(fl QaK (R.set s (p,x)))[s*2]?=some (.int .i64 p):=by
  have:=QiK Qbl (R.set s (p,x)) s (p,x) 0 (by omega) (by simp [h]);rw [Nat.add_zero] at this;rw [this];rfl
 refine List.ext_getElem? fun j=>?_;by_cases e:s*2=j
 ·subst e;rw [List.getElem?_set_self (List.getElem?_eq_some_iff.1 h0).1,h0]
 ·rw [List.getElem?_set_ne e]
theorem Qop {R:List Bn} {s:Nat} {p x0:Int} (hq:R.length=s+30) (hs:0<s) (h:R[s]?=some (p,x0)):QaJ R=(R.set s (p,Qb9 x0 (R.take s))).drop s:=by
 have hsR:=(ZZd.1 h).1;unfold QaJ;rw [if_neg (by omega),show R.length - 30=s by omega,List.drop_eq_getElem_cons hsR]
 have hd:(R.set s (p,Qb9 x0 (R.take s))).drop s=(p,Qb9 x0 (R.take s)) :: R.drop (s+1):=by
  rw [List.drop_eq_getElem_cons (by rw [List.length_set];exact hsR)];rw [show (R.set s (p,Qb9 x0 (R.take s))).drop (s+1)=R.drop (s+1) from List.ext_getElem? fun q=>by rw [List.getElem?_drop,List.getElem?_drop,List.getElem?_set_ne (by omega)]];simp
 rw [hd,(List.getElem?_eq_some_iff.1 h).2]
theorem Qb3 {w:World} {ao bo:Option Addr} {P N:List Bn} (c c' m n:Nat) (hm:P.length=m) (hn:N.length=n) (lm:m<=30) (ln:n<=30) (hA:Qay w ao P) (hB:Qay w bo N) (kA:∀ x∈P,Qbk x) (kB:∀ x∈N,Qbk x) :
  Calls Tryz.prog 178 #[.slice ao m c,.slice bo n c'] w fun e w'=>∃ v' n',e=.returned v'/\w'.ownsRow w.heap.size 199 2 v' n' (fl QaK (QaJ (mrg P N)))/\n'=(QaJ (mrg P N)).length/\Below w.heap.size w w':=by
 obtain ⟨i0,hi,hz0,hz1,hz2⟩:=info_parts Qf5;have HA:=Qaa hA;have HB':=Qaa hB;have KA:=Qaa kA;have KB:=Qaa kB;have EM:=Qaa hm;have EN:=Qaa hn;clear hA hB kA kB hm hn;go_enter Tryz.func178,Tryz.ntmps178;go_wp2
 go_loopw [5,6,7] (fun v s t wr=>∃ (i k:Nat) (R:List Bn),i<=m/\k<=n/\s=.int .i64 i/\t=.int .i64 k/\v≠.slice none 0 0/\R.length<=i+k/\wr.ownsRow w.heap.size 199 2 v R.length (fl QaK R)/\Hid (R ++ mrg (P.drop i) (N.drop k)=mrg P N)/\Below w.heap.size w wr) (fun v s t wr=>(m - (RowKit.intOf s).toNat)+(n - (RowKit.intOf t).toNat))
 case atStart=>exact ⟨0,0,[],ZZj _,ZZj _,rfl,rfl,(fun e=>by cases e),ZZa _,World.ownsRow_made w #[] 0 (ZZa _) (ZZj _) rfl,(rfl:[] ++ mrg (P.drop 0) (N.drop 0)=mrg P N),(ZZb _ _).alloc (ZZa _) _⟩
 case round=>
  obtain ⟨i,k,R,hi',hk',rfl,rfl,hv,hRl,hown,HR,hbel⟩:=hrel;obtain ⟨g,cv,rfl⟩:=Qoy hown hv;obtain ⟨q,hq⟩:∃ q,R.length=q:=⟨_,rfl⟩;rw [hq] at hown hRl;rw [hq];have HQ:=Qaa hq;have HO:=Qaa hown;have HB:=Qaa hbel;have HOq:=Qaa (fun z=>(show (wr.drewN z).ownsRow w.heap.size 199 2 (.slice (some ⟨g,0,none⟩) q cv) q (fl QaK R) from hown));have HB0:=Qaa (fun z o=>((Qah hbel z).alloc hbel.size o:Below w.heap.size w ((wr.drewN z).alloc o)));clear hq hv;have cases5:(i<m/\k=n)∨(i<m/\k<n)∨(i=m/\k<n)∨(i=m/\k=n):=by omega
  rcases cases5 with ⟨him,hkn⟩ | ⟨him,hkn⟩ | ⟨him,hkn⟩ | ⟨him,hkn⟩
  ·subst hkn
   obtain ⟨⟨a,u⟩,hRi⟩:∃ x,P[i]?=some x:=⟨P[i]'(by have:=EM.out;omega),ZZe _⟩;obtain ⟨b,off,rfl,hcell⟩:=HA.out (by have:=EM.out;omega);have hc0:=Qab hbel (hcell i _ hRi).1;have hc1:=Qab hbel (hcell i _ hRi).2
   have HE:Hid ((R ++ [(a,u)]) ++ mrg (P.drop (i+1)) (N.drop k)=mrg P N):=by
    refine (?_:(R ++ [(a,u)]) ++ mrg (P.drop (i+1)) (N.drop k)=mrg P N);rw [<- HR.out,QgV hRi (.inl EN.out.symm),List.append_assoc];rfl
   have d1:decide ((i:Int)<(m:Int))=true:=ZZh (by omega);clear hbel hown hcell hRi;go_wp2
   go_quiet (fail)
   go_wp2_with (at_builtin;refine wpList_append_own _ rfl (.tmp 69) (.tmp 74) 41 rfl w.heap.size 199 i0 (.agg #[.int .i64 0,.int .u64 0]) 2 16 Tryz.underlying41 hi hz0 hz1 hz2 rfl (by decide) _ _ _ rfl ((HOq.out _).alloc _) ⟨wr.heap.size,0,none⟩ 1 1 (QaK (a,u)) rfl rfl (QaM (cs:=#[.int .i64 a,.int .u64 u]) rfl) (QbP _) (by unfold maxLen;omega) (by omega) (by simp;have:=HB.out.size;omega) ?_;intro v1 w1 hown1 hgrow1 hnil1;have O1:=Qaa hown1;have B1:=Qaa ((HB0.out _ _).grown hgrow1 (by simp;have:=HB.out.size;omega) (fun j hj=>(HO.out.lt j hj).1));have N1:=Qaa (show v1≠.slice none 0 0 from fun e=>by have:=(hnil1.1 e).2;omega);clear hown1 hgrow1 hnil1);go_roundw
   case rel=>exact ⟨i+1,k,R ++ [(a,u)],by omega,by omega,by go_num,rfl,N1.out,by simp;have:=HQ.out;omega,by have:=O1.out;rw [Qgq] at this;simpa [HQ.out] using this,HE,B1.out⟩
   case measure=>simp [RowKit.intOf];omega
  ·obtain ⟨⟨a,u⟩,hRi⟩:∃ x,P[i]?=some x:=⟨P[i]'(by have:=EM.out;omega),ZZe _⟩
   obtain ⟨⟨a',u'⟩,hRk⟩:∃ x,N[k]?=some x:=⟨N[k]'(by have:=EN.out;omega),ZZe _⟩;obtain ⟨b,off,rfl,hcell⟩:=HA.out (by have:=EM.out;omega);obtain ⟨b',off',rfl,hcell'⟩:=HB'.out (by have:=EN.out;omega);have hc0:=Qab hbel (hcell i _ hRi).1;have hc1:=Qab hbel (hcell i _ hRi).2;have hd0:=Qab hbel (hcell' k _ hRk).1;have hd1:=Qab hbel (hcell' k _ hRk).2;obtain ⟨_,hu⟩:=KA.out _ (ZZn hRi);obtain ⟨_,hu'⟩:=KB.out _ (ZZn hRk);simp only at hu hu';have d1:decide ((i:Int)<(m:Int))=true:=ZZh (by omega);have d2:((k:Int) == (n:Int))=false:=ZZf.2 (by omega);have d3:((i:Int) == (m:Int))=false:=ZZf.2 (by omega);have HRi:=Qaa hRi;have HRk:=Qaa hRk;have HCw:=Qaa (⟨(hcell i _ hRi).1,(hcell i _ hRi).2,(hcell' k _ hRk).2⟩:w.cell? ⟨b,off+i*2,none⟩=some (.int .i64 a)/\w.cell? ⟨b,off+i*2+1,none⟩=some (.int .u64 u)/\w.cell? ⟨b',off'+k*2+1,none⟩=some (.int .u64 u'));clear hbel hown hcell hcell' hRi hRk;have c3:a<a'∨(¬ a<a'/\a'<a)∨(¬ a<a'/\¬ a'<a):=by omega
   rcases c3 with h1 | ⟨h1,h2⟩ | ⟨h1,h2⟩
   ·have HE:Hid ((R ++ [(a,u)]) ++ mrg (P.drop (i+1)) (N.drop k)=mrg P N):=by
     refine (?_:(R ++ [(a,u)]) ++ mrg (P.drop (i+1)) (N.drop k)=mrg P N);rw [<- HR.out,QgV HRi.out (.inr ⟨_,HRk.out,h1⟩),List.append_assoc];rfl
    have d4:decide (a<a')=true:=ZZh h1;go_wp2
    go_quiet (fail)
    go_wp2_with (at_builtin;refine wpList_append_own _ rfl (.tmp 69) (.tmp 74) 41 rfl w.heap.size 199 i0 (.agg #[.int .i64 0,.int .u64 0]) 2 16 Tryz.underlying41 hi hz0 hz1 hz2 rfl (by decide) _ _ _ rfl ((HOq.out _).alloc _) ⟨wr.heap.size,0,none⟩ 1 1 (QaK (a,u)) rfl rfl (QaM (cs:=#[.int .i64 a,.int .u64 u]) rfl) (QbP _) (by unfold maxLen;omega) (by omega) (by simp;have:=HB.out.size;omega) ?_;intro v1 w1 hown1 hgrow1 hnil1;have O1:=Qaa hown1;have B1:=Qaa ((HB0.out _ _).grown hgrow1 (by simp;have:=HB.out.size;omega) (fun j hj=>(HO.out.lt j hj).1));have N1:=Qaa (show v1≠.slice none 0 0 from fun e=>by have:=(hnil1.1 e).2;omega);clear hown1 hgrow1 hnil1);go_roundw
    case rel=>exact ⟨i+1,k,R ++ [(a,u)],by omega,by omega,by go_num,by go_num,N1.out,by simp;have:=HQ.out;omega,by have:=O1.out;rw [Qgq] at this;simpa [HQ.out] using this,HE,B1.out⟩
    case measure=>simp [RowKit.intOf];omega
   ·have HE:Hid ((R ++ [(a',u')]) ++ mrg (P.drop i) (N.drop (k+1))=mrg P N):=by
     refine (?_:(R ++ [(a',u')]) ++ mrg (P.drop i) (N.drop (k+1))=mrg P N);rw [<- HR.out,Qha HRk.out (.inr ⟨_,HRi.out,h2⟩),List.append_assoc];rfl
    have d4:decide (a<a')=false:=ZZg h1;have d5:decide (a'<a)=true:=ZZh h2;go_wp2
    go_quiet (fail)
    go_wp2
    go_quiet (fail)
    go_wp2_with (at_builtin;refine wpList_append_own _ rfl (.tmp 96) (.tmp 101) 41 rfl w.heap.size 199 i0 (.agg #[.int .i64 0,.int .u64 0]) 2 16 Tryz.underlying41 hi hz0 hz1 hz2 rfl (by decide) _ _ _ rfl ((HOq.out _).alloc _) ⟨wr.heap.size,0,none⟩ 1 1 (QaK (a',u')) rfl rfl (QaM (cs:=#[.int .i64 a',.int .u64 u']) rfl) (QbP _) (by unfold maxLen;omega) (by omega) (by simp;have:=HB.out.size;omega) ?_;intro v1 w1 hown1 hgrow1 hnil1;have O1:=Qaa hown1;have B1:=Qaa ((HB0.out _ _).grown hgrow1 (by simp;have:=HB.out.size;omega) (fun j hj=>(HO.out.lt j hj).1));have N1:=Qaa (show v1≠.slice none 0 0 from fun e=>by have:=(hnil1.1 e).2;omega);clear hown1 hgrow1 hnil1);go_roundw
    case rel=>exact ⟨i,k+1,R ++ [(a',u')],by omega,by omega,by go_num,by go_num,N1.out,by simp;have:=HQ.out;omega,by have:=O1.out;rw [Qgq] at this;simpa [HQ.out] using this,HE,B1.out⟩
    case measure=>simp [RowKit.intOf];omega
   ·have HE:Hid ((R ++ [(a,QaA u u')]) ++ mrg (P.drop (i+1)) (N.drop (k+1))=mrg P N):=by
     refine (?_:(R ++ [(a,QaA u u')]) ++ mrg (P.drop (i+1)) (N.drop (k+1))=mrg P N);rw [<- HR.out,Qly HRi.out HRk.out (by show a=a'; omega),List.append_assoc];rfl
    have d4:decide (a<a')=false:=ZZg h1;have d5:decide (a'<a)=false:=ZZg h2;go_wp2
    go_quiet (fail)
    go_wp2
    go_quiet (fail)
    go_wp2_with fail;have HOh:=Qaa (fun (W:World) (hW:W.heap=wr.heap)=>(show W.ownsRow w.heap.size 199 2 (.slice (some ⟨g,0,none⟩) q cv) q (fl QaK R) from by unfold World.ownsRow;rw [hW];exact HO.out));have HBh:=Qaa (fun (W:World) (hW:W.heap=wr.heap) (h1:W.os=wr.os) (h2:W.tape=wr.tape) (h3:W.output=wr.output)=>(⟨h1.trans HB.out.os,h2.trans HB.out.tape,h3.trans HB.out.output,by rw [hW];exact HB.out.size,fun k hk=>by rw [hW];exact HB.out.block k hk⟩:Below w.heap.size w W));refine Qaj (fun W=>W.cell? ⟨b,off+i*2,none⟩=some (.int .i64 a)/\W.cell? ⟨b,off+i*2+1,none⟩=some (.int .u64 u)/\W.cell? ⟨b',off'+k*2+1,none⟩=some (.int .u64 u')) 999 (by kernel_rfl) ?_;refine QcF (i:=0) (d:=21) (v:=.slice (some ⟨g,0,none⟩) q cv) rfl rfl (by kernel_rfl) (by kernel_rfl) (by kernel_rfl) (by decide) (by kernel_rfl) (fun _ _ _ h=>h) (Or.inl ⟨by rfl,fun W hW=>?_⟩) ⟨hc0,hc1,hd1⟩ ?_
    ·obtain ⟨x0,x1,x2⟩:=hW
     go_simp
    refine QcF (i:=1) (d:=22) (v:=.slice (some ⟨b,off,none⟩) m c) rfl rfl (by kernel_rfl) (by kernel_rfl) (by kernel_rfl) (by decide) (by kernel_rfl) (fun _ _ _ h=>h) (Or.inl ⟨by rfl,fun W hW=>?_⟩) ⟨hc0,hc1,hd1⟩ ?_
    ·obtain ⟨x0,x1,x2⟩:=hW
     go_simp
    refine QcF (i:=2) (d:=23) (v:=.int .i64 i) rfl rfl (by kernel_rfl) (by kernel_rfl) (by kernel_rfl) (by decide) (by kernel_rfl) (fun _ _ _ h=>h) (Or.inl ⟨by rfl,fun W hW=>?_⟩) ⟨hc0,hc1,hd1⟩ ?_
    ·obtain ⟨x0,x1,x2⟩:=hW
     go_simp
    simp only [sA,sB,sC];refine QcF (i:=3) (d:=24) (v:=.pointer (some ⟨b,off+i*2,none⟩)) rfl rfl (by kernel_rfl) (by kernel_rfl) (by kernel_rfl) (by decide) (by kernel_rfl) (fun _ _ _ h=>h) (Or.inl ⟨by rfl,fun W hW=>?_⟩) ⟨hc0,hc1,hd1⟩ ?_
    ·obtain ⟨x0,x1,x2⟩:=hW
     go_simp
    refine QcF (i:=4) (d:=25) (v:=.pointer (some ⟨b,off+i*2,none⟩)) rfl rfl (by kernel_rfl) (by kernel_rfl) (by kernel_rfl) (by decide) (by kernel_rfl) (fun _ _ _ h=>h) (Or.inl ⟨by rfl,fun W hW=>?_⟩) ⟨hc0,hc1,hd1⟩ ?_
    ·obtain ⟨x0,x1,x2⟩:=hW
     go_simp
    refine QcF (i:=5) (d:=26) (v:=.int .i64 a) rfl rfl (by kernel_rfl) (by kernel_rfl) (by kernel_rfl) (by decide) (by kernel_rfl) (fun _ _ _ h=>h) (Or.inl ⟨by rfl,fun W hW=>?_⟩) ⟨hc0,hc1,hd1⟩ ?_
    ·obtain ⟨x0,x1,x2⟩:=hW
     go_simp
    simp only [sA,sB,sC];refine QcF (i:=6) (d:=27) (v:=.slice (some ⟨b,off,none⟩) m c) rfl rfl (by kernel_rfl) (by kernel_rfl) (by kernel_rfl) (by decide) (by kernel_rfl) (fun _ _ _ h=>h) (Or.inl ⟨by rfl,fun W hW=>?_⟩) ⟨hc0,hc1,hd1⟩ ?_
    ·obtain ⟨x0,x1,x2⟩:=hW
     go_simp
    refine QcF (i:=7) (d:=28) (v:=.int .i64 i) rfl rfl (by kernel_rfl) (by kernel_rfl) (by kernel_rfl) (by decide) (by kernel_rfl) (fun _ _ _ h=>h) (Or.inl ⟨by rfl,fun W hW=>?_⟩) ⟨hc0,hc1,hd1⟩ ?_
    ·obtain ⟨x0,x1,x2⟩:=hW
     go_simp
    refine QcF (i:=8) (d:=29) (v:=.pointer (some ⟨b,off+i*2,none⟩)) rfl rfl (by kernel_rfl) (by kernel_rfl) (by kernel_rfl) (by decide) (by kernel_rfl) (fun _ _ _ h=>h) (Or.inl ⟨by rfl,fun W hW=>?_⟩) ⟨hc0,hc1,hd1⟩ ?_
    ·obtain ⟨x0,x1,x2⟩:=hW
     go_simp
    simp only [sA,sB,sC];refine QcF (i:=9) (d:=30) (v:=.pointer (some ⟨b,off+i*2+1,none⟩)) rfl rfl (by kernel_rfl) (by kernel_rfl) (by kernel_rfl) (by decide) (by kernel_rfl) (fun _ _ _ h=>h) (Or.inl ⟨by rfl,fun W hW=>?_⟩) ⟨hc0,hc1,hd1⟩ ?_
    ·obtain ⟨x0,x1,x2⟩:=hW
     go_simp
    refine QcF (i:=10) (d:=31) (v:=.int .u64 u) rfl rfl (by kernel_rfl) (by kernel_rfl) (by kernel_rfl) (by decide) (by kernel_rfl) (fun _ _ _ h=>h) (Or.inl ⟨by rfl,fun W hW=>?_⟩) ⟨hc0,hc1,hd1⟩ ?_
    ·obtain ⟨x0,x1,x2⟩:=hW
     go_simp
    refine QcF (i:=11) (d:=32) (v:=.slice (some ⟨b',off',none⟩) n c') rfl rfl (by kernel_rfl) (by kernel_rfl) (by kernel_rfl) (by decide) (by kernel_rfl) (fun _ _ _ h=>h) (Or.inl ⟨by rfl,fun W hW=>?_⟩) ⟨hc0,hc1,hd1⟩ ?_
    ·obtain ⟨x0,x1,x2⟩:=hW
     go_simp
    simp only [sA,sB,sC];refine QcF (i:=12) (d:=33) (v:=.int .i64 k) rfl rfl (by kernel_rfl) (by kernel_rfl) (by kernel_rfl) (by decide) (by kernel_rfl) (fun _ _ _ h=>h) (Or.inl ⟨by rfl,fun W hW=>?_⟩) ⟨hc0,hc1,hd1⟩ ?_
    ·obtain ⟨x0,x1,x2⟩:=hW
     go_simp
    refine QcF (i:=13) (d:=34) (v:=.pointer (some ⟨b',off'+k*2,none⟩)) rfl rfl (by kernel_rfl) (by kernel_rfl) (by kernel_rfl) (by decide) (by kernel_rfl) (fun _ _ _ h=>h) (Or.inl ⟨by rfl,fun W hW=>?_⟩) ⟨hc0,hc1,hd1⟩ ?_
    ·obtain ⟨x0,x1,x2⟩:=hW
     go_simp
    refine QcF (i:=14) (d:=35) (v:=.pointer (some ⟨b',off'+k*2+1,none⟩)) rfl rfl (by kernel_rfl) (by kernel_rfl) (by kernel_rfl) (by decide) (by kernel_rfl) (fun _ _ _ h=>h) (Or.inl ⟨by rfl,fun W hW=>?_⟩) ⟨hc0,hc1,hd1⟩ ?_
    ·obtain ⟨x0,x1,x2⟩:=hW
     go_simp
    simp only [sA,sB,sC];refine QcF (i:=15) (d:=36) (v:=.int .u64 u') rfl rfl (by kernel_rfl) (by kernel_rfl) (by kernel_rfl) (by decide) (by kernel_rfl) (fun _ _ _ h=>h) (Or.inl ⟨by rfl,fun W hW=>?_⟩) ⟨hc0,hc1,hd1⟩ ?_
    ·obtain ⟨x0,x1,x2⟩:=hW
     go_simp
    simp only [sA,sB,sC];refine onE (i:=16) rfl (fun K hK=>?_);go_simp;refine (QbF _ _ hu hu' _).mono ?_;rintro e w8 ⟨rfl,rfl⟩;dsimp only;refine hK.out _ _ (fun _=>⟨hc0,hc1,hd1⟩) ?_;clear hK K
    try simp only [Act.put,sA,sB,sC]
    refine QcF (i:=17) (d:=38) (v:=.agg #[.int .i64 a,.int .u64 (QaA u u')]) rfl rfl (by kernel_rfl) (by kernel_rfl) (by kernel_rfl) (by decide) (by kernel_rfl) (fun _ _ _ h=>h) (Or.inl ⟨by rfl,fun W hW=>?_⟩) ⟨hc0,hc1,hd1⟩ ?_
    ·obtain ⟨x0,x1,x2⟩:=hW
     go_simp
    simp only [sA,sB,sC];have HSz:=Qaa (fun (W:World) (hW:Below w.heap.size w W)=>(⟨Qab hW HCw.out.1,Qab hW HCw.out.2.1,Qab hW HCw.out.2.2⟩:(fun W=>W.cell? ⟨b,off+i*2,none⟩=some (.int .i64 a)/\W.cell? ⟨b,off+i*2+1,none⟩=some (.int .u64 u)/\W.cell? ⟨b',off'+k*2+1,none⟩=some (.int .u64 u')) W));refine onE (i:=18) rfl (fun K hK=>?_);go_simp;refine hK.out _ _ (fun _=>HSz.out _ (HB0.out _ _)) ?_;clear hK K
    try simp only [Act.put,sA,sB,sC]
    refine onE (i:=19) rfl (fun K hK=>?_);rw [if_pos (by rfl)];refine wp_append_own _ (.tmp 21) (.tmp 39) 41 rfl w.heap.size 199 i0 (.agg #[.int .i64 0,.int .u64 0]) 2 16 Tryz.underlying41 hi hz0 hz1 hz2 rfl (by decide) _ _ _ rfl ((HOq.out _).alloc _) ⟨wr.heap.size,0,none⟩ 1 1 (QaK (a,(QaA u u'))) rfl rfl (QaM (cs:=#[.int .i64 a,.int .u64 (QaA u u')]) rfl) (QbP _) (by unfold maxLen;omega) (by omega) (by simp;have:=HB.out.size;omega) ?_;intro v1 w1 hown1 hgrow1 hnil1;have O1:=Qaa hown1;have B1:=Qaa ((HB0.out _ _).grown hgrow1 (by simp;have:=HB.out.size;omega) (fun j hj=>(HO.out.lt j hj).1));have N1:=Qaa (show v1≠.slice none 0 0 from fun e=>by have:=(hnil1.1 e).2;omega);clear hown1 hgrow1 hnil1;refine hK.out _ _ (fun _=>HSz.out _ B1.out) ?_;clear hK K;obtain ⟨ao1,c1',e1⟩:=Qam O1.out;subst e1
    try simp only [Act.put,sA,sB,sC]
    refine onE (i:=20) rfl (fun K hK=>?_);go_simp;refine hK.out _ _ (fun _=>HSz.out _ B1.out) ?_;clear hK K
    try simp only [Act.put,sA,sB,sC]
    refine Qar (by kernel_rfl) ?_ _;go_wp2;go_roundw
    case rel=>exact ⟨i+1,k+1,R ++ [(a,QaA u u')],by omega,by omega,by go_num,by go_num,N1.out,by simp;have:=HQ.out;omega,by have:=O1.out;rw [Qgq] at this;simpa [HQ.out] using this,HE,B1.out⟩
    case measure=>simp [RowKit.intOf];omega
  ·subst him
   obtain ⟨⟨a',u'⟩,hRk⟩:∃ x,N[k]?=some x:=⟨N[k]'(by have:=EN.out;omega),ZZe _⟩;obtain ⟨b',off',rfl,hcell'⟩:=HB'.out (by have:=EN.out;omega);have hd0:=Qab hbel (hcell' k _ hRk).1;have hd1:=Qab hbel (hcell' k _ hRk).2
   have HE:Hid ((R ++ [(a',u')]) ++ mrg (P.drop i) (N.drop (k+1))=mrg P N):=by
    refine (?_:(R ++ [(a',u')]) ++ mrg (P.drop i) (N.drop (k+1))=mrg P N);rw [<- HR.out,Qha hRk (.inl EM.out.symm),List.append_assoc];rfl
   have d2:((k:Int) == (n:Int))=false:=ZZf.2 (by omega);have d1:decide ((i:Int)<(i:Int))=false:=ZZg (by omega);clear hbel hown hcell' hRk;go_wp2
   go_quiet (fail)
   go_wp2
   go_quiet (fail)
   go_wp2_with (at_builtin;refine wpList_append_own _ rfl (.tmp 96) (.tmp 101) 41 rfl w.heap.size 199 i0 (.agg #[.int .i64 0,.int .u64 0]) 2 16 Tryz.underlying41 hi hz0 hz1 hz2 rfl (by decide) _ _ _ rfl ((HOq.out _).alloc _) ⟨wr.heap.size,0,none⟩ 1 1 (QaK (a',u')) rfl rfl (QaM (cs:=#[.int .i64 a',.int .u64 u']) rfl) (QbP _) (by unfold maxLen;omega) (by omega) (by simp;have:=HB.out.size;omega) ?_;intro v1 w1 hown1 hgrow1 hnil1;have O1:=Qaa hown1;have B1:=Qaa ((HB0.out _ _).grown hgrow1 (by simp;have:=HB.out.size;omega) (fun j hj=>(HO.out.lt j hj).1));have N1:=Qaa (show v1≠.slice none 0 0 from fun e=>by have:=(hnil1.1 e).2;omega);clear hown1 hgrow1 hnil1);go_roundw
   case rel=>exact ⟨i,k+1,R ++ [(a',u')],by omega,by omega,by go_num,by go_num,N1.out,by simp;have:=HQ.out;omega,by have:=O1.out;rw [Qgq] at this;simpa [HQ.out] using this,HE,B1.out⟩
   case measure=>simp [RowKit.intOf];omega
  ·subst him hkn
   have HM:Hid (R=mrg P N):=by
    refine (?_:R=mrg P N);rw [<- HR.out,<- EM.out,<- EN.out,List.drop_length,List.drop_length,QbN,List.append_nil]
   have HOk:Hid (∀ z∈R,Qbk z):=by
    refine (?_:∀ z∈R,Qbk z);rw [HM.out];exact mrg_ok KA.out KB.out
   clear HR hbel;by_cases h30:q<=30
   ·have HE:Hid (QaJ (mrg P N)=R):=(by rw [<- HM.out];exact if_pos (by have:=HQ.out;omega):QaJ (mrg P N)=R)
    have hcs:∀ j z,(fl QaK R)[j]?=some z->wr.cell? ((⟨g,0,none⟩:Addr).add j)=some z:=fun j z hz=>hown.cells rfl j z hz;have HCs:=Qaa hcs;clear hown hcs;have d0:¬ (0:Int)<(q:Int) - 30:=by omega
    go_wp2
    go_loopw [9] (fun z w2=>z=.int .i64 0/\w2=wr) (fun z w2=>0)
    case atStart=>exact ⟨rfl,rfl⟩
    case round=>
     obtain ⟨rfl,rfl⟩:=hrel;go_wp2_with (at_builtin;refine wpList_append_own _ rfl (.tmp 133) (.tmp 134) 41 rfl w.heap.size 199 i0 (.agg #[.int .i64 0,.int .u64 0]) 2 16 Tryz.underlying41 hi hz0 hz1 hz2 rfl (by decide) _ _ _ rfl (World.ownsRow_made _ #[] 0 HB.out.size (Nat.zero_le _) rfl) ⟨g,0,none⟩ q cv (fl QaK R) rfl (by rw [Qcv Qbl];have:=HQ.out;omega) (fun j z hz=>by have:=HCs.out j z hz;exact Qeb this _) (Qfe _) (by unfold maxLen;omega) (by omega) (by simp;have:=HB.out.size;omega) ?_;intro v1 w1 hown1 hgrow1 hnil1;simp only [Nat.zero_add,List.nil_append] at hown1;have O1:=Qaa hown1;have B1:=Qaa ((HB.out.alloc HB.out.size _).grown hgrow1 (by simp;have:=HB.out.size;omega) (fun j hj=>by cases hj;exact HB.out.size));clear hown1 hgrow1 hnil1);go_ret;exact ⟨_,_,rfl,by rw [HE.out];exact O1.out,by rw [HE.out];exact HQ.out.symm,B1.out⟩
   ·obtain ⟨s,hs⟩:∃ s,q=s+30:=⟨q - 30,by omega⟩
    subst hs;obtain ⟨⟨p,x0⟩,hRs⟩:∃ z,R[s]?=some z:=⟨R[s]'(by have:=HQ.out;omega),ZZe _⟩;obtain ⟨_,hx0⟩:=HOk.out _ (ZZn hRs);simp only at hx0;have HRs:=Qaa hRs;have hcap:=Qm6 hown;have hcapm:=Qk8 hown;have e1:((s+30:Nat):Int) - 30=(s:Int):=by omega
    have hs0:0<s:=by omega
    clear hown hRs;go_wp2
    go_loopw [9] (fun z w2=>∃ j:Nat,j<=s/\z=.int .i64 j/\w2.ownsRow w.heap.size 199 2 (.slice (some ⟨g,0,none⟩) (s+30) cv) (s+30) (fl QaK (R.set s (p,Qb9 x0 (R.take j))))/\Below w.heap.size w w2) (fun z w2=>s - (RowKit.intOf z).toNat)
    case atStart=>exact ⟨0,Nat.zero_le _,rfl,by rw [show Qb9 x0 (R.take 0)=x0 from rfl,Qlk HRs.out];exact HO.out,HB.out⟩
    case round=>
     clear HO HB HOq HB0;obtain ⟨j,hj,rfl,hown,hbel⟩:=hrel;obtain ⟨x,hx⟩:∃ x,Qb9 x0 (R.take j)=x:=⟨_,rfl⟩;rw [hx] at hown;have hux:U64 x:=by rw [<- hx];exact Qht hx0 (fun y hy=>HOk.out y (ZZo hy))
     have HX:=Qaa hx;have HO:=Qaa hown;have HB:=Qaa hbel;have hlen:s+30=(R.set s (p,x)).length:=by rw [List.length_set];exact HQ.out.symm
     have hsR:s<R.length:=by have:=HQ.out;omega
     clear hx;by_cases hjs:j<s
     ·obtain ⟨⟨b,y⟩,hRj⟩:∃ z,R[j]?=some z:=⟨R[j]'(by omega),ZZe (by omega)⟩
      obtain ⟨_,hy⟩:=HOk.out _ (ZZn hRj);simp only at hy;have kc1:=(Qdo hown hlen (k:=s) (x:=(p,x)) (by simp [hsR])).2;have jc1:=(Qdo hown hlen (k:=j) (x:=(b,y)) (by rw [List.getElem?_set_ne (by omega)];exact hRj)).2;have kf1:=hown.frozenAt (s*2+1)
      have HW:Hid (QaA x y=Qb9 x0 (R.take (j+1))):=by
       refine (?_:QaA x y=Qb9 x0 (R.take (j+1)));rw [QgZ hRj,HX.out]
      have HS0:(fun W=>W.cell? ⟨g,s*2+1,none⟩=some (.int .u64 x)/\W.cell? ⟨g,j*2+1,none⟩=some (.int .u64 y)/\W.frozen? ⟨g,s*2+1,none⟩=false) wr.drew:=⟨kc1,jc1,kf1⟩;simp only at kc1 jc1;have HHlen:=Qaa hlen;have hsb:¬ (s:Int)+30<=(s:Int):=by omega
      have hjb:¬ (s:Int)+30<=(j:Int):=by omega
      clear hown hbel hRj kc1 jc1 kf1 hlen;go_wp2_with fail;refine Qaj (fun W=>W.cell? ⟨g,s*2+1,none⟩=some (.int .u64 x)/\W.cell? ⟨g,j*2+1,none⟩=some (.int .u64 y)/\W.frozen? ⟨g,s*2+1,none⟩=false) 15 (by kernel_rfl) ?_;refine tkL (i:=0) (v:=.slice (some ⟨g,0,none⟩) (s+30) cv) rfl rfl HS0 (fun W hW=>?_) ?_
      ·obtain ⟨x0',x1',x2'⟩:=hW
       go_simp
      refine tkL (i:=1) (v:=.int .i64 s) rfl rfl HS0 (fun W hW=>?_) ?_
      ·obtain ⟨x0',x1',x2'⟩:=hW
       go_simp
      refine tkL (i:=2) (v:=.slice (some ⟨g,0,none⟩) (s+30) cv) rfl rfl HS0 (fun W hW=>?_) ?_
      ·obtain ⟨x0',x1',x2'⟩:=hW
       go_simp
      simp only [sA,sB,sC];refine tkL (i:=3) (v:=.int .i64 s) rfl rfl HS0 (fun W hW=>?_) ?_
      ·obtain ⟨x0',x1',x2'⟩:=hW
       go_simp
      refine tkL (i:=4) (v:=.pointer (some ⟨g,s*2,none⟩)) rfl rfl HS0 (fun W hW=>?_) ?_
      ·obtain ⟨x0',x1',x2'⟩:=hW
       go_simp
      refine tkL (i:=5) (v:=.pointer (some ⟨g,s*2+1,none⟩)) rfl rfl HS0 (fun W hW=>?_) ?_
      ·obtain ⟨x0',x1',x2'⟩:=hW
       go_simp
      simp only [sA,sB,sC];refine tkL (i:=6) (v:=.int .u64 x) rfl rfl HS0 (fun W hW=>?_) ?_
      ·obtain ⟨x0',x1',x2'⟩:=hW
       go_simp
      refine tkL (i:=7) (v:=.slice (some ⟨g,0,none⟩) (s+30) cv) rfl rfl HS0 (fun W hW=>?_) ?_
      ·obtain ⟨x0',x1',x2'⟩:=hW
       go_simp
      refine tkL (i:=8) (v:=.int .i64 j) rfl rfl HS0 (fun W hW=>?_) ?_
      ·obtain ⟨x0',x1',x2'⟩:=hW
       go_simp
      simp only [sA,sB,sC];refine tkL (i:=9) (v:=.pointer (some ⟨g,j*2,none⟩)) rfl rfl HS0 (fun W hW=>?_) ?_
      ·obtain ⟨x0',x1',x2'⟩:=hW
       go_simp
      refine tkL (i:=10) (v:=.pointer (some ⟨g,j*2+1,none⟩)) rfl rfl HS0 (fun W hW=>?_) ?_
      ·obtain ⟨x0',x1',x2'⟩:=hW
       go_simp
      refine tkL (i:=11) (v:=.int .u64 y) rfl rfl HS0 (fun W hW=>?_) ?_
      ·obtain ⟨x0',x1',x2'⟩:=hW
       go_simp
      simp only [sA,sB,sC];refine onE (i:=12) rfl (fun K hK=>?_);go_simp;refine (QbF _ _ hux hy _).mono ?_;rintro e w8 ⟨rfl,rfl⟩;dsimp only;refine hK.out _ _ (fun _=>HS0) ?_;clear hK K
      try simp only [Act.put,sA,sB,sC]
      refine onE (i:=13) rfl (fun K hK=>?_);go_simp;refine hK.out _ _ (fun _=>HS0) ?_;clear hK K
      try simp only [Act.put,sA,sB,sC]
      refine onE (i:=14) rfl (fun K hK=>?_);go_simp;refine hK.out _ _ (fun _=>HS0) ?_;clear hK K
      try simp only [Act.put,sA,sB,sC]
      obtain ⟨z0,z1,z2⟩:=HS0;refine onE (i:=15) rfl (fun K hK=>?_);go_simp;refine hK.out _ _ (fun h=>absurd rfl h) ?_;clear hK K
      try simp only [Act.put,sA,sB,sC]
      refine Qar (by kernel_rfl) ?_ _;go_wp2;go_roundw
      case rel=>
       refine ⟨j+1,by omega,by go_num,?_,?_⟩
       ·have o1:=(HO.out.drew.stored (s*2+1) (.int .u64 (QaA x y))).1
        have e2:(fl QaK (R.set s (p,x))).set (s*2+1) (.int .u64 (QaA x y))=fl QaK (R.set s (p,QaA x y)):=QlJ hsR;rw [e2] at o1;rw [<- HW.out];exact o1
       ·exact HB.out.drew.setCell (Qlb HO.out).1 _
      case measure=>simp [RowKit.intOf];omega
     ·have ejs:j=s:=by omega
      have HE:Hid (QaJ (mrg P N)=(R.set s (p,x)).drop s):=by
       refine (?_:QaJ (mrg P N)=(R.set s (p,x)).drop s);rw [<- HM.out,<- HX.out,ejs];exact Qop HQ.out hs0 HRs.out
      have hcs:∀ jj z,(fl QaK ((R.set s (p,x)).drop s))[jj]?=some z->wr.cell? ((⟨g,s*2,none⟩:Addr).add jj)=some z:=fun jj z hz=>by
       rw [QhI Qbl,List.getElem?_drop] at hz;have:=hown.cells rfl (s*2+jj) z hz;rw [Addr.add_lit] at this ⊢
       simpa using this
      have hdl:((R.set s (p,x)).drop s).length=30:=by rw [List.length_drop,<- hlen];omega
      have HCs:=Qaa hcs;have HDl:=Qaa hdl;have hnb:¬ cv=s:=by omega
      clear hown hbel hcs hdl hlen ejs;go_wp2_with (at_builtin;refine wpList_append_own _ rfl (.tmp 133) (.tmp 134) 41 rfl w.heap.size 199 i0 (.agg #[.int .i64 0,.int .u64 0]) 2 16 Tryz.underlying41 hi hz0 hz1 hz2 rfl (by decide) _ _ _ rfl (World.ownsRow_made _ #[] 0 HB.out.size (Nat.zero_le _) rfl) ⟨g,s*2,none⟩ _ _ (fl QaK ((R.set s (p,x)).drop s)) rfl (by rw [Qcv Qbl,HDl.out] <;> omega) (fun j z hz=>by have:=HCs.out j z hz;exact Qeb this _) (Qfe _) (by unfold maxLen;omega) (by omega) (by simp;have:=HB.out.size;omega) ?_;intro v1 w1 hown1 hgrow1 hnil1;simp only [Nat.zero_add,List.nil_append,Nat.add_sub_cancel_left] at hown1;have O1:=Qaa hown1;have B1:=Qaa ((HB.out.alloc HB.out.size _).grown hgrow1 (by simp;have:=HB.out.size;omega) (fun j hj=>by cases hj;exact HB.out.size));clear hown1 hgrow1 hnil1);go_ret;exact ⟨_,_,rfl,by rw [HE.out];exact O1.out,by rw [HE.out];exact HDl.out.symm,B1.out⟩
theorem Qi4 {w:World} {A:Addr} {L:List Bn} (hA:Qay w (some A) L):∀ j z,(fl QaK L)[j]?=some z->w.cell? (A.add j)=some z:=fun j z hz=>by
 have hj:=(ZZd.1 hz).1;rw [Qcv Qbl] at hj;obtain ⟨b,off,e,hcell⟩:=hA (by omega)
 cases e
 obtain ⟨x,hx⟩:∃ x,L[j / 2]?=some x:=⟨L[j / 2]'(by omega),ZZe (by omega)⟩;have h1:=QiK Qbl L (j / 2) x (j % 2) (by omega) hx;rw [show j / 2*2+j % 2=j by omega,hz] at h1;have hc:=hcell (j / 2) x hx;rw [Addr.add_lit];have:j % 2=0∨j % 2=1:=by omega
 rcases this with e | e
 ·rw [e] at h1;rw [show off+j=off+j / 2*2 by omega,hc.1];simpa [QaK] using h1.symm
 ·rw [e] at h1;rw [show off+j=off+j / 2*2+1 by omega,hc.2];simpa [QaK] using h1.symm
theorem Qka {w:World} {L:List Bn} {n:Nat} (h:Qay w none L) (hn:L.length=n):n=0:=by
 rcases Nat.eq_zero_or_pos n with e | e
 ·exact e
 ·obtain ⟨b,off,e1,_⟩:=h (by omega);cases e1
theorem QcO {P:Program} (w:World) {ops:Array Oper} {rest:List Oper} {o:Oper} {a:Act} {Q:Exit->Act->World->Prop} (hgd:o.guard=none) (s x:Operand) (t:TypeId)
  (ho:o.op=.call { callee:=.builtin .append,args:=#[s,x],argTypes:=#[t,t] })
  (base:Nat) (e:TypeId) (i:TypeInfo) (z:Value) (size bytes:Nat) (ht:P.underlying t=some (.slice e)) (hi:P.info? e=some i) (hz:i.zero=some z)
  (hsize:i.size=size) (hby:i.bytes=bytes) (hzs:z.cells.size=size) (hsz:0<size)
  (v:Value) (n:Nat) (xs:List Value) (hs:a.eval s=v) (hown:w.ownsRow base e size v n xs)
  (xo:Option Addr) (m c:Nat) (news:List Value) (hx:a.eval x=.slice xo m c) (hl:news.length=m*size) (hno:xo=none->m=0/\c=0) (hnews:∀ ad,xo=some ad->∀ j u,news[j]?=some u->w.cell? (ad.add j)=some u) (h1:∀ u∈news,u.oneCell'=true)
  (h63:n+m<=maxLen) (hbytes:(n+m)*bytes<=140737488355328) (hbase:base<=w.heap.size)
  (h:∀ v' w',w'.ownsRow base e size v' (n+m) (xs ++ news)->w.grownBy w' v.ownBlock->(v'=.slice none 0 0↔v=.slice none 0 0/\m=0)->wpList P ops Q rest (a.put o.dst v') w'):wpList P ops Q (o :: rest) a w:=by
 cases xo with
 | some ad=>exact wpList_append_own w hgd s x t ho base e i z size bytes ht hi hz hsize hby hzs hsz v n xs hs hown ad m c news hx hl (hnews ad rfl) h1 h63 hbytes hbase h
 | none=>
  obtain ⟨rfl,rfl⟩:=hno rfl;obtain rfl:news=[]:=List.eq_nil_of_length_eq_zero (by rw [hl,Nat.zero_mul]);refine wpList_plain hgd fun _ hK=>?_;have hr:=run_append_owned_none (P:=P) (w:=w) base t o.type e i size ht hi v n xs hown;unfold Oper.wp execOp;simp only [ho,resolve,invoke,builtin,Sem.run_bind,Sem.run_pure,Result.andThen_ok,List.map_toArray,List.map_cons,List.map_nil,hs,hx,hr];exact hK _ _ (h v w (by rw [Nat.add_zero,List.append_nil];exact hown) (World.grownBy.refl _ _) (by simp))
structure CopyAt (w w1:World) (z h l:Int) (n1 n:Value) (pn:Nat) (P:List Bn):Prop where
 bel:∀ o,Below w.heap.size w ((w1.setCell ⟨w.heap.size,1,none⟩ n1).alloc o)
 made:((w1.setCell ⟨w.heap.size,1,none⟩ n1).alloc (.cells #[] 199)).ownsRow w1.heap.size 199 2 (.slice (some ⟨w1.heap.size,0,none⟩) 0 0) 0 []
 grow:∀ {o W},((w1.setCell ⟨w.heap.size,1,none⟩ n1).alloc o).grownBy W (some w1.heap.size)->Below w.heap.size w W/\W.heap[w.heap.size]?=some (.cells #[.int .u64 z,n1,n,.int .i64 h,.int .u64 l] 43 (0,0))/\W.heap[w.heap.size+1]?=some (.cells Qav 43 (0,0))/\OwnB W w.heap.size n1 pn P
 lt:∀ k,n1.ownBlock=some k->k<w1.heap.size
 le:w.heap.size<=w1.heap.size
theorem Qmg {w w1:World} {z h l:Int} {p n1 n:Value} {pn:Nat} {P:List Bn} (hT:Below w.heap.size w w1) (hR:w1.heap[w.heap.size]?=some (.cells #[.int .u64 z,p,n,.int .i64 h,.int .u64 l] 43 (0,0))) (hS:w1.heap[w.heap.size+1]?=some (.cells Qav 43 (0,0))) (hO:OwnB w1 w.heap.size n1 pn P) (hz:w.heap.size+1+1<w1.heap.size):CopyAt w w1 z h l n1 n pn P:=by
 have hB:Below w.heap.size w (w1.setCell ⟨w.heap.size,1,none⟩ n1):=hT.setCell (ZZa _) _;refine ⟨fun o=>hB.alloc (by simp;omega) o,?_,fun {o W} hg=>?_,fun k e=>(hO.lt k e).2,by omega⟩
 ·have:=World.ownsRow_made (base:=w1.heap.size) (e:=199) (size:=2) (w1.setCell ⟨w.heap.size,1,none⟩ n1) #[] 0 (by simp) (Nat.zero_le _) rfl
  simpa using this
 ·have hb:Below w1.heap.size (w1.setCell ⟨w.heap.size,1,none⟩ n1) W:=((Below.refl _ _).alloc (by simp) o).grown hg (by simp) (fun k e=>by cases e;exact Nat.le_refl _)
  have hb':Below (w1.setCell ⟨w.heap.size,1,none⟩ n1).heap.size (w1.setCell ⟨w.heap.size,1,none⟩ n1) W:=hb.mono (by simp);refine ⟨hB.trans (hb.mono (by omega)),?_,?_,(hO.set (hO.ne hR (by decide)) _).past hb'⟩
  ·rw [hb.block _ (by omega)];exact ZZl w1 w.heap.size 1 _ _ _ hR
  ·rw [hb.block _ (by omega),heap_setCell_other _ _ _ _ (by simp)];exact hS
theorem Qge {w:World} {z h l:Int} {pa na:Option Addr} {pn pc nn nc:Nat} {P N:List Bn} (hp:P.length=pn) (hn:N.length=nn) (lp:pn<=1048576) (ln:nn<=1048576) (hP:Qay w pa P) (hN:Qay w na N) (cA:pa=none->pc=0) (cA':na=none->nc=0) :
  Calls Tryz.prog 174 #[.agg #[.int .u64 z,.slice pa pn pc,.slice na nn nc,.int .i64 h,.int .u64 l]] w fun e w'=>∃ v,e=.returned v/\Qef w' w.heap.size v z P N h l/\Below w.heap.size w w':=by
 obtain ⟨i0,hi,hz0,hz1,hz2⟩:=info_parts Qf5;have HP:=Qaa hP;have HN:=Qaa hN;have EP:=Qaa hp;have EN:=Qaa hn;have CA:=Qaa cA;have CA':=Qaa cA';clear hP hN hp hn cA cA';have hW:∀ o1 o2 o3,Below w.heap.size w (((w.alloc o1).alloc o2).alloc o3):=fun o1 o2 o3=>(((Below.refl _ _).alloc (Nat.le_refl _) _).alloc (by simp) _).alloc (by simp;omega) _;have HW:=Qaa hW
 have hM:∀ o1 o2,(((w.alloc o1).alloc o2).alloc (.cells #[] 199)).ownsRow w.heap.size 199 2 (.slice (some ⟨w.heap.size+1+1,0,none⟩) 0 0) 0 []:=fun o1 o2=>by
  have:=World.ownsRow_made (base:=w.heap.size) (e:=199) (size:=2) ((w.alloc o1).alloc o2) #[] 0 (by simp;omega) (Nat.zero_le _) rfl
  simpa using this
 have HM:=Qaa hM
 have hG:∀ o3 W,(((w.alloc (.cells #[.int .u64 z,.slice pa pn pc,.slice na nn nc,.int .i64 h,.int .u64 l] 43)).alloc (.cells Qav 43)).alloc o3).grownBy W (some (w.heap.size+1+1))->Below w.heap.size w W/\W.heap[w.heap.size]?=some (.cells #[.int .u64 z,.slice pa pn pc,.slice na nn nc,.int .i64 h,.int .u64 l] 43 (0,0))/\W.heap[w.heap.size+1]?=some (.cells Qav 43 (0,0))/\w.heap.size+1+1<W.heap.size:=fun o3 W hg=>by
  have hb:Below (w.heap.size+1+1) (((w.alloc (.cells #[.int .u64 z,.slice pa pn pc,.slice na nn nc,.int .i64 h,.int .u64 l] 43)).alloc (.cells Qav 43)).alloc o3) W:=(Below.refl _ _).grown hg (by simp) (fun k e=>by cases e;exact Nat.le_refl _);refine ⟨(hW _ _ _).grown hg (by simp;omega) (fun k e=>by cases e;omega),?_,?_,by have:=hg.size;simp at this;omega⟩
  ·rw [hb.block _ (by omega)]
   have h2:Below (w.heap.size+1) (w.alloc (.cells #[.int .u64 z,.slice pa pn pc,.slice na nn nc,.int .i64 h,.int .u64 l] 43)) (((w.alloc (.cells #[.int .u64 z,.slice pa pn pc,.slice na nn nc,.int .i64 h,.int .u64 l] 43)).alloc (.cells Qav 43)).alloc o3):=((Below.refl _ _).alloc (by simp) _).alloc (by simp) _;rw [h2.block _ (by omega)];exact ZZk w _
  ·rw [hb.block _ (by omega)]
   exact Qp3 w _ _ _ _
 have HG:=Qaa hG;clear hW hM hG;go_enter Tryz.func174,Tryz.ntmps174
 go_wp2_with (first
  | (at_builtin;refine QcO _ rfl (.tmp 3) (.tmp 5) 41 rfl w.heap.size 199 i0 (.agg #[.int .i64 0,.int .u64 0]) 2 16 Tryz.underlying41 hi hz0 hz1 hz2 rfl (by decide) _ _ _ rfl (HM.out _ _) pa pn pc (fl QaK P) rfl (by rw [Qcv Qbl,EP.out]) (fun e=>⟨Qka (e ▸ HP.out) EP.out,CA.out e⟩) (fun A e=>Qi4 (e ▸ Qae HP.out (HW.out _ _ _))) (Qfe _) (by unfold maxLen;omega) (by omega) (by simp;omega) ?_;intro v1 w1 hown1 hgrow1 hnil1;simp only [Nat.zero_add,List.nil_append] at hown1;obtain ⟨ao1,c1,rfl⟩:=Qam hown1;obtain ⟨hT1,hR1,hS1,hz1'⟩:=HG.out _ _ hgrow1;obtain ⟨k0,k1,k2,k3,k4⟩:=Qbx hR1;have f1:=frozen_of_row w1 w.heap.size 1 _ _ hR1;have hO1:=OwnB.of hown1 EP.out.symm;have L1:=Qaa (Qmg hT1 hR1 hS1 hO1 hz1');have hk2:∀ o,((w1.setCell ⟨w.heap.size,1,none⟩ (.slice ao1 pn c1)).alloc o).cell? ⟨w.heap.size,2,none⟩=some (.slice na nn nc):=(fun o=>Qeb (by rw [World.cell?_setCell_other _ _ _ _ (by simp)];exact k2) o);clear hown1 hgrow1 hnil1 hT1 hR1 hS1 hO1)
  | (at_builtin;refine QcO _ rfl (.tmp 8) (.tmp 10) 41 rfl w1.heap.size 199 i0 (.agg #[.int .i64 0,.int .u64 0]) 2 16 Tryz.underlying41 hi hz0 hz1 hz2 rfl (by decide) _ _ _ rfl L1.out.made na nn nc (fl QaK N) rfl (by rw [Qcv Qbl,EN.out]) (fun e=>⟨Qka (e ▸ HN.out) EN.out,CA'.out e⟩) (fun A e=>Qi4 (e ▸ Qae HN.out (L1.out.bel _))) (Qfe _) (by unfold maxLen;omega) (by omega) (by simp) ?_;intro v2 w2 hown2 hgrow2 hnil2;simp only [Nat.zero_add,List.nil_append] at hown2;obtain ⟨ao2,c2,rfl⟩:=Qam hown2;obtain ⟨hT2,hR2,hS2,hP2⟩:=L1.out.grow hgrow2;obtain ⟨y0,y1,y2,y3,y4⟩:=Qbx hR2;have f2:=frozen_of_row w2 w.heap.size 2 _ _ hR2;have hO2':=OwnB.of hown2 EN.out.symm;have hO2:=hO2'.le (B':=w.heap.size) L1.out.le;obtain ⟨r0,r1,r2,r3,r4⟩:=Qbx hS2;have e0:=frozen_of_row w2 (w.heap.size+1) 0 _ _ hS2;have e1:=frozen_of_row w2 (w.heap.size+1) 1 _ _ hS2;have e2:=frozen_of_row w2 (w.heap.size+1) 2 _ _ hS2;have e3:=frozen_of_row w2 (w.heap.size+1) 3 _ _ hS2;have e4:=frozen_of_row w2 (w.heap.size+1) 4 _ _ hS2;have hap3:QdX (.slice ao1 pn c1) (.slice ao2 nn c2):=(fun k a1 a2=>by have q1:=L1.out.lt k a1;have q2:=(hO2'.lt k a2).1;omega);have T2:=Qaa hT2;have S2:=Qaa hS2;have R2:=Qaa hR2;have P2:=Qaa hP2;have O2:=Qaa hO2;have Ap:=Qaa hap3;clear hown2 hgrow2 hnil2 hT2 hS2 hR2 hP2 hO2 hO2' hap3))
 refine bodyPost_ret (v:=.agg #[.int .u64 z,.slice ao1 pn c1,.slice ao2 nn c2,.int .i64 h,.int .u64 l]) (by simp [results,Tryz.results174,go_sem,r0,r1,r2,r3,r4]) rfl ⟨_,rfl,⟨_,_,pn,nn,rfl,?_,?_,Ap.out⟩,?_⟩
 ·have n1:=P2.out.ne S2.out (by decide)
  have n2:=P2.out.ne R2.out (by decide);exact (((((P2.out.set n2 _).set n1 _).set n1 _).set n1 _).set n1 _).set n1 _
 ·have n1:=O2.out.ne S2.out (by decide)
  have n2:=O2.out.ne R2.out (by decide);exact (((((O2.out.set n2 _).set n1 _).set n1 _).set n1 _).set n1 _).set n1 _
 ·repeat (refine Below.setCell ?_ (by simp <;> omega) _)
  exact T2.out
end Go.Proofs.YthchmdmncmioiaaGreatDoor
