/-
 Parts.
-/
import Derived.Test.YtdbaabbmcfnjbaaGreatDoorDZI
set_option maxRecDepth 10000
set_option maxHeartbeats 8000000
set_option linter.all false
namespace Go.Proofs.YtdbaabbmcfnjbaaGreatDoor
open Go.ChangeShapes Go.WideShapes Go.ChangeAt Go.RowKit Go.PlainAid Go.Lib Go.Maps Go.Shelf Tryz
open Go.Sort hiding Below
section
abbrev keyV (n:Int) (s:ByteArray):Value:=.agg #[.int .i64 n,.string s]
def kL (n:Int) (s:ByteArray):Lit:=.string (keyBytes [.int .i64 n,.string s.data.toList])
def QmY (n:Int) (s:ByteArray):Prop:=I64 n/\s.size<=maxLen
def rA:Value->Option (DataW Value×List MemPlace)
 | .agg cs=>some (.held (.agg cs),[])
 | _=>none
abbrev heldC (c:Ce):DataW Value:=.held (.agg (Qan c.g c.p))
structure HoldsC (D:DataW Value) (L:List Ce):Prop where
 ap:L.Pairwise (fun c d=>¬ QcP c d)
 wf:∀ c∈L,QmY c.n c.s
 val:∀ c∈L,∀ z,D.atKey (kL c.n c.s) z=heldC c
 only:∀ n s,QmY n s->Maps.has D (kL n s)=true->∃ c∈L,c.n=n/\c.s=s
 sz:Maps.size D=L.length
def MpC (w:World) (b n:Nat) (L:List Ce):Prop:=∃ D:DataW Value,w.ownsMap prog 226 rA b n D/\HoldsC D L
structure RgC (D:DataW Value) (left:Lit->Bool) (L M R:List Ce):Prop where
 p:(M ++ R).Perm L
 no:∀ c∈M,left (kL c.n c.s)=false
 yes:∀ c∈R,left (kL c.n c.s)=true
end
section
def LiI (w:World) (b:Nat) (L:List Ce) (v:Value) (wr:World):Prop:=
 ∃ (D:DataW Value) (left:Lit->Bool) (cnt n:Nat) (M R:List Ce),wr.ranges prog 226 rA b w.heap.size n D left cnt/\HoldsC D L/\RgC D left L M R/\OwnC wr (w.heap.size+1) v M/\Below w.heap.size w wr
end
section
structure MoI (w wr:World) (L:List Ce) (k:Nat) (M:List Ce):Prop where
 m:MpC wr w.heap.size k M
 ky:M.map Ce.key=(L.take k).map Ce.key
 o:CesO wr (w.heap.size+1) M
 b:Below w.heap.size w wr
end
section
def isW (win:Int) (c:Ce):Bool:=c.n == win
structure TkS (w:World) (b:Nat) (win:Int) (L:List Ce) (wr:World) (D:DataW Value) (left:Lit->Bool) (cnt n:Nat) (T M R:List Ce):Prop where
 rg:wr.ranges prog 226 rA b (w.heap.size+1) n D left cnt
 ho:HoldsC D (M ++ R)
 rc:RgC D left (M ++ R) M R
 mt:MpC wr w.heap.size T.length T
 p:(T ++ (M ++ R)).Perm L
 ty:∀ c∈T,c.n=win
 mn:∀ c∈M,c.n≠win
 g:w.grownBy wr (some b)
def TkI (w:World) (b n:Nat) (win:Int) (L:List Ce) (wr:World):Prop:=∃ D left cnt T M R,TkS w b win L wr D left cnt n T M R
structure TkN (w:World) (b:Nat) (win:Int) (L:List Ce) (W:World) (D:DataW Value) (left':Lit->Bool) (cnt2 n:Nat) (T M R':List Ce) (c:Ce):Prop where
 rg:W.ranges prog 226 rA b (w.heap.size+1) n D left' cnt2
 ho:HoldsC D ((M ++ [c]) ++ R')
 rc:RgC D left' ((M ++ [c]) ++ R') (M ++ [c]) R'
 mt:MpC W w.heap.size T.length T
 p:(T ++ ((M ++ [c]) ++ R')).Perm L
 ty:∀ c∈T,c.n=win
 mn:∀ c∈M,c.n≠win
 g:w.grownBy W (some b)
end
variable {w w1 wr:World}
variable {ao:Option Addr}
variable {N ca k:Nat}
variable {A L:List Ce}
section
theorem QnX (hN:L.length=N) (lN:N<=1048576) (sm:∀ c∈L,AgSm c.g) (pl:∀ c∈L,PlG c.g c.p) (hA:Qcl w ao L) :
  Calls prog 112 #[.slice ao N ca] w fun e w'=>∃ v M,e=.returned v/\OwnC w' w.heap.size v M/\CesO w' w.heap.size M/\M.map Ce.key=L.map Ce.key/\Below w.heap.size w w':=
 (Qb9 hN lN sm pl hA).mono (fun e w' ⟨v,M,h1,h2,h3,h4,h5,_⟩=>⟨v,M,h1,h2,h3,h4,h5⟩)
end
variable {v' va vo vr:Value}
variable {c:Ce}
variable {f:Ce->Bool}
variable {win:Int}
section
theorem Qiv {B:Nat} {u:Value} {F:List Ce} (hu:OwnC wr B u F) (hB:B<=wr.heap.size) (hg:(wr.alloc (.cells (Qas c) 92)).grownBy w1 u.ownBlock) (hloc:v'.ownBlock=u.ownBlock∨v'.ownBlock=some (wr.alloc (.cells (Qas c) 92)).heap.size) :
  (∀ x L,OwnC wr B x L->ApV x u->OwnC w1 B x L/\ApV x v')/\(∀ L,CesO wr B L->CesO w1 B L)/\∀ w0,Below B w0 wr->Below B w0 w1:=by
 have a1:Below wr.heap.size wr (wr.alloc (.cells (Qas c) 92)):=(ZZb _ _).alloc (ZZa _) _;have hs:(wr.alloc (.cells (Qas c) 92)).heap.size=wr.heap.size+1:=by simp
 refine ⟨fun x L hx ha=>⟨(hx.past a1).kept hg ha,fun k hk e=>?_⟩,fun L hL=>(hL.past a1).row (hu.past a1) hg,fun w0 h0=>?_⟩
 ·rcases hloc with q | q
  ·rw [q] at e;exact ha k hk e
  ·rw [q] at e
   have:=(World.ownsRow.lt hx k hk).2;injection e with e;omega
 ·have h1:Below B w0 (wr.alloc (.cells (Qas c) 92)):=h0.trans (a1.mono hB)
  refine h1.grown hg ?_ (fun j hj=>(World.ownsRow.lt hu j hj).1);rw [hs];omega
structure TaI (w wr:World) (A:List Ce) (win:Int) (k:Nat) (va vo vr:Value):Prop where
 r:OwnC wr w.heap.size va A
 f:OwnC wr w.heap.size vo ((A.take k).filter (isW win))
 s:OwnC wr w.heap.size vr ((A.take k).filter (fun c=>!isW win c))
 o:CesO wr w.heap.size A
 a1:ApV va vo
 a2:ApV va vr
 a3:ApV vo vr
 b:Below w.heap.size w wr
theorem QlX (hc:A[k]?=some c) (hf:f c=true):(A.take (k+1)).filter f=(A.take k).filter f ++ [c]:=by
 rw [List.take_add_one,hc,List.filter_append];simp [hf]
theorem Qnt (hc:A[k]?=some c) (hf:f c=false):(A.take (k+1)).filter f=(A.take k).filter f:=by
 rw [List.take_add_one,hc,List.filter_append];simp [hf]
theorem TaI.of (h:TaI w wr A win k va vo vr) (hc:A[k]?=some c) (hw:c.n=win) (hown:w1.ownsRow w.heap.size 92 15 v' (((A.take k).filter (isW win)).length+1) (flC ((A.take k).filter (isW win)) ++ ceL c)) (hg:(wr.alloc (.cells (Qas c) 92)).grownBy w1 vo.ownBlock) (hloc:v'.ownBlock=vo.ownBlock∨v'.ownBlock=some (wr.alloc (.cells (Qas c) 92)).heap.size):TaI w w1 A win (k+1) va v' vr:=by
 obtain ⟨f1,f2,f3⟩:=Qiv h.f h.b.size hg hloc;obtain ⟨q1,q2⟩:=f1 va A h.r h.a1;obtain ⟨q3,q4⟩:=f1 vr _ h.s h.a3.symm;refine ⟨q1,?_,?_,f2 A h.o,q2,h.a2,q4.symm,f3 w h.b⟩
 ·rw [QlX hc (by simp [isW,hw])];exact OwnC.mk hown
 ·rw [Qnt hc (by simp [isW,hw])];exact q3
theorem TaI.rest (h:TaI w wr A win k va vo vr) (hc:A[k]?=some c) (hw:c.n≠win) (hown:w1.ownsRow w.heap.size 92 15 v' (((A.take k).filter (fun c=>!isW win c)).length+1) (flC ((A.take k).filter (fun c=>!isW win c)) ++ ceL c)) (hg:(wr.alloc (.cells (Qas c) 92)).grownBy w1 vr.ownBlock) (hloc:v'.ownBlock=vr.ownBlock∨v'.ownBlock=some (wr.alloc (.cells (Qas c) 92)).heap.size):TaI w w1 A win (k+1) va vo v':=by
 obtain ⟨f1,f2,f3⟩:=Qiv h.s h.b.size hg hloc;obtain ⟨q1,q2⟩:=f1 va A h.r h.a2;obtain ⟨q3,q4⟩:=f1 vo _ h.f h.a3;refine ⟨q1,?_,?_,f2 A h.o,h.a1,q2,q4,f3 w h.b⟩
 ·rw [Qnt hc (by simp [isW,hw])];exact q3
 ·rw [QlX hc (by simp [isW,hw])];exact OwnC.mk hown
theorem QgS (h:A.length<=1048576):((A.take k).filter f).length<=1048576:=by
 have h1:=List.length_filter_le f (A.take k);have h2:=List.length_take_le k A;have h3:(A.take k).length<=A.length:=by simp;omega
 omega
theorem QrK (w:World) (cs ds:Array Value) (h1:cs.size=0) (h2:ds.size=0) :
  Below w.heap.size w ((w.alloc (.cells cs 92)).alloc (.cells ds 92))/\OwnC ((w.alloc (.cells cs 92)).alloc (.cells ds 92)) w.heap.size (.slice (some ⟨w.heap.size,0,none⟩) 0 0) []/\OwnC ((w.alloc (.cells cs 92)).alloc (.cells ds 92)) w.heap.size (.slice (some ⟨w.heap.size+1,0,none⟩) 0 0) []/\((w.alloc (.cells cs 92)).alloc (.cells ds 92)).heap.size=w.heap.size+1+1:=by
 have a1:Below w.heap.size w (w.alloc (.cells cs 92)):=(ZZb _ _).alloc (ZZa _) _;have a2:Below (w.alloc (.cells cs 92)).heap.size (w.alloc (.cells cs 92)) ((w.alloc (.cells cs 92)).alloc (.cells ds 92)):=(ZZb _ _).alloc (ZZa _) _;have hs:(w.alloc (.cells cs 92)).heap.size=w.heap.size+1:=by simp
 have k2:=OwnC.made (w.alloc (.cells cs 92)) ds h2;rw [hs] at k2;exact ⟨Qac a1 a2,(OwnC.made w cs h1).past a2,k2.le (Nat.le_succ _),by simp⟩
theorem Qnq (win:Int) (hN:L.length=N) (lN:N<=1048576) (sm:∀ c∈L,AgSm c.g) (pl:∀ c∈L,PlG c.g c.p) (hA:Qcl w ao L) :
  Calls prog 74 #[.slice ao N ca,.int .i64 win] w fun e w'=>∃ vo vr A,e=.returned (.tuple #[vo,vr])/\OwnC w' w.heap.size vo (A.filter (isW win))/\OwnC w' w.heap.size vr (A.filter (fun c=>!isW win c))/\ApV vo vr/\CesO w' w.heap.size A/\A.map Ce.key=L.map Ce.key/\Below w.heap.size w w':=by
 obtain ⟨i0,hi,aq,au,az⟩:=Qjr;have HA:=Qaa hA;have HN:=Qaa hN;have SM:=Qaa sm;have PL:=Qaa pl;have TR:=Qaa (QrK w);clear hA hN sm pl;go_enter func74,ntmps74;go_wp2_with fail;obtain ⟨aA,ar,ap,aD⟩:=TR.out #[] #[] rfl rfl;have af:=Qaa aA;have aj:=Qaa ar;have ak:=Qaa ap;clear TR aA ar ap aD;generalize (w.alloc (.cells #[] 92)).alloc (.cells #[] 92)=W0 at af aj ak ⊢;refine (QnX HN lN SM PL (Qa6 HA af)).mono ?_;rintro e w1 ⟨va,A,rfl,hr,ho,hk,ai⟩;obtain ⟨aa,cp,rfl,_⟩:=hr.form
 have al:A.length=N:=by
  have:=congrArg List.length hk;simp at this;rw [this];exact HN.out
 have HK:=Qaa hk;have ag:=Qaa al;rw [al] at hr ⊢
 have I0:Hid (TaI w w1 A win 0 (.slice aa N cp) (.slice (some ⟨w.heap.size,0,none⟩) 0 0) (.slice (some ⟨w.heap.size+1,0,none⟩) 0 0)):=by
  have aB:∀ k,(Value.slice aa N cp).ownBlock=some k->W0.heap.size<=k:=fun k q=>(World.ownsRow.lt hr k q).1;refine ⟨hr.le af.out.size,aj.out.past ai,ak.out.past ai,ho.le af.out.size,fun k q e=>?_,fun k q e=>?_,fun k q e=>?_,Qac af ai⟩
  ·have f1:=aB k q
   have f2:=(World.ownsRow.lt aj k e).2;omega
  ·have f1:=aB k q
   have f2:=(World.ownsRow.lt ak k e).2;omega
  ·injection q with q
   injection e with e;simp only at q e;omega
 clear hr ho hk ai al aj ak af;go_wp2
 go_loopw [6,7,9] (fun vo vr i wr=>∃ (k:Nat),k<=N/\i=.int .i64 k/\Hid (TaI w wr A win k (.slice aa N cp) vo vr)) (fun vo vr i wr=>N - (Go.RowKit.intOf i).toNat)
 case atStart=>exact ⟨0,ZZj _,rfl,I0⟩
 case round=>
  clear I0;obtain ⟨k,hk,rfl,HI⟩:=hrel;by_cases aJ:k<N
  ·obtain ⟨c,hc⟩:∃ c,A[k]?=some c:=⟨A[k]'(by have:=ag.out;omega),ZZe _⟩
   have am:=HI.out.r;rw [<- ag.out] at am;obtain ⟨b,av,e,ae⟩:=(OwnC.at am HI.out.o.at).1 (by have:=ag.out;omega);subst e;obtain ⟨x0,x1,x2,x3,x4,x5,x6,x7,x8,x9,aM,aI,aL,aK,aG⟩:=ae k c hc;have HC:=Qaa hc;have aE:(k:Int)<(N:Int):=by omega
   have aH:w.heap.size<=wr.heap.size:=HI.out.b.size;have aC:((A.take k).filter (isW win)).length<=1048576:=QgS (by have:=ag.out;omega);have ay:((A.take k).filter (fun c=>!isW win c)).length<=1048576:=QgS (by have:=ag.out;omega);have ax:=Qaa aC;have aw:=Qaa ay;clear ae hc am aC ay;by_cases hw:c.n=win
   ·have bw:(c.n == win)=true:=by simp [hw]
    have ah:Hid (∀ v' w3,w3.ownsRow w.heap.size 92 15 v' (((A.take k).filter (isW win)).length+1) (flC ((A.take k).filter (isW win)) ++ ceL c)->(wr.alloc (.cells (Qas c) 92)).grownBy w3 u6.ownBlock->(v'.ownBlock=u6.ownBlock∨v'.ownBlock=some (wr.alloc (.cells (Qas c) 92)).heap.size)->TaI w w3 A win (k+1) (.slice (some ⟨b,av,none⟩) N cp) v' u7):=fun v' w3 q1 q2 q3=>HI.out.of HC hw q1 q2 q3;clear hw;go_wp2_with (at_builtin;refine wpList_append_own_at _ rfl _ _ 58 rfl w.heap.size 92 i0 (.agg QbI) 15 192 underlying58 hi aq au az rfl (by decide) _ _ _ rfl (World.ownsRow.alloc HI.out.f _) ⟨wr.heap.size,0,none⟩ 1 1 (ceL c) rfl rfl ?c1 ?c2 ?c3 ?c4 ?c5 ?_)
    case c1=>exact Qb7
    case c2=>exact QdX _
    case c3=>have:=ax.out;unfold maxLen;omega
    case c4=>have:=ax.out;omega
    case c5=>simp;omega
    intro v' w3 ab ac _ ad;have an:=Qaa (ah.out v' w3 ab ac (by simpa using ad));clear ab ac ad ah;go_wp2;go_roundw
    case rel=>exact ⟨k+1,by omega,by go_num,an⟩
    case measure=>simp [zI];omega
   ·have bw:(c.n == win)=false:=by simp [hw]
    have ah:Hid (∀ v' w3,w3.ownsRow w.heap.size 92 15 v' (((A.take k).filter (fun c=>!isW win c)).length+1) (flC ((A.take k).filter (fun c=>!isW win c)) ++ ceL c)->(wr.alloc (.cells (Qas c) 92)).grownBy w3 u7.ownBlock->(v'.ownBlock=u7.ownBlock∨v'.ownBlock=some (wr.alloc (.cells (Qas c) 92)).heap.size)->TaI w w3 A win (k+1) (.slice (some ⟨b,av,none⟩) N cp) u6 v'):=fun v' w3 q1 q2 q3=>HI.out.rest HC hw q1 q2 q3;clear hw;go_wp2_with (at_builtin;refine wpList_append_own_at _ rfl _ _ 58 rfl w.heap.size 92 i0 (.agg QbI) 15 192 underlying58 hi aq au az rfl (by decide) _ _ _ rfl (World.ownsRow.alloc HI.out.s _) ⟨wr.heap.size,0,none⟩ 1 1 (ceL c) rfl rfl ?c1 ?c2 ?c3 ?c4 ?c5 ?_)
    case c1=>exact Qb7
    case c2=>exact QdX _
    case c3=>have:=aw.out;unfold maxLen;omega
    case c4=>have:=aw.out;omega
    case c5=>simp;omega
    intro v' w3 ab ac _ ad;have an:=Qaa (ah.out v' w3 ab ac (by simpa using ad));clear ab ac ad ah;go_wp2;go_roundw
    case rel=>exact ⟨k+1,by omega,by go_num,an⟩
    case measure=>simp [zI];omega
  ·have eL:A.take k=A:=List.take_of_length_le (by have:=ag.out;omega)
   have q1:=HI.out.f;have q2:=HI.out.s;rw [eL] at q1 q2;have HQ:=Qaa (And.intro q1 q2);have HO:=Qaa (And.intro HI.out.o HI.out.b);have aF:=Qaa HI.out.a3;clear eL q1 q2;go_wp2;go_ret2;exact ⟨_,_,A,rfl,HQ.out.1,HQ.out.2,aF,HO.out.1,HK,HO.out.2⟩
end
section
theorem Qka {n:Int} (h:Qjm n=true):I64 n:=by
 unfold Qjm at h;simp only [Bool.and_eq_true,decide_eq_true_eq] at h;unfold I64;omega
theorem QnV (h:cRi c=true):Qjm c.n=true:=by
 unfold cRi at h;simp only [Bool.and_eq_true] at h;exact h.1.1.1
theorem Qmu (h:ShI w ao N L) (r:csR L=true):∀ c∈L,QmY c.n c.s:=fun c hc=>⟨Qka (QnV ((csR_iff.1 r).2.1 c hc)),h.ss c hc⟩
theorem QeT {win:Int}:∀ {L M:List Ce},M.map Ce.key=L.map Ce.key->(M.filter (isW win)).map Ce.key=(L.filter (isW win)).map Ce.key/\(M.filter (fun c=>!isW win c)).map Ce.key=(L.filter (fun c=>!isW win c)).map Ce.key
 | [],[],_=>⟨rfl,rfl⟩
 | c :: L,d :: M,h=>by
  simp only [List.map_cons,List.cons.injEq] at h;obtain ⟨q1,q2⟩:=QeT (win:=win) h.2
  have e:isW win d=isW win c:=by
   obtain ⟨q,rfl⟩:=Ql3 h.1
   rfl
  simp only [List.filter_cons,e]
  cases isW win c <;> simp [q1,q2,h.1]
 | [],_ :: _,h=>by simp at h
 | _ :: _,[],h=>by simp at h
structure ShO (w:World) (B:Nat) (v:Value) (nm:ByteArray) (R O:List Ce) (code:Int):Prop where
 ex:∃ vr vo,v=.agg #[.string nm,vr,vo,.int .i64 code]/\OwnC w B vr R/\OwnC w B vo O/\ApV vr vo
 o:CesO w B (R ++ O)
def TkA (nm:ByteArray) (L:List Ce) (win:Int) (nm':ByteArray) (R O:List Ce) (code:Int):Prop:=
 if shB nm L=true/\Qjm win=true then nm'=nm/\R.map Ce.key=(L.filter (fun c=>!isW win c)).map Ce.key/\O.map Ce.key=(L.filter (isW win)).map Ce.key/\code=0 else nm'=⟨#[]⟩/\R=[]/\O=[]/\code=1
theorem Quk {nm:ByteArray} (h:shB nm L=true):csR L=true:=by
 unfold shB at h;simp only [Bool.and_eq_true] at h;exact h.2
def TkP (w:World) (nm:ByteArray) (L:List Ce) (win:Int) (e:Ending) (w':World):Prop:=∃ v nm' R O code,e=.returned v/\TkA nm L win nm' R O code/\ShO w' w.heap.size v nm' R O code/\Below w.heap.size w w'
end
end Go.Proofs.YtdbaabbmcfnjbaaGreatDoor
