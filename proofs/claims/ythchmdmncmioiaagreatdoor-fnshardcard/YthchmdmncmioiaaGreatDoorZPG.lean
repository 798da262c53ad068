/-
 l08Place of the model.
-/
import Derived.Test.YthchmdmncmioiaaGreatDoorZPF
namespace Go.Proofs.YthchmdmncmioiaaGreatDoor
set_option linter.unusedVariables false
set_option linter.unusedSimpArgs false
open Go.ChangeShapes Go.WideShapes Go.ChangeAt Go.RowKit Go.PlainAid Go.Lib
set_option maxRecDepth 10000
structure PlcA (L:List Ce) (n:Int) (s:ByteArray) (k:Nat) (is:Bool):Prop where
 le:k<=L.length
 lo:∀ i c,i<k->L[i]?=some c->loF n s c=true
 hi:∀ c,L[k]?=some c->loF n s c=false
 yes:is=true->∃ c,L[k]?=some c/\c.n=n/\c.s=s
 no:is=false->∀ c,L[k]?=some c->¬ (c.n=n/\c.s=s)
theorem QoL {L:List Ce} {n:Int} {s:ByteArray} {k:Nat} {c:Ce} (h:∀ i c,i<k->L[i]?=some c->loF n s c=true) (hc:L[k]?=some c) (hl:loF n s c=true):∀ i c,i<k+1->L[i]?=some c->loF n s c=true:=by
 intro i d hi hd;by_cases e:i=k
 ·subst e;rw [hc] at hd;injection hd with hd;subst hd;exact hl
 ·exact h i d (by omega) hd
theorem Qmd {L:List Ce} {n:Int} {s:ByteArray} {k:Nat} {c:Ce} (h:∀ i c,i<k->L[i]?=some c->loF n s c=true) (hc:L[k]?=some c) (hl:loF n s c=false) (is:Bool) (hs:is=true↔(c.n=n/\c.s=s)):PlcA L n s k is where
 le:=by have:=(ZZd.1 hc).1;omega
 lo:=h
 hi:=fun d hd=>by rw [hc] at hd;injection hd with hd;subst hd;exact hl
 yes:=fun e=>⟨c,hc,hs.1 e⟩
 no:=fun e d hd q=>by
  rw [hc] at hd;injection hd with hd;subst hd;rw [hs.2 q] at e;cases e
theorem Qqy {L:List Ce} {n:Int} {s:ByteArray} {k:Nat} (h:∀ i c,i<k->L[i]?=some c->loF n s c=true) (hk:k=L.length):PlcA L n s k false where
 le:=by omega
 lo:=h
 hi:=fun d hd=>by have:=(ZZd.1 hd).1;omega
 yes:=fun e=>by cases e
 no:=fun e d hd=>by have:=(ZZd.1 hd).1;omega
set_option maxHeartbeats 8000000 in
theorem QlC {w:World} {ao:Option Addr} {N ca:Nat} {L:List Ce} (n:Int) (s:ByteArray) (hN:L.length=N) (lN:N<=1048576) (hA:Qci w ao L) :
  Calls Tryz.prog 93 #[.slice ao N ca,.int .i64 n,.string s] w fun e w'=>∃ (k:Nat) (is:Bool),e=.returned (.tuple #[.int .i64 k,.bool is])/\PlcA L n s k is/\Below w.heap.size w w':=by
 have HA:=Qaa hA;have HN:=Qaa hN;clear hA hN;go_enter Tryz.func93,Tryz.ntmps93;go_wp2
 go_loopw [8] (fun i wr=>∃ k:Nat,k<=N/\i=.int .i64 k/\Hid (∀ i c,i<k->L[i]?=some c->loF n s c=true)/\Hid (Below w.heap.size w wr)) (fun i wr=>N - (Go.RowKit.intOf i).toNat)
 case atStart=>exact ⟨0,ZZj _,rfl,Qaa (fun i c h=>absurd h (Nat.not_lt_zero _)),ZZb _ _⟩
 case round=>
  obtain ⟨k,hk,rfl,HP,HBl⟩:=hrel;by_cases hkn:k<N
  ·have hkni:(k:Int)<(N:Int):=by omega
   obtain ⟨b,off,e,hcell⟩:=HA.out.1 (by have:=HN.out;omega);subst e;obtain ⟨c,hc⟩:∃ c,L[k]?=some c:=⟨L[k]'(by have:=HN.out;omega),ZZe _⟩;have HC:=Qaa hc;obtain ⟨x0,x1,x2,x3,x4,x5,x6,x7,x8,x9,x10,x11,x12,x13,x14⟩:=Qai (hcell k c hc) HBl.out;have HCe:=Qaa (Qai (hcell k c hc) HBl.out);clear hcell hc
   cases hl:loF n s c with
   | true=>
    have hl':(decide (c.n<n) || ((c.n == n) && QaZ c.s s))=true:=hl;have HL:=Qaa hl;have HL':=Qaa hl';clear hl hl';go_wp2_with (go_at_call 60;refine (Qb6 c _ _ _).mono ?_;rintro e w1 ⟨rfl,hb1⟩;rw [HL'.out]);go_roundw
    case rel=>exact ⟨k+1,by omega,by go_num,Qaa (QoL HP.out HC.out HL.out),Qaa (Qad HBl.out hb1)⟩
    case measure=>simp [Go.RowKit.intOf];omega
   | false=>
    have hl':(decide (c.n<n) || ((c.n == n) && QaZ c.s s))=false:=hl;have HL:=Qaa hl;have HL':=Qaa hl';clear hl hl';by_cases hn:c.n=n
    ·have bn:(c.n == n)=true:=by simp [hn]
     by_cases hs:c.s=s
     ·have bs:(c.s.toList == s.toList)=true:=by rw [hs];simp
      have HR:=Qaa (Qmd HP.out HC.out HL.out true ⟨fun _=>⟨hn,hs⟩,fun _=>rfl⟩);clear hn hs;go_upto_region 4 with (go_at_call 60;refine (Qb6 c _ _ _).mono ?_;rintro e w1 ⟨rfl,hb1⟩;rw [HL'.out]);obtain ⟨y0,y1,_⟩:=Qai HCe.out hb1;have HB1:=Qaa (Qad HBl.out hb1);clear x0 x1 x2 x3 x4 x5 x6 x7 x8 x9 x10 x11 x12 x13 x14 hb1
      go_region_held3 (fun W=>W.cell? ⟨b,off+k*15,none⟩=some (.int .i64 c.n)/\W.cell? ⟨b,off+k*15+1,none⟩=some (.string c.s)/\Hid (Below w.heap.size w W))
       (exact ⟨by simpa using y0,by simpa using y1,Qaa HB1.out.drew⟩)
       (fail)
      go_wp2;go_ret2;exact ⟨k,true,rfl,HR.out,(by first | exact HB1.out.drew | exact HBl.out.drew)⟩
     ·have bs:(c.s.toList == s.toList)=false:=beq_eq_false_iff_ne.2 (fun e=>hs (by rw [ByteArray.toList_eq,ByteArray.toList_eq] at e;exact ByteArray.ext (Array.toList_inj.1 e)))
      have HR:=Qaa (Qmd HP.out HC.out HL.out false ⟨(fun e=>by cases e),fun e=>absurd e.2 hs⟩);clear hn hs;go_upto_region 4 with (go_at_call 60;refine (Qb6 c _ _ _).mono ?_;rintro e w1 ⟨rfl,hb1⟩;rw [HL'.out]);obtain ⟨y0,y1,_⟩:=Qai HCe.out hb1;have HB1:=Qaa (Qad HBl.out hb1);clear x0 x1 x2 x3 x4 x5 x6 x7 x8 x9 x10 x11 x12 x13 x14 hb1
      go_region_held3 (fun W=>W.cell? ⟨b,off+k*15,none⟩=some (.int .i64 c.n)/\W.cell? ⟨b,off+k*15+1,none⟩=some (.string c.s)/\Hid (Below w.heap.size w W))
       (exact ⟨by simpa using y0,by simpa using y1,Qaa HB1.out.drew⟩)
       (fail)
      go_wp2;go_ret2;exact ⟨k,false,rfl,HR.out,(by first | exact HB1.out.drew | exact HBl.out.drew)⟩
    ·have bn:(c.n == n)=false:=by simp [hn]
     have HR:=Qaa (Qmd HP.out HC.out HL.out false ⟨(fun e=>by cases e),fun e=>absurd e.1 hn⟩);clear hn;go_upto_region 4 with (go_at_call 60;refine (Qb6 c _ _ _).mono ?_;rintro e w1 ⟨rfl,hb1⟩;rw [HL'.out]);obtain ⟨y0,y1,_⟩:=Qai HCe.out hb1;have HB1:=Qaa (Qad HBl.out hb1);clear x0 x1 x2 x3 x4 x5 x6 x7 x8 x9 x10 x11 x12 x13 x14 hb1;have HS0:(fun W=>W.cell? ⟨b,off+k*15,none⟩=some (.int .i64 c.n)/\True) w1.drew:=⟨by simpa using y0,trivial⟩;refine Qaj (fun W=>W.cell? ⟨b,off+k*15,none⟩=some (.int .i64 c.n)/\True) 99 (by kernel_rfl) ?_;refine tkS (i:=0) (v:=.int .i64 k) rfl rfl HS0 ?_;refine tkS (i:=1) (v:=.int .i64 k) rfl rfl HS0 ?_;refine tkS (i:=2) (v:=.slice (some ⟨b,off,none⟩) N ca) rfl rfl HS0 ?_;simp only [sA,sB,sC];refine tkS (i:=3) (v:=.int .i64 N) rfl rfl HS0 ?_;refine tkS (i:=4) (v:=.bool true) rfl rfl HS0 ?_;refine tkS (i:=5) (v:=.bool true) rfl rfl HS0 ?_;simp only [sA,sB,sC];refine tkS (i:=6) (v:=.slice (some ⟨b,off,none⟩) N ca) rfl rfl HS0 ?_;refine tkS (i:=7) (v:=.int .i64 k) rfl rfl HS0 ?_;refine tkS (i:=8) (v:=.pointer (some ⟨b,off+k*15,none⟩)) rfl rfl HS0 ?_;simp only [sA,sB,sC];refine tkS (i:=9) (v:=.pointer (some ⟨b,off+k*15,none⟩)) rfl rfl HS0 ?_;refine tkL (i:=10) (v:=.int .i64 c.n) rfl rfl HS0 (fun W hW=>?_) ?_
     ·obtain ⟨z0,z1⟩:=hW
      go_simp
     refine tkS (i:=11) (v:=.int .i64 n) rfl rfl HS0 ?_;simp only [sA,sB,sC];refine tkS (i:=12) (v:=.bool false) rfl rfl HS0 ?_;refine tkS (i:=13) (v:=.bool false) rfl rfl HS0 ?_;refine tkS (i:=14) (v:=.bool false) rfl rfl HS0 ?_;simp only [sA,sB,sC];refine tkS (i:=23) (v:=.int .i64 k) rfl rfl HS0 ?_;refine tkU (i:=15) rfl rfl HS0 ?_;refine tkU (i:=16) rfl rfl HS0 ?_;simp only [sA,sB,sC];refine tkU (i:=17) rfl rfl HS0 ?_;refine tkU (i:=18) rfl rfl HS0 ?_;refine tkU (i:=19) rfl rfl HS0 ?_;simp only [sA,sB,sC];refine tkU (i:=20) rfl rfl HS0 ?_;refine tkU (i:=21) rfl rfl HS0 ?_;refine tkS (i:=22) (v:=.bool false) rfl rfl HS0 ?_;simp only [sA,sB,sC];refine tkS (i:=24) (v:=.bool false) rfl rfl HS0 ?_;simp only [sA,sB,sC];refine Qar (by kernel_rfl) ?_ _;go_wp2;go_ret2;exact ⟨k,.inl ⟨rfl,HR.out,HB1.out.drew⟩⟩
  ·have HR:=Qaa (Qqy HP.out (by have:=HN.out;omega))
   have hkf:decide ((k:Int)<(N:Int))=false:=ZZg (by omega);go_upto_region 4 with fail;have HS0:(fun _=>True) wr.drew:=trivial;refine Qaj (fun _=>True) 99 (by kernel_rfl) ?_;refine tkS (i:=0) (v:=.int .i64 k) rfl rfl HS0 ?_;refine tkS (i:=1) (v:=.int .i64 k) rfl rfl HS0 ?_;refine tkS (i:=2) (v:=.slice ao N ca) rfl rfl HS0 ?_;simp only [sA,sB,sC];refine tkS (i:=3) (v:=.int .i64 N) rfl rfl HS0 ?_;refine tkS (i:=4) (v:=.bool false) rfl rfl HS0 ?_;refine tkS (i:=5) (v:=.bool false) rfl rfl HS0 ?_;simp only [sA,sB,sC];refine tkU (i:=6) rfl rfl HS0 ?_;refine tkU (i:=7) rfl rfl HS0 ?_;refine tkU (i:=8) rfl rfl HS0 ?_;simp only [sA,sB,sC];refine tkU (i:=9) rfl rfl HS0 ?_;refine tkU (i:=10) rfl rfl HS0 ?_;refine tkU (i:=11) rfl rfl HS0 ?_;simp only [sA,sB,sC];refine tkU (i:=12) rfl rfl HS0 ?_;refine tkS (i:=13) (v:=.bool false) rfl rfl HS0 ?_;refine tkS (i:=14) (v:=.bool false) rfl rfl HS0 ?_;simp only [sA,sB,sC];refine tkS (i:=23) (v:=.int .i64 k) rfl rfl HS0 ?_;refine tkU (i:=15) rfl rfl HS0 ?_;refine tkU (i:=16) rfl rfl HS0 ?_;simp only [sA,sB,sC];refine tkU (i:=17) rfl rfl HS0 ?_;refine tkU (i:=18) rfl rfl HS0 ?_;refine tkU (i:=19) rfl rfl HS0 ?_;simp only [sA,sB,sC];refine tkU (i:=20) rfl rfl HS0 ?_;refine tkU (i:=21) rfl rfl HS0 ?_;refine tkS (i:=22) (v:=.bool false) rfl rfl HS0 ?_;simp only [sA,sB,sC];refine tkS (i:=24) (v:=.bool false) rfl rfl HS0 ?_;simp only [sA,sB,sC];refine Qar (by kernel_rfl) ?_ _;go_wp2;go_ret2;exact ⟨k,.inl ⟨rfl,HR.out,HBl.out.drew⟩⟩
end Go.Proofs.YthchmdmncmioiaaGreatDoor
namespace Go.Proofs.YthchmdmncmioiaaGreatDoor
set_option linter.unusedVariables false
set_option linter.unusedSimpArgs false
theorem QhY {L:List Ce} {n:Int} {s:ByteArray} {k:Nat} {is:Bool} (hL:AscC L) (h:PlcA L n s k is) {x:Ce} (hx:x∈L.drop k):loF n s x=false/\(is=false->¬ (x.n=n/\x.s=s)):=by
 obtain ⟨d,B,e⟩:∃ d B,L.drop k=d :: B:=by
  cases q:L.drop k with
  | nil=>rw [q] at hx;simp at hx
  | cons d B=>exact ⟨d,B,rfl⟩
 have hd:L[k]?=some d:=by
  have:=congrArg List.head? e
  simpa [List.head?_drop] using this
 have asc:AscC (d :: B):=e ▸ hL.sublist (List.drop_sublist k L);rw [e] at hx;rcases List.mem_cons.1 hx with rfl | hx
 ·exact ⟨h.hi _ hd,fun q=>h.no q _ hd⟩
 ·have lt:=(List.pairwise_cons.1 asc).1 x hx
  constructor
  ·cases q:loF n s x
   ·rfl
   ·have:=Qdw lt q
    exact absurd (h.hi d hd) (by rw [show loF n s d=true from this];simp)
  ·intro _ q
   have:loF n s d=true:=by
    have k1:QaT (kC n s) x:=⟨q.1.symm,q.2.symm⟩;unfold loF;rw [QcK k1];exact lt
   exact absurd (h.hi d hd) (by rw [this];simp)
theorem QfK {L:List Ce} {n:Int} {s:ByteArray} {k:Nat} {is:Bool} (hL:AscC L) (h:PlcA L n s k is):L.take k=L.filter (loF n s):=by
 have e1:(L.take k).filter (loF n s)=L.take k:=List.filter_eq_self.2 (fun x hx=>by
  obtain ⟨i,hi,rfl⟩:=List.mem_iff_getElem.1 hx;rw [List.length_take] at hi;refine h.lo i _ (by omega) ?_;rw [List.getElem_take,List.getElem?_eq_getElem])
 have e2:(L.drop k).filter (loF n s)=[]:=List.filter_eq_nil_iff.2 (fun x hx=>by rw [(QhY hL h hx).1];simp);have e3:=congrArg (List.filter (loF n s)) (List.take_append_drop k L);rw [List.filter_append,e1,e2,List.append_nil] at e3;exact e3
theorem Qpw {L:List Ce} {n:Int} {s:ByteArray} {k:Nat} (hL:AscC L) (h:PlcA L n s k false):L.drop k=L.filter (hiF n s)/\¬ Qfc L n s:=by
 have key:∀ x∈L.drop k,hiF n s x=true:=fun x hx=>by
  obtain ⟨q1,q2⟩:=QhY hL h hx
  cases q:hiF n s x
  ·exact absurd (QhZ q1 q) (q2 rfl)
  ·rfl
 have tk:=QfK hL h;have lo:∀ x∈L.take k,loF n s x=true:=fun x hx=>by rw [tk] at hx;exact (List.mem_filter.1 hx).2
 have e1:(L.take k).filter (hiF n s)=[]:=List.filter_eq_nil_iff.2 (fun x hx=>by
  rw [show hiF n s x=false from Qd8 (lo x hx)];simp)
 have e2:(L.drop k).filter (hiF n s)=L.drop k:=List.filter_eq_self.2 key;constructor
 ·have e3:=congrArg (List.filter (hiF n s)) (List.take_append_drop k L)
  rw [List.filter_append,e1,e2,List.nil_append] at e3;exact e3
 ·rintro ⟨c,hc,q⟩
  rw [<- List.take_append_drop k L] at hc;rcases List.mem_append.1 hc with hc | hc
  ·have l1:=lo c hc
   have k1:QaT (kC n s) c:=⟨q.1.symm,q.2.symm⟩;unfold loF at l1;rw [QcK k1,Qd1] at l1;cases l1
  ·exact (QhY hL h hc).2 rfl q
theorem Ql8 {L:List Ce} {n:Int} {s:ByteArray} {k:Nat} (hL:AscC L) (h:PlcA L n s k true):∃ c,L[k]?=some c/\c∈L/\c.n=n/\c.s=s/\L.drop (k+1)=L.filter (hiF n s):=by
 obtain ⟨c,hc,rfl,rfl⟩:=h.yes rfl;have hm:=ZZn hc;have e:=QcL hL hm;rw [<- QfK hL h] at e;have e2:=List.take_append_drop k L;have e3:L.drop k=c :: L.filter (hiF c.n c.s):=List.append_cancel_left (e2.trans e);refine ⟨c,hc,hm,rfl,rfl,?_⟩;have e4:=congrArg (List.drop 1) e3;rw [List.drop_drop] at e4
 simpa [Nat.add_comm] using e4
set_option maxRecDepth 10000
open Go.ChangeAt Go.ChangeShapes Go.Lib Go.Maps Go.PlainAid Go.RowKit Go.WideShapes
theorem Qk1 {w:World} {ao:Option Addr} {L:List Ce} {k:Nat} (h:Qci w ao L):Qci w ao (L.take k):=by
 refine ⟨fun h0=>?_,fun c hc=>h.2 c (ZZo hc)⟩;obtain ⟨b,off,e,hc⟩:=h.1 (by rw [List.length_take] at h0;omega);refine ⟨b,off,e,fun i c hi=>hc i c ?_⟩;rw [List.getElem?_take] at hi
 split at hi
 ·exact hi
 ·cases hi
theorem QfL {w:World} {ao:Option Addr} {L:List Ce} {k ca:Nat} (h:Qci w ao L) (hc:L.length<=ca):Qci w (if ca=k then ao else ao.map (·.add (k*15))) (L.drop k):=by
 refine ⟨fun h0=>?_,fun c hc=>h.2 c (ZZp hc)⟩;rw [List.length_drop] at h0;obtain ⟨b,off,e,hx⟩:=h.1 (by omega);subst e;rw [if_neg (by omega)];refine ⟨b,off+k*15,by simp [Addr.add],fun i c hi=>?_⟩;rw [List.getElem?_drop] at hi;have:=hx (k+i) c hi;rw [show off+k*15+i*15=off+(k+i)*15 by omega];exact this
inductive PuA (L:List Ce) (win:Int) (x:Sx):List Ce->Int->Prop
 | kind (c:Ce) (hc:c∈L) (k1:c.n=win) (k2:c.s=x.se) (hk:¬ c.g.k=x.k):PuA L win x [] 9
 | there (c:Ce) (o:Ag) (R:List Ce) (hc:c∈L) (k1:c.n=win) (k2:c.s=x.se) (hk:c.g.k=x.k) (hp:AgPut c.g x o) (hR:PtL L win x.se o R):PuA L win x R 0
 | full (hn:¬ Qfc L win x.se) (hl:60<=L.length):PuA L win x [] 8
 | new (o:Ag) (R:List Ce) (hn:¬ Qfc L win x.se) (hl:L.length<60) (hp:AgPut (QaR x.k) x o) (hR:PtL L win x.se o R):PuA L win x R 0
theorem QmF {L A B:List Ce} {n:Int} {s:ByteArray} {k:Nat} {o:Ag} {q:Pl} (hL:AscC L) (h:PlcA L n s k true) (hA:A.map Ce.key=(L.take k).map Ce.key) (hB:B.map Ce.key=(L.drop (k+1)).map Ce.key):PtL L n s o ((A ++ [⟨n,s,o,q⟩]) ++ B):=by
 obtain ⟨c,_,_,_,_,e⟩:=Ql8 hL h;unfold PtL;rw [List.map_append,List.map_append,hA,hB,QfK hL h,e,List.append_assoc]
 rfl
theorem Qpn {L A B:List Ce} {n:Int} {s:ByteArray} {k:Nat} {o:Ag} {q:Pl} (hL:AscC L) (h:PlcA L n s k false) (hA:A.map Ce.key=(L.take k).map Ce.key) (hB:B.map Ce.key=(L.drop k).map Ce.key):PtL L n s o ((A ++ [⟨n,s,o,q⟩]) ++ B):=by
 obtain ⟨e,_⟩:=Qpw hL h;unfold PtL;rw [List.map_append,List.map_append,hA,hB,QfK hL h,e,List.append_assoc]
 rfl
end Go.Proofs.YthchmdmncmioiaaGreatDoor
