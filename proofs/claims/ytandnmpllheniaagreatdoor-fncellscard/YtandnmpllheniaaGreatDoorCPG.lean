/-
 Parts.
-/
import Derived.Test.YtandnmpllheniaaGreatDoorCPF
set_option linter.all false
set_option maxRecDepth 10000
namespace Go.Proofs.YtandnmpllheniaaGreatDoor
open Go.ChangeShapes Go.WideShapes Go.ChangeAt Go.RowKit Go.PlainAid Go.Lib
structure PlcA (L:List Ce) (n:Int) (s:ByteArray) (k:Nat) (is:Bool):Prop where
 le:k<=L.length
 lo:∀ i c,i<k->L[i]?=some c->loF n s c=true
 hi:∀ c,L[k]?=some c->loF n s c=false
 yes:is=true->∃ c,L[k]?=some c/\c.n=n/\c.s=s
 no:is=false->∀ c,L[k]?=some c->¬ (c.n=n/\c.s=s)
theorem QpH {L:List Ce} {n:Int} {s:ByteArray} {k:Nat} {c:Ce} (h:∀ i c,i<k->L[i]?=some c->loF n s c=true) (hc:L[k]?=some c) (hl:loF n s c=true):∀ i c,i<k+1->L[i]?=some c->loF n s c=true:=by
 intro i d hi hd;by_cases e:i=k
 ·subst e;rw [hc] at hd;injection hd with hd;subst hd;exact hl
 ·exact h i d (by omega) hd
theorem QnJ {L:List Ce} {n:Int} {s:ByteArray} {k:Nat} {c:Ce} (h:∀ i c,i<k->L[i]?=some c->loF n s c=true) (hc:L[k]?=some c) (hl:loF n s c=false) (is:Bool) (hs:is=true↔(c.n=n/\c.s=s)):PlcA L n s k is where
 le:=by have:=(ZZd.1 hc).1;omega
 lo:=h
 hi:=fun d hd=>by rw [hc] at hd;injection hd with hd;subst hd;exact hl
 yes:=fun e=>⟨c,hc,hs.1 e⟩
 no:=fun e d hd q=>by
  rw [hc] at hd;injection hd with hd;subst hd;rw [hs.2 q] at e;cases e
theorem QqZ {L:List Ce} {n:Int} {s:ByteArray} {k:Nat} (h:∀ i c,i<k->L[i]?=some c->loF n s c=true) (hk:k=L.length):PlcA L n s k false where
 le:=by omega
 lo:=h
 hi:=fun d hd=>by have:=(ZZd.1 hd).1;omega
 yes:=fun e=>by cases e
 no:=fun e d hd=>by have:=(ZZd.1 hd).1;omega
set_option maxHeartbeats 8000000 in
theorem QhE {w:World} {ao:Option Addr} {N ca:Nat} {L:List Ce} (n:Int) (s:ByteArray) (hN:L.length=N) (lN:N<=1048576) (hA:Qb7 w ao L) :
  Calls Tryz.prog 93 #[.slice ao N ca,.int .i64 n,.string s] w fun e w'=>∃ (k:Nat) (is:Bool),e=.returned (.tuple #[.int .i64 k,.bool is])/\PlcA L n s k is/\Below w.heap.size w w':=by
 have HA:=Qaa hA;have HN:=Qaa hN;clear hA hN;go_enter Tryz.func93,Tryz.ntmps93;go_wp2
 go_loopw [8] (fun i wr=>∃ k:Nat,k<=N/\i=.int .i64 k/\Hid (∀ i c,i<k->L[i]?=some c->loF n s c=true)/\Hid (Below w.heap.size w wr)) (fun i wr=>N - (Go.RowKit.intOf i).toNat)
 case atStart=>exact ⟨0,ZZj _,rfl,Qaa (fun i c h=>absurd h (Nat.not_lt_zero _)),ZZb _ _⟩
 case round=>
  obtain ⟨k,hk,rfl,HP,ae⟩:=hrel;by_cases ar:k<N
  ·have ap:(k:Int)<(N:Int):=by omega
   obtain ⟨b,ad,e,ac⟩:=HA.out.1 (by have:=HN.out;omega);subst e;obtain ⟨c,hc⟩:∃ c,L[k]?=some c:=⟨L[k]'(by have:=HN.out;omega),ZZe _⟩;have HC:=Qaa hc;obtain ⟨x0,x1,x2,x3,x4,x5,x6,x7,x8,x9,am,ai,al,aj,an⟩:=Qai (ac k c hc) ae;have ak:=Qaa (Qai (ac k c hc) ae);clear ac hc
   cases hl:loF n s c with
   | true=>
    have ag:(decide (c.n<n) || ((c.n == n) && Qa4 c.s s))=true:=hl;have HL:=Qaa hl;have ah:=Qaa ag;clear hl ag;go_wp2_with (go_at_call 60;refine (Qcq c _ _ _).mono ?_;rintro e w1 ⟨rfl,ab⟩;rw [ah.out]);go_roundw
    case rel=>exact ⟨k+1,by omega,by go_num,Qaa (QpH HP HC HL),Qaa (Qac ae ab)⟩
    case measure=>simp [zI];omega
   | false=>
    have ag:(decide (c.n<n) || ((c.n == n) && Qa4 c.s s))=false:=hl;have HL:=Qaa hl;have ah:=Qaa ag;clear hl ag;by_cases hn:c.n=n
    ·have bn:(c.n == n)=true:=by simp [hn]
     by_cases hs:c.s=s
     ·have bs:(c.s.toList == s.toList)=true:=by rw [hs];simp
      have HR:=Qaa (QnJ HP HC HL true ⟨fun _=>⟨hn,hs⟩,fun _=>rfl⟩);clear hn hs;go_upto_region 4 with (go_at_call 60;refine (Qcq c _ _ _).mono ?_;rintro e w1 ⟨rfl,ab⟩;rw [ah.out]);obtain ⟨y0,y1,_⟩:=Qai ak ab;have af:=Qaa (Qac ae ab);clear x0 x1 x2 x3 x4 x5 x6 x7 x8 x9 am ai al aj an ab
      go_region_held3 (fun W=>W.cell? ⟨b,ad+k*15,none⟩=some (.int .i64 c.n)/\W.cell? ⟨b,ad+k*15+1,none⟩=some (.string c.s)/\Hid (Below w.heap.size w W))
       (exact ⟨by simpa using y0,by simpa using y1,Qaa af.out.drew⟩)
       (fail)
      go_wp2;go_ret2;exact ⟨k,true,rfl,HR,(by first | exact af.out.drew | exact ae.out.drew)⟩
     ·have bs:(c.s.toList == s.toList)=false:=beq_eq_false_iff_ne.2 (fun e=>hs (by rw [ByteArray.toList_eq,ByteArray.toList_eq] at e;exact ByteArray.ext (Array.toList_inj.1 e)))
      have HR:=Qaa (QnJ HP HC HL false ⟨(fun e=>by cases e),fun e=>absurd e.2 hs⟩);clear hn hs;go_upto_region 4 with (go_at_call 60;refine (Qcq c _ _ _).mono ?_;rintro e w1 ⟨rfl,ab⟩;rw [ah.out]);obtain ⟨y0,y1,_⟩:=Qai ak ab;have af:=Qaa (Qac ae ab);clear x0 x1 x2 x3 x4 x5 x6 x7 x8 x9 am ai al aj an ab
      go_region_held3 (fun W=>W.cell? ⟨b,ad+k*15,none⟩=some (.int .i64 c.n)/\W.cell? ⟨b,ad+k*15+1,none⟩=some (.string c.s)/\Hid (Below w.heap.size w W))
       (exact ⟨by simpa using y0,by simpa using y1,Qaa af.out.drew⟩)
       (fail)
      go_wp2;go_ret2;exact ⟨k,false,rfl,HR,(by first | exact af.out.drew | exact ae.out.drew)⟩
    ·have bn:(c.n == n)=false:=by simp [hn]
     have HR:=Qaa (QnJ HP HC HL false ⟨(fun e=>by cases e),fun e=>absurd e.1 hn⟩);clear hn;go_upto_region 4 with (go_at_call 60;refine (Qcq c _ _ _).mono ?_;rintro e w1 ⟨rfl,ab⟩;rw [ah.out]);obtain ⟨y0,y1,_⟩:=Qai ak ab;have af:=Qaa (Qac ae ab);clear x0 x1 x2 x3 x4 x5 x6 x7 x8 x9 am ai al aj an ab;have aa:(fun W=>W.cell? ⟨b,ad+k*15,none⟩=some (.int .i64 c.n)/\True) w1.drew:=⟨by simpa using y0,trivial⟩;refine Qaj (fun W=>W.cell? ⟨b,ad+k*15,none⟩=some (.int .i64 c.n)/\True) 99 (by kernel_rfl) ?_;refine tkS 0 (.int .i64 k) aa ?_;refine tkS 1 (.int .i64 k) aa ?_;refine tkS 2 (.slice (some ⟨b,ad,none⟩) N ca) aa ?_;simp only [sX];refine tkS 3 (.int .i64 N) aa ?_;refine tkS 4 (.bool true) aa ?_;refine tkS 5 (.bool true) aa ?_;simp only [sX];refine tkS 6 (.slice (some ⟨b,ad,none⟩) N ca) aa ?_;refine tkS 7 (.int .i64 k) aa ?_;refine tkS 8 (.pointer (some ⟨b,ad+k*15,none⟩)) aa ?_;simp only [sX];refine tkS 9 (.pointer (some ⟨b,ad+k*15,none⟩)) aa ?_;refine tkL 10 (.int .i64 c.n) aa (fun W hW=>?_) ?_
     ·obtain ⟨z0,z1⟩:=hW
      go_simp
     refine tkS 11 (.int .i64 n) aa ?_;simp only [sX];refine tkS 12 (.bool false) aa ?_;refine tkS 13 (.bool false) aa ?_;refine tkS 14 (.bool false) aa ?_;simp only [sX];refine tkS 23 (.int .i64 k) aa ?_;refine tkU 15 aa ?_;refine tkU 16 aa ?_;simp only [sX];refine tkU 17 aa ?_;refine tkU 18 aa ?_;refine tkU 19 aa ?_;simp only [sX];refine tkU 20 aa ?_;refine tkU 21 aa ?_;refine tkS 22 (.bool false) aa ?_;simp only [sX];refine tkS 24 (.bool false) aa ?_;simp only [sX];refine dnE ?_ _;go_wp2;go_ret2;exact ⟨k,.inl ⟨rfl,HR,af.out.drew⟩⟩
  ·have HR:=Qaa (QqZ HP (by have:=HN.out;omega))
   have aq:decide ((k:Int)<(N:Int))=false:=ZZg (by omega);go_upto_region 4 with fail;have aa:(fun _=>True) wr.drew:=trivial;refine Qaj (fun _=>True) 99 (by kernel_rfl) ?_;refine tkS 0 (.int .i64 k) aa ?_;refine tkS 1 (.int .i64 k) aa ?_;refine tkS 2 (.slice ao N ca) aa ?_;simp only [sX];refine tkS 3 (.int .i64 N) aa ?_;refine tkS 4 (.bool false) aa ?_;refine tkS 5 (.bool false) aa ?_;simp only [sX];refine tkU 6 aa ?_;refine tkU 7 aa ?_;refine tkU 8 aa ?_;simp only [sX];refine tkU 9 aa ?_;refine tkU 10 aa ?_;refine tkU 11 aa ?_;simp only [sX];refine tkU 12 aa ?_;refine tkS 13 (.bool false) aa ?_;refine tkS 14 (.bool false) aa ?_;simp only [sX];refine tkS 23 (.int .i64 k) aa ?_;refine tkU 15 aa ?_;refine tkU 16 aa ?_;simp only [sX];refine tkU 17 aa ?_;refine tkU 18 aa ?_;refine tkU 19 aa ?_;simp only [sX];refine tkU 20 aa ?_;refine tkU 21 aa ?_;refine tkS 22 (.bool false) aa ?_;simp only [sX];refine tkS 24 (.bool false) aa ?_;simp only [sX];refine dnE ?_ _;go_wp2;go_ret2;exact ⟨k,.inl ⟨rfl,HR,ae.out.drew⟩⟩
end Go.Proofs.YtandnmpllheniaaGreatDoor
namespace Go.Proofs.YtandnmpllheniaaGreatDoor
theorem QiJ {L:List Ce} {n:Int} {s:ByteArray} {k:Nat} {is:Bool} (hL:AscC L) (h:PlcA L n s k is) {x:Ce} (hx:x∈L.drop k):loF n s x=false/\(is=false->¬ (x.n=n/\x.s=s)):=by
 obtain ⟨d,B,e⟩:∃ d B,L.drop k=d :: B:=by
  cases q:L.drop k with
  | nil=>rw [q] at hx;simp at hx
  | cons d B=>exact ⟨d,B,rfl⟩
 have hd:L[k]?=some d:=by
  have:=congrArg List.head? e
  simpa [List.head?_drop] using this
 have aa:AscC (d :: B):=e ▸ hL.sublist (List.drop_sublist k L);rw [e] at hx;rcases List.mem_cons.1 hx with rfl | hx
 ·exact ⟨h.hi _ hd,fun q=>h.no q _ hd⟩
 ·have lt:=(List.pairwise_cons.1 aa).1 x hx
  constructor
  ·cases q:loF n s x
   ·rfl
   ·have:=Qdz lt q
    exact absurd (h.hi d hd) (by rw [show loF n s d=true from this];simp)
  ·intro _ q
   have:loF n s d=true:=by
    have k1:Qa9 (kC n s) x:=⟨q.1.symm,q.2.symm⟩;unfold loF;rw [Qc0 k1];exact lt
   exact absurd (h.hi d hd) (by rw [this];simp)
theorem Qgj {L:List Ce} {n:Int} {s:ByteArray} {k:Nat} {is:Bool} (hL:AscC L) (h:PlcA L n s k is):L.take k=L.filter (loF n s):=by
 have e1:(L.take k).filter (loF n s)=L.take k:=List.filter_eq_self.2 (fun x hx=>by
  obtain ⟨i,hi,rfl⟩:=List.mem_iff_getElem.1 hx;rw [List.length_take] at hi;refine h.lo i _ (by omega) ?_;rw [List.getElem_take,List.getElem?_eq_getElem])
 have e2:(L.drop k).filter (loF n s)=[]:=List.filter_eq_nil_iff.2 (fun x hx=>by rw [(QiJ hL h hx).1];simp);have e3:=congrArg (List.filter (loF n s)) (List.take_append_drop k L);rw [List.filter_append,e1,e2,List.append_nil] at e3;exact e3
theorem Qof {L:List Ce} {n:Int} {s:ByteArray} {k:Nat} (hL:AscC L) (h:PlcA L n s k false):L.drop k=L.filter (hiF n s)/\¬ Qds L n s:=by
 have aa:∀ x∈L.drop k,hiF n s x=true:=fun x hx=>by
  obtain ⟨q1,q2⟩:=QiJ hL h hx
  cases q:hiF n s x
  ·exact absurd (Qid q1 q) (q2 rfl)
  ·rfl
 have tk:=Qgj hL h;have lo:∀ x∈L.take k,loF n s x=true:=fun x hx=>by rw [tk] at hx;exact (List.mem_filter.1 hx).2
 have e1:(L.take k).filter (hiF n s)=[]:=List.filter_eq_nil_iff.2 (fun x hx=>by
  rw [show hiF n s x=false from QeM (lo x hx)];simp)
 have e2:(L.drop k).filter (hiF n s)=L.drop k:=List.filter_eq_self.2 aa;constructor
 ·have e3:=congrArg (List.filter (hiF n s)) (List.take_append_drop k L)
  rw [List.filter_append,e1,e2,List.nil_append] at e3;exact e3
 ·rintro ⟨c,hc,q⟩
  rw [<- List.take_append_drop k L] at hc;rcases List.mem_append.1 hc with hc | hc
  ·have l1:=lo c hc
   have k1:Qa9 (kC n s) c:=⟨q.1.symm,q.2.symm⟩;unfold loF at l1;rw [Qc0 k1,QeC] at l1;cases l1
  ·exact (QiJ hL h hc).2 rfl q
theorem Qkc {L:List Ce} {n:Int} {s:ByteArray} {k:Nat} (hL:AscC L) (h:PlcA L n s k true):∃ c,L[k]?=some c/\c∈L/\c.n=n/\c.s=s/\L.drop (k+1)=L.filter (hiF n s):=by
 obtain ⟨c,hc,rfl,rfl⟩:=h.yes rfl;have hm:=ZZn hc;have e:=Qc1 hL hm;rw [<- Qgj hL h] at e;have e2:=List.take_append_drop k L;have e3:L.drop k=c :: L.filter (hiF c.n c.s):=List.append_cancel_left (e2.trans e);refine ⟨c,hc,hm,rfl,rfl,?_⟩;have e4:=congrArg (List.drop 1) e3;rw [List.drop_drop] at e4
 simpa [Nat.add_comm] using e4
open Go.ChangeAt Go.ChangeShapes Go.Lib Go.Maps Go.PlainAid Go.RowKit Go.WideShapes
theorem Qli {w:World} {ao:Option Addr} {L:List Ce} {k:Nat} (h:Qb7 w ao L):Qb7 w ao (L.take k):=by
 refine ⟨fun h0=>?_,fun c hc=>h.2 c (ZZo hc)⟩;obtain ⟨b,aa,e,hc⟩:=h.1 (by rw [List.length_take] at h0;omega);refine ⟨b,aa,e,fun i c hi=>hc i c ?_⟩;rw [List.getElem?_take] at hi
 split at hi
 ·exact hi
 ·cases hi
theorem Qgi {w:World} {ao:Option Addr} {L:List Ce} {k ca:Nat} (h:Qb7 w ao L) (hc:L.length<=ca):Qb7 w (if ca=k then ao else ao.map (·.add (k*15))) (L.drop k):=by
 refine ⟨fun h0=>?_,fun c hc=>h.2 c (ZZp hc)⟩;rw [List.length_drop] at h0;obtain ⟨b,aa,e,hx⟩:=h.1 (by omega);subst e;rw [if_neg (by omega)];refine ⟨b,aa+k*15,by simp [Addr.add],fun i c hi=>?_⟩;rw [List.getElem?_drop] at hi;have:=hx (k+i) c hi;rw [show aa+k*15+i*15=aa+(k+i)*15 by omega];exact this
inductive PuA (L:List Ce) (win:Int) (x:Sx):List Ce->Int->Prop
 | kind (c:Ce) (hc:c∈L) (k1:c.n=win) (k2:c.s=x.se) (hk:¬ c.g.k=x.k):PuA L win x [] 9
 | there (c:Ce) (o:Ag) (R:List Ce) (hc:c∈L) (k1:c.n=win) (k2:c.s=x.se) (hk:c.g.k=x.k) (hp:AgPut c.g x o) (hR:PtL L win x.se o R):PuA L win x R 0
 | full (hn:¬ Qds L win x.se) (hl:60<=L.length):PuA L win x [] 8
 | new (o:Ag) (R:List Ce) (hn:¬ Qds L win x.se) (hl:L.length<60) (hp:AgPut (QaN x.k) x o) (hR:PtL L win x.se o R):PuA L win x R 0
theorem Qkm {L A B:List Ce} {n:Int} {s:ByteArray} {k:Nat} {o:Ag} {q:Pl} (hL:AscC L) (h:PlcA L n s k true) (hA:A.map Ce.key=(L.take k).map Ce.key) (hB:B.map Ce.key=(L.drop (k+1)).map Ce.key):PtL L n s o ((A ++ [⟨n,s,o,q⟩]) ++ B):=by
 obtain ⟨c,_,_,_,_,e⟩:=Qkc hL h;unfold PtL;rw [List.map_append,List.map_append,hA,hB,Qgj hL h,e,List.append_assoc]
 rfl
theorem QmL {L A B:List Ce} {n:Int} {s:ByteArray} {k:Nat} {o:Ag} {q:Pl} (hL:AscC L) (h:PlcA L n s k false) (hA:A.map Ce.key=(L.take k).map Ce.key) (hB:B.map Ce.key=(L.drop k).map Ce.key):PtL L n s o ((A ++ [⟨n,s,o,q⟩]) ++ B):=by
 obtain ⟨e,_⟩:=Qof hL h;unfold PtL;rw [List.map_append,List.map_append,hA,hB,Qgj hL h,e,List.append_assoc]
 rfl
end Go.Proofs.YtandnmpllheniaaGreatDoor
