/-
  Shards, as the exact laws size, copy and compare them; ShardRight of both.
-/
import Derived.Test.YthchmdmncmioiaaGreatDoorZCK
set_option maxHeartbeats 8000000
namespace Go.Proofs.YthchmdmncmioiaaGreatDoor
set_option linter.unusedVariables false
set_option linter.unusedSimpArgs false
open Go.ChangeShapes Go.WideShapes Go.ChangeAt Go.RowKit Go.PlainAid
set_option maxRecDepth 10000
noncomputable def shB (nm:ByteArray) (L:List Ce):Bool:=Qa1 nm && csR L
theorem QkZ {nm:ByteArray} {L:List Ce} {b c:Bool} (h1:Qa1 nm=b) (h2:csR L=c):Ending.returned (.bool (b && c))=.returned (.bool (shB nm L)):=by unfold shB;rw [h1,h2]
theorem QcH {w:World} {ao:Option Addr} {N ca:Nat} {L:List Ce} (nm:ByteArray) (hs:nm.size<=maxLen) (hN:L.length=N) (lN:N<=1048576) (ok:∀ c∈L,AgOk c.g) (sm:∀ c∈L,AgSm c.g) (ss:∀ c∈L,c.s.size<=maxLen) (hm:MX w) (hA:Qci w ao L) :
    Calls Tryz.prog 11 #[.agg #[.string nm,.slice ao N ca]] w fun e w'=>e=.returned (.bool (shB nm L))/\Below w.heap.size w w':=by
  have hb0:Below w.heap.size w (w.alloc (.cells #[.string nm,.slice ao N ca] 25)):=(ZZb _ _).alloc (ZZa _) _;have HT0:=Qaa hb0;have HC:=Qaa (QcE (ca:=ca) hN lN ok sm ss (hm.past hb0) (QaQ hA hb0));clear hN ok sm ss hm hA hb0;go_enter Tryz.func11,Tryz.ntmps11;go_wp2_with fail;refine (QcW nm _ hs).mono ?_;rintro e wz ⟨rfl,hwz⟩;obtain rfl:=hwz.symm
  cases h1:Qa1 nm with
  | false=>
    go_wp2;go_ret;exact ⟨QkZ (c:=csR L) h1 rfl,HT0.out⟩
  | true=>
    go_wp2_with fail;refine HC.out.mono ?_;rintro e w1 ⟨rfl,hb1⟩;have HT1:=Qaa (Qad HT0.out hb1);clear hb1 HC
    cases h2:csR L <;> (go_wp2;go_ret;exact ⟨QkZ h1 h2,HT1.out⟩)
theorem QdQ {w:World} {ao:Option Addr} {N ca:Nat} {L:List Ce} (nm:ByteArray) (hs:nm.size<=maxLen) (hN:L.length=N) (lN:N<=1048576) (ok:∀ c∈L,AgOk c.g) (sm:∀ c∈L,AgSm c.g) (ss:∀ c∈L,c.s.size<=maxLen) (hA:Qci w ao L) :
    Calls Tryz.prog 45 #[.agg #[.string nm,.slice ao N ca]] w fun e w'=>e=.returned (.bool (shB nm L))/\Below w.heap.size w w':=by
  have hb0:Below w.heap.size w (w.alloc (.cells #[.string nm,.slice ao N ca] 25)):=(ZZb _ _).alloc (ZZa _) _;have HT0:=Qaa hb0;have HC:=Qaa (QgM (ca:=ca) hN lN ok sm ss (QaQ hA hb0));clear hN ok sm ss hA hb0;go_enter Tryz.func45,Tryz.ntmps45;go_wp2_with fail;refine (Qbn nm _ hs).mono ?_;rintro e wz ⟨rfl,hwz⟩;obtain rfl:=hwz.symm
  cases h1:Qa1 nm with
  | false=>
    go_wp2;go_ret;exact ⟨QkZ (c:=csR L) h1 rfl,HT0.out⟩
  | true=>
    go_wp2_with fail;refine HC.out.mono ?_;rintro e w1 ⟨rfl,hb1⟩;have HT1:=Qaa (Qad HT0.out hb1);clear hb1 HC
    cases h2:csR L <;> (go_wp2;go_ret;exact ⟨QkZ h1 h2,HT1.out⟩)
open Go.Lib Go.Maps
structure ShI (w:World) (ao:Option Addr) (N:Nat) (L:List Ce):Prop where
  hN:L.length=N
  lN:N<=1048576
  ok:∀ c∈L,AgOk c.g
  sm:∀ c∈L,AgSm c.g
  ss:∀ c∈L,c.s.size<=maxLen
  pl:∀ c∈L,PlG c.g c.p
  mem:Qci w ao L
theorem ShI.past {w w':World} {ao:Option Addr} {N:Nat} {L:List Ce} (h:ShI w ao N L) (hb:Below w.heap.size w w'):ShI w' ao N L:=⟨h.hN,h.lN,h.ok,h.sm,h.ss,h.pl,QaQ h.mem hb⟩
theorem QjO {n:Int} (h:QdO n=true):I64 n:=by
  unfold QdO at h;simp only [Bool.and_eq_true,decide_eq_true_eq] at h;unfold I64;omega
theorem Qp2 {c:Ce} (h:cRi c=true):QdO c.n=true:=by
  unfold cRi at h;simp only [Bool.and_eq_true] at h;exact h.1.1.1
theorem Qe2 {w:World} {ao:Option Addr} {N:Nat} {L:List Ce} (h:ShI w ao N L) (r:csR L=true):∀ c∈L,QbI c.n c.s:=fun c hc=>⟨QjO (Qp2 ((csR_iff.1 r).2.1 c hc)),h.ss c hc⟩
theorem QeT:∀ {L M:List Ce},M.map Ce.key=L.map Ce.key->AscC L->AscC M
  | [],[],_,_=>.nil
  | c :: L,d :: M,h,k=>by
    simp only [List.map_cons,List.cons.injEq] at h;obtain ⟨k1,k2⟩:=List.pairwise_cons.1 k;refine List.pairwise_cons.2 ⟨fun x hx=>?_,QeT h.2 k2⟩;have:x.key∈L.map Ce.key:=by rw [<- h.2];exact List.mem_map.2 ⟨x,hx,rfl⟩
    obtain ⟨y,hy,e⟩:=List.mem_map.1 this;rw [Qdc h.1 e.symm];exact k1 y hy
  | [],_ :: _,h,_=>by simp at h
  | _ :: _,[],h,_=>by simp at h
theorem Qfd {win:Int}:∀ {L M:List Ce},M.map Ce.key=L.map Ce.key->(M.filter (isW win)).map Ce.key=(L.filter (isW win)).map Ce.key/\(M.filter (fun c=>!isW win c)).map Ce.key=(L.filter (fun c=>!isW win c)).map Ce.key
  | [],[],_=>⟨rfl,rfl⟩
  | c :: L,d :: M,h=>by
    simp only [List.map_cons,List.cons.injEq] at h;obtain ⟨q1,q2⟩:=Qfd (win:=win) h.2
    have e:isW win d=isW win c:=by
      obtain ⟨q,rfl⟩:=QgY h.1
      rfl
    simp only [List.filter_cons,e]
    cases isW win c <;> simp [q1,q2,h.1]
  | [],_ :: _,h=>by simp at h
  | _ :: _,[],h=>by simp at h
theorem Qdd {L M:List Ce} (h:M.map Ce.key=L.map Ce.key):M.length=L.length:=by
  have:=congrArg List.length h
  simpa using this
structure ShO (w:World) (B:Nat) (v:Value) (nm:ByteArray) (R O:List Ce) (code:Int):Prop where
  ex:∃ vr vo,v=.agg #[.string nm,vr,vo,.int .i64 code]/\OwnC w B vr R/\OwnC w B vo O/\ApV vr vo
  o:CesO w B (R ++ O)
theorem ShO.none (w:World) (B:Nat) (code:Int):ShO w B (.agg #[.string ⟨#[]⟩,.slice none 0 0,.slice none 0 0,.int .i64 code]) ⟨#[]⟩ [] [] code:=
  ⟨⟨_,_,rfl,OwnC.nil _ _,OwnC.nil _ _,fun k h=>by cases h⟩,CesO.nil _ _⟩
def TkA (nm:ByteArray) (L:List Ce) (win:Int) (nm':ByteArray) (R O:List Ce) (code:Int):Prop:=
  if shB nm L=true/\QdO win=true then nm'=nm/\R.map Ce.key=(L.filter (fun c=>!isW win c)).map Ce.key/\O.map Ce.key=(L.filter (isW win)).map Ce.key/\code=0 else nm'=⟨#[]⟩/\R=[]/\O=[]/\code=1
theorem TkA.no {nm:ByteArray} {L:List Ce} {win:Int} (h:¬ (shB nm L=true/\QdO win=true)):TkA nm L win ⟨#[]⟩ [] [] 1:=by
  unfold TkA;rw [if_neg h];exact ⟨rfl,rfl,rfl,rfl⟩
theorem TkA.yes {nm:ByteArray} {L R O:List Ce} {win:Int} (h:shB nm L=true) (k:QdO win=true) (h1:R.map Ce.key=(L.filter (fun c=>!isW win c)).map Ce.key) (h2:O.map Ce.key=(L.filter (isW win)).map Ce.key):TkA nm L win nm R O 0:=by
  unfold TkA;rw [if_pos ⟨h,k⟩];exact ⟨rfl,h1,h2,rfl⟩
theorem QcJ {nm:ByteArray} {L:List Ce} (h:shB nm L=true):csR L=true:=by
  unfold shB at h;simp only [Bool.and_eq_true] at h;exact h.2
def TkP (w:World) (nm:ByteArray) (L:List Ce) (win:Int) (e:Ending) (w':World):Prop:=∃ v nm' R O code,e=.returned v/\TkA nm L win nm' R O code/\ShO w' w.heap.size v nm' R O code/\Below w.heap.size w w'
theorem Qpj (w:World) (nm:ByteArray) (v:Value):Hid (Below w.heap.size w ((w.alloc (.cells #[.string nm,v] 25)).alloc (.cells #[.string ⟨#[]⟩,.slice none 0 0,.slice none 0 0,.int .i64 0] 32)))/\Hid (((w.alloc (.cells #[.string nm,v] 25)).alloc (.cells #[.string ⟨#[]⟩,.slice none 0 0,.slice none 0 0,.int .i64 0] 32)).heap[w.heap.size]?=some (.cells #[.string nm,v] 25 (0,0)))/\Hid (((w.alloc (.cells #[.string nm,v] 25)).alloc (.cells #[.string ⟨#[]⟩,.slice none 0 0,.slice none 0 0,.int .i64 0] 32)).heap[w.heap.size+1]?=some (.cells #[.string ⟨#[]⟩,.slice none 0 0,.slice none 0 0,.int .i64 0] 32 (0,0)))/\Hid (((w.alloc (.cells #[.string nm,v] 25)).alloc (.cells #[.string ⟨#[]⟩,.slice none 0 0,.slice none 0 0,.int .i64 0] 32)).heap.size=w.heap.size+2):=by
  have a1:∀ (X:World) o,Below X.heap.size X (X.alloc o):=fun X o=>(ZZb _ _).alloc (ZZa _) _;have k0:=ZZk w (.cells #[.string nm,v] 25);have k1:=ZZk (w.alloc (.cells #[.string nm,v] 25)) (.cells #[.string ⟨#[]⟩,.slice none 0 0,.slice none 0 0,.int .i64 0] 32);simp only [World.size_alloc] at k1;exact ⟨Qaa (Qad (a1 _ _) (a1 _ _)),Qaa (((a1 _ _).block _ (by simp)).trans k0),Qaa k1,Qaa (by simp)⟩
theorem OwnC.setNe {w:World} {B r j:Nat} {v:Value} {L:List Ce} (h:OwnC w B v L) (hr:r<B) (u:Value):OwnC (w.setCell ⟨r,j,none⟩ u) B v L:=
  World.ownsRow.kept (row:=some r) h ⟨rfl,rfl,rfl,(KeepsWalks.setCell w _ u).size,fun i _ hk=>Below.heap_setCell _ _ _ i (fun e=>hk (by rw [e]))⟩ (by
    cases q:v.ownBlock with
    | none=>exact .inl rfl
    | some j=>exact .inr (fun e=>by
        have:=(World.ownsRow.lt h j q).1;injection e with e;omega))
theorem CesO.setNe {w:World} {B r j:Nat} {L:List Ce} (h:CesO w B L) (hr:r<B) (u:Value):CesO (w.setCell ⟨r,j,none⟩ u) B L:=⟨fun c hc=>(h.o c hc).below hr u,h.ap⟩
theorem Qg5 (A:List Ce) (win:Int):A.Perm (A.filter (fun c=>!isW win c) ++ A.filter (isW win)):=
  ((List.perm_append_comm).trans (List.filter_append_perm (isW win) A)).symm
theorem Qej {w:World} {ao:Option Addr} {N ca:Nat} {L:List Ce} (nm:ByteArray) (win:Int) (hs:nm.size<=maxLen) (hI:ShI w ao N L) :
    Calls Tryz.prog 14 #[.agg #[.string nm,.slice ao N ca],.int .i64 win] w (TkP w nm L win):=by
  obtain ⟨k0,k1,k2,k3⟩:=Qpj w nm (.slice ao N ca);have II:=Qaa hI;clear hI;go_enter Tryz.func14,Tryz.ntmps14;have z0:=Qaq k1.out 0 rfl;have z1:=Qaq k1.out 1 rfl;go_wp2_with fail;clear z0 z1;generalize (w.alloc (.cells #[.string nm,.slice ao N ca] 25)).alloc (.cells #[.string ⟨#[]⟩,.slice none 0 0,.slice none 0 0,.int .i64 0] 32)=W0 at k0 k1 k2 k3 ⊢;refine (QdQ nm hs II.out.hN II.out.lN II.out.ok II.out.sm II.out.ss (QaQ II.out.mem k0.out)).mono ?_;rintro e w1 ⟨rfl,hb1⟩;have HT1:=Qaa (Qad k0.out hb1);have k4:=Qaa ((hb1.block _ (ZZc.1 k1.out).1).trans k1.out);have k5:=Qaa ((hb1.block _ (ZZc.1 k2.out).1).trans k2.out);have k6:Hid (w.heap.size+2<=w1.heap.size):=by show _<=_;have:=hb1.size;have:=k3.out;omega
  clear hb1 k0 k1 k2 k3;obtain ⟨f0,f1,f2,f3⟩:=fA4 k5.out;obtain ⟨y0,y1,y2,y3⟩:=cA4 k5.out;have HBs:Hid (∀ W j u,Below w.heap.size w W->Below w.heap.size w (W.setCell ⟨w.heap.size+1,j,none⟩ u)):=fun W j u q=>q.setCell (Nat.le_succ _) u
  cases h1:shB nm L with
  | false=>
    have HA:Hid (TkA nm L win ⟨#[]⟩ [] [] 1):=TkA.no (fun q=>by rw [h1] at q;cases q.1);clear h1;go_wp2;refine bodyPost_ret (v:=.agg #[.string ⟨#[]⟩,.slice none 0 0,.slice none 0 0,.int .i64 1]) (by simp [results,Tryz.results14,go_sem,y0,y1,y2,y3]) rfl ?_;refine show TkP _ _ _ _ _ _ from ⟨_,_,_,_,_,rfl,HA.out,ShO.none _ _ _,?_⟩
    first
      | exact HBs.out _ _ _ (HBs.out _ _ _ (HBs.out _ _ _ (HBs.out _ _ _ HT1.out)))
      | (repeat (refine HBs.out _ _ _ ?_)
         exact HT1.out)
  | true=>
    clear f0 f1 f2 f3 y0 y1 y2 y3;go_wp2_with fail;refine (QaN win _).mono ?_;rintro e wz ⟨rfl,hwz⟩;obtain rfl:=hwz.symm
    cases h2:QdO win with
    | false=>
      have HA:Hid (TkA nm L win ⟨#[]⟩ [] [] 1):=TkA.no (fun q=>by rw [h2] at q;cases q.2);obtain ⟨f0,f1,f2,f3⟩:=fA4 k5.out;obtain ⟨y0,y1,y2,y3⟩:=cA4 k5.out;clear h1 h2;go_wp2;refine bodyPost_ret (v:=.agg #[.string ⟨#[]⟩,.slice none 0 0,.slice none 0 0,.int .i64 1]) (by simp [results,Tryz.results14,go_sem,y0,y1,y2,y3]) rfl ?_;refine show TkP _ _ _ _ _ _ from ⟨_,_,_,_,_,rfl,HA.out,ShO.none _ _ _,?_⟩
      first
        | exact HBs.out _ _ _ (HBs.out _ _ _ (HBs.out _ _ _ (HBs.out _ _ _ HT1.out)))
        | (repeat (refine HBs.out _ _ _ ?_)
           exact HT1.out)
    | true=>
      have H1:=Qaa h1;have H2:=Qaa h2;have x0:=Qaq k4.out 0 rfl;have x1:=Qaq k4.out 1 rfl;clear h1 h2;go_wp2_with fail;clear x0 x1;refine (Ql5 win II.out.hN II.out.lN II.out.sm II.out.pl (QaQ II.out.mem HT1.out)).mono ?_;rintro e w2 ⟨vo,vr,A,rfl,h1,h2,h5,h3,h4,hb2⟩;obtain ⟨q1,q2⟩:=Qfd (win:=win) h4;have HA:=Qaa (TkA.yes H1.out H2.out q2 q1);have HT2:=Qaa (Qad HT1.out hb2);have k7:=Qaa ((hb2.block _ (ZZc.1 k4.out).1).trans k4.out);have k8:=Qaa ((hb2.block _ (ZZc.1 k5.out).1).trans k5.out);have HO1:=Qaa h1;have HO2:=Qaa h2;have HCO:=Qaa h3;have HAp:=Qaa h5.symm;clear h1 h2 h3 h4 h5 hb2 q1 q2 k4 k5;have x0:=Qac k7.out 0 rfl;have x1:=Qac k7.out 1 rfl;obtain ⟨f0,f1,f2,f3⟩:=fA4 k8.out;obtain ⟨y0,y1,y2,y3⟩:=cA4 k8.out;obtain ⟨ar,cr,rfl,_⟩:=HO2.out.form;obtain ⟨ap,cq,rfl,_⟩:=HO1.out.form;go_wp2;have hlt:w.heap.size+1<w1.heap.size:=by have:=k6.out;omega
      have hle:w.heap.size<=w1.heap.size:=by omega
      refine bodyPost_ret (v:=.agg #[.string nm,.slice ar (A.filter (fun c=>!isW win c)).length cr,.slice ap (A.filter (isW win)).length cq,.int .i64 0]) (by simp [results,Tryz.results14,go_sem,y0,y1,y2,y3]) rfl ?_;refine show TkP _ _ _ _ _ _ from ⟨_,_,_,_,_,rfl,HA.out,⟨⟨_,_,rfl,?_,?_,HAp.out⟩,?_⟩,?_⟩
      · refine OwnC.le ?_ hle
        repeat (refine OwnC.setNe ?_ hlt _)
        exact HO2.out
      · refine OwnC.le ?_ hle
        repeat (refine OwnC.setNe ?_ hlt _)
        exact HO1.out
      · refine CesO.le ?_ hle
        repeat (refine CesO.setNe ?_ hlt _)
        exact HCO.out.perm (Qg5 A win)
      · repeat (refine HBs.out _ _ _ ?_)
        exact HT2.out
theorem QhV {w:World} {ao:Option Addr} {N ca:Nat} {L:List Ce} (nm:ByteArray) (win:Int) (hs:nm.size<=maxLen) (hm:MX w) (hI:ShI w ao N L) :
    Calls Tryz.prog 13 #[.agg #[.string nm,.slice ao N ca],.int .i64 win] w (TkP w nm L win):=by
  obtain ⟨k0,k1,k2,k3⟩:=Qpj w nm (.slice ao N ca);have II:=Qaa hI;have HM:=Qaa hm;clear hI hm;go_enter Tryz.func13,Tryz.ntmps13;have z0:=Qaq k1.out 0 rfl;have z1:=Qaq k1.out 1 rfl;go_wp2_with fail;clear z0 z1;generalize (w.alloc (.cells #[.string nm,.slice ao N ca] 25)).alloc (.cells #[.string ⟨#[]⟩,.slice none 0 0,.slice none 0 0,.int .i64 0] 32)=W0 at k0 k1 k2 k3 ⊢;refine (QcH nm hs II.out.hN II.out.lN II.out.ok II.out.sm II.out.ss (HM.out.past k0.out) (QaQ II.out.mem k0.out)).mono ?_;rintro e w1 ⟨rfl,hb1⟩;have HT1:=Qaa (Qad k0.out hb1);have k4:=Qaa ((hb1.block _ (ZZc.1 k1.out).1).trans k1.out);have k5:=Qaa ((hb1.block _ (ZZc.1 k2.out).1).trans k2.out);have k6:Hid (w.heap.size+2<=w1.heap.size):=by show _<=_;have:=hb1.size;have:=k3.out;omega
  clear hb1 k0 k1 k2 k3;obtain ⟨f0,f1,f2,f3⟩:=fA4 k5.out;obtain ⟨y0,y1,y2,y3⟩:=cA4 k5.out;have HBs:Hid (∀ W j u,Below w.heap.size w W->Below w.heap.size w (W.setCell ⟨w.heap.size+1,j,none⟩ u)):=fun W j u q=>q.setCell (Nat.le_succ _) u
  cases h1:shB nm L with
  | false=>
    have HA:Hid (TkA nm L win ⟨#[]⟩ [] [] 1):=TkA.no (fun q=>by rw [h1] at q;cases q.1);clear h1;go_wp2;refine bodyPost_ret (v:=.agg #[.string ⟨#[]⟩,.slice none 0 0,.slice none 0 0,.int .i64 1]) (by simp [results,Tryz.results13,go_sem,y0,y1,y2,y3]) rfl ?_;refine show TkP _ _ _ _ _ _ from ⟨_,_,_,_,_,rfl,HA.out,ShO.none _ _ _,?_⟩
    first
      | exact HBs.out _ _ _ (HBs.out _ _ _ (HBs.out _ _ _ (HBs.out _ _ _ HT1.out)))
      | (repeat (refine HBs.out _ _ _ ?_)
         exact HT1.out)
  | true=>
    clear f0 f1 f2 f3 y0 y1 y2 y3;go_wp2_with fail;refine (QcY win _).mono ?_;rintro e wz ⟨rfl,hwz⟩;obtain rfl:=hwz.symm
    cases h2:QdO win with
    | false=>
      have HA:Hid (TkA nm L win ⟨#[]⟩ [] [] 1):=TkA.no (fun q=>by rw [h2] at q;cases q.2);obtain ⟨f0,f1,f2,f3⟩:=fA4 k5.out;obtain ⟨y0,y1,y2,y3⟩:=cA4 k5.out;clear h1 h2;go_wp2;refine bodyPost_ret (v:=.agg #[.string ⟨#[]⟩,.slice none 0 0,.slice none 0 0,.int .i64 1]) (by simp [results,Tryz.results13,go_sem,y0,y1,y2,y3]) rfl ?_;refine show TkP _ _ _ _ _ _ from ⟨_,_,_,_,_,rfl,HA.out,ShO.none _ _ _,?_⟩
      first
        | exact HBs.out _ _ _ (HBs.out _ _ _ (HBs.out _ _ _ (HBs.out _ _ _ HT1.out)))
        | (repeat (refine HBs.out _ _ _ ?_)
           exact HT1.out)
    | true=>
      have H1:=Qaa h1;have H2:=Qaa h2;have x0:=Qaq k4.out 0 rfl;have x1:=Qaq k4.out 1 rfl;clear h1 h2;go_wp2_with fail;clear x0 x1;have RK:=Qaa (Qe2 II.out (QcJ H1.out));have RA:=Qaa (csR_iff.1 (QcJ H1.out)).2.2;refine (Qdj II.out.hN II.out.lN RA.out.ap RK.out II.out.sm II.out.pl (QaQ II.out.mem HT1.out)).mono ?_;rintro e w2 ⟨M,rfl,hMp,hky,hO,hb2⟩;have KY:=Qaa hky;have AM:=Qaa (QeT hky RA.out);have hlM:M.length<=1048576:=by rw [Qdd hky,II.out.hN];exact II.out.lN
      have LM:=Qaa hlM;have HMp:=Qaa hMp;have HO:=Qaa hO;have HT2:=Qaa (Qad HT1.out hb2);have k7:=Qaa ((hb2.block _ (ZZc.1 k4.out).1).trans k4.out);have k8:=Qaa ((hb2.block _ (ZZc.1 k5.out).1).trans k5.out);have hz2:=hb2.size;clear hMp hky hO hb2 k4 k5 RK hlM;go_wp2_with fail;refine (c_take win HMp.out LM.out).mono ?_;rintro e w3 ⟨m3,rfl,hT,hS,hg3⟩;have HT3:Hid (Below w.heap.size w w3):=HT2.out.grown hg3 HT2.out.size (fun j hj=>by cases hj;exact HT1.out.size);have HO3:=Qaa (HO.out.grown hg3 (Nat.lt_succ_self _));have hnk:w.heap.size≠w1.heap.size:=by have:=k6.out;omega
      have hnk':w.heap.size+1≠w1.heap.size:=by have:=k6.out;omega
      have k9:=Qaa ((hg3.block _ (Array.getElem?_eq_some_iff.1 k7.out).1 (by simpa using hnk)).trans k7.out);have k10:=Qaa ((hg3.block _ (Array.getElem?_eq_some_iff.1 k8.out).1 (by simpa using hnk')).trans k8.out);have HT:=Qaa hT;have HS:=Qaa hS;have hz3:=hg3.size;have HZ3:Hid (w.heap.size+2<=w3.heap.size):=by show _<=_;have:=k6.out;omega
      have HZ1:Hid (w1.heap.size<=w3.heap.size):=by show _<=_;omega
      clear hT hS hg3 k7 k8 hnk hnk' hz2 hz3 HMp HO HT2;go_upto_region 5 with fail;generalize w2.heap.size=t at HT ⊢;have HS0:(fun W=>Below w3.heap.size w3 W) w3.drew:=(ZZb _ _).drew;refine Qaj (fun W=>Below w3.heap.size w3 W) 8 (by kernel_rfl) ?_;refine tkS (i:=0) (v:=.pointer (some ⟨w.heap.size,0,none⟩)) rfl rfl HS0 ?_;refine tkL (i:=1) (v:=.string nm) rfl rfl HS0 (fun W hW=>?_) ?_
      · have x0:=Qab hW (Qaq k9.out 0 rfl)
        clear hW;go_simp
      refine tkS (i:=2) (v:=.map (some w1.heap.size)) rfl rfl HS0 ?_;simp only [sA,sB,sC];refine tkS (i:=5) (v:=.map (some t)) rfl rfl HS0 ?_;simp only [sA,sB,sC];refine onE (i:=3) rfl (fun K hK=>?_);go_simp;refine (Qj4 (HS.out.past (HS0:Below w3.heap.size w3 w3.drew)) (AM.out.filter _) (by have:=List.length_filter_le (fun c=>!isW win c) M;have:=LM.out;omega)).mono ?_;rintro e w4 ⟨vr,rfl,hr,hb4⟩;have HB4:Hid (Below w3.heap.size w3 w4):=(HS0:Below w3.heap.size w3 w3.drew).trans (hb4.mono (ZZa _));have HR4:=Qaa hr;clear hr hb4;dsimp only;refine hK.out _ _ (fun _=>HB4.out) ?_;clear hK K
      try simp only [Act.put,sA,sB,sC]
      obtain ⟨ar,cr,rfl,_⟩:=HR4.out.form;refine tkS (i:=4) (v:=.agg #[.string nm,.slice ar (M.filter (fun c=>!isW win c)).length cr]) rfl rfl HB4.out ?_;simp only [sA,sB,sC];refine onE (i:=6) rfl (fun K hK=>?_);go_simp;refine (Qj4 (HT.out.past HB4.out) (AM.out.filter _) (by have:=List.length_filter_le (isW win) M;have:=LM.out;omega)).mono ?_;rintro e w5 ⟨vo,rfl,ho,hb5⟩;have HB5:Hid (Below w3.heap.size w3 w5):=Qad HB4.out hb5;have HO5:=Qaa ho;have HR5:=Qaa (HR4.out.past hb5);have HAp:Hid (ApV (.slice ar (M.filter (fun c=>!isW win c)).length cr) vo):=fun k q1 q2=>by have f1:=(World.ownsRow.lt HR4.out k q1).2;have f2:=(World.ownsRow.lt ho k q2).1;omega
      clear ho hb5;dsimp only;refine hK.out _ _ (fun _=>HB5.out) ?_;clear hK K
      try simp only [Act.put,sA,sB,sC]
      obtain ⟨ap,cq,rfl,_⟩:=HO5.out.form;refine tkS (i:=7) (v:=.agg #[.string nm,.slice ar (M.filter (fun c=>!isW win c)).length cr,.slice ap (M.filter (isW win)).length cq,.int .i64 0]) rfl rfl HB5.out ?_;simp only [sA,sB,sC];have k11:=Qaa ((HB5.out.block _ (ZZc.1 k10.out).1).trans k10.out);obtain ⟨f0,f1,f2,f3⟩:=fA4 k11.out;obtain ⟨y0,y1,y2,y3⟩:=cA4 k11.out;refine onE (i:=8) rfl (fun K hK=>?_);go_simp;refine hK.out _ _ (fun h=>absurd rfl h) ?_;clear hK K
      try simp only [Act.put,sA,sB,sC]
      refine Qar (by kernel_rfl) ?_ _;go_wp2;obtain ⟨q1,q2⟩:=Qfd (win:=win) KY.out;have hlt:w.heap.size+1<w3.heap.size:=by have:=HZ3.out;omega
      have hle:w.heap.size<=w3.heap.size:=by omega
      have hlt1:w.heap.size+1<w1.heap.size+1:=by have:=k6.out;omega
      have hle1:w.heap.size<=w1.heap.size+1:=by have:=k6.out;omega
      have hle4:w3.heap.size<=w4.heap.size:=HB4.out.size;refine bodyPost_ret (v:=.agg #[.string nm,.slice ar (M.filter (fun c=>!isW win c)).length cr,.slice ap (M.filter (isW win)).length cq,.int .i64 0]) (by simp [results,Tryz.results13,go_sem,y0,y1,y2,y3]) rfl ?_;refine show TkP _ _ _ _ _ _ from ⟨_,_,_,_,_,rfl,TkA.yes H1.out H2.out q2 q1,⟨⟨_,_,rfl,?_,?_,HAp.out⟩,?_⟩,?_⟩
      · refine OwnC.le ?_ hle
        repeat (refine OwnC.setNe ?_ hlt _)
        exact HR5.out
      · refine OwnC.le ?_ hle
        repeat (refine OwnC.setNe ?_ hlt _)
        exact HO5.out.le hle4
      · refine CesO.le ?_ hle1
        repeat (refine CesO.setNe ?_ hlt1 _)
        exact (HO3.out.past HB5.out).perm (Qg5 M win)
      · repeat (refine HBs.out _ _ _ ?_)
        exact Qad HT3.out HB5.out
end Go.Proofs.YthchmdmncmioiaaGreatDoor
