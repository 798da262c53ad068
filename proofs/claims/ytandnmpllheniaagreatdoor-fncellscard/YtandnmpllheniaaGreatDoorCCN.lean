/-
 Parts.
-/
import Derived.Test.YtandnmpllheniaaGreatDoorCCK
set_option linter.all false
set_option maxHeartbeats 1000000
namespace Go.Proofs.YtandnmpllheniaaGreatDoor
open Go.ChangeShapes Go.WideShapes Go.ChangeAt Go.RowKit Go.PlainAid
set_option maxRecDepth 10000
noncomputable def shB (nm:ByteArray) (L:List Ce):Bool:=Qa3 nm && csR L
theorem QkS {nm:ByteArray} {L:List Ce} {b c:Bool} (h1:Qa3 nm=b) (h2:csR L=c):Ending.returned (.bool (b && c))=.returned (.bool (shB nm L)):=by unfold shB;rw [h1,h2]
theorem Qhu {w:World} {ao:Option Addr} {N ca:Nat} {L:List Ce} (nm:ByteArray) (hs:nm.size<=maxLen) (hN:L.length=N) (lN:N<=1048576) (ok:∀ c∈L,AgOk c.g) (sm:∀ c∈L,AgSm c.g) (ss:∀ c∈L,c.s.size<=maxLen) (hm:MX w) (hA:Qb7 w ao L) :
  Calls Tryz.prog 11 #[.agg #[.string nm,.slice ao N ca]] w fun e w'=>e=.returned (.bool (shB nm L))/\Below w.heap.size w w':=by
 have aa:Below w.heap.size w (w.alloc (.cells #[.string nm,.slice ao N ca] 25)):=(ZZb _ _).alloc (ZZa _) _;have ab:=Qaa aa;have HC:=Qaa (QcT (ca:=ca) hN lN ok sm ss (hm.past aa) (Qa1 hA aa));clear hN ok sm ss hm hA aa;go_enter Tryz.func11,Tryz.ntmps11;go_wp2_with fail;refine (Qdc nm _ hs).mono ?_;rintro e wz ⟨rfl,ae⟩;obtain rfl:=ae.symm
 cases h1:Qa3 nm with
 | false=>
  go_wp2;go_ret;exact ⟨QkS (c:=csR L) h1 rfl,ab⟩
 | true=>
  go_wp2_with fail;refine HC.out.mono ?_;rintro e w1 ⟨rfl,ac⟩;have ad:=Qaa (Qac ab ac);clear ac HC
  cases h2:csR L <;> (go_wp2;go_ret;exact ⟨QkS h1 h2,ad⟩)
theorem Qht {w:World} {ao:Option Addr} {N ca:Nat} {L:List Ce} (nm:ByteArray) (hs:nm.size<=maxLen) (hN:L.length=N) (lN:N<=1048576) (ok:∀ c∈L,AgOk c.g) (sm:∀ c∈L,AgSm c.g) (ss:∀ c∈L,c.s.size<=maxLen) (hA:Qb7 w ao L) :
  Calls Tryz.prog 45 #[.agg #[.string nm,.slice ao N ca]] w fun e w'=>e=.returned (.bool (shB nm L))/\Below w.heap.size w w':=by
 have aa:Below w.heap.size w (w.alloc (.cells #[.string nm,.slice ao N ca] 25)):=(ZZb _ _).alloc (ZZa _) _;have ab:=Qaa aa;have HC:=Qaa (QbH (ca:=ca) hN lN ok sm ss (Qa1 hA aa));clear hN ok sm ss hA aa;go_enter Tryz.func45,Tryz.ntmps45;go_wp2_with fail;refine (Qby nm _ hs).mono ?_;rintro e wz ⟨rfl,ae⟩;obtain rfl:=ae.symm
 cases h1:Qa3 nm with
 | false=>
  go_wp2;go_ret;exact ⟨QkS (c:=csR L) h1 rfl,ab⟩
 | true=>
  go_wp2_with fail;refine HC.out.mono ?_;rintro e w1 ⟨rfl,ac⟩;have ad:=Qaa (Qac ab ac);clear ac HC
  cases h2:csR L <;> (go_wp2;go_ret;exact ⟨QkS h1 h2,ad⟩)
open Go.Lib Go.Maps
structure ShI (w:World) (ao:Option Addr) (N:Nat) (L:List Ce):Prop where
 hN:L.length=N
 lN:N<=1048576
 ok:∀ c∈L,AgOk c.g
 sm:∀ c∈L,AgSm c.g
 ss:∀ c∈L,c.s.size<=maxLen
 pl:∀ c∈L,PlG c.g c.p
 mem:Qb7 w ao L
theorem ShI.past {w w':World} {ao:Option Addr} {N:Nat} {L:List Ce} (h:ShI w ao N L) (hb:Below w.heap.size w w'):ShI w' ao N L:=⟨h.hN,h.lN,h.ok,h.sm,h.ss,h.pl,Qa1 h.mem hb⟩
theorem Qj5 {n:Int} (h:Qfq n=true):I64 n:=by
 unfold Qfq at h;simp only [Bool.and_eq_true,decide_eq_true_eq] at h;unfold I64;omega
theorem Qqo {c:Ce} (h:cRi c=true):Qfq c.n=true:=by
 unfold cRi at h;simp only [Bool.and_eq_true] at h;exact h.1.1.1
theorem QhB {w:World} {ao:Option Addr} {N:Nat} {L:List Ce} (h:ShI w ao N L) (r:csR L=true):∀ c∈L,QbR c.n c.s:=fun c hc=>⟨Qj5 (Qqo ((csR_iff.1 r).2.1 c hc)),h.ss c hc⟩
theorem Qfz:∀ {L M:List Ce},M.map Ce.key=L.map Ce.key->AscC L->AscC M
 | [],[],_,_=>.nil
 | c :: L,d :: M,h,k=>by
  simp only [List.map_cons,List.cons.injEq] at h;obtain ⟨k1,k2⟩:=List.pairwise_cons.1 k;refine List.pairwise_cons.2 ⟨fun x hx=>?_,Qfz h.2 k2⟩;have:x.key∈L.map Ce.key:=by rw [<- h.2];exact List.mem_map.2 ⟨x,hx,rfl⟩
  obtain ⟨y,hy,e⟩:=List.mem_map.1 this;rw [QeK h.1 e.symm];exact k1 y hy
 | [],_ :: _,h,_=>by simp at h
 | _ :: _,[],h,_=>by simp at h
theorem QcS {L M:List Ce} (h:M.map Ce.key=L.map Ce.key):M.length=L.length:=by
 have:=congrArg List.length h
 simpa using this
structure ShO (w:World) (B:Nat) (v:Value) (nm:ByteArray) (R O:List Ce) (code:Int):Prop where
 ex:∃ vr vo,v=.agg #[.string nm,vr,vo,.int .i64 code]/\OwnC w B vr R/\OwnC w B vo O/\ApV vr vo
 o:CesO w B (R ++ O)
theorem ShO.none (w:World) (B:Nat) (code:Int):ShO w B (.agg #[.string ⟨#[]⟩,.slice none 0 0,.slice none 0 0,.int .i64 code]) ⟨#[]⟩ [] [] code:=
 ⟨⟨_,_,rfl,OwnC.nil _ _,OwnC.nil _ _,fun k h=>by cases h⟩,CesO.nil _ _⟩
def TkA (nm:ByteArray) (L:List Ce) (win:Int) (nm':ByteArray) (R O:List Ce) (code:Int):Prop:=
 if shB nm L=true/\Qfq win=true then nm'=nm/\R.map Ce.key=(L.filter (fun c=>!isW win c)).map Ce.key/\O.map Ce.key=(L.filter (isW win)).map Ce.key/\code=0 else nm'=⟨#[]⟩/\R=[]/\O=[]/\code=1
theorem Qer {nm:ByteArray} {L:List Ce} (h:shB nm L=true):csR L=true:=by
 unfold shB at h;simp only [Bool.and_eq_true] at h;exact h.2
def TkP (w:World) (nm:ByteArray) (L:List Ce) (win:Int) (e:Ending) (w':World):Prop:=∃ v nm' R O code,e=.returned v/\TkA nm L win nm' R O code/\ShO w' w.heap.size v nm' R O code/\Below w.heap.size w w'
theorem OwnC.setNe {w:World} {B r j:Nat} {v:Value} {L:List Ce} (h:OwnC w B v L) (hr:r<B) (u:Value):OwnC (w.setCell ⟨r,j,none⟩ u) B v L:=
 World.ownsRow.kept (row:=some r) h ⟨rfl,rfl,rfl,(KeepsWalks.setCell w _ u).size,fun i _ hk=>Below.heap_setCell _ _ _ i (fun e=>hk (by rw [e]))⟩ (by
  cases q:v.ownBlock with
  | none=>exact .inl rfl
  | some j=>exact .inr (fun e=>by
    have:=(World.ownsRow.lt h j q).1;injection e with e;omega))
theorem CesO.setNe {w:World} {B r j:Nat} {L:List Ce} (h:CesO w B L) (hr:r<B) (u:Value):CesO (w.setCell ⟨r,j,none⟩ u) B L:=⟨fun c hc=>(h.o c hc).below hr u,h.ap⟩
end Go.Proofs.YtandnmpllheniaaGreatDoor
