/-
 Shards, as the exact laws size, copy and compare them; ShardRight of both.
-/
import Derived.Test.YtiiclgcpagdekaaGreatDoorMCD
import Derived.Test.YtiiclgcpagdekaaGreatDoorMCK
namespace Go.Proofs.YtiiclgcpagdekaaGreatDoor
set_option linter.unusedVariables false
set_option linter.unusedSimpArgs false
open Go.ChangeShapes Go.WideShapes Go.ChangeAt Go.RowKit Go.PlainAid
set_option maxRecDepth 10000
noncomputable def shB (nm:ByteArray) (L:List Ce):Bool:=nameB nm && csR L
open Go.Lib Go.Maps
structure ShI (w:World) (ao:Option Addr) (N:Nat) (L:List Ce):Prop where
 hN:L.length=N
 lN:N≤1048576
 ok:∀ c∈L,AgOk c.g
 sm:∀ c∈L,AgSm c.g
 ss:∀ c∈L,c.s.size≤maxLen
 pl:∀ c∈L,PlG c.g c.p
 mem:CesAt w ao L
theorem ShI.past {w w':World} {ao:Option Addr} {N:Nat} {L:List Ce} (h:ShI w ao N L) (hb:Below w.heap.size w w'):ShI w' ao N L:=⟨h.hN,h.lN,h.ok,h.sm,h.ss,h.pl,ces_past h.mem hb⟩
theorem win_i64 {n:Int} (h:winB n=true):I64 n:=by
 unfold winB at h
 simp only [Bool.and_eq_true,decide_eq_true_eq] at h
 unfold I64;omega
theorem cRi_win {c:Ce} (h:cRi c=true):winB c.n=true:=by
 unfold cRi at h
 simp only [Bool.and_eq_true] at h
 exact h.1.1.1
theorem right_keys {w:World} {ao:Option Addr} {N:Nat} {L:List Ce} (h:ShI w ao N L) (r:csR L=true):∀ c∈L,KeyOk c.n c.s:=fun c hc=>⟨win_i64 (cRi_win ((csR_iff.1 r).2.1 c hc)),h.ss c hc⟩
theorem asc_key:∀ {L M:List Ce},M.map Ce.key=L.map Ce.key→AscC L→AscC M
 | [],[],_,_=>.nil
 | c :: L,d :: M,h,k=>by
  simp only [List.map_cons,List.cons.injEq] at h
  obtain ⟨k1,k2⟩:=List.pairwise_cons.1 k
  refine List.pairwise_cons.2 ⟨fun x hx=>?_,asc_key h.2 k2⟩
  have:x.key∈L.map Ce.key:=by rw [← h.2];exact List.mem_map.2 ⟨x,hx,rfl⟩
  obtain ⟨y,hy,e⟩:=List.mem_map.1 this
  rw [cAh_key h.1 e.symm]
  exact k1 y hy
 | [],_ :: _,h,_=>by simp at h
 | _ :: _,[],h,_=>by simp at h
theorem map_len {L M:List Ce} (h:M.map Ce.key=L.map Ce.key):M.length=L.length:=by
 have:=congrArg List.length h
 simpa using this
structure ShO (w:World) (B:Nat) (v:Value) (nm:ByteArray) (R O:List Ce) (code:Int):Prop where
 ex:∃ vr vo,v=.agg #[.string nm,vr,vo,.int .i64 code]∧OwnC w B vr R∧OwnC w B vo O∧ApV vr vo
 o:CesO w B (R ++ O)
def TkA (nm:ByteArray) (L:List Ce) (win:Int) (nm':ByteArray) (R O:List Ce) (code:Int):Prop:=
 if shB nm L=true∧winB win=true then nm'=nm∧R.map Ce.key=(L.filter (fun c=>!isW win c)).map Ce.key∧O.map Ce.key=(L.filter (isW win)).map Ce.key∧code=0 else nm'=⟨#[]⟩∧R=[]∧O=[]∧code=1
def TkP (w:World) (nm:ByteArray) (L:List Ce) (win:Int) (e:Ending) (w':World):Prop:=∃ v nm' R O code,e=.returned v∧TkA nm L win nm' R O code∧ShO w' w.heap.size v nm' R O code∧Below w.heap.size w w'
end Go.Proofs.YtiiclgcpagdekaaGreatDoor
