/-
 l08Put of the model.
-/
import Derived.Test.YtiiclgcpagdekaaGreatDoorMPG
namespace Go.Proofs.YtiiclgcpagdekaaGreatDoor
set_option linter.unusedVariables false
set_option linter.unusedSimpArgs false
open Go.ChangeShapes Go.WideShapes Go.ChangeAt Go.RowKit Go.PlainAid Go.Lib Go.Maps
set_option maxRecDepth 10000
theorem CesO.app {w w':World} {B:Nat} {L M:List Ce} (h:CesO w B L) (hb:Below w.heap.size w w') (hB:B≤w.heap.size) (hM:CesO w' w.heap.size M):CesO w' B (L ++ M):=by
 refine ⟨fun d hd=>?_,List.pairwise_append.2 ⟨h.ap,hM.ap,fun c hc d hd k h1 h2=>?_⟩⟩
 ·rcases List.mem_append.1 hd with hd | hd
  ·exact (h.o d hd).past hb
  ·exact (hM.o d hd).le hB
 ·have k1:=((h.o c hc).lt h1).2
  have k2:=((hM.o d hd).lt h2).1
  omega
theorem OwnC.src {w:World} {B:Nat} {v:Value} {M:List Ce} (h:OwnC w B v M) (hn:v≠.slice none 0 0):∃ g cp,v=.slice (some ⟨g,0,none⟩) M.length cp∧∀ j u,(flC M)[j]?=some u→w.cell? ((⟨g,0,none⟩:Addr).add j)=some u:=by
 rcases h.2 with ⟨e,_⟩ | ⟨g,cap,cur,e,q1,q2⟩
 ·exact absurd e hn
 ·subst e
  refine ⟨g,cap,rfl,fun j u hu=>?_⟩
  have hj:=(List.getElem?_eq_some_iff.1 hu).1
  rw [flC_len] at hj
  rw [Addr.add_lit,Nat.zero_add,World.ownsRow.cellAt h j hj];exact hu
theorem flC_oneC (M:List Ce):∀ u∈flC M,u.oneCell'=true:=fun u hu=>by
 obtain ⟨m,_,h⟩:=List.mem_flatMap.1 hu
 exact ceL_one m u h
theorem agNew_all {k:Int} (h1:1≤k) (h4:k≤4):agB (agNew k)=true∧AgOk (agNew k)∧AgSm (agNew k)∧(agNew k).k=k∧∀ w B,AgO w B (agNew k) pl0:=by
 have e:agNew k=⟨k,0,0,0,0,if k=2 then -1 else 0,0,[],[],0,0,[],[]⟩:=by unfold agNew;rw [if_pos ⟨h1,h4⟩]
 have zi:I64 0:=by unfold I64;omega
 have zu:U64 0:=by unfold U64;omega
 refine ⟨?_,?_,?_,by rw [e],fun w B=>?_⟩
 ·have:k=1∨k=2∨k=3∨k=4:=by omega
  rcases this with rfl | rfl | rfl | rfl <;> rfl
 ·rw [e]
  exact ⟨by show I64 k;unfold I64;omega,zu,zi,zu,zi,by show I64 (if k=2 then -1 else 0);split <;> (unfold I64;omega),zu,zi,zu,(fun b hb=>by cases hb),(fun b hb=>by cases hb),(fun b hb=>by cases hb),(fun b hb=>by cases hb)⟩
 ·rw [e];exact ⟨Nat.zero_le _,Nat.zero_le _,Nat.zero_le _,Nat.zero_le _⟩
 ·rw [e];exact AgO.nil _ _ rfl rfl rfl rfl
theorem cRi_ag {c:Ce} (h:cRi c=true):agB c.g=true:=by
 unfold cRi at h
 simp only [Bool.and_eq_true] at h
 first | exact h.1.2 | exact h.2 | exact h.1.1.2 | exact h.2.1 | exact h.2.2
end Go.Proofs.YtiiclgcpagdekaaGreatDoor
