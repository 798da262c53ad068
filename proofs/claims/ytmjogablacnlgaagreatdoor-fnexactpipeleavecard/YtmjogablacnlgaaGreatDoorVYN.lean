/-
 l10Copy, PipeTick of the model.
-/
import Derived.Test.YtmjogablacnlgaaGreatDoorVYL
namespace Go.Proofs.YtmjogablacnlgaaGreatDoor
set_option linter.unusedVariables false
set_option linter.unusedSimpArgs false
open Go.ChangeShapes Go.WideShapes Go.ChangeAt Go.RowKit Go.PlainAid Go.Lib
set_option maxRecDepth 10000
structure LcI (w wr : World) (ao : Option Addr) (N ca : Nat) (S : List Sd) (p : Pi) (k : Nat) (v : Value) (M : List Sd) : Prop where
  x0 : wr.heap[w.heap.size]? = some (.cells (piArr (.slice ao N ca) p) 29 (0, 0))
  x1 : wr.heap[w.heap.size + 1]? = some (.cells zeroPi 29 (0, 0))
  x2 : wr.heap[w.heap.size + 1 + 1]? = some (.cells (piArr v p) 29 (0, 0))
  r : OwnD wr (w.heap.size + 1 + 1 + 1) v M
  o : LvO wr (w.heap.size + 1 + 1 + 1) M
  ky : M.map Sd.key = (S.take k).map Sd.key
  b : Below w.heap.size w wr
section
variable {w wr W w1 w3 : World} {ao : Option Addr} {N ca k : Nat} {S M : List Sd} {p : Pi} {v v' : Value}
theorem LcI.start (hA : True) : LcI w (((w.alloc (.cells (piArr (.slice ao N ca) p) 29)).alloc (.cells zeroPi 29)).alloc (.cells (piArr (.slice none 0 0) p) 29)) ao N ca S p 0 (.slice none 0 0) [] := by
  have a1 : ∀ (X : World) o, Below X.heap.size X (X.alloc o) := fun X o => (Below.refl _ _).alloc (Nat.le_refl _) _
  have k0 := heap_alloc_new w (.cells (piArr (.slice ao N ca) p) 29)
  have k1 := heap_alloc_new (w.alloc (.cells (piArr (.slice ao N ca) p) 29)) (.cells zeroPi 29)
  have k2 := heap_alloc_new ((w.alloc (.cells (piArr (.slice ao N ca) p) 29)).alloc (.cells zeroPi 29)) (.cells (piArr (.slice none 0 0) p) 29)
  simp only [World.size_alloc] at k1 k2
  exact ⟨((a1 _ _).block _ (by simp; omega)).trans (((a1 _ _).block _ (by simp)).trans k0), ((a1 _ _).block _ (by simp)).trans k1, k2, OwnD.nil _ _, LvO.nil _ _, by simp, chain (chain (a1 _ _) (a1 _ _)) (a1 _ _)⟩
end
structure CpP (w w':World) (S:List Sd) (v:Value) (M:List Sd):Prop where
 r:OwnD w' w.heap.size v M
 o:LvO w' w.heap.size M
 ky:M.map Sd.key=S.map Sd.key
 b:Below w.heap.size w w'
def CpA (w:World) (S:List Sd) (p:Pi) (e:Ending) (w':World):Prop:=∃ v M,e=.returned (.agg (piArr v p))∧CpP w w' S v M
theorem CpP.sets {w wr:World} {S M:List Sd} {v v0 v1 v2 v3 v4:Value} (far:∀ j,v.ownBlock=some j→w.heap.size+1+1+1≤j) (ho:LvO wr (w.heap.size+1+1+1) M) (h:CpP w wr S v M):CpP w (((((wr.setCell ⟨w.heap.size+1,0,none⟩ v0).setCell ⟨w.heap.size+1,1,none⟩ v1).setCell ⟨w.heap.size+1,2,none⟩ v2).setCell ⟨w.heap.size+1,3,none⟩ v3).setCell ⟨w.heap.size+1,4,none⟩ v4) S v M:=by
 have st:∀ (W:World) (j:Nat) (u:Value),OwnD W w.heap.size v M→OwnD (W.setCell ⟨w.heap.size+1,j,none⟩ u) w.heap.size v M:=fun W j u o=>by
  refine World.ownsRow.kept o (grown_one W _ j u) ?_
  cases q:v.ownBlock with
  | none=>exact .inl rfl
  | some i=>exact .inr (fun e=>by have:=far i q;injection e with e;omega)
 have sl:∀ (W:World) (j:Nat) (u:Value),LvO W (w.heap.size+1+1+1) M→LvO (W.setCell ⟨w.heap.size+1,j,none⟩ u) (w.heap.size+1+1+1) M:=fun W j u o=>o.grown (grown_one W _ j u) (by omega);refine ⟨?_,LvO.le ?_ (by omega:w.heap.size≤w.heap.size+1+1+1),h.ky,?_⟩
 ·repeat (refine st _ _ _ ?_)
  exact h.r
 ·repeat (refine sl _ _ _ ?_)
  exact ho
 ·repeat (refine Below.setCell ?_ (by show _≤w.heap.size+1;omega) _)
  exact h.b
noncomputable def tickP (S:List Sd) (p:Pi) (n:Int):Pi:=if pipB S p=true∧0≤n∧n≤1000000000 - p.c then { p with c:=p.c+n } else p
end Go.Proofs.YtmjogablacnlgaaGreatDoor
