/-
 Copies of cells and shards as the exact laws make them: they own their memory, each its own.
-/
import Derived.Test.YtiiclgcpagdekaaGreatDoorFCQ
namespace Go.Proofs.YtiiclgcpagdekaaGreatDoor
set_option linter.unusedVariables false
set_option linter.unusedSimpArgs false
open Go.ChangeShapes Go.WideShapes Go.ChangeAt Go.RowKit Go.PlainAid Go.Lib
set_option maxRecDepth 10000
structure CeRowX (w:World) (g N:Nat) (M:List Ce):Prop where
 row:∃ cur:Array Value,w.heap[g]?=some (.cells cur 81 (0,0))∧cur.size=N*15∧∀ i c,M[i]?=some c→∀ j v,(ceArr c)[j]?=some v→cur[i*15+j]?=some v
 own:∀ c∈M,AgO w (g+1) c.g c.p
 ap:M.Pairwise ApC
abbrev shV (nm:ByteArray) (vr vo:Value) (code:Int):Array Value:=#[.string nm,vr,vo,.int .i64 code]
theorem box_so (w:World) (a b:Array Value) (T:TypeId):Hid (Below w.heap.size w ((w.alloc (.cells a T)).alloc (.cells b T)))∧Hid (∀ W,Below ((w.alloc (.cells a T)).alloc (.cells b T)).heap.size ((w.alloc (.cells a T)).alloc (.cells b T)) W→W.heap[w.heap.size]?=some (.cells a T (0,0))∧W.heap[w.heap.size+1]?=some (.cells b T (0,0))):=by
 have a1:∀ (X:World) o,Below X.heap.size X (X.alloc o):=fun X o=>(Below.refl _ _).alloc (Nat.le_refl _) _
 have k0:=heap_alloc_new w (.cells a T)
 have k1:=heap_alloc_new (w.alloc (.cells a T)) (.cells b T)
 simp only [World.size_alloc] at k1
 exact ⟨hide (chain (a1 _ _) (a1 _ _)),hide (fun W hW=>⟨(hW.block _ (by simp;omega)).trans (((a1 _ _).block _ (by simp)).trans k0),(hW.block _ (by simp)).trans k1⟩)⟩
structure ShM (w:World) (B k0:Nat) (vr vo:Value) (R O:List Ce):Prop where
 r:OwnC w B vr (mkCs k0 R)
 o:OwnC w B vo (mkCs (k0+totC R) O)
 cr:CesO w B (mkCs k0 R)
 co:CesO w B (mkCs (k0+totC R) O)
def ShBlk (vr vo:Value) (R O:List Ce) (k:Nat):Prop:=CBlk vr R k∨CBlk vo O k
theorem OwnC.keptS {w w':World} {B:Nat} {v:Value} {L:List Ce} {S:Nat→Prop} (h:OwnC w B v L) (hg:GrownS w w' S) (h1:∀ k,v.ownBlock=some k→¬ S k):OwnC w' B v L:=by
 refine ⟨h.1,?_⟩
 rcases h.2 with q | ⟨g,cap,cur,e,q1,q2,q3⟩
 ·exact .inl q
 ·exact .inr ⟨g,cap,cur,e,q1,hg.row q2 (h1 g (by rw [e];rfl)),q3⟩
end Go.Proofs.YtiiclgcpagdekaaGreatDoor
