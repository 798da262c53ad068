/-
 cells of a live pipe: those of all shards, in order.
-/
import Derived.Test.YtmjogablacnlgaaGreatDoorTYB
namespace Go.Proofs.YtmjogablacnlgaaGreatDoor
set_option linter.unusedVariables false
set_option linter.unusedSimpArgs false
open Go.ChangeShapes Go.WideShapes Go.ChangeAt Go.RowKit Go.PlainAid Go.Lib Go.Shelf Go.Maps
open Go.Sort hiding Below
set_option maxRecDepth 10000
theorem heldS_inj {cs:Array Value} {s:Sd} (h:(DataW.held (Value.agg cs):DataW Value)=heldS s):cs=sdArr s:=by
 injection h with q;injection q
def LiS (w:World) (b:Nat) (L:List Sd) (v:Value) (wr:World):Prop:=
 ∃ (D:DataW Value) (left:Lit→Bool) (cnt n:Nat) (A R:List Sd),wr.ranges Tryz.prog 9 rS b w.heap.size n D left cnt∧HoldsS D L∧RgS D left L A R∧OwnC wr (w.heap.size+1) v (allC A)∧Below w.heap.size w wr
end Go.Proofs.YtmjogablacnlgaaGreatDoor
namespace Go.Proofs.YtmjogablacnlgaaGreatDoor
set_option linter.unusedVariables false
set_option linter.unusedSimpArgs false
open Go.ChangeShapes Go.WideShapes Go.ChangeAt Go.RowKit Go.PlainAid
set_option maxRecDepth 10000
structure PcA (w w':World) (S:List Sd) (p:Pi) (v:Value) (R:List Ce):Prop where
 r:OwnC w' w.heap.size v R
 o:CesO w' w.heap.size R
 y:pipB S p=true→AscC R∧(R.map Ce.key).Perm ((allC S).map Ce.key)
 n:pipB S p=false→R=[]
 b:Below w.heap.size w w'
theorem pip_parts {S:List Sd} {p:Pi} (h:pipB S p=true):sdsB S=true∧PlP (fcS S) p.d (OwnAns (S.map Sd.nm)):=by
 unfold pipB at h;simp only [Bool.and_eq_true] at h;refine ⟨h.2.1,?_⟩;by_cases q:PlP (fcS S) p.d (OwnAns (S.map Sd.nm))
 ·exact q
 ·rw [plB_no q] at h;cases h.2.2
structure PpI (w:World) (ao:Option Addr) (N:Nat) (S:List Sd):Prop where
 n:S.length=N
 sm:SdsSm S
 ok:∀ s∈S,∀ c∈s.L,AgOk c.g∧c.s.size≤maxLen∧PlG c.g c.p
 at':SdsAt w ao S
theorem PpI.past {w w':World} {ao:Option Addr} {N:Nat} {S:List Sd} (h:PpI w ao N S) (hb:Below w.heap.size w w'):PpI w' ao N S:=⟨h.n,h.sm,h.ok,sds_past h.at' hb⟩
theorem PpI.qs {w:World} {ao:Option Addr} {N:Nat} {S:List Sd} {p:Pi} (h:PpI w ao N S) (hp:pipB S p=true):QS S:=
 qs_of (pip_parts hp).1 (fun s hs c hc=>⟨(h.ok s hs c hc).1,h.sm.sm s hs c hc,(h.ok s hs c hc).2.1,(h.ok s hs c hc).2.2⟩) (fun x hx=>((pip_parts hp).2.p x hx).2)
theorem sds_ap {S:List Sd} (h:sdsB S=true):S.Pairwise (fun s t=>s.nm≠t.nm):=by
 have hmb:membersB (S.map Sd.nm)=true:=(Bool.and_eq_true_iff.1 (by unfold sdsB at h;exact h)).1;refine List.pairwise_iff_getElem.2 (fun i j hi hj hij e=>?_);have n1:(S.map Sd.nm)[i]?=some S[i].nm:=by rw [List.getElem?_map,List.getElem?_eq_getElem hi];rfl
 have n2:(S.map Sd.nm)[i+(j - i - 1)+1]?=some S[j].nm:=by rw [show i+(j - i - 1)+1=j by omega,List.getElem?_map,List.getElem?_eq_getElem hj];rfl
 have lt:=memb_rise hmb n1 (j - i - 1) n2;rw [e,strLt_irr] at lt
 cases lt
end Go.Proofs.YtmjogablacnlgaaGreatDoor
