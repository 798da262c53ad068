/-
 Parts.
-/
import Derived.Test.YtdbaabbmcfnjbaaGreatDoorDYA
set_option maxRecDepth 10000
set_option linter.all false
namespace Go.Proofs.YtdbaabbmcfnjbaaGreatDoor
open Go.ChangeShapes Go.WideShapes Go.ChangeAt Go.RowKit Go.PlainAid Go.Lib Go.Maps Go.Shelf
open Go.Sort hiding Below
structure CsI (w wr:World) (L:List Ce) (k:Nat) (v:Value) (M:List Ce):Prop where
 r:OwnC wr (w.heap.size+2) v M
 o:CesO wr (w.heap.size+2) (M.take k)
 dr:M.drop k=L.drop k
 ky:M.map Ce.key=L.map Ce.key
 b:Below w.heap.size w wr
variable {w w':World}
theorem QaA {r:Nat} {o:Obj} (h:w.heap[r]?=some o) (hb:Below w.heap.size w w'):w'.heap[r]?=some o:=(hb.block r (ZZc.1 h).1).trans h
def rS:Value->Option (DataW Value×List MemPlace)
 | .agg cs=>some (.held (.agg cs),[])
 | _=>none
abbrev heldS (s:Sd):DataW Value:=.held (.agg (QeJ s))
structure HoldsS (D:DataW Value) (L:List Sd):Prop where
 ap:L.Pairwise (fun s t=>s.nm≠t.nm)
 val:∀ s∈L,∀ z,D.atKey (QdZ s.nm) z=heldS s
 only:∀ u:ByteArray,Maps.has D (QdZ u)=true->∃ s∈L,s.nm=u
 sz:Maps.size D=L.length
def MpS (w:World) (b n:Nat) (L:List Sd):Prop:=∃ D:DataW Value,w.ownsMap Tryz.prog 9 rS b n D/\HoldsS D L
structure RgS (D:DataW Value) (left:Lit->Bool) (L M R:List Sd):Prop where
 p:(M ++ R).Perm L
 no:∀ c∈M,left (QdZ c.nm)=false
 yes:∀ c∈R,left (QdZ c.nm)=true
abbrev slS (s:Sd):Value:=.slice s.ao s.L.length s.cp
structure LvO (w:World) (B:Nat) (M:List Sd):Prop where
 r:∀ s∈M,OwnC w B (slS s) s.L
 rap:M.Pairwise (fun s t=>ApV (slS s) (slS t))
 o:CesO w B (QaN M)
theorem Qq5 (A B:List Sd):QaN (A ++ B)=QaN A ++ QaN B:=by simp [QaN]
theorem Qra (s:Sd):QaN [s]=s.L:=by simp [QaN]
theorem LvO.nil (w:World) (B:Nat):LvO w B []:=⟨by simp,.nil,CesO.nil _ _⟩
variable {B N j:Nat}
variable {M S:List Sd}
theorem LvO.past (h:LvO w B M) (hb:Below w.heap.size w w'):LvO w' B M:=⟨fun s hs=>(h.r s hs).past hb,h.rap,h.o.past hb⟩
variable {L:List Ce}
theorem Qs2 {v:Value} (h:OwnC w B v L) (hj:j<B):v.ownBlock=none∨v.ownBlock≠some j:=by
 cases q:v.ownBlock with
 | none=>exact .inl rfl
 | some k=>exact .inr (fun e=>by have:=(World.ownsRow.lt h k q).1;injection e with e;omega)
theorem LvO.grown (h:LvO w B M) (hg:w.grownBy w' (some j)) (hj:j<B):LvO w' B M:=
 ⟨fun s hs=>World.ownsRow.kept (h.r s hs) hg (Qs2 (h.r s hs) hj),h.rap,h.o.grown hg hj⟩
variable {t:Sd}
theorem LvO.add (h:LvO w B M) (hb:Below w.heap.size w w') (hB:B<=w.heap.size) (hr:OwnC w' w.heap.size (slS t) t.L) (ho:CesO w' w.heap.size t.L):LvO w' B (M ++ [t]):=by
 refine ⟨fun s hs=>?_,List.pairwise_append.2 ⟨h.rap,List.pairwise_singleton _ _,fun a ha b hb'=>?_⟩,?_⟩
 ·rcases List.mem_append.1 hs with hs | hs
  ·exact (h.r s hs).past hb
  ·simp at hs
   subst hs;exact hr.le hB
 ·simp at hb'
  subst hb';intro k h1 h2;have l1:=(World.ownsRow.lt (h.r a ha) k h1).2;have l2:=(World.ownsRow.lt hr k h2).1;omega
 ·rw [Qq5,Qra]
  exact h.o.app hb hB ho
structure LvP (w w':World) (S:List Sd) (k mb Bm:Nat) (M:List Sd):Prop where
 mp:MpS w' mb k M
 o:LvO w' Bm M
 ky:M.map Sd.key=(S.take k).map Sd.key
 lt:mb<Bm
 le:w.heap.size<=mb
 bm:Bm<=w'.heap.size
 b:Below w.heap.size w w'
theorem QqL {k:Nat} {s:Sd} (h:M.map Sd.key=(S.take k).map Sd.key) (hs:S[k]?=some s) (e:t.key=s.key):(M ++ [t]).map Sd.key=(S.take (k+1)).map Sd.key:=by
 rw [List.take_add_one,hs,List.map_append,List.map_append,h];simp [e]
def LiS (w:World) (b:Nat) (L:List Sd) (v:Value) (wr:World):Prop:=
 ∃ (D:DataW Value) (left:Lit->Bool) (cnt n:Nat) (A R:List Sd),wr.ranges Tryz.prog 9 rS b w.heap.size n D left cnt/\HoldsS D L/\RgS D left L A R/\OwnC wr (w.heap.size+1) v (QaN A)/\Below w.heap.size w wr
theorem QnH {n:Int} {s:ByteArray} (h:¬ Qfk L n s):L.Perm (L.filter (loF n s) ++ L.filter (hiF n s)):=by
 have e:L.filter (fun c=>!loF n s c)=L.filter (hiF n s):=List.filter_congr (fun c hc=>by
  cases q:loF n s c
  ·cases q2:hiF n s c
   ·exact absurd (QoM q q2) (fun e=>h ⟨c,hc,e⟩)
   ·rfl
  ·rw [show hiF n s c=false from Qib q];rfl)
 have p:=List.filter_append_perm (loF n s) L;rw [e] at p;exact p.symm
theorem Qpf (h:M.map Sd.key=S.map Sd.key):(QaN M).map Ce.key=(QaN S).map Ce.key:=by
 have e:∀ L:List Sd,(QaN L).map Ce.key=(L.map Sd.key).flatMap Prod.snd:=fun L=>by
  unfold QaN;rw [List.map_flatMap,List.flatMap_map]
  rfl
 rw [e,e,h]
structure PcA (w w':World) (S:List Sd) (p:Pi) (v:Value) (R:List Ce):Prop where
 r:OwnC w' w.heap.size v R
 o:CesO w' w.heap.size R
 y:QaZ S p=true->Qck R/\(R.map Ce.key).Perm ((QaN S).map Ce.key)
 n:QaZ S p=false->R=[]
 b:Below w.heap.size w w'
variable {p:Pi}
theorem QaE (h:QaZ S p=true):QeB S=true/\PlP (fcS S) p.d (QaR (S.map Sd.nm)):=by
 unfold QaZ at h;simp only [Bool.and_eq_true] at h;refine ⟨h.2.1,?_⟩;by_cases q:PlP (fcS S) p.d (QaR (S.map Sd.nm))
 ·exact q
 ·rw [QlN q] at h;cases h.2.2
structure PpI (w:World) (ao:Option Addr) (N:Nat) (S:List Sd):Prop where
 n:S.length=N
 sm:SdsSm S
 ok:∀ s∈S,∀ c∈s.L,AgOk c.g/\c.s.size<=maxLen/\PlG c.g c.p
 at':QkP w ao S
variable {ao:Option Addr}
theorem PpI.past (h:PpI w ao N S) (hb:Below w.heap.size w w'):PpI w' ao N S:=⟨h.n,h.sm,h.ok,Qbd h.at' hb⟩
theorem PpI.qs (h:PpI w ao N S) (hp:QaZ S p=true):QS S:=
 qs_of (QaE hp).1 (fun s hs c hc=>⟨(h.ok s hs c hc).1,h.sm.sm s hs c hc,(h.ok s hs c hc).2.1,(h.ok s hs c hc).2.2⟩) (fun x hx=>((QaE hp).2.p x hx).2)
theorem Qot (h:QeB S=true):S.Pairwise (fun s t=>s.nm≠t.nm):=by
 have aa:Qaj (S.map Sd.nm)=true:=(Bool.and_eq_true_iff.1 (by unfold QeB at h;exact h)).1;refine List.pairwise_iff_getElem.2 (fun i j hi hj hij e=>?_);have n1:(S.map Sd.nm)[i]?=some S[i].nm:=by rw [List.getElem?_map,List.getElem?_eq_getElem hi];rfl
 have n2:(S.map Sd.nm)[i+(j - i - 1)+1]?=some S[j].nm:=by rw [show i+(j - i - 1)+1=j by omega,List.getElem?_map,List.getElem?_eq_getElem hj];rfl
 have lt:=Qes aa n1 (j - i - 1) n2;rw [e,Qbn] at lt
 cases lt
end Go.Proofs.YtdbaabbmcfnjbaaGreatDoor
