/-
 cells of a live pipe: those of all shards, in order.
-/
import Derived.Test.YtmjogablacnlgaaGreatDoorOYB
namespace Go.Proofs.YtmjogablacnlgaaGreatDoor
set_option linter.unusedVariables false
set_option linter.unusedSimpArgs false
open Go.ChangeShapes Go.WideShapes Go.ChangeAt Go.RowKit Go.PlainAid Go.Lib Go.Shelf Go.Maps
open Go.Sort hiding Below
set_option maxRecDepth 10000
theorem heldS_inj {cs:Array Value} {s:Sd} (h:(DataW.held (Value.agg cs):DataW Value)=heldS s):cs=sdArr s:=by
 injection h with q;injection q
def LiS (w:World) (b:Nat) (L:List Sd) (v:Value) (wr:World):Prop:=
 ∃ (D:DataW Value) (left:Lit→Bool) (cnt n:Nat) (A R:List Sd),wr.ranges Tryz.prog 9 rS b w.heap.size n D left cnt∧HoldsS D L∧RgS D left L A R∧OwnC wr (w.heap.size+1) v (allC A)∧Below w.heap.size w wr
theorem own_src {w:World} {B:Nat} {c:Sd} (h:OwnC w B (slS c) c.L):(c.ao=none→c.L.length=0∧c.cp=0)∧∀ ad,c.ao=some ad→∀ j u,(flC c.L)[j]?=some u→w.cell? (ad.add j)=some u:=by
 rcases h.2 with ⟨e,h0⟩ | ⟨g,cap,cur,e,_,hg,_⟩
 ·injection e with e1 e2 e3
  exact ⟨fun _=>⟨h0,e3⟩,fun ad q=>by rw [e1] at q;cases q⟩
 ·have h':=h
  unfold slS at h';injection e with e1 e2 e3;refine ⟨(fun q=>by rw [e1] at q;cases q),fun ad q j u hu=>?_⟩;rw [e1] at q;injection q with q;subst q;have hj:=(List.getElem?_eq_some_iff.1 hu).1;rw [flC_len] at hj;rw [e1] at h';rw [Addr.add_lit,Nat.zero_add,World.ownsRow.cellAt h' j hj];exact hu
end Go.Proofs.YtmjogablacnlgaaGreatDoor
namespace Go.Proofs.YtmjogablacnlgaaGreatDoor
set_option linter.unusedVariables false
set_option linter.unusedSimpArgs false
open Go.ChangeShapes Go.WideShapes Go.ChangeAt Go.RowKit Go.PlainAid
set_option maxRecDepth 10000
theorem no_perm {L:List Ce} {n:Int} {s:ByteArray} (h:¬ HasK L n s):L.Perm (L.filter (loF n s) ++ L.filter (hiF n s)):=by
 have e:L.filter (fun c=>!loF n s c)=L.filter (hiF n s):=List.filter_congr (fun c hc=>by
  cases q:loF n s c
  ·cases q2:hiF n s c
   ·exact absurd (cAh_tot q q2) (fun e=>h ⟨c,hc,e⟩)
   ·rfl
  ·rw [show hiF n s c=false from cAh_ant q];rfl)
 have p:=List.filter_append_perm (loF n s) L;rw [e] at p;exact p.symm
theorem asc_ex:∀ {X:List Ce},(X.map (fun c=>(c.n,c.s))).Nodup→∃ L,AscC L∧X.Perm L
 | [],_=>⟨[],.nil,.nil⟩
 | c :: X,h=>by
  rw [List.map_cons,List.nodup_cons] at h;obtain ⟨L,hL,hp⟩:=asc_ex h.2;have hno:¬ HasK L c.n c.s:=fun ⟨d,hd,e1,e2⟩=>h.1 (List.mem_map.2 ⟨d,hp.mem_iff.2 hd,by rw [e1,e2]⟩);refine ⟨_,put_asc (c:=c) hL,(List.Perm.cons c hp).trans ?_⟩;refine (List.Perm.cons c (no_perm hno)).trans ?_;exact List.perm_middle.symm
theorem asc_nodup {L:List Ce} (h:AscC L):(L.map (fun c=>(c.n,c.s))).Nodup:=by
 refine List.pairwise_map.2 (h.ap.imp (fun {a b} q e=>q ?_));injection e with e1 e2;exact ⟨e1,e2⟩
theorem qs_nodup {S:List Sd} (q:QS S):∀ k,((allC (S.take k)).map (fun c=>(c.n,c.s))).Nodup
 | 0=>by simp [allC]
 | k+1=>by
  cases hs:S[k]? with
  | none=>rw [List.take_add_one,hs];simpa using qs_nodup q k
  | some s=>
   rw [allC_step hs,List.map_append];refine List.nodup_append.2 ⟨qs_nodup q k,asc_nodup (q.asc s (List.mem_of_getElem? hs)),fun a ha b hb e=>?_⟩;obtain ⟨d,hd,rfl⟩:=List.mem_map.1 ha;obtain ⟨c,hc,rfl⟩:=List.mem_map.1 hb;injection e with e1 e2;exact q.dj k s hs c hc ⟨d,hd,e1,e2⟩
theorem all_key {S M:List Sd} (h:M.map Sd.key=S.map Sd.key):(allC M).map Ce.key=(allC S).map Ce.key:=by
 have e:∀ L:List Sd,(allC L).map Ce.key=(L.map Sd.key).flatMap Prod.snd:=fun L=>by
  unfold allC;rw [List.map_flatMap,List.flatMap_map]
  rfl
 rw [e,e,h]
theorem kk_key {A B:List Ce} (h:A.map Ce.key=B.map Ce.key):A.map (fun c=>(c.n,c.s))=B.map (fun c=>(c.n,c.s)):=by
 have e:∀ L:List Ce,L.map (fun c=>(c.n,c.s))=(L.map Ce.key).map (fun x=>(x.1,x.2.1)):=fun L=>by rw [List.map_map];rfl
 rw [e,e,h]
theorem asc_same:∀ {L M:List Ce},AscC L→AscC M→(L.map Ce.key).Perm (M.map Ce.key)→L.map Ce.key=M.map Ce.key
 | [],M,_,_,p=>by
  have:=p.length_eq
  cases M with
  | nil=>rfl
  | cons _ _=>simp at this
 | c :: L,M,h,k,p=>by
  cases M with
  | nil=>have:=p.length_eq;simp at this
  | cons d M=>
   obtain ⟨h1,h2⟩:=List.pairwise_cons.1 h;obtain ⟨k1,k2⟩:=List.pairwise_cons.1 k
   have lt:∀ {a b:Ce} {x y:Ce},a.key=x.key→b.key=y.key→cAh a b=true→cAh x y=true:=fun {a b x y} e1 e2 q=>by
    obtain ⟨a1,a2,_⟩:=key3 e1;obtain ⟨b1,b2,_⟩:=key3 e2;unfold cAh at q ⊢;rw [← a1,← a2,← b1,← b2];exact q
   have e:c.key=d.key:=by
    have m1:c.key∈(d :: M).map Ce.key:=p.mem_iff.1 (by simp);have m2:d.key∈(c :: L).map Ce.key:=p.mem_iff.2 (by simp);rw [List.map_cons,List.mem_cons] at m1 m2;rcases m1 with m1 | m1
    ·exact m1
    ·rcases m2 with m2 | m2
     ·exact m2.symm
     ·obtain ⟨x,hx,ex⟩:=List.mem_map.1 m1
      obtain ⟨y,hy,ey⟩:=List.mem_map.1 m2;have q1:=lt (a:=d) (b:=x) rfl ex (k1 x hx);have q2:=lt (a:=c) (b:=y) rfl ey (h1 y hy);rw [cAh_ant q1] at q2
      cases q2
   rw [List.map_cons,List.map_cons,e] at p ⊢;rw [asc_same h2 k2 (List.Perm.cons_inv p)]
structure PcA (w w':World) (S:List Sd) (p:Pi) (v:Value) (R:List Ce):Prop where
 r:OwnC w' w.heap.size v R
 o:CesO w' w.heap.size R
 y:pipB S p=true→AscC R∧(R.map Ce.key).Perm ((allC S).map Ce.key)
 n:pipB S p=false→R=[]
 b:Below w.heap.size w w'
theorem pip_parts {S:List Sd} {p:Pi} (h:pipB S p=true):sdsB S=true∧PlP (fcS S) p.d (OwnAns (S.map Sd.nm)):=by
 unfold pipB at h;simp only [Bool.and_eq_true] at h;refine ⟨h.2.1,?_⟩;by_cases q:PlP (fcS S) p.d (OwnAns (S.map Sd.nm))
 ·exact q
 ·rw [plB_no q] at h;cases h.2.2
structure PpI (w:World) (ao:Option Addr) (N:Nat) (S:List Sd):Prop where
 n:S.length=N
 sm:SdsSm S
 ok:∀ s∈S,∀ c∈s.L,AgOk c.g∧c.s.size≤maxLen∧PlG c.g c.p
 at':SdsAt w ao S
theorem PpI.past {w w':World} {ao:Option Addr} {N:Nat} {S:List Sd} (h:PpI w ao N S) (hb:Below w.heap.size w w'):PpI w' ao N S:=⟨h.n,h.sm,h.ok,sds_past h.at' hb⟩
theorem PpI.qs {w:World} {ao:Option Addr} {N:Nat} {S:List Sd} {p:Pi} (h:PpI w ao N S) (hp:pipB S p=true):QS S:=
 qs_of (pip_parts hp).1 (fun s hs c hc=>⟨(h.ok s hs c hc).1,h.sm.sm s hs c hc,(h.ok s hs c hc).2.1,(h.ok s hs c hc).2.2⟩) (fun x hx=>((pip_parts hp).2.p x hx).2)
theorem sds_ap {S:List Sd} (h:sdsB S=true):S.Pairwise (fun s t=>s.nm≠t.nm):=by
 have hmb:membersB (S.map Sd.nm)=true:=(Bool.and_eq_true_iff.1 (by unfold sdsB at h;exact h)).1;refine List.pairwise_iff_getElem.2 (fun i j hi hj hij e=>?_);have n1:(S.map Sd.nm)[i]?=some S[i].nm:=by rw [List.getElem?_map,List.getElem?_eq_getElem hi];rfl
 have n2:(S.map Sd.nm)[i+(j - i - 1)+1]?=some S[j].nm:=by rw [show i+(j - i - 1)+1=j by omega,List.getElem?_map,List.getElem?_eq_getElem hj];rfl
 have lt:=memb_rise hmb n1 (j - i - 1) n2;rw [e,strLt_irr] at lt
 cases lt
end Go.Proofs.YtmjogablacnlgaaGreatDoor
