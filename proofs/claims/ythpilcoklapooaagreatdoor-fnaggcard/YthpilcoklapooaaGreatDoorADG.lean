/-
 Aggs and samples in the world, in boxes; what a new Agg brings.
-/
import Derived.Test.YthpilcoklapooaaGreatDoorADE
import Derived.Test.YthpilcoklapooaaGreatDoorAPD
import Derived.Test.YthpilcoklapooaaGreatDoorAJC
import Derived.Test.YthpilcoklapooaaGreatDoorAJE
import Derived.Test.YthpilcoklapooaaGreatDoorADF
namespace Go.Proofs.YthpilcoklapooaaGreatDoor
set_option linter.unusedVariables false
set_option linter.unusedSimpArgs false
open Go.ChangeShapes Go.WideShapes Go.ChangeAt Go.RowKit Go.PlainAid Go.Lib
set_option maxRecDepth 10000
/-- An Agg in the world. -/
structure AI (w:World) (g:Ag) (p:Pl):Prop where
 ok:AgOk g
 sm:AgSm g
 pl:PlG g p
 h:AgAt w g p
theorem AI.past {w w':World} {g:Ag} {p:Pl} (k:AI w g p) (hb:Below w.heap.size w w'):AI w' g p:=⟨k.ok,k.sm,k.pl,ag_past k.h hb⟩
theorem AI.of {w:World} {B:Nat} {g:Ag} {p:Pl} (ok:AgOk g) (sm:AgSm g) (o:AgO w B g p):AI w g p:=⟨ok,sm,o.plg,o.at⟩
/-- A box that holds one. -/
structure AL (w:World) (r:Nat) (g:Ag) (p:Pl):Prop where
 row:w.heap[r]?=some (.cells (agArr g p) 34 (0,0))
 i:AI w g p
theorem AL.past {w w':World} {r:Nat} {g:Ag} {p:Pl} (k:AL w r g p) (hb:Below w.heap.size w w'):AL w' r g p:=
 ⟨(hb.block _ (Array.getElem?_eq_some_iff.1 k.row).1).trans k.row,k.i.past hb⟩
theorem AL.made {w:World} {g:Ag} {p:Pl} (k:AI w g p):AL (w.alloc (.cells (agArr g p) 34)) w.heap.size g p:=
 ⟨heap_alloc_new w _,k.past ((Below.refl _ _).alloc (Nat.le_refl _) _)⟩
/-- A box that holds a sample. -/
structure SL (w:World) (r:Nat) (x:Sx):Prop where
 row:w.heap[r]?=some (.cells (sxArr x) 36 (0,0))
 ok:x.Ok
theorem SL.past {w w':World} {r:Nat} {x:Sx} (k:SL w r x) (hb:Below w.heap.size w w'):SL w' r x:=
 ⟨(hb.block _ (Array.getElem?_eq_some_iff.1 k.row).1).trans k.row,k.ok⟩
theorem put_ai {w w':World} {g:Ag} {p:Pl} {x:Sx} {e:Ending} (k:AI w g p) (ox:x.Ok) (h:AgRes w (AgPut g x) e w'):∃ o q,e=.returned (.agg (agArr o q))∧AgPut g x o∧AgO w' w.heap.size o q∧AgOk o∧AgSm o∧Below w.heap.size w w':=by
 obtain ⟨v,o,rfl,hq,⟨q,rfl,ho⟩,hb⟩:=h
 exact ⟨o,q,rfl,hq,ho,(put_stays ox k.ok hq).1,put_sm2 hq k.sm,hb⟩
theorem zero_ok:AgOk agZero:=by
 have z:I64 0:=by unfold I64;omega
 have zu:U64 0:=by unfold U64;omega
 exact ⟨z,zu,z,zu,z,z,zu,z,zu,(fun b hb=>by cases hb),(fun b hb=>by cases hb),(fun b hb=>by cases hb),(fun b hb=>by cases hb)⟩
theorem mrg_okA {g g' o:Ag} (ok:AgOk g) (ok':AgOk g') (h:AgMrg g g' o):AgOk o:=by
 by_cases q:agB g=true∧agB g'=true∧g.k=g'.k
 ·exact (mrg_stays ⟨q.1,q.2.1,q.2.2⟩ ok ok' h).2.1
 ·unfold AgMrg at h
  rw [if_neg q] at h
  subst h
  exact zero_ok
theorem mrg_ai {w w':World} {g g':Ag} {p p':Pl} {e:Ending} (k:AI w g p) (k':AI w g' p') (h:AgRes w (AgMrg g g') e w'):∃ o q,e=.returned (.agg (agArr o q))∧AgMrg g g' o∧AgO w' w.heap.size o q∧AgOk o∧AgSm o∧Below w.heap.size w w':=by
 obtain ⟨v,o,rfl,hq,⟨q,rfl,ho⟩,hb⟩:=h
 exact ⟨o,q,rfl,hq,ho,mrg_okA k.ok k'.ok hq,mrg_sm2 hq,hb⟩
/-- Loads out of boxes. -/
theorem ldA {ev:Operand→Value} {op:Operand} {d:Option Tmp} {ty:TypeId} {ps:String} {af:Array Edge} {gd:Option (Nat×Bool)} {W:World} {r:Nat} {g:Ag} {p:Pl} (he:ev op=.pointer (some ⟨r,0,none⟩)) (row:W.heap[r]?=some (.cells (agArr g p) 34 (0,0))) :
  (execOp ev { dst:=d,op:=Op.load 34 op,type:=ty,pos:=ps,after:=af,guard:=gd }).run Tryz.prog W=.ok (.value (.agg (agArr g p))) W:=by
 have q0:=cellK row 0 rfl
 have q1:=cellK row 1 rfl
 have q2:=cellK row 2 rfl
 have q3:=cellK row 3 rfl
 have q4:=cellK row 4 rfl
 have q5:=cellK row 5 rfl
 have q6:=cellK row 6 rfl
 have q7:=cellK row 7 rfl
 have q8:=cellK row 8 rfl
 have q9:=cellK row 9 rfl
 have q10:=cellK row 10 rfl
 have q11:=cellK row 11 rfl
 have q12:=cellK row 12 rfl
 clear row
 simp only [execOp]
 rw [he]
 go_simp
theorem ldX {ev:Operand→Value} {op:Operand} {d:Option Tmp} {ty:TypeId} {ps:String} {af:Array Edge} {gd:Option (Nat×Bool)} {W:World} {r:Nat} {x:Sx} (he:ev op=.pointer (some ⟨r,0,none⟩)) (row:W.heap[r]?=some (.cells (sxArr x) 36 (0,0))) :
  (execOp ev { dst:=d,op:=Op.load 36 op,type:=ty,pos:=ps,after:=af,guard:=gd }).run Tryz.prog W=.ok (.value (.agg (sxArr x))) W:=by
 obtain ⟨x0,x1,x2,x3,x4,x5,x6⟩:=sx_cellsX row
 clear row
 simp only [execOp]
 rw [he]
 go_simp
theorem same_refl (g:Ag):sameA g g=true:=by simp [sameA,sameS,sameH]
/-- A box that is stored into. -/
theorem AL.put13 {w:World} {B r:Nat} {o:Ag} {q:Pl} (h:w.heap[r]?=some (.cells z13 34 (0,0))) (ok:AgOk o) (sm:AgSm o) (ho:AgO w B o q) (hr:r<B):AL (st13X w r o q) r o q:=
 ⟨row13 h,AI.of ok sm (ho.kept13 hr)⟩
theorem st13_below {w0 w:World} {r:Nat} {o:Ag} {q:Pl} (hb:Below w0.heap.size w0 w) (hr:w0.heap.size≤r):Below w0.heap.size w0 (st13X w r o q):=hb.trans (below_13 hr)
def PutRes (w:World) (g:Ag) (x:Sx) (e:Ending) (w':World):Prop:=∃ o q,e=.returned (.agg (agArr o q))∧AgPut g x o∧AgO w' w.heap.size o q∧AgOk o∧AgSm o∧Below w.heap.size w w'
def MrgRes (w:World) (g g':Ag) (e:Ending) (w':World):Prop:=∃ o q,e=.returned (.agg (agArr o q))∧AgMrg g g' o∧AgO w' w.heap.size o q∧AgOk o∧AgSm o∧Below w.heap.size w w'
theorem c_putI {w:World} {g:Ag} {p:Pl} {x:Sx} (k:AI w g p) (ox:x.Ok) (hm:MX w):Calls Tryz.prog 11 #[.agg (agArr g p),.agg (sxArr x)] w (PutRes w g x):=(c_i_AggPut x k.ok ox k.sm k.pl hm k.h).mono (fun e w' h=>put_ai k ox h)
theorem c_putS {w:World} {g:Ag} {p:Pl} {x:Sx} (k:AI w g p) (ox:x.Ok):Calls Tryz.prog 13 #[.agg (agArr g p),.agg (sxArr x)] w (PutRes w g x):=(c_s_AggPut x k.ok ox k.sm k.pl k.h).mono (fun e w' h=>put_ai k ox h)
theorem c_mrgI {w:World} {g g':Ag} {p p':Pl} (k:AI w g p) (k':AI w g' p'):Calls Tryz.prog 15 #[.agg (agArr g p),.agg (agArr g' p')] w (MrgRes w g g'):=(c_i_AggMerge k.ok k'.ok k.sm k'.sm k.h k'.h).mono (fun e w' h=>mrg_ai k k' h)
theorem c_mrgS {w:World} {g g':Ag} {p p':Pl} (k:AI w g p) (k':AI w g' p'):Calls Tryz.prog 16 #[.agg (agArr g p),.agg (agArr g' p')] w (MrgRes w g g'):=(c_s_AggMerge k.ok k'.ok k.sm k'.sm k.h k'.h k.pl.cE).mono (fun e w' h=>mrg_ai k k' h)
theorem c_sameSI {w:World} {g:Ag} {p p':Pl} (k:AI w g p) (k':AI w g p'):Calls Tryz.prog 12 #[.agg (agArr g p),.agg (agArr g p')] w fun e w'=>e=.returned (.bool true)∧Below w.heap.size w w':=by
 refine (c_s_AggSame k.sm k'.sm k.h k'.h).mono (fun e w' h=>?_)
 rw [same_refl] at h;exact h
theorem c_sameII {w:World} {g:Ag} {p p':Pl} (k:AI w g p) (k':AI w g p'):Calls Tryz.prog 14 #[.agg (agArr g p),.agg (agArr g p')] w fun e w'=>e=.returned (.bool true)∧Below w.heap.size w w':=by
 refine (c_i_AggSame k.sm k'.sm k.h k'.h).mono (fun e w' h=>?_)
 rw [same_refl] at h;exact h
theorem c_rightI {w:World} {g:Ag} {p:Pl} (k:AI w g p):Calls Tryz.prog 18 #[.agg (agArr g p)] w fun e w'=>e=.returned (.bool (agB g))∧Below w.heap.size w w':=by
 refine (c_i_AggRight k.ok k.sm k.h).mono (fun e w' h=>?_)
 rw [ag_one] at h;exact h
theorem c_rightS {w:World} {g:Ag} {p:Pl} (k:AI w g p):Calls Tryz.prog 17 #[.agg (agArr g p)] w fun e w'=>e=.returned (.bool (agB g))∧Below w.heap.size w w':=c_s_AggRight k.ok k.sm k.h
theorem ai_new (w:World) {k:Int} (h1:1≤k) (h4:k≤4):AI w (agNew k) pl0:=by
 have e:agNew k=⟨k,0,0,0,0,if k=2 then -1 else 0,0,[],[],0,0,[],[]⟩:=by unfold agNew;rw [if_pos ⟨h1,h4⟩]
 have zi:I64 0:=by unfold I64;omega
 have zu:U64 0:=by unfold U64;omega
 rw [e]
 exact AI.of (B:=0) ⟨by show I64 k;unfold I64;omega,zu,zi,zu,zi,by show I64 (if k=2 then -1 else 0);split <;> (unfold I64;omega),zu,zi,zu,(fun b hb=>by cases hb),(fun b hb=>by cases hb),(fun b hb=>by cases hb),(fun b hb=>by cases hb)⟩ ⟨Nat.zero_le _,Nat.zero_le _,Nat.zero_le _,Nat.zero_le _⟩ (AgO.nil _ _ rfl rfl rfl rfl)
theorem c_newI {w:World} {k:Int} (h1:1≤k) (h4:k≤4):Calls Tryz.prog 19 #[.int .i64 k] w fun e w'=>e=.returned (.agg (agArr (agNew k) pl0))∧Below w.heap.size w w':=by
 refine (c_i_AggNew k w).mono (fun e w' h=>?_)
 have e:agNew k=⟨k,0,0,0,0,if k=2 then -1 else 0,0,[],[],0,0,[],[]⟩:=by unfold agNew;rw [if_pos ⟨h1,h4⟩]
 rw [e] at h ⊢
 exact h
theorem mrg_commB {g g' o o':Ag} (h:AgMrg g g' o) (h':AgMrg g' g o'):o=o':=by
 by_cases q:agB g=true∧agB g'=true∧g.k=g'.k
 ·exact mrg_commA ⟨q.1,q.2.1,q.2.2⟩ h h'
 ·have q':¬ (agB g'=true∧agB g=true∧g'.k=g.k):=fun c=>q ⟨c.2.1,c.1,c.2.2.symm⟩
  unfold AgMrg at h h'
  rw [if_neg q] at h
  rw [if_neg q'] at h'
  rw [h,h']
/-- A new Agg changes nothing. -/
theorem new_right {k:Int} (h1:1≤k) (h4:k≤4):agB (agNew k)=true:=by
 have:k=1∨k=2∨k=3∨k=4:=by omega
 rcases this with rfl | rfl | rfl | rfl <;> rfl
theorem mg_empty {E R E' R':List Int} (h:hlB E R=true) (m:Mg E R [] [] E' R'):E'=E∧R'=R:=by
 have c1:=Can.self h
 have c2:=Can.self (E:=[]) (R:=[]) (by decide)
 have a:=mg_can c1 c2 m
 refine a.one c1 ?_ (fun x=>?_) ?_
 ·simp
 ·simp [mem_uniU]
 ·have:padR []=zer:=rfl
  rw [this];exact mx_zer c1.okB
theorem addH_0 {h l:Int} (hh:I64 h) (hl:U64 l):addH h l 0 0=h:=by
 unfold addH addC
 unfold U64 at hl;unfold I64 at hh
 unfold wrap64;omega
theorem addL_0 {l:Int} (hl:U64 l):addL l 0=l:=by
 unfold addL uw;unfold U64 at hl;omega
theorem mrg_new {b o:Ag} (ok:AgOk b) (r:agB b=true) (h:AgMrg b (agNew b.k) o):o=b:=by
 have n:=agB_no r
 have e:agNew b.k=⟨b.k,0,0,0,0,if b.k=2 then -1 else 0,0,[],[],0,0,[],[]⟩:=by unfold agNew;rw [if_pos ⟨n.k1,n.k4⟩]
 have rn:=new_right n.k1 n.k4
 have ek:(agNew b.k).k=b.k:=by rw [e]
 unfold AgMrg at h
 rw [if_pos ⟨r,rn,ek.symm⟩] at h
 obtain ⟨E,R,m,rfl⟩:=h
 rw [e] at m ⊢
 obtain ⟨rfl,rfl⟩:=mg_empty n.hl m
 have sP:=(binsB_iff.1 (skB_and.1 n.sk).1).1
 have sN:=(binsB_iff.1 (skB_and.1 n.sk).2).1
 unfold agMg
 dsimp only
 rw [wAdd_0 ok.s,wAdd_0 ok.z,mrg_nil',mrg_nil',keep_same sP,keep_same sN,addH_0 ok.h ok.l,addH_0 ok.x ok.y,addL_0 ok.l,addL_0 ok.y]
 by_cases e2:b.k=2
 ·rw [if_pos e2,if_pos e2,if_pos e2]
  have t:=agB_tail r e2
  have hL:¬ gLate b.a b.t 0 (-1)=true:=by
   unfold tail2 at t
   unfold gLate
   simp only [Bool.and_eq_true,Bool.or_eq_true,decide_eq_true_eq,beq_iff_eq] at t ⊢
   omega
  rw [(gA_not hL).1,(gA_not hL).2]
 ·rw [if_neg e2,if_neg e2]
  obtain ⟨q1,q2⟩:=n.ng e2
  obtain ⟨k,s,h,l,a,t,z,P,N,x,y,E,R⟩:=b
  simp only at q1 q2
  subst q1;subst q2
  rfl
end Go.Proofs.YthpilcoklapooaaGreatDoor
