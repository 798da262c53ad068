/-
 AggRight of the model.
-/
import Derived.Test.YthchmdmncmioiaaGreatDoorRJY
import Derived.Deep.DeepCutAuto
namespace Go.Proofs.YthchmdmncmioiaaGreatDoor
set_option linter.unusedVariables false
set_option linter.unusedSimpArgs false
open Go.ChangeShapes Go.WideShapes Go.ChangeAt Go.RowKit Go.PlainAid Go.Lib
set_option maxRecDepth 10000
set_option maxHeartbeats 4000000 in
theorem c_s_Gauge (o:Ag) (p:Pl) (a' t':Int) (w:World):Calls Tryz.prog 135 #[.agg (agArr o p),.int .i64 a',.int .i64 t'] w fun e w'=>e=.returned (.agg (agArr { o with a:=gA o.a o.t a' t',t:=gT o.a o.t a' t' } p))∧Below w.heap.size w w':=by
 have HB:Hid (∀ o o',Below w.heap.size w ((w.alloc o).alloc o')):=fun o o'=>((Below.refl _ _).alloc (Nat.le_refl _) o).alloc (by simp) o';obtain ⟨k,s,h,l,a,t,z,P,N,x,y,E,R⟩:=o
 show Calls Tryz.prog 135 #[.agg (agArr ⟨k,s,h,l,a,t,z,P,N,x,y,E,R⟩ p),.int .i64 a',.int .i64 t'] w fun e w'=>e=.returned (.agg (agArr ⟨k,s,h,l,gA a t a' t',gT a t a' t',z,P,N,x,y,E,R⟩ p))∧Below w.heap.size w w'
 by_cases h1:t<t'
 ·have d1:decide (t<t')=true:=decide_eq_true h1
  have HE:Hid (gA a t a' t'=a'∧gT a t a' t'=t'):=gA_late (by simp [gLate,h1]);rw [HE.out.1,HE.out.2];clear HE;go_enter Tryz.func135,Tryz.ntmps135;go_wp2;refine bodyPost_ret (v:=.agg (agArr ⟨k,s,h,l,a',t',z,P,N,x,y,E,R⟩ p)) (by simp [results,Tryz.results135,go_sem]) rfl ⟨rfl,?_⟩
  repeat (refine Below.setCell ?_ (by simp) _)
  exact HB.out _ _
 ·have d1:decide (t<t')=false:=decide_eq_false h1
  by_cases h2:t'=t
  ·subst h2
   by_cases h3:a<a'
   ·have d3:decide (a<a')=true:=decide_eq_true h3
    have HE:Hid (gA a t' a' t'=a'∧gT a t' a' t'=t'):=gA_late (by simp [gLate,h3]);rw [HE.out.1,HE.out.2];clear HE;go_enter Tryz.func135,Tryz.ntmps135;go_wp2;refine bodyPost_ret (v:=.agg (agArr ⟨k,s,h,l,a',t',z,P,N,x,y,E,R⟩ p)) (by simp [results,Tryz.results135,go_sem]) rfl ⟨rfl,?_⟩
    repeat (refine Below.setCell ?_ (by simp) _)
    exact HB.out _ _
   ·have d3:decide (a<a')=false:=decide_eq_false h3
    have HE:Hid (gA a t' a' t'=a∧gT a t' a' t'=t'):=gA_not (by simp [gLate,h3]);rw [HE.out.1,HE.out.2];clear HE;go_enter Tryz.func135,Tryz.ntmps135;go_wp2;refine bodyPost_ret (v:=.agg (agArr ⟨k,s,h,l,a,t',z,P,N,x,y,E,R⟩ p)) (by simp [results,Tryz.results135,go_sem]) rfl ⟨rfl,?_⟩
    repeat (refine Below.setCell ?_ (by simp) _)
    exact HB.out _ _
  ·have e2:(t' == t)=false:=beq_eq_false_iff_ne.2 h2
   have HE:Hid (gA a t a' t'=a∧gT a t a' t'=t):=gA_not (by simp [gLate,h1,h2]);rw [HE.out.1,HE.out.2];clear HE;go_enter Tryz.func135,Tryz.ntmps135;go_wp2;refine bodyPost_ret (v:=.agg (agArr ⟨k,s,h,l,a,t,z,P,N,x,y,E,R⟩ p)) (by simp [results,Tryz.results135,go_sem]) rfl ⟨rfl,?_⟩
   repeat (refine Below.setCell ?_ (by simp) _)
   exact HB.out _ _
end Go.Proofs.YthchmdmncmioiaaGreatDoor
