/-
 AggNew of the program and of the model; marks in an Agg of nothing.
-/
import Derived.Test.YthpilcoklapooaaGreatDoorAJB
namespace Go.Proofs.YthpilcoklapooaaGreatDoor
set_option linter.unusedVariables false
set_option linter.unusedSimpArgs false
open Go.ChangeShapes Go.WideShapes Go.ChangeAt Go.RowKit Go.PlainAid Go.Lib
set_option maxRecDepth 10000
/-- The Agg of nothing, of a kind. -/
def agNew (k:Int):Ag:=if 1≤k∧k≤4 then ⟨k,0,0,0,0,if k=2 then -1 else 0,0,[],[],0,0,[],[]⟩ else ⟨0,0,0,0,0,0,0,[],[],0,0,[],[]⟩
def plNil:Pl:=⟨none,0,none,0,none,0,none,0⟩
abbrev agNewV (kd t:Int):Value:=.agg #[.int .i64 kd,.int .u64 0,.int .i64 0,.int .u64 0,.int .i64 0,.int .i64 t,.int .u64 0,.slice none 0 0,.slice none 0 0,.int .i64 0,.int .u64 0,.slice none 0 0,.slice none 0 0]
theorem c_kindRightA (k:Int) (w:World):Calls Tryz.prog 77 #[.int .i64 k] w fun e w'=>e=.returned (.bool (decide (1≤k) && decide (k≤4)))∧w'=w:=by
 by_cases h1:1≤k <;> by_cases h2:k≤4 <;> (go_enter Tryz.func77,Tryz.ntmps77;go_wp2;go_ret;exact ⟨by simp [h1,h2],rfl⟩)
theorem c_s_l01IsA (n lo hi:Int) (w:World):Calls Tryz.prog 71 #[.int .i64 n,.int .i64 lo,.int .i64 hi] w fun e w'=>e=.returned (.bool (decide (lo≤n) && decide (n≤hi)))∧w'=w:=by
 by_cases h1:lo≤n <;> by_cases h2:n≤hi <;> (go_enter Tryz.func71,Tryz.ntmps71;go_wp2;go_ret;exact ⟨by simp [h1,h2],rfl⟩)
set_option maxHeartbeats 1000000 in
theorem c_i_AggNew (k:Int) (w:World):Calls Tryz.prog 19 #[.int .i64 k] w fun e w'=>e=.returned (agNewV (agNew k).k (agNew k).t)∧Below w.heap.size w w':=by
 by_cases h14:1≤k∧k≤4
 ·have hb:(decide (1≤k) && decide (k≤4))=true:=by simp [h14.1,h14.2]
  by_cases h2:k=2
  ·have HE:Hid ((agNew k).k=k∧(agNew k).t=-1):=by unfold agNew;rw [if_pos h14];exact ⟨rfl,by simp [h2]⟩
   have b2:(k == 2)=true:=by simp [h2]
   clear h14 h2
   go_enter Tryz.func19,Tryz.ntmps19
   go_wp2_with (go_at_call 77;refine (c_kindRightA _ _).mono ?_;rintro e w1 ⟨rfl,hw⟩;subst hw;rw [hb])
   exact bodyPost_ret (v:=agNewV k (-1)) (by simp [results,Tryz.results19,go_sem]) rfl ⟨by rw [HE.out.1,HE.out.2],((Below.refl _ _).alloc (Nat.le_refl _) _).alloc (by simp) _⟩
  ·have HE:Hid ((agNew k).k=k∧(agNew k).t=0):=by unfold agNew;rw [if_pos h14];exact ⟨rfl,by simp [h2]⟩
   have b2:(k == 2)=false:=beq_eq_false_iff_ne.2 h2
   clear h14 h2
   go_enter Tryz.func19,Tryz.ntmps19
   go_wp2_with (go_at_call 77;refine (c_kindRightA _ _).mono ?_;rintro e w1 ⟨rfl,hw⟩;subst hw;rw [hb])
   exact bodyPost_ret (v:=agNewV k 0) (by simp [results,Tryz.results19,go_sem]) rfl ⟨by rw [HE.out.1,HE.out.2],((Below.refl _ _).alloc (Nat.le_refl _) _).alloc (by simp) _⟩
 ·have hb:(decide (1≤k) && decide (k≤4))=false:=by
   rw [Bool.eq_false_iff];intro hh;simp at hh;exact h14 hh
  have HE:Hid ((agNew k).k=0∧(agNew k).t=0):=by unfold agNew;rw [if_neg h14];exact ⟨rfl,rfl⟩
  clear h14
  go_enter Tryz.func19,Tryz.ntmps19
  go_wp2_with (go_at_call 77;refine (c_kindRightA _ _).mono ?_;rintro e w1 ⟨rfl,hw⟩;subst hw;rw [hb])
  exact bodyPost_ret (v:=agNewV 0 0) (by simp [results,Tryz.results19,go_sem]) rfl ⟨by rw [HE.out.1,HE.out.2],(Below.refl _ _).alloc (Nat.le_refl _) _⟩
set_option maxHeartbeats 1000000 in
theorem c_s_AggNew (k:Int) (w:World):Calls Tryz.prog 115 #[.int .i64 k] w fun e w'=>e=.returned (agNewV (agNew k).k (agNew k).t)∧Below w.heap.size w w':=by
 by_cases h14:1≤k∧k≤4
 ·have hb:(decide (1≤k) && decide (k≤4))=true:=by simp [h14.1,h14.2]
  by_cases h2:k=2
  ·have HE:Hid ((agNew k).k=k∧(agNew k).t=-1):=by unfold agNew;rw [if_pos h14];exact ⟨rfl,by simp [h2]⟩
   have b2:(k == 2)=true:=by simp [h2]
   clear h14 h2
   go_enter Tryz.func115,Tryz.ntmps115
   go_wp2_with (go_at_call 71;refine (c_s_l01IsA _ _ _ _).mono ?_;rintro e w1 ⟨rfl,hw⟩;subst hw;rw [hb])
   exact bodyPost_ret (v:=agNewV k (-1)) (by simp [results,Tryz.results115,go_sem]) rfl ⟨by rw [HE.out.1,HE.out.2],((Below.refl _ _).alloc (Nat.le_refl _) _).alloc (by simp) _⟩
  ·have HE:Hid ((agNew k).k=k∧(agNew k).t=0):=by unfold agNew;rw [if_pos h14];exact ⟨rfl,by simp [h2]⟩
   have b2:(k == 2)=false:=beq_eq_false_iff_ne.2 h2
   clear h14 h2
   go_enter Tryz.func115,Tryz.ntmps115
   go_wp2_with (go_at_call 71;refine (c_s_l01IsA _ _ _ _).mono ?_;rintro e w1 ⟨rfl,hw⟩;subst hw;rw [hb])
   exact bodyPost_ret (v:=agNewV k 0) (by simp [results,Tryz.results115,go_sem]) rfl ⟨by rw [HE.out.1,HE.out.2],((Below.refl _ _).alloc (Nat.le_refl _) _).alloc (by simp) _⟩
 ·have hb:(decide (1≤k) && decide (k≤4))=false:=by
   rw [Bool.eq_false_iff];intro hh;simp at hh;exact h14 hh
  have HE:Hid ((agNew k).k=0∧(agNew k).t=0):=by unfold agNew;rw [if_neg h14];exact ⟨rfl,rfl⟩
  clear h14
  go_enter Tryz.func115,Tryz.ntmps115
  go_wp2_with (go_at_call 71;refine (c_s_l01IsA _ _ _ _).mono ?_;rintro e w1 ⟨rfl,hw⟩;subst hw;rw [hb])
  exact bodyPost_ret (v:=agNewV 0 0) (by simp [results,Tryz.results115,go_sem]) rfl ⟨by rw [HE.out.1,HE.out.2],(Below.refl _ _).alloc (Nat.le_refl _) _⟩
/-- The cells of an Agg of nothing, in a block of its own. -/
abbrev NwCell (w:World) (b:Nat) (kd t:Int):Prop:=
 w.cell? ⟨b,0,none⟩=some (.int .i64 kd)∧w.cell? ⟨b,1,none⟩=some (.int .u64 0)∧w.cell? ⟨b,2,none⟩=some (.int .i64 0)∧w.cell? ⟨b,3,none⟩=some (.int .u64 0)∧w.cell? ⟨b,4,none⟩=some (.int .i64 0)∧w.cell? ⟨b,5,none⟩=some (.int .i64 t)∧w.cell? ⟨b,6,none⟩=some (.int .u64 0)∧w.cell? ⟨b,7,none⟩=some (.slice none 0 0)∧w.cell? ⟨b,8,none⟩=some (.slice none 0 0)∧w.cell? ⟨b,9,none⟩=some (.int .i64 0)∧w.cell? ⟨b,10,none⟩=some (.int .u64 0)∧w.cell? ⟨b,11,none⟩=some (.slice none 0 0)∧w.cell? ⟨b,12,none⟩=some (.slice none 0 0)
abbrev agx (kd t:Int):Ag:=⟨kd,0,0,0,0,t,0,[],[],0,0,[],[]⟩
end Go.Proofs.YthpilcoklapooaaGreatDoor
