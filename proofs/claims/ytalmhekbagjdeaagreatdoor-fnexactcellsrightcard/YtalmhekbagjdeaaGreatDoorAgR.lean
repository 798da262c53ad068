/-
  AggRight of the program and of the model.
-/
import Derived.Test.YtalmhekbagjdeaaGreatDoorAgS
import Derived.Test.YtalmhekbagjdeaaGreatDoorRightC
import Derived.Test.YtalmhekbagjdeaaGreatDoorHlR
namespace Go.Proofs.YtalmhekbagjdeaaGreatDoor
set_option linter.unusedVariables false
set_option linter.unusedSimpArgs false
open Go.ChangeShapes Go.WideShapes Go.ChangeAt Go.RowKit Go.PlainAid Go.Lib
set_option maxRecDepth 10000

def valA (v : Int) : Bool := decide (-999999999999999999 ≤ v) && decide (v ≤ 999999999999999999)
def gauB (a t : Int) : Bool := if t = -1 then decide (a = 0) else decide (0 ≤ t) && decide (t ≤ 1000000000) && valA a
theorem c_valueRightA (v : Int) (w : World) : Calls Tryz.prog 211 #[.int .i64 v] w fun e w' => e = .returned (.bool (valA v)) ∧ w' = w := by
  by_cases h1 : -999999999999999999 ≤ v <;> by_cases h2 : v ≤ 999999999999999999 <;> (go_enter Tryz.func211, Tryz.ntmps211; go_wp2; go_ret; exact ⟨by simp [valA, h1, h2], rfl⟩)
theorem c_l01IsR (n lo hi : Int) (w : World) : Calls Tryz.prog 44 #[.int .i64 n, .int .i64 lo, .int .i64 hi] w fun e w' => e = .returned (.bool (decide (lo ≤ n) && decide (n ≤ hi))) ∧ w' = w := by
  by_cases h1 : lo ≤ n <;> by_cases h2 : n ≤ hi <;> (go_enter Tryz.func44, Tryz.ntmps44; go_wp2; go_ret; exact ⟨by simp [h1, h2], rfl⟩)
theorem c_l01ValueR (v : Int) (w : World) : Calls Tryz.prog 50 #[.int .i64 v] w fun e w' => e = .returned (.bool (valA v)) ∧ w' = w := by
  go_enter Tryz.func50, Tryz.ntmps50
  go_wp2_with (go_at_call 44; refine (c_l01IsR _ _ _ _).mono ?_; rintro e w1 ⟨rfl, hw1⟩; obtain rfl := hw1)
  go_ret
  exact ⟨rfl, rfl⟩
theorem c_cright (h l : Int) (w : World) : Calls Tryz.prog 207 #[.agg #[.int .i64 h, .int .u64 l]] w fun e w' => e = .returned (.bool true) ∧ Below w.heap.size w w' := by
  go_enter Tryz.func207, Tryz.ntmps207
  go_wp2
  go_ret
  exact ⟨rfl, (Below.refl _ _).alloc (Nat.le_refl _) _⟩
theorem c_gright (a t : Int) (w : World) : Calls Tryz.prog 210 #[.agg #[.int .i64 a, .int .i64 t]] w fun e w' => e = .returned (.bool (gauB a t)) ∧ Below w.heap.size w w' := by
  by_cases h1 : t = -1
  · have b1 : (t == -1) = true := by simp [h1]
    have HE : Hid (decide (a = 0) = gauB a t) := by unfold gauB; rw [if_pos h1]; rfl
    clear h1
    by_cases h2 : a = 0
    · go_enter Tryz.func210, Tryz.ntmps210
      go_wp2
      go_ret
      exact ⟨by rw [← HE.out]; simp [h2], (Below.refl _ _).alloc (Nat.le_refl _) _⟩
    · have b2 : (a == 0) = false := beq_eq_false_iff_ne.2 h2
      go_enter Tryz.func210, Tryz.ntmps210
      go_wp2
      go_ret
      exact ⟨by rw [← HE.out]; simp [h2], (Below.refl _ _).alloc (Nat.le_refl _) _⟩
  · have b1 : (t == -1) = false := beq_eq_false_iff_ne.2 h1
    have HE : Hid ((decide (0 ≤ t) && decide (t ≤ 1000000000) && valA a) = gauB a t) := by unfold gauB; rw [if_neg h1]; rfl
    clear h1
    have HB : Hid (∀ o, Below w.heap.size w (w.alloc o)) := fun o => (Below.refl _ _).alloc (Nat.le_refl _) o
    by_cases h2 : 0 ≤ t
    · by_cases h3 : t ≤ 1000000000
      · have HE2 : Hid (valA a = gauB a t) := by have := HE.out; simp [h2, h3] at this; exact this
        go_enter Tryz.func210, Tryz.ntmps210
        go_wp2_with (go_at_call 211; refine (c_valueRightA _ _).mono ?_; rintro e w1 ⟨rfl, hw⟩; subst hw)
        go_ret
        exact ⟨ret_bs HE2.out, HB.out _⟩
      · have HE2 : Hid (false = gauB a t) := by have := HE.out; simp [h2, h3] at this; exact this.symm
        go_enter Tryz.func210, Tryz.ntmps210
        go_wp2
        go_ret
        exact ⟨ret_bs HE2.out, HB.out _⟩
    · have HE2 : Hid (false = gauB a t) := by have := HE.out; simp [h2] at this; exact this.symm
      go_enter Tryz.func210, Tryz.ntmps210
      go_wp2
      go_ret
      exact ⟨ret_bs HE2.out, HB.out _⟩

theorem taCC (v : Value) (w : World) : (Instr.typeAssert (.iface 156 v) 120 156 true).run Tryz.prog w = .ok (.tuple #[v, .bool true]) w := by kernel_rfl
theorem taGC (v : Value) (w : World) : (Instr.typeAssert (.iface 158 v) 120 156 true).run Tryz.prog w = .ok (.tuple #[.agg #[.int .i64 0, .int .u64 0], .bool false]) w := by kernel_rfl
theorem taGG (v : Value) (w : World) : (Instr.typeAssert (.iface 158 v) 120 158 true).run Tryz.prog w = .ok (.tuple #[v, .bool true]) w := by kernel_rfl
theorem taHC (v : Value) (w : World) : (Instr.typeAssert (.iface 160 v) 120 156 true).run Tryz.prog w = .ok (.tuple #[.agg #[.int .i64 0, .int .u64 0], .bool false]) w := by kernel_rfl
theorem taHG (v : Value) (w : World) : (Instr.typeAssert (.iface 160 v) 120 158 true).run Tryz.prog w = .ok (.tuple #[.agg #[.int .i64 0, .int .i64 0], .bool false]) w := by kernel_rfl
theorem taHH (v : Value) (w : World) : (Instr.typeAssert (.iface 160 v) 120 160 true).run Tryz.prog w = .ok (.tuple #[v, .bool true]) w := by kernel_rfl
theorem taSC (v : Value) (w : World) : (Instr.typeAssert (.iface 162 v) 120 156 true).run Tryz.prog w = .ok (.tuple #[.agg #[.int .i64 0, .int .u64 0], .bool false]) w := by kernel_rfl
theorem taSG (v : Value) (w : World) : (Instr.typeAssert (.iface 162 v) 120 158 true).run Tryz.prog w = .ok (.tuple #[.agg #[.int .i64 0, .int .i64 0], .bool false]) w := by kernel_rfl
theorem taSH (v : Value) (w : World) : (Instr.typeAssert (.iface 162 v) 120 160 true).run Tryz.prog w = .ok (.tuple #[.agg #[.int .u64 0, .slice none 0 0, .slice none 0 0, .int .i64 0, .int .u64 0], .bool false]) w := by kernel_rfl
theorem taSS (v : Value) (w : World) : (Instr.typeAssert (.iface 162 v) 120 162 true).run Tryz.prog w = .ok (.tuple #[v, .bool true]) w := by kernel_rfl
set_option maxHeartbeats 2000000 in
theorem c_partOfC {g : Ag} {p : Pl} (w : World) (h : g.k = 1) : Calls Tryz.prog 80 #[.agg (agArr g p)] w fun e w' => e = .returned (.iface 156 (.agg #[.int .i64 g.h, .int .u64 g.l])) ∧ Below w.heap.size w w' := by
  have b1 : (g.k == 1) = true := by simp [h]
  clear h
  go_enter Tryz.func80, Tryz.ntmps80
  go_wp2
  go_ret
  exact ⟨rfl, (Below.refl _ _).alloc (Nat.le_refl _) _⟩
set_option maxHeartbeats 2000000 in
theorem c_aggWithC (g : Ag) (p : Pl) (w : World) : Calls Tryz.prog 82 #[.int .u64 g.s, .iface 156 (.agg #[.int .i64 g.h, .int .u64 g.l])] w fun e w' => e = .returned (.agg (agArr ⟨1, g.s, g.h, g.l, 0, 0, 0, [], [], 0, 0, [], []⟩ ⟨none, 0, none, 0, none, 0, none, 0⟩)) ∧ Below w.heap.size w w' := by
  have tC := taCC (.agg #[.int .i64 g.h, .int .u64 g.l])
  go_enter Tryz.func82, Tryz.ntmps82
  go_wp2
  exact bodyPost_ret (v := .agg #[.int .i64 1, .int .u64 g.s, .int .i64 g.h, .int .u64 g.l, .int .i64 0, .int .i64 0, .int .u64 0, .slice none 0 0, .slice none 0 0, .int .i64 0, .int .u64 0, .slice none 0 0, .slice none 0 0]) (by simp [results, Tryz.results82, go_sem]) rfl ⟨rfl, ((Below.refl _ _).alloc (Nat.le_refl _) _).alloc (by simp) _⟩
set_option maxHeartbeats 2000000 in
theorem c_partOfG {g : Ag} {p : Pl} (w : World) (h : g.k = 2) : Calls Tryz.prog 80 #[.agg (agArr g p)] w fun e w' => e = .returned (.iface 158 (.agg #[.int .i64 g.a, .int .i64 g.t])) ∧ Below w.heap.size w w' := by
  have b1 : (g.k == 1) = false := beq_eq_false_iff_ne.2 (by omega)
  have b2 : (g.k == 2) = true := by simp [h]
  clear h
  go_enter Tryz.func80, Tryz.ntmps80
  go_wp2
  go_ret
  exact ⟨rfl, (Below.refl _ _).alloc (Nat.le_refl _) _⟩
set_option maxHeartbeats 2000000 in
theorem c_aggWithG (g : Ag) (p : Pl) (w : World) : Calls Tryz.prog 82 #[.int .u64 g.s, .iface 158 (.agg #[.int .i64 g.a, .int .i64 g.t])] w fun e w' => e = .returned (.agg (agArr ⟨2, g.s, 0, 0, g.a, g.t, 0, [], [], 0, 0, [], []⟩ ⟨none, 0, none, 0, none, 0, none, 0⟩)) ∧ Below w.heap.size w w' := by
  have tC := taGC (.agg #[.int .i64 g.a, .int .i64 g.t])
  have tG := taGG (.agg #[.int .i64 g.a, .int .i64 g.t])
  go_enter Tryz.func82, Tryz.ntmps82
  go_wp2
  exact bodyPost_ret (v := .agg #[.int .i64 2, .int .u64 g.s, .int .i64 0, .int .u64 0, .int .i64 g.a, .int .i64 g.t, .int .u64 0, .slice none 0 0, .slice none 0 0, .int .i64 0, .int .u64 0, .slice none 0 0, .slice none 0 0]) (by simp [results, Tryz.results82, go_sem]) rfl ⟨rfl, ((Below.refl _ _).alloc (Nat.le_refl _) _).alloc (by simp) _⟩
set_option maxHeartbeats 2000000 in
theorem c_partOfH {g : Ag} {p : Pl} (w : World) (h : g.k = 3) : Calls Tryz.prog 80 #[.agg (agArr g p)] w fun e w' => e = .returned (.iface 160 (.agg #[.int .u64 g.z, .slice p.pa g.P.length p.pc, .slice p.na g.N.length p.nc, .int .i64 g.x, .int .u64 g.y])) ∧ Below w.heap.size w w' := by
  have b1 : (g.k == 1) = false := beq_eq_false_iff_ne.2 (by omega)
  have b2 : (g.k == 2) = false := beq_eq_false_iff_ne.2 (by omega)
  have b3 : (g.k == 3) = true := by simp [h]
  clear h
  go_enter Tryz.func80, Tryz.ntmps80
  go_wp2
  go_ret
  exact ⟨rfl, (Below.refl _ _).alloc (Nat.le_refl _) _⟩
set_option maxHeartbeats 2000000 in
theorem c_aggWithH (g : Ag) (p : Pl) (w : World) : Calls Tryz.prog 82 #[.int .u64 g.s, .iface 160 (.agg #[.int .u64 g.z, .slice p.pa g.P.length p.pc, .slice p.na g.N.length p.nc, .int .i64 g.x, .int .u64 g.y])] w fun e w' => e = .returned (.agg (agArr ⟨3, g.s, 0, 0, 0, 0, g.z, g.P, g.N, g.x, g.y, [], []⟩ ⟨p.pa, p.pc, p.na, p.nc, none, 0, none, 0⟩)) ∧ Below w.heap.size w w' := by
  have tC := taHC (.agg #[.int .u64 g.z, .slice p.pa g.P.length p.pc, .slice p.na g.N.length p.nc, .int .i64 g.x, .int .u64 g.y])
  have tG := taHG (.agg #[.int .u64 g.z, .slice p.pa g.P.length p.pc, .slice p.na g.N.length p.nc, .int .i64 g.x, .int .u64 g.y])
  have tH := taHH (.agg #[.int .u64 g.z, .slice p.pa g.P.length p.pc, .slice p.na g.N.length p.nc, .int .i64 g.x, .int .u64 g.y])
  go_enter Tryz.func82, Tryz.ntmps82
  go_wp2
  exact bodyPost_ret (v := .agg #[.int .i64 3, .int .u64 g.s, .int .i64 0, .int .u64 0, .int .i64 0, .int .i64 0, .int .u64 g.z, .slice p.pa g.P.length p.pc, .slice p.na g.N.length p.nc, .int .i64 g.x, .int .u64 g.y, .slice none 0 0, .slice none 0 0]) (by simp [results, Tryz.results82, go_sem]) rfl ⟨rfl, ((Below.refl _ _).alloc (Nat.le_refl _) _).alloc (by simp) _⟩
set_option maxHeartbeats 2000000 in
theorem c_partOfS {g : Ag} {p : Pl} (w : World) (h : g.k = 4) : Calls Tryz.prog 80 #[.agg (agArr g p)] w fun e w' => e = .returned (.iface 162 (.agg #[.slice p.ea g.E.length p.ec, .slice p.ra g.R.length p.rc])) ∧ Below w.heap.size w w' := by
  have b1 : (g.k == 1) = false := beq_eq_false_iff_ne.2 (by omega)
  have b2 : (g.k == 2) = false := beq_eq_false_iff_ne.2 (by omega)
  have b3 : (g.k == 3) = false := beq_eq_false_iff_ne.2 (by omega)
  have b4 : (g.k == 4) = true := by simp [h]
  clear h
  go_enter Tryz.func80, Tryz.ntmps80
  go_wp2
  go_ret
  exact ⟨rfl, (Below.refl _ _).alloc (Nat.le_refl _) _⟩
set_option maxHeartbeats 2000000 in
theorem c_aggWithS (g : Ag) (p : Pl) (w : World) : Calls Tryz.prog 82 #[.int .u64 g.s, .iface 162 (.agg #[.slice p.ea g.E.length p.ec, .slice p.ra g.R.length p.rc])] w fun e w' => e = .returned (.agg (agArr ⟨4, g.s, 0, 0, 0, 0, 0, [], [], 0, 0, g.E, g.R⟩ ⟨none, 0, none, 0, p.ea, p.ec, p.ra, p.rc⟩)) ∧ Below w.heap.size w w' := by
  have tC := taSC (.agg #[.slice p.ea g.E.length p.ec, .slice p.ra g.R.length p.rc])
  have tG := taSG (.agg #[.slice p.ea g.E.length p.ec, .slice p.ra g.R.length p.rc])
  have tH := taSH (.agg #[.slice p.ea g.E.length p.ec, .slice p.ra g.R.length p.rc])
  have tS := taSS (.agg #[.slice p.ea g.E.length p.ec, .slice p.ra g.R.length p.rc])
  go_enter Tryz.func82, Tryz.ntmps82
  go_wp2
  exact bodyPost_ret (v := .agg #[.int .i64 4, .int .u64 g.s, .int .i64 0, .int .u64 0, .int .i64 0, .int .i64 0, .int .u64 0, .slice none 0 0, .slice none 0 0, .int .i64 0, .int .u64 0, .slice p.ea g.E.length p.ec, .slice p.ra g.R.length p.rc]) (by simp [results, Tryz.results82, go_sem]) rfl ⟨rfl, ((Below.refl _ _).alloc (Nat.le_refl _) _).alloc (by simp) _⟩
set_option maxHeartbeats 2000000 in
theorem c_partOf0 {g : Ag} {p : Pl} (w : World) (h1 : ¬ g.k = 1) (h2 : ¬ g.k = 2) (h3 : ¬ g.k = 3) (h4 : ¬ g.k = 4) : Calls Tryz.prog 80 #[.agg (agArr g p)] w fun e w' => e = .returned .nilIface ∧ Below w.heap.size w w' := by
  have b1 : (g.k == 1) = false := beq_eq_false_iff_ne.2 h1
  have b2 : (g.k == 2) = false := beq_eq_false_iff_ne.2 h2
  have b3 : (g.k == 3) = false := beq_eq_false_iff_ne.2 h3
  have b4 : (g.k == 4) = false := beq_eq_false_iff_ne.2 h4
  clear h1 h2 h3 h4
  go_enter Tryz.func80, Tryz.ntmps80
  go_wp2
  go_ret
  exact ⟨rfl, (Below.refl _ _).alloc (Nat.le_refl _) _⟩
end Go.Proofs.YtalmhekbagjdeaaGreatDoor
