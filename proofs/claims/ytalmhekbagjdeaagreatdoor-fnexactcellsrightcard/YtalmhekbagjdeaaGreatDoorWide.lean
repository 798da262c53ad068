/-
  Contracts of the functions on wide numbers, of the program and of its model: what each returns; nothing that was there has turned.
-/
import Derived.Test.YtalmhekbagjdeaaGreatDoorRows
import Derived.Test.YtalmhekbagjdeaaGreatDoorBits
namespace Go.Proofs.YtalmhekbagjdeaaGreatDoor
open Go.ChangeShapes Go.WideShapes Go.ChangeAt Go.RowKit



theorem c_toWide (a b : Int) (w : World) :
    Calls Tryz.prog 75 #[.agg #[.int .i64 a, .int .u64 b]] w fun e w' => e = .returned (.agg #[.int .i64 a, .int .u64 b]) ∧ Below w.heap.size w w' := by
  go_enter Tryz.func75, Tryz.ntmps75
  go_wp2
  exact bodyPost_ret (v := .agg #[.int .i64 a, .int .u64 b]) (by simp [results, Tryz.results75, go_sem]) rfl ⟨rfl, (((Below.refl _ _).alloc (Nat.le_refl _) _).alloc (by simp) _).alloc (by simp; omega) _⟩

theorem c_eqWide (a b : Int) (w : World) :
    Calls Tryz.prog 86 #[.agg #[.int .i64 a, .int .u64 b], .agg #[.int .i64 a, .int .u64 b]] w fun e w' => e = .returned (.bool true) ∧ Below w.heap.size w w' := by
  go_enter Tryz.func86, Tryz.ntmps86
  go_wp2
  go_ret
  exact ⟨rfl, ((Below.refl _ _).alloc (Nat.le_refl _) _).alloc (by simp) _⟩



end Go.Proofs.YtalmhekbagjdeaaGreatDoor
