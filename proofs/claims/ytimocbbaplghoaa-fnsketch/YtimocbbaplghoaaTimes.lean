/-
  Contracts of the products: math/bits.Mul64, its model l01Mul, the negative of a wide number, WideTimes of both sides.
-/
import Derived.Test.YtimocbbaplghoaaWide
import Derived.Test.YtimocbbaplghoaaKeep
import Derived.Test.YtimocbbaplghoaaMathT
namespace Go.Proofs.Ytimocbbaplghoaa
open Go.ChangeShapes Go.WideShapes Go.ChangeAt Go.RowKit

theorem ret_pair {a b c d : Int} (h : a = c) (k : b = d) : Ending.returned (.tuple #[.int .u64 a, .int .u64 b]) = .returned (.tuple #[.int .u64 c, .int .u64 d]) := by rw [h, k]

set_option maxHeartbeats 1000000 in
theorem c_Mul64 (x y : Int) (hx : U64 x) (hy : U64 y) (w : World) :
    Calls Try.prog 49 #[.int .u64 x, .int .u64 y] w fun e w' => e = .returned (.tuple #[.int .u64 (mulH x y), .int .u64 (uw (x * y))]) ∧ w' = w := by
  have HF : Hid (_ = _) := mul_form x y hx hy
  have HG : Hid (IntKind.u64.wrap (x * y) = uw (x * y)) := IntKind.wrap_u64 _
  clear hx hy
  go_enter Try.func49, Try.ntmps49
  go_wp2
  go_ret2
  exact ⟨ret_pair HF.out HG.out, rfl⟩

set_option maxHeartbeats 1000000 in
theorem c_l01Mul (x y : Int) (hx : U64 x) (hy : U64 y) (w : World) :
    Calls Try.prog 60 #[.int .u64 x, .int .u64 y] w fun e w' => e = .returned (.tuple #[.int .u64 (mulH x y), .int .u64 (uw (x * y))]) ∧ w' = w := by
  have HF : Hid (_ = _) := mul_form' x y hx hy
  have HG : Hid (IntKind.u64.wrap (x * y) = uw (x * y)) := IntKind.wrap_u64 _
  clear hx hy
  go_enter Try.func60, Try.ntmps60
  go_wp2
  go_ret2
  exact ⟨ret_pair HF.out HG.out, rfl⟩

theorem c_l01Minus (a b : Int) (ha : I64 a) (hb : U64 b) (w : World) :
    Calls Try.prog 61 #[.agg #[.int .i64 a, .int .u64 b]] w fun e w' => e = .returned (.agg #[.int .i64 (negH a b), .int .u64 (negL b)]) ∧ Below w.heap.size w w' := by
  have HN := neg_add a b hb
  have hb' : U64 (18446744073709551615 - b) := by unfold U64 at *; omega
  have e1 := not_i64 a ha
  have e2 := not_u64 b hb
  have h1 : U64 1 := by unfold U64; omega
  have HC : ∀ w, Calls Try.prog 51 #[.agg #[.int .i64 (bits .xor .i64 (-1) a), .int .u64 (bits .xor .u64 IntKind.u64.max b)], .agg #[.int .i64 0, .int .u64 1]] w fun e w' => e = .returned (.agg #[.int .i64 (negH a b), .int .u64 (negL b)]) ∧ Below w.heap.size w w' := by
    intro w
    rw [e1, e2, ← HN.1, ← HN.2]
    exact c_s_WideAdd _ _ _ _ w hb' h1
  clear HN e1 e2 ha hb hb' h1
  go_enter Try.func61, Try.ntmps61
  go_wp2_with (go_at_call 51; refine (HC _).mono ?_; rintro e w1 ⟨rfl, hb1⟩; have p0 := cell_past (a := ⟨w.heap.size + 1, 0, none⟩) (v := .int .i64 0) hb1 (by simp); have p1 := cell_past (a := ⟨w.heap.size + 1, 1, none⟩) (v := .int .u64 0) hb1 (by simp); have f0 := hb1.frozen (p := ⟨w.heap.size + 1, 0, none⟩) (by simp); have f1 := hb1.frozen (p := ⟨w.heap.size + 1, 1, none⟩) (by simp))
  refine bodyPost_ret (v := .agg #[.int .i64 (negH a b), .int .u64 (negL b)]) (by simp [results, Try.results61, go_sem, p0, p1]) rfl ⟨rfl, ?_⟩
  exact (((((Below.refl _ _).alloc (Nat.le_refl _) _).alloc (by simp) _).trans (hb1.mono (by simp; omega))).setCell (by dsimp only; omega) _).setCell (by dsimp only; omega) _

set_option maxHeartbeats 1000000 in
theorem c_i_WideTimes (n y : Int) (hn : I64 n) (hy : U64 y) (w : World) :
    Calls Try.prog 29 #[.int .i64 n, .int .u64 y] w fun e w' => e = .returned (.agg #[.int .i64 (thH n y), .int .u64 (thL n y)]) ∧ Below w.heap.size w w' := by
  have e1 : IntKind.u64.wrap n = uw n := IntKind.wrap_u64 n
  have HC : Hid (∀ w, Calls Try.prog 49 #[.int .u64 (uw n), .int .u64 y] w fun e w' => e = .returned (.tuple #[.int .u64 (mulH (uw n) y), .int .u64 (uw (uw n * y))]) ∧ w' = w) := fun w => c_Mul64 _ _ (uw_in n) hy w
  by_cases h : n < 0
  · have HE : Hid (wrap64 (IntKind.u64.wrap (mulH (uw n) y - y)) = thH n y ∧ uw (uw n * y) = thL n y) := th_neg n y hn h
    clear hn hy
    go_enter Try.func29, Try.ntmps29
    go_wp2_with (go_at_call 49; refine (HC.out _).mono ?_; rintro e w1 ⟨rfl, rfl⟩)
    exact bodyPost_ret (v := .agg #[.int .i64 (wrap64 (IntKind.u64.wrap (mulH (uw n) y - y))), .int .u64 (uw (uw n * y))]) (by simp [results, Try.results29, go_sem]) rfl ⟨ret_wide HE.out.1 HE.out.2, (Below.refl _ _).alloc (Nat.le_refl _) _⟩
  · have HE : Hid (wrap64 (mulH (uw n) y) = thH n y ∧ uw (uw n * y) = thL n y) := th_pos n y hn h
    clear hn hy
    go_enter Try.func29, Try.ntmps29
    go_wp2_with (go_at_call 49; refine (HC.out _).mono ?_; rintro e w1 ⟨rfl, rfl⟩)
    exact bodyPost_ret (v := .agg #[.int .i64 (wrap64 (mulH (uw n) y)), .int .u64 (uw (uw n * y))]) (by simp [results, Try.results29, go_sem]) rfl ⟨ret_wide HE.out.1 HE.out.2, (Below.refl _ _).alloc (Nat.le_refl _) _⟩

set_option maxHeartbeats 1000000 in
theorem c_s_WideTimes (n y : Int) (hn : I64 n) (hy : U64 y) (w : World) :
    Calls Try.prog 52 #[.int .i64 n, .int .u64 y] w fun e w' => e = .returned (.agg #[.int .i64 (thH n y), .int .u64 (thL n y)]) ∧ Below w.heap.size w w' := by
  by_cases h : n < 0
  · have hm : U64 (-n) := by unfold I64 at hn; unfold U64; omega
    have e1 : IntKind.u64.wrap (-IntKind.u64.wrap n) = -n := by simp only [IntKind.wrap_u64]; unfold I64 at hn; omega
    have HC : Hid (∀ w, Calls Try.prog 60 #[.int .u64 (-n), .int .u64 y] w fun e w' => e = .returned (.tuple #[.int .u64 (mulH (-n) y), .int .u64 (uw (-n * y))]) ∧ w' = w) := fun w => c_l01Mul _ _ hm hy w
    have HE := th_minus n y
    have HD : Hid (∀ w, Calls Try.prog 61 #[.agg #[.int .i64 (wrap64 (mulH (-n) y)), .int .u64 (uw (-n * y))]] w fun e w' => e = .returned (.agg #[.int .i64 (thH n y), .int .u64 (thL n y)]) ∧ Below w.heap.size w w') := by
      rw [← HE.1, ← HE.2]
      exact fun w => c_l01Minus _ _ (w64_in _) (uw_in _) w
    clear hn hy hm HE
    go_enter Try.func52, Try.ntmps52
    go_wp2_with (first
      | (go_at_call 60; refine (HC.out _).mono ?_; rintro e w1 ⟨rfl, rfl⟩)
      | (go_at_call 61; refine (HD.out _).mono ?_; rintro e w1 ⟨rfl, hb1⟩; have p0 := cell_past (a := ⟨w.heap.size + 1, 0, none⟩) (v := .int .i64 (wrap64 (mulH (-n) y))) hb1 (by simp); have p1 := cell_past (a := ⟨w.heap.size + 1, 1, none⟩) (v := .int .u64 (uw (-n * y))) hb1 (by simp); have f0 := hb1.frozen (p := ⟨w.heap.size + 1, 0, none⟩) (by simp); have f1 := hb1.frozen (p := ⟨w.heap.size + 1, 1, none⟩) (by simp); have r0 := cell_past (a := ⟨w.heap.size, 0, none⟩) (v := .int .i64 0) hb1 (by simp); have r1 := cell_past (a := ⟨w.heap.size, 1, none⟩) (v := .int .u64 0) hb1 (by simp); have g0 := frozen_past (a := ⟨w.heap.size, 0, none⟩) (v := .int .i64 0) hb1 (by simp); have g1 := frozen_past (a := ⟨w.heap.size, 1, none⟩) (v := .int .u64 0) hb1 (by simp)))
    refine bodyPost_ret (v := .agg #[.int .i64 (thH n y), .int .u64 (thL n y)]) (by simp [results, Try.results52, go_sem, r0, r1]) rfl ⟨rfl, ?_⟩
    exact (((((((Below.refl _ _).alloc (Nat.le_refl _) _).alloc (by simp) _).trans (hb1.mono (by simp; omega))).setCell (by dsimp only; omega) _).setCell (by dsimp only; omega) _).setCell (by dsimp only; omega) _).setCell (by dsimp only; omega) _
  · have e1 : IntKind.u64.wrap n = n := by rw [IntKind.wrap_u64]; unfold I64 at hn; omega
    have hm : U64 n := by unfold I64 at hn; unfold U64; omega
    have HC : Hid (∀ w, Calls Try.prog 60 #[.int .u64 n, .int .u64 y] w fun e w' => e = .returned (.tuple #[.int .u64 (mulH n y), .int .u64 (uw (n * y))]) ∧ w' = w) := fun w => c_l01Mul _ _ hm hy w
    clear hn hy hm
    go_enter Try.func52, Try.ntmps52
    go_wp2_with (go_at_call 60; refine (HC.out _).mono ?_; rintro e w1 ⟨rfl, rfl⟩)
    exact bodyPost_ret (v := .agg #[.int .i64 (wrap64 (mulH n y)), .int .u64 (uw (n * y))]) (by simp [results, Try.results52, go_sem]) rfl ⟨ret_wide rfl rfl, ((Below.refl _ _).alloc (Nat.le_refl _) _).alloc (by simp) _⟩

end Go.Proofs.Ytimocbbaplghoaa
