/-
  Contracts of the products: math/bits.Mul64, its model l01Mul, the negative of a wide number, WideTimes of both sides.
-/
import Derived.Test.YtiljachdemadhafDoorWide
import Derived.Test.YtiljachdemadhafDoorKeep
import Derived.Test.YtiljachdemadhafDoorMathT
namespace Go.Proofs.YtiljachdemadhafDoor
open Go.ChangeShapes Go.WideShapes Go.ChangeAt Go.RowKit

theorem ret_pair {a b c d : Int} (h : a = c) (k : b = d) : Ending.returned (.tuple #[.int .u64 a, .int .u64 b]) = .returned (.tuple #[.int .u64 c, .int .u64 d]) := by rw [h, k]

set_option maxHeartbeats 1000000 in
theorem c_Mul64 (x y : Int) (hx : U64 x) (hy : U64 y) (w : World) :
    Calls Tryd.prog 34 #[.int .u64 x, .int .u64 y] w fun e w' => e = .returned (.tuple #[.int .u64 (mulH x y), .int .u64 (uw (x * y))]) ∧ w' = w := by
  have HF : Hid (_ = _) := mul_form x y hx hy
  have HG : Hid (IntKind.u64.wrap (x * y) = uw (x * y)) := IntKind.wrap_u64 _
  clear hx hy
  go_enter Tryd.func34, Tryd.ntmps34
  go_wp2
  go_ret2
  exact ⟨ret_pair HF.out HG.out, rfl⟩

set_option maxHeartbeats 1000000 in
theorem c_l01Mul (x y : Int) (hx : U64 x) (hy : U64 y) (w : World) :
    Calls Tryd.prog 7 #[.int .u64 x, .int .u64 y] w fun e w' => e = .returned (.tuple #[.int .u64 (mulH x y), .int .u64 (uw (x * y))]) ∧ w' = w := by
  have HF : Hid (_ = _) := mul_form' x y hx hy
  have HG : Hid (IntKind.u64.wrap (x * y) = uw (x * y)) := IntKind.wrap_u64 _
  clear hx hy
  go_enter Tryd.func7, Tryd.ntmps7
  go_wp2
  go_ret2
  exact ⟨ret_pair HF.out HG.out, rfl⟩

theorem c_l01Minus (a b : Int) (ha : I64 a) (hb : U64 b) (w : World) :
    Calls Tryd.prog 9 #[.agg #[.int .i64 a, .int .u64 b]] w fun e w' => e = .returned (.agg #[.int .i64 (negH a b), .int .u64 (negL b)]) ∧ Below w.heap.size w w' := by
  have HN := neg_add a b hb
  have hb' : U64 (18446744073709551615 - b) := by unfold U64 at *; omega
  have e1 := not_i64 a ha
  have e2 := not_u64 b hb
  have h1 : U64 1 := by unfold U64; omega
  have HC : ∀ w, Calls Tryd.prog 8 #[.agg #[.int .i64 (bits .xor .i64 (-1) a), .int .u64 (bits .xor .u64 IntKind.u64.max b)], .agg #[.int .i64 0, .int .u64 1]] w fun e w' => e = .returned (.agg #[.int .i64 (negH a b), .int .u64 (negL b)]) ∧ Below w.heap.size w w' := by
    intro w
    rw [e1, e2, ← HN.1, ← HN.2]
    exact c_s_WideAdd _ _ _ _ w hb' h1
  clear HN e1 e2 ha hb hb' h1
  go_enter Tryd.func9, Tryd.ntmps9
  go_wp2_with (go_at_call 8; refine (HC _).mono ?_; rintro e w1 ⟨rfl, hb1⟩; have p0 := cell_past (a := ⟨w.heap.size + 1, 0, none⟩) (v := .int .i64 0) hb1 (by simp); have p1 := cell_past (a := ⟨w.heap.size + 1, 1, none⟩) (v := .int .u64 0) hb1 (by simp); have f0 := hb1.frozen (p := ⟨w.heap.size + 1, 0, none⟩) (by simp); have f1 := hb1.frozen (p := ⟨w.heap.size + 1, 1, none⟩) (by simp))
  refine bodyPost_ret (v := .agg #[.int .i64 (negH a b), .int .u64 (negL b)]) (by simp [results, Tryd.results9, go_sem, p0, p1]) rfl ⟨rfl, ?_⟩
  exact (((((Below.refl _ _).alloc (Nat.le_refl _) _).alloc (by simp) _).trans (hb1.mono (by simp; omega))).setCell (by dsimp only; omega) _).setCell (by dsimp only; omega) _



end Go.Proofs.YtiljachdemadhafDoor
