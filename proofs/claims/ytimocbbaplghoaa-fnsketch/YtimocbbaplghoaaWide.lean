/-
  Contracts of the functions on wide numbers, of the program and of its model: what each returns; nothing that was there has turned.
-/
import Derived.Test.YtimocbbaplghoaaRows
import Derived.Test.YtimocbbaplghoaaBits
namespace Go.Proofs.Ytimocbbaplghoaa
open Go.ChangeShapes Go.WideShapes Go.ChangeAt Go.RowKit





theorem c_s_WideAdd (a b c d : Int) (w : World) (hb : U64 b) (hd : U64 d) :
    Calls Try.prog 51 #[.agg #[.int .i64 a, .int .u64 b], .agg #[.int .i64 c, .int .u64 d]] w fun e w' => e = .returned (.agg #[.int .i64 (addH a b c d), .int .u64 (addL b d)]) ∧ Below w.heap.size w w' := by
  have Hb : Hid (U64 b) := hb
  have Hd : Hid (U64 d) := hd
  clear hb hd
  go_enter Try.func51, Try.ntmps51
  go_wp2
  · refine bodyPost_ret (v := .agg #[.int .i64 (wrap64 (IntKind.u64.wrap (IntKind.u64.wrap (IntKind.u64.wrap a + IntKind.u64.wrap c) + 1))), .int .u64 (IntKind.u64.wrap (b + d))]) (by simp [results, Try.results51, go_sem]) rfl ⟨ret_wide ?_ ?_, (((Below.refl _ _).alloc (Nat.le_refl _) _).alloc (by simp) _).alloc (by simp; omega) _⟩
    · have hlt := ‹IntKind.u64.wrap (b + d) < b›
      have hb := Hb.out; have hd := Hd.out
      simp only [IntKind.wrap_u64] at hlt ⊢
      unfold U64 at hb hd; unfold addH addC wrap64; omega
    · rw [IntKind.wrap_u64]; rfl
  · refine bodyPost_ret (v := .agg #[.int .i64 (wrap64 (IntKind.u64.wrap (IntKind.u64.wrap a + IntKind.u64.wrap c))), .int .u64 (IntKind.u64.wrap (b + d))]) (by simp [results, Try.results51, go_sem]) rfl ⟨ret_wide ?_ ?_, (((Below.refl _ _).alloc (Nat.le_refl _) _).alloc (by simp) _).alloc (by simp; omega) _⟩
    · have hlt := ‹b ≤ IntKind.u64.wrap (b + d)›
      have hb := Hb.out; have hd := Hd.out
      simp only [IntKind.wrap_u64] at hlt ⊢
      unfold U64 at hb hd; unfold addH addC wrap64; omega
    · rw [IntKind.wrap_u64]; rfl

theorem c_i_WideAdd (a b c d : Int) (w : World) (hb : U64 b) (hd : U64 d) :
    Calls Try.prog 28 #[.agg #[.int .i64 a, .int .u64 b], .agg #[.int .i64 c, .int .u64 d]] w fun e w' => e = .returned (.agg #[.int .i64 (addH a b c d), .int .u64 (addL b d)]) ∧ Below w.heap.size w w' := by
  have a1 := uw_in a
  have a2 := uw_in c
  have ec : addC b d = addC b (d + 0) := by simp
  have hc : 0 ≤ addC b d ∧ addC b d ≤ 1 := by unfold U64 at hb hd; unfold addC; omega
  have k1 := fun w => c_Add64 b d 0 hb.1 hd.1 (by omega) (by omega) w
  have k2 := fun w => c_Add64 (uw a) (uw c) (addC b d) a1.1 a2.1 hc.1 hc.2 w
  have e1 : IntKind.u64.wrap a = uw a := IntKind.wrap_u64 a
  have e2 : IntKind.u64.wrap c = uw c := IntKind.wrap_u64 c
  have HF : Hid (wrap64 (uw (uw a + uw c + addC b d)) = addH a b c d ∧ uw (b + d) = addL b d) := ⟨by unfold addH wrap64 uw; omega, rfl⟩
  clear hb hd a1 a2 ec hc
  go_enter Try.func28, Try.ntmps28
  go_wp2
  exact bodyPost_ret (v := .agg #[.int .i64 (wrap64 (uw (uw a + uw c + addC b d))), .int .u64 (uw (b + d))]) (by simp [results, Try.results28, go_sem]) rfl ⟨ret_wide HF.out.1 HF.out.2, (((Below.refl _ _).alloc (Nat.le_refl _) _).alloc (by simp) _).alloc (by simp; omega) _⟩

end Go.Proofs.Ytimocbbaplghoaa
