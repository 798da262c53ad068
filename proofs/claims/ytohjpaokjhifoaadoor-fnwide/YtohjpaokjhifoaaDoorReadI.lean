/-
  Contracts: impl.readWide and impl.WideRead: the wide number whose text it is, or the fault's code.
-/
import Derived.Test.YtohjpaokjhifoaaDoorDigitsC
import Derived.Test.YtohjpaokjhifoaaDoorCodeOf
import Derived.Test.YtohjpaokjhifoaaDoorNeg
import Derived.Test.YtohjpaokjhifoaaDoorWTextI
namespace Go.Proofs.YtohjpaokjhifoaaDoor
set_option linter.unusedVariables false
set_option linter.unusedSimpArgs false
open Go.ChangeShapes Go.WideShapes Go.ChangeAt Go.RowKit Go.PlainAid

/-- What the bytes behind the sign come to, with it. -/
def rdV (s : ByteArray) : Int := if negB s = true then -(valB (tailS s) (tailS s).size) else valB (tailS s) (tailS s).size
/-- Is it a wide number's text? -/
def rdB (s : ByteArray) : Bool := (strOfNums (wtxt (hiW (rdV s)) (loW (rdV s)))).toList == s.toList

theorem tailS_le (s : ByteArray) : (tailS s).size ≤ s.size := by
  unfold tailS; split
  · simp [ByteArray.size_extract]
  · exact Nat.le_refl _

theorem wb_new (w : World) : WB (w.alloc (.cells #[.int .i64 0, .int .u64 0] 32)) w.heap.size 0 := by
  unfold WB; rw [zero_hw.1, zero_hw.2]; exact heap_alloc_new w _

theorem c_readWide_size (s : ByteArray) (hs : s.size ≤ maxLen) (h : fitB s = false) (w : World) :
    Calls Tryd.prog 41 #[.string s] w fun e w' => e = .returned (.tuple #[.agg #[.int .i64 0, .int .u64 0], .iface 82 (.agg #[.int .i64 2])]) ∧ Below w.heap.size w w' := by
  go_enter Tryd.func41, Tryd.ntmps41
  go_wp2_with (go_at_call 51; refine (c_textFits _ hs _).mono ?_; rintro e w1 ⟨rfl, hw⟩; obtain rfl := hw.symm)
  exact bodyPost_ret (v := .tuple #[.agg #[.int .i64 0, .int .u64 0], .iface 82 (.agg #[.int .i64 2])]) (by simp [results, Tryd.results41, go_sem]) rfl ⟨rfl, (Below.refl _ _).alloc (Nat.le_refl _) _⟩

theorem wb_on {w : World} {G : Nat} {V : Int} (h : WB w G V) (o : Obj) : WB (w.alloc o) G V := wb_past h ((Below.refl _ _).alloc (Nat.le_refl _) _)
theorem wb_newV (w : World) (V : Int) : WB (w.alloc (.cells #[.int .i64 (hiW V), .int .u64 (loW V)] 32)) w.heap.size V := heap_alloc_new w _

set_option maxHeartbeats 2000000 in
theorem c_readWide_ok (s : ByteArray) (hs : s.size ≤ maxLen) (h : fitB s = true) (hr : rdB s = true) (w : World) :
    Calls Tryd.prog 41 #[.string s] w fun e w' => e = .returned (.tuple #[.agg #[.int .i64 (hiW (rdV s)), .int .u64 (loW (rdV s))], .nilIface]) ∧ Below w.heap.size w w' := by
  have ht : (tailS s).size ≤ maxLen := Nat.le_trans (tailS_le s) hs
  have HR0 := wb_new w
  unfold rdB at hr
  cases hn : negB s
  · have HV : Hid (rdV s = valB (tailS s) (tailS s).size) := (by unfold rdV; rw [hn]; rfl : rdV s = valB (tailS s) (tailS s).size)
    have HC : Hid (∀ w, Calls Tryd.prog 60 #[.string (tailS s)] w fun e w' => e = .returned (.agg #[.int .i64 (hiW (rdV s)), .int .u64 (loW (rdV s))]) ∧ Below w.heap.size w w') := by
      rw [HV.out]; exact fun w => c_wideOfDigits (tailS s) ht w
    clear ht
    go_enter Tryd.func41, Tryd.ntmps41
    go_wp2_with (first
      | (go_at_call 51; refine (c_textFits _ hs _).mono ?_; rintro e w1 ⟨rfl, hw⟩; obtain rfl := hw.symm)
      | (go_at_call 59; refine (c_CutPrefix _ hs _).mono ?_; rintro e w1 ⟨rfl, hw⟩; obtain rfl := hw.symm)
      | (go_at_call 60; refine (HC.out _).mono ?_; rintro e w1 ⟨rfl, hb1⟩; have HR1 := wb_past HR0 hb1; have hz1 := hb1.size; simp at hz1)
      | (go_at_call 15; refine (c_i_WideText _ _ (hiW_in _) (loW_in _) _).mono ?_; rintro e w2 ⟨rfl, hb2⟩; have HR3 := wb_past (wb_on HR1 _) hb2; have HS3 := wb_past (wb_newV w1 _) hb2; obtain ⟨p0, p1, q0, q1⟩ := wb_cells HS3; obtain ⟨r0, r1, u0, u1⟩ := wb_cells HR3))
    refine bodyPost_ret (v := .tuple #[.agg #[.int .i64 (hiW (rdV s)), .int .u64 (loW (rdV s))], .nilIface]) (by simp [results, Tryd.results41, go_sem, r0, r1]) rfl ⟨rfl, ?_⟩
    exact ((((((Below.refl _ _).alloc (Nat.le_refl _) _).trans (hb1.mono (by simp))).alloc (by omega) _).trans (hb2.mono (by simp; omega))).setCell (by dsimp only; omega) _).setCell (by dsimp only; omega) _
  · have HV : Hid (rdV s = -(valB (tailS s) (tailS s).size)) := (by unfold rdV; rw [hn]; rfl : rdV s = -(valB (tailS s) (tailS s).size))
    have HC : Hid (∀ w, Calls Tryd.prog 60 #[.string (tailS s)] w fun e w' => e = .returned (.agg #[.int .i64 (hiW (valB (tailS s) (tailS s).size)), .int .u64 (loW (valB (tailS s) (tailS s).size))]) ∧ Below w.heap.size w w') := fun w => c_wideOfDigits (tailS s) ht w
    have HM : Hid (∀ w, Calls Tryd.prog 39 #[.agg #[.int .i64 (hiW (valB (tailS s) (tailS s).size)), .int .u64 (loW (valB (tailS s) (tailS s).size))]] w fun e w' => e = .returned (.agg #[.int .i64 (hiW (rdV s)), .int .u64 (loW (rdV s))]) ∧ Below w.heap.size w w') := by
      rw [HV.out, ← (neg_hw _).1, ← (neg_hw _).2]; exact fun w => c_wideNegative _ _ (loW_in _) w
    clear ht
    go_enter Tryd.func41, Tryd.ntmps41
    go_wp2_with (first
      | (go_at_call 51; refine (c_textFits _ hs _).mono ?_; rintro e w1 ⟨rfl, hw⟩; obtain rfl := hw.symm)
      | (go_at_call 59; refine (c_CutPrefix _ hs _).mono ?_; rintro e w1 ⟨rfl, hw⟩; obtain rfl := hw.symm)
      | (go_at_call 60; refine (HC.out _).mono ?_; rintro e w1 ⟨rfl, hb1⟩; have HR1 := wb_past HR0 hb1; have hz1 := hb1.size; simp at hz1)
      | (go_at_call 39; refine (HM.out _).mono ?_; rintro e w2 ⟨rfl, hb2⟩; have HR2 := wb_past (wb_on HR1 _) hb2; have HS2 := wb_past (wb_newV w1 _) hb2; obtain ⟨x0, x1, y0, y1⟩ := wb_cells HS2; have hz2 := hb2.size; simp at hz2)
      | (go_at_call 15; refine (c_i_WideText _ _ (hiW_in _) (loW_in _) _).mono ?_; rintro e w3 ⟨rfl, hb3⟩; have HR3 := wb_past (wb_other HR2 (by omega)) hb3; have HS3 := wb_past (wb_set HS2) hb3; obtain ⟨p0, p1, q0, q1⟩ := wb_cells HS3; obtain ⟨r0, r1, u0, u1⟩ := wb_cells HR3))
    refine bodyPost_ret (v := .tuple #[.agg #[.int .i64 (hiW (rdV s)), .int .u64 (loW (rdV s))], .nilIface]) (by simp [results, Tryd.results41, go_sem, r0, r1]) rfl ⟨rfl, ?_⟩
    exact ((((((((Below.refl _ _).alloc (Nat.le_refl _) _).trans (hb1.mono (by simp))).alloc (by omega) _).trans (hb2.mono (by simp; omega))).setCell (by dsimp only; omega) _ |>.setCell (by dsimp only; omega) _).trans (hb3.mono (by simp; omega))).setCell (by dsimp only; omega) _).setCell (by dsimp only; omega) _

set_option maxHeartbeats 2000000 in
theorem c_readWide_bad (s : ByteArray) (hs : s.size ≤ maxLen) (h : fitB s = true) (hr : rdB s = false) (w : World) :
    Calls Tryd.prog 41 #[.string s] w fun e w' => e = .returned (.tuple #[.agg #[.int .i64 0, .int .u64 0], .iface 82 (.agg #[.int .i64 3])]) ∧ Below w.heap.size w w' := by
  have ht : (tailS s).size ≤ maxLen := Nat.le_trans (tailS_le s) hs
  have HR0 := wb_new w
  unfold rdB at hr
  cases hn : negB s
  · have HV : Hid (rdV s = valB (tailS s) (tailS s).size) := (by unfold rdV; rw [hn]; rfl : rdV s = valB (tailS s) (tailS s).size)
    have HC : Hid (∀ w, Calls Tryd.prog 60 #[.string (tailS s)] w fun e w' => e = .returned (.agg #[.int .i64 (hiW (rdV s)), .int .u64 (loW (rdV s))]) ∧ Below w.heap.size w w') := by
      rw [HV.out]; exact fun w => c_wideOfDigits (tailS s) ht w
    clear ht
    go_enter Tryd.func41, Tryd.ntmps41
    go_wp2_with (first
      | (go_at_call 51; refine (c_textFits _ hs _).mono ?_; rintro e w1 ⟨rfl, hw⟩; obtain rfl := hw.symm)
      | (go_at_call 59; refine (c_CutPrefix _ hs _).mono ?_; rintro e w1 ⟨rfl, hw⟩; obtain rfl := hw.symm)
      | (go_at_call 60; refine (HC.out _).mono ?_; rintro e w1 ⟨rfl, hb1⟩; have HR1 := wb_past HR0 hb1; have hz1 := hb1.size; simp at hz1)
      | (go_at_call 15; refine (c_i_WideText _ _ (hiW_in _) (loW_in _) _).mono ?_; rintro e w2 ⟨rfl, hb2⟩; have HR3 := wb_past (wb_on HR1 _) hb2; have HS3 := wb_past (wb_newV w1 _) hb2; obtain ⟨p0, p1, q0, q1⟩ := wb_cells HS3; obtain ⟨r0, r1, u0, u1⟩ := wb_cells HR3))
    refine bodyPost_ret (v := .tuple #[.agg #[.int .i64 0, .int .u64 0], .iface 82 (.agg #[.int .i64 3])]) (by simp [results, Tryd.results41, go_sem, r0, r1]) rfl ⟨rfl, ?_⟩
    exact ((((((Below.refl _ _).alloc (Nat.le_refl _) _).trans (hb1.mono (by simp))).alloc (by omega) _).trans (hb2.mono (by simp; omega))).setCell (by dsimp only; omega) _).setCell (by dsimp only; omega) _
  · have HV : Hid (rdV s = -(valB (tailS s) (tailS s).size)) := (by unfold rdV; rw [hn]; rfl : rdV s = -(valB (tailS s) (tailS s).size))
    have HC : Hid (∀ w, Calls Tryd.prog 60 #[.string (tailS s)] w fun e w' => e = .returned (.agg #[.int .i64 (hiW (valB (tailS s) (tailS s).size)), .int .u64 (loW (valB (tailS s) (tailS s).size))]) ∧ Below w.heap.size w w') := fun w => c_wideOfDigits (tailS s) ht w
    have HM : Hid (∀ w, Calls Tryd.prog 39 #[.agg #[.int .i64 (hiW (valB (tailS s) (tailS s).size)), .int .u64 (loW (valB (tailS s) (tailS s).size))]] w fun e w' => e = .returned (.agg #[.int .i64 (hiW (rdV s)), .int .u64 (loW (rdV s))]) ∧ Below w.heap.size w w') := by
      rw [HV.out, ← (neg_hw _).1, ← (neg_hw _).2]; exact fun w => c_wideNegative _ _ (loW_in _) w
    clear ht
    go_enter Tryd.func41, Tryd.ntmps41
    go_wp2_with (first
      | (go_at_call 51; refine (c_textFits _ hs _).mono ?_; rintro e w1 ⟨rfl, hw⟩; obtain rfl := hw.symm)
      | (go_at_call 59; refine (c_CutPrefix _ hs _).mono ?_; rintro e w1 ⟨rfl, hw⟩; obtain rfl := hw.symm)
      | (go_at_call 60; refine (HC.out _).mono ?_; rintro e w1 ⟨rfl, hb1⟩; have HR1 := wb_past HR0 hb1; have hz1 := hb1.size; simp at hz1)
      | (go_at_call 39; refine (HM.out _).mono ?_; rintro e w2 ⟨rfl, hb2⟩; have HR2 := wb_past (wb_on HR1 _) hb2; have HS2 := wb_past (wb_newV w1 _) hb2; obtain ⟨x0, x1, y0, y1⟩ := wb_cells HS2; have hz2 := hb2.size; simp at hz2)
      | (go_at_call 15; refine (c_i_WideText _ _ (hiW_in _) (loW_in _) _).mono ?_; rintro e w3 ⟨rfl, hb3⟩; have HR3 := wb_past (wb_other HR2 (by omega)) hb3; have HS3 := wb_past (wb_set HS2) hb3; obtain ⟨p0, p1, q0, q1⟩ := wb_cells HS3; obtain ⟨r0, r1, u0, u1⟩ := wb_cells HR3))
    refine bodyPost_ret (v := .tuple #[.agg #[.int .i64 0, .int .u64 0], .iface 82 (.agg #[.int .i64 3])]) (by simp [results, Tryd.results41, go_sem, r0, r1]) rfl ⟨rfl, ?_⟩
    exact ((((((((Below.refl _ _).alloc (Nat.le_refl _) _).trans (hb1.mono (by simp))).alloc (by omega) _).trans (hb2.mono (by simp; omega))).setCell (by dsimp only; omega) _ |>.setCell (by dsimp only; omega) _).trans (hb3.mono (by simp; omega))).setCell (by dsimp only; omega) _).setCell (by dsimp only; omega) _

end Go.Proofs.YtohjpaokjhifoaaDoor
