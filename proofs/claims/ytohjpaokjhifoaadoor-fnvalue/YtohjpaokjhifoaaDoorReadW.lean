/-
  The contract of impl.ValueRead.
-/
import Derived.Test.YtohjpaokjhifoaaDoorReadV
import Derived.Test.YtohjpaokjhifoaaDoorCodeV
namespace Go.Proofs.YtohjpaokjhifoaaDoor
set_option linter.unusedVariables false
set_option linter.unusedSimpArgs false
open Go.ChangeShapes Go.WideShapes Go.ChangeAt Go.RowKit Go.PlainAid

open Classical in
/-- What is told of a text: the value and the code. -/
noncomputable def rvV (s : ByteArray) : Int := if h : fitB s = true ∧ ∃ V, Parse s (fst1 s) V then (if negB s = true then -(Classical.choose h.2) else Classical.choose h.2) else 0
open Classical in
noncomputable def rvC (s : ByteArray) : Int := if fitB s = true then (if ∃ V, Parse s (fst1 s) V then 0 else 3) else 2

theorem rv_size {s : ByteArray} (h : fitB s = false) : rvV s = 0 ∧ rvC s = 2 := by
  unfold rvV rvC
  rw [dif_neg (by rw [h]; simp), if_neg (by rw [h]; simp)]
  exact ⟨rfl, rfl⟩
theorem rv_bad {s : ByteArray} (h : fitB s = true) (hp : ∀ V, ¬ Parse s (fst1 s) V) : rvV s = 0 ∧ rvC s = 3 := by
  have hn : ¬ ∃ V, Parse s (fst1 s) V := fun ⟨V, hV⟩ => hp V hV
  unfold rvV rvC
  rw [dif_neg (fun k => hn k.2), if_pos h, if_neg hn]
  exact ⟨rfl, rfl⟩
theorem rv_ok {s : ByteArray} {V : Int} (h : fitB s = true) (hp : Parse s (fst1 s) V) : rvV s = (if negB s = true then -V else V) ∧ rvC s = 0 := by
  have hn : ∃ V, Parse s (fst1 s) V := ⟨V, hp⟩
  have e : Classical.choose hn = V := parse_unique (Classical.choose_spec hn) hp
  unfold rvV rvC
  rw [dif_pos ⟨h, hn⟩, if_pos h, if_pos hn, e]
  exact ⟨rfl, rfl⟩

theorem c_readValueAll (s : ByteArray) (hs : s.size ≤ maxLen) (w : World) :
    Calls Tryd.prog 30 #[.string s] w fun e w' => e = .returned (.tuple #[.int .i64 (rvV s), errV (rvC s)]) ∧ w' = w := by
  cases hf : fitB s
  · rw [(rv_size hf).1, (rv_size hf).2]; exact c_readValue_size s hs hf w
  · refine (c_readValue s hs hf w).mono ?_
    rintro e w' ⟨⟨V, hV, rfl⟩ | ⟨hV, rfl⟩, rfl⟩
    · rw [(rv_ok hf hV).1, (rv_ok hf hV).2]; exact ⟨rfl, rfl⟩
    · rw [(rv_bad hf hV).1, (rv_bad hf hV).2]; exact ⟨rfl, rfl⟩

set_option maxHeartbeats 2000000 in
theorem c_i_ValueRead (s : ByteArray) (hs : s.size ≤ maxLen) (w : World) (hg : errT w) :
    Calls Tryd.prog 8 #[.string s] w fun e w' => e = .returned (.agg #[.int .i64 (rvV s), .int .i64 (rvC s)]) ∧ Below w.heap.size w w' := by
  have HC : Hid (∀ w, Calls Tryd.prog 30 #[.string s] w fun e w' => e = .returned (.tuple #[.int .i64 (rvV s), errV (rvC s)]) ∧ w' = w) := fun w => c_readValueAll s hs w
  have hg0 : ∀ o, errT (w.alloc o) := fun o => cell_on hg o
  go_enter Tryd.func8, Tryd.ntmps8
  go_wp2_with (first
    | (go_at_call 30; refine (HC.out _).mono ?_; rintro e w1 ⟨rfl, hw⟩; obtain rfl := hw.symm)
    | (go_at_call 31; refine (c_codeOf _ _ (hg0 _)).mono ?_; rintro e w2 ⟨rfl, hb2⟩; have s0 := cell_past (a := ⟨w.heap.size, 0, none⟩) (v := .int .i64 0) hb2 (by simp); have s1 := cell_past (a := ⟨w.heap.size, 1, none⟩) (v := .int .i64 0) hb2 (by simp); have t0 := hb2.frozen (p := ⟨w.heap.size, 0, none⟩) (by simp); have t1 := hb2.frozen (p := ⟨w.heap.size, 1, none⟩) (by simp); simp at t0 t1))
  exact bodyPost_ret (v := .agg #[.int .i64 (rvV s), .int .i64 (rvC s)]) (by simp [results, Tryd.results8, go_sem, s0, s1]) rfl ⟨rfl, ((((Below.refl _ _).alloc (Nat.le_refl _) _).trans (hb2.mono (by simp))).setCell (by simp) _).setCell (by simp) _⟩
end Go.Proofs.YtohjpaokjhifoaaDoor
