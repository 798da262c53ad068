/-
  The contract of impl.ValueRead.
-/
import Derived.Test.YtljngkjhhkccgaaGreatDoorReadV
import Derived.Test.YtljngkjhhkccgaaGreatDoorCodeV
namespace Go.Proofs.YtljngkjhhkccgaaGreatDoor
set_option linter.unusedVariables false
set_option linter.unusedSimpArgs false
open Go.ChangeShapes Go.WideShapes Go.ChangeAt Go.RowKit Go.PlainAid

open Classical in
/-- What is told of a text: the value and the code. -/
noncomputable def rvV (s : ByteArray) : Int := if h : fitB s = true ∧ ∃ V, Parse s (fst1 s) V then (if negB s = true then -(Classical.choose h.2) else Classical.choose h.2) else 0
open Classical in
noncomputable def rvC (s : ByteArray) : Int := if fitB s = true then (if ∃ V, Parse s (fst1 s) V then 0 else 3) else 2

theorem rv_size {s : ByteArray} (h : fitB s = false) : rvV s = 0 ∧ rvC s = 2 := by
  unfold rvV rvC
  rw [dif_neg (by rw [h]; simp), if_neg (by rw [h]; simp)]
  exact ⟨rfl, rfl⟩
theorem rv_bad {s : ByteArray} (h : fitB s = true) (hp : ∀ V, ¬ Parse s (fst1 s) V) : rvV s = 0 ∧ rvC s = 3 := by
  have hn : ¬ ∃ V, Parse s (fst1 s) V := fun ⟨V, hV⟩ => hp V hV
  unfold rvV rvC
  rw [dif_neg (fun k => hn k.2), if_pos h, if_neg hn]
  exact ⟨rfl, rfl⟩
theorem rv_ok {s : ByteArray} {V : Int} (h : fitB s = true) (hp : Parse s (fst1 s) V) : rvV s = (if negB s = true then -V else V) ∧ rvC s = 0 := by
  have hn : ∃ V, Parse s (fst1 s) V := ⟨V, hp⟩
  have e : Classical.choose hn = V := parse_unique (Classical.choose_spec hn) hp
  unfold rvV rvC
  rw [dif_pos ⟨h, hn⟩, if_pos h, if_pos hn, e]
  exact ⟨rfl, rfl⟩

theorem c_readValueAll (s : ByteArray) (hs : s.size ≤ maxLen) (w : World) :
    Calls Tryz.prog 40 #[.string s] w fun e w' => e = .returned (.tuple #[.int .i64 (rvV s), errV (rvC s)]) ∧ w' = w := by
  cases hf : fitB s
  · rw [(rv_size hf).1, (rv_size hf).2]; exact c_readValue_size s hs hf w
  · refine (c_readValue s hs hf w).mono ?_
    rintro e w' ⟨⟨V, hV, rfl⟩ | ⟨hV, rfl⟩, rfl⟩
    · rw [(rv_ok hf hV).1, (rv_ok hf hV).2]; exact ⟨rfl, rfl⟩
    · rw [(rv_bad hf hV).1, (rv_bad hf hV).2]; exact ⟨rfl, rfl⟩

end Go.Proofs.YtljngkjhhkccgaaGreatDoor
