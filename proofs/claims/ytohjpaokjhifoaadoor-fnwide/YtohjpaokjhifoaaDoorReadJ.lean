/-
  The contract of impl.WideRead.
-/
import Derived.Test.YtohjpaokjhifoaaDoorReadI
import Derived.Test.YtohjpaokjhifoaaDoorCodeV
namespace Go.Proofs.YtohjpaokjhifoaaDoor
set_option linter.unusedVariables false
set_option linter.unusedSimpArgs false
open Go.ChangeShapes Go.WideShapes Go.ChangeAt Go.RowKit Go.PlainAid

/-- What is told of a text: the halves and the code. -/
def rdH (s : ByteArray) : Int := if fitB s && rdB s then hiW (rdV s) else 0
def rdL (s : ByteArray) : Int := if fitB s && rdB s then loW (rdV s) else 0
def rdC (s : ByteArray) : Int := if fitB s then (if rdB s then 0 else 3) else 2

theorem c_readWideAll (s : ByteArray) (hs : s.size ≤ maxLen) (w : World) :
    Calls Tryd.prog 41 #[.string s] w fun e w' => e = .returned (.tuple #[.agg #[.int .i64 (rdH s), .int .u64 (rdL s)], errV (rdC s)]) ∧ Below w.heap.size w w' := by
  unfold rdH rdL rdC
  cases hf : fitB s
  · exact c_readWide_size s hs hf w
  · cases hr : rdB s
    · exact c_readWide_bad s hs hf hr w
    · exact c_readWide_ok s hs hf hr w

set_option maxHeartbeats 2000000 in
theorem c_i_WideRead (s : ByteArray) (hs : s.size ≤ maxLen) (w : World) (hg : errT w) :
    Calls Tryd.prog 16 #[.string s] w fun e w' => e = .returned (.agg #[.int .i64 (rdH s), .int .u64 (rdL s), .int .i64 (rdC s)]) ∧ Below w.heap.size w w' := by
  have HC : Hid (∀ w, Calls Tryd.prog 41 #[.string s] w fun e w' => e = .returned (.tuple #[.agg #[.int .i64 (rdH s), .int .u64 (rdL s)], errV (rdC s)]) ∧ Below w.heap.size w w') := fun w => c_readWideAll s hs w
  have hg0 : ∀ o, errT (w.alloc o) := fun o => cell_on hg o
  go_enter Tryd.func16, Tryd.ntmps16
  go_wp2_with (go_at_call 41; refine (HC.out _).mono ?_; rintro e w1 ⟨rfl, hb1⟩; have hz1 := hb1.size; simp at hz1)
  have R0 : ∀ o, ((w1.alloc o).drew).cell? ⟨w.heap.size, 0, none⟩ = some (.int .i64 0) := fun o => cell_on (cell_past (a := ⟨w.heap.size, 0, none⟩) hb1 (by simp)) o
  have R1 : ∀ o, ((w1.alloc o).drew).cell? ⟨w.heap.size, 1, none⟩ = some (.int .u64 0) := fun o => cell_on (cell_past (a := ⟨w.heap.size, 1, none⟩) hb1 (by simp)) o
  have R2 : ∀ o, ((w1.alloc o).drew).cell? ⟨w.heap.size, 2, none⟩ = some (.int .i64 0) := fun o => cell_on (cell_past (a := ⟨w.heap.size, 2, none⟩) hb1 (by simp)) o
  have F : ∀ o j, ((w1.alloc o).drew).frozen? ⟨w.heap.size, j, none⟩ = false := fun o j => by
    have h1 := hb1.frozen (p := ⟨w.heap.size, j, none⟩) (by simp)
    have h2 : (w1.alloc o).frozen? ⟨w.heap.size, j, none⟩ = w1.frozen? ⟨w.heap.size, j, none⟩ := World.frozen?_alloc_old _ _ _ (by dsimp only; omega)
    show (w1.alloc o).frozen? ⟨w.heap.size, j, none⟩ = false
    rw [h2, h1]; simp
  have hE : ∀ o, errT ((w1.alloc o).drew) := fun o => cell_on (cell_past hb1 (hg0 _)) o
  have hB : ∀ o, Below w.heap.size w ((w1.alloc o).drew) := fun o => ((((Below.refl _ _).alloc (Nat.le_refl _) _).trans (hb1.mono (by simp))).alloc (by omega) _).drew
  have h00 : 0 < w.heap.size := World.block_lt_of_cell? w _ hg
  clear hg0 hg hb1
  go_region_held3 (fun w' => w'.cell? ⟨w1.heap.size, 0, none⟩ = some (.int .i64 (rdH s)) ∧ w'.cell? ⟨w1.heap.size, 1, none⟩ = some (.int .u64 (rdL s)) ∧ Below w.heap.size w w' ∧ errT w' ∧ w1.heap.size < w'.heap.size)
    (first | exact hS2 | exact ⟨by simp, by simp, hB _, hE _, by simp⟩ | exact ⟨cell_far3 hS2.1 (by dsimp only; omega), cell_far3 hS2.2.1 (by dsimp only; omega), ((hS2.2.2.1.setCell (by dsimp only; omega) _).setCell (by dsimp only; omega) _).setCell (by dsimp only; omega) _, cell_far3 hS2.2.2.2.1 (by dsimp only; omega), by simp; omega⟩)
    (first
      | (go_at_call 31; have hS1 := ‹_ ∧ _ ∧ Below _ _ _ ∧ errT _ ∧ _›; refine (c_codeOf _ _ hS1.2.2.2.1).mono ?_; rintro e w2 ⟨rfl, hb2⟩; have s0 := cell_past hb2 (R0 _); have s1 := cell_past hb2 (R1 _); have s2 := cell_past hb2 (R2 _); have t0 := (frozen_past hb2 (R0 _)).trans (F _ 0); have t1 := (frozen_past hb2 (R1 _)).trans (F _ 1); have t2 := (frozen_past hb2 (R2 _)).trans (F _ 2); have hS2 : w2.cell? ⟨w1.heap.size, 0, none⟩ = some (.int .i64 (rdH s)) ∧ w2.cell? ⟨w1.heap.size, 1, none⟩ = some (.int .u64 (rdL s)) ∧ Below w.heap.size w w2 ∧ errT w2 ∧ w1.heap.size < w2.heap.size := ⟨cell_past hb2 hS1.1, cell_past hb2 hS1.2.1, hS1.2.2.1.trans (hb2.mono hS1.2.2.1.size), cell_past hb2 hS1.2.2.2.1, Nat.lt_of_lt_of_le hS1.2.2.2.2 hb2.size⟩))
  go_wp2
  exact bodyPost_ret (v := .agg #[.int .i64 (rdH s), .int .u64 (rdL s), .int .i64 (rdC s)]) (by simp [results, Tryd.results16, go_sem, s0, s1, s2]) rfl ⟨rfl, ((hS2.2.2.1.setCell (by dsimp only; omega) _).setCell (by dsimp only; omega) _).setCell (by dsimp only; omega) _⟩
end Go.Proofs.YtohjpaokjhifoaaDoor
