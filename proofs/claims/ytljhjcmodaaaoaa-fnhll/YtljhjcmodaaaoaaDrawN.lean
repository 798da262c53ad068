/-
  The code of a draw behind new blocks; its source at a place.
-/
import Derived.Test.YtljhjcmodaaaoaaDrawC
namespace Go.Proofs.Ytljhjcmodaaaoaa
set_option linter.unusedVariables false
set_option linter.unusedSimpArgs false
open Go.ChangeShapes Go.WideShapes Go.ChangeAt Go.RowKit Go.PlainAid

theorem codeAt_in {w w' : World} {ao : Option Addr} {ln K B : Nat} (h : CodeAt w K ao ln) (hb : Below K w w') (hw : K ≤ w.heap.size) (hK : K ≤ B) : CodeAt w' B ao ln := by
  refine ⟨h.1, fun h0 => ?_⟩
  obtain ⟨b, off, e, hlt, hc⟩ := h.2 h0
  exact ⟨b, off, e, by omega, fun i hi => by
    obtain ⟨x, hx, h1, h2⟩ := hc i hi
    refine ⟨x, ?_, h1, h2⟩
    rw [show w'.cell? ⟨b, off + i, none⟩ = w.cell? ⟨b, off + i, none⟩ from ?_]; exact hx
    unfold World.cell?
    rw [hb.block b hlt]⟩
theorem codeAt_on1 {w : World} {ao : Option Addr} {ln : Nat} (h : CodeAt w w.heap.size ao ln) (o : Obj) : CodeAt (w.alloc o) (w.heap.size + 1) ao ln := codeAt_in h ((Below.refl _ _).alloc (Nat.le_refl _) _) (Nat.le_refl _) (by omega)
theorem codeAt_on22 {w : World} {ao : Option Addr} {ln : Nat} (h : CodeAt w w.heap.size ao ln) (o o' : Obj) : CodeAt ((w.alloc o).alloc o') (w.heap.size + 2) ao ln := codeAt_in h (((Below.refl _ _).alloc (Nat.le_refl _) _).alloc (by simp) _) (Nat.le_refl _) (by omega)
theorem c_source_at (ao : Option Addr) (ln cap : Nat) (w : World) {K : Nat} (hK : w.heap.size = K) (hc : CodeAt w K ao ln) :
    Calls Try.prog 36 #[.slice ao ln cap] w fun e w' => e = .returned (.pointer (some ⟨K, 0, none⟩)) ∧ Src w K ao ln cap K w' := by
  subst hK; exact c_l01Source ao ln cap w hc
end Go.Proofs.Ytljhjcmodaaaoaa
