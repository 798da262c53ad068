/-
  layHashes of the program.
-/
import Derived.Test.YtljhjcmodaaaoaaHlW
namespace Go.Proofs.Ytljhjcmodaaaoaa
set_option linter.unusedVariables false
set_option linter.unusedSimpArgs false
open Go.ChangeShapes Go.WideShapes Go.ChangeAt Go.RowKit Go.PlainAid Go.Maps
set_option maxRecDepth 10000

theorem U64_of_wf {x : Int} (h : (Lit.int .u64 x).wf = true) : U64 x := by
  unfold U64
  simp [Lit.wf, IntKind.signed, IntKind.bits, IntKind.min, IntKind.max] at h; omega
theorem grownBy_setC (W : World) (b k : Nat) (v : Value) : W.grownBy (W.setCell ⟨b, k, none⟩ v) (some b) :=
  ⟨rfl, rfl, rfl, (KeepsWalks.setCell W _ v).size, fun i _ hk => Below.heap_setCell _ _ _ i (fun e => hk (by rw [e]))⟩
/-- Between two rounds. -/
def LayI (w : World) (B g b : Nat) (L R : List Int) (wr : World) : Prop :=
  ∃ (D : DataW Unit) (left : Lit → Bool) (cnt n : Nat) (R' : List Int), wr.ranges Try.prog 34 (plainElem Try.prog 2) b w.heap.size n D left cnt ∧ RowI wr B g R' ∧ Laid R (fun x => x ∈ L ∧ left (.int .u64 x) = false) R' ∧ (∀ x, left (.int .u64 x) = true → x ∈ L ∧ ∀ z, D.atKey (.int .u64 x) z = .lit (.int .i64 (rho x))) ∧ Below B w wr
theorem left_step {L : List Int} {left : Lit → Bool} {y : Int} (hy : y ∈ L) (hl : left (.int .u64 y) = true) (x : Int) : (x ∈ L ∧ (left (.int .u64 x) && !(Lit.int .u64 x).sameKey (.int .u64 y)) = false) ↔ (x ∈ L ∧ left (.int .u64 x) = false) ∨ x = y := by
  by_cases e : x = y
  · subst e; simp [hy, Lit.sameKey]
  · simp [e, Lit.sameKey]
set_option maxHeartbeats 2000000 in
theorem c_layHashes {w : World} {B g b n : Nat} {L R : List Int} (hR : RowI w B g R) (hM : MpU w b n L) (hb : B ≤ b) (hgb : g ≠ b) :
    Calls Try.prog 54 #[.slice (some ⟨g, 0, none⟩) 64 64, .map (some b)] w fun e w' => (∃ r, e = .returned r) ∧ ∃ R', Laid R (· ∈ L) R' ∧ RowI w' B g R' ∧ Below B w w' := by
  obtain ⟨hp, D, hown, h1, h2, h3⟩ := hM
  have hg := hR.lt
  have hB : B ≤ w.heap.size := by omega
  have HG := hide hg
  have H0 : Hid (∀ w0 : World, w0.ranges Try.prog 34 (plainElem Try.prog 2) b w.heap.size n D (Maps.has D) (Maps.size D) → w.grownBy w0 none → LayI w B g b L R w0) := fun w0 q1 q2 =>
    ⟨D, _, _, n, R, q1, hR.grown q2 (by simp), Laid.start R (fun x => by rintro ⟨k1, k2⟩; rw [(h1 x).2 k1] at k2; cases k2), fun x hx => ⟨(h1 x).1 hx, h3 x ((h1 x).1 hx)⟩, (Below.refl B w).grown q2 hB (fun j hj => by cases hj)⟩
  have HD := hide hown
  clear hp h1 h2 h3 hown hR hg
  go_enter Try.func54, Try.ntmps54
  go_wp2_with (at_range; refine wpList_range_own _ rfl _ 61 rfl 34 2 keyU Try.underlying61 _ b n _ rfl HD.out ?_; intro w0 hrg0 hg0 hs0; have HI := hide (H0.out w0 hrg0 hg0); clear hrg0 hg0 hs0)
  go_frame
  go_loopw [4] (fun _ wr => Hid (LayI w B g b L R wr)) (fun _ wr => wr.rangeLeft b w.heap.size)
  case atStart => exact HI
  case round =>
    clear HI H0 HD
    obtain ⟨D, left, cnt, n, R', hrg, hRow, hLd, hlf, hbel⟩ := hrel.out
    have HRg := hide hrg
    have HRo := hide hRow
    have HLd := hide hLd
    have HLf := hide hlf
    have HBl := hide hbel
    clear hrel hrg hRow hLd hlf hbel
    go_wp2_with (at_next; refine wpList_next_ranges_ii _ rfl _ rfl 34 2 .u64 .i64 keyU Try.underlying34 Try.underlying2 b w.heap.size n _ _ _ rfl HRg.out ?_ ?_)
    · intro hc0 hl0
      have HL : Hid (Laid R (· ∈ L) R') := by
        have := HLd.out
        simp only [hl0, and_true] at this
        exact this
      clear hc0 hl0
      go_wp2
      go_end0
      exact ⟨⟨_, rfl⟩, R', HL.out, HRo.out, HBl.out⟩
    · intro x c w2 cnt2 hwx hwc hlx hat hrg2 hlt hg2 hs2 hen
      obtain ⟨hxL, hxr⟩ := HLf.out x hlx
      obtain rfl : c = rho x := by
        have := (hat .nil).symm.trans (hxr .nil)
        injection this with q; injection q
      have hux := U64_of_wf hwx
      have hrl := reg_lt hux
      obtain ⟨v, hv⟩ : ∃ v, v = R'.getD (reg x) 0 := ⟨_, rfl⟩
      have hne : g ≠ w.heap.size := by have := HG.out; omega
      have ho2 := HRo.out.grown hg2 (by simpa using hne)
      have hcell : w2.cell? ⟨g, (x / 288230376151711744).toNat, none⟩ = some (.int .i64 v) := ho2.cell hrl hv
      have hfz : w2.frozen? ⟨g, (x / 288230376151711744).toNat, none⟩ = false := ho2.froz (reg x)
      have HRo2 := hide ho2
      have HRg2 := hide hrg2
      have HS := hide (left_step hxL hlx)
      have HLt := hide hlt
      have HG2 := hide hg2
      have HWx := hide hwx
      clear hwx hwc hlx hat hrg2 hlt hg2 hs2 hxL hxr ho2
      have HV := hide hv
      have q0 : 0 ≤ x / 288230376151711744 := by unfold U64 at hux; omega
      have q1 : x / 288230376151711744 < 64 := by unfold U64 at hux; omega
      obtain ⟨ws, hws⟩ : ∃ ws : World, ws = w2.setCell ⟨g, (x / 288230376151711744).toNat, none⟩ (.int .i64 (max v (rho x))) := ⟨_, rfl⟩
      have hgs : w2.grownBy ws (some g) := by rw [hws]; exact grownBy_setC _ _ _ _
      have HRgs : Hid (ws.ranges Try.prog 34 (plainElem Try.prog 2) b w.heap.size n D (fun z => left z && !z.sameKey (.int .u64 x)) cnt2) := HRg2.out.kept hgs (by simpa using Ne.symm hgb) (by simpa using Ne.symm hne)
      have HRos : Hid (RowI ws B g (lay R' x)) := by
        have := HRo2.out.set (reg x) (max v (rho x))
        rw [hws]; unfold lay; rw [← hv]; exact this
      have HBls : Hid (Below B w ws) := (HBl.out.grown HG2.out (Nat.le_trans hB HBl.out.size) (fun j hj => by cases hj; exact hB)).grown hgs (Nat.le_trans hB (Nat.le_trans HBl.out.size HG2.out.size)) (fun j hj => by cases hj; exact HG.out.1)
      clear hv hux hrl HRg2 HRo2 HG2
      go_wp2_with (refine wpList_delete_ranges _ rfl _ _ 61 34 rfl 2 keyU Try.underlying61 _ b w.heap.size n _ _ _ rfl (by rw [← hws]; exact HRgs.out) _ _ rfl (keyOf_int_mk Try.underlying34 HWx.out) ?_; intro w3 cnt3 hrg3 hle3 htn3; rw [← hws] at htn3; go_frame)
      have hL2 : LayI w B g b L R w3 := by
        refine ⟨_, _, cnt3, n, lay R' x, hrg3, HRos.out.grown htn3.grown (by simpa using hgb), HLd.out.step (y := x) (fun z => ?_), fun z hz => ?_, HBls.out.grown htn3.grown (Nat.le_trans hB HBls.out.size) (fun j hj => by cases hj; exact hb)⟩
        · have := HS.out z
          simp only [Bool.and_assoc, Bool.and_self]
          exact this
        · have hzx : z ≠ x := by intro e; subst e; simp [Lit.sameKey] at hz
          have hz2 : left (.int .u64 z) = true := by
            simp only [Bool.and_eq_true] at hz; exact hz.1.1
          obtain ⟨k1, k2⟩ := HLf.out z hz2
          exact ⟨k1, fun zz => by rw [atKey_del_other (by intro e; injection e with _ e; exact hzx e)]; exact k2 zz⟩
      have hms : w3.rangeLeft b w.heap.size < wr.rangeLeft b w.heap.size := by
        rw [hrg3.left_eq, HRg.out.left_eq]; have := HLt.out; omega
      have HL2 := hide hL2
      clear hrg3 hle3 htn3 hL2
      go_roundw
      case rel => exact HL2
      case measure => exact hms
end Go.Proofs.Ytljhjcmodaaaoaa
