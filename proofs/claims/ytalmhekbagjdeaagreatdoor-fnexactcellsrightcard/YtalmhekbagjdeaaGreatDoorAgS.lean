/-
  Contracts of AggSame, of the program and of its model.
-/
import Derived.Test.YtalmhekbagjdeaaGreatDoorAgC
import Derived.Test.YtalmhekbagjdeaaGreatDoorSameC
import Derived.Test.YtalmhekbagjdeaaGreatDoorHlS
namespace Go.Proofs.YtalmhekbagjdeaaGreatDoor
set_option linter.unusedVariables false
set_option linter.unusedSimpArgs false
open Go.ChangeShapes Go.WideShapes Go.ChangeAt Go.RowKit Go.PlainAid Go.Lib
set_option maxRecDepth 10000

set_option maxHeartbeats 1000000 in
theorem neq_wideA (a p b q : Int) (w : World) : (binOp .neq 61 (.agg #[.int .i64 a, .int .u64 p]) (.agg #[.int .i64 b, .int .u64 q])).run Tryz.prog w = .ok (.bool (!(a == b && p == q))) w := by
  have hS : Tryz.prog.underlying 61 = some (.struct (Tryz.prog.fieldsOf 61)) := by kernel_rfl
  have hp : Tryz.prog.stoodInHeld 61 = false := by kernel_rfl
  rw [run_neq_struct, show (10000 : Nat) = 9999 + 1 from rfl, run_equalIn_agg w 9999 61 _ _ hS hp]
  simp only [Program.fieldsOf, Tryz.underlying61]
  go_simp
  by_cases h1 : a = b <;> by_cases h2 : p = q <;> simp [h1, h2]

/-- Two Aggs are the same, field by field. -/
def sameA (g g' : Ag) : Bool := (g.k == g'.k) && (g.s == g'.s) && (g.h == g'.h && g.l == g'.l) && (g.a == g'.a) && (g.t == g'.t) && sameS g.z g.x g.y g.P g.N g'.z g'.x g'.y g'.P g'.N && sameH g.E g.R g'.E g'.R

set_option maxHeartbeats 4000000 in
theorem c_i_AggSame {w : World} {g g' : Ag} {p p' : Pl} (hs : AgSm g) (hs' : AgSm g') (hA : AgAt w g p) (hB : AgAt w g' p') :
    Calls Tryz.prog 81 #[.agg (agArr g p), .agg (agArr g' p')] w fun e w' => e = .returned (.bool (sameA g g')) ∧ Below w.heap.size w w' := by
  obtain ⟨k, s, h, l, a, t, z, P, N, x, y, E, R⟩ := g
  obtain ⟨k', s', h', l', a', t', z', P', N', x', y', E', R'⟩ := g'
  obtain ⟨pa, pc, na, nc, ea, ec, ra, rc⟩ := p
  obtain ⟨pa', pc', na', nc', ea', ec', ra', rc'⟩ := p'
  obtain ⟨gP, gN, gE, gR⟩ := hs
  obtain ⟨gP', gN', gE', gR'⟩ := hs'
  obtain ⟨aP, aN, aE, aR⟩ := hA
  obtain ⟨bP, bN, bE, bR⟩ := hB
  simp only at gP gN gE gR gP' gN' gE' gR' aP aN aE aR bP bN bE bR
  have HA := hide (And.intro (And.intro aP aN) (And.intro aE aR))
  have HB := hide (And.intro (And.intro bP bN) (And.intro bE bR))
  simp only [agArr]
  obtain ⟨pn, ep⟩ : ∃ n, P.length = n := ⟨_, rfl⟩
  obtain ⟨nn, en⟩ : ∃ n, N.length = n := ⟨_, rfl⟩
  obtain ⟨xn, ex⟩ : ∃ n, E.length = n := ⟨_, rfl⟩
  obtain ⟨rn, er⟩ : ∃ n, R.length = n := ⟨_, rfl⟩
  obtain ⟨pm, ep'⟩ : ∃ n, P'.length = n := ⟨_, rfl⟩
  obtain ⟨nm, en'⟩ : ∃ n, N'.length = n := ⟨_, rfl⟩
  obtain ⟨xm, ex'⟩ : ∃ n, E'.length = n := ⟨_, rfl⟩
  obtain ⟨rm, er'⟩ : ∃ n, R'.length = n := ⟨_, rfl⟩
  rw [ep] at gP; rw [en] at gN; rw [ex] at gE; rw [er] at gR
  rw [ep'] at gP'; rw [en'] at gN'; rw [ex'] at gE'; rw [er'] at gR'
  rw [ep, en, ex, er, ep', en', ex', er']
  have EP := hide ep
  have EN := hide en
  have EX := hide ex
  have ER := hide er
  have EP' := hide ep'
  have EN' := hide en'
  have EX' := hide ex'
  have ER' := hide er'
  clear ep en ex er ep' en' ex' er' aP aN aE aR bP bN bE bR
  have HW : Hid (∀ o1 o2, Below w.heap.size w ((w.alloc o1).alloc o2)) := fun o1 o2 => ((Below.refl _ _).alloc (Nat.le_refl _) _).alloc (by simp) _
  by_cases qk : k = k'
  rotate_left
  · have bk : (k == k') = false := beq_eq_false_iff_ne.2 qk
    have HE : Hid (false = sameA ⟨k, s, h, l, a, t, z, P, N, x, y, E, R⟩ ⟨k', s', h', l', a', t', z', P', N', x', y', E', R'⟩) := (by simp [sameA, qk] : false = sameA ⟨k, s, h, l, a, t, z, P, N, x, y, E, R⟩ ⟨k', s', h', l', a', t', z', P', N', x', y', E', R'⟩)
    go_enter Tryz.func81, Tryz.ntmps81
    go_wp2
    go_ret
    exact ⟨ret_bs HE.out, HW.out _ _⟩
  subst qk
  by_cases qs : s = s'
  rotate_left
  · have bs : (s == s') = false := beq_eq_false_iff_ne.2 qs
    have HE : Hid (false = sameA ⟨k, s, h, l, a, t, z, P, N, x, y, E, R⟩ ⟨k, s', h', l', a', t', z', P', N', x', y', E', R'⟩) := (by simp [sameA, qs] : false = sameA ⟨k, s, h, l, a, t, z, P, N, x, y, E, R⟩ ⟨k, s', h', l', a', t', z', P', N', x', y', E', R'⟩)
    go_enter Tryz.func81, Tryz.ntmps81
    go_wp2
    go_ret
    exact ⟨ret_bs HE.out, HW.out _ _⟩
  subst qs
  by_cases qw : h = h' ∧ l = l'
  rotate_left
  · have bw : (h == h' && l == l') = false := by rw [Bool.eq_false_iff]; intro hh; simp at hh; exact qw hh
    have hq := neq_wideA h l h' l'
    rw [bw] at hq
    clear qw
    have HE : Hid (false = sameA ⟨k, s, h, l, a, t, z, P, N, x, y, E, R⟩ ⟨k, s, h', l', a', t', z', P', N', x', y', E', R'⟩) := (by simp [sameA, bw] : false = sameA ⟨k, s, h, l, a, t, z, P, N, x, y, E, R⟩ ⟨k, s, h', l', a', t', z', P', N', x', y', E', R'⟩)
    go_enter Tryz.func81, Tryz.ntmps81
    go_wp2
    go_ret
    exact ⟨ret_bs HE.out, HW.out _ _⟩
  obtain ⟨qh, ql⟩ := qw
  subst qh
  subst ql
  have hq := neq_wideA h l h l
  rw [show (h == h && l == l) = true by simp] at hq
  by_cases qa : a = a'
  rotate_left
  · have ba : (a == a') = false := beq_eq_false_iff_ne.2 qa
    have HE : Hid (false = sameA ⟨k, s, h, l, a, t, z, P, N, x, y, E, R⟩ ⟨k, s, h, l, a', t', z', P', N', x', y', E', R'⟩) := (by simp [sameA, qa] : false = sameA ⟨k, s, h, l, a, t, z, P, N, x, y, E, R⟩ ⟨k, s, h, l, a', t', z', P', N', x', y', E', R'⟩)
    go_enter Tryz.func81, Tryz.ntmps81
    go_wp2
    go_ret
    exact ⟨ret_bs HE.out, HW.out _ _⟩
  subst qa
  by_cases qt : t = t'
  rotate_left
  · have bt : (t == t') = false := beq_eq_false_iff_ne.2 qt
    have HE : Hid (false = sameA ⟨k, s, h, l, a, t, z, P, N, x, y, E, R⟩ ⟨k, s, h, l, a, t', z', P', N', x', y', E', R'⟩) := (by simp [sameA, qt] : false = sameA ⟨k, s, h, l, a, t, z, P, N, x, y, E, R⟩ ⟨k, s, h, l, a, t', z', P', N', x', y', E', R'⟩)
    go_enter Tryz.func81, Tryz.ntmps81
    go_wp2
    go_ret
    exact ⟨ret_bs HE.out, HW.out _ _⟩
  subst qt
  have HS : Hid (sameA ⟨k, s, h, l, a, t, z, P, N, x, y, E, R⟩ ⟨k, s, h, l, a, t, z', P', N', x', y', E', R'⟩ = (sameS z x y P N z' x' y' P' N' && sameH E R E' R')) := (by simp [sameA] : sameA ⟨k, s, h, l, a, t, z, P, N, x, y, E, R⟩ ⟨k, s, h, l, a, t, z', P', N', x', y', E', R'⟩ = (sameS z x y P N z' x' y' P' N' && sameH E R E' R'))
  go_enter Tryz.func81, Tryz.ntmps81
  go_wp2_with fail
  refine (c_i_SketchSame EP.out EN.out EP'.out EN'.out gP gN gP' gN' (bins_past HA.out.1.1 (HW.out _ _)) (bins_past HA.out.1.2 (HW.out _ _)) (bins_past HB.out.1.1 (HW.out _ _)) (bins_past HB.out.1.2 (HW.out _ _))).mono ?_
  rintro e w1 ⟨rfl, hb1⟩
  have HT1 := hide ((HW.out _ _).trans (hb1.mono (by simp <;> omega)))
  obtain ⟨hc1, _⟩ := bcell hb1
  simp at hc1
  clear hb1
  cases hsk : sameS z x y P N z' x' y' P' N' with
  | false =>
    have HE : Hid (false = sameA ⟨k, s, h, l, a, t, z, P, N, x, y, E, R⟩ ⟨k, s, h, l, a, t, z', P', N', x', y', E', R'⟩) := by have := HS.out; rw [hsk, Bool.false_and] at this; exact this.symm
    go_wp2
    go_ret
    exact ⟨ret_bs HE.out, HT1.out⟩
  | true =>
    have HE : Hid (sameH E R E' R' = sameA ⟨k, s, h, l, a, t, z, P, N, x, y, E, R⟩ ⟨k, s, h, l, a, t, z', P', N', x', y', E', R'⟩) := by have := HS.out; rw [hsk, Bool.true_and] at this; exact this.symm
    go_wp2_with fail
    refine (c_i_HllSame EX.out ER.out EX'.out ER'.out gE gR gE' gR' (nums_past HA.out.2.1 HT1.out) (nums_past HA.out.2.2 HT1.out) (nums_past HB.out.2.1 HT1.out) (nums_past HB.out.2.2 HT1.out)).mono ?_
    rintro e w2 ⟨rfl, hb2⟩
    have HT2 := hide (chain HT1.out hb2)
    clear hb2
    go_wp2
    go_ret
    exact ⟨ret_bs HE.out, HT2.out⟩

end Go.Proofs.YtalmhekbagjdeaaGreatDoor
