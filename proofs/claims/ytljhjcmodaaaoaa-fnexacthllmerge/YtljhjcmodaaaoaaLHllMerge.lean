/-
  The law FnExactHllMerge: at every two sketches of how many the program brings them together as the model does, every field; it writes into no argument; its answer owns its memory. No condition.
-/
import Derived.Test.YtljhjcmodaaaoaaHmI
import Derived.Test.YtljhjcmodaaaoaaHlQ
import Derived.Test.YtljhjcmodaaaoaaMarkH
import Derived.Test.YtljhjcmodaaaoaaKeepT
import Derived.Test.YtljhjcmodaaaoaaOpenH
import Derived.Lib.SmallJoins
import Derived.Carry
import Derived.Deep.RegionHeld3
import Derived.Deep.DeepCutAuto
import Derived.ShutString
import Derived.ChangeOld
namespace Go.Proofs.Ytljhjcmodaaaoaa
set_option linter.unusedVariables false
set_option linter.unusedSimpArgs false
open Go.ChangeMaps (open_string shut_string)
open Go.ChangeShapes Go.WideShapes Go.ChangeAt Go.RowKit Go.Joins
set_option maxRecDepth 10000

theorem OwnN.of {kd : IntKind} {T : TypeId} {w : World} {B n : Nat} {v : Value} {L : List Int} (h : w.ownsRow B T 1 v n (L.map (Value.int kd))) (hn : L.length = n) : OwnN kd T w B v n L := ⟨hn.symm, h⟩
theorem HlOut.open {w : World} {B pm nm : Nat} {v : Value} {E R : List Int} (h : HlOut w B v E R) (hp : E.length = pm) (hn : R.length = nm) :
    ∃ ao c bo d, v = .agg #[.slice ao pm c, .slice bo nm d] ∧ OwnN .u64 34 w B (.slice ao pm c) pm E ∧ OwnN .i64 2 w B (.slice bo nm d) nm R := by
  obtain ⟨p, n, rfl, h1, h2⟩ := h
  subst hp
  subst hn
  obtain ⟨ao, c, rfl⟩ := own_any h1
  obtain ⟨bo, d, rfl⟩ := own_any h2
  exact ⟨ao, c, bo, d, rfl, ⟨rfl, h1⟩, ⟨rfl, h2⟩⟩
theorem hl_kept2 {w w' : World} {g : Nat} {p n : Value} {r s : Option Nat} (k : HlCell w g p n) (hg : Grown2 w w' r s) (h1 : r ≠ some g) (h2 : s ≠ some g) : HlCell w' g p n := by
  have hb : ∀ j, w'.cell? ⟨g, j, none⟩ = w.cell? ⟨g, j, none⟩ := fun j => World.cell?_of_block (w := w) (hg.block g (World.block_lt_of_cell? _ _ k.1) (fun e => h1 e.symm) (fun e => h2 e.symm))
  exact ⟨by rw [hb]; exact k.1, by rw [hb]; exact k.2⟩
theorem laid_ex {R : List Int} : ∀ (L : List Int) (S : Int → Prop) (R' : List Int), Laid R S R' → ∃ R'', Laid R (fun x => S x ∨ x ∈ L) R''
  | [], S, R', h => ⟨R', h.iff fun x => by simp⟩
  | y :: L, S, R', h => by
    obtain ⟨R'', k⟩ := laid_ex L (fun x => S x ∨ x = y) _ (h.step (fun x => Iff.rfl))
    exact ⟨R'', k.iff fun x => by simp [or_assoc]⟩
theorem mrg_ex (E1 R1 E2 R2 : List Int) : ∃ E R, MrgH E1 R1 E2 R2 E R ∧ E.length ≤ 1048576 ∧ R.length ≤ 1048576 := by
  by_cases hb : hlB E1 R1 = true ∧ hlB E2 R2 = true
  · have mk : ∀ E R, Mg E1 R1 E2 R2 E R → MrgH E1 R1 E2 R2 E R := fun E R h => by unfold MrgH; rw [if_pos hb]; exact h
    by_cases q : R1.length = 0 ∧ R2.length = 0 ∧ (allU E1 E2).length ≤ 40
    · exact ⟨_, _, mk _ _ (.inl ⟨q.1, q.2.1, q.2.2, rfl, rfl⟩), by omega, by simp⟩
    · obtain ⟨R, k⟩ := laid_ex (R := mxL (padR R1) R2 R2.length) (allU E1 E2) (fun _ => False) _ (Laid.start _ fun _ x => x)
      refine ⟨[], R, mk _ _ (.inr ⟨q, rfl, k.iff fun x => by simp⟩), by simp, ?_⟩
      rw [k.1, mxL_len, padR_len (hlB_len hb.1).2]; omega
  · refine ⟨[], [], ?_, by simp, by simp⟩
    unfold MrgH
    rw [if_neg hb]; exact ⟨rfl, rfl⟩
section
variable {w : World} {ga ha gb hb : Nat} {n1 c1 m1 d1 n2 c2 m2 d2 : Nat} {E1 R1 E2 R2 E R : List Int}
theorem c_s_MrgF (fx : MrgH E1 R1 E2 R2 E R) (h1 : E1.length = n1) (h2 : R1.length = m1) (h3 : E2.length = n2) (h4 : R2.length = m2) (l1 : n1 ≤ 1048576) (l2 : m1 ≤ 1048576) (l3 : n2 ≤ 1048576) (l4 : m2 ≤ 1048576)
    (hE1 : NumsAt .u64 w (some ⟨ga, 0, none⟩) E1) (hR1 : NumsAt .i64 w (some ⟨ha, 0, none⟩) R1) (hE2 : NumsAt .u64 w (some ⟨gb, 0, none⟩) E2) (hR2 : NumsAt .i64 w (some ⟨hb, 0, none⟩) R2) (u1 : ∀ x ∈ E1, U64 x) (k1 : ∀ x ∈ R1, I64 x) (u2 : ∀ x ∈ E2, U64 x) (k2 : ∀ x ∈ R2, I64 x) :
    Calls Try.prog 7 #[.agg #[.slice (some ⟨ga, 0, none⟩) n1 c1, .slice (some ⟨ha, 0, none⟩) m1 d1], .agg #[.slice (some ⟨gb, 0, none⟩) n2 c2, .slice (some ⟨hb, 0, none⟩) m2 d2]] w fun e w' => ∃ v, e = .returned v ∧ Below w.heap.size w w' ∧ HlOut w' w.heap.size v E R := by
  refine (c_s_HllMerge h1 h2 h3 h4 l1 l2 l3 l4 hE1 hR1 hE2 hR2 u1 u2 k1 k2 (fun e => by cases e)).mono ?_
  rintro e w' ⟨v, E', R', rfl, hM, ho, hb⟩
  obtain ⟨rfl, rfl⟩ := hM.one fx
  exact ⟨v, rfl, hb, ho⟩
theorem c_i_MrgF (fx : MrgH E1 R1 E2 R2 E R) (h1 : E1.length = n1) (h2 : R1.length = m1) (h3 : E2.length = n2) (h4 : R2.length = m2) (l1 : n1 ≤ 1048576) (l2 : m1 ≤ 1048576) (l3 : n2 ≤ 1048576) (l4 : m2 ≤ 1048576)
    (hE1 : NumsAt .u64 w (some ⟨ga, 0, none⟩) E1) (hR1 : NumsAt .i64 w (some ⟨ha, 0, none⟩) R1) (hE2 : NumsAt .u64 w (some ⟨gb, 0, none⟩) E2) (hR2 : NumsAt .i64 w (some ⟨hb, 0, none⟩) R2) (u1 : ∀ x ∈ E1, U64 x) (k1 : ∀ x ∈ R1, I64 x) (u2 : ∀ x ∈ E2, U64 x) (k2 : ∀ x ∈ R2, I64 x) :
    Calls Try.prog 9 #[.agg #[.slice (some ⟨ga, 0, none⟩) n1 c1, .slice (some ⟨ha, 0, none⟩) m1 d1], .agg #[.slice (some ⟨gb, 0, none⟩) n2 c2, .slice (some ⟨hb, 0, none⟩) m2 d2]] w fun e w' => ∃ v, e = .returned v ∧ Below w.heap.size w w' ∧ HlOut w' w.heap.size v E R := by
  refine (c_i_HllMerge h1 h2 h3 h4 l1 l2 l3 l4 hE1 hR1 hE2 hR2 u1 u2).mono ?_
  rintro e w' ⟨v, E', R', rfl, hM, ho, hb⟩
  obtain ⟨rfl, rfl⟩ := hM.one fx
  exact ⟨v, rfl, hb, ho⟩
end
abbrev zeroHl : Array Value := #[.slice none 0 0, .slice none 0 0]
theorem rowH2 {w : World} {r : Nat} {T : TypeId} {u0 u1 v0 v1 : Value} (h : w.heap[r]? = some (.cells #[u0, u1] T (0, 0))) :
    ((w.setCell ⟨r, 0, none⟩ v0).setCell ⟨r, 1, none⟩ v1).heap[r]? = some (.cells #[v0, v1] T (0, 0)) :=
  heap_setCell_same _ r 1 _ _ v1 (heap_setCell_same w r 0 _ _ v0 h)
theorem cellH2 {w : World} {r : Nat} {T : TypeId} {u0 u1 : Value} (h : w.heap[r]? = some (.cells #[u0, u1] T (0, 0))) :
    w.cell? ⟨r, 0, none⟩ = some u0 ∧ w.cell? ⟨r, 1, none⟩ = some u1 :=
  ⟨by rw [cell_of_row _ _ 0 _ _ (0, 0) h]; rfl, by rw [cell_of_row _ _ 1 _ _ (0, 0) h]; rfl⟩
theorem belH2 {B r : Nat} {w0 w : World} {v0 v1 : Value} (hr : B ≤ r) (h : Below B w0 w) : Below B w0 ((w.setCell ⟨r, 0, none⟩ v0).setCell ⟨r, 1, none⟩ v1) := by
  repeat (refine Below.setCell ?_ hr _)
  exact h
theorem OwnN.ne {kd : IntKind} {T U : TypeId} {w : World} {B n r : Nat} {v : Value} {L : List Int} {cs : Array Value} (h : OwnN kd T w B v n L) (hr : w.heap[r]? = some (.cells cs U (0, 0))) (hT : T ≠ U) : ∀ k, v.ownBlock = some k → k ≠ r := fun k hk e => by
  subst e
  rcases h.2.2 with ⟨e, _⟩ | ⟨g, cap, cur, e, _, h2, _⟩
  · rw [e] at hk; cases hk
  · rw [e] at hk
    obtain rfl : g = k := Option.some.inj hk
    rw [h2] at hr
    cases hr
    exact hT rfl
theorem OwnN.set {kd : IntKind} {T : TypeId} {w : World} {B n r j : Nat} {v : Value} {L : List Int} (h : OwnN kd T w B v n L) (hn : ∀ k, v.ownBlock = some k → k ≠ r) (u : Value) : OwnN kd T (w.setCell ⟨r, j, none⟩ u) B v n L := by
  refine ⟨h.1, h.2.1, ?_⟩
  rcases h.2.2 with h2 | ⟨g, cap, cur, e, h1, h2, h3⟩
  · exact .inl h2
  · refine .inr ⟨g, cap, cur, e, h1, ?_, h3⟩
    rw [heap_setCell_other _ _ _ _ (by have := hn g (by rw [e]; rfl); simpa using this)]; exact h2

set_option maxHeartbeats 4000000 in
theorem walkHllMerge (pa na : Option Addr) (pc nc : Nat) (P N : List Int) (pb nb : Option Addr) (pd nd : Nat) (P' N' : List Int) (w : World) (lP : P.length ≤ maxLen) (lN : N.length ≤ maxLen) (kP : ∀ x ∈ P, U64 x) (kN : ∀ x ∈ N, I64 x) (hP : NumsAt .u64 w pa P) (hN : NumsAt .i64 w na N)
    (lP' : P'.length ≤ maxLen) (lN' : N'.length ≤ maxLen) (kP' : ∀ x ∈ P', U64 x) (kN' : ∀ x ∈ N', I64 x) (hP' : NumsAt .u64 w pb P') (hN' : NumsAt .i64 w nb N') :
    Calls Try.prog 3 #[.agg #[.slice pa P.length pc, .slice na N.length nc], .agg #[.slice pb P'.length pd, .slice nb N'.length nd]] w fun e w' => e = .returned (.bool true) ∧ Below w.heap.size w w' := by
  obtain ⟨pn, ep⟩ : ∃ n, P.length = n := ⟨_, rfl⟩
  obtain ⟨nn, en⟩ : ∃ n, N.length = n := ⟨_, rfl⟩
  obtain ⟨pm, ep'⟩ : ∃ n, P'.length = n := ⟨_, rfl⟩
  obtain ⟨nm, en'⟩ : ∃ n, N'.length = n := ⟨_, rfl⟩
  rw [ep] at lP; rw [en] at lN; rw [ep'] at lP'; rw [en'] at lN'
  rw [ep, en, ep', en']
  have HP := hide hP
  have HN := hide hN
  have HP' := hide hP'
  have HN' := hide hN'
  have KP := hide kP
  have KN := hide kN
  have KP' := hide kP'
  have KN' := hide kN'
  have EP := hide ep
  have EN := hide en
  have EP' := hide ep'
  have EN' := hide en'
  clear hP hN kP kN ep en hP' hN' kP' kN' ep' en'
  go_enter Try.func3, Try.ntmps3
  go_wp2_with fail
  generalize hW0 : (w.alloc (Obj.cells #[.slice pa pn pc, .slice na nn nc] 25)).alloc (Obj.cells #[.slice pb pm pd, .slice nb nm nd] 25) = W0
  have T0 : Below w.heap.size w W0 := by rw [← hW0]; exact ((Below.refl _ _).alloc (Nat.le_refl _) _).alloc (by simp) _
  have K0 : HlCell W0 w.heap.size (.slice pa pn pc) (.slice na nn nc) := by rw [← hW0]; exact hl_past (hl_new w _ _ _) ((Below.refl _ _).alloc (Nat.le_refl _) _)
  have J0 : HlCell W0 (w.heap.size + 1) (.slice pb pm pd) (.slice nb nm nd) := by
    rw [← hW0]
    have := hl_new (w.alloc (Obj.cells #[.slice pa pn pc, .slice na nn nc] 25)) 25 (.slice pb pm pd) (.slice nb nm nd)
    simpa using this
  have hsz0 : W0.heap.size = w.heap.size + 2 := by rw [← hW0]; simp
  clear hW0
  have HT0 := hide T0
  clear T0
  refine (c_szHll _ _ _ _ _ _ _ (by omega) (by omega) lP lN _).mono ?_
  rintro e w1 ⟨v, rfl, hv, hsm, hb1⟩
  have HT1 := hide (chain HT0.out hb1)
  have K1 := hl_past K0 hb1
  have J1 := hl_past J0 hb1
  clear hb1 K0 J0
  by_cases hv0 : v < 0
  · clear hsm
    go_wp2
    go_ret
    exact ⟨rfl, HT1.out⟩
  obtain ⟨v0, lp, ln⟩ := hsm hv0
  clear hsm
  go_wp2_with fail
  refine (c_szHll _ _ _ _ _ _ _ (by omega) (by omega) lP' lN' _).mono ?_
  rintro e w2 ⟨v', rfl, hv', hsm, hb2⟩
  have HT2 := hide (chain HT1.out hb2)
  have K2 := hl_past K1 hb2
  have J2 := hl_past J1 hb2
  clear hb2 K1 J1
  by_cases hv0' : v' < 0
  · clear hsm
    go_wp2
    go_ret
    exact ⟨rfl, HT2.out⟩
  obtain ⟨v0', lp', ln'⟩ := hsm hv0'
  clear hsm
  have HAl : Hid (∀ (W : World) o, Below W.heap.size W (W.alloc o)) := fun W o => (Below.refl _ _).alloc (Nat.le_refl _) _
  obtain ⟨PP, NN, fx, lPP, lNN⟩ := mrg_ex P N P' N'
  have FX := hide fx
  obtain ⟨pm2, epm⟩ : ∃ n, PP.length = n := ⟨_, rfl⟩
  obtain ⟨nm2, enm⟩ : ∃ n, NN.length = n := ⟨_, rfl⟩
  rw [epm] at lPP; rw [enm] at lNN
  have EPM := hide epm
  have ENM := hide enm
  have hK2 : ∀ W, Below w2.heap.size w2 W → HlCell W w.heap.size (.slice pa pn pc) (.slice na nn nc) ∧ HlCell W (w.heap.size + 1) (.slice pb pm pd) (.slice nb nm nd) := fun W hW => ⟨hl_past K2 hW, hl_past J2 hW⟩
  have HK2 := hide hK2
  clear fx epm enm hK2 K2 J2
  go_wp2_with fail
  rename_i Q1 _ _ K1 A1
  have REST : ∀ (X : World) (b gp3 gn3 gp4 gn4 : Nat) (sa sb : Option Addr) (sc sd : Nat), Below w2.heap.size w2 X → HlCell X b (.slice sa pm2 sc) (.slice sb nm2 sd) → OwnN .u64 34 X 0 (.slice sa pm2 sc) pm2 PP → OwnN .i64 2 X 0 (.slice sb nm2 sd) nm2 NN → Exit.then K1 Q1 .normal ⟨#[.agg #[.slice pa pn pc, .slice na nn nc], .agg #[.slice pb pm pd, .slice nb nm nd], .pointer (some ⟨w.heap.size, 0, none⟩), .pointer (some ⟨w.heap.size + 1, 0, none⟩), .bool false, .int .i64 v', .pointer (some ⟨b, 0, none⟩), undef, undef, undef, undef, undef, undef, undef, .agg #[.slice pa pn pc, .slice na nn nc], .int .i64 1048576, .int .i64 v, .int .i64 v, .bool (decide (v < 0)), .agg #[.slice pb pm pd, .slice nb nm nd], .int .i64 v, .int .i64 v', .int .i64 v', .bool (decide (v' < 0)), .agg #[.slice pa pn pc, .slice na nn nc], .agg #[.slice (some ⟨gp3, 0, none⟩) pn pn, .slice (some ⟨gn3, 0, none⟩) nn nn], .agg #[.slice pb pm pd, .slice nb nm nd], .agg #[.slice (some ⟨gp4, 0, none⟩) pm pm, .slice (some ⟨gn4, 0, none⟩) nm nm], .agg #[.slice sa pm2 sc, .slice sb nm2 sd], undef, undef, undef, undef, undef, undef, undef, undef, undef, undef, undef, undef, undef, undef, undef, undef, undef, undef, undef, undef, undef, undef, undef, undef, undef, undef, undef, undef, undef, undef, undef, undef, undef, undef, undef, undef, undef, undef, undef, undef, undef, undef, undef, undef, undef, undef, undef, undef, undef, undef, undef, undef, undef, undef, undef, undef, undef, undef, undef, undef, undef, undef, undef], []⟩ X := by
    intro X b jp3 jn3 jp4 jn4 ta tb tc td hX hV o1 o2
    have HTX := hide (chain HT2.out hX)
    have zX := hX.size
    have zw2 := HT2.out.size
    obtain ⟨K3, J3⟩ := HK2.out X hX
    have zb := World.block_lt_of_cell? _ _ hV.1
    have S1lt := hide (fun k e => (o1.lt k e).2)
    have S2lt := hide (fun k e => (o2.lt k e).2)
    have HS1 := hide o1
    have HS2 := hide o2
    have HV3 := hide hV
    have zJ := World.block_lt_of_cell? _ _ J3.1
    clear hX hV o1 o2 HK2
    go_wp2_with fail
    refine (c_toHll EP.out EN.out lp ln (nums_past HP.out HTX.out) (nums_past HN.out HTX.out)).mono ?_
    rintro e w4 ⟨gp, gn, rfl, q4, q5, q6, oP, oN, hb4⟩
    have HB4 := hide hb4
    have HT4 := hide (chain HTX.out hb4)
    have K4 := hl_past K3 hb4
    have J4 := hl_past J3 hb4
    have HV4 := hide (hl_past HV3.out hb4)
    have z34 := hb4.size
    have BP4 := hide (nums_owned oP EP.out)
    have BN4 := hide (nums_owned oN EN.out)
    have OP4 := hide (OwnN.of oP EP.out)
    have ON4 := hide (OwnN.of oN EN.out)
    have KA4 : ∀ o, HlCell (w4.alloc o) w.heap.size (.slice pa pn pc) (.slice na nn nc) := fun o => hl_past K4 (HAl.out _ o)
    have JA4 : ∀ o, HlCell (w4.alloc o) (w.heap.size + 1) (.slice pb pm pd) (.slice nb nm nd) := fun o => hl_past J4 (HAl.out _ o)
    clear hb4 oP oN K3 J3 HV3
    go_wp2_with fail
    refine (c_toHll EP'.out EN'.out lp' ln' (nums_past HP'.out (chain HT4.out (HAl.out _ _))) (nums_past HN'.out (chain HT4.out (HAl.out _ _)))).mono ?_
    rintro e w5 ⟨gp', gn', rfl, r4, r5, r6, oP, oN, hb5⟩
    simp only [World.size_alloc] at r4
    have HB5 := hide (chain (HAl.out _ _) hb5)
    have HT5 := hide (chain HT4.out HB5.out)
    have K5 := hl_past K4 HB5.out
    have J5 := hl_past J4 HB5.out
    have HV5 := hide (hl_past HV4.out HB5.out)
    have X5 := hl_past (hl_new w4 _ _ _) hb5
    have z45 := hb5.size
    simp only [World.size_alloc] at z45
    have BP5 := hide (nums_owned oP EP'.out)
    have BN5 := hide (nums_owned oN EN'.out)
    have OP5 := hide (OwnN.of oP EP'.out)
    have ON5 := hide (OwnN.of oN EN'.out)
    have XA5 : ∀ o, HlCell (w5.alloc o) w4.heap.size (.slice (some ⟨gp, 0, none⟩) pn pn) (.slice (some ⟨gn, 0, none⟩) nn nn) := fun o => hl_past X5 (HAl.out _ o)
    clear hb5 oP oN K4 J4 KA4 JA4 HV4
    go_wp2_with fail
    refine (c_i_MrgF FX.out EP.out EN.out EP'.out EN'.out lp ln lp' ln' (nums_past BP4.out (chain HB5.out (HAl.out _ _))) (nums_past BN4.out (chain HB5.out (HAl.out _ _))) (nums_past BP5.out (HAl.out _ _)) (nums_past BN5.out (HAl.out _ _)) KP.out KN.out KP'.out KN'.out).mono ?_
    rintro e w6 ⟨v6, rfl, hb6, hq6⟩
    obtain ⟨ga, gc, gb, gd, rfl, hs1, hs2⟩ := hq6.open EPM.out ENM.out
    have HB6 := hide (chain (HAl.out _ _) hb6)
    have HT6 := hide (chain HT5.out HB6.out)
    have K6 := hl_past K5 HB6.out
    have J6 := hl_past J5 HB6.out
    have V6 := hl_past HV5.out HB6.out
    have X6 := hl_past X5 HB6.out
    have Y6 := hl_past (hl_new w5 _ _ _) hb6
    have z56 := hb6.size
    simp only [World.size_alloc] at z56
    have G1lt := hide hs1.lt
    have G2lt := hide hs2.lt
    have HG1 := hide hs1
    have HG2 := hide hs2
    clear hb6 hq6 K5 J5 X5 XA5 HV5 hs1 hs2
    have VA6 : ∀ o, HlCell (w6.alloc o) b (.slice ta pm2 tc) (.slice tb nm2 td) := fun o => hl_past V6 (HAl.out _ o)
    go_wp2_with fail
    refine (c_eqHll EPM.out ENM.out lPP lNN (nums_past HG1.out.at (HAl.out _ _)) (nums_past HG2.out.at (HAl.out _ _)) (nums_past HS1.out.at (chain (chain (chain HB4.out HB5.out) HB6.out) (HAl.out _ _))) (nums_past HS2.out.at (chain (chain (chain HB4.out HB5.out) HB6.out) (HAl.out _ _)))).mono ?_
    rintro e w7 ⟨rfl, hb7⟩
    have HB7 := hide (chain (HAl.out _ _) hb7)
    have HT7 := hide (chain HT6.out HB7.out)
    have K7 := hl_past K6 HB7.out
    have J7 := hl_past J6 HB7.out
    have X7 := hl_past X6 HB7.out
    have Y7 := hl_past Y6 HB7.out
    have HV7 := hide (hl_past V6 HB7.out)
    have HZ7 := hide (hl_past (hl_new w6 _ _ _) hb7)
    have z67 := hb7.size
    simp only [World.size_alloc] at z67
    have hK7 : ∀ W, Below w7.heap.size w7 W → HlCell W w.heap.size (.slice pa pn pc) (.slice na nn nc) ∧ HlCell W (w.heap.size + 1) (.slice pb pm pd) (.slice nb nm nd) ∧ HlCell W w4.heap.size (.slice (some ⟨gp, 0, none⟩) pn pn) (.slice (some ⟨gn, 0, none⟩) nn nn) ∧ HlCell W w5.heap.size (.slice (some ⟨gp', 0, none⟩) pm pm) (.slice (some ⟨gn', 0, none⟩) nm nm) := fun W hW => ⟨hl_past K7 hW, hl_past J7 hW, hl_past X7 hW, hl_past Y7 hW⟩
    have HK7 := hide hK7
    have HC7 := hide (chain HB6.out HB7.out)
    have HC57 := hide (chain HB5.out HC7.out)
    clear hb7 K6 J6 V6 X6 Y6 VA6 hK7 K7 J7 X7 Y7
    go_wp2_with fail
    go_region_held3 (fun W => Kept w7.heap.size w7 W ∧ HlCell W w.heap.size (.slice pa pn pc) (.slice na nn nc) ∧ HlCell W (w.heap.size + 1) (.slice pb pm pd) (.slice nb nm nd) ∧ HlCell W w4.heap.size (.slice (some ⟨gp, 0, none⟩) pn pn) (.slice (some ⟨gn, 0, none⟩) nn nn) ∧ HlCell W w5.heap.size (.slice (some ⟨gp', 0, none⟩) pm pm) (.slice (some ⟨gn', 0, none⟩) nm nm))
      (first | exact hS3 | exact ⟨held (Below.refl _ _).drew (by simp), HK7.out _ (Below.refl _ _).drew⟩)
      (first
        | (go_at_call 8; have hS := (‹Kept _ _ _ ∧ _›).1; refine (c_toHll EP.out EN.out lp ln (nums_past HP.out (chain HT7.out hS.1)) (nums_past HN.out (chain HT7.out hS.1))).mono ?_; rintro e w8 ⟨gp8, gn8, rfl, _, _, _, oP, oN, hb9⟩; have hS1 := (held_call hb9 hS).1; have hS3 : Kept w7.heap.size w7 w8 ∧ _ := ⟨held hS1 (Nat.le_refl _), HK7.out _ hS1⟩; have BP9 := hide (nums_owned oP EP.out); have BN9 := hide (nums_owned oN EN.out); clear hb9 oP oN hS1)
        | (go_at_call 10; have hS := (‹Kept _ _ _ ∧ _›).1; refine (c_eqHll EP.out EN.out lp ln (nums_past BP4.out (chain HC57.out hS.1)) (nums_past BN4.out (chain HC57.out hS.1)) BP9.out BN9.out).mono ?_; rintro e w8 ⟨rfl, hb10⟩; have hS1 := (held_call hb10 hS).1; have hS3 : Kept w7.heap.size w7 w8 ∧ _ := ⟨held hS1 (Nat.le_refl _), HK7.out _ hS1⟩; clear hb10 hS1))
    have HB8 := hide hS3.1.1
    have HK8 : Hid (∀ W, Below w8.heap.size w8 W → _) := fun W hW => HK7.out W (chain HB8.out hW)
    have HT8 := hide (chain HT7.out HB8.out)
    have HC8 := hide (chain HC7.out HB8.out)
    have z78 := HB8.out.size
    clear hS3 BP9 BN9
    go_wp2_with fail
    go_region_held3 (fun W => Kept w8.heap.size w8 W ∧ HlCell W w.heap.size (.slice pa pn pc) (.slice na nn nc) ∧ HlCell W (w.heap.size + 1) (.slice pb pm pd) (.slice nb nm nd) ∧ HlCell W w4.heap.size (.slice (some ⟨gp, 0, none⟩) pn pn) (.slice (some ⟨gn, 0, none⟩) nn nn) ∧ HlCell W w5.heap.size (.slice (some ⟨gp', 0, none⟩) pm pm) (.slice (some ⟨gn', 0, none⟩) nm nm))
      (first | exact hS3 | exact ⟨held (Below.refl _ _).drew (by simp), HK8.out _ (Below.refl _ _).drew⟩)
      (first
        | (go_at_call 8; have hS := (‹Kept _ _ _ ∧ _›).1; refine (c_toHll EP'.out EN'.out lp' ln' (nums_past HP'.out (chain HT8.out hS.1)) (nums_past HN'.out (chain HT8.out hS.1))).mono ?_; rintro e w9 ⟨gp9, gn9, rfl, _, _, _, oP, oN, hb9⟩; have hS1 := (held_call hb9 hS).1; have hS3 : Kept w8.heap.size w8 w9 ∧ _ := ⟨held hS1 (Nat.le_refl _), HK8.out _ hS1⟩; have BP9 := hide (nums_owned oP EP'.out); have BN9 := hide (nums_owned oN EN'.out); clear hb9 oP oN hS1)
        | (go_at_call 10; have hS := (‹Kept _ _ _ ∧ _›).1; refine (c_eqHll EP'.out EN'.out lp' ln' (nums_past BP5.out (chain HC8.out hS.1)) (nums_past BN5.out (chain HC8.out hS.1)) BP9.out BN9.out).mono ?_; rintro e w9 ⟨rfl, hb10⟩; have hS1 := (held_call hb10 hS).1; have hS3 : Kept w8.heap.size w8 w9 ∧ _ := ⟨held hS1 (Nat.le_refl _), HK8.out _ hS1⟩; clear hb10 hS1))
    have HB9 := hide hS3.1.1
    obtain ⟨_, K9, J9, X9, Y9⟩ := hS3
    have HB79 := hide (chain HB8.out HB9.out)
    have V9 := hl_past HV7.out HB79.out
    have Z9 := hl_past HZ7.out HB79.out
    have HT9 := hide (chain HT8.out HB9.out)
    have HC9 := hide (chain HC7.out HB79.out)
    have HC59 := hide (chain HC57.out HB79.out)
    have HD9 := hide (chain HB7.out HB79.out)
    have HE9 := hide (chain HB4.out HC59.out)
    have z89 := HB9.out.size
    clear BP9 BN9 HK7 HK8 HV7 HZ7
    go_wp2_with fail
    refine (c_markHll 1 (by omega) (by omega) lp ln (OP4.out.past HC59.out) (ON4.out.past HC59.out)).mono ?_
    rintro e w10 ⟨rfl, _, _, hg10⟩
    obtain ⟨k10, hk10⟩ : ∃ k, 1 + pn + nn = k := ⟨_, rfl⟩
    rw [hk10]
    have hk10a : 1 ≤ k10 := by omega
    have hk10b : k10 ≤ 10000000 := by omega
    have ne10 : ∀ k, k < X.heap.size ∨ w4.heap.size ≤ k → (Value.slice (some ⟨gp, 0, none⟩) pn pn).ownBlock ≠ some k ∧ (Value.slice (some ⟨gn, 0, none⟩) nn nn).ownBlock ≠ some k := fun k hk => ⟨fun e => by
      have h1 : gp = k := Option.some.inj e
      omega, fun e => by
      have h1 : gn = k := Option.some.inj e
      omega⟩
    have zwX := HTX.out.size
    have K10 := hl_kept2 K9 hg10 (ne10 _ (.inl (by omega))).1 (ne10 _ (.inl (by omega))).2
    have J10 := hl_kept2 J9 hg10 (ne10 _ (.inl (by omega))).1 (ne10 _ (.inl (by omega))).2
    have V10 := hl_kept2 V9 hg10 (ne10 _ (.inl (by omega))).1 (ne10 _ (.inl (by omega))).2
    have Y10 := hl_kept2 Y9 hg10 (ne10 _ (.inr (by omega))).1 (ne10 _ (.inr (by omega))).2
    have Z10 := hl_kept2 Z9 hg10 (ne10 _ (.inr (by omega))).1 (ne10 _ (.inr (by omega))).2
    have HS110 := hide ((HS1.out.past HE9.out).kept2 hg10 (fun k e => by have := S1lt.out k e; exact ⟨(ne10 k (.inl (by omega))).1.symm, (ne10 k (.inl (by omega))).2.symm⟩))
    have HS210 := hide ((HS2.out.past HE9.out).kept2 hg10 (fun k e => by have := S2lt.out k e; exact ⟨(ne10 k (.inl (by omega))).1.symm, (ne10 k (.inl (by omega))).2.symm⟩))
    have OP10 := hide ((OP5.out.past HC9.out).kept2 hg10 (fun k e => by have h1 : gp' = k := Option.some.inj e; exact ⟨(ne10 k (.inr (by omega))).1.symm, (ne10 k (.inr (by omega))).2.symm⟩))
    have ON10 := hide ((ON5.out.past HC9.out).kept2 hg10 (fun k e => by have h1 : gn' = k := Option.some.inj e; exact ⟨(ne10 k (.inr (by omega))).1.symm, (ne10 k (.inr (by omega))).2.symm⟩))
    have G1b : ∀ k, (Value.slice ga pm2 gc).ownBlock = some k → w5.heap.size + 1 ≤ k ∧ k < w6.heap.size := fun k e => by have := G1lt.out k e; simpa using this
    have G2b : ∀ k, (Value.slice gb nm2 gd).ownBlock = some k → w5.heap.size + 1 ≤ k ∧ k < w6.heap.size := fun k e => by have := G2lt.out k e; simpa using this
    have HG110 := hide ((HG1.out.past HD9.out).kept2 hg10 (fun k e => by have := (G1b k e).1; exact ⟨(ne10 k (.inr (by omega))).1.symm, (ne10 k (.inr (by omega))).2.symm⟩))
    have HG210 := hide ((HG2.out.past HD9.out).kept2 hg10 (fun k e => by have := (G2b k e).1; exact ⟨(ne10 k (.inr (by omega))).1.symm, (ne10 k (.inr (by omega))).2.symm⟩))
    have HT10 := hide (Grown2.below HT9.out HT9.out.size hg10 (fun k e => by have h1 : gp = k := Option.some.inj e; omega) (fun k e => by have h1 : gn = k := Option.some.inj e; omega))
    have z910 := hg10.size
    have HG1b := hide G1b
    have HG2b := hide G2b
    clear hg10 hk10 ne10 G1b G2b K9 J9 V9 X9 Y9 Z9 OP4 ON4 BP4 BN4 BP5 BN5
    go_wp2_with fail
    refine (c_markHll k10 hk10a hk10b lp' ln' OP10.out ON10.out).mono ?_
    rintro e w11 ⟨rfl, _, _, hg11⟩
    obtain ⟨k11, hk11⟩ : ∃ k, k10 + pm + nm = k := ⟨_, rfl⟩
    rw [hk11]
    have d11 : decide ((k11 : Int) < 0) = false := decide_eq_false (by omega)
    have ne11 : ∀ k, k < w4.heap.size + 1 ∨ w5.heap.size ≤ k → (Value.slice (some ⟨gp', 0, none⟩) pm pm).ownBlock ≠ some k ∧ (Value.slice (some ⟨gn', 0, none⟩) nm nm).ownBlock ≠ some k := fun k hk => ⟨fun e => by
      have h1 : gp' = k := Option.some.inj e
      omega, fun e => by
      have h1 : gn' = k := Option.some.inj e
      omega⟩
    have K11 := hl_kept2 K10 hg11 (ne11 _ (.inl (by omega))).1 (ne11 _ (.inl (by omega))).2
    have J11 := hl_kept2 J10 hg11 (ne11 _ (.inl (by omega))).1 (ne11 _ (.inl (by omega))).2
    have V11 := hl_kept2 V10 hg11 (ne11 _ (.inl (by omega))).1 (ne11 _ (.inl (by omega))).2
    have Z11 := hl_kept2 Z10 hg11 (ne11 _ (.inr (by omega))).1 (ne11 _ (.inr (by omega))).2
    have HS111 := hide (HS110.out.kept2 hg11 (fun k e => by have := S1lt.out k e; exact ⟨(ne11 k (.inl (by omega))).1.symm, (ne11 k (.inl (by omega))).2.symm⟩))
    have HS211 := hide (HS210.out.kept2 hg11 (fun k e => by have := S2lt.out k e; exact ⟨(ne11 k (.inl (by omega))).1.symm, (ne11 k (.inl (by omega))).2.symm⟩))
    have HG111 := hide (HG110.out.kept2 hg11 (fun k e => by have := (HG1b.out k e).1; exact ⟨(ne11 k (.inr (by omega))).1.symm, (ne11 k (.inr (by omega))).2.symm⟩))
    have HG211 := hide (HG210.out.kept2 hg11 (fun k e => by have := (HG2b.out k e).1; exact ⟨(ne11 k (.inr (by omega))).1.symm, (ne11 k (.inr (by omega))).2.symm⟩))
    have HT11 := hide (Grown2.below HT10.out HT10.out.size hg11 (fun k e => by have h1 : gp' = k := Option.some.inj e; omega) (fun k e => by have h1 : gn' = k := Option.some.inj e; omega))
    have z1011 := hg11.size
    clear hg11 hk11 ne11 K10 J10 V10 Y10 Z10 OP10 ON10 HS110 HS210 HG110 HG210
    go_wp2_with fail
    refine (c_eqHll EPM.out ENM.out lPP lNN HG111.out.at HG211.out.at HS111.out.at HS211.out.at).mono ?_
    rintro e w12 ⟨rfl, hb12⟩
    have HB12 := hide hb12
    have HT12 := hide (chain HT11.out hb12)
    have K12 := hl_past K11 hb12
    have J12 := hl_past J11 hb12
    have V12 := hl_past V11 hb12
    have Z12 := hl_past Z11 hb12
    have z1112 := hb12.size
    clear hb12 K11 J11 V11 Z11
    go_wp2_with fail
    refine (c_markHll 1 (by omega) (by omega) lPP lNN (HG111.out.past HB12.out) (HG211.out.past HB12.out)).mono ?_
    rintro e w13 ⟨rfl, ho1, ho2, hg13⟩
    obtain ⟨k13, hk13⟩ : ∃ k, 1 + pm2 + nm2 = k := ⟨_, rfl⟩
    rw [hk13]
    have HK13 := hide hk13
    have d13 : decide ((k13 : Int) < 0) = false := decide_eq_false (by omega)
    have neg : ∀ k, k < w5.heap.size + 1 ∨ w6.heap.size ≤ k → (Value.slice ga pm2 gc).ownBlock ≠ some k ∧ (Value.slice gb nm2 gd).ownBlock ≠ some k := fun k hk => ⟨fun e => by
      have := HG1b.out k e
      omega, fun e => by
      have := HG2b.out k e
      omega⟩
    have K13 := hl_kept2 K12 hg13 (neg _ (.inl (by omega))).1 (neg _ (.inl (by omega))).2
    have J13 := hl_kept2 J12 hg13 (neg _ (.inl (by omega))).1 (neg _ (.inl (by omega))).2
    have V13 := hl_kept2 V12 hg13 (neg _ (.inl (by omega))).1 (neg _ (.inl (by omega))).2
    have Z13 := hl_kept2 Z12 hg13 (neg _ (.inr (by omega))).1 (neg _ (.inr (by omega))).2
    have HS113 := hide ((HS111.out.past HB12.out).kept2 hg13 (fun k e => by have := S1lt.out k e; exact ⟨(neg k (.inl (by omega))).1.symm, (neg k (.inl (by omega))).2.symm⟩))
    have HS213 := hide ((HS211.out.past HB12.out).kept2 hg13 (fun k e => by have := S2lt.out k e; exact ⟨(neg k (.inl (by omega))).1.symm, (neg k (.inl (by omega))).2.symm⟩))
    have HT13 := hide (Grown2.below HT12.out HT12.out.size hg13 (fun k e => by have := HG1b.out k e; omega) (fun k e => by have := HG2b.out k e; omega))
    have HM1 := hide ho1
    have HM2 := hide ho2
    clear hg13 hk13 neg K12 J12 V12 Z12 ho1 ho2 HG111 HG211
    go_wp2_with fail
    refine (c_heldHll 1 (by omega) (by omega) lPP lNN HM1.out HM2.out).mono ?_
    rintro e w14 ⟨rfl, hb14⟩
    rw [HK13.out]
    have HB14 := hide hb14
    have HT14 := hide (chain HT13.out hb14)
    have K14 := hl_past K13 hb14
    have J14 := hl_past J13 hb14
    have HV14 := hide (hl_past V13 hb14)
    have HZ14 := hide (hl_past Z13 hb14)
    have hK14 : ∀ W, Below w14.heap.size w14 W → HlCell W w.heap.size (.slice pa pn pc) (.slice na nn nc) ∧ HlCell W (w.heap.size + 1) (.slice pb pm pd) (.slice nb nm nd) := fun W hW => ⟨hl_past K14 hW, hl_past J14 hW⟩
    have HK14 := hide hK14
    clear hb14 K13 J13 V13 Z13 K14 J14 hK14
    go_wp2_with fail
    rename_i K2 A2
    have REST2 : ∀ (X2 : World) (b2 gp3 gn3 gp4 gn4 : Nat) (sa sb : Option Addr) (sc sd : Nat), Below w14.heap.size w14 X2 → HlCell X2 b2 (.slice sa pm2 sc) (.slice sb nm2 sd) → OwnN .u64 34 X2 0 (.slice sa pm2 sc) pm2 PP → OwnN .i64 2 X2 0 (.slice sb nm2 sd) nm2 NN → Exit.then K2 Q1 .normal ⟨#[.agg #[.slice pa pn pc, .slice na nn nc], .agg #[.slice pb pm pd, .slice nb nm nd], .pointer (some ⟨w.heap.size, 0, none⟩), .pointer (some ⟨w.heap.size + 1, 0, none⟩), .bool false, .int .i64 v', .pointer (some ⟨b, 0, none⟩), .pointer (some ⟨w4.heap.size, 0, none⟩), .pointer (some ⟨w5.heap.size, 0, none⟩), .pointer (some ⟨w6.heap.size, 0, none⟩), .int .i64 ↑k11, .int .i64 ↑k13, .int .i64 ↑k13, .pointer (some ⟨b2, 0, none⟩), .agg #[.slice pa pn pc, .slice na nn nc], .int .i64 1048576, .int .i64 v, .int .i64 v, .bool (decide (v < 0)), .agg #[.slice pb pm pd, .slice nb nm nd], .int .i64 v, .int .i64 v', .int .i64 v', .bool (decide (v' < 0)), .agg #[.slice pa pn pc, .slice na nn nc], .agg #[.slice (some ⟨jp3, 0, none⟩) pn pn, .slice (some ⟨jn3, 0, none⟩) nn nn], .agg #[.slice pb pm pd, .slice nb nm nd], .agg #[.slice (some ⟨jp4, 0, none⟩) pm pm, .slice (some ⟨jn4, 0, none⟩) nm nm], .agg #[.slice ta pm2 tc, .slice tb nm2 td], .agg #[.slice pa pn pc, .slice na nn nc], .agg #[.slice (some ⟨gp, 0, none⟩) pn pn, .slice (some ⟨gn, 0, none⟩) nn nn], .agg #[.slice pb pm pd, .slice nb nm nd], .agg #[.slice (some ⟨gp', 0, none⟩) pm pm, .slice (some ⟨gn', 0, none⟩) nm nm], .agg #[.slice (some ⟨gp, 0, none⟩) pn pn, .slice (some ⟨gn, 0, none⟩) nn nn], .agg #[.slice (some ⟨gp', 0, none⟩) pm pm, .slice (some ⟨gn', 0, none⟩) nm nm], .agg #[.slice ga pm2 gc, .slice gb nm2 gd], .agg #[.slice ga pm2 gc, .slice gb nm2 gd], .agg #[.slice ta pm2 tc, .slice tb nm2 td], .bool true, .bool false, .agg #[.slice (some ⟨gp, 0, none⟩) pn pn, .slice (some ⟨gn, 0, none⟩) nn nn], .agg #[.slice pa pn pc, .slice na nn nc], .agg #[.slice (some ⟨gp8, 0, none⟩) pn pn, .slice (some ⟨gn8, 0, none⟩) nn nn], .bool true, .bool false, .agg #[.slice (some ⟨gp', 0, none⟩) pm pm, .slice (some ⟨gn', 0, none⟩) nm nm], .agg #[.slice pb pm pd, .slice nb nm nd], .agg #[.slice (some ⟨gp9, 0, none⟩) pm pm, .slice (some ⟨gn9, 0, none⟩) nm nm], .bool true, .bool false, .agg #[.slice (some ⟨gp, 0, none⟩) pn pn, .slice (some ⟨gn, 0, none⟩) nn nn], .int .i64 1, .int .i64 ↑k10, .agg #[.slice (some ⟨gp', 0, none⟩) pm pm, .slice (some ⟨gn', 0, none⟩) nm nm], .int .i64 ↑k10, .int .i64 ↑k11, .int .i64 ↑k11, .bool false, .bool false, .agg #[.slice ga pm2 gc, .slice gb nm2 gd], .agg #[.slice ta pm2 tc, .slice tb nm2 td], .bool true, .bool false, .bool false, .agg #[.slice ga pm2 gc, .slice gb nm2 gd], .int .i64 1, .int .i64 ↑k13, .agg #[.slice ga pm2 gc, .slice gb nm2 gd], .int .i64 1, .int .i64 ↑k13, .int .i64 ↑k13, .bool false, .int .i64 ↑k13, .int .i64 ↑k13, .bool false, .agg #[.slice pa pn pc, .slice na nn nc], .agg #[.slice (some ⟨gp3, 0, none⟩) pn pn, .slice (some ⟨gn3, 0, none⟩) nn nn], .agg #[.slice pb pm pd, .slice nb nm nd], .agg #[.slice (some ⟨gp4, 0, none⟩) pm pm, .slice (some ⟨gn4, 0, none⟩) nm nm], .agg #[.slice sa pm2 sc, .slice sb nm2 sd], undef, undef, undef, undef, undef, undef, undef, undef, undef, undef, undef, undef], []⟩ X2 := by
      intro X2 b2 gp3 gn3 gp4 gn4 sa sb sc sd hX hV o1 o2
      have HO1 := hide o1
      have HO2 := hide o2
      have HB15 := hide (chain HB14.out hX)
      have HT15 := hide (chain HT14.out hX)
      have V15 := hl_past HV14.out hX
      have Z15 := hl_past HZ14.out hX
      clear o1 o2 hX HK14
      go_wp2_with fail
      refine (c_eqHll EPM.out ENM.out lPP lNN HO1.out.at HO2.out.at (nums_past HS113.out.at HB15.out) (nums_past HS213.out.at HB15.out)).mono ?_
      rintro e w16 ⟨rfl, hb16⟩
      have HB16 := hide (chain HB15.out hb16)
      have HT16 := hide (chain HT15.out hb16)
      have Z16 := hl_past Z15 hb16
      clear hb16 V15 Z15 hV
      go_wp2_with fail
      refine (c_heldHll 1 (by omega) (by omega) lPP lNN (HM1.out.past HB16.out) (HM2.out.past HB16.out)).mono ?_
      rintro e w17 ⟨rfl, hb17⟩
      rw [HK13.out]
      have HT17 := hide (chain HT16.out hb17)
      clear hb17
      go_wp2
      go_ret
      exact ⟨rfl, HT17.out⟩
    have HS0 : (fun W => Below w14.heap.size w14 W) w14.drew := (Below.refl _ _).drew
    refine regionK (fun W => Below w14.heap.size w14 W) 6 (by kernel_rfl) ?_
    refine takeK (i := 0) (d := 75) (v := .agg #[.slice pa pn pc, .slice na nn nc]) rfl rfl (by kernel_rfl) (by kernel_rfl) (by kernel_rfl) (by decide) (by kernel_rfl) (fun _ _ _ h => h) (Or.inl ⟨by rfl, fun W hW => ?_⟩) HS0 ?_
    · obtain ⟨⟨x0, x1⟩, ⟨y0, y1⟩⟩ := HK14.out W hW
      go_simp
    simp only [List.setIfInBounds_toArray, List.set_cons_zero, List.set_cons_succ]
    refine takeK (i := 2) (d := 77) (v := .agg #[.slice pb pm pd, .slice nb nm nd]) rfl rfl (by kernel_rfl) (by kernel_rfl) (by kernel_rfl) (by decide) (by kernel_rfl) (fun _ _ _ h => h) (Or.inl ⟨by rfl, fun W hW => ?_⟩) HS0 ?_
    · obtain ⟨⟨x0, x1⟩, ⟨y0, y1⟩⟩ := HK14.out W hW
      go_simp
    simp only [List.setIfInBounds_toArray, List.set_cons_zero, List.set_cons_succ]
    refine twoK (i := 1) (j := 5) (by kernel_rfl) rfl rfl (fun K hK => ?_) (fun K hK => ?_)
    · go_simp
      refine (c_toHll EP.out EN.out lp ln (nums_past HP.out (chain HT14.out HS0)) (nums_past HN.out (chain HT14.out HS0))).mono ?_
      rintro e W3 ⟨gp3, gn3, rfl, _, _, _, oP, oN, hb⟩
      dsimp only
      have HBW3 := hide ((HS0 : Below w14.heap.size w14 _).trans (hb.mono (HS0 : Below w14.heap.size w14 _).size))
      have BP3 := hide (nums_owned oP EP.out)
      have BN3 := hide (nums_owned oN EN.out)
      clear hb oP oN
      refine hK.out _ _ (fun _ => HBW3.out) ?_
      clear hK K
      try simp only [Act.put, List.setIfInBounds_toArray, List.set_cons_zero, List.set_cons_succ]
      refine twoK (i := 3) (j := 5) (by kernel_rfl) rfl rfl (fun K hK => ?_) (fun K hK => ?_)
      · go_simp
        refine (c_toHll EP'.out EN'.out lp' ln' (nums_past HP'.out (chain HT14.out HBW3.out)) (nums_past HN'.out (chain HT14.out HBW3.out))).mono ?_
        rintro e W4 ⟨gp4, gn4, rfl, _, _, _, oP, oN, hb⟩
        dsimp only
        have HBW4 := hide ((HBW3.out : Below w14.heap.size w14 _).trans (hb.mono (HBW3.out : Below w14.heap.size w14 _).size))
        have BP34 := hide (nums_past BP3.out hb)
        have BN34 := hide (nums_past BN3.out hb)
        have BP4 := hide (nums_owned oP EP'.out)
        have BN4 := hide (nums_owned oN EN'.out)
        clear hb oP oN
        refine hK.out _ _ (fun _ => HBW4.out) ?_
        clear hK K
        try simp only [Act.put, List.setIfInBounds_toArray, List.set_cons_zero, List.set_cons_succ]
        refine twoK (i := 4) (j := 5) (by kernel_rfl) rfl rfl (fun K hK => ?_) (fun K hK => ?_)
        · go_simp
          refine (c_i_MrgF FX.out EP.out EN.out EP'.out EN'.out lp ln lp' ln' BP34.out BN34.out BP4.out BN4.out KP.out KN.out KP'.out KN'.out).mono ?_
          rintro e W5 ⟨v5, rfl, hb, hq5⟩
          dsimp only
          obtain ⟨sa, sc, sb, sd, rfl, hs1, hs2⟩ := hq5.open EPM.out ENM.out
          have HBW5 := hide ((HBW4.out : Below w14.heap.size w14 _).trans (hb.mono (HBW4.out : Below w14.heap.size w14 _).size))
          have HO1 := hide (hs1.le (Nat.zero_le _))
          have HO2 := hide (hs2.le (Nat.zero_le _))
          clear hb hq5 hs1 hs2
          refine hK.out _ _ (fun _ => HBW5.out) ?_
          clear hK K
          try simp only [Act.put, List.setIfInBounds_toArray, List.set_cons_zero, List.set_cons_succ]
          refine oneK (i := 5) (by kernel_rfl) rfl (fun K hK => ?_)
          go_simp
          have HBa := hide (Below.alloc (HBW5.out : Below w14.heap.size w14 W5) (HBW5.out : Below w14.heap.size w14 W5).size (.cells zeroHl 27))
          have HRa : Hid ((W5.alloc (.cells zeroHl 27)).heap[W5.heap.size]? = some (.cells zeroHl 27 (0, 0))) := (heap_alloc_new W5 (.cells zeroHl 27) : _)
          have HRx1 := hide (HO1.out.past ((Below.refl _ W5).alloc (Nat.le_refl _) (.cells zeroHl 27)))
          have HRx2 := hide (HO2.out.past ((Below.refl _ W5).alloc (Nat.le_refl _) (.cells zeroHl 27)))
          have HBb : Hid (w14.heap.size ≤ W5.heap.size) := ((HBW5.out : Below w14.heap.size w14 W5).size : _)
          refine hK.out _ _ (fun _ => HBa.out) ?_
          clear hK K
          try simp only [Act.put, List.setIfInBounds_toArray, List.set_cons_zero, List.set_cons_succ]
          have R5 : (W5.alloc (.cells zeroHl 27)).heap[W5.heap.size]? = some (.cells zeroHl 27 (0, 0)) := HRa.out
          obtain ⟨q0, q1⟩ := cellH2 R5
          have f0 := frozen_of_row (W5.alloc (.cells zeroHl 27)) (W5.heap.size) 0 _ _ R5
          have f1 := frozen_of_row (W5.alloc (.cells zeroHl 27)) (W5.heap.size) 1 _ _ R5
          refine oneK (i := 6) (by kernel_rfl) rfl (fun K hK => ?_)
          go_simp
          refine hK.out _ _ (fun h => absurd rfl h) ?_
          clear hK K
          try simp only [Act.put, List.setIfInBounds_toArray, List.set_cons_zero, List.set_cons_succ]
          refine doneK (by kernel_rfl) ?_ _
          exact REST2 _ _ gp3 gn3 gp4 gn4 sa sb sc sd (Below.alloc HBW5.out HBW5.out.size _) (hl_new W5 _ _ _) (HO1.out.past (HAl.out _ _)) (HO2.out.past (HAl.out _ _))
        · go_simp
          have HBa := hide (Below.alloc (HBW4.out : Below w14.heap.size w14 W4) (HBW4.out : Below w14.heap.size w14 W4).size (.cells zeroHl 27))
          have HRa : Hid ((W4.alloc (.cells zeroHl 27)).heap[W4.heap.size]? = some (.cells zeroHl 27 (0, 0))) := (heap_alloc_new W4 (.cells zeroHl 27) : _)
          have BP34a := hide (nums_past BP34.out ((Below.refl _ W4).alloc (Nat.le_refl _) (.cells zeroHl 27)))
          have BN34a := hide (nums_past BN34.out ((Below.refl _ W4).alloc (Nat.le_refl _) (.cells zeroHl 27)))
          have BP4a := hide (nums_past BP4.out ((Below.refl _ W4).alloc (Nat.le_refl _) (.cells zeroHl 27)))
          have BN4a := hide (nums_past BN4.out ((Below.refl _ W4).alloc (Nat.le_refl _) (.cells zeroHl 27)))
          have HBb : Hid (w14.heap.size ≤ W4.heap.size) := ((HBW4.out : Below w14.heap.size w14 W4).size : _)
          refine hK.out _ _ (fun _ => HBa.out) ?_
          clear hK K
          try simp only [Act.put, List.setIfInBounds_toArray, List.set_cons_zero, List.set_cons_succ]
          refine oneK (i := 4) (by kernel_rfl) rfl (fun K hK => ?_)
          go_simp
          refine (c_i_MrgF FX.out EP.out EN.out EP'.out EN'.out lp ln lp' ln' BP34a.out BN34a.out BP4a.out BN4a.out KP.out KN.out KP'.out KN'.out).mono ?_
          rintro e W5 ⟨v5, rfl, hb, hq5⟩
          dsimp only
          obtain ⟨sa, sc, sb, sd, rfl, hs1, hs2⟩ := hq5.open EPM.out ENM.out
          have HBW5 := hide ((HBa.out : Below w14.heap.size w14 _).trans (hb.mono (HBa.out : Below w14.heap.size w14 _).size))
          have HRW5 : Hid (W5.heap[W4.heap.size]? = some (.cells zeroHl 27 (0, 0))) := by
            refine (?_ : W5.heap[W4.heap.size]? = some (.cells zeroHl 27 (0, 0)))
            rw [hb.block _ (Array.getElem?_eq_some_iff.1 HRa.out).1]; exact HRa.out
          have HO1 := hide (hs1.le (Nat.zero_le _))
          have HO2 := hide (hs2.le (Nat.zero_le _))
          clear hb hq5 hs1 hs2
          refine hK.out _ _ (fun _ => HBW5.out) ?_
          clear hK K
          try simp only [Act.put, List.setIfInBounds_toArray, List.set_cons_zero, List.set_cons_succ]
          have R5 : W5.heap[W4.heap.size]? = some (.cells zeroHl 27 (0, 0)) := HRW5.out
          obtain ⟨q0, q1⟩ := cellH2 R5
          have f0 := frozen_of_row W5 (W4.heap.size) 0 _ _ R5
          have f1 := frozen_of_row W5 (W4.heap.size) 1 _ _ R5
          refine oneK (i := 6) (by kernel_rfl) rfl (fun K hK => ?_)
          go_simp
          refine hK.out _ _ (fun h => absurd rfl h) ?_
          clear hK K
          try simp only [Act.put, List.setIfInBounds_toArray, List.set_cons_zero, List.set_cons_succ]
          refine doneK (by kernel_rfl) ?_ _
          have n1 := HO1.out.ne R5 (by decide)
          have n2 := HO2.out.ne R5 (by decide)
          exact REST2 _ _ gp3 gn3 gp4 gn4 sa sb sc sd (belH2 HBb.out HBW5.out) (cellH2 (rowH2 R5)) ((HO1.out.set n1 _).set n1 _) ((HO2.out.set n2 _).set n2 _)
      · go_simp
        have HBa := hide (Below.alloc (HBW3.out : Below w14.heap.size w14 W3) (HBW3.out : Below w14.heap.size w14 W3).size (.cells zeroHl 27))
        have HRa : Hid ((W3.alloc (.cells zeroHl 27)).heap[W3.heap.size]? = some (.cells zeroHl 27 (0, 0))) := (heap_alloc_new W3 (.cells zeroHl 27) : _)
        have BP3a := hide (nums_past BP3.out ((Below.refl _ W3).alloc (Nat.le_refl _) (.cells zeroHl 27)))
        have BN3a := hide (nums_past BN3.out ((Below.refl _ W3).alloc (Nat.le_refl _) (.cells zeroHl 27)))
        have HBb : Hid (w14.heap.size ≤ W3.heap.size) := ((HBW3.out : Below w14.heap.size w14 W3).size : _)
        refine hK.out _ _ (fun _ => HBa.out) ?_
        clear hK K
        try simp only [Act.put, List.setIfInBounds_toArray, List.set_cons_zero, List.set_cons_succ]
        refine oneK (i := 3) (by kernel_rfl) rfl (fun K hK => ?_)
        go_simp
        refine (c_toHll EP'.out EN'.out lp' ln' (nums_past HP'.out (chain HT14.out HBa.out)) (nums_past HN'.out (chain HT14.out HBa.out))).mono ?_
        rintro e W4 ⟨gp4, gn4, rfl, _, _, _, oP, oN, hb⟩
        dsimp only
        have HBW4 := hide ((HBa.out : Below w14.heap.size w14 _).trans (hb.mono (HBa.out : Below w14.heap.size w14 _).size))
        have HRW4 : Hid (W4.heap[W3.heap.size]? = some (.cells zeroHl 27 (0, 0))) := by
          refine (?_ : W4.heap[W3.heap.size]? = some (.cells zeroHl 27 (0, 0)))
          rw [hb.block _ (Array.getElem?_eq_some_iff.1 HRa.out).1]; exact HRa.out
        have BP34 := hide (nums_past BP3a.out hb)
        have BN34 := hide (nums_past BN3a.out hb)
        have BP4 := hide (nums_owned oP EP'.out)
        have BN4 := hide (nums_owned oN EN'.out)
        clear hb oP oN
        refine hK.out _ _ (fun _ => HBW4.out) ?_
        clear hK K
        try simp only [Act.put, List.setIfInBounds_toArray, List.set_cons_zero, List.set_cons_succ]
        refine oneK (i := 4) (by kernel_rfl) rfl (fun K hK => ?_)
        go_simp
        refine (c_i_MrgF FX.out EP.out EN.out EP'.out EN'.out lp ln lp' ln' BP34.out BN34.out BP4.out BN4.out KP.out KN.out KP'.out KN'.out).mono ?_
        rintro e W5 ⟨v5, rfl, hb, hq5⟩
        dsimp only
        obtain ⟨sa, sc, sb, sd, rfl, hs1, hs2⟩ := hq5.open EPM.out ENM.out
        have HBW5 := hide ((HBW4.out : Below w14.heap.size w14 _).trans (hb.mono (HBW4.out : Below w14.heap.size w14 _).size))
        have HRW5 : Hid (W5.heap[W3.heap.size]? = some (.cells zeroHl 27 (0, 0))) := by
          refine (?_ : W5.heap[W3.heap.size]? = some (.cells zeroHl 27 (0, 0)))
          rw [hb.block _ (Array.getElem?_eq_some_iff.1 HRW4.out).1]; exact HRW4.out
        have HO1 := hide (hs1.le (Nat.zero_le _))
        have HO2 := hide (hs2.le (Nat.zero_le _))
        clear hb hq5 hs1 hs2
        refine hK.out _ _ (fun _ => HBW5.out) ?_
        clear hK K
        try simp only [Act.put, List.setIfInBounds_toArray, List.set_cons_zero, List.set_cons_succ]
        have R5 : W5.heap[W3.heap.size]? = some (.cells zeroHl 27 (0, 0)) := HRW5.out
        obtain ⟨q0, q1⟩ := cellH2 R5
        have f0 := frozen_of_row W5 (W3.heap.size) 0 _ _ R5
        have f1 := frozen_of_row W5 (W3.heap.size) 1 _ _ R5
        refine oneK (i := 6) (by kernel_rfl) rfl (fun K hK => ?_)
        go_simp
        refine hK.out _ _ (fun h => absurd rfl h) ?_
        clear hK K
        try simp only [Act.put, List.setIfInBounds_toArray, List.set_cons_zero, List.set_cons_succ]
        refine doneK (by kernel_rfl) ?_ _
        have n1 := HO1.out.ne R5 (by decide)
        have n2 := HO2.out.ne R5 (by decide)
        exact REST2 _ _ gp3 gn3 gp4 gn4 sa sb sc sd (belH2 HBb.out HBW5.out) (cellH2 (rowH2 R5)) ((HO1.out.set n1 _).set n1 _) ((HO2.out.set n2 _).set n2 _)
    · go_simp
      have HBa := hide (Below.alloc (HS0 : Below w14.heap.size w14 w14.drew) (HS0 : Below w14.heap.size w14 w14.drew).size (.cells zeroHl 27))
      have HRa : Hid ((w14.drew.alloc (.cells zeroHl 27)).heap[w14.heap.size]? = some (.cells zeroHl 27 (0, 0))) := (heap_alloc_new w14.drew (.cells zeroHl 27) : _)
      have HBb : Hid (w14.heap.size ≤ w14.heap.size) := ((HS0 : Below w14.heap.size w14 w14.drew).size : _)
      refine hK.out _ _ (fun _ => HBa.out) ?_
      clear hK K
      try simp only [Act.put, List.setIfInBounds_toArray, List.set_cons_zero, List.set_cons_succ]
      refine oneK (i := 1) (by kernel_rfl) rfl (fun K hK => ?_)
      go_simp
      refine (c_toHll EP.out EN.out lp ln (nums_past HP.out (chain HT14.out HBa.out)) (nums_past HN.out (chain HT14.out HBa.out))).mono ?_
      rintro e W3 ⟨gp3, gn3, rfl, _, _, _, oP, oN, hb⟩
      dsimp only
      have HBW3 := hide ((HBa.out : Below w14.heap.size w14 _).trans (hb.mono (HBa.out : Below w14.heap.size w14 _).size))
      have HRW3 : Hid (W3.heap[w14.heap.size]? = some (.cells zeroHl 27 (0, 0))) := by
        refine (?_ : W3.heap[w14.heap.size]? = some (.cells zeroHl 27 (0, 0)))
        rw [hb.block _ (Array.getElem?_eq_some_iff.1 HRa.out).1]; exact HRa.out
      have BP3 := hide (nums_owned oP EP.out)
      have BN3 := hide (nums_owned oN EN.out)
      clear hb oP oN
      refine hK.out _ _ (fun _ => HBW3.out) ?_
      clear hK K
      try simp only [Act.put, List.setIfInBounds_toArray, List.set_cons_zero, List.set_cons_succ]
      refine oneK (i := 3) (by kernel_rfl) rfl (fun K hK => ?_)
      go_simp
      refine (c_toHll EP'.out EN'.out lp' ln' (nums_past HP'.out (chain HT14.out HBW3.out)) (nums_past HN'.out (chain HT14.out HBW3.out))).mono ?_
      rintro e W4 ⟨gp4, gn4, rfl, _, _, _, oP, oN, hb⟩
      dsimp only
      have HBW4 := hide ((HBW3.out : Below w14.heap.size w14 _).trans (hb.mono (HBW3.out : Below w14.heap.size w14 _).size))
      have HRW4 : Hid (W4.heap[w14.heap.size]? = some (.cells zeroHl 27 (0, 0))) := by
        refine (?_ : W4.heap[w14.heap.size]? = some (.cells zeroHl 27 (0, 0)))
        rw [hb.block _ (Array.getElem?_eq_some_iff.1 HRW3.out).1]; exact HRW3.out
      have BP34 := hide (nums_past BP3.out hb)
      have BN34 := hide (nums_past BN3.out hb)
      have BP4 := hide (nums_owned oP EP'.out)
      have BN4 := hide (nums_owned oN EN'.out)
      clear hb oP oN
      refine hK.out _ _ (fun _ => HBW4.out) ?_
      clear hK K
      try simp only [Act.put, List.setIfInBounds_toArray, List.set_cons_zero, List.set_cons_succ]
      refine oneK (i := 4) (by kernel_rfl) rfl (fun K hK => ?_)
      go_simp
      refine (c_i_MrgF FX.out EP.out EN.out EP'.out EN'.out lp ln lp' ln' BP34.out BN34.out BP4.out BN4.out KP.out KN.out KP'.out KN'.out).mono ?_
      rintro e W5 ⟨v5, rfl, hb, hq5⟩
      dsimp only
      obtain ⟨sa, sc, sb, sd, rfl, hs1, hs2⟩ := hq5.open EPM.out ENM.out
      have HBW5 := hide ((HBW4.out : Below w14.heap.size w14 _).trans (hb.mono (HBW4.out : Below w14.heap.size w14 _).size))
      have HRW5 : Hid (W5.heap[w14.heap.size]? = some (.cells zeroHl 27 (0, 0))) := by
        refine (?_ : W5.heap[w14.heap.size]? = some (.cells zeroHl 27 (0, 0)))
        rw [hb.block _ (Array.getElem?_eq_some_iff.1 HRW4.out).1]; exact HRW4.out
      have HO1 := hide (hs1.le (Nat.zero_le _))
      have HO2 := hide (hs2.le (Nat.zero_le _))
      clear hb hq5 hs1 hs2
      refine hK.out _ _ (fun _ => HBW5.out) ?_
      clear hK K
      try simp only [Act.put, List.setIfInBounds_toArray, List.set_cons_zero, List.set_cons_succ]
      have R5 : W5.heap[w14.heap.size]? = some (.cells zeroHl 27 (0, 0)) := HRW5.out
      obtain ⟨q0, q1⟩ := cellH2 R5
      have f0 := frozen_of_row W5 (w14.heap.size) 0 _ _ R5
      have f1 := frozen_of_row W5 (w14.heap.size) 1 _ _ R5
      refine oneK (i := 6) (by kernel_rfl) rfl (fun K hK => ?_)
      go_simp
      refine hK.out _ _ (fun h => absurd rfl h) ?_
      clear hK K
      try simp only [Act.put, List.setIfInBounds_toArray, List.set_cons_zero, List.set_cons_succ]
      refine doneK (by kernel_rfl) ?_ _
      have n1 := HO1.out.ne R5 (by decide)
      have n2 := HO2.out.ne R5 (by decide)
      exact REST2 _ _ gp3 gn3 gp4 gn4 sa sb sc sd (belH2 HBb.out HBW5.out) (cellH2 (rowH2 R5)) ((HO1.out.set n1 _).set n1 _) ((HO2.out.set n2 _).set n2 _)
  have HS0 : (fun W => Below w2.heap.size w2 W) w2.drew := (Below.refl _ _).drew
  refine regionK (fun W => Below w2.heap.size w2 W) 6 (by kernel_rfl) ?_
  refine takeK (i := 0) (d := 24) (v := .agg #[.slice pa pn pc, .slice na nn nc]) rfl rfl (by kernel_rfl) (by kernel_rfl) (by kernel_rfl) (by decide) (by kernel_rfl) (fun _ _ _ h => h) (Or.inl ⟨by rfl, fun W hW => ?_⟩) HS0 ?_
  · obtain ⟨⟨x0, x1⟩, ⟨y0, y1⟩⟩ := HK2.out W hW
    go_simp
  simp only [List.setIfInBounds_toArray, List.set_cons_zero, List.set_cons_succ]
  refine takeK (i := 2) (d := 26) (v := .agg #[.slice pb pm pd, .slice nb nm nd]) rfl rfl (by kernel_rfl) (by kernel_rfl) (by kernel_rfl) (by decide) (by kernel_rfl) (fun _ _ _ h => h) (Or.inl ⟨by rfl, fun W hW => ?_⟩) HS0 ?_
  · obtain ⟨⟨x0, x1⟩, ⟨y0, y1⟩⟩ := HK2.out W hW
    go_simp
  simp only [List.setIfInBounds_toArray, List.set_cons_zero, List.set_cons_succ]
  refine twoK (i := 1) (j := 5) (by kernel_rfl) rfl rfl (fun K hK => ?_) (fun K hK => ?_)
  · go_simp
    refine (c_toHll EP.out EN.out lp ln (nums_past HP.out (chain HT2.out HS0)) (nums_past HN.out (chain HT2.out HS0))).mono ?_
    rintro e W3 ⟨gp3, gn3, rfl, _, _, _, oP, oN, hb⟩
    dsimp only
    have HBW3 := hide ((HS0 : Below w2.heap.size w2 _).trans (hb.mono (HS0 : Below w2.heap.size w2 _).size))
    have BP3 := hide (nums_owned oP EP.out)
    have BN3 := hide (nums_owned oN EN.out)
    clear hb oP oN
    refine hK.out _ _ (fun _ => HBW3.out) ?_
    clear hK K
    try simp only [Act.put, List.setIfInBounds_toArray, List.set_cons_zero, List.set_cons_succ]
    refine twoK (i := 3) (j := 5) (by kernel_rfl) rfl rfl (fun K hK => ?_) (fun K hK => ?_)
    · go_simp
      refine (c_toHll EP'.out EN'.out lp' ln' (nums_past HP'.out (chain HT2.out HBW3.out)) (nums_past HN'.out (chain HT2.out HBW3.out))).mono ?_
      rintro e W4 ⟨gp4, gn4, rfl, _, _, _, oP, oN, hb⟩
      dsimp only
      have HBW4 := hide ((HBW3.out : Below w2.heap.size w2 _).trans (hb.mono (HBW3.out : Below w2.heap.size w2 _).size))
      have BP34 := hide (nums_past BP3.out hb)
      have BN34 := hide (nums_past BN3.out hb)
      have BP4 := hide (nums_owned oP EP'.out)
      have BN4 := hide (nums_owned oN EN'.out)
      clear hb oP oN
      refine hK.out _ _ (fun _ => HBW4.out) ?_
      clear hK K
      try simp only [Act.put, List.setIfInBounds_toArray, List.set_cons_zero, List.set_cons_succ]
      refine twoK (i := 4) (j := 5) (by kernel_rfl) rfl rfl (fun K hK => ?_) (fun K hK => ?_)
      · go_simp
        refine (c_s_MrgF FX.out EP.out EN.out EP'.out EN'.out lp ln lp' ln' BP34.out BN34.out BP4.out BN4.out KP.out KN.out KP'.out KN'.out).mono ?_
        rintro e W5 ⟨v5, rfl, hb, hq5⟩
        dsimp only
        obtain ⟨sa, sc, sb, sd, rfl, hs1, hs2⟩ := hq5.open EPM.out ENM.out
        have HBW5 := hide ((HBW4.out : Below w2.heap.size w2 _).trans (hb.mono (HBW4.out : Below w2.heap.size w2 _).size))
        have HO1 := hide (hs1.le (Nat.zero_le _))
        have HO2 := hide (hs2.le (Nat.zero_le _))
        clear hb hq5 hs1 hs2
        refine hK.out _ _ (fun _ => HBW5.out) ?_
        clear hK K
        try simp only [Act.put, List.setIfInBounds_toArray, List.set_cons_zero, List.set_cons_succ]
        refine oneK (i := 5) (by kernel_rfl) rfl (fun K hK => ?_)
        go_simp
        have HBa := hide (Below.alloc (HBW5.out : Below w2.heap.size w2 W5) (HBW5.out : Below w2.heap.size w2 W5).size (.cells zeroHl 27))
        have HRa : Hid ((W5.alloc (.cells zeroHl 27)).heap[W5.heap.size]? = some (.cells zeroHl 27 (0, 0))) := (heap_alloc_new W5 (.cells zeroHl 27) : _)
        have HRx1 := hide (HO1.out.past ((Below.refl _ W5).alloc (Nat.le_refl _) (.cells zeroHl 27)))
        have HRx2 := hide (HO2.out.past ((Below.refl _ W5).alloc (Nat.le_refl _) (.cells zeroHl 27)))
        have HBb : Hid (w2.heap.size ≤ W5.heap.size) := ((HBW5.out : Below w2.heap.size w2 W5).size : _)
        refine hK.out _ _ (fun _ => HBa.out) ?_
        clear hK K
        try simp only [Act.put, List.setIfInBounds_toArray, List.set_cons_zero, List.set_cons_succ]
        have R5 : (W5.alloc (.cells zeroHl 27)).heap[W5.heap.size]? = some (.cells zeroHl 27 (0, 0)) := HRa.out
        obtain ⟨q0, q1⟩ := cellH2 R5
        have f0 := frozen_of_row (W5.alloc (.cells zeroHl 27)) (W5.heap.size) 0 _ _ R5
        have f1 := frozen_of_row (W5.alloc (.cells zeroHl 27)) (W5.heap.size) 1 _ _ R5
        refine oneK (i := 6) (by kernel_rfl) rfl (fun K hK => ?_)
        go_simp
        refine hK.out _ _ (fun h => absurd rfl h) ?_
        clear hK K
        try simp only [Act.put, List.setIfInBounds_toArray, List.set_cons_zero, List.set_cons_succ]
        refine doneK (by kernel_rfl) ?_ _
        exact REST _ _ gp3 gn3 gp4 gn4 sa sb sc sd (Below.alloc HBW5.out HBW5.out.size _) (hl_new W5 _ _ _) (HO1.out.past (HAl.out _ _)) (HO2.out.past (HAl.out _ _))
      · go_simp
        have HBa := hide (Below.alloc (HBW4.out : Below w2.heap.size w2 W4) (HBW4.out : Below w2.heap.size w2 W4).size (.cells zeroHl 27))
        have HRa : Hid ((W4.alloc (.cells zeroHl 27)).heap[W4.heap.size]? = some (.cells zeroHl 27 (0, 0))) := (heap_alloc_new W4 (.cells zeroHl 27) : _)
        have BP34a := hide (nums_past BP34.out ((Below.refl _ W4).alloc (Nat.le_refl _) (.cells zeroHl 27)))
        have BN34a := hide (nums_past BN34.out ((Below.refl _ W4).alloc (Nat.le_refl _) (.cells zeroHl 27)))
        have BP4a := hide (nums_past BP4.out ((Below.refl _ W4).alloc (Nat.le_refl _) (.cells zeroHl 27)))
        have BN4a := hide (nums_past BN4.out ((Below.refl _ W4).alloc (Nat.le_refl _) (.cells zeroHl 27)))
        have HBb : Hid (w2.heap.size ≤ W4.heap.size) := ((HBW4.out : Below w2.heap.size w2 W4).size : _)
        refine hK.out _ _ (fun _ => HBa.out) ?_
        clear hK K
        try simp only [Act.put, List.setIfInBounds_toArray, List.set_cons_zero, List.set_cons_succ]
        refine oneK (i := 4) (by kernel_rfl) rfl (fun K hK => ?_)
        go_simp
        refine (c_s_MrgF FX.out EP.out EN.out EP'.out EN'.out lp ln lp' ln' BP34a.out BN34a.out BP4a.out BN4a.out KP.out KN.out KP'.out KN'.out).mono ?_
        rintro e W5 ⟨v5, rfl, hb, hq5⟩
        dsimp only
        obtain ⟨sa, sc, sb, sd, rfl, hs1, hs2⟩ := hq5.open EPM.out ENM.out
        have HBW5 := hide ((HBa.out : Below w2.heap.size w2 _).trans (hb.mono (HBa.out : Below w2.heap.size w2 _).size))
        have HRW5 : Hid (W5.heap[W4.heap.size]? = some (.cells zeroHl 27 (0, 0))) := by
          refine (?_ : W5.heap[W4.heap.size]? = some (.cells zeroHl 27 (0, 0)))
          rw [hb.block _ (Array.getElem?_eq_some_iff.1 HRa.out).1]; exact HRa.out
        have HO1 := hide (hs1.le (Nat.zero_le _))
        have HO2 := hide (hs2.le (Nat.zero_le _))
        clear hb hq5 hs1 hs2
        refine hK.out _ _ (fun _ => HBW5.out) ?_
        clear hK K
        try simp only [Act.put, List.setIfInBounds_toArray, List.set_cons_zero, List.set_cons_succ]
        have R5 : W5.heap[W4.heap.size]? = some (.cells zeroHl 27 (0, 0)) := HRW5.out
        obtain ⟨q0, q1⟩ := cellH2 R5
        have f0 := frozen_of_row W5 (W4.heap.size) 0 _ _ R5
        have f1 := frozen_of_row W5 (W4.heap.size) 1 _ _ R5
        refine oneK (i := 6) (by kernel_rfl) rfl (fun K hK => ?_)
        go_simp
        refine hK.out _ _ (fun h => absurd rfl h) ?_
        clear hK K
        try simp only [Act.put, List.setIfInBounds_toArray, List.set_cons_zero, List.set_cons_succ]
        refine doneK (by kernel_rfl) ?_ _
        have n1 := HO1.out.ne R5 (by decide)
        have n2 := HO2.out.ne R5 (by decide)
        exact REST _ _ gp3 gn3 gp4 gn4 sa sb sc sd (belH2 HBb.out HBW5.out) (cellH2 (rowH2 R5)) ((HO1.out.set n1 _).set n1 _) ((HO2.out.set n2 _).set n2 _)
    · go_simp
      have HBa := hide (Below.alloc (HBW3.out : Below w2.heap.size w2 W3) (HBW3.out : Below w2.heap.size w2 W3).size (.cells zeroHl 27))
      have HRa : Hid ((W3.alloc (.cells zeroHl 27)).heap[W3.heap.size]? = some (.cells zeroHl 27 (0, 0))) := (heap_alloc_new W3 (.cells zeroHl 27) : _)
      have BP3a := hide (nums_past BP3.out ((Below.refl _ W3).alloc (Nat.le_refl _) (.cells zeroHl 27)))
      have BN3a := hide (nums_past BN3.out ((Below.refl _ W3).alloc (Nat.le_refl _) (.cells zeroHl 27)))
      have HBb : Hid (w2.heap.size ≤ W3.heap.size) := ((HBW3.out : Below w2.heap.size w2 W3).size : _)
      refine hK.out _ _ (fun _ => HBa.out) ?_
      clear hK K
      try simp only [Act.put, List.setIfInBounds_toArray, List.set_cons_zero, List.set_cons_succ]
      refine oneK (i := 3) (by kernel_rfl) rfl (fun K hK => ?_)
      go_simp
      refine (c_toHll EP'.out EN'.out lp' ln' (nums_past HP'.out (chain HT2.out HBa.out)) (nums_past HN'.out (chain HT2.out HBa.out))).mono ?_
      rintro e W4 ⟨gp4, gn4, rfl, _, _, _, oP, oN, hb⟩
      dsimp only
      have HBW4 := hide ((HBa.out : Below w2.heap.size w2 _).trans (hb.mono (HBa.out : Below w2.heap.size w2 _).size))
      have HRW4 : Hid (W4.heap[W3.heap.size]? = some (.cells zeroHl 27 (0, 0))) := by
        refine (?_ : W4.heap[W3.heap.size]? = some (.cells zeroHl 27 (0, 0)))
        rw [hb.block _ (Array.getElem?_eq_some_iff.1 HRa.out).1]; exact HRa.out
      have BP34 := hide (nums_past BP3a.out hb)
      have BN34 := hide (nums_past BN3a.out hb)
      have BP4 := hide (nums_owned oP EP'.out)
      have BN4 := hide (nums_owned oN EN'.out)
      clear hb oP oN
      refine hK.out _ _ (fun _ => HBW4.out) ?_
      clear hK K
      try simp only [Act.put, List.setIfInBounds_toArray, List.set_cons_zero, List.set_cons_succ]
      refine oneK (i := 4) (by kernel_rfl) rfl (fun K hK => ?_)
      go_simp
      refine (c_s_MrgF FX.out EP.out EN.out EP'.out EN'.out lp ln lp' ln' BP34.out BN34.out BP4.out BN4.out KP.out KN.out KP'.out KN'.out).mono ?_
      rintro e W5 ⟨v5, rfl, hb, hq5⟩
      dsimp only
      obtain ⟨sa, sc, sb, sd, rfl, hs1, hs2⟩ := hq5.open EPM.out ENM.out
      have HBW5 := hide ((HBW4.out : Below w2.heap.size w2 _).trans (hb.mono (HBW4.out : Below w2.heap.size w2 _).size))
      have HRW5 : Hid (W5.heap[W3.heap.size]? = some (.cells zeroHl 27 (0, 0))) := by
        refine (?_ : W5.heap[W3.heap.size]? = some (.cells zeroHl 27 (0, 0)))
        rw [hb.block _ (Array.getElem?_eq_some_iff.1 HRW4.out).1]; exact HRW4.out
      have HO1 := hide (hs1.le (Nat.zero_le _))
      have HO2 := hide (hs2.le (Nat.zero_le _))
      clear hb hq5 hs1 hs2
      refine hK.out _ _ (fun _ => HBW5.out) ?_
      clear hK K
      try simp only [Act.put, List.setIfInBounds_toArray, List.set_cons_zero, List.set_cons_succ]
      have R5 : W5.heap[W3.heap.size]? = some (.cells zeroHl 27 (0, 0)) := HRW5.out
      obtain ⟨q0, q1⟩ := cellH2 R5
      have f0 := frozen_of_row W5 (W3.heap.size) 0 _ _ R5
      have f1 := frozen_of_row W5 (W3.heap.size) 1 _ _ R5
      refine oneK (i := 6) (by kernel_rfl) rfl (fun K hK => ?_)
      go_simp
      refine hK.out _ _ (fun h => absurd rfl h) ?_
      clear hK K
      try simp only [Act.put, List.setIfInBounds_toArray, List.set_cons_zero, List.set_cons_succ]
      refine doneK (by kernel_rfl) ?_ _
      have n1 := HO1.out.ne R5 (by decide)
      have n2 := HO2.out.ne R5 (by decide)
      exact REST _ _ gp3 gn3 gp4 gn4 sa sb sc sd (belH2 HBb.out HBW5.out) (cellH2 (rowH2 R5)) ((HO1.out.set n1 _).set n1 _) ((HO2.out.set n2 _).set n2 _)
  · go_simp
    have HBa := hide (Below.alloc (HS0 : Below w2.heap.size w2 w2.drew) (HS0 : Below w2.heap.size w2 w2.drew).size (.cells zeroHl 27))
    have HRa : Hid ((w2.drew.alloc (.cells zeroHl 27)).heap[w2.heap.size]? = some (.cells zeroHl 27 (0, 0))) := (heap_alloc_new w2.drew (.cells zeroHl 27) : _)
    have HBb : Hid (w2.heap.size ≤ w2.heap.size) := ((HS0 : Below w2.heap.size w2 w2.drew).size : _)
    refine hK.out _ _ (fun _ => HBa.out) ?_
    clear hK K
    try simp only [Act.put, List.setIfInBounds_toArray, List.set_cons_zero, List.set_cons_succ]
    refine oneK (i := 1) (by kernel_rfl) rfl (fun K hK => ?_)
    go_simp
    refine (c_toHll EP.out EN.out lp ln (nums_past HP.out (chain HT2.out HBa.out)) (nums_past HN.out (chain HT2.out HBa.out))).mono ?_
    rintro e W3 ⟨gp3, gn3, rfl, _, _, _, oP, oN, hb⟩
    dsimp only
    have HBW3 := hide ((HBa.out : Below w2.heap.size w2 _).trans (hb.mono (HBa.out : Below w2.heap.size w2 _).size))
    have HRW3 : Hid (W3.heap[w2.heap.size]? = some (.cells zeroHl 27 (0, 0))) := by
      refine (?_ : W3.heap[w2.heap.size]? = some (.cells zeroHl 27 (0, 0)))
      rw [hb.block _ (Array.getElem?_eq_some_iff.1 HRa.out).1]; exact HRa.out
    have BP3 := hide (nums_owned oP EP.out)
    have BN3 := hide (nums_owned oN EN.out)
    clear hb oP oN
    refine hK.out _ _ (fun _ => HBW3.out) ?_
    clear hK K
    try simp only [Act.put, List.setIfInBounds_toArray, List.set_cons_zero, List.set_cons_succ]
    refine oneK (i := 3) (by kernel_rfl) rfl (fun K hK => ?_)
    go_simp
    refine (c_toHll EP'.out EN'.out lp' ln' (nums_past HP'.out (chain HT2.out HBW3.out)) (nums_past HN'.out (chain HT2.out HBW3.out))).mono ?_
    rintro e W4 ⟨gp4, gn4, rfl, _, _, _, oP, oN, hb⟩
    dsimp only
    have HBW4 := hide ((HBW3.out : Below w2.heap.size w2 _).trans (hb.mono (HBW3.out : Below w2.heap.size w2 _).size))
    have HRW4 : Hid (W4.heap[w2.heap.size]? = some (.cells zeroHl 27 (0, 0))) := by
      refine (?_ : W4.heap[w2.heap.size]? = some (.cells zeroHl 27 (0, 0)))
      rw [hb.block _ (Array.getElem?_eq_some_iff.1 HRW3.out).1]; exact HRW3.out
    have BP34 := hide (nums_past BP3.out hb)
    have BN34 := hide (nums_past BN3.out hb)
    have BP4 := hide (nums_owned oP EP'.out)
    have BN4 := hide (nums_owned oN EN'.out)
    clear hb oP oN
    refine hK.out _ _ (fun _ => HBW4.out) ?_
    clear hK K
    try simp only [Act.put, List.setIfInBounds_toArray, List.set_cons_zero, List.set_cons_succ]
    refine oneK (i := 4) (by kernel_rfl) rfl (fun K hK => ?_)
    go_simp
    refine (c_s_MrgF FX.out EP.out EN.out EP'.out EN'.out lp ln lp' ln' BP34.out BN34.out BP4.out BN4.out KP.out KN.out KP'.out KN'.out).mono ?_
    rintro e W5 ⟨v5, rfl, hb, hq5⟩
    dsimp only
    obtain ⟨sa, sc, sb, sd, rfl, hs1, hs2⟩ := hq5.open EPM.out ENM.out
    have HBW5 := hide ((HBW4.out : Below w2.heap.size w2 _).trans (hb.mono (HBW4.out : Below w2.heap.size w2 _).size))
    have HRW5 : Hid (W5.heap[w2.heap.size]? = some (.cells zeroHl 27 (0, 0))) := by
      refine (?_ : W5.heap[w2.heap.size]? = some (.cells zeroHl 27 (0, 0)))
      rw [hb.block _ (Array.getElem?_eq_some_iff.1 HRW4.out).1]; exact HRW4.out
    have HO1 := hide (hs1.le (Nat.zero_le _))
    have HO2 := hide (hs2.le (Nat.zero_le _))
    clear hb hq5 hs1 hs2
    refine hK.out _ _ (fun _ => HBW5.out) ?_
    clear hK K
    try simp only [Act.put, List.setIfInBounds_toArray, List.set_cons_zero, List.set_cons_succ]
    have R5 : W5.heap[w2.heap.size]? = some (.cells zeroHl 27 (0, 0)) := HRW5.out
    obtain ⟨q0, q1⟩ := cellH2 R5
    have f0 := frozen_of_row W5 (w2.heap.size) 0 _ _ R5
    have f1 := frozen_of_row W5 (w2.heap.size) 1 _ _ R5
    refine oneK (i := 6) (by kernel_rfl) rfl (fun K hK => ?_)
    go_simp
    refine hK.out _ _ (fun h => absurd rfl h) ?_
    clear hK K
    try simp only [Act.put, List.setIfInBounds_toArray, List.set_cons_zero, List.set_cons_succ]
    refine doneK (by kernel_rfl) ?_ _
    have n1 := HO1.out.ne R5 (by decide)
    have n2 := HO2.out.ne R5 (by decide)
    exact REST _ _ gp3 gn3 gp4 gn4 sa sb sc sd (belH2 HBb.out HBW5.out) (cellH2 (rowH2 R5)) ((HO1.out.set n1 _).set n1 _) ((HO2.out.set n2 _).set n2 _)
theorem own : ownKnob Try.prog.godebug = none := by kernel_rfl
theorem laidOut : laidOutB Try.prog = true := by kernel_rfl

set_option maxRecDepth 100000 in
theorem liftedHllMerge (os : Os) (started : os.Started) (H : Type) (enc : TypeId × Value → H) :
    ReturnsInHanded {} Try.checked os 3 .any (Rows.fnExactHllMergeSpec.pre6 enc Try.prog Try.f3 Rows.fnExactHllMergeRow.domain false) (Rows.fnExactHllMergeSpec.post enc Try.prog Try.f3 false true false false) := by
  refine returnsInHanded_of_change (C := Try.checked) own started (by kernel_rfl) Try.func3
    (ChangeSpec.witness6 (enc := enc) (C := Try.checked) false ⟨#[], #[.agg #[.slice none 0 0, .slice none 0 0], .agg #[.slice none 0 0, .slice none 0 0]], []⟩ 8 (by kernel_rfl) (by kernel_rfl) (by kernel_rfl) (by kernel_rfl)) ?_
  intro W base args ds gs before hval0 hW hcnd _
  have hval : ∀ (j : Nat) t v, Try.f3.params[j]? = some t → args[j]? = some v → Value.okWide Try.prog W .any base t v := hval0
  have hW' := hW
  obtain ⟨p, q, hA0, hV, rfl, hfz, hnd⟩ := hW
  have hA : DataW.TrodAll enc Try.prog W 0 (fun _ => true) true Try.f3.params.toList args.toList ds p := hA0
  rw [Try.params3] at hA hval
  obtain ⟨v0, vs0, d0, ds0, p0, q0, hargs, rfl, rfl, h0, r0⟩ := trodAll_cons hA
  obtain ⟨v1, vs1, d1, ds1, p1, q1, rfl, rfl, rfl, h1, r1⟩ := trodAll_cons r0
  obtain ⟨rfl, rfl, rfl⟩ := trodAll_nil r1
  obtain rfl : args = #[v0, v1] := by cases args; simp_all
  obtain ⟨rfl, rfl⟩ := trodVars_none hV
  have k0 := h0
  have lt0 : ∀ x ∈ p0, x.block < W.heap.size := by obtain ⟨m, hm⟩ := k0; exact DataW.trod_lt m _ _ _ hm
  obtain ⟨a0, b0, c0, f0, P0, N0, rfl, mP0, mN0, kP0, kN0, hP0, hN0⟩ := open_hll (hval 0 25 v0 rfl rfl) h0
  have k1 := h1
  have lt1 : ∀ x ∈ p1, x.block < W.heap.size := by obtain ⟨m, hm⟩ := k1; exact DataW.trod_lt m _ _ _ hm
  obtain ⟨a1, b1, c1, f1, P1, N1, rfl, mP1, mN1, kP1, kN1, hP1, hN1⟩ := open_hll (hval 1 25 v1 rfl rfl) h1
  clear hA0 hval0
  refine (walkHllMerge a0 b0 c0 f0 P0 N0 a1 b1 c1 f1 P1 N1 W mP0 mN0 kP0 kN0 hP0 hN0 mP1 mN1 kP1 kN1 hP1 hN1).mono fun e W' ⟨he, bel⟩ => ?_
  subst he
  exact ⟨_, rfl, _, _, _, [], _, [], hW', trodAll_mk1 (shut_bool Try.underlying4 _), (trodAll_cons_mk (Below.trod laidOut (by kernel_rfl) (of_decide_eq_true (by kernel_rfl)) k0 bel lt0) (trodAll_cons_mk (Below.trod laidOut (by kernel_rfl) (of_decide_eq_true (by kernel_rfl)) k1 bel lt1) trodAll_mk0)), rfl, bel.frame _, fun h => by cases h⟩

theorem overHllMerge : Rows.fnExactHllMergeRow.holds Try.pinned (OpenSpec.ofChange Rows.fnExactHllMergeSpec) :=
  OpenClaim.holds_of_wide 3 Try.f3 rfl rfl rfl rfl rfl rfl rfl ⟨rfl, rfl, rfl, rfl, rfl⟩ rfl rfl rfl rfl rfl (by kernel_rfl) Try.func3 (by kernel_rfl)
    (of_decide_eq_true (by kernel_rfl)) (by unfold Func.isWrapper; first | (rw [if_pos (by decide +kernel)]; kernel_rfl) | (rw [if_neg (by decide +kernel)]; exact ⟨rfl, rfl⟩))
    (fun os started H enc _ => liftedHllMerge os started H enc)

theorem fnExactHllMerge_holds : Rows.FnExactHllMergeSaid := overHllMerge
#print axioms fnExactHllMerge_holds
end Go.Proofs.Ytljhjcmodaaaoaa
