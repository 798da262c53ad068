/-
  Contracts of SketchRank, of the program and of its model.
-/
import Derived.Test.YtjpjjofjjejckaaSumC
namespace Go.Proofs.Ytjpjjofjjejckaa
set_option linter.unusedVariables false
set_option linter.unusedSimpArgs false
open Go.ChangeShapes Go.WideShapes Go.ChangeAt Go.RowKit Go.PlainAid Go.Lib
set_option maxRecDepth 10000

/-- The value of a rank: weights and values in their order. -/
def rk (rank : Int) : Int → List (Int × Int) → Int
  | _, [] => 0
  | g, x :: r => if rank < wAdd g x.1 then x.2 else rk rank (wAdd g x.1) r
def fN (x : Bn) : Int × Int := (x.2, -lowI x.1)
def fP (x : Bn) : Int × Int := (x.2, lowI x.1)
def ents (z : Int) (P N : List Bn) : List (Int × Int) := N.reverse.map fN ++ (z, 0) :: P.map fP
theorem rk_step {L T : List (Int × Int)} {j : Nat} {x : Int × Int} (h : L[j]? = some x) (rank g : Int) : rk rank g (L.drop j ++ T) = if rank < wAdd g x.1 then x.2 else rk rank (wAdd g x.1) (L.drop (j + 1) ++ T) := by
  have hk := (List.getElem?_eq_some_iff.1 h).1
  rw [List.drop_eq_getElem_cons hk, (List.getElem?_eq_some_iff.1 h).2]; rfl
theorem rev_at {N : List Bn} {j : Nat} {x : Bn} (hj : j < N.length) (h : N[N.length - 1 - j]? = some x) : (N.reverse.map fN)[j]? = some (fN x) := by
  rw [List.getElem?_map, List.getElem?_reverse hj, h]; rfl
def skR (z : Int) (P N : List Bn) (rank : Int) : Int := if skW z P N ≤ rank then 0 else rk rank 0 (ents z P N)
theorem skW_in {z : Int} {P N : List Bn} (hz : U64 z) (kP : ∀ x ∈ P, BnOk x) (kN : ∀ x ∈ N, BnOk x) : U64 (skW z P N) := by
  have := wsum_nn kP; have := wsum_nn kN; have := hz.1
  unfold skW; split
  · exact sat_in (by omega)
  · unfold U64; omega
theorem wAdd_in {a b : Int} (ha : U64 a) (hb : U64 b) : U64 (wAdd a b) := by rw [wAdd_sat]; exact sat_in (by have := ha.1; have := hb.1; omega)

/-- A number of 64 bits in a block of its own. -/
abbrev NumAt (w : World) (g : Nat) (x : Int) : Prop := w.cell? ⟨g, 0, none⟩ = some (.int .u64 x) ∧ w.frozen? ⟨g, 0, none⟩ = false

theorem c_standsIn (u g rank : Int) (G R : Nat) (w : World) (hu : U64 u) (hg : U64 g) (hG : NumAt w G g) (hR : NumAt w R rank) (hne : G ≠ R) :
    Calls Try.prog 58 #[.int .u64 u, .pointer (some ⟨G, 0, none⟩), .pointer (some ⟨R, 0, none⟩)] w fun e w' => e = .returned (.bool (decide (rank < wAdd g u))) ∧ w' = w.setCell ⟨G, 0, none⟩ (.int .u64 (wAdd g u)) := by
  obtain ⟨c0, f0⟩ := hG
  obtain ⟨c1, f1⟩ := hR
  have c2 : ∀ x, (w.setCell ⟨G, 0, none⟩ x).cell? ⟨G, 0, none⟩ = some x := fun x => World.cell?_setCell_same _ _ x c0
  have c3 : ∀ x, (w.setCell ⟨G, 0, none⟩ x).cell? ⟨R, 0, none⟩ = some (.int .u64 rank) := fun x => by rw [World.cell?_setCell_other _ _ _ _ (by simp [hne])]; exact c1
  go_enter Try.func58, Try.ntmps58
  go_wp2_with (first
    | (go_at_call 25; refine (c_i_WeightAdd _ _ hg hu _).mono ?_; rintro e w1 ⟨rfl, rfl⟩))
  go_ret
  exact ⟨rfl, rfl⟩

set_option maxHeartbeats 2000000 in
theorem c_i_SketchRank {w : World} {z h l rank : Int} {pa na : Option Addr} {pn pc nn nc : Nat} {P N : List Bn} (hz0 : U64 z) (hr0 : U64 rank) (hp : P.length = pn) (hn : N.length = nn) (lp : pn ≤ 1048576) (ln : nn ≤ 1048576) (hP : BinsAt w pa P) (hN : BinsAt w na N) (kP : ∀ x ∈ P, BnOk x) (kN : ∀ x ∈ N, BnOk x) :
    Calls Try.prog 27 #[.agg #[.int .u64 z, .slice pa pn pc, .slice na nn nc, .int .i64 h, .int .u64 l], .int .u64 rank] w fun e w' => e = .returned (.int .i64 (skR z P N rank)) ∧ Below w.heap.size w w' := by
  have HP := hide hP
  have HN := hide hN
  have KP := hide kP
  have KN := hide kN
  have EP := hide hp
  have EN := hide hn
  have HZ := hide hz0
  clear hP hN kP kN hp hn
  have hr1 := hr0.1
  go_enter Try.func27, Try.ntmps27
  go_wp2_with fail
  generalize hW0 : (w.alloc (Obj.cells #[.int .u64 z, .slice pa pn pc, .slice na nn nc, .int .i64 h, .int .u64 l] 32)).alloc (Obj.cells #[.int .u64 rank] 22) = W0
  have T0 : Below w.heap.size w W0 := by rw [← hW0]; exact ((Below.refl _ _).alloc (Nat.le_refl _) _).alloc (by simp) _
  have K0 : SkCell W0 w.heap.size z (.slice pa pn pc) (.slice na nn nc) h l := by rw [← hW0]; exact sk_past (sk_new w _ _ _ _ _ _) ((Below.refl _ _).alloc (Nat.le_refl _) _)
  have R0 : NumAt W0 (w.heap.size + 1) rank := by rw [← hW0]; constructor <;> simp
  have hsz0 : W0.heap.size = w.heap.size + 2 := by rw [← hW0]; simp
  clear hW0
  have hK6 : ∀ W, Below W0.heap.size W0 W → SkCell W w.heap.size z (.slice pa pn pc) (.slice na nn nc) h l ∧ NumAt W (w.heap.size + 1) rank := fun W hW => ⟨sk_past K0 hW, cell_past hW R0.1, by rw [frozen_past hW R0.1]; exact R0.2⟩
  have HK6 := hide hK6
  have HT0 := hide T0
  clear hK6 T0
  obtain ⟨X, hX⟩ : ∃ X, skW z P N = X := ⟨_, rfl⟩
  have HX := hide hX
  clear hX
  go_region_held3 (fun W => Kept W0.heap.size W0 W ∧ SkCell W w.heap.size z (.slice pa pn pc) (.slice na nn nc) h l ∧ NumAt W (w.heap.size + 1) rank)
    (first | exact hS3 | exact ⟨held (Below.refl _ _).drew (by simp), HK6.out _ (Below.refl _ _).drew⟩)
    (first
      | (go_at_call 22; have hS := (‹Kept _ _ _ ∧ _›).1; refine (c_i_SketchWeight hz0 EP.out EN.out lp ln (bins_past HP.out (chain HT0.out hS.1)) (bins_past HN.out (chain HT0.out hS.1)) KP.out KN.out).mono ?_; rintro e w6 ⟨rfl, hb6⟩; rw [HX.out]; have hS1 := (held_call hb6 hS).1; have hS3 : Kept W0.heap.size W0 w6 ∧ _ := ⟨held hS1 (Nat.le_refl _), HK6.out _ hS1⟩; clear hb6))
  have HT6 := hide (chain HT0.out hS3.1.1)
  obtain ⟨_, K6, R6⟩ := hS3
  have hz6 : w.heap.size + 2 ≤ w6.heap.size := by have := hS1.size; omega
  have KA : ∀ o, SkCell (w6.alloc o) w.heap.size z (.slice pa pn pc) (.slice na nn nc) h l := fun o => sk_past K6 ((Below.refl _ _).alloc (Nat.le_refl _) o)
  clear K0 R0 HK6 hS1
  by_cases hge : X ≤ rank
  · have HF : Hid (0 = skR z P N rank) := (if_pos (by rw [HX.out]; exact hge)).symm
    go_wp2
    go_ret
    exact ⟨ret_i HF.out, HT6.out⟩
  · have HF : Hid (rk rank 0 (ents z P N) = skR z P N rank) := (if_neg (by rw [HX.out]; exact hge)).symm
    go_wp2_with fail
    go_loopw [19] (fun i wr => Below w6.heap.size w6 wr ∧ ∃ (j : Nat) (g : Int), j ≤ nn ∧ i = .int .i64 j ∧ NumAt wr w6.heap.size g ∧ w6.heap.size < wr.heap.size ∧ U64 g ∧ Hid (rk rank 0 (ents z P N) = rk rank g ((N.reverse.map fN).drop j ++ (z, 0) :: P.map fP))) (fun i wr => nn - (intOf i).toNat)
    case atStart => exact ⟨(Below.refl _ _).alloc (Nat.le_refl _) _, 0, 0, Nat.zero_le _, rfl, by constructor <;> simp, by simp, by unfold U64; omega, (rfl : rk rank 0 (ents z P N) = _)⟩
    case round =>
      obtain ⟨hbel, j, g, hj, rfl, hG, hzG, hg, HR⟩ := hrel
      have HB := hide hbel
      have K7 := sk_past K6 hbel
      have R7 : NumAt wr (w.heap.size + 1) rank := ⟨cell_past hbel R6.1, by rw [frozen_past hbel R6.1]; exact R6.2⟩
      have HT7 := hide (chain HT6.out hbel)
      by_cases hjn : j < nn
      · obtain ⟨m, hm⟩ : ∃ m : Nat, nn = m + 1 + j := ⟨nn - 1 - j, by omega⟩
        have em : (nn : Int) - 1 - j = (m : Int) := by omega
        obtain ⟨⟨a, u⟩, hRk⟩ : ∃ a, N[m]? = some a := ⟨N[m]'(by have := EN.out; omega), List.getElem?_eq_getElem _⟩
        have hRr := rev_at (N := N) (j := j) (x := (a, u)) (by have := EN.out; omega) (by rw [show N.length - 1 - j = m by have := EN.out; omega]; exact hRk)
        obtain ⟨ha, hu⟩ := KN.out _ (List.mem_of_getElem? hRk)
        obtain ⟨b, off, rfl, hcell⟩ := HN.out (by have := EN.out; omega)
        have hc0 := cell_past HT7.out (hcell m _ hRk).1
        have hc1 := cell_past HT7.out (hcell m _ hRk).2
        have HS := hide (rk_step (T := (z, 0) :: P.map fP) hRr rank g)
        have hw := wAdd_in hg hu
        have hli := lowI_in a
        clear hbel hcell hRk hRr K6 R6
        simp only at hu ha
        have hmn : m < nn := by omega
        clear hm
        have hG2 : ∀ o, NumAt (wr.alloc o) w6.heap.size g := fun o => ⟨cell_on hG.1 o, by rw [frozen_past ((Below.refl _ _).alloc (Nat.le_refl _) _) hG.1]; exact hG.2⟩
        have hR2 : ∀ o, NumAt (wr.alloc o) (w.heap.size + 1) rank := fun o => ⟨cell_on R7.1 o, by rw [frozen_past ((Below.refl _ _).alloc (Nat.le_refl _) _) R7.1]; exact R7.2⟩
        have hb0 : ∀ x t, ((wr.alloc (.cells #[.int .i64 a, .int .u64 u] t)).setCell ⟨w6.heap.size, 0, none⟩ x).cell? ⟨wr.heap.size, 0, none⟩ = some (.int .i64 a) := fun x t => by
          rw [World.cell?_setCell_other _ _ _ _ (by simp <;> omega)]; simp
        have hN2 : ∀ o x, NumAt ((wr.setCell ⟨w6.heap.size, 0, none⟩ (.int .u64 x)).alloc o) w6.heap.size x := fun o x => by
          have c := World.cell?_setCell_same _ _ (.int .u64 x) hG.1
          exact ⟨cell_on c o, by rw [frozen_past ((Below.refl _ _).alloc (Nat.le_refl _) _) c, World.frozen?_setCell]; exact hG.2⟩
        have hb9 : ∀ o x, Below w6.heap.size w6 ((wr.setCell ⟨w6.heap.size, 0, none⟩ x).alloc o) := fun o x => (HB.out.setCell (Nat.le_refl _) _).alloc (by simp; omega) _
        have HN2 := hide hN2
        have HB9 := hide hb9
        have HG2 := hide hG2
        have HR2 := hide hR2
        clear hN2 hb9 hG2 hR2 hG R7
        by_cases hgt : rank < wAdd g u
        · have HE : Hid (-lowI a = skR z P N rank) := by
            refine (?_ : -lowI a = skR z P N rank)
            rw [← HF.out, HR.out, HS.out]; exact (if_pos hgt).symm
          have d1 : decide (rank < wAdd g u) = true := decide_eq_true hgt
          go_wp2_with (first
            | (go_at_call 58; refine (c_standsIn _ _ _ _ _ _ hu hg (HG2.out _) (HR2.out _) (by omega)).mono ?_; rintro e w8 ⟨rfl, rfl⟩; rw [d1])
            | (go_at_call 59; refine (c_i_BinLow _ _ ha).mono ?_; rintro e w1 ⟨rfl, rfl⟩))
          go_ret
          exact ⟨ret_i HE.out, chain HT6.out (HB9.out _ _)⟩
        · have HE : Hid (rk rank 0 (ents z P N) = rk rank (wAdd g u) ((N.reverse.map fN).drop (j + 1) ++ (z, 0) :: P.map fP)) := by
            refine (?_ : rk rank 0 (ents z P N) = rk rank (wAdd g u) ((N.reverse.map fN).drop (j + 1) ++ (z, 0) :: P.map fP))
            rw [HR.out, HS.out]; exact if_neg hgt
          have d1 : decide (rank < wAdd g u) = false := decide_eq_false hgt
          go_wp2_with (first
            | (go_at_call 58; refine (c_standsIn _ _ _ _ _ _ hu hg (HG2.out _) (HR2.out _) (by omega)).mono ?_; rintro e w8 ⟨rfl, rfl⟩; rw [d1]))
          go_roundw
          case rel => exact ⟨HB9.out _ _, j + 1, _, by omega, by go_num, HN2.out _ _, by simp; omega, hw, HE⟩
          case measure => simp [intOf]; omega
      · have HR2 : Hid (rk rank 0 (ents z P N) = rk rank g ((z, 0) :: P.map fP)) := by
          refine (?_ : rk rank 0 (ents z P N) = rk rank g ((z, 0) :: P.map fP))
          rw [HR.out, List.drop_eq_nil_of_le (by simp; have := EN.out; omega)]; rfl
        have hw := wAdd_in hg HZ.out
        have hK2 : ∀ x, SkCell (wr.setCell ⟨w6.heap.size, 0, none⟩ x) w.heap.size z (.slice pa pn pc) (.slice na nn nc) h l := fun x => sk_past K6 (hbel.setCell (Nat.le_refl _) _)
        have hN2 : ∀ x, NumAt (wr.setCell ⟨w6.heap.size, 0, none⟩ (.int .u64 x)) w6.heap.size x := fun x => ⟨World.cell?_setCell_same _ _ _ hG.1, by rw [World.frozen?_setCell]; exact hG.2⟩
        have hb9 : ∀ x, Below w6.heap.size w6 (wr.setCell ⟨w6.heap.size, 0, none⟩ x) := fun x => HB.out.setCell (Nat.le_refl _) _
        have HN2 := hide hN2
        have HB9 := hide hb9
        have HG7 := hide hG
        have HR7 := hide R7
        have HK6 := hide K6
        have HR6 := hide R6
        clear hbel HR hN2 hb9 hG R7 K6 R6
        by_cases hgt : rank < wAdd g z
        · have HE : Hid (0 = skR z P N rank) := by
            refine (?_ : 0 = skR z P N rank)
            rw [← HF.out, HR2.out]; exact (if_pos hgt).symm
          have d1 : decide (rank < wAdd g z) = true := decide_eq_true hgt
          go_wp2_with (first
            | (go_at_call 58; refine (c_standsIn _ _ _ _ _ _ HZ.out hg HG7.out HR7.out (by omega)).mono ?_; rintro e w8 ⟨rfl, rfl⟩; rw [d1]))
          go_ret
          exact ⟨ret_i HE.out, chain HT6.out (HB9.out _)⟩
        · have HE : Hid (rk rank 0 (ents z P N) = rk rank (wAdd g z) ((P.map fP).drop 0 ++ [])) := by
            refine (?_ : rk rank 0 (ents z P N) = rk rank (wAdd g z) ((P.map fP).drop 0 ++ []))
            rw [HR2.out, List.append_nil]; exact if_neg hgt
          have d1 : decide (rank < wAdd g z) = false := decide_eq_false hgt
          go_wp2_with (first
            | (go_at_call 58; refine (c_standsIn _ _ _ _ _ _ HZ.out hg HG7.out HR7.out (by omega)).mono ?_; rintro e w8 ⟨rfl, rfl⟩; rw [d1]))
          go_loopw [48] (fun i wr => Below w6.heap.size w6 wr ∧ ∃ (j : Nat) (g : Int), j ≤ pn ∧ i = .int .i64 j ∧ NumAt wr w6.heap.size g ∧ w6.heap.size < wr.heap.size ∧ U64 g ∧ Hid (rk rank 0 (ents z P N) = rk rank g ((P.map fP).drop j ++ []))) (fun i wr => pn - (intOf i).toNat)
          case atStart => exact ⟨HB9.out _, 0, _, Nat.zero_le _, rfl, HN2.out _, by simp; omega, hw, HE⟩
          case round =>
            clear K7 HT7 hw HE HN2 HB9 HG7 HR7 hgt d1 HR2 HB hg hzG hK2
            obtain ⟨hbel, k, g, hk, rfl, hG, hzG, hg, HR⟩ := hrel
            have HB := hide hbel
            have R7 : NumAt wr (w.heap.size + 1) rank := ⟨cell_past hbel HR6.out.1, by rw [frozen_past hbel HR6.out.1]; exact HR6.out.2⟩
            have HT7 := hide (chain HT6.out hbel)
            by_cases hkn : k < pn
            · obtain ⟨⟨a, u⟩, hRk⟩ : ∃ a, P[k]? = some a := ⟨P[k]'(by have := EP.out; omega), List.getElem?_eq_getElem _⟩
              have hRr : (P.map fP)[k]? = some (fP (a, u)) := by rw [List.getElem?_map, hRk]; rfl
              obtain ⟨ha, hu⟩ := KP.out _ (List.mem_of_getElem? hRk)
              obtain ⟨b, off, rfl, hcell⟩ := HP.out (by have := EP.out; omega)
              have hc0 := cell_past HT7.out (hcell k _ hRk).1
              have hc1 := cell_past HT7.out (hcell k _ hRk).2
              have HS := hide (rk_step (T := []) hRr rank g)
              have hw := wAdd_in hg hu
              clear hbel hcell hRk hRr
              simp only at hu ha
              have hG2 : ∀ o, NumAt (wr.alloc o) w6.heap.size g := fun o => ⟨cell_on hG.1 o, by rw [frozen_past ((Below.refl _ _).alloc (Nat.le_refl _) _) hG.1]; exact hG.2⟩
              have hR2 : ∀ o, NumAt (wr.alloc o) (w.heap.size + 1) rank := fun o => ⟨cell_on R7.1 o, by rw [frozen_past ((Below.refl _ _).alloc (Nat.le_refl _) _) R7.1]; exact R7.2⟩
              have hb0 : ∀ x t, ((wr.alloc (.cells #[.int .i64 a, .int .u64 u] t)).setCell ⟨w6.heap.size, 0, none⟩ x).cell? ⟨wr.heap.size, 0, none⟩ = some (.int .i64 a) := fun x t => by
                rw [World.cell?_setCell_other _ _ _ _ (by simp <;> omega)]; simp
              have hN2 : ∀ o x, NumAt ((wr.setCell ⟨w6.heap.size, 0, none⟩ (.int .u64 x)).alloc o) w6.heap.size x := fun o x => by
                have c := World.cell?_setCell_same _ _ (.int .u64 x) hG.1
                exact ⟨cell_on c o, by rw [frozen_past ((Below.refl _ _).alloc (Nat.le_refl _) _) c, World.frozen?_setCell]; exact hG.2⟩
              have hb9 : ∀ o x, Below w6.heap.size w6 ((wr.setCell ⟨w6.heap.size, 0, none⟩ x).alloc o) := fun o x => (HB.out.setCell (Nat.le_refl _) _).alloc (by simp; omega) _
              have HN2 := hide hN2
              have HB9 := hide hb9
              have HG2 := hide hG2
              have HR2 := hide hR2
              clear hN2 hb9 hG2 hR2 hG R7
              by_cases hgt : rank < wAdd g u
              · have HE : Hid (lowI a = skR z P N rank) := by
                  refine (?_ : lowI a = skR z P N rank)
                  rw [← HF.out, HR.out, HS.out]; exact (if_pos hgt).symm
                have d1 : decide (rank < wAdd g u) = true := decide_eq_true hgt
                go_wp2_with (first
                  | (go_at_call 58; refine (c_standsIn _ _ _ _ _ _ hu hg (HG2.out _) (HR2.out _) (by omega)).mono ?_; rintro e w8 ⟨rfl, rfl⟩; rw [d1])
                  | (go_at_call 59; refine (c_i_BinLow _ _ ha).mono ?_; rintro e w1 ⟨rfl, rfl⟩))
                go_ret
                exact ⟨ret_i HE.out, chain HT6.out (HB9.out _ _)⟩
              · have HE : Hid (rk rank 0 (ents z P N) = rk rank (wAdd g u) ((P.map fP).drop (k + 1) ++ [])) := by
                  refine (?_ : rk rank 0 (ents z P N) = rk rank (wAdd g u) ((P.map fP).drop (k + 1) ++ []))
                  rw [HR.out, HS.out]; exact if_neg hgt
                have d1 : decide (rank < wAdd g u) = false := decide_eq_false hgt
                go_wp2_with (first
                  | (go_at_call 58; refine (c_standsIn _ _ _ _ _ _ hu hg (HG2.out _) (HR2.out _) (by omega)).mono ?_; rintro e w8 ⟨rfl, rfl⟩; rw [d1]))
                go_roundw
                case rel => exact ⟨HB9.out _ _, k + 1, _, by omega, by go_num, HN2.out _ _, by simp; omega, hw, HE⟩
                case measure => simp [intOf]; omega
            · have HE : Hid (0 = skR z P N rank) := by
                refine (?_ : 0 = skR z P N rank)
                rw [← HF.out, HR.out, List.drop_eq_nil_of_le (by simp; have := EP.out; omega)]; rfl
              clear hbel HR hG R7
              go_wp2
              go_ret
              exact ⟨ret_i HE.out, HT7.out⟩
end Go.Proofs.Ytjpjjofjjejckaa
