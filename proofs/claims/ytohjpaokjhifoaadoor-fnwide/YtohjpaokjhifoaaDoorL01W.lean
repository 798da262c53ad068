/-
  The contract of spec.l01Wide: a number below 2^128 in digits.
-/
import Derived.Test.YtohjpaokjhifoaaDoorTen
import Derived.Test.YtohjpaokjhifoaaDoorMathG
import Derived.OwnWalk
import Derived.Deep.AppendLies
import Derived.Laws.BytesArg
namespace Go.Proofs.YtohjpaokjhifoaaDoor
set_option linter.unusedVariables false
set_option linter.unusedSimpArgs false
open Go.ChangeShapes Go.WideShapes Go.ChangeAt Go.RowKit

theorem infoU8 : (Tryd.prog.info? 5).map (fun i => (i.zero, i.size, i.bytes)) = some (some (.int .u8 0), 1, 1) := by kernel_rfl

/-- The test of a round. -/
theorem go_on (M : Nat) (L : List Int) : ((L = [] ∨ M ≠ 0) ∧ ((hiN M != 0) = true ∨ ((hiN M != 0) = false ∧ (loN M != 0) = true) ∨ ((hiN M != 0) = false ∧ (loN M != 0) = false ∧ ((L.length : Int) == 0) = true))) ∨
    ((hiN M != 0) = false ∧ (loN M != 0) = false ∧ ((L.length : Int) == 0) = false ∧ M = 0 ∧ L ≠ []) := by
  by_cases e : hiN M = 0
  · have e1 : (hiN M != 0) = false := by simp [e]
    by_cases k : loN M = 0
    · have e2 : (loN M != 0) = false := by simp [k]
      have hM : M = 0 := by unfold hiN at e; unfold loN at k; omega
      cases L with
      | nil => exact .inl ⟨.inl rfl, .inr (.inr ⟨e1, e2, rfl⟩)⟩
      | cons x l => exact .inr ⟨e1, e2, by simp; omega, hM, by simp⟩
    · exact .inl ⟨.inr (by unfold loN at k; omega), .inr (.inl ⟨e1, by simpa using k⟩)⟩
  · exact .inl ⟨.inr (by unfold hiN at e; omega), .inl (by simpa using e)⟩

theorem ret_str {a b : ByteArray} (h : a = b) : Ending.returned (.string a) = .returned (.string b) := by rw [h]
def bys (L : List Int) : List Value := L.map (Value.int .u8)

def lenOf : Value → Nat | .slice _ n _ => n | _ => 0

theorem own_form {w : World} {base e size n : Nat} {v : Value} {xs : List Value} (h : w.ownsRow base e size v n xs) : ∃ ao cap, v = .slice ao n cap := by
  rcases h.2 with ⟨hv, hn⟩ | ⟨g, cap, cur, hv, _⟩
  · subst hn; exact ⟨none, 0, hv⟩
  · exact ⟨_, cap, hv⟩

/-- What a round of the first loop leaves. -/
theorem own_step {w wr w1 : World} {e : Nat} {v v' : Value} {L : List Int} {x : Int} {o : Obj} (hbel : Below w.heap.size w wr) (hown : wr.ownsRow w.heap.size e 1 v L.length (bys L)) (hown' : w1.ownsRow w.heap.size e 1 v' (L.length + 1) (bys L ++ [.int .u8 x])) (hgrow : (wr.alloc o).grownBy w1 v.ownBlock) :
    w1.ownsRow w.heap.size e 1 v' (L ++ [x]).length (bys (L ++ [x])) ∧ Below w.heap.size w w1 := by
  refine ⟨by simpa [bys] using hown', ?_⟩
  refine (hbel.alloc hbel.size o).grown hgrow (by have := hbel.size; simp; omega) ?_
  intro k hk
  rcases hown.2 with ⟨hv, _⟩ | ⟨g, cap, cur, hv, hg, _⟩
  · subst hv; simp [Value.ownBlock] at hk
  · subst hv; simp [Value.ownBlock] at hk; omega

theorem bys_get (L : List Int) (j : Nat) (h : j < L.length) : (bys L)[j]? = some (.int .u8 (L.getD j 0)) := by
  simp [bys, List.getElem?_map, List.getElem?_eq_getElem h, List.getD_eq_getElem?_getD]
theorem bys_set (L : List Int) (j : Nat) (x : Int) : (bys L).set j (.int .u8 x) = bys (L.set j x) := by simp [bys, List.map_set]
theorem revK_at (D : List Int) (k : Nat) (h : k < D.length / 2) : (revK D k).getD k 0 = D.getD k 0 ∧ (revK D k).getD (D.length - 1 - k) 0 = D.getD (D.length - 1 - k) 0 := by
  constructor
  · rw [List.getD_eq_getElem?_getD, revK_get D k k (by omega), if_neg (by omega)]; rfl
  · rw [List.getD_eq_getElem?_getD, revK_get D k _ (by omega), if_neg (by omega)]; rfl
/-- What a round of the second loop leaves. -/
theorem swap_step {w wr : World} {e g cap : Nat} {D : List Int} {k : Nat} (hk : k < D.length / 2) (hg : w.heap.size ≤ g) (hbel : Below w.heap.size w wr) (hown : wr.ownsRow w.heap.size e 1 (.slice (some ⟨g, 0, none⟩) D.length cap) D.length (bys (revK D k))) :
    ((wr.setCell ⟨g, k, none⟩ (.int .u8 (D.getD (D.length - 1 - k) 0))).setCell ⟨g, D.length - 1 - k, none⟩ (.int .u8 (D.getD k 0))).ownsRow w.heap.size e 1 (.slice (some ⟨g, 0, none⟩) D.length cap) D.length (bys (revK D (k + 1))) ∧
    Below w.heap.size w ((wr.setCell ⟨g, k, none⟩ (.int .u8 (D.getD (D.length - 1 - k) 0))).setCell ⟨g, D.length - 1 - k, none⟩ (.int .u8 (D.getD k 0))) := by
  have h1 := (hown.stored k (.int .u8 (D.getD (D.length - 1 - k) 0))).1
  rw [bys_set] at h1
  have h2 := (h1.stored (D.length - 1 - k) (.int .u8 (D.getD k 0))).1
  rw [bys_set, revK_step D k hk] at h2
  exact ⟨h2, (hbel.setCell (by exact hg) _).setCell (by exact hg) _⟩

set_option maxHeartbeats 2000000 in
theorem c_l01Wide (N : Nat) (hN : N < 340282366920938463463374607431768211456) (w : World) :
    Calls Tryd.prog 61 #[.int .u64 (hiN N), .int .u64 (loN N)] w fun e w' => e = .returned (.string (strOfNums (decR N).reverse)) ∧ Below w.heap.size w w' := by
  obtain ⟨i0, hi, hz0, hz1, hz2⟩ := info_parts infoU8
  go_enter Tryd.func61, Tryd.ntmps61
  go_wp2
  go_loopw [0, 1, 5] (fun h l v wr => ∃ (M : Nat) (L : List Int), h = .int .u64 (hiN M) ∧ l = .int .u64 (loN M) ∧ Dig N M L ∧ wr.ownsRow w.heap.size 5 1 v L.length (bys L) ∧ Below w.heap.size w wr)
    (fun h l v wr => 40 - lenOf v)
  case atStart => exact ⟨N, [], rfl, rfl, dig_start N hN, ⟨rfl, .inr ⟨w.heap.size, 0, #[], rfl, Nat.le_refl _, heap_alloc_new w _, Nat.le_refl _, Nat.zero_le _, rfl, rfl⟩⟩, (Below.refl _ _).alloc (Nat.le_refl _) _⟩
  case round =>
    obtain ⟨M, L, rfl, rfl, hD, hown, hbel⟩ := hrel
    obtain ⟨ao, cap, hv⟩ := own_form hown
    subst hv
    have HM : Hid (M < 340282366920938463463374607431768211456) := dig_lt hD hN
    have hd0 := (dgN_in M).1
    have hd1 := (dgN_in M).2
    have HD : Hid (Dig N M L) := hD
    have hL : L.length ≤ 39 := hD.1
    have hsz : w.heap.size ≤ wr.heap.size := hbel.size
    clear hD
    rcases go_on M L with ⟨hgo, htest⟩ | ⟨g1, g2, g3, hM, hne⟩
    · have HS : Hid (Dig N (M / 10) (L ++ [48 + dgN M])) := dig_step HD.out hgo
      have hL2 : L.length ≤ 38 := dig_room HD.out hgo
      clear hgo
      rcases htest with g1 | ⟨g1, g2⟩ | ⟨g1, g2, g3⟩
      all_goals
        go_wp2_with (first
          | (go_at_call 79; refine (c_l01Tenth M HM.out _).mono ?_; rintro e w1 ⟨rfl, hw⟩; obtain rfl := hw.symm)
          | (at_builtin; refine wpList_append_own _ rfl _ _ 22 rfl w.heap.size 5 i0 (.int .u8 0) 1 1 Tryd.underlying22 hi hz0 hz1 hz2 rfl (by decide) _ _ _ rfl (hown.alloc _) ⟨wr.heap.size, 0, none⟩ 1 1 [.int .u8 (48 + dgN M)] rfl rfl (cell_one_new _ _ _) (by intro u hu; simp at hu; subst hu; rfl) (by unfold maxLen; omega) (by omega) (by simp; omega) ?_; intro v' w1 hown' hgrow _))
        have R := own_step hbel hown hown' hgrow
        obtain ⟨ao', cap', hv'⟩ := own_form hown'
        clear hown' hgrow hown hbel
        subst hv'
        go_wp2
        go_roundw
        case rel => exact ⟨M / 10, L ++ [48 + dgN M], rfl, rfl, HS.out, R.1, R.2⟩
        case measure => simp only [lenOf]; omega
    · have HE : Hid (L = decR N) := (by subst hM; exact dig_end HD.out hne : L = decR N)
      have hpos : 0 < L.length := List.length_pos_iff.2 hne
      obtain ⟨g, cap2, hv2, hg, hglt⟩ := hown.form hpos
      cases hv2
      clear hM hne
      go_wp2
      go_loopw [9, 10] (fun i c wr2 => ∃ k : Nat, k ≤ L.length / 2 ∧ i = .int .i64 k ∧ wr2.ownsRow w.heap.size 5 1 (.slice (some ⟨g, 0, none⟩) L.length cap) L.length (bys (revK L k)) ∧ Below w.heap.size w wr2) (fun i c wr2 => L.length - (intOf i).toNat)
      case atStart => exact ⟨0, Nat.zero_le _, rfl, by rw [revK_zero]; exact hown, hbel⟩
      case round =>
        clear hown hbel
        obtain ⟨k, hk, rfl, hown, hbel⟩ := hrel
        by_cases hlt : k < L.length / 2
        · have R := swap_step hlt hg hbel hown
          have c1 := hown.cellAt k (by omega)
          have c2 := hown.cellAt (L.length - 1 - k) (by omega)
          rw [bys_get _ _ (by rw [revK_len]; omega), (revK_at L k hlt).1] at c1
          rw [bys_get _ _ (by rw [revK_len]; omega), (revK_at L k hlt).2] at c2
          have f1 := fun j => hown.frozenAt j
          have HR : Hid (_ ∧ _) := R
          have i1 : (0 : Int) ≤ (L.length : Int) - 1 - (k : Int) := by omega
          have i2 : (L.length : Int) - 1 - (k : Int) < (L.length : Int) := by omega
          have i3 : ((L.length : Int) - 1 - (k : Int)).toNat = L.length - 1 - k := by omega
          have i4 : (k : Int) < (L.length : Int) := by omega
          have i5 : (k : Int) < (L.length : Int) / 2 := by omega
          clear R hown hbel
          go_wp2
          go_roundw
          case rel => exact ⟨k + 1, by omega, by go_num, HR.out.1, HR.out.2⟩
          case measure => simp [intOf]; omega
        · have e : k = L.length / 2 := by omega
          rw [e, revK_end] at hown
          have hlen : L.reverse.length = L.length := by simp
          have kc := run_convert_bytes_arg (P := Tryd.prog) wr 22 5 Tryd.underlying22 Tryd.underlying5 g 0 L.length cap L.reverse hlen (fun i hi => by
            rw [Nat.zero_add, hown.cellAt i (by omega), bys_get _ _ (by rw [hlen]; exact hi)]) 9 Tryd.underlying9
          have i5 : ¬ (k : Int) < (L.length : Int) / 2 := by omega
          have HB : Hid (Below w.heap.size w wr) := hbel
          clear e hown hlen hbel
          go_wp2
          go_ret
          exact ⟨ret_str (by rw [HE.out]), HB.out⟩
end Go.Proofs.YtohjpaokjhifoaaDoor
