/-
  l01Split, its room told too.
-/
import Derived.Test.YtljngkjhhkccgaaGreatDoorSplM
namespace Go.Proofs.YtljngkjhhkccgaaGreatDoor
set_option linter.unusedVariables false
set_option linter.unusedSimpArgs false
open Go.ChangeShapes Go.WideShapes Go.ChangeAt Go.RowKit Go.PlainAid

theorem own_outC {B : Nat} {w : World} {v : Value} {L : List ByteArray} (h : w.ownsRow B 9 1 v L.length (L.map Value.string)) (hne : 0 < L.length) :
    ∃ g cap, v = .slice (some ⟨g, 0, none⟩) L.length cap ∧ B ≤ g ∧ L.length ≤ cap ∧ ∀ j u, L[j]? = some u → w.cell? ⟨g, j, none⟩ = some (.string u) := by
  obtain ⟨g, cap, e, hb, hc⟩ := own_out h hne
  refine ⟨g, cap, e, hb, ?_, hc⟩
  rcases h.2 with ⟨_, e2⟩ | ⟨g2, cap2, cur, e2, hb2, h1, h2, h3, h4⟩
  · omega
  · rw [e] at e2
    cases e2
    omega
set_option maxHeartbeats 2000000 in
theorem c_l01SplitC (t : ByteArray) (b : Int) (ht : t.size ≤ 1048576) (hb : 0 ≤ b ∧ b ≤ 255) (w : World) :
    Calls Tryz.prog 9 #[.string t, .int .u8 b] w fun e w' => ∃ g cap, e = .returned (.slice (some ⟨g, 0, none⟩) (splL t b).length cap) ∧ w.heap.size ≤ g ∧ (splL t b).length ≤ cap ∧ (∀ j u, (splL t b)[j]? = some u → w'.cell? ⟨g, j, none⟩ = some (.string u)) ∧ Below w.heap.size w w' := by
  obtain ⟨i0, hi, hz0, hz1, hz2⟩ := info_parts infoS
  have hbt := get_bt t
  go_enter Tryz.func9, Tryz.ntmps9
  go_wp2
  go_loopw [5, 6, 7] (fun v f i wr => ∃ k : Nat, k ≤ t.size ∧ i = .int .i64 k ∧ f = .int .i64 ((spl t b k).2 : Nat) ∧ wr.ownsRow w.heap.size 9 1 v (spl t b k).1.length ((spl t b k).1.map Value.string) ∧ Below w.heap.size w wr) (fun v f i wr => t.size - (intOf i).toNat)
  case atStart => exact ⟨0, Nat.zero_le _, rfl, rfl, World.ownsRow_made w #[] 0 (Nat.le_refl _) (Nat.zero_le _) rfl, (Below.refl _ _).alloc (Nat.le_refl _) _⟩
  case round =>
    obtain ⟨k, hk, rfl, rfl, hown, hbel⟩ := hrel
    have hsz := hbel.size
    obtain ⟨hf, hln⟩ := spl_le t b k
    obtain ⟨F, hF⟩ : ∃ F, F = (spl t b k).2 := ⟨_, rfl⟩
    rw [← hF] at hf
    rw [← hF]
    by_cases hlt : k < t.size
    · have hki : (k : Int) < (t.size : Int) := by omega
      by_cases hh : bt t k = b
      · have hh' : (bt t k == b) = true := by simp [hh]
        have HS : Hid (spl t b (k + 1) = ((spl t b k).1 ++ [t.extract F k], k + 1)) := (by rw [spl_hit hh, hF] : spl t b (k + 1) = ((spl t b k).1 ++ [t.extract F k], k + 1))
        have HF : Hid (F = (spl t b k).2) := hF
        have HB : Hid (Below w.heap.size w wr) := hbel
        have HO : Hid (wr.ownsRow w.heap.size 9 1 u5 (spl t b k).1.length ((spl t b k).1.map Value.string)) := hown
        clear hF hh hown hbel
        go_wp2_with (first
          | (at_builtin; refine wpList_append_own _ rfl _ _ 31 rfl w.heap.size 9 i0 (.string ByteArray.empty) 1 16 Tryz.underlying31 hi hz0 hz1 hz2 rfl (by decide) _ _ _ rfl (HO.out.alloc _) ⟨wr.heap.size, 0, none⟩ 1 1 [.string (t.extract F k)] rfl rfl ?c1 ?c2 ?c3 ?c4 ?c5 ?_))
        case c1 =>
          intro j u hj
          match j, hj with
          | 0, hj => simp at hj; subst hj; simp [Addr.add]
        case c2 => intro u hu; simp at hu; subst hu; rfl
        case c3 => unfold maxLen; omega
        case c4 => omega
        case c5 => simp; omega
        · intro v' w1 hown' hgrow _
          have R := spl_step (t := t) (b := b) (k := k) hsz HO.out HB.out hgrow
          have R2 : w1.ownsRow w.heap.size 9 1 v' (spl t b (k + 1)).1.length ((spl t b (k + 1)).1.map Value.string) := own_cast hown' (by rw [HS.out]; simp) (by rw [HS.out]; simp)
          clear hown' hgrow HO HB
          go_wp2
          go_roundw
          case rel => exact ⟨k + 1, by omega, by go_num, by rw [HS.out]; go_num, R2, R⟩
          case measure => simp [intOf]; omega
      · have hh' : (bt t k == b) = false := beq_eq_false_iff_ne.2 hh
        have HS : Hid (spl t b (k + 1) = spl t b k) := spl_miss hh
        have HF : Hid (F = (spl t b k).2) := hF
        have HB : Hid (Below w.heap.size w wr) := hbel
        have HO : Hid (wr.ownsRow w.heap.size 9 1 u5 (spl t b k).1.length ((spl t b k).1.map Value.string)) := hown
        clear hF hh hown hbel
        go_wp2
        go_roundw
        case rel => exact ⟨k + 1, by omega, by go_num, by rw [HS.out, HF.out], by rw [HS.out]; exact HO.out, HB.out⟩
        case measure => simp [intOf]; omega
    · have e : k = t.size := by omega
      subst e
      have hki : ¬ (t.size : Int) < (t.size : Int) := by omega
      have hfi : (F : Int) ≤ (t.size : Int) := by omega
      have HF : Hid (F = (spl t b t.size).2) := hF
      have HB : Hid (Below w.heap.size w wr) := hbel
      have HO : Hid (wr.ownsRow w.heap.size 9 1 u5 (spl t b t.size).1.length ((spl t b t.size).1.map Value.string)) := hown
      clear hF hown hbel
      go_wp2_with (first
          | (at_builtin; refine wpList_append_own _ rfl _ _ 31 rfl w.heap.size 9 i0 (.string ByteArray.empty) 1 16 Tryz.underlying31 hi hz0 hz1 hz2 rfl (by decide) _ _ _ rfl (HO.out.alloc _) ⟨wr.heap.size, 0, none⟩ 1 1 [.string (t.extract F t.size)] rfl rfl ?d1 ?d2 ?d3 ?d4 ?d5 ?_))
      case d2 => first | rfl | simp [Value.oneCell'] | (intro u hu; simp at hu; subst hu; rfl)
      case d3 => unfold maxLen; omega
      case d4 => omega
      case d5 => first | omega | (simp; omega)
      · intro v' w1 hown' hgrow _
        have R := spl_step (t := t) (b := b) (k := t.size) hsz HO.out HB.out hgrow
        have R2 : w1.ownsRow w.heap.size 9 1 v' (splL t b).length ((splL t b).map Value.string) := own_cast hown' (by rw [splL_len]) (by unfold splL; rw [← HF.out]; simp)
        obtain ⟨g, cap, rfl, hg, hnc, hcell⟩ := own_outC R2 (by rw [splL_len]; omega)
        clear hown' hgrow HO HB
        go_wp2
        go_ret
        exact ⟨g, cap, rfl, hg, hnc, hcell, R⟩
end Go.Proofs.YtljngkjhhkccgaaGreatDoor
