/-
  The contract of spec.l01Split: a text's pieces between a byte.
-/
import Derived.Test.YtalmhekbagjdeaaGreatDoorRows
import Derived.Test.YtalmhekbagjdeaaGreatDoorKeep
import Derived.WalkKit
import Derived.ProofKit
import Derived.OpenShut
import Derived.Below
import Derived.WalkSpells
import Derived.PlainAid
import Derived.Outline
import Derived.OwnWalk
import Derived.WalkSmall
namespace Go.Proofs.YtalmhekbagjdeaaGreatDoor
set_option linter.unusedVariables false
set_option linter.unusedSimpArgs false
open Go.ChangeShapes Go.WideShapes Go.ChangeAt Go.RowKit Go.PlainAid

theorem size_extract (s : ByteArray) (a b : Nat) : (s.extract a b).size = min b s.size - a := by simp
theorem bt_extract (s : ByteArray) (a b j : Nat) (hb : b ≤ s.size) (h : a + j < b) : bt (s.extract a b) j = bt s (a + j) := by
  unfold bt
  rw [dif_pos (show j < (s.extract a b).size by rw [size_extract]; omega), dif_pos (show a + j < s.size by omega)]
  simp [ByteArray.getElem_extract]

/-- The pieces that end ahead of place k, and where the next one begins. -/
def spl (t : ByteArray) (b : Int) : Nat → List ByteArray × Nat
  | 0 => ([], 0)
  | k + 1 => if bt t k = b then ((spl t b k).1 ++ [t.extract (spl t b k).2 k], k + 1) else spl t b k
theorem spl_hit {t : ByteArray} {b : Int} {k : Nat} (h : bt t k = b) : spl t b (k + 1) = ((spl t b k).1 ++ [t.extract (spl t b k).2 k], k + 1) := by
  show (if bt t k = b then _ else _) = _; rw [if_pos h]
theorem spl_miss {t : ByteArray} {b : Int} {k : Nat} (h : ¬ bt t k = b) : spl t b (k + 1) = spl t b k := by
  show (if bt t k = b then _ else _) = _; rw [if_neg h]
theorem spl_le (t : ByteArray) (b : Int) : ∀ k, (spl t b k).2 ≤ k ∧ (spl t b k).1.length ≤ k
  | 0 => ⟨Nat.le_refl _, Nat.le_refl _⟩
  | k + 1 => by
    have ih := spl_le t b k
    by_cases h : bt t k = b
    · rw [spl_hit h]; simp; omega
    · rw [spl_miss h]; omega
/-- All pieces. -/
def splL (t : ByteArray) (b : Int) : List ByteArray := (spl t b t.size).1 ++ [t.extract (spl t b t.size).2 t.size]
theorem splL_len (t : ByteArray) (b : Int) : (splL t b).length = (spl t b t.size).1.length + 1 := by simp [splL]

theorem spl_none {t : ByteArray} {b : Int} : ∀ k, (∀ j, j < k → ¬ bt t j = b) → spl t b k = ([], 0)
  | 0, _ => rfl
  | k + 1, h => by rw [spl_miss (h k (by omega))]; exact spl_none k (fun j hj => h j (by omega))
theorem spl_one {t : ByteArray} {b : Int} {d : Nat} (hd : bt t d = b) : ∀ k, d < k → (∀ j, j < k → j ≠ d → ¬ bt t j = b) → spl t b k = ([t.extract 0 d], d + 1)
  | 0, h, _ => absurd h (by omega)
  | k + 1, h, hn => by
    by_cases e : k = d
    · subst e
      rw [spl_hit hd, spl_none k (fun j hj => hn j (by omega) (by omega))]; rfl
    · rw [spl_miss (hn k (by omega) e)]; exact spl_one hd k (by omega) (fun j hj => hn j (by omega))
theorem spl_mono (t : ByteArray) (b : Int) (k : Nat) : ∀ n, (spl t b k).1.length ≤ (spl t b (k + n)).1.length
  | 0 => Nat.le_refl _
  | n + 1 => by
    have ih := spl_mono t b k n
    by_cases h : bt t (k + n) = b
    · rw [← Nat.add_assoc, spl_hit h]; simp; omega
    · rw [← Nat.add_assoc, spl_miss h]; exact ih
theorem spl_two {t : ByteArray} {b : Int} {d e : Nat} (hd : bt t d = b) (he : bt t e = b) (hde : d < e) (hes : e < t.size) : 2 < (splL t b).length := by
  rw [splL_len]
  have h1 := spl_mono t b (d + 1) (e - (d + 1))
  have h2 := spl_mono t b (e + 1) (t.size - (e + 1))
  rw [show d + 1 + (e - (d + 1)) = e by omega] at h1
  rw [show e + 1 + (t.size - (e + 1)) = t.size by omega] at h2
  rw [spl_hit hd] at h1
  rw [spl_hit he] at h2
  simp at h1 h2
  omega

theorem infoS : (Tryz.prog.info? 9).map (fun i => (i.zero, i.size, i.bytes)) = some (some (.string ByteArray.empty), 1, 16) := by kernel_rfl

/-- What a piece more does. -/
theorem spl_step {B k : Nat} {t : ByteArray} {b : Int} {w wr w1 : World} {v : Value} {o : Obj} (hB : B ≤ wr.heap.size) (hown : wr.ownsRow B 9 1 v (spl t b k).1.length ((spl t b k).1.map Value.string)) (hnx : Below B w wr) (hgrow : (wr.alloc o).grownBy w1 v.ownBlock) : Below B w w1 :=
  (hnx.alloc hB o).grown hgrow (by simp; omega) (fun j hj => (hown.lt j hj).1)
theorem own_cast {B : Nat} {w : World} {v : Value} {n n' : Nat} {xs xs' : List Value} (h : w.ownsRow B 9 1 v n xs) (e : n = n') (e2 : xs = xs') : w.ownsRow B 9 1 v n' xs' := by subst e e2; exact h
/-- What an owned row of strings reads as. -/
theorem own_out {B : Nat} {w : World} {v : Value} {L : List ByteArray} (h : w.ownsRow B 9 1 v L.length (L.map Value.string)) (hne : 0 < L.length) :
    ∃ g cap, v = .slice (some ⟨g, 0, none⟩) L.length cap ∧ B ≤ g ∧ ∀ j u, L[j]? = some u → w.cell? ⟨g, j, none⟩ = some (.string u) := by
  have hc := fun g hg => h.cells (g := g) hg
  rcases h.2 with ⟨_, e⟩ | ⟨g, cap, cur, e, hb, _⟩
  · omega
  · refine ⟨g, cap, e, hb, fun j u hj => ?_⟩
    have := hc g (by rw [e]; rfl) j (.string u) (by simp [hj])
    by_cases h0 : j = 0
    · subst h0; simpa [Addr.add] using this
    · simpa [Addr.add, h0] using this

set_option maxHeartbeats 2000000 in
theorem c_l01Split (t : ByteArray) (b : Int) (ht : t.size ≤ 1048576) (hb : 0 ≤ b ∧ b ≤ 255) (w : World) :
    Calls Tryz.prog 70 #[.string t, .int .u8 b] w fun e w' => ∃ g cap, e = .returned (.slice (some ⟨g, 0, none⟩) (splL t b).length cap) ∧ w.heap.size ≤ g ∧ (∀ j u, (splL t b)[j]? = some u → w'.cell? ⟨g, j, none⟩ = some (.string u)) ∧ Below w.heap.size w w' := by
  obtain ⟨i0, hi, hz0, hz1, hz2⟩ := info_parts infoS
  have hbt := get_bt t
  go_enter Tryz.func70, Tryz.ntmps70
  go_wp2
  go_loopw [5, 6, 7] (fun v f i wr => ∃ k : Nat, k ≤ t.size ∧ i = .int .i64 k ∧ f = .int .i64 ((spl t b k).2 : Nat) ∧ wr.ownsRow w.heap.size 9 1 v (spl t b k).1.length ((spl t b k).1.map Value.string) ∧ Below w.heap.size w wr) (fun v f i wr => t.size - (intOf i).toNat)
  case atStart => exact ⟨0, Nat.zero_le _, rfl, rfl, World.ownsRow_made w #[] 0 (Nat.le_refl _) (Nat.zero_le _) rfl, (Below.refl _ _).alloc (Nat.le_refl _) _⟩
  case round =>
    obtain ⟨k, hk, rfl, rfl, hown, hbel⟩ := hrel
    have hsz := hbel.size
    obtain ⟨hf, hln⟩ := spl_le t b k
    obtain ⟨F, hF⟩ : ∃ F, F = (spl t b k).2 := ⟨_, rfl⟩
    rw [← hF] at hf
    rw [← hF]
    by_cases hlt : k < t.size
    · have hki : (k : Int) < (t.size : Int) := by omega
      by_cases hh : bt t k = b
      · have hh' : (bt t k == b) = true := by simp [hh]
        have HS : Hid (spl t b (k + 1) = ((spl t b k).1 ++ [t.extract F k], k + 1)) := (by rw [spl_hit hh, hF] : spl t b (k + 1) = ((spl t b k).1 ++ [t.extract F k], k + 1))
        have HF : Hid (F = (spl t b k).2) := hF
        have HB : Hid (Below w.heap.size w wr) := hbel
        have HO : Hid (wr.ownsRow w.heap.size 9 1 u5 (spl t b k).1.length ((spl t b k).1.map Value.string)) := hown
        clear hF hh hown hbel
        go_wp2_with (first
          | (at_builtin; refine wpList_append_own _ rfl _ _ 88 rfl w.heap.size 9 i0 (.string ByteArray.empty) 1 16 Tryz.underlying88 hi hz0 hz1 hz2 rfl (by decide) _ _ _ rfl (HO.out.alloc _) ⟨wr.heap.size, 0, none⟩ 1 1 [.string (t.extract F k)] rfl rfl ?c1 ?c2 ?c3 ?c4 ?c5 ?_))
        case c1 =>
          intro j u hj
          match j, hj with
          | 0, hj => simp at hj; subst hj; simp [Addr.add]
        case c2 => intro u hu; simp at hu; subst hu; rfl
        case c3 => unfold maxLen; omega
        case c4 => omega
        case c5 => simp; omega
        · intro v' w1 hown' hgrow _
          have R := spl_step (t := t) (b := b) (k := k) hsz HO.out HB.out hgrow
          have R2 : w1.ownsRow w.heap.size 9 1 v' (spl t b (k + 1)).1.length ((spl t b (k + 1)).1.map Value.string) := own_cast hown' (by rw [HS.out]; simp) (by rw [HS.out]; simp)
          clear hown' hgrow HO HB
          go_wp2
          go_roundw
          case rel => exact ⟨k + 1, by omega, by go_num, by rw [HS.out]; go_num, R2, R⟩
          case measure => simp [intOf]; omega
      · have hh' : (bt t k == b) = false := beq_eq_false_iff_ne.2 hh
        have HS : Hid (spl t b (k + 1) = spl t b k) := spl_miss hh
        have HF : Hid (F = (spl t b k).2) := hF
        have HB : Hid (Below w.heap.size w wr) := hbel
        have HO : Hid (wr.ownsRow w.heap.size 9 1 u5 (spl t b k).1.length ((spl t b k).1.map Value.string)) := hown
        clear hF hh hown hbel
        go_wp2
        go_roundw
        case rel => exact ⟨k + 1, by omega, by go_num, by rw [HS.out, HF.out], by rw [HS.out]; exact HO.out, HB.out⟩
        case measure => simp [intOf]; omega
    · have e : k = t.size := by omega
      subst e
      have hki : ¬ (t.size : Int) < (t.size : Int) := by omega
      have hfi : (F : Int) ≤ (t.size : Int) := by omega
      have HF : Hid (F = (spl t b t.size).2) := hF
      have HB : Hid (Below w.heap.size w wr) := hbel
      have HO : Hid (wr.ownsRow w.heap.size 9 1 u5 (spl t b t.size).1.length ((spl t b t.size).1.map Value.string)) := hown
      clear hF hown hbel
      go_wp2_with (first
          | (at_builtin; refine wpList_append_own _ rfl _ _ 88 rfl w.heap.size 9 i0 (.string ByteArray.empty) 1 16 Tryz.underlying88 hi hz0 hz1 hz2 rfl (by decide) _ _ _ rfl (HO.out.alloc _) ⟨wr.heap.size, 0, none⟩ 1 1 [.string (t.extract F t.size)] rfl rfl ?d1 ?d2 ?d3 ?d4 ?d5 ?_))
      case d2 => first | rfl | simp [Value.oneCell'] | (intro u hu; simp at hu; subst hu; rfl)
      case d3 => unfold maxLen; omega
      case d4 => omega
      case d5 => first | omega | (simp; omega)
      · intro v' w1 hown' hgrow _
        have R := spl_step (t := t) (b := b) (k := t.size) hsz HO.out HB.out hgrow
        have R2 : w1.ownsRow w.heap.size 9 1 v' (splL t b).length ((splL t b).map Value.string) := own_cast hown' (by rw [splL_len]) (by unfold splL; rw [← HF.out]; simp)
        obtain ⟨g, cap, rfl, hg, hcell⟩ := own_out R2 (by rw [splL_len]; omega)
        clear hown' hgrow HO HB
        go_wp2
        go_ret
        exact ⟨g, cap, rfl, hg, hcell, R⟩
end Go.Proofs.YtalmhekbagjdeaaGreatDoor
