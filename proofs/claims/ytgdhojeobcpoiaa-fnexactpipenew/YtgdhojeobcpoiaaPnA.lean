/-
  Shards without cells, one behind the other: rows of two cells each; the laws' functions over them.
-/
import Derived.Test.YtgdhojeobcpoiaaRowsG
import Derived.Test.YtgdhojeobcpoiaaMtxC
import Derived.Test.YtgdhojeobcpoiaaStrsC
namespace Go.Proofs.Ytgdhojeobcpoiaa
set_option linter.unusedVariables false
set_option linter.unusedSimpArgs false
open Go.ChangeShapes Go.WideShapes Go.ChangeAt Go.RowKit Go.PlainAid Go.Lib
set_option maxRecDepth 10000

def encS (u : ByteArray) : List Value := [.string u, .slice none 0 0]
theorem encS2 (u : ByteArray) : (encS u).length = 2 := rfl
theorem encS_one (u : ByteArray) : ∀ v ∈ encS u, v.oneCell' = true := fun v hv => by simp [encS] at hv; rcases hv with rfl | rfl <;> rfl
def OwnS (w : World) (B : Nat) (v : Value) (L : List ByteArray) : Prop := w.ownsRow B 37 2 v L.length (fl encS L)
theorem OwnS.past {w w' : World} {B : Nat} {v : Value} {L : List ByteArray} (h : OwnS w B v L) (hb : Below w.heap.size w w') : OwnS w' B v L := own_past h hb
theorem OwnS.le {w : World} {B B' : Nat} {v : Value} {L : List ByteArray} (h : OwnS w B v L) (hb : B' ≤ B) : OwnS w B' v L := by
  refine ⟨h.1, ?_⟩
  rcases h.2 with h | ⟨g, cap, cur, e, h1, h2⟩
  · exact .inl h
  · exact .inr ⟨g, cap, cur, e, Nat.le_trans hb h1, h2⟩
theorem OwnS.at {w : World} {B : Nat} {v : Value} {L : List ByteArray} {k : Nat} {u : ByteArray} (h : OwnS w B v L) (hk : L[k]? = some u) :
    ∃ g c, v = .slice (some ⟨g, 0, none⟩) L.length c ∧ w.cell? ⟨g, k * 2, none⟩ = some (.string u) ∧ w.cell? ⟨g, k * 2 + 1, none⟩ = some (.slice none 0 0) ∧ w.frozen? ⟨g, k * 2, none⟩ = false ∧ g < w.heap.size := by
  have hkl := (List.getElem?_eq_some_iff.1 hk).1
  obtain ⟨g, c, rfl⟩ := own_form h (by omega)
  have c0 : w.cell? ⟨g, k * 2, none⟩ = some (.string u) := by
    rw [World.ownsRow.cellAt h _ (by omega)]
    have := fl_at encS2 L k _ 0 (by omega) hk
    rw [Nat.add_zero] at this; rw [this]; rfl
  have c1 : w.cell? ⟨g, k * 2 + 1, none⟩ = some (.slice none 0 0) := by
    rw [World.ownsRow.cellAt h _ (by omega), fl_at encS2 L k _ 1 (by omega) hk]; rfl
  exact ⟨g, c, rfl, c0, c1, World.ownsRow.frozenAt h _, World.block_lt_of_cell? _ _ c0⟩
theorem c_eqCellS0 (w : World) : Calls Try.prog 30 #[.slice none 0 0, .slice none 0 0] w fun e w' => e = .returned (.bool true) ∧ Below w.heap.size w w' := by
  go_enter Try.func30, Try.ntmps30
  go_wp2
  go_loopw [5] (fun i wr => i = .int .i64 0 ∧ wr = w) (fun i wr => 0)
  case atStart => exact ⟨rfl, rfl⟩
  case round =>
    obtain ⟨rfl, rfl⟩ := hrel
    go_wp2
    go_ret
    exact ⟨rfl, Below.refl _ _⟩
theorem c_markCellS0 (k : Int) (w : World) : Calls Try.prog 26 #[.slice none 0 0, .int .i64 k] w fun e w' => e = .returned (.int .i64 k) ∧ Below w.heap.size w w' := by
  go_enter Try.func26, Try.ntmps26
  go_wp2
  go_loopw [1, 5] (fun m i wr => m = .int .i64 k ∧ i = .int .i64 0 ∧ wr = w) (fun m i wr => 0)
  case atStart => exact ⟨rfl, rfl, rfl⟩
  case round =>
    obtain ⟨rfl, rfl, rfl⟩ := hrel
    go_wp2
    go_ret
    exact ⟨rfl, Below.refl _ _⟩
theorem c_heldCellS0 (k : Int) (w : World) : Calls Try.prog 27 #[.slice none 0 0, .int .i64 k] w fun e w' => e = .returned (.int .i64 k) ∧ Below w.heap.size w w' := by
  go_enter Try.func27, Try.ntmps27
  go_wp2
  go_loopw [1, 5] (fun m i wr => m = .int .i64 k ∧ i = .int .i64 0 ∧ wr = w) (fun m i wr => 0)
  case atStart => exact ⟨rfl, rfl, rfl⟩
  case round =>
    obtain ⟨rfl, rfl, rfl⟩ := hrel
    go_wp2
    go_ret
    exact ⟨rfl, Below.refl _ _⟩
theorem c_eqShard0 (u : ByteArray) (w : World) : Calls Try.prog 25 #[.agg #[.string u, .slice none 0 0], .agg #[.string u, .slice none 0 0]] w fun e w' => e = .returned (.bool true) ∧ Below w.heap.size w w' := by
  have H0 : Hid (Below w.heap.size w ((w.alloc (.cells #[.string u, .slice none 0 0] 37)).alloc (.cells #[.string u, .slice none 0 0] 37))) := ((Below.refl _ _).alloc (Nat.le_refl _) _).alloc (by simp) _
  go_enter Try.func25, Try.ntmps25
  go_wp2_with (go_at_call 30; refine (c_eqCellS0 _).mono ?_; rintro e w1 ⟨rfl, hb1⟩; have HB := hide (chain H0.out hb1); clear hb1)
  go_ret
  exact ⟨rfl, HB.out⟩
set_option maxHeartbeats 1000000 in
theorem c_eqShardS0 {w : World} {B B' : Nat} {v v' : Value} {L : List ByteArray} (hl : L.length ≤ 96) (h : OwnS w B v L) (h' : OwnS w B' v' L) :
    Calls Try.prog 18 #[v, v'] w fun e w' => e = .returned (.bool true) ∧ Below w.heap.size w w' := by
  obtain ⟨N, hN⟩ : ∃ N, L.length = N := ⟨_, rfl⟩
  obtain ⟨ao, c, rfl⟩ := own_any h
  obtain ⟨ao', c', rfl⟩ := own_any h'
  have HO := hide h
  have HO' := hide h'
  have HN := hide hN
  rw [hN] at hl ⊢
  clear h h' hN
  go_enter Try.func18, Try.ntmps18
  go_wp2
  go_loopw [5] (fun i wr => Below w.heap.size w wr ∧ ∃ k : Nat, k ≤ N ∧ i = .int .i64 k) (fun i wr => N - (intOf i).toNat)
  case atStart => exact ⟨Below.refl _ _, 0, Nat.zero_le _, rfl⟩
  case round =>
    obtain ⟨hbel, k, hk, rfl⟩ := hrel
    have HB := hide hbel
    by_cases hkn : k < N
    · obtain ⟨u, hRk⟩ : ∃ a, L[k]? = some a := ⟨L[k]'(by have := HN.out; omega), List.getElem?_eq_getElem _⟩
      obtain ⟨g, cc, e, hc0, hc1, _, hg⟩ := (HO.out.past hbel).at hRk
      cases e
      obtain ⟨g', cc', e, hd0, hd1, _, hg'⟩ := (HO'.out.past hbel).at hRk
      cases e
      clear hbel hRk
      go_wp2_with fail
      go_region_held3 (Kept wr.heap.size wr)
        (refine held ?_ (by simp) <;> first | exact (Below.refl _ _).drew | exact hS1)
        (first | (go_at_call 25; refine (c_eqShard0 _ _).mono ?_; rintro e w1 ⟨rfl, hb1⟩; obtain ⟨hS1, hS2⟩ := held_call hb1 ‹Kept _ _ _›; clear hb1))
      go_wp2
      go_roundw
      case rel => exact ⟨HB.out.trans (hS1.mono HB.out.size), k + 1, by omega, by go_num⟩
      case measure => simp [intOf]; omega
    · clear hbel
      go_wp2
      go_ret
      exact ⟨rfl, HB.out⟩
theorem c_eqPipe0 {w : World} {B B' : Nat} {v v' : Value} {L : List ByteArray} (a b c d : Int) (hl : L.length ≤ 96) (h : OwnS w B v L) (h' : OwnS w B' v' L) :
    Calls Try.prog 8 #[.agg #[v, .int .i64 a, .int .i64 b, .int .i64 c, .int .i64 d], .agg #[v', .int .i64 a, .int .i64 b, .int .i64 c, .int .i64 d]] w fun e w' => e = .returned (.bool true) ∧ Below w.heap.size w w' := by
  obtain ⟨N, hN⟩ : ∃ N, L.length = N := ⟨_, rfl⟩
  obtain ⟨ao, cp, rfl⟩ := own_any h
  obtain ⟨ao', cp', rfl⟩ := own_any h'
  have H0 : ∀ o1 o2, Hid (Below w.heap.size w ((w.alloc o1).alloc o2)) := fun o1 o2 => ((Below.refl _ _).alloc (Nat.le_refl _) _).alloc (by simp) _
  have H0 := hide H0
  have HO := hide h
  have HO' := hide h'
  have HN := hide hN
  rw [hN]
  clear h h' hN
  go_enter Try.func8, Try.ntmps8
  go_wp2_with (go_at_call 18; rw [← HN.out]; refine (c_eqShardS0 hl (HO.out.past (H0.out _ _).out) (HO'.out.past (H0.out _ _).out)).mono ?_; rintro e w1 ⟨rfl, hb1⟩; have HB := hide (chain (H0.out _ _).out hb1); obtain ⟨hc1, hf1⟩ := bcell hb1; clear hb1)
  go_ret
  exact ⟨rfl, HB.out⟩
end Go.Proofs.Ytgdhojeobcpoiaa
