/-
  What the laws lay into an answer to see whose memory it is: texts of marks; strings and marks of a ring that are written over, and held.
-/
import Derived.Test.YtkccgjeanehaiaaDoorRingP
namespace Go.Proofs.YtkccgjeanehaiaaDoor
set_option linter.unusedVariables false
set_option linter.unusedSimpArgs false
open Go.ChangeShapes Go.WideShapes Go.ChangeAt Go.RowKit Go.PlainAid Go.Lib Go.Shelf
open Go.Sort hiding Below

def mtx (k : Nat) : ByteArray := ⟨#[109]⟩ ++ ⟨(Lib.decDigits k).toArray⟩
set_option maxRecDepth 10000 in
set_option maxHeartbeats 1000000 in
theorem c_markText (N : Nat) (hN0 : 1 ≤ N) (hN : N ≤ 100000000) (w : World) :
    Calls Tryd.prog 33 #[.int .i64 N] w fun e w' => e = .returned (.string (mtx N)) ∧ Below w.heap.size w w' := by
  have hb1 : ¬ ((N : Int) ≤ 0) := by omega
  go_enter Tryd.func33, Tryd.ntmps33
  go_wp2
  go_loopw [0, 3] (fun n o wr => ∃ (m : Nat) (D : List UInt8), m ≤ N ∧ n = .int .i64 m ∧ o = .string ⟨D.toArray⟩ ∧ DecR N m D ∧ Below w.heap.size w wr) (fun n o wr => (intOf n).toNat)
  case atStart => exact ⟨N, [], Nat.le_refl _, rfl, rfl, ⟨fun h => absurd h (by omega), fun _ => by simp⟩, Below.refl _ _⟩
  case round =>
    obtain ⟨m, D, hm, rfl, rfl, hR, hbel⟩ := hrel
    have hln := decR_len hR (dec_len N (by omega))
    have hD : (⟨D.toArray⟩ : ByteArray).size = D.length := rfl
    by_cases k : m = 0
    · subst k
      have HR : Hid (DecR N 0 D) := hR
      have hadd : Op.stringOp .add ⟨#[109]⟩ ⟨D.toArray⟩ = pure (.string ((⟨#[109]⟩ : ByteArray) ++ ⟨D.toArray⟩)) := str_add (by rw [hD]; show 1 + _ ≤ _; omega)
      clear hR
      go_wp2
      go_ret
      exact ⟨ret_str (by rw [HR.out.1 rfl]; rfl), hbel⟩
    · obtain ⟨d, hd⟩ : ∃ d, d = m % 10 := ⟨_, rfl⟩
      obtain ⟨q, hq⟩ : ∃ q, q = m / 10 := ⟨_, rfl⟩
      have HR : Hid (DecR N q (UInt8.ofNat (48 + d) :: D)) := by rw [hd, hq]; exact decR_step hR k
      have e1 : Int.tmod (m : Int) 10 = (d : Int) := by rw [hd]; rfl
      have e2 : Int.tdiv (m : Int) 10 = (q : Int) := by rw [hq]; rfl
      have hk : (0 : Int) < (m : Int) := by omega
      have hd9 : d < 10 := by omega
      have hqm : q < m := by omega
      have e4 : IntKind.u8.wrap (48 + (d : Int)) = 48 + (d : Int) := IntWalk.u8_in _ ⟨by omega, by omega⟩
      obtain ⟨B, hB⟩ : ∃ B, B = strOfNums [48 + (d : Int)] := ⟨_, rfl⟩
      have kc := run_convert_bytes_arg (P := Tryd.prog) (wr.alloc (.cells #[.int .u8 (48 + (d : Int))] 5)) 22 5 Tryd.underlying22 Tryd.underlying5 wr.heap.size 0 1 1 [48 + (d : Int)] rfl (fun i hi => by
            obtain rfl : i = 0 := by omega
            simp) 9 Tryd.underlying9
      rw [← hB] at kc
      have hB1 : B.size = 1 := by rw [hB]; rfl
      have HB : Hid (B ++ ⟨D.toArray⟩ = (⟨(UInt8.ofNat (48 + d) :: D).toArray⟩ : ByteArray)) := (by
        rw [hB, ← str_cat]; congr 1; : B ++ ⟨D.toArray⟩ = (⟨(UInt8.ofNat (48 + d) :: D).toArray⟩ : ByteArray))
      have HL : Hid (Below w.heap.size w wr) := hbel
      have hz := hbel.size
      clear hR hd hq k hB hbel
      go_wp2
      go_roundw
      case rel => exact ⟨q, UInt8.ofNat (48 + d) :: D, by omega, rfl, by rw [HB.out], HR.out, HL.out.alloc (by omega) _⟩
      case measure => simp [intOf]; omega

theorem c_eqMark (a : Int) (u : ByteArray) (w : World) :
    Calls Tryd.prog 32 #[.agg #[.int .u64 a, .string u], .agg #[.int .u64 a, .string u]] w fun e w' => e = .returned (.bool true) ∧ Below w.heap.size w w' := by
  go_enter Tryd.func32, Tryd.ntmps32
  go_wp2
  go_ret
  exact ⟨rfl, ((Below.refl _ _).alloc (Nat.le_refl _) _).alloc (by simp) _⟩

/-- A row of marks, whatever the value. -/
theorem own_mark {w : World} {B n : Nat} {v : Value} {R : List Mk} {k : Nat} {a : Int} {u : ByteArray} (h : w.ownsRow B 32 2 v n (fl encM R)) (hn : n = R.length) (hk : R[k]? = some (a, u)) :
    ∃ g c, v = .slice (some ⟨g, 0, none⟩) n c ∧ w.cell? ⟨g, k * 2, none⟩ = some (.int .u64 a) ∧ w.cell? ⟨g, k * 2 + 1, none⟩ = some (.string u) ∧ w.frozen? ⟨g, k * 2, none⟩ = false ∧ w.frozen? ⟨g, k * 2 + 1, none⟩ = false ∧ g < w.heap.size := by
  have hkl := (List.getElem?_eq_some_iff.1 hk).1
  obtain ⟨g, c, rfl⟩ := own_form h (by omega)
  obtain ⟨h0, h1⟩ := mark_cells h hn hk
  exact ⟨g, c, rfl, h0, h1, h.frozenAt _, h.frozenAt _, World.block_lt_of_cell? _ _ h0⟩

set_option maxRecDepth 10000 in
set_option maxHeartbeats 1000000 in
theorem c_eqMarkS {w : World} {B B' N : Nat} {v v' : Value} {R : List Mk} (hn : N = R.length) (hl : N ≤ 96) (h : w.ownsRow B 32 2 v N (fl encM R)) (h' : w.ownsRow B' 32 2 v' N (fl encM R)) :
    Calls Tryd.prog 16 #[v, v'] w fun e w' => e = .returned (.bool true) ∧ Below w.heap.size w w' := by
  obtain ⟨ao, c, rfl⟩ := own_any h
  obtain ⟨ao', c', rfl⟩ := own_any h'
  have HO := hide h
  have HO' := hide h'
  have HN := hide hn
  clear h h' hn
  go_enter Tryd.func16, Tryd.ntmps16
  go_wp2
  go_loopw [5] (fun i wr => Below w.heap.size w wr ∧ ∃ k : Nat, k ≤ N ∧ i = .int .i64 k) (fun i wr => N - (intOf i).toNat)
  case atStart => exact ⟨Below.refl _ _, 0, Nat.zero_le _, rfl⟩
  case round =>
    obtain ⟨hbel, k, hk, rfl⟩ := hrel
    have HB := hide hbel
    by_cases hkn : k < N
    · obtain ⟨⟨a, u⟩, hRk⟩ : ∃ a, R[k]? = some a := ⟨R[k]'(by have := HN.out; omega), List.getElem?_eq_getElem _⟩
      obtain ⟨g, cc, e, hc0, hc1, _, _, hg⟩ := own_mark (own_past HO.out hbel) HN.out hRk
      cases e
      obtain ⟨g', cc', e, hd0, hd1, _, _, hg'⟩ := own_mark (own_past HO'.out hbel) HN.out hRk
      cases e
      clear hbel hRk
      go_wp2_with fail
      go_region_held3 (Kept wr.heap.size wr)
        (refine held ?_ (by simp) <;> first | exact (Below.refl _ _).drew | exact hS1)
        (first | (go_at_call 32; refine (c_eqMark _ _ _).mono ?_; rintro e w1 ⟨rfl, hb1⟩; obtain ⟨hS1, hS2⟩ := held_call hb1 ‹Kept _ _ _›; clear hb1))
      go_wp2
      go_roundw
      case rel => exact ⟨HB.out.trans (hS1.mono HB.out.size), k + 1, by omega, by go_num⟩
      case measure => simp [intOf]; omega
    · clear hbel
      go_wp2
      go_ret
      exact ⟨rfl, HB.out⟩
end Go.Proofs.YtkccgjeanehaiaaDoor
