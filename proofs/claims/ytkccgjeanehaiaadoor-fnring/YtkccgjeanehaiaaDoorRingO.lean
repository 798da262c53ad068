/-
  The contracts of OwnerOf, of the program and of its model.
-/
import Derived.Test.YtkccgjeanehaiaaDoorRingS
namespace Go.Proofs.YtkccgjeanehaiaaDoor
set_option linter.unusedVariables false
set_option linter.unusedSimpArgs false
open Go.ChangeShapes Go.WideShapes Go.ChangeAt Go.RowKit Go.PlainAid Go.Lib Go.Shelf
open Go.Sort hiding Below

/-- The first mark that is not below h. -/
def firstAt (h : Int) : List Mk → Option Mk
  | [] => none
  | m :: r => if h ≤ m.1 then some m else firstAt h r
theorem firstAt_hit {h : Int} : ∀ (R : List Mk) (k : Nat) (a : Mk), R[k]? = some a → h ≤ a.1 → (∀ j b, j < k → R[j]? = some b → b.1 < h) → firstAt h R = some a
  | [], k, a, hk, _, _ => by simp at hk
  | m :: r, 0, a, hk, ha, _ => by
    obtain rfl : m = a := by simpa using hk
    simp [firstAt, ha]
  | m :: r, k + 1, a, hk, ha, hl => by
    have h0 := hl 0 m (by omega) rfl
    unfold firstAt
    rw [if_neg (by omega)]
    exact firstAt_hit r k a (by simpa using hk) ha (fun j b hj hb => hl (j + 1) b (by omega) (by simpa using hb))
theorem firstAt_none {h : Int} : ∀ (R : List Mk), (∀ (j : Nat) (b : Mk), R[j]? = some b → b.1 < h) → firstAt h R = none
  | [], _ => rfl
  | m :: r, hl => by
    have h0 := hl 0 m rfl
    unfold firstAt
    rw [if_neg (by omega)]
    exact firstAt_none r (fun j b hb => hl (j + 1) b (by simpa using hb))
def ownR (R : List Mk) (h : Int) : ByteArray :=
  match firstAt h R with
  | some m => m.2
  | none => match R with
    | m :: _ => m.2
    | [] => ByteArray.empty
theorem ownR_hit {h : Int} {R : List Mk} {k : Nat} {a : Mk} (hk : R[k]? = some a) (ha : h ≤ a.1) (hl : ∀ (j : Nat) (b : Mk), j < k → R[j]? = some b → b.1 < h) : ownR R h = a.2 := by
  unfold ownR; rw [firstAt_hit R k a hk ha hl]
theorem ownR_none {h : Int} {R : List Mk} {a : Mk} (h0 : R[0]? = some a) (hl : ∀ (j : Nat) (b : Mk), R[j]? = some b → b.1 < h) : ownR R h = a.2 := by
  unfold ownR; rw [firstAt_none R hl]
  match R, h0 with
  | m :: _, h0 => obtain rfl : m = a := by simpa using h0
                  rfl
/-- What OwnerOf answers. -/
def OwnAns (L : List ByteArray) (key s : ByteArray) : Prop := (key.size ≤ 20000 ∧ membersB L = true ∧ ∃ R, IsRing L R ∧ s = ownR R (hashT key)) ∨ ((¬ key.size ≤ 20000 ∨ membersB L = false) ∧ s = ByteArray.empty)
theorem own_one {L : List ByteArray} {key s t : ByteArray} (h : OwnAns L key s) (k : OwnAns L key t) : s = t := by
  rcases h with ⟨h1, h2, R, h3, rfl⟩ | ⟨h1, rfl⟩ <;> rcases k with ⟨k1, k2, R', k3, rfl⟩ | ⟨k1, rfl⟩
  · rw [ring_one h3 k3]
  · rcases k1 with k1 | k1
    · exact absurd h1 k1
    · rw [h2] at k1; cases k1
  · rcases h1 with h1 | h1
    · exact absurd k1 h1
    · rw [h1] at k2; cases k2
  · rfl

/-- The cells of mark k. -/
theorem mark_cells {w : World} {B g c n : Nat} {R : List Mk} {k : Nat} {a : Int} {u : ByteArray} (h : w.ownsRow B 32 2 (.slice (some ⟨g, 0, none⟩) n c) n (fl encM R)) (hn : n = R.length) (hk : R[k]? = some (a, u)) :
    w.cell? ⟨g, k * 2, none⟩ = some (.int .u64 a) ∧ w.cell? ⟨g, k * 2 + 1, none⟩ = some (.string u) := by
  have hkl := (List.getElem?_eq_some_iff.1 hk).1
  constructor
  · rw [h.cellAt _ (by omega)]
    have := fl_at encM2 R k _ 0 (by omega) hk
    rw [Nat.add_zero] at this; rw [this]; rfl
  · rw [h.cellAt _ (by omega), fl_at encM2 R k _ 1 (by omega) hk]; rfl
/-- A value that owns a row is a slice of its length. -/
theorem own_any {w : World} {B n : Nat} {T : TypeId} {s : Nat} {v : Value} {xs : List Value} (h : w.ownsRow B T s v n xs) : ∃ ao c, v = .slice ao n c := by
  rcases h.2 with ⟨e, e2⟩ | ⟨g, c, _, e, _⟩
  · subst e2; exact ⟨_, _, e⟩
  · exact ⟨_, _, e⟩

set_option maxRecDepth 10000 in
set_option maxHeartbeats 2000000 in
theorem c_i_OwnerOf {w : World} {ao : Option Addr} {L : List ByteArray} (cap : Nat) (key : ByteArray) (hkm : key.size ≤ maxLen) (hl : L.length ≤ 1048576) (hu : ∀ u ∈ L, u.size ≤ 1048576) (hA : StrsAt w ao L) :
    Calls Tryd.prog 7 #[.slice ao L.length cap, .string key] w fun e w' => ∃ s, e = .returned (.string s) ∧ OwnAns L key s ∧ Below w.heap.size w w' := by
  have hcT := c_textFits key hkm
  by_cases hk : key.size ≤ 20000
  · have e1 : decide (key.size ≤ 20000) = true := decide_eq_true hk
    simp only [e1] at hcT
    have hcR := c_i_RingOf cap hl hu hA
    have hcH := c_i_Hash key hkm
    simp only [hashF_le hk] at hcH
    clear hA hu
    obtain ⟨H, hH⟩ : ∃ H, hashT key = H := ⟨_, rfl⟩
    rw [hH] at hcH
    go_enter Tryd.func7, Tryd.ntmps7
    go_wp2_with (first
      | (go_at_call 25; refine (hcT _).mono ?_; rintro e w1 ⟨rfl, rfl⟩)
      | (go_at_call 11; refine hcR.mono ?_; rintro e w2 ⟨v, R, rfl, hR, hown, hb2⟩; have HR := hide hR; have HO := hide hown; have HB := hide hb2; obtain ⟨ro, rc, hv⟩ := own_any hown; subst hv; clear hR hown hb2)
      | (go_at_call 26; refine (hcH _).mono ?_; rintro e w3 ⟨rfl, rfl⟩))
    · -- none
      go_ret
      rename_i hz
      have hR0 : R = [] := List.eq_nil_of_length_eq_zero (by simpa using hz)
      rcases HR.out with ⟨h1, h2⟩ | ⟨h1, h2⟩
      · have := ring_len h2; have := memb_len h1; rw [hR0] at *; simp at *; omega
      · exact ⟨_, rfl, .inr ⟨.inr h1, rfl⟩, HB.out⟩
    · have hz0 : ((R.length : Int) == 0) = false := by assumption
      have hz : ¬ R.length = 0 := by have := beq_eq_false_iff_ne.1 hz0; omega
      obtain ⟨g, rfl⟩ : ∃ g, ro = some ⟨g, 0, none⟩ := by
        obtain ⟨g, c, e⟩ := own_form HO.out (by omega)
        cases e; exact ⟨g, rfl⟩
      have hRl := ans_len HR.out
      obtain ⟨N, hN⟩ : ∃ N, R.length = N := ⟨_, rfl⟩
      rw [hN] at hRl hz hz0
      rw [hN] at HO
      rw [hN]
      have HN := hide hN
      have HH := hide hH
      have ans : ∀ s, s = ownR R H → OwnAns L key s := fun s hs => by
        rcases HR.out with ⟨h1, h2⟩ | ⟨h1, h2⟩
        · exact .inl ⟨hk, h1, R, h2, by rw [hs, hH]⟩
        · rw [h2] at hN; simp at hN; omega
      have ANS := hide ans
      clear ans hN hH hcR hcH hcT
      go_loopw [20, 7] (fun i _ wr => wr = w3 ∧ ∃ k : Nat, k ≤ N ∧ i = .int .i64 k ∧ ∀ (j : Nat) (b : Mk), j < k → R[j]? = some b → b.1 < H) (fun i _ wr => N - (intOf i).toNat)
      case atStart => exact ⟨rfl, 0, Nat.zero_le _, rfl, fun j b hj => absurd hj (by omega)⟩
      case round =>
        obtain ⟨rfl, k, hkN, rfl, hlow⟩ := hrel
        have HL := hide hlow
        clear hlow
        by_cases hkn : k < N
        · obtain ⟨⟨a, m⟩, hRk⟩ : ∃ a, R[k]? = some a := ⟨R[k]'(by have := HN.out; omega), List.getElem?_eq_getElem _⟩
          obtain ⟨hc0, hc1⟩ := mark_cells HO.out HN.out.symm hRk
          have HK := hide hRk
          clear hRk
          by_cases hge : H ≤ a
          · go_wp2
            go_ret
            exact ⟨m, rfl, ANS.out m (ownR_hit HK.out hge HL.out).symm, HB.out⟩
          · have hge2 : decide (H ≤ a) = false := decide_eq_false hge
            go_wp2
            go_roundw
            case rel =>
              refine ⟨trivial, k + 1, by omega, by go_num, fun j b hj hb => ?_⟩
              by_cases e : j = k
              · subst e; rw [HK.out] at hb; obtain rfl := Option.some.inj hb; show a < H; omega
              · exact HL.out j b (by omega) hb
            case measure => simp [intOf]; omega
        · obtain ⟨⟨a, m⟩, hR0⟩ : ∃ a, R[0]? = some a := ⟨R[0]'(by have := HN.out; omega), List.getElem?_eq_getElem _⟩
          obtain ⟨hc0, hc1⟩ := mark_cells HO.out HN.out.symm hR0
          rw [Nat.zero_mul] at hc0 hc1
          have HK := hide hR0
          have hNp : (0 : Int) < (N : Int) := by omega
          have hall : ∀ (j : Nat) (b : Mk), R[j]? = some b → b.1 < H := fun j b hb => HL.out j b (by have := (List.getElem?_eq_some_iff.1 hb).1; have := HN.out; omega) hb
          have HALL := hide hall
          clear hR0 hall
          go_wp2
          go_ret
          exact ⟨m, rfl, ANS.out m (ownR_none HK.out HALL.out).symm, HB.out⟩
  · have e1 : decide (key.size ≤ 20000) = false := decide_eq_false hk
    simp only [e1] at hcT
    clear hA hu
    go_enter Tryd.func7, Tryd.ntmps7
    go_wp2_with (go_at_call 25; refine (hcT _).mono ?_; rintro e w1 ⟨rfl, rfl⟩)
    go_ret
    exact ⟨_, rfl, .inr ⟨.inl hk, rfl⟩, Below.refl _ _⟩
end Go.Proofs.YtkccgjeanehaiaaDoor
