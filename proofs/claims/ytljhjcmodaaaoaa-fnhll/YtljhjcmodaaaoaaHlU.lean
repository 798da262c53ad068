/-
  Hashes brought together: rising lists, and a map of them with what each lays. laidOf and laidBy of the program.
-/
import Derived.Test.YtljhjcmodaaaoaaSuL
import Derived.Test.YtljhjcmodaaaoaaNumC
import Derived.Test.YtljhjcmodaaaoaaShelf
import Derived.Lib.BitFns
import Derived.Maps.Own
import Derived.Maps.OwnSet
import Derived.Maps.Views
import Derived.Maps.Keyed
namespace Go.Proofs.Ytljhjcmodaaaoaa
set_option linter.unusedVariables false
set_option linter.unusedSimpArgs false
open Go.ChangeShapes Go.WideShapes Go.ChangeAt Go.RowKit Go.PlainAid Go.Maps
set_option maxRecDepth 10000

/-- A hash among rising ones. -/
def insU : List Int → Int → List Int
  | [], x => [x]
  | y :: r, x => if y < x then y :: insU r x else if y = x then y :: r else x :: y :: r
theorem mem_insU (z : Int) : ∀ (l : List Int) (x : Int), z ∈ insU l x ↔ z = x ∨ z ∈ l
  | [], x => by simp [insU]
  | y :: r, x => by
    unfold insU
    split
    · simp only [List.mem_cons, mem_insU z r x]
      constructor
      · rintro (h | h | h) <;> simp [h]
      · rintro (h | h | h) <;> simp [h]
    · split
      · rename_i e; subst e; simp
      · simp
theorem len_insU : ∀ (l : List Int) (x : Int), l.Pairwise (· < ·) → (insU l x).length = l.length + (if x ∈ l then 0 else 1)
  | [], x, _ => by simp [insU]
  | y :: r, x, h => by
    have hr := List.pairwise_cons.1 h
    unfold insU
    split
    · rename_i hlt
      rw [List.length_cons, len_insU r x hr.2]
      have : x ∈ y :: r ↔ x ∈ r := by simp; intro e; omega
      by_cases hx : x ∈ r
      · rw [if_pos hx, if_pos (this.2 hx)]; simp
      · rw [if_neg hx, if_neg (fun k => hx (this.1 k))]; simp
    · split
      · rename_i e; subst e; simp
      · rename_i h1 h2
        have : x ∉ y :: r := by
          simp only [List.mem_cons, not_or]
          exact ⟨fun e => h2 e.symm, fun hm => by have := hr.1 x hm; omega⟩
        rw [if_neg this]; simp
theorem rise_insU : ∀ (l : List Int) (x : Int), l.Pairwise (· < ·) → (insU l x).Pairwise (· < ·)
  | [], x, _ => by simp [insU]
  | y :: r, x, h => by
    have hr := List.pairwise_cons.1 h
    unfold insU
    split
    · rename_i hlt
      refine List.pairwise_cons.2 ⟨fun z hz => ?_, rise_insU r x hr.2⟩
      rcases (mem_insU z r x).1 hz with h' | h'
      · omega
      · exact hr.1 z h'
    · split
      · exact h
      · rename_i h1 h2
        refine List.pairwise_cons.2 ⟨fun z hz => ?_, h⟩
        rcases List.mem_cons.1 hz with h' | h'
        · omega
        · have := hr.1 z h'; omega
/-- Two rising lists with the same members are one. -/
theorem rise_ext : ∀ (l m : List Int), l.Pairwise (· < ·) → m.Pairwise (· < ·) → (∀ z, z ∈ l ↔ z ∈ m) → l = m
  | [], [], _, _, _ => rfl
  | [], y :: r, _, _, h => absurd ((h y).2 (by simp)) (by simp)
  | x :: l, [], _, _, h => absurd ((h x).1 (by simp)) (by simp)
  | x :: l, y :: m, hl, hm, h => by
    have a := List.pairwise_cons.1 hl
    have b := List.pairwise_cons.1 hm
    have e : x = y := by
      have h1 := (h x).1 (by simp)
      have h2 := (h y).2 (by simp)
      rcases List.mem_cons.1 h1 with h1 | h1
      · exact h1
      · rcases List.mem_cons.1 h2 with h2 | h2
        · exact h2.symm
        · have := b.1 x h1; have := a.1 y h2; omega
    subst e
    rw [rise_ext l m a.2 b.2 (fun z => ?_)]
    constructor
    · intro hz
      rcases List.mem_cons.1 ((h z).1 (by simp [hz])) with h' | h'
      · have := a.1 z hz; omega
      · exact h'
    · intro hz
      rcases List.mem_cons.1 ((h z).2 (by simp [hz])) with h' | h'
      · have := b.1 z hz; omega
      · exact h'
def uniU (l m : List Int) : List Int := m.foldl insU l
theorem rise_uniU (m : List Int) : ∀ l : List Int, l.Pairwise (· < ·) → (uniU l m).Pairwise (· < ·) := by
  induction m with
  | nil => intro l h; exact h
  | cons x m ih => intro l h; exact ih _ (rise_insU l x h)
theorem mem_uniU (z : Int) (m : List Int) : ∀ l : List Int, z ∈ uniU l m ↔ z ∈ l ∨ z ∈ m := by
  induction m with
  | nil => intro l; simp [uniU]
  | cons x m ih =>
    intro l
    show z ∈ uniU (insU l x) m ↔ _
    rw [ih, mem_insU, List.mem_cons]
    constructor
    · rintro ((h | h) | h) <;> simp [h]
    · rintro (h | h | h) <;> simp [h]
theorem uniU_snoc (l m : List Int) (x : Int) : uniU l (m ++ [x]) = insU (uniU l m) x := by simp [uniU, List.foldl_append]

/-- What a hash lays. -/
def rho (x : Int) : Int := min (64 - (Lib.bitLen (IntKind.u64.wrap (x * 64)).toNat : Int) + 1) 55
theorem u64_rng (x : Int) : 0 ≤ IntKind.u64.wrap x ∧ IntKind.u64.wrap x ≤ 18446744073709551615 := by
  have : IntKind.u64.wrap x = x % 18446744073709551616 := by simp [IntKind.wrap, IntKind.bits, IntKind.signed]
  rw [this]; omega
theorem bitAux_le : ∀ (f x : Nat), Lib.bitLenAux f x ≤ f
  | 0, x => by simp [Lib.bitLenAux]
  | f + 1, x => by
    unfold Lib.bitLenAux
    split
    · omega
    · have := bitAux_le f (x / 2); omega
theorem bitLen_le64 (x : Nat) : Lib.bitLen x ≤ 64 := bitAux_le 64 x
theorem rho_rng (x : Int) : 1 ≤ rho x ∧ rho x ≤ 55 := by
  unfold rho
  have := bitLen_le64 (IntKind.u64.wrap (x * 64)).toNat
  omega
set_option maxHeartbeats 1000000 in
theorem c_laidOf (x : Int) (w : World) : Calls Try.prog 61 #[.int .u64 x] w fun e w' => e = .returned (.int .i64 (rho x)) ∧ w' = w := by
  obtain ⟨h0, h1⟩ := u64_rng (x * 64)
  obtain ⟨z, hz⟩ : ∃ z : Int, 64 - (Lib.bitLen (IntKind.u64.wrap (x * 64)).toNat : Int) = z := ⟨_, rfl⟩
  have hb := bitLen_le64 (IntKind.u64.wrap (x * 64)).toNat
  have HR : Hid (min (z + 1) 55 = rho x) := (by unfold rho; rw [hz] : min (z + 1) 55 = rho x)
  have HC : Hid (∀ W, Calls Try.prog 65 #[.int .u64 (IntKind.u64.wrap (x * 64))] W fun e w' => e = .returned (.int .i64 z) ∧ w' = W) := fun W => by rw [← hz]; exact Try.bits_LeadingZeros64 _ W h0 h1
  have uz : IntKind.i64.wrap (z + 1) = z + 1 := IntWalk.i64_in _ ⟨by omega, by omega⟩
  clear h0 h1 hz hb
  go_enter Try.func61, Try.ntmps61
  go_wp2_with fail
  refine (HC.out _).mono ?_
  rintro e w1 ⟨rfl, hw⟩
  obtain rfl := hw.symm
  go_wp2
  go_ret
  exact ⟨by rw [← HR.out]; rfl, rfl⟩

/-- A map that has the hashes of a rising list, each with what it lays. -/
def MpU (W : World) (b : Nat) (n : Nat) (L : List Int) : Prop := L.Pairwise (· < ·) ∧ ∃ D : DataW Unit, W.ownsMap Try.prog 34 (plainElem Try.prog 2) b n D ∧ (∀ x, has D (.int .u64 x) = true ↔ x ∈ L) ∧ Maps.size D = L.length ∧ ∀ x ∈ L, ∀ z, D.atKey (.int .u64 x) z = .lit (.int .i64 (rho x))
theorem MpU.start (w : World) : MpU (w.alloc (.map #[] 0)) w.heap.size 0 [] :=
  ⟨List.Pairwise.nil, .map [], World.ownsMap_made w Try.prog 34 (plainElem Try.prog 2), fun x => by simp [has_eq], rfl, fun x hx => absurd hx (by simp)⟩
theorem keyU : Keyed Try.prog 34 := int_keyed Try.underlying34
theorem wfU {x : Int} (h : U64 x) : (Lit.int .u64 x).wf = true := by
  unfold U64 at h
  simp [Lit.wf, IntKind.signed, IntKind.bits, IntKind.min, IntKind.max]; omega
theorem wfR (x : Int) : (Lit.int .i64 (rho x)).wf = true := by
  have := rho_rng x
  simp [Lit.wf, IntKind.signed, IntKind.bits, IntKind.min, IntKind.max]; omega
/-- What a put makes of the datum. -/
theorem put_facts {D : DataW Unit} {L : List Int} (hr : L.Pairwise (· < ·)) (hT : Tidy D) (h1 : ∀ x, has D (.int .u64 x) = true ↔ x ∈ L) (h2 : Maps.size D = L.length) (h3 : ∀ x ∈ L, ∀ z, D.atKey (.int .u64 x) z = .lit (.int .i64 (rho x))) (y : Int) :
    (∀ x, has (D.put (.int .u64 y) (.lit (.int .i64 (rho y)))) (.int .u64 x) = true ↔ x ∈ insU L y) ∧ Maps.size (D.put (.int .u64 y) (.lit (.int .i64 (rho y)))) = (insU L y).length ∧ ∀ x ∈ insU L y, ∀ z, (D.put (.int .u64 y) (.lit (.int .i64 (rho y)))).atKey (.int .u64 x) z = .lit (.int .i64 (rho x)) := by
  have hk : WideAt.IsKeyLit (.int .u64 y) := trivial
  refine ⟨fun x => ?_, ?_, fun x hx z => ?_⟩
  · by_cases e : x = y
    · subst e; rw [has_put_same hT.isMap hk]; simp [mem_insU]
    · rw [has_put_other (by intro h; exact e (by injection h))]
      rw [h1, mem_insU]; simp [e]
  · rw [size_put hT, len_insU L y hr, h2]
    by_cases e : y ∈ L
    · rw [if_pos ((h1 y).2 e), if_pos e]; first | rfl | omega
    · rw [if_neg (fun k => e ((h1 y).1 k)), if_neg e]
  · by_cases e : x = y
    · subst e; exact atKey_put_same hT.isMap hk _ z
    · rw [atKey_put_other (by intro h; exact e (by injection h))]
      rcases (mem_insU x L y).1 hx with h | h
      · exact absurd h e
      · exact h3 x h z
end Go.Proofs.Ytljhjcmodaaaoaa
