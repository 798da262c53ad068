/-
  Plain facts on products of 64 bits, on the complement and on the negative of a wide number. Of no program.
-/
import Derived.Test.YtocgmccenmbgfaaGreatJA
import Derived.Laws.MathBits
import Derived.DataShut
import Derived.Test.YtocgmccenmbgfaaGreatJT
import Derived.Test.YtocgmccenmbgfaaGreatJU
namespace Go.Proofs.YtocgmccenmbgfaaGreat
open Go.RowKit

def mulH (x y : Int) : Int := x * y / 18446744073709551616

theorem mul_form (x y : Int) (hx : U64 x) (hy : U64 y) : IntKind.u64.wrap (IntKind.u64.wrap (IntKind.u64.wrap (x / 4294967296 * (y / 4294967296)) + IntKind.u64.wrap (IntKind.u64.wrap (x / 4294967296 * bits BinOp.and IntKind.u64 y 4294967295) + IntKind.u64.wrap (bits BinOp.and IntKind.u64 x 4294967295 * bits BinOp.and IntKind.u64 y 4294967295) / 4294967296) / 4294967296) + IntKind.u64.wrap (bits BinOp.and IntKind.u64 (IntKind.u64.wrap (IntKind.u64.wrap (x / 4294967296 * bits BinOp.and IntKind.u64 y 4294967295) + IntKind.u64.wrap (bits BinOp.and IntKind.u64 x 4294967295 * bits BinOp.and IntKind.u64 y 4294967295) / 4294967296)) 4294967295 + IntKind.u64.wrap (bits BinOp.and IntKind.u64 x 4294967295 * (y / 4294967296))) / 4294967296) = mulH x y := by
  unfold U64 at hx hy
  simp only [IntKind.wrap_u64, and_low32 x hx.1 (by omega), and_low32 y hy.1 (by omega)]
  rw [and_low32 _ (by omega) (by omega)]
  exact mul64_arith x y hx.1 (by omega) hy.1 (by omega)

theorem mul_form' (x y : Int) (hx : U64 x) (hy : U64 y) : IntKind.u64.wrap (IntKind.u64.wrap (IntKind.u64.wrap (x / 4294967296 * (y / 4294967296)) + IntKind.u64.wrap (IntKind.u64.wrap (x / 4294967296 * bits BinOp.and IntKind.u64 y 4294967295) + IntKind.u64.wrap (bits BinOp.and IntKind.u64 x 4294967295 * bits BinOp.and IntKind.u64 y 4294967295) / 4294967296) / 4294967296) + IntKind.u64.wrap (IntKind.u64.wrap (bits BinOp.and IntKind.u64 x 4294967295 * (y / 4294967296)) + bits BinOp.and IntKind.u64 (IntKind.u64.wrap (IntKind.u64.wrap (x / 4294967296 * bits BinOp.and IntKind.u64 y 4294967295) + IntKind.u64.wrap (bits BinOp.and IntKind.u64 x 4294967295 * bits BinOp.and IntKind.u64 y 4294967295) / 4294967296)) 4294967295) / 4294967296) = mulH x y := by
  rw [Int.add_comm (IntKind.u64.wrap (bits BinOp.and IntKind.u64 x 4294967295 * (y / 4294967296)))]
  exact mul_form x y hx hy

theorem mulH_in (x y : Int) (hx : U64 x) (hy : U64 y) : U64 (mulH x y) := by
  unfold U64 at *; unfold mulH
  have h1 : 0 ≤ x * y := Int.mul_nonneg hx.1 hy.1
  have h2 : x * y ≤ 18446744073709551615 * 18446744073709551615 := Int.mul_le_mul hx.2 hy.2 hy.1 (by omega)
  omega

theorem not_i64 (a : Int) (ha : I64 a) : bits .xor .i64 (-1) a = -1 - a := by
  unfold I64 at ha
  show IntKind.i64.wrap ((BitVec.ofInt 64 (-1) ^^^ BitVec.ofInt 64 a).toNat : Int) = _
  have h1 : BitVec.ofInt 64 (-1) = BitVec.allOnes 64 := by decide
  rw [h1, BitVec.allOnes_xor, BitVec.toNat_not, BitVec.toNat_ofInt]
  rw [IntKind.wrap_i64]
  have e : ((a % ((2 ^ 64 : Nat) : Int)).toNat : Int) = a % 18446744073709551616 := by
    rw [Int.toNat_of_nonneg (Int.emod_nonneg _ (by decide))]; rfl
  omega
theorem not_u64 (b : Int) (hb : U64 b) : bits .xor .u64 IntKind.u64.max b = 18446744073709551615 - b := by
  unfold U64 at hb
  rw [IntKind.max_u64]
  show IntKind.u64.wrap ((BitVec.ofInt 64 18446744073709551615 ^^^ BitVec.ofInt 64 b).toNat : Int) = _
  have h1 : BitVec.ofInt 64 18446744073709551615 = BitVec.allOnes 64 := by decide
  rw [h1, BitVec.allOnes_xor, BitVec.toNat_not, BitVec.toNat_ofInt]
  rw [IntKind.wrap_u64]
  have e : ((b % ((2 ^ 64 : Nat) : Int)).toNat : Int) = b % 18446744073709551616 := by
    rw [Int.toNat_of_nonneg (Int.emod_nonneg _ (by decide))]; rfl
  omega

/-- The negative of a wide number: its halves. -/
def negH (a b : Int) : Int := wrap64 (-a - (if b = 0 then 0 else 1))
def negL (b : Int) : Int := uw (-b)
/-- A number times a weight: its halves. -/
def thH (n w : Int) : Int := wrap64 (n * w / 18446744073709551616)
def thL (n w : Int) : Int := uw (n * w)

theorem neg_add (a b : Int) (hb : U64 b) : addH (-1 - a) (18446744073709551615 - b) 0 1 = negH a b ∧ addL (18446744073709551615 - b) 1 = negL b := by
  unfold U64 at hb; unfold addH addL negH negL addC uw wrap64
  refine ⟨?_, by omega⟩
  by_cases h : b = 0
  · subst h; simp; omega
  · rw [if_neg h]; omega

theorem th_neg (n y : Int) (hn : I64 n) (h : n < 0) : wrap64 (IntKind.u64.wrap (mulH (uw n) y - y)) = thH n y ∧ uw (uw n * y) = thL n y := by
  unfold I64 at hn
  have e : uw n = n + 18446744073709551616 := by unfold uw; omega
  have e2 : uw n * y = n * y + 18446744073709551616 * y := by rw [e]; exact Int.add_mul _ _ _
  rw [IntKind.wrap_u64]; unfold mulH thH thL; rw [e2]
  generalize n * y = p
  unfold uw wrap64
  refine ⟨by omega, by omega⟩
theorem th_pos (n y : Int) (hn : I64 n) (h : ¬ n < 0) : wrap64 (mulH (uw n) y) = thH n y ∧ uw (uw n * y) = thL n y := by
  unfold I64 at hn
  have e : uw n = n := by unfold uw; omega
  rw [e]; exact ⟨rfl, rfl⟩
theorem th_minus (n y : Int) : negH (wrap64 (mulH (-n) y)) (uw (-n * y)) = thH n y ∧ negL (uw (-n * y)) = thL n y := by
  have e : -n * y = -(n * y) := Int.neg_mul _ _
  unfold mulH thH thL; rw [e]
  generalize n * y = p
  unfold negH negL
  refine ⟨?_, by unfold uw; omega⟩
  by_cases k : uw (-p) = 0
  · rw [if_pos k]; unfold uw at k; unfold wrap64; omega
  · rw [if_neg k]; unfold uw at k; unfold wrap64; omega
end Go.Proofs.YtocgmccenmbgfaaGreat

/-
  Contracts of the products: math/bits.Mul64, its model l01Mul, the negative of a wide number, WideTimes of both sides.
-/
namespace Go.Proofs.YtocgmccenmbgfaaGreat
open Go.ChangeShapes Go.WideShapes Go.ChangeAt Go.RowKit

theorem ret_pair {a b c d : Int} (h : a = c) (k : b = d) : Ending.returned (.tuple #[.int .u64 a, .int .u64 b]) = .returned (.tuple #[.int .u64 c, .int .u64 d]) := by rw [h, k]






end Go.Proofs.YtocgmccenmbgfaaGreat

/-
  Contract of the program's SketchPut.
-/
namespace Go.Proofs.YtocgmccenmbgfaaGreat
set_option linter.unusedVariables false
set_option linter.unusedSimpArgs false
open Go.ChangeShapes Go.WideShapes Go.ChangeAt Go.RowKit Go.PlainAid Go.Lib
set_option maxRecDepth 10000

/-- What is put where. -/
def putZ (z v wt : Int) : Int := if v = 0 then wAdd z wt else z
def putP (P : List Bn) (v wt : Int) : List Bn := if 0 < v then gatL P [(binI v, wt)] else P
def putN (N : List Bn) (v wt : Int) : List Bn := if v < 0 then gatL N [(binI (-v), wt)] else N
def putOk (P N : List Bn) (v wt : Int) : Prop := skB P N = true ∧ (-999999999999999999 ≤ v ∧ v ≤ 999999999999999999) ∧ wt ≠ 0
/-- A number of 64 bits in a block of its own. -/
abbrev NumAt' (w : World) (g : Nat) (x : Int) : Prop := w.cell? ⟨g, 0, none⟩ = some (.int .u64 x)

theorem c_valueRight (v : Int) (w : World) (hv : I64 v) :
    Calls Tryz.prog 95 #[.int .i64 v] w fun e w' => e = .returned (.bool (decide (-999999999999999999 ≤ v ∧ v ≤ 999999999999999999))) ∧ w' = w := by
  unfold I64 at hv
  by_cases h1 : -999999999999999999 ≤ v
  · by_cases h2 : v ≤ 999999999999999999
    · rw [decide_eq_true ⟨h1, h2⟩]
      go_enter Tryz.func95, Tryz.ntmps95
      go_wp2
      go_ret
      exact ⟨rfl, rfl⟩
    · rw [decide_eq_false (fun h => h2 h.2)]
      go_enter Tryz.func95, Tryz.ntmps95
      go_wp2
      go_ret
      exact ⟨rfl, rfl⟩
  · rw [decide_eq_false (fun h => h1 h.1)]
    go_enter Tryz.func95, Tryz.ntmps95
    go_wp2
    go_ret
    exact ⟨rfl, rfl⟩

end Go.Proofs.YtocgmccenmbgfaaGreat

/-
  Contracts of the model's SketchPut.
-/
namespace Go.Proofs.YtocgmccenmbgfaaGreat
set_option linter.unusedVariables false
set_option linter.unusedSimpArgs false
open Go.ChangeShapes Go.WideShapes Go.ChangeAt Go.RowKit Go.PlainAid Go.Lib
set_option maxRecDepth 10000

/-- What is put where, as the model does. -/
def putPS (P : List Bn) (v wt : Int) : List Bn := if 0 < v then keepL (mrg P [(binI v, wt)]) else P
def putNS (N : List Bn) (v wt : Int) : List Bn := if v < 0 then keepL (mrg N [(binI (-v), wt)]) else N
theorem one_bins (w : World) (t : TypeId) (a u : Int) : BinsAt (w.alloc (.cells #[.int .i64 a, .int .u64 u] t)) (some ⟨w.heap.size, 0, none⟩) [(a, u)] := fun _ => ⟨w.heap.size, 0, rfl, fun i x hx => by
  obtain ⟨rfl, rfl⟩ : i = 0 ∧ x = (a, u) := by
    cases i with
    | zero => exact ⟨rfl, by simpa using hx.symm⟩
    | succ j => simp at hx
  exact bc_new w t a u⟩

end Go.Proofs.YtocgmccenmbgfaaGreat

/-
  Contract of the model's SketchPut, and that both put the same.
-/
namespace Go.Proofs.YtocgmccenmbgfaaGreat
set_option linter.unusedVariables false
set_option linter.unusedSimpArgs false
open Go.ChangeShapes Go.WideShapes Go.ChangeAt Go.RowKit Go.PlainAid Go.Lib
set_option maxRecDepth 10000

theorem rise_of : ∀ {L : List Bn} {q : Int}, riseB q L = true → Rise L ∧ ∀ x ∈ L, q < x.1
  | [], _, _ => ⟨rise_nil, fun x hx => by simp at hx⟩
  | y :: r, q, h => by
    simp only [riseB, Bool.and_eq_true, decide_eq_true_eq] at h
    obtain ⟨⟨⟨h1, h2⟩, h3⟩, h4⟩ := h
    obtain ⟨k1, k2⟩ := rise_of h4
    refine ⟨rise_cons.2 ⟨k2, k1⟩, fun x hx => ?_⟩
    rcases List.mem_cons.1 hx with rfl | hx
    · exact h1
    · have := k2 x hx; omega
theorem bins_rise {L : List Bn} (h : binsB L = true) : Rise L ∧ L.length ≤ 30 := by
  unfold binsB at h
  simp only [Bool.and_eq_true, decide_eq_true_eq] at h
  exact ⟨(rise_of h.2).1, h.1⟩
theorem sk_rise {P N : List Bn} (h : skB P N = true) : (Rise P ∧ P.length ≤ 30) ∧ Rise N ∧ N.length ≤ 30 := by
  unfold skB at h
  simp only [Bool.and_eq_true] at h
  exact ⟨bins_rise h.1, bins_rise h.2⟩
theorem rise_one (x : Bn) : Rise [x] := rise_cons.2 ⟨fun y hy => by simp at hy, rise_nil⟩
theorem gat_mrg {P N : List Bn} (hP : Rise P) (hN : Rise N) : gatL P N = keepL (mrg P N) := by
  unfold gatL
  rw [insAll_nil hP, insAll_mrg hN]
theorem put_sameP {P N : List Bn} {v wt : Int} (h : skB P N = true) : putP P v wt = putPS P v wt := by
  unfold putP putPS
  rw [gat_mrg (sk_rise h).1.1 (rise_one _)]
theorem put_sameN {P N : List Bn} {v wt : Int} (h : skB P N = true) : putN N v wt = putNS N v wt := by
  unfold putN putNS
  rw [gat_mrg (sk_rise h).2.1 (rise_one _)]

theorem c_s_l01Value (v : Int) (w : World) (hv : I64 v) :
    Calls Tryz.prog 37 #[.int .i64 v] w fun e w' => e = .returned (.bool (decide (-999999999999999999 ≤ v ∧ v ≤ 999999999999999999))) ∧ w' = w := by
  unfold I64 at hv
  by_cases h1 : -999999999999999999 ≤ v
  · by_cases h2 : v ≤ 999999999999999999
    · rw [decide_eq_true ⟨h1, h2⟩]
      go_enter Tryz.func37, Tryz.ntmps37
      go_wp2
      go_ret
      exact ⟨rfl, rfl⟩
    · rw [decide_eq_false (fun h => h2 h.2)]
      go_enter Tryz.func37, Tryz.ntmps37
      go_wp2
      go_ret
      exact ⟨rfl, rfl⟩
  · rw [decide_eq_false (fun h => h1 h.1)]
    go_enter Tryz.func37, Tryz.ntmps37
    go_wp2
    go_ret
    exact ⟨rfl, rfl⟩

/-- A sketch laid into the row of an answer. -/
abbrev sk5 (w : World) (r : Nat) (Z : Int) (p n : Value) (H L : Int) : World := ((((w.setCell ⟨r, 0, none⟩ (.int .u64 Z)).setCell ⟨r, 1, none⟩ p).setCell ⟨r, 2, none⟩ n).setCell ⟨r, 3, none⟩ (.int .i64 H)).setCell ⟨r, 4, none⟩ (.int .u64 L)
theorem sk_store {w w2 : World} {r a b : Nat} {Z H L : Int} {p n : Value} {P N : List Bn} (hT : Below w.heap.size w w2) (hr : w2.heap[r]? = some (.cells zeroSk 38 (0, 0))) (hwr : w.heap.size ≤ r) (hp : OwnB w2 w.heap.size p a P) (hn : OwnB w2 w.heap.size n b N) (hap : Apart p n) :
    SkOut (sk5 w2 r Z p n H L) w.heap.size (.agg #[.int .u64 Z, p, n, .int .i64 H, .int .u64 L]) Z P N H L ∧ Below w.heap.size w (sk5 w2 r Z p n H L) := by
  have q1 := hp.ne hr (by decide)
  have q2 := hn.ne hr (by decide)
  refine ⟨⟨p, n, a, b, rfl, ((((hp.set q1 _).set q1 _).set q1 _).set q1 _).set q1 _, ((((hn.set q2 _).set q2 _).set q2 _).set q2 _).set q2 _, hap⟩, ?_⟩
  repeat (refine Below.setCell ?_ hwr _)
  exact hT

end Go.Proofs.YtocgmccenmbgfaaGreat
