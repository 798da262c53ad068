/-
  The desk's words: they stand in a map, and are told in order.
-/
import Derived.Test.YtpackbgmilkaeaaGreatDoorDkS
import Derived.Maps.Own
import Derived.Sort.EveryDepth
import Derived.Deep.RegionHeld3
namespace Go.Proofs.YtpackbgmilkaeaaGreatDoor
set_option linter.unusedVariables false
set_option linter.unusedSimpArgs false
open Go.ChangeShapes Go.WideShapes Go.ChangeAt Go.RowKit Go.PlainAid
set_option maxRecDepth 10000

/-- An entry of a literal map is laid as by a store. -/
theorem insert_own {H : Type} {P : Program} (w : World) {ops : Array Oper} {rest : List Oper} {o : Oper} {a : Act} {Q : Exit → Act → World → Prop}
    (hg : o.guard = none) (m x v : Operand) (t : TypeId) (hop : o.op = Op.insert t m x v)
    (k e : TypeId) (K : Go.Maps.Keyed P k) (ht : P.underlying t = some (.map k e)) (R : Value → Option (DataW H × List MemPlace)) (b n : Nat) (D : DataW H)
    (hm : a.eval m = .map (some b)) (hown : w.ownsMap P k R b n D) (hn : n < maxLen) (key val : Value) (kl : Lit) (hx : a.eval x = key) (hv : a.eval v = val) (hkey : keyOf P k key = some kl)
    (d : DataW H) (ps : List MemPlace) (hval : R val = some (d, ps))
    (hK : ∀ w', w'.ownsMap P k R b (n + 1) (D.put kl d) → w.grownBy w' (some b) → wpList P ops Q rest (a.put o.dst undef) w') :
    wpList P ops Q (o :: rest) a w := by
  refine wpList_plain hg fun K' hK' => ?_
  obtain ⟨w', hrun, r1, r2⟩ := hown.update K ht hn hkey hval
  unfold Oper.wp
  simp [execOp, hop, hm, hx, hv, hrun, Result.andThen]
  exact hK' _ _ (hK w' r1 r2)
theorem lawS : Go.Maps.Keyed Tryz.prog 9 := Go.Maps.string_keyed Tryz.underlying9
theorem key_strS {x : ByteArray} (h : x.size ≤ maxLen) : Go.keyOf Tryz.prog 9 (.string x) = some (litT x) := Go.WideMaps.keyOf_string_mk Tryz.underlying9 h
/-- What stands behind a word of the desk: whether a subject, whether a number. -/
def cmdD (d : Bool → Bool → DataW Unit) : DataW Unit :=
  ((((((((((DataW.map [] : DataW Unit).put (litT ⟨#[112, 117, 116]⟩) (d true false)).put (litT ⟨#[106, 111, 105, 110]⟩) (d true false)).put (litT ⟨#[108, 101, 97, 118, 101]⟩) (d true false)).put (litT ⟨#[116, 105, 99, 107]⟩) (d false true)).put (litT ⟨#[99, 108, 111, 115, 101]⟩) (d false false)).put (litT ⟨#[119, 104, 101, 114, 101]⟩) (d true false)).put (litT ⟨#[114, 97, 110, 107]⟩) (d true true)).put (litT ⟨#[109, 97, 110, 121]⟩) (d true false)).put (litT ⟨#[116, 111, 112]⟩) (d false false))
theorem mapMadeC (w : World) : (Instr.makeMap 31 none).run Tryz.prog w = .ok (.map (some w.heap.size)) (w.alloc (.map #[] 0)) := by
  have h := Tryz.underlying31
  simp [Instr.makeMap, h]
set_option maxHeartbeats 2000000 in
theorem c_commandsByWord (R : Value → Option (DataW Unit × List MemPlace)) (d : Bool → Bool → DataW Unit) (hR : ∀ a b f, R (.agg #[.bool a, .bool b, f]) = some (d a b, [])) (w : World) :
    Calls Tryz.prog 11 #[] w fun e w' => e = .returned (.map (some w.heap.size)) ∧ w'.ownsMap Tryz.prog 9 R w.heap.size 9 (cmdD d) ∧ Below w.heap.size w w' := by
  have M0 := hide (World.ownsMap_made w Tryz.prog 9 R)
  have B0 : Hid (Below w.heap.size w (w.alloc (.map #[] 0))) := (Below.refl _ _).alloc (Nat.le_refl _) _
  have HR := hide hR
  have hmm := mapMadeC
  clear hR
  go_enter Tryz.func11, Tryz.ntmps11
  go_wp2_with (refine insert_own _ rfl _ _ _ 31 rfl 9 34 lawS Tryz.underlying31 R w.heap.size _ _ rfl M0.out (by unfold maxLen; omega) _ _ _ rfl rfl (key_strS (by decide)) _ [] (HR.out _ _ _) ?_; intro w1 hown1 hgrow1; have B0 := hide (B0.out.grown hgrow1 B0.out.size (fun j hj => by cases hj; exact Nat.le_refl _)); have M0 := hide hown1; clear hown1 hgrow1)
  go_ret
  exact ⟨rfl, M0.out, B0.out⟩
/-- The words with which a line may begin, rising. -/
def wordsK : List ByteArray := [⟨#[99, 108, 111, 115, 101]⟩, ⟨#[106, 111, 105, 110]⟩, ⟨#[108, 101, 97, 118, 101]⟩, ⟨#[109, 97, 110, 121]⟩, ⟨#[112, 117, 116]⟩, ⟨#[114, 97, 110, 107]⟩, ⟨#[116, 105, 99, 107]⟩, ⟨#[116, 111, 112]⟩, ⟨#[119, 104, 101, 114, 101]⟩]
set_option maxHeartbeats 2000000 in
theorem c_s_DeskWords (w : World) : Calls Tryz.prog 4 #[] w fun e w' => ∃ v, e = .returned v ∧ OwnT w' w.heap.size v wordsK ∧ Below w.heap.size w w' := by
  have O0 : Hid (OwnT (w.alloc (.cells (wordsK.map Value.string).toArray 9)) w.heap.size (.slice (some ⟨w.heap.size, 0, none⟩) 9 9) wordsK) := by
    exact hide ⟨rfl, .inr ⟨w.heap.size, 9, (wordsK.map Value.string).toArray, rfl, Nat.le_refl _, heap_alloc_new w _, Nat.le_refl _, by decide, rfl, rfl⟩⟩
  have B0 : Hid (Below w.heap.size w (w.alloc (.cells (wordsK.map Value.string).toArray 9))) := (Below.refl _ _).alloc (Nat.le_refl _) _
  go_enter Tryz.func4, Tryz.ntmps4
  go_wp2
  go_ret
  exact ⟨_, rfl, O0.out, B0.out⟩

/-- The marks that are laid over texts. -/
def mts (k0 n : Nat) : List ByteArray := (List.range n).map (fun i => mtx (k0 + i))
theorem mts_len (k0 n : Nat) : (mts k0 n).length = n := by simp [mts]
theorem mts_at {k0 n i : Nat} (h : i < n) : (mts k0 n)[i]? = some (mtx (k0 + i)) := by simp [mts, h]
def ovt (k0 : Nat) (L : List ByteArray) (k : Nat) : List ByteArray := mts k0 k ++ L.drop k
theorem ovt_len (k0 : Nat) (L : List ByteArray) (k : Nat) (hk : k ≤ L.length) : (ovt k0 L k).length = L.length := by simp [ovt, mts_len]; omega
theorem ovt_set (k0 : Nat) {L : List ByteArray} {k : Nat} (hk : k < L.length) : (ovt k0 L k).set k (mtx (k0 + k)) = ovt k0 L (k + 1) := by
  unfold ovt
  rw [List.set_append_right _ _ (by rw [mts_len]; omega), mts_len, Nat.sub_self, List.drop_eq_getElem_cons hk, List.set_cons_zero]
  show mts k0 k ++ mtx (k0 + k) :: L.drop (k + 1) = (List.range (k + 1)).map (fun i => mtx (k0 + i)) ++ L.drop (k + 1)
  rw [List.range_succ, List.map_append, List.append_assoc]; rfl
theorem ovt_all (k0 : Nat) (L : List ByteArray) : ovt k0 L L.length = mts k0 L.length := by simp [ovt]
theorem grownP {w w1 w2 : World} {r : Option Nat} (h : w.grownBy w1 r) (hb : Below w1.heap.size w1 w2) : w.grownBy w2 r :=
  ⟨hb.os.trans h.os, hb.tape.trans h.tape, hb.output.trans h.output, Nat.le_trans h.size hb.size, fun k hk hne => by rw [hb.block k (Nat.lt_of_lt_of_le hk h.size)]; exact h.block k hk hne⟩
theorem grownO (w : World) (g o : Nat) (u : Value) : w.grownBy (w.setCell ⟨g, o, none⟩ u) (some g) :=
  ⟨rfl, rfl, rfl, by simp [World.setCell], fun k hk hne => Below.heap_setCell _ _ _ _ (fun e => hne (by rw [e]))⟩
set_option maxHeartbeats 1000000 in
theorem c_markStrT {w : World} {B g c N : Nat} {L : List ByteArray} (k0 : Nat) (h0 : 1 ≤ k0) (h1 : k0 ≤ 1000) (hn : L.length = N) (hl : N ≤ 1000) (h : w.ownsRow B 9 1 (.slice (some ⟨g, 0, none⟩) N c) N (L.map Value.string)) :
    Calls Tryz.prog 7 #[.slice (some ⟨g, 0, none⟩) N c, .int .i64 k0] w fun e w' => e = .returned (.int .i64 ((k0 + N : Nat) : Int)) ∧ w'.ownsRow B 9 1 (.slice (some ⟨g, 0, none⟩) N c) N ((mts k0 N).map Value.string) ∧ w.grownBy w' (some g) := by
  have HO := hide h
  have HN := hide hn
  clear h hn
  go_enter Tryz.func7, Tryz.ntmps7
  go_wp2
  go_loopw [1, 5] (fun m i wr => w.grownBy wr (some g) ∧ ∃ (k : Nat), k ≤ N ∧ i = .int .i64 k ∧ m = .int .i64 ((k0 + k : Nat) : Int) ∧ wr.ownsRow B 9 1 (.slice (some ⟨g, 0, none⟩) N c) N ((ovt k0 L k).map Value.string)) (fun m i wr => N - (intOf i).toNat)
  case atStart => exact ⟨World.grownBy.refl _ _, 0, Nat.zero_le _, rfl, rfl, HO.out⟩
  case round =>
    obtain ⟨hg, k, hk, rfl, rfl, hown⟩ := hrel
    have HG := hide hg
    have HW := hide hown
    obtain ⟨K, hK⟩ : ∃ K, k0 + k = K := ⟨_, rfl⟩
    rw [hK]
    have HK := hide hK
    have hKb : K ≤ 12000000 := by omega
    have hK1 : 1 ≤ K := by omega
    by_cases hkn : k < N
    · have hyl : ((ovt k0 L k).map Value.string).length = N := by have := hown.1; omega
      have hcc : ∀ W, Below wr.heap.size wr W → (∃ x, W.cell? ⟨g, k, none⟩ = some x) ∧ W.frozen? ⟨g, k, none⟩ = false := fun W hW => by
        have ho := own_past hown hW
        refine ⟨⟨((ovt k0 L k).map Value.string)[k]'(by omega), ?_⟩, ho.frozenAt k⟩
        rw [ho.cellAt k (by omega), List.getElem?_eq_getElem]
      have HC := hide hcc
      clear hg hown hK hcc hyl
      go_wp2_with (go_at_call 12; refine (c_markText K hK1 (by omega) _).mono ?_; rintro e w1 ⟨rfl, hb1⟩; obtain ⟨⟨x, hx⟩, hf⟩ := HC.out _ hb1; have HB := hide hb1; clear hb1)
      go_roundw
      case rel =>
        have ho := ((own_past HW.out HB.out).stored k (.string (mtx K))).1
        have e1 := HK.out
        have e2 := HN.out
        rw [← List.map_set, ← e1, ovt_set k0 (by omega)] at ho
        subst e1
        exact ⟨(grownP HG.out HB.out).trans (grownO _ _ _ _), k + 1, by omega, by go_num, by go_num, ho⟩
      case measure => simp [intOf]; omega
    · have e : k = N := by omega
      have HE : Hid ((K : Int) = ((k0 + N : Nat) : Int)) := (by omega : (K : Int) = ((k0 + N : Nat) : Int))
      have HF : Hid (wr.ownsRow B 9 1 (.slice (some ⟨g, 0, none⟩) N c) N ((mts k0 N).map Value.string)) := by
        rw [e, show ovt k0 L N = mts k0 N by rw [← HN.out]; exact ovt_all _ _] at hown; exact hown
      clear hg hown hK e
      go_wp2
      go_ret
      exact ⟨by rw [← HE.out]; rfl, HF.out, HG.out⟩
set_option maxHeartbeats 1000000 in
theorem c_heldStrT {w : World} {B g c N : Nat} (k0 : Nat) (h0 : 1 ≤ k0) (h1 : k0 ≤ 1000) (hl : N ≤ 1000) (h : w.ownsRow B 9 1 (.slice (some ⟨g, 0, none⟩) N c) N ((mts k0 N).map Value.string)) :
    Calls Tryz.prog 8 #[.slice (some ⟨g, 0, none⟩) N c, .int .i64 k0] w fun e w' => e = .returned (.int .i64 ((k0 + N : Nat) : Int)) ∧ Below w.heap.size w w' := by
  have HO := hide h
  clear h
  go_enter Tryz.func8, Tryz.ntmps8
  go_wp2
  go_loopw [1, 5] (fun m i wr => Below w.heap.size w wr ∧ ∃ (k : Nat), k ≤ N ∧ i = .int .i64 k ∧ m = .int .i64 ((k0 + k : Nat) : Int)) (fun m i wr => N - (intOf i).toNat)
  case atStart => exact ⟨Below.refl _ _, 0, Nat.zero_le _, rfl, rfl⟩
  case round =>
    obtain ⟨hbel, k, hk, rfl, rfl⟩ := hrel
    have HB := hide hbel
    obtain ⟨K, hK⟩ : ∃ K, k0 + k = K := ⟨_, rfl⟩
    rw [hK]
    have HK := hide hK
    have hKb : K ≤ 2000 := by omega
    have hK1 : 1 ≤ K := by omega
    by_cases hkn : k < N
    · have hc1 : wr.cell? ⟨g, k, none⟩ = some (.string (mtx K)) := by
        have ho := own_past HO.out hbel
        rw [ho.cellAt k (by omega), List.getElem?_map, mts_at hkn, hK]; rfl
      obtain ⟨X, hX⟩ : ∃ X, mtx K = X := ⟨_, rfl⟩
      have hcT := fun W => c_markText K (by omega) (by omega) W
      rw [hX] at hc1 hcT
      have hgw := World.block_lt_of_cell? _ _ hc1
      clear hbel hK hX
      go_wp2_with fail
      go_region_held3 (Kept wr.heap.size wr)
        (refine held ?_ (by simp) <;> first | exact (Below.refl _ _).drew | exact hS1)
        (first | (go_at_call 12; refine (hcT _).mono ?_; rintro e w1 ⟨rfl, hb1⟩; obtain ⟨hS1, hS2⟩ := held_call hb1 ‹Kept _ _ _›; obtain ⟨hc2, hf2⟩ := bcell hb1; clear hb1))
      all_goals go_wp2
      all_goals go_roundw
      case rel => have := HK.out; exact ⟨HB.out.trans (hS1.mono HB.out.size), k + 1, by omega, by go_num, by go_num⟩
      case measure => simp [intOf]; omega
    · have e : k = N := by omega
      have HE : Hid ((K : Int) = ((k0 + N : Nat) : Int)) := (by omega : (K : Int) = ((k0 + N : Nat) : Int))
      clear hbel hK e
      go_wp2
      go_ret
      exact ⟨by rw [← HE.out]; rfl, HB.out⟩
end Go.Proofs.YtpackbgmilkaeaaGreatDoor
