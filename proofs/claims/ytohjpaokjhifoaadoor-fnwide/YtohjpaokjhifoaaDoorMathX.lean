/-
  Plain facts: wide numbers in any order; a wide number is read back from its text. Of no program.
-/
import Derived.Test.YtohjpaokjhifoaaDoorLWideReadC
import Derived.Test.YtohjpaokjhifoaaDoorWeightC
namespace Go.Proofs.YtohjpaokjhifoaaDoor
set_option linter.unusedVariables false
set_option linter.unusedSimpArgs false
open Go.RowKit Go.PlainAid

/-- The number of a wide. -/
def W2 (a b : Int) : Int := a * 18446744073709551616 + b
theorem hw_of {a b : Int} (ha : I64 a) (hb : U64 b) : hiW (W2 a b) = a ∧ loW (W2 a b) = b := by
  unfold I64 at ha; unfold U64 at hb; unfold hiW loW uw wrap64 W2; omega
theorem add_W2 {a b c d : Int} (ha : I64 a) (hb : U64 b) (hc : I64 c) (hd : U64 d) : addH a b c d = hiW (W2 a b + W2 c d) ∧ addL b d = loW (W2 a b + W2 c d) := by
  have h := add_hw (W2 a b) (W2 c d)
  rw [(hw_of ha hb).1, (hw_of ha hb).2, (hw_of hc hd).1, (hw_of hc hd).2] at h
  exact h
theorem add_in (a b c d : Int) : I64 (addH a b c d) ∧ U64 (addL b d) := ⟨w64_in _, uw_in _⟩
theorem add_comm2 (a b c d : Int) : addH a b c d = addH c d a b ∧ addL b d = addL d b := by
  unfold addH addL addC; rw [Int.add_comm b d, Int.add_comm a c]; exact ⟨rfl, rfl⟩
theorem add_assoc2 {a b c d e f : Int} (ha : I64 a) (hb : U64 b) (hc : I64 c) (hd : U64 d) (he : I64 e) (hf : U64 f) :
    addH (addH a b c d) (addL b d) e f = addH a b (addH c d e f) (addL d f) ∧ addL (addL b d) f = addL b (addL d f) := by
  have h1 := add_W2 ha hb hc hd
  have h2 := add_W2 hc hd he hf
  have h3 := add_hw (W2 a b + W2 c d) (W2 e f)
  have h4 := add_hw (W2 a b) (W2 c d + W2 e f)
  rw [← h1.1, ← h1.2, (hw_of he hf).1, (hw_of he hf).2] at h3
  rw [← h2.1, ← h2.2, (hw_of ha hb).1, (hw_of ha hb).2, ← Int.add_assoc] at h4
  exact ⟨h3.1.trans h4.1.symm, h3.2.trans h4.2.symm⟩
theorem times_hw (n w : Int) : thH n w = hiW (n * w) ∧ thL n w = loW (n * w) := ⟨rfl, rfl⟩
theorem times_add (n w v : Int) : addH (thH n w) (thL n w) (thH n v) (thL n v) = thH n (w + v) ∧ addL (thL n w) (thL n v) = thL n (w + v) := by
  have h := add_hw (n * w) (n * v)
  rw [← Int.mul_add] at h
  exact h
theorem times_one {n : Int} (h : I64 n) : thH n 1 = ofH n ∧ thL n 1 = uw n := by
  have := of_hw n h
  rw [this.1, this.2]; unfold thH thL hiW loW; rw [Int.mul_one]; exact ⟨rfl, rfl⟩
theorem wAdd_comm (a b : Int) : wAdd a b = wAdd b a := by unfold wAdd; rw [Int.add_comm]
theorem no_wrap {w v : Int} (hw : U64 w) (hv : U64 v) (h : w ≤ IntKind.u64.wrap (w + v)) : IntKind.u64.wrap (w + v) = w + v := by
  unfold U64 at hw hv; rw [IntKind.wrap_u64] at h ⊢; omega

/-- Digits' number. -/
def valI (l : List Int) : Int := l.foldl (fun a x => 10 * a + (x - 48)) 0
theorem valI_snoc (l : List Int) (x : Int) : valI (l ++ [x]) = 10 * valI l + (x - 48) := by unfold valI; rw [List.foldl_append]; rfl
theorem valB_list (L : List Int) (hL : ∀ x ∈ L, 0 ≤ x ∧ x ≤ 255) (s : ByteArray) (hs : s.data.toList = L.map fun n => UInt8.ofNat n.toNat) : ∀ k, k ≤ L.length → valB s k = valI (L.take k)
  | 0, _ => rfl
  | k + 1, h => by
    show 10 * valB s k + (bt s k - 48) = _
    rw [valB_list L hL s hs k (by omega), (num_bytes L hL s hs).2 k (by omega), List.take_succ_eq_append_getElem (by omega), valI_snoc]
    rw [List.getD_eq_getElem?_getD, List.getElem?_eq_getElem (by omega)]; rfl
theorem digs_val : ∀ (f M : Nat), M < 10 ^ f → valI (digs f M).reverse = (M : Int)
  | 0, M, h => by simp at h; subst h; rfl
  | f + 1, M, h => by
    unfold digs
    by_cases e : M = 0
    · rw [if_pos e]; subst e; rfl
    · rw [if_neg e, List.reverse_cons, valI_snoc, digs_val f (M / 10) (by rw [Nat.pow_succ] at h; omega)]
      unfold dgN; omega
theorem decR_val (M : Nat) (h : M < 340282366920938463463374607431768211456) : valI (decR M).reverse = (M : Int) := by
  unfold decR
  by_cases e : M = 0
  · rw [if_pos e]; subst e; rfl
  · rw [if_neg e]
    exact digs_val 40 M (by have : (340282366920938463463374607431768211456 : Nat) < 10 ^ 40 := by decide
                            omega)

theorem strOf_data (L : List Int) : (strOfNums L).data.toList = L.map fun n => UInt8.ofNat n.toNat := by unfold strOfNums; simp
theorem mag_W2 {a b : Int} (ha : I64 a) (hb : U64 b) : (a < 0 → W2 a b = -(mag a b : Int)) ∧ (¬ a < 0 → W2 a b = (mag a b : Int)) := by
  unfold I64 at ha; unfold U64 at hb; unfold W2 mag
  exact ⟨fun h => by rw [if_pos h]; omega, fun h => by rw [if_neg h]; omega⟩
theorem wide_back {a b : Int} (ha : I64 a) (hb : U64 b) : rdH (strOfNums (wtxt a b)) = a ∧ rdL (strOfNums (wtxt a b)) = b ∧ rdC (strOfNums (wtxt a b)) = 0 := by
  have hM := mag_lt a b ha hb
  have hlen := decR_len (mag a b) hM
  obtain ⟨L, hLe⟩ : ∃ L, L = (decR (mag a b)).reverse := ⟨_, rfl⟩
  have hL : ∀ x ∈ L, 48 ≤ x ∧ x ≤ 57 := fun x hx => decR_mem (mag a b) x (by rw [hLe] at hx; exact List.mem_reverse.1 hx)
  have hL' : ∀ x ∈ L, 0 ≤ x ∧ x ≤ 255 := fun x hx => by have := hL x hx; omega
  have hLl : 1 ≤ L.length ∧ L.length ≤ 39 := by rw [hLe, List.length_reverse]; exact hlen
  have hval : valI L = (mag a b : Int) := by rw [hLe]; exact decR_val _ hM
  have hV : rdV (strOfNums (wtxt a b)) = W2 a b := by
    by_cases h : a < 0
    · have hw : wtxt a b = 45 :: L := by unfold wtxt; rw [if_pos h, hLe]
      have hd := strOf_data (45 :: L)
      have h45 : ∀ x ∈ (45 :: L : List Int), 0 ≤ x ∧ x ≤ 255 := by
        intro x hx
        rcases List.mem_cons.1 hx with e | e
        · omega
        · exact hL' x e
      have hnb := num_bytes (45 :: L) h45 _ hd
      have hn : negB (strOfNums (wtxt a b)) = true := by
        unfold negB
        rw [hw, hnb.2 0 (by simp), decide_eq_true (show 0 < (strOfNums (45 :: L)).size by rw [hnb.1]; simp)]; rfl
      have ht : (tailS (strOfNums (wtxt a b))).data.toList = L.map fun n => UInt8.ofNat n.toNat := by
        unfold tailS; rw [if_pos hn, Lib.extract_to_end, hw, hd]; rfl
      unfold rdV
      rw [if_pos hn, (num_bytes L hL' _ ht).1, valB_list L hL' _ ht _ (Nat.le_refl _), List.take_length, hval, (mag_W2 ha hb).1 h]
    · have hw : wtxt a b = L := by unfold wtxt; rw [if_neg h, hLe]
      have hd := strOf_data L
      have hnb := num_bytes L hL' _ hd
      have hn : negB (strOfNums (wtxt a b)) = false := by
        unfold negB
        have h0 := hL L[0] (List.getElem_mem (by omega))
        rw [hw, hnb.2 0 (by omega), List.getD_eq_getElem?_getD, List.getElem?_eq_getElem (by omega)]
        have : (L[0] == 45) = false := beq_eq_false_iff_ne.2 (by omega)
        simp only [Option.getD_some, this, Bool.and_false]
      have ht : tailS (strOfNums (wtxt a b)) = strOfNums L := by unfold tailS; rw [if_neg (by rw [hn]; simp), hw]
      unfold rdV
      rw [if_neg (by rw [hn]; simp), ht, hnb.1, valB_list L hL' _ hd _ (Nat.le_refl _), List.take_length, hval, (mag_W2 ha hb).2 h]
  have hB : rdB (strOfNums (wtxt a b)) = true := by
    unfold rdB; rw [hV, (hw_of ha hb).1, (hw_of ha hb).2]; simp
  have hF : fitB (strOfNums (wtxt a b)) = true := decide_eq_true (by
    rw [strOfNums_size]; unfold wtxt; split
    · rw [List.length_cons, ← hLe]; omega
    · rw [← hLe]; omega)
  have := rd_ok hF hB
  rw [hV, (hw_of ha hb).1, (hw_of ha hb).2] at this
  exact ⟨this.1.symm, this.2.1.symm, this.2.2.symm⟩
theorem toList_inj {a b : ByteArray} (h : a.toList = b.toList) : a = b := by
  apply ByteArray.ext
  rw [← Array.toList_inj]
  have e : ∀ s : ByteArray, s.toList = s.data.toList := fun s => Lib.toList_data s
  rw [← e, ← e, h]
theorem wide_same {u : ByteArray} (h : rdC u = 0) : strOfNums (wtxt (rdH u) (rdL u)) = u ∧ I64 (rdH u) ∧ U64 (rdL u) := by
  cases hf : fitB u
  · have := (rd_size hf).2.2; omega
  · cases hr : rdB u
    · have := (rd_bad hf hr).2.2; omega
    · obtain ⟨e1, e2, _⟩ := rd_ok hf hr
      rw [← e1, ← e2]
      refine ⟨?_, hiW_in _, loW_in _⟩
      unfold rdB at hr
      have := eq_of_beq hr
      exact toList_inj this
theorem rd_in (u : ByteArray) : I64 (rdH u) ∧ U64 (rdL u) := by
  unfold rdH rdL
  cases fitB u <;> cases rdB u <;> simp <;> first | exact ⟨hiW_in _, loW_in _⟩ | exact ⟨by unfold I64; omega, by unfold U64; omega⟩
end Go.Proofs.YtohjpaokjhifoaaDoor
