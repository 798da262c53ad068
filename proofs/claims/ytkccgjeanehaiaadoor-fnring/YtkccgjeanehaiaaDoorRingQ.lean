/-
  The list with a member more, as the law makes it. Of no program's walk.
-/
import Derived.Test.YtkccgjeanehaiaaDoorRingN
namespace Go.Proofs.YtkccgjeanehaiaaDoor
set_option linter.unusedVariables false
set_option linter.unusedSimpArgs false
open Go.PlainAid

/-- Is it among the first i? -/
def inP (L : List ByteArray) (o : ByteArray) : Nat → Bool
  | 0 => false
  | i + 1 => inP L o i || ((nth L i).toList == o.toList)
theorem inP_step {L : List ByteArray} {o u : ByteArray} {i : Nat} (h : L[i]? = some u) : inP L o (i + 1) = (inP L o i || (u.toList == o.toList)) := by
  show (inP L o i || ((nth L i).toList == o.toList)) = _
  rw [nth_some h]
theorem inP_mem {L : List ByteArray} {o : ByteArray} : ∀ (n i : Nat), i < n → L[i]? = some o → inP L o n = true
  | 0, i, h, _ => by omega
  | n + 1, i, h, ho => by
    by_cases e : i = n
    · subst e; rw [inP_step ho]; simp
    · show (inP L o n || _) = true
      rw [inP_mem n i (by omega) ho]; rfl
theorem inP_all {L : List ByteArray} {o : ByteArray} (h : o ∈ L) : inP L o L.length = true := by
  obtain ⟨i, hi⟩ := List.getElem?_of_mem h
  exact inP_mem _ i (List.getElem?_eq_some_iff.1 hi).1 hi

/-- What has been made of the first i. -/
def NX (L : List ByteArray) (nm : ByteArray) (i : Nat) (nx : List ByteArray) (put : Bool) : Prop :=
  (put = false ∧ nx = L.take i ∧ ∀ a ∈ L.take i, strLt a nm = true) ∨
  (put = true ∧ ∃ q, q < i ∧ (∀ a ∈ L.take q, strLt a nm = true) ∧ ((L[q]? = some nm ∧ nx = L.take i) ∨ (∃ b, L[q]? = some b ∧ strLt nm b = true ∧ nx = L.take q ++ nm :: (L.take i).drop q)))
theorem take_one {L : List ByteArray} {i : Nat} {u : ByteArray} (h : L[i]? = some u) : L.take (i + 1) = L.take i ++ [u] := by rw [List.take_add_one, h]; rfl
theorem take_len {L : List ByteArray} {i : Nat} {u : ByteArray} (h : L[i]? = some u) : (L.take i).length = i := by
  have := (List.getElem?_eq_some_iff.1 h).1
  rw [List.length_take]; omega
theorem nx_a {L : List ByteArray} {nm u : ByteArray} {i : Nat} {nx : List ByteArray} (h : NX L nm i nx false) (hu : L[i]? = some u) (hlt : strLt u nm = true) : NX L nm (i + 1) (nx ++ [u]) false := by
  rcases h with ⟨_, h1, h2⟩ | ⟨h1, _⟩
  · refine .inl ⟨rfl, by rw [take_one hu, h1], fun a ha => ?_⟩
    rw [take_one hu] at ha
    rcases List.mem_append.1 ha with q | q
    · exact h2 a q
    · simp at q; subst q; exact hlt
  · cases h1
theorem nx_b {L : List ByteArray} {nm : ByteArray} {i : Nat} {nx : List ByteArray} (h : NX L nm i nx false) (hu : L[i]? = some nm) : NX L nm (i + 1) (nx ++ [nm]) true := by
  rcases h with ⟨_, h1, h2⟩ | ⟨h1, _⟩
  · exact .inr ⟨rfl, i, by omega, h2, .inl ⟨hu, by rw [take_one hu, h1]⟩⟩
  · cases h1
theorem nx_c {L : List ByteArray} {nm u : ByteArray} {i : Nat} {nx : List ByteArray} (h : NX L nm i nx false) (hu : L[i]? = some u) (hlt : strLt nm u = true) : NX L nm (i + 1) (nx ++ [nm] ++ [u]) true := by
  rcases h with ⟨_, h1, h2⟩ | ⟨h1, _⟩
  · refine .inr ⟨rfl, i, by omega, h2, .inr ⟨u, hu, hlt, ?_⟩⟩
    have hl := take_len hu
    rw [take_one hu, h1, List.drop_append_of_le_length (by omega), List.drop_eq_nil_of_le (by omega)]
    simp
  · cases h1
theorem nx_d {L : List ByteArray} {nm u : ByteArray} {i : Nat} {nx : List ByteArray} (hL : membersB L = true) (h : NX L nm i nx true) (hu : L[i]? = some u) : NX L nm (i + 1) (nx ++ [u]) true ∧ strLt nm u = true := by
  rcases h with ⟨h1, _⟩ | ⟨_, q, hq, h2, h3⟩
  · cases h1
  · have hup : ∀ b, L[q]? = some b → strLt b u = true := fun b hb => by
      have h' : L[q + (i - q - 1) + 1]? = some u := by rw [show q + (i - q - 1) + 1 = i by omega]; exact hu
      exact memb_rise hL hb _ h'
    rcases h3 with ⟨h3, h4⟩ | ⟨b, h3, h4, h5⟩
    · exact ⟨.inr ⟨rfl, q, by omega, h2, .inl ⟨h3, by rw [take_one hu, h4]⟩⟩, hup nm h3⟩
    · refine ⟨.inr ⟨rfl, q, by omega, h2, .inr ⟨b, h3, h4, ?_⟩⟩, strLt_trans h4 (hup b h3)⟩
      have hl := take_len hu
      rw [take_one hu, h5, List.drop_append_of_le_length (by omega)]
      simp
/-- In the end it is L, or L with the name where it belongs. -/
theorem nx_end {L : List ByteArray} {nm : ByteArray} {nx : List ByteArray} {put : Bool} (hL : membersB L = true) (h : NX L nm L.length nx put) :
    ∃ fin, fin = (if put then nx else nx ++ [nm]) ∧ (fin = L ∨ ∃ q, fin = insN L q nm ∧ (∀ a ∈ L.take q, strLt a nm = true) ∧ ∀ b ∈ L.drop q, strLt nm b = true) := by
  rcases h with ⟨h1, h2, h3⟩ | ⟨h1, q, hq, h2, h3⟩
  · subst h1
    refine ⟨_, rfl, .inr ⟨L.length, ?_, h3, fun b hb => ?_⟩⟩
    · simp [insN, h2]
    · simp at hb
  · subst h1
    refine ⟨_, rfl, ?_⟩
    rcases h3 with ⟨h3, h4⟩ | ⟨b, h3, h4, h5⟩
    · left; simp [h4]
    · right
      refine ⟨q, ?_, h2, fun c hc => ?_⟩
      · simp [insN, h5]
      · obtain ⟨j, hj⟩ := List.getElem?_of_mem hc
        rw [List.getElem?_drop] at hj
        rcases Nat.eq_zero_or_pos j with e | e
        · subst e; rw [Nat.add_zero, h3] at hj; obtain rfl := Option.some.inj hj; exact h4
        · have h' : L[q + (j - 1) + 1]? = some c := by rw [show q + (j - 1) + 1 = q + j by omega]; exact hj
          exact strLt_trans h4 (memb_rise hL h3 _ h')
theorem fin_own {L : List ByteArray} {nm key o p : ByteArray} {fin : List ByteArray} (hL : membersB L = true) (hk : key.size ≤ 20000) (h12 : L.length < 12) (hn : nameB nm = true) (hf : fin = L ∨ ∃ q, fin = insN L q nm ∧ (∀ a ∈ L.take q, strLt a nm = true) ∧ ∀ b ∈ L.drop q, strLt nm b = true)
    (ho : OwnAns L key o) (hp : OwnAns fin key p) : p = o ∨ p = nm := by
  rcases hf with rfl | ⟨q, rfl, h1, h2⟩
  · exact .inl (own_one hp ho)
  · exact ins_own hL hk h12 hn h1 h2 ho hp

theorem bt_two (x y : Nat) (hx : x < 256) (hy : y < 256) : bt (strOfNums [(x : Int), (y : Int)]) 0 = x ∧ bt (strOfNums [(x : Int), (y : Int)]) 1 = y ∧ (strOfNums [(x : Int), (y : Int)]).size = 2 := by
  refine ⟨?_, ?_, rfl⟩
  · unfold bt
    rw [dif_pos (show 0 < (strOfNums [(x : Int), (y : Int)]).size from Nat.zero_lt_succ _)]
    show (((UInt8.ofNat ((x : Int).toNat)).toNat : Nat) : Int) = x
    rw [UInt8.toNat_ofNat']; simp; omega
  · unfold bt
    rw [dif_pos (show 1 < (strOfNums [(x : Int), (y : Int)]).size from Nat.succ_lt_succ (Nat.zero_lt_succ _))]
    show (((UInt8.ofNat ((y : Int).toNat)).toNat : Nat) : Int) = y
    rw [UInt8.toNat_ofNat']; simp; omega
theorem name_two (x y : Nat) (hx : x < 26) (hy : y < 26) : nameB (strOfNums [((97 + x : Nat) : Int), ((97 + y : Nat) : Int)]) = true := by
  obtain ⟨h0, h1, h2⟩ := bt_two (97 + x) (97 + y) (by omega) (by omega)
  have l0 : letB (bt (strOfNums [((97 + x : Nat) : Int), ((97 + y : Nat) : Int)]) 0) = true := by rw [h0]; exact letB_t (by omega) (by omega)
  have l1 : letB (bt (strOfNums [((97 + x : Nat) : Int), ((97 + y : Nat) : Int)]) 1) = true := by rw [h1]; exact letB_t (by omega) (by omega)
  refine nameB_t (by omega) (by omega) l0 ?_
  rw [h2]
  exact allB_succ (allB_succ rfl (nmB_l l0)) (nmB_l l1)
end Go.Proofs.YtkccgjeanehaiaaDoor
