/-
  Rings with a member more: how many marks each has; who owns a key. Of no program's walk.
-/
import Derived.Test.YtkccgjeanehaiaaDoorRingP
namespace Go.Proofs.YtkccgjeanehaiaaDoor
set_option linter.unusedVariables false
set_option linter.unusedSimpArgs false
open Go.PlainAid

/-- A member's marks. -/
def mk8 (u : ByteArray) : List Mk := (List.range 8).map fun k => (hashT (mkText u k), u)
theorem mk8_mem {u : ByteArray} {m : Mk} (h : m ∈ mk8 u) : m.2 = u := by
  unfold mk8 at h
  obtain ⟨k, _, rfl⟩ := List.mem_map.1 h
  rfl
theorem mks_take (L : List ByteArray) : ∀ p, p ≤ L.length → mks L (8 * p) = (L.take p).flatMap mk8
  | 0, _ => rfl
  | p + 1, h => by
    obtain ⟨u, hu⟩ : ∃ u, L[p]? = some u := ⟨_, List.getElem?_eq_getElem (by omega)⟩
    have e : 8 * (p + 1) = 8 * p + 0 + 1 + 1 + 1 + 1 + 1 + 1 + 1 + 1 := by omega
    rw [e, mks_succ, mks_succ, mks_succ, mks_succ, mks_succ, mks_succ, mks_succ, mks_succ, Nat.add_zero, mks_take L p (by omega)]
    rw [List.take_add_one, hu, Option.toList_some, List.flatMap_append]
    have e0 := mk_eq (k := 0) hu (by omega)
    have e1 := mk_eq (k := 1) hu (by omega)
    have e2 := mk_eq (k := 2) hu (by omega)
    have e3 := mk_eq (k := 3) hu (by omega)
    have e4 := mk_eq (k := 4) hu (by omega)
    have e5 := mk_eq (k := 5) hu (by omega)
    have e6 := mk_eq (k := 6) hu (by omega)
    have e7 := mk_eq (k := 7) hu (by omega)
    rw [Nat.add_zero] at e0
    rw [e0, show 8 * p + 1 + 1 = 8 * p + 2 by omega, show 8 * p + 2 + 1 = 8 * p + 3 by omega, show 8 * p + 3 + 1 = 8 * p + 4 by omega, show 8 * p + 4 + 1 = 8 * p + 5 by omega, show 8 * p + 5 + 1 = 8 * p + 6 by omega, show 8 * p + 6 + 1 = 8 * p + 7 by omega, e1, e2, e3, e4, e5, e6, e7]
    have e8 : List.flatMap mk8 [u] = mk8 u := by simp
    rw [e8]
    have e9 : mk8 u = [(hashT (mkText u 0), u), (hashT (mkText u 1), u), (hashT (mkText u 2), u), (hashT (mkText u 3), u), (hashT (mkText u 4), u), (hashT (mkText u 5), u), (hashT (mkText u 6), u), (hashT (mkText u 7), u)] := rfl
    rw [e9]
    simp
theorem mks_flat (L : List ByteArray) : mks L (8 * L.length) = L.flatMap mk8 := by
  have := mks_take L L.length (Nat.le_refl _)
  rw [List.take_length] at this; exact this

/-- Right members: names that rise. -/
theorem memb_pair {L : List ByteArray} (h : membersB L = true) : L.Pairwise (fun a b => strLt a b = true) := by
  rw [List.pairwise_iff_getElem]
  intro i j hi hj hij
  have h2 : L[i + (j - i - 1) + 1]? = some L[j] := by rw [show i + (j - i - 1) + 1 = j by omega]; exact List.getElem?_eq_getElem hj
  exact memb_rise h (List.getElem?_eq_getElem hi) _ h2
theorem memb_mk {L : List ByteArray} (h1 : 1 ≤ L.length) (h2 : L.length ≤ 12) (hn : ∀ u ∈ L, nameB u = true) (hp : L.Pairwise (fun a b => strLt a b = true)) : membersB L = true := by
  refine memb_t (by omega) (by omega) ?_
  have ok : ∀ k, k ≤ L.length → allOk L k = true := by
    intro k
    induction k with
    | zero => intro _; rfl
    | succ k ih =>
      intro hk
      obtain ⟨u, hu⟩ : ∃ u, L[k]? = some u := ⟨_, List.getElem?_eq_getElem (by omega)⟩
      have hnu := hn u (List.mem_of_getElem? hu)
      unfold allOk
      rw [ih (by omega), Bool.true_and]
      match k, hu with
      | 0, hu => rw [okB_0 hu]; exact hnu
      | j + 1, hu =>
        obtain ⟨p, hpj⟩ : ∃ p, L[j]? = some p := ⟨_, List.getElem?_eq_getElem (by omega)⟩
        have hlt := List.pairwise_iff_getElem.1 hp j (j + 1) (by omega) (by omega) (by omega)
        rw [(List.getElem?_eq_some_iff.1 hpj).2, (List.getElem?_eq_some_iff.1 hu).2] at hlt
        rw [okB_s hpj hu, hnu, hlt]; rfl
  exact ok _ (Nat.le_refl _)

theorem strLt_ne {a b : ByteArray} (h : strLt a b = true) : a ≠ b := fun e => by subst e; rw [strLt_irr] at h; cases h

/-- How many marks a member has. -/
def isM (u : ByteArray) (m : Mk) : Bool := m.2.toList == u.toList
theorem isM_iff {u : ByteArray} {m : Mk} : isM u m = true ↔ m.2 = u := ⟨fun h => str_ext h, fun h => by unfold isM; rw [h]; simp⟩
theorem cnt_not {u : ByteArray} : ∀ L : List ByteArray, (∀ v ∈ L, v ≠ u) → (L.flatMap mk8).countP (isM u) = 0
  | [], _ => rfl
  | v :: r, h => by
    rw [List.flatMap_cons, List.countP_append, cnt_not r (fun x hx => h x (List.mem_cons_of_mem _ hx)), Nat.add_zero]
    rw [List.countP_eq_zero]
    intro m hm hi
    exact h v List.mem_cons_self ((mk8_mem hm).symm.trans (isM_iff.1 hi))
theorem cnt_8 {u : ByteArray} : ∀ L : List ByteArray, L.Pairwise (fun a b => strLt a b = true) → u ∈ L → (L.flatMap mk8).countP (isM u) = 8
  | [], _, h => by simp at h
  | v :: r, hp, h => by
    obtain ⟨h1, h2⟩ := List.pairwise_cons.1 hp
    rw [List.flatMap_cons, List.countP_append]
    by_cases e : v = u
    · subst e
      rw [cnt_not r (fun x hx => (strLt_ne (h1 x hx)).symm), Nat.add_zero]
      have : (mk8 v).countP (isM v) = (mk8 v).length := by
        rw [List.countP_eq_length]
        exact fun m hm => isM_iff.2 (mk8_mem hm)
      rw [this]; rfl
    · have hr : u ∈ r := by rcases List.mem_cons.1 h with q | q; exact absurd q.symm e; exact q
      rw [cnt_8 r h2 hr]
      have : (mk8 v).countP (isM u) = 0 := by
        rw [List.countP_eq_zero]
        intro m hm hi
        exact e ((mk8_mem hm).symm.trans (isM_iff.1 hi))
      rw [this]
theorem ring_cnt {L : List ByteArray} {R : List Mk} {u : ByteArray} (hL : membersB L = true) (hR : IsRing L R) (hu : u ∈ L) : R.countP (isM u) = 8 := by
  rw [hR.1.countP_eq, mks_flat]; exact cnt_8 L (memb_pair hL) hu
theorem cnt_step {R : List Mk} {k : Nat} {m : Mk} (u : ByteArray) (h : R[k]? = some m) : (R.take (k + 1)).countP (isM u) = (R.take k).countP (isM u) + if isM u m then 1 else 0 := by
  rw [List.take_add_one, h, List.countP_append]
  simp [List.countP_cons]

/-- The owner is a member. -/
theorem ownR_mem {R : List Mk} {h : Int} (hR : R ≠ []) : ∃ m ∈ R, ownR R h = m.2 := by
  have hf : ∀ (R : List Mk) m, firstAt h R = some m → m ∈ R := by
    intro R
    induction R with
    | nil => intro m hm; simp [firstAt] at hm
    | cons a r ih =>
      intro m hm
      unfold firstAt at hm
      split at hm
      · cases hm; exact List.mem_cons_self
      · exact List.mem_cons_of_mem _ (ih m hm)
  unfold ownR
  cases e : firstAt h R with
  | some m => exact ⟨m, hf R m e, rfl⟩
  | none =>
    match R, hR with
    | m :: r, _ => exact ⟨m, List.mem_cons_self, rfl⟩
theorem ring_mem {L : List ByteArray} {R : List Mk} {m : Mk} (hR : IsRing L R) (hm : m ∈ R) : m.2 ∈ L := by
  have := hR.1.mem_iff.1 hm
  rw [mks_flat] at this
  obtain ⟨u, hu, h⟩ := List.mem_flatMap.1 this
  rw [mk8_mem h]; exact hu
theorem own_in {L : List ByteArray} {key o : ByteArray} (hL : membersB L = true) (hk : key.size ≤ 20000) (h : OwnAns L key o) : o ∈ L := by
  rcases h with ⟨_, _, R, hR, rfl⟩ | ⟨h1, _⟩
  · have hne : R ≠ [] := fun e => by have := ring_len hR; have := (memb_len hL).1; rw [e] at *; simp at *; omega
    obtain ⟨m, hm, e⟩ := ownR_mem (h := hashT key) hne
    rw [e]; exact ring_mem hR hm
  · rcases h1 with h1 | h1
    · exact absurd hk h1
    · rw [hL] at h1; cases h1

/-- What is left of a ring without one member's marks. -/
theorem firstAt_filter {h : Int} {nm : ByteArray} : ∀ (R : List Mk), (∀ m, firstAt h R = some m → m.2 ≠ nm → firstAt h (R.filter fun m => !isM nm m) = some m) ∧ (firstAt h R = none → firstAt h (R.filter fun m => !isM nm m) = none)
  | [] => ⟨fun m hm => by simp [firstAt] at hm, fun _ => rfl⟩
  | a :: r => by
    obtain ⟨i1, i2⟩ := firstAt_filter (h := h) (nm := nm) r
    constructor
    · intro m hm hne
      unfold firstAt at hm
      split at hm
      · rename_i hle
        cases hm
        have : (!isM nm a) = true := by
          cases q : isM nm a with
          | false => rfl
          | true => exact absurd (isM_iff.1 q) hne
        rw [List.filter_cons_of_pos (p := fun m => !isM nm m) this]
        unfold firstAt; rw [if_pos hle]
      · rename_i hle
        cases q : isM nm a with
        | true => rw [List.filter_cons_of_neg (p := fun m => !isM nm m) (by simp [q])]; exact i1 m hm hne
        | false =>
          rw [List.filter_cons_of_pos (p := fun m => !isM nm m) (by simp [q])]
          unfold firstAt; rw [if_neg hle]; exact i1 m hm hne
    · intro hn
      unfold firstAt at hn
      split at hn
      · cases hn
      · rename_i hle
        cases q : isM nm a with
        | true => rw [List.filter_cons_of_neg (p := fun m => !isM nm m) (by simp [q])]; exact i2 hn
        | false =>
          rw [List.filter_cons_of_pos (p := fun m => !isM nm m) (by simp [q])]
          unfold firstAt; rw [if_neg hle]; exact i2 hn
theorem ownR_filter {h : Int} {nm : ByteArray} {R : List Mk} (hne : ownR R h ≠ nm) (hR : R ≠ []) : ownR (R.filter fun m => !isM nm m) h = ownR R h := by
  obtain ⟨i1, i2⟩ := firstAt_filter (h := h) (nm := nm) R
  cases e : firstAt h R with
  | some m =>
    have e1 : ownR R h = m.2 := by unfold ownR; rw [e]
    rw [e1] at hne
    have e2 := i1 m e hne
    rw [e1]; unfold ownR; rw [e2]
  | none =>
    have e2 := i2 e
    match R, hR with
    | a :: r, _ =>
      have e1 : ownR (a :: r) h = a.2 := by unfold ownR; rw [e]
      rw [e1] at hne
      have q : (!isM nm a) = true := by
        cases q : isM nm a with
        | false => rfl
        | true => exact absurd (isM_iff.1 q) hne
      rw [e1]
      unfold ownR
      rw [e2, List.filter_cons_of_pos (p := fun m => !isM nm m) q]

/-- A member more, where it belongs. -/
def insN (L : List ByteArray) (q : Nat) (nm : ByteArray) : List ByteArray := L.take q ++ nm :: L.drop q
theorem ins_memb {L : List ByteArray} {q : Nat} {nm : ByteArray} (hL : membersB L = true) (h12 : L.length < 12) (hn : nameB nm = true) (hlo : ∀ a ∈ L.take q, strLt a nm = true) (hhi : ∀ b ∈ L.drop q, strLt nm b = true) : membersB (insN L q nm) = true := by
  have hp : (L.take q ++ L.drop q).Pairwise (fun a b => strLt a b = true) := by rw [List.take_append_drop]; exact memb_pair hL
  obtain ⟨p1, p2, p3⟩ := List.pairwise_append.1 hp
  have hlen : (insN L q nm).length = L.length + 1 := by
    unfold insN; rw [List.length_append, List.length_cons, ← Nat.add_assoc, ← List.length_append, List.take_append_drop]
  refine memb_mk (by omega) (by omega) (fun u hu => ?_) ?_
  · unfold insN at hu
    rcases List.mem_append.1 hu with h | h
    · exact memb_name hL (List.mem_of_mem_take h)
    · rcases List.mem_cons.1 h with rfl | h
      · exact hn
      · exact memb_name hL (List.mem_of_mem_drop h)
  · exact List.pairwise_append.2 ⟨p1, List.pairwise_cons.2 ⟨hhi, p2⟩, fun a ha b hb => by
      rcases List.mem_cons.1 hb with rfl | hb
      · exact hlo a ha
      · exact p3 a ha b hb⟩
theorem filter_all {nm : ByteArray} : ∀ L : List ByteArray, (∀ v ∈ L, v ≠ nm) → (L.flatMap mk8).filter (fun m => !isM nm m) = L.flatMap mk8 := fun L h => by
  rw [List.filter_eq_self]
  intro m hm
  obtain ⟨u, hu, hmu⟩ := List.mem_flatMap.1 hm
  cases q : isM nm m with
  | false => rfl
  | true => exact absurd ((mk8_mem hmu).symm.trans (isM_iff.1 q)) (h u hu)
theorem ins_ring {L : List ByteArray} {q : Nat} {nm : ByteArray} {R : List Mk} (hlo : ∀ a ∈ L.take q, strLt a nm = true) (hhi : ∀ b ∈ L.drop q, strLt nm b = true) (hR : IsRing (insN L q nm) R) : IsRing L (R.filter fun m => !isM nm m) := by
  refine ⟨?_, hR.2.filter _⟩
  have h1 := hR.1.filter (fun m => !isM nm m)
  rw [mks_flat] at h1
  rw [mks_flat]
  refine h1.trans ?_
  unfold insN
  rw [List.flatMap_append, List.flatMap_cons, List.filter_append, List.filter_append]
  rw [filter_all (L.take q) (fun v hv => strLt_ne (hlo v hv)), filter_all (L.drop q) (fun v hv => (strLt_ne (hhi v hv)).symm)]
  have : (mk8 nm).filter (fun m => !isM nm m) = [] := by
    rw [List.filter_eq_nil_iff]
    intro m hm
    rw [isM_iff.2 (mk8_mem hm)]; simp
  rw [this, List.nil_append, ← List.flatMap_append, List.take_append_drop]
/-- With a member more a key stays, or goes to that one. -/
theorem ins_own {L : List ByteArray} {q : Nat} {nm key o p : ByteArray} (hL : membersB L = true) (hk : key.size ≤ 20000) (h12 : L.length < 12) (hn : nameB nm = true) (hlo : ∀ a ∈ L.take q, strLt a nm = true) (hhi : ∀ b ∈ L.drop q, strLt nm b = true)
    (ho : OwnAns L key o) (hp : OwnAns (insN L q nm) key p) : p = o ∨ p = nm := by
  have hm := ins_memb hL h12 hn hlo hhi
  rcases hp with ⟨_, _, R, hR, rfl⟩ | ⟨h1, _⟩
  · by_cases e : ownR R (hashT key) = nm
    · exact .inr e
    · left
      have hne : R ≠ [] := fun e => by have := ring_len hR; have := (memb_len hm).1; rw [e] at *; simp at *; omega
      have h2 : OwnAns L key (ownR R (hashT key)) := .inl ⟨hk, hL, _, ins_ring hlo hhi hR, (ownR_filter e hne).symm⟩
      exact own_one h2 ho
  · rcases h1 with h1 | h1
    · exact absurd hk h1
    · rw [hm] at h1; cases h1
end Go.Proofs.YtkccgjeanehaiaaDoor
