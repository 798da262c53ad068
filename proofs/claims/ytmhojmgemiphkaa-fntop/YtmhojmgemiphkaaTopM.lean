/-
  The counts of heavies: each is no more than all weights of its key, and with the debt no less; the debt is at most a sixth of all.
-/
import Derived.Test.YtmhojmgemiphkaaMergeC
import Derived.Test.YtmhojmgemiphkaaAddM
import Derived.Test.YtmhojmgemiphkaaTopI
import Derived.Test.YtmhojmgemiphkaaTopJ
namespace Go.Proofs.Ytmhojmgemiphkaa
set_option linter.unusedVariables false
set_option linter.unusedSimpArgs false

def sumH (L : List Hv) : Int := (L.map Prod.snd).sum
theorem sumH_cons (x : Hv) (r : List Hv) : sumH (x :: r) = x.2 + sumH r := by simp [sumH]
theorem sumH_nn : ∀ {L : List Hv}, (∀ x ∈ L, 1 ≤ x.2) → 0 ≤ sumH L
  | [], _ => Int.le_refl _
  | x :: r, h => by
    have h0 := h x List.mem_cons_self
    have h1 := sumH_nn (fun y hy => h y (List.mem_cons_of_mem _ hy))
    rw [sumH_cons]; omega
theorem sumH_ge : ∀ {L : List Hv}, (∀ x ∈ L, 1 ≤ x.2) → ∀ y ∈ L, y.2 ≤ sumH L
  | [], _, y, hy => by simp at hy
  | x :: r, h, y, hy => by
    have h0 := h x List.mem_cons_self
    have h1 := sumH_nn (fun y hy => h y (List.mem_cons_of_mem _ hy))
    rw [sumH_cons]
    rcases List.mem_cons.1 hy with rfl | hy
    · omega
    · have := sumH_ge (fun y hy => h y (List.mem_cons_of_mem _ hy)) y hy; omega
theorem cnt_cons (x : Hv) (r : List Hv) (p : ByteArray) : cntH (x :: r) p = if x.1 = p then x.2 else cntH r p := by
  unfold cntH
  rw [List.find?_cons]
  by_cases h : x.1 = p
  · simp [h]
  · simp [h]
theorem cnt_nil (p : ByteArray) : cntH [] p = 0 := rfl
theorem ne_of_lt {a b : ByteArray} (h : strLt a b = true) : a ≠ b := fun e => by rw [e, strLt_irr] at h; cases h
theorem cnt_add (x : Hv) (p : ByteArray) : ∀ {L : List Hv}, RiseH L → cntH (hvAdd L x) p = cntH L p + if x.1 = p then x.2 else 0
  | [], _ => by show cntH [x] p = _; rw [cnt_cons, cnt_nil, Int.zero_add]
  | y :: r, h => by
    obtain ⟨h1, h2⟩ := riseH_cons.1 h
    unfold hvAdd
    split
    · rename_i hy
      rw [cnt_cons, cnt_cons, cnt_add x p h2]
      by_cases e : y.1 = p
      · rw [if_pos e, if_pos e, if_neg (fun e2 => ne_of_lt hy (e.trans e2.symm))]; omega
      · rw [if_neg e, if_neg e]
    · rename_i hy
      split
      · rename_i he
        rw [cnt_cons, cnt_cons]
        by_cases e : y.1 = p
        · rw [if_pos e, if_pos e, if_pos (he.symm.trans e)]
        · rw [if_neg e, if_neg e, if_neg (fun e2 => e (he.trans e2))]; omega
      · rename_i hne
        have hyx : strLt x.1 y.1 = true := by
          rcases strLt_tot (by simpa using hy) with h | h
          · exact h
          · exact absurd h hne
        rw [cnt_cons]
        by_cases e : x.1 = p
        · rw [if_pos e, if_pos e, cnt_none (L := y :: r) (fun z hz => ?_)]
          · omega
          · rcases List.mem_cons.1 hz with rfl | hz
            · exact fun e2 => ne_of_lt hyx (e.trans e2.symm)
            · exact fun e2 => ne_of_lt (strLt_trans hyx (h1 z hz)) (e.trans e2.symm)
        · rw [if_neg e, if_neg e]; omega
theorem cnt_addAll (p : ByteArray) : ∀ {M L : List Hv}, RiseH L → RiseH M → cntH (addAll L M) p = cntH L p + cntH M p
  | [], L, _, _ => by show cntH L p = _; rw [cnt_nil, Int.add_zero]
  | x :: r, L, h, hm => by
    obtain ⟨m1, m2⟩ := riseH_cons.1 hm
    show cntH (addAll (hvAdd L x) r) p = _
    rw [cnt_addAll p (add_rise h) m2, cnt_add x p h, cnt_cons]
    by_cases e : x.1 = p
    · rw [if_pos e, if_pos e, cnt_none (L := r) (fun z hz e2 => ne_of_lt (m1 z hz) (e.trans e2.symm))]; omega
    · rw [if_neg e, if_neg e]; omega
theorem sum_addH (x : Hv) : ∀ L : List Hv, sumH (hvAdd L x) = sumH L + x.2
  | [] => by show sumH [x] = _; rw [sumH_cons]; simp [sumH]
  | y :: r => by
    unfold hvAdd
    split
    · rw [sumH_cons, sumH_cons, sum_addH x r]; omega
    · split
      · rw [sumH_cons, sumH_cons]; omega
      · rw [sumH_cons]; omega
theorem sum_addAll : ∀ (M L : List Hv), sumH (addAll L M) = sumH L + sumH M
  | [], L => by show sumH L = _; simp [sumH]
  | x :: r, L => by
    show sumH (addAll (hvAdd L x) r) = _
    rw [sum_addAll r (hvAdd L x), sum_addH, sumH_cons]; omega
theorem cnt_less {d : Int} (hd : 0 ≤ d) (p : ByteArray) : ∀ {L : List Hv}, RiseH L → cntH (lessH L d) p = if d < cntH L p then cntH L p - d else 0
  | [], _ => by rw [less_nil, cnt_nil, if_neg (by omega)]
  | x :: r, h => by
    obtain ⟨h1, h2⟩ := riseH_cons.1 h
    rw [less_cons, cnt_cons]
    by_cases e : x.1 = p
    · rw [if_pos e]
      split
      · rw [cnt_cons, if_pos e]
      · refine cnt_none (fun z hz => ?_)
        obtain ⟨y, hy, rfl, _⟩ := less_mem hz
        exact fun e2 => ne_of_lt (h1 y hy) (e.trans e2.symm)
    · rw [if_neg e]
      split
      · rw [cnt_cons, if_neg e]; exact cnt_less hd p h2
      · exact cnt_less hd p h2
theorem len_less (d : Int) : ∀ L : List Hv, (lessH L d).length = (cntsH L).countP (fun x => decide (d < x))
  | [] => rfl
  | x :: r => by
    have ih := len_less d r
    rw [less_cons]
    show _ = (x.2 :: cntsH r).countP _
    rw [List.countP_cons]
    by_cases h : d < x.2
    · rw [if_pos h, List.length_cons, ih, if_pos (by simpa using h)]
    · rw [if_neg h, ih, if_neg (by simpa using h)]; rfl
theorem sum_less {d : Int} (hd : 0 ≤ d) : ∀ {L : List Hv}, (∀ x ∈ L, 1 ≤ x.2) → sumH (lessH L d) + d * ((cntsH L).countP (fun x => decide (d ≤ x)) : Nat) ≤ sumH L
  | [], _ => by simp [lessH, sumH, cntsH]
  | x :: r, h => by
    have h0 := h x List.mem_cons_self
    have ih := sum_less hd (fun y hy => h y (List.mem_cons_of_mem _ hy))
    rw [less_cons, sumH_cons]
    show _ + d * (((x.2 :: cntsH r).countP (fun x => decide (d ≤ x)) : Nat) : Int) ≤ _
    rw [List.countP_cons]
    by_cases h1 : d < x.2
    · rw [if_pos h1, if_pos (by simp; omega), sumH_cons, Int.natCast_add, Int.mul_add]
      show x.2 - d + _ + (_ + d * 1) ≤ _
      omega
    · rw [if_neg h1]
      by_cases h2 : d ≤ x.2
      · rw [if_pos (by simpa using h2), Int.natCast_add, Int.mul_add]
        show _ + (_ + d * 1) ≤ _
        omega
      · rw [if_neg (by simpa using h2), Int.natCast_add, Int.mul_add]
        show _ + (_ + d * 0) ≤ _
        omega
theorem itB_iff : ∀ {L : List Hv} {t : Int} {p : Option ByteArray} {n : Int}, itB t p n L = true ↔ (∀ q, p = some q → ∀ x ∈ L, strLt q x.1 = true) ∧ RiseH L ∧ (∀ x ∈ L, keyB x.1 = true ∧ 1 ≤ x.2 ∧ x.2 ≤ 1000000000000000) ∧ n + sumH L ≤ t
  | [], t, p, n => by
    simp only [itB, decide_eq_true_eq, sumH, List.map_nil, List.sum_nil, Int.add_zero]
    exact ⟨fun h => ⟨fun q _ x hx => absurd hx List.not_mem_nil, riseH_nil, fun x hx => absurd hx List.not_mem_nil, h⟩, fun h => h.2.2.2⟩
  | z :: r, t, p, n => by
    simp only [itB, Bool.and_eq_true, decide_eq_true_eq, itB_iff (L := r), sumH_cons]
    constructor
    · rintro ⟨⟨⟨⟨h1, h2⟩, h3⟩, h4⟩, k1, k2, k3, k4⟩
      have k1 := k1 _ rfl
      refine ⟨fun q hq x hx => ?_, riseH_cons.2 ⟨k1, k2⟩, fun x hx => ?_, by omega⟩
      · subst hq
        rcases List.mem_cons.1 hx with rfl | hx
        · exact h2
        · exact strLt_trans h2 (k1 x hx)
      · rcases List.mem_cons.1 hx with rfl | hx
        · exact ⟨h1, h3, h4⟩
        · exact k3 x hx
    · rintro ⟨k1, k2, k3, k4⟩
      obtain ⟨r1, r2⟩ := riseH_cons.1 k2
      have z0 := k3 z List.mem_cons_self
      refine ⟨⟨⟨⟨z0.1, ?_⟩, z0.2.1⟩, z0.2.2⟩, fun q hq x hx => by cases hq; exact r1 x hx, r2, fun x hx => k3 x (List.mem_cons_of_mem _ hx), by omega⟩
      cases p with
      | none => rfl
      | some q => exact k1 q rfl z List.mem_cons_self
theorem topB_iff {L : List Hv} {d t : Int} : topB L d t = true ↔ L.length ≤ 5 ∧ 0 ≤ d ∧ d ≤ 1000000000000000 ∧ t ≤ 1000000000000000 ∧ RiseH L ∧ (∀ x ∈ L, keyB x.1 = true ∧ 1 ≤ x.2 ∧ x.2 ≤ 1000000000000000) ∧ 6 * d + sumH L ≤ t := by
  unfold topB
  simp only [Bool.and_eq_true, decide_eq_true_eq, itB_iff]
  constructor
  · rintro ⟨⟨⟨⟨h1, h2⟩, h3⟩, h4⟩, _, h5, h6, h7⟩; exact ⟨h1, h2, h3, h4, h5, h6, h7⟩
  · rintro ⟨h1, h2, h3, h4, h5, h6, h7⟩; exact ⟨⟨⟨⟨h1, h2⟩, h3⟩, h4⟩, (fun q hq => by cases hq), h5, h6, h7⟩
/-- What is left when a debt is taken from all. -/
theorem less_top {A : List Hv} {D d T : Int} (hr : RiseH A) (hk : ∀ x ∈ A, keyB x.1 = true ∧ 1 ≤ x.2) (hD : 0 ≤ D) (hv : DebtV A d) (hT : T ≤ 1000000000000000) (hs : 6 * D + sumH A ≤ T) :
    0 ≤ d ∧ topB (lessH A d) (D + d) T = true := by
  have h1 : ∀ x ∈ A, 1 ≤ x.2 := fun x hx => (hk x hx).2
  have hd : 0 ≤ d := by
    rcases hv with ⟨_, e⟩ | ⟨_, _, x, hx, e⟩
    · omega
    · have := h1 x hx; omega
  have hl1 : ∀ x ∈ lessH A d, keyB x.1 = true ∧ 1 ≤ x.2 := fun x hx => by
    obtain ⟨y, hy, rfl, h⟩ := less_mem hx
    exact ⟨(hk y hy).1, by show 1 ≤ y.2 - d; omega⟩
  have h2 := sum_less hd h1
  have h3 := sumH_nn (fun x hx => (hl1 x hx).2)
  have h6 : 6 * d + sumH (lessH A d) ≤ sumH A ∧ (lessH A d).length ≤ 5 := by
    rw [len_less]
    rcases hv with ⟨e5, e⟩ | ⟨_, ⟨p1, p2⟩, _⟩
    · subst e
      refine ⟨by omega, Nat.le_trans List.countP_le_length (by simpa [cntsH] using e5)⟩
    · refine ⟨?_, p1⟩
      have : 6 * d ≤ d * ((cntsH A).countP (fun x => decide (d ≤ x)) : Nat) := by
        rw [Int.mul_comm 6 d]
        exact Int.mul_le_mul_of_nonneg_left (by omega) hd
      omega
  refine ⟨hd, topB_iff.2 ⟨h6.2, by omega, by omega, hT, less_rise hr, fun x hx => ⟨(hl1 x hx).1, (hl1 x hx).2, ?_⟩, by omega⟩⟩
  have := sumH_ge (fun x hx => (hl1 x hx).2) x hx
  omega
/-- Each count is no more than all its weights, and with the debt no less. -/
structure TI (L : List Hv) (D T : Int) (f : ByteArray → Int) : Prop where
  top : topB L D T = true
  lo : ∀ p, cntH L p ≤ f p
  hi : ∀ p, f p ≤ cntH L p + D
theorem TI.nil : TI [] 0 0 (fun _ => 0) := ⟨by decide, fun p => by rw [cnt_nil]; omega, fun p => by rw [cnt_nil]; omega⟩
theorem cnt_nn {L : List Hv} (h : ∀ x ∈ L, 1 ≤ x.2) (p : ByteArray) : 0 ≤ cntH L p := by
  induction L with
  | nil => exact Int.le_refl _
  | cons x r ih =>
    rw [cnt_cons]; split
    · have := h x List.mem_cons_self; omega
    · exact ih (fun y hy => h y (List.mem_cons_of_mem _ hy))
theorem TI.less {A : List Hv} {D d T : Int} {f : ByteArray → Int} (hr : RiseH A) (hk : ∀ x ∈ A, keyB x.1 = true ∧ 1 ≤ x.2) (hD : 0 ≤ D) (hv : DebtV A d) (hT : T ≤ 1000000000000000) (hs : 6 * D + sumH A ≤ T) (lo : ∀ p, cntH A p ≤ f p) (hi : ∀ p, f p ≤ cntH A p + D) : TI (lessH A d) (D + d) T f := by
  obtain ⟨hd, ht⟩ := less_top hr hk hD hv hT hs
  refine ⟨ht, fun p => ?_, fun p => ?_⟩
  · have h0 := cnt_nn (fun x hx => (hk x hx).2) p
    have h1 := lo p
    rw [cnt_less hd p hr]; split <;> omega
  · have h1 := hi p
    rw [cnt_less hd p hr]; split <;> omega
theorem TI.put {L : List Hv} {D T d wt : Int} {key : ByteArray} {f : ByteArray → Int} (h : TI L D T f) (ok : tpOk L D T key wt) (hv : DebtV (hvAdd L (key, wt)) d) :
    TI (lessH (hvAdd L (key, wt)) d) (D + d) (T + wt) (fun p => f p + if key = p then wt else 0) := by
  obtain ⟨_, h0, _, h2, h3, h4, h5⟩ := topB_iff.1 h.top
  refine TI.less (add_rise h3) (fun z hz => ?_) h0 hv ok.2.2.2.2 (by rw [sum_addH]; omega) (fun p => ?_) (fun p => ?_)
  · rcases add_mem hz with rfl | hz | ⟨y, hy, e, rfl⟩
    · exact ⟨ok.2.1, ok.2.2.1⟩
    · exact ⟨(h4 z hz).1, (h4 z hz).2.1⟩
    · have q := h4 y hy; have q2 := ok.2.2.1; exact ⟨q.1, by show 1 ≤ y.2 + wt; omega⟩
  · rw [cnt_add _ p h3]; have := h.lo p; show cntH L p + (if key = p then wt else 0) ≤ _; omega
  · rw [cnt_add _ p h3]; have := h.hi p; show _ ≤ cntH L p + (if key = p then wt else 0) + D; omega
theorem addAll_mem : ∀ {M L : List Hv}, (∀ x ∈ L, keyB x.1 = true ∧ 1 ≤ x.2) → (∀ x ∈ M, keyB x.1 = true ∧ 1 ≤ x.2) → ∀ x ∈ addAll L M, keyB x.1 = true ∧ 1 ≤ x.2
  | [], L, hL, _ => hL
  | m :: r, L, hL, hM => by
    have hm := hM m List.mem_cons_self
    refine addAll_mem (M := r) (L := hvAdd L m) (fun z hz => ?_) (fun x hx => hM x (List.mem_cons_of_mem _ hx))
    rcases add_mem hz with rfl | hz | ⟨y, hy, e, rfl⟩
    · exact hm
    · exact hL z hz
    · have := hL y hy; exact ⟨this.1, by show 1 ≤ y.2 + m.2; omega⟩
theorem TI.merge {L M : List Hv} {D T E U d : Int} {f g : ByteArray → Int} (h : TI L D T f) (k : TI M E U g) (ok : tmOk L D T M E U) (hv : DebtV (addAll L M) d) :
    TI (lessH (addAll L M) d) (D + E + d) (T + U) (fun p => f p + g p) := by
  obtain ⟨_, h0, _, h2, h3, h4, h5⟩ := topB_iff.1 h.top
  obtain ⟨_, k0, _, k2, k3, k4, k5⟩ := topB_iff.1 k.top
  refine TI.less (addAll_rise h3) (addAll_mem (fun x hx => ⟨(h4 x hx).1, (h4 x hx).2.1⟩) (fun x hx => ⟨(k4 x hx).1, (k4 x hx).2.1⟩)) (by omega) hv ok.2.2 (by rw [sum_addAll]; omega) (fun p => ?_) (fun p => ?_)
  · rw [cnt_addAll p h3 k3]; have := h.lo p; have := k.lo p; show _ ≤ f p + g p; omega
  · rw [cnt_addAll p h3 k3]; have := h.hi p; have := k.hi p; show f p + g p ≤ _; omega
theorem TI.sixth {L : List Hv} {D T : Int} {f : ByteArray → Int} (h : TI L D T f) : 6 * D ≤ T := by
  obtain ⟨_, h0, _, h2, h3, h4, h5⟩ := topB_iff.1 h.top
  have := sumH_nn (fun x hx => (h4 x hx).2.1)
  omega
end Go.Proofs.Ytmhojmgemiphkaa
