/-
  CellsSame of the program and of the model.
-/
import Derived.Test.YtfdbhedmappdlaaCeD
namespace Go.Proofs.Ytfdbhedmappdlaa
set_option linter.unusedVariables false
set_option linter.unusedSimpArgs false
open Go.ChangeShapes Go.WideShapes Go.ChangeAt Go.RowKit Go.PlainAid Go.Lib
set_option maxRecDepth 10000

def sameC (c d : Ce) : Bool := ((c.n == d.n) && (c.s.toList == d.s.toList)) && sameA c.g d.g
def sameCs : List Ce → List Ce → Bool
  | [], [] => true
  | c :: L, d :: M => sameC c d && sameCs L M
  | _, _ => false
theorem sameCs_drop {L M : List Ce} {k : Nat} {c d : Ce} (hc : L[k]? = some c) (hd : M[k]? = some d) : sameCs (L.drop k) (M.drop k) = (sameC c d && sameCs (L.drop (k + 1)) (M.drop (k + 1))) := by
  have h1 := (List.getElem?_eq_some_iff.1 hc).1
  have h2 := (List.getElem?_eq_some_iff.1 hd).1
  rw [List.drop_eq_getElem_cons h1, List.drop_eq_getElem_cons h2, (List.getElem?_eq_some_iff.1 hc).2, (List.getElem?_eq_some_iff.1 hd).2]
  rfl
theorem sameCs_len : ∀ {L M : List Ce}, ¬ L.length = M.length → sameCs L M = false
  | [], [], h => absurd rfl h
  | [], d :: M, _ => rfl
  | c :: L, [], _ => rfl
  | c :: L, d :: M, h => by
    unfold sameCs
    rw [sameCs_len (by simpa using h)]; simp
/-- Are two lists of cells the same? -/
def csB (L M : List Ce) : Bool := decide (L.length ≤ 400) && decide (M.length ≤ 400) && sameCs L M
theorem sameC_key {c d c' d' : Ce} (h : c.key = c'.key) (k : d.key = d'.key) : sameC c d = sameC c' d' := by
  obtain ⟨q, rfl⟩ := key_eq h
  obtain ⟨q', rfl⟩ := key_eq k
  rfl
theorem sameCs_key : ∀ {L M L' M' : List Ce}, L.map Ce.key = L'.map Ce.key → M.map Ce.key = M'.map Ce.key → sameCs L M = sameCs L' M'
  | [], [], [], [], _, _ => rfl
  | [], d :: M, [], d' :: M', _, _ => rfl
  | c :: L, [], c' :: L', [], _, _ => rfl
  | c :: L, d :: M, c' :: L', d' :: M', h, k => by
    simp only [List.map_cons, List.cons.injEq] at h k
    unfold sameCs
    rw [sameC_key h.1 k.1, sameCs_key h.2 k.2]
  | [], _, _ :: _, _, h, _ => by simp at h
  | _ :: _, _, [], _, h, _ => by simp at h
  | _, [], _, _ :: _, _, k => by simp at k
  | _, _ :: _, _, [], _, k => by simp at k
theorem csB_key {L M L' M' : List Ce} (h : L.map Ce.key = L'.map Ce.key) (k : M.map Ce.key = M'.map Ce.key) : csB L M = csB L' M' := by
  have e1 : L.length = L'.length := by have := congrArg List.length h; simpa using this
  have e2 : M.length = M'.length := by have := congrArg List.length k; simpa using this
  unfold csB
  rw [e1, e2, sameCs_key h k]
theorem c_keyOf (c : Ce) (w : World) : Calls Try.prog 19 #[.agg (ceArr c)] w fun e w' => e = .returned (.agg #[.int .i64 c.n, .string c.s]) ∧ Below w.heap.size w w' := by
  go_enter Try.func19, Try.ntmps19
  go_wp2
  refine bodyPost_ret (v := .agg #[.int .i64 c.n, .string c.s]) (by simp [results, Try.results19, go_sem]) rfl ⟨rfl, ?_⟩
  first
    | exact ((Below.refl _ _).alloc (Nat.le_refl _) _).alloc (by simp) _
    | (repeat (refine Below.setCell ?_ (by simp) _)
       exact ((Below.refl _ _).alloc (Nat.le_refl _) _).alloc (by simp) _)
set_option maxHeartbeats 4000000 in
theorem c_sameCell {w : World} (c d : Ce) (sm : AgSm c.g) (sm' : AgSm d.g) (hA : AgAt w c.g c.p) (hB : AgAt w d.g d.p) :
    Calls Try.prog 13 #[.agg (ceArr c), .agg (ceArr d)] w fun e w' => e = .returned (.bool (sameC c d)) ∧ Below w.heap.size w w' := by
  have HA := hide hA
  have HB := hide hB
  have SM := hide sm
  have SM' := hide sm'
  have HBa : Hid (∀ o1 o2, Below w.heap.size w ((w.alloc o1).alloc o2)) := fun o1 o2 => ((Below.refl _ _).alloc (Nat.le_refl _) _).alloc (by simp) _
  clear hA hB sm sm'
  go_enter Try.func13, Try.ntmps13
  go_wp2_with fail
  generalize hW0 : (w.alloc (Obj.cells (ceArr c) 51)).alloc (Obj.cells (ceArr d) 51) = W0
  have T0 : Below w.heap.size w W0 := by rw [← hW0]; exact HBa.out _ _
  have hC : ∀ W, Below W0.heap.size W0 W → CeCell W w.heap.size 0 c ∧ CeCell W (w.heap.size + 1) 0 d := fun W hW => two_ce w 51 c d W (by rw [hW0]; exact hW)
  have HC := hide hC
  have HT0 := hide T0
  clear hW0 hC T0
  have HS0 : (fun W => Below W0.heap.size W0 W) W0.drew := (Below.refl _ _).drew
  refine regionK (fun W => Below W0.heap.size W0 W) 13 (by kernel_rfl) ?_
  refine takeK (i := 0) (d := 5) (v := .agg (ceArr c)) rfl rfl (by kernel_rfl) (by kernel_rfl) (by kernel_rfl) (by decide) (by kernel_rfl) (fun _ _ _ h => h) (Or.inl ⟨by rfl, fun W hW => ?_⟩) HS0 ?_
  · obtain ⟨⟨x0, x1, x2, x3, x4, x5, x6, x7, x8, x9, x10, x11, x12, x13, x14⟩, ⟨y0, y1, y2, y3, y4, y5, y6, y7, y8, y9, y10, y11, y12, y13, y14⟩⟩ := HC.out W hW
    simp only [Nat.zero_add] at x0 x1 x2 x3 x4 x5 x6 x7 x8 x9 x10 x11 x12 x13 x14 y0 y1 y2 y3 y4 y5 y6 y7 y8 y9 y10 y11 y12 y13 y14
    clear hW
    go_simp
  simp only [List.setIfInBounds_toArray, List.set_cons_zero, List.set_cons_succ]
  refine takeK (i := 2) (d := 7) (v := .agg (ceArr d)) rfl rfl (by kernel_rfl) (by kernel_rfl) (by kernel_rfl) (by decide) (by kernel_rfl) (fun _ _ _ h => h) (Or.inl ⟨by rfl, fun W hW => ?_⟩) HS0 ?_
  · obtain ⟨⟨x0, x1, x2, x3, x4, x5, x6, x7, x8, x9, x10, x11, x12, x13, x14⟩, ⟨y0, y1, y2, y3, y4, y5, y6, y7, y8, y9, y10, y11, y12, y13, y14⟩⟩ := HC.out W hW
    simp only [Nat.zero_add] at x0 x1 x2 x3 x4 x5 x6 x7 x8 x9 x10 x11 x12 x13 x14 y0 y1 y2 y3 y4 y5 y6 y7 y8 y9 y10 y11 y12 y13 y14
    clear hW
    go_simp
  simp only [List.setIfInBounds_toArray, List.set_cons_zero, List.set_cons_succ]
  refine oneK (i := 1) (by kernel_rfl) rfl (fun K hK => ?_)
  go_simp
  refine (c_keyOf c _).mono ?_
  rintro e w1 ⟨rfl, hb1⟩
  have HB1 : Hid (Below W0.heap.size W0 w1) := (HS0 : Below W0.heap.size W0 _).trans (hb1.mono (Nat.le_refl _))
  clear hb1
  try dsimp only
  refine hK.out _ _ (fun _ => HB1.out) ?_
  clear hK K
  try simp only [Act.put, List.setIfInBounds_toArray, List.set_cons_zero, List.set_cons_succ]
  refine oneK (i := 3) (by kernel_rfl) rfl (fun K hK => ?_)
  go_simp
  refine (c_keyOf d _).mono ?_
  rintro e w2 ⟨rfl, hb2⟩
  have HB2 := hide (chain HB1.out hb2)
  clear hb2
  try dsimp only
  refine hK.out _ _ (fun _ => HB2.out) ?_
  clear hK K
  try simp only [Act.put, List.setIfInBounds_toArray, List.set_cons_zero, List.set_cons_succ]
  by_cases hkey : (c.n == d.n) = true ∧ (c.s.toList == d.s.toList) = true
  · obtain ⟨k1, k2⟩ := hkey
    have HE : Hid (sameA c.g d.g = sameC c d) := by unfold sameC; rw [k1, k2]; exact hide rfl
    refine takeK (i := 4) (d := 9) (v := .bool true) rfl rfl (by kernel_rfl) (by kernel_rfl) (by kernel_rfl) (by decide) (by kernel_rfl) (fun _ _ _ h => h) (Or.inl ⟨by rfl, fun W hW => ?_⟩) HB2.out ?_
    · clear hW
      go_simp
    simp only [List.setIfInBounds_toArray, List.set_cons_zero, List.set_cons_succ]
    refine takeK (i := 5) (d := 10) (v := .bool true) rfl rfl (by kernel_rfl) (by kernel_rfl) (by kernel_rfl) (by decide) (by kernel_rfl) (fun _ _ _ h => h) (Or.inl ⟨by rfl, fun W hW => ?_⟩) HB2.out ?_
    · clear hW
      go_simp
    simp only [List.setIfInBounds_toArray, List.set_cons_zero, List.set_cons_succ]
    refine takeK (i := 6) (d := 11) (v := .pointer (some ⟨w.heap.size, 2, none⟩)) rfl rfl (by kernel_rfl) (by kernel_rfl) (by kernel_rfl) (by decide) (by kernel_rfl) (fun _ _ _ h => h) (Or.inl ⟨by rfl, fun W hW => ?_⟩) HB2.out ?_
    · clear hW
      go_simp
    simp only [List.setIfInBounds_toArray, List.set_cons_zero, List.set_cons_succ]
    refine takeK (i := 7) (d := 12) (v := .agg (agArr c.g c.p)) rfl rfl (by kernel_rfl) (by kernel_rfl) (by kernel_rfl) (by decide) (by kernel_rfl) (fun _ _ _ h => h) (Or.inl ⟨by rfl, fun W hW => ?_⟩) HB2.out ?_
    · obtain ⟨⟨x0, x1, x2, x3, x4, x5, x6, x7, x8, x9, x10, x11, x12, x13, x14⟩, ⟨y0, y1, y2, y3, y4, y5, y6, y7, y8, y9, y10, y11, y12, y13, y14⟩⟩ := HC.out W hW
      simp only [Nat.zero_add] at x0 x1 x2 x3 x4 x5 x6 x7 x8 x9 x10 x11 x12 x13 x14 y0 y1 y2 y3 y4 y5 y6 y7 y8 y9 y10 y11 y12 y13 y14
      clear hW
      go_simp
    simp only [List.setIfInBounds_toArray, List.set_cons_zero, List.set_cons_succ]
    refine takeK (i := 8) (d := 13) (v := .pointer (some ⟨w.heap.size + 1, 2, none⟩)) rfl rfl (by kernel_rfl) (by kernel_rfl) (by kernel_rfl) (by decide) (by kernel_rfl) (fun _ _ _ h => h) (Or.inl ⟨by rfl, fun W hW => ?_⟩) HB2.out ?_
    · clear hW
      go_simp
    simp only [List.setIfInBounds_toArray, List.set_cons_zero, List.set_cons_succ]
    refine takeK (i := 9) (d := 14) (v := .agg (agArr d.g d.p)) rfl rfl (by kernel_rfl) (by kernel_rfl) (by kernel_rfl) (by decide) (by kernel_rfl) (fun _ _ _ h => h) (Or.inl ⟨by rfl, fun W hW => ?_⟩) HB2.out ?_
    · obtain ⟨⟨x0, x1, x2, x3, x4, x5, x6, x7, x8, x9, x10, x11, x12, x13, x14⟩, ⟨y0, y1, y2, y3, y4, y5, y6, y7, y8, y9, y10, y11, y12, y13, y14⟩⟩ := HC.out W hW
      simp only [Nat.zero_add] at x0 x1 x2 x3 x4 x5 x6 x7 x8 x9 x10 x11 x12 x13 x14 y0 y1 y2 y3 y4 y5 y6 y7 y8 y9 y10 y11 y12 y13 y14
      clear hW
      go_simp
    simp only [List.setIfInBounds_toArray, List.set_cons_zero, List.set_cons_succ]
    refine oneK (i := 10) (by kernel_rfl) rfl (fun K hK => ?_)
    rw [if_pos (by rfl)]
    go_simp
    refine (c_i_AggSame (g := c.g) (p := c.p) (g' := d.g) (p' := d.p) SM.out SM'.out (ag_past HA.out (chain HT0.out HB2.out)) (ag_past HB.out (chain HT0.out HB2.out))).mono ?_
    rintro e w3 ⟨rfl, hb3⟩
    have HB3 := hide (chain HB2.out hb3)
    clear hb3
    try dsimp only
    refine hK.out _ _ (fun _ => HB3.out) ?_
    clear hK K
    try simp only [Act.put, List.setIfInBounds_toArray, List.set_cons_zero, List.set_cons_succ]
    refine takeK (i := 11) (d := 16) (v := .bool (sameA c.g d.g)) rfl rfl (by kernel_rfl) (by kernel_rfl) (by kernel_rfl) (by decide) (by kernel_rfl) (fun _ _ _ h => h) (Or.inl ⟨by rfl, fun W hW => ?_⟩) HB3.out ?_
    · clear hW
      go_simp
    simp only [List.setIfInBounds_toArray, List.set_cons_zero, List.set_cons_succ]
    refine oneK (i := 12) (by kernel_rfl) rfl (fun K hK => ?_)
    go_simp
    refine hK.out _ _ (fun _ => HB3.out) ?_
    clear hK K
    try simp only [Act.put, List.setIfInBounds_toArray, List.set_cons_zero, List.set_cons_succ]
    refine doneK (by kernel_rfl) ?_ _
    go_wp2
    go_ret
    exact ⟨by rw [← HE.out]; rfl, chain HT0.out HB3.out⟩
  · have hb0 : ((c.n == d.n) && (c.s.toList == d.s.toList)) = false := by
      cases e1 : (c.n == d.n) with
      | false => rfl
      | true =>
        cases e2 : (c.s.toList == d.s.toList) with
        | false => rfl
        | true => exact absurd ⟨e1, e2⟩ hkey
    have HE : Hid (false = sameC c d) := by unfold sameC; rw [hb0]; exact hide rfl
    refine takeK (i := 4) (d := 9) (v := .bool false) rfl rfl (by kernel_rfl) (by kernel_rfl) (by kernel_rfl) (by decide) (by kernel_rfl) (fun _ _ _ h => h) (Or.inl ⟨by rfl, fun W hW => ?_⟩) HB2.out ?_
    · clear hW
      go_simp
      exact fun e1 e2 => hkey ⟨by simp [e1], by simp [e2]⟩
    simp only [List.setIfInBounds_toArray, List.set_cons_zero, List.set_cons_succ]
    refine takeK (i := 5) (d := 10) (v := .bool false) rfl rfl (by kernel_rfl) (by kernel_rfl) (by kernel_rfl) (by decide) (by kernel_rfl) (fun _ _ _ h => h) (Or.inl ⟨by rfl, fun W hW => ?_⟩) HB2.out ?_
    · clear hW
      go_simp
    simp only [List.setIfInBounds_toArray, List.set_cons_zero, List.set_cons_succ]
    refine takeK (i := 6) (d := 11) (v := undef) rfl rfl (by kernel_rfl) (by kernel_rfl) (by kernel_rfl) (by decide) (by kernel_rfl) (fun _ _ _ h => h) (Or.inr ⟨by rfl, rfl⟩) HB2.out ?_
    simp only [List.setIfInBounds_toArray, List.set_cons_zero, List.set_cons_succ]
    refine takeK (i := 7) (d := 12) (v := undef) rfl rfl (by kernel_rfl) (by kernel_rfl) (by kernel_rfl) (by decide) (by kernel_rfl) (fun _ _ _ h => h) (Or.inr ⟨by rfl, rfl⟩) HB2.out ?_
    simp only [List.setIfInBounds_toArray, List.set_cons_zero, List.set_cons_succ]
    refine takeK (i := 8) (d := 13) (v := undef) rfl rfl (by kernel_rfl) (by kernel_rfl) (by kernel_rfl) (by decide) (by kernel_rfl) (fun _ _ _ h => h) (Or.inr ⟨by rfl, rfl⟩) HB2.out ?_
    simp only [List.setIfInBounds_toArray, List.set_cons_zero, List.set_cons_succ]
    refine takeK (i := 9) (d := 14) (v := undef) rfl rfl (by kernel_rfl) (by kernel_rfl) (by kernel_rfl) (by decide) (by kernel_rfl) (fun _ _ _ h => h) (Or.inr ⟨by rfl, rfl⟩) HB2.out ?_
    simp only [List.setIfInBounds_toArray, List.set_cons_zero, List.set_cons_succ]
    refine oneK (i := 10) (by kernel_rfl) rfl (fun K hK => ?_)
    refine Eq.mpr (if_neg (fun h => Bool.noConfusion (show false = true from h))) ?_
    refine hK.out _ _ (fun _ => HB2.out) ?_
    clear hK K
    try simp only [Act.put, List.setIfInBounds_toArray, List.set_cons_zero, List.set_cons_succ]
    refine takeK (i := 11) (d := 16) (v := .bool false) rfl rfl (by kernel_rfl) (by kernel_rfl) (by kernel_rfl) (by decide) (by kernel_rfl) (fun _ _ _ h => h) (Or.inl ⟨by rfl, fun W hW => ?_⟩) HB2.out ?_
    · clear hW
      go_simp
    simp only [List.setIfInBounds_toArray, List.set_cons_zero, List.set_cons_succ]
    refine oneK (i := 12) (by kernel_rfl) rfl (fun K hK => ?_)
    go_simp
    refine hK.out _ _ (fun _ => HB2.out) ?_
    clear hK K
    try simp only [Act.put, List.setIfInBounds_toArray, List.set_cons_zero, List.set_cons_succ]
    refine doneK (by kernel_rfl) ?_ _
    go_wp2
    go_ret
    exact ⟨by rw [← HE.out]; rfl, chain HT0.out HB2.out⟩
end Go.Proofs.Ytfdbhedmappdlaa
