/-
  Keeping the greatest bins; the others join the least of these.
-/
import Derived.Test.YthpilcoklapooaaGreatDoorJQ
import Derived.Test.YthpilcoklapooaaGreatDoorJA
import Derived.Test.YthpilcoklapooaaGreatDoorJD
namespace Go.Proofs.YthpilcoklapooaaGreatDoor
set_option linter.unusedVariables false
set_option linter.unusedSimpArgs false
open Go.ChangeShapes Go.WideShapes Go.ChangeAt Go.RowKit Go.PlainAid Go.Lib
set_option maxRecDepth 10000

/-- The weights of some bins, put to a weight one by one. -/
def foldW (x : Int) (L : List Bn) : Int := L.foldl (fun s y => wAdd s y.2) x
/-- The greatest thirty; the others join the least of these. -/
def keepL (L : List Bn) : List Bn := if L.length ≤ 30 then L else match L.drop (L.length - 30) with
  | [] => []
  | x :: r => (x.1, foldW x.2 (L.take (L.length - 30))) :: r

/-- A slice of bins in a block of one's own, from whatever place on. -/
def OwnB (w : World) (B : Nat) (v : Value) (n : Nat) (L : List Bn) : Prop := n = L.length ∧ ((v = .slice none 0 0 ∧ n = 0) ∨ ∃ b off c cur, v = .slice (some ⟨b, off, none⟩) n c ∧ B ≤ b ∧ w.heap[b]? = some (.cells cur 188 (0, 0)) ∧ (∀ (j : Nat) (q : Value), (fl encB L)[j]? = some q → cur[off + j]? = some q) ∧ n ≤ c ∧ c ≤ maxLen ∧ off + c * 2 ≤ cur.size)
theorem OwnB.past {w w' : World} {B : Nat} {v : Value} {n : Nat} {L : List Bn} (h : OwnB w B v n L) (hb : Below w.heap.size w w') : OwnB w' B v n L := by
  refine ⟨h.1, ?_⟩
  rcases h.2 with h | ⟨b, off, c, cur, e, h1, h2, h3⟩
  · exact .inl h
  · exact .inr ⟨b, off, c, cur, e, h1, by rw [hb.block b (Array.getElem?_eq_some_iff.1 h2).1]; exact h2, h3⟩
theorem OwnB.any {w : World} {B : Nat} {v : Value} {n : Nat} {L : List Bn} (h : OwnB w B v n L) : ∃ ao c, v = .slice ao n c := by
  rcases h.2 with ⟨e, e2⟩ | ⟨b, off, c, cur, e, _⟩
  · subst e2; exact ⟨_, _, e⟩
  · exact ⟨_, _, e⟩
theorem OwnB.at {w : World} {B : Nat} {n c : Nat} {ao : Option Addr} {L : List Bn} (h : OwnB w B (.slice ao n c) n L) : BinsAt w ao L := fun h0 => by
  rcases h.2 with ⟨e, e2⟩ | ⟨b, off, c, cur, e, h1, h2, h3⟩
  · have := h.1; omega
  · cases e
    refine ⟨b, off, rfl, fun i x hx => ?_⟩
    have e0 := fl_at encB2 L i x 0 (by omega) hx
    have e1 := fl_at encB2 L i x 1 (by omega) hx
    rw [Nat.add_zero] at e0
    exact ⟨by rw [cell_of_row w b _ _ _ (0, 0) h2]; exact h3.1 _ _ e0, by rw [cell_of_row w b _ _ _ (0, 0) h2, Nat.add_assoc]; exact h3.1 _ _ e1⟩
theorem OwnB.of {w : World} {B : Nat} {v : Value} {n : Nat} {L : List Bn} (h : w.ownsRow B 188 2 v n (fl encB L)) (hn : n = L.length) : OwnB w B v n L := by
  refine ⟨hn, ?_⟩
  rcases h.2 with ⟨e, e2⟩ | ⟨g, cap, cur, e, h1, h2, h3, h4, h5, h6⟩
  · exact .inl ⟨e, e2⟩
  · refine .inr ⟨g, 0, cap, cur, e, h1, h2, fun j q hq => ?_, h3, h4, by omega⟩
    rw [← h6, List.getElem?_take] at hq
    split at hq
    · rw [Nat.zero_add]; rwa [Array.getElem?_toList] at hq
    · cases hq

end Go.Proofs.YthpilcoklapooaaGreatDoor

/-
  The contract of gatherBins: the bins of both lists, gathered.
-/
namespace Go.Proofs.YthpilcoklapooaaGreatDoor
set_option linter.unusedVariables false
set_option linter.unusedSimpArgs false
open Go.ChangeShapes Go.WideShapes Go.ChangeAt Go.RowKit Go.PlainAid Go.Lib
set_option maxRecDepth 10000

/-- Gathered, as the program does. -/
def gatL (a b : List Bn) : List Bn := keepL (insAll (insAll [] a) b)

end Go.Proofs.YthpilcoklapooaaGreatDoor

/-
  Bins that rise, brought together: the list of it, of no program.
-/
namespace Go.Proofs.YthpilcoklapooaaGreatDoor
set_option linter.unusedVariables false
set_option linter.unusedSimpArgs false

/-- Two lists that rise, brought together. -/
def mrg : List Bn → List Bn → List Bn
  | [], b => b
  | x :: a, [] => x :: a
  | x :: a, y :: b => if x.1 < y.1 then x :: mrg a (y :: b) else if y.1 < x.1 then y :: mrg (x :: a) b else (x.1, wAdd x.2 y.2) :: mrg a b
termination_by a b => a.length + b.length
theorem mrg_nil' (a : List Bn) : mrg a [] = a := by cases a <;> rw [mrg]
end Go.Proofs.YthpilcoklapooaaGreatDoor

/-
  Contracts of what the program's SketchPut and SketchMerge lean on: copies of a sketch.
-/
namespace Go.Proofs.YthpilcoklapooaaGreatDoor
set_option linter.unusedVariables false
set_option linter.unusedSimpArgs false
open Go.ChangeShapes Go.WideShapes Go.ChangeAt Go.RowKit Go.PlainAid Go.Lib
set_option maxRecDepth 10000

theorem OwnB.le {w : World} {B B' : Nat} {v : Value} {n : Nat} {L : List Bn} (h : OwnB w B v n L) (hb : B' ≤ B) : OwnB w B' v n L := by
  refine ⟨h.1, ?_⟩
  rcases h.2 with h | ⟨b, off, c, cur, e, h1, h2, h3⟩
  · exact .inl h
  · exact .inr ⟨b, off, c, cur, e, Nat.le_trans hb h1, h2, h3⟩
theorem OwnB.lt {w : World} {B : Nat} {v : Value} {n : Nat} {L : List Bn} (h : OwnB w B v n L) : ∀ k, v.ownBlock = some k → B ≤ k ∧ k < w.heap.size := fun k e => by
  rcases h.2 with ⟨e1, _⟩ | ⟨b, off, c, cur, e1, h1, h2, h3⟩
  · rw [e1] at e; cases e
  · rw [e1] at e; cases e; exact ⟨h1, (Array.getElem?_eq_some_iff.1 h2).1⟩
/-- A block of another kind is none of its own. -/
theorem OwnB.ne {w : World} {B : Nat} {v : Value} {n : Nat} {L : List Bn} (h : OwnB w B v n L) {r : Nat} {cs : Array Value} {T : TypeId} {fz : Nat × Nat} (hr : w.heap[r]? = some (.cells cs T fz)) (hT : T ≠ 188) : v.ownBlock ≠ some r := fun e => by
  rcases h.2 with ⟨e1, _⟩ | ⟨b, off, c, cur, e1, h1, h2, h3⟩
  · rw [e1] at e; cases e
  · rw [e1] at e; cases e; rw [h2] at hr; cases hr; exact hT rfl
/-- Whatever turned elsewhere. -/
theorem OwnB.kept {w w' : World} {B : Nat} {v : Value} {n : Nat} {L : List Bn} {r : Option Nat} (h : OwnB w B v n L) (hg : w.grownBy w' r) (hne : v.ownBlock = none ∨ v.ownBlock ≠ r) : OwnB w' B v n L := by
  refine ⟨h.1, ?_⟩
  rcases h.2 with h | ⟨b, off, c, cur, e, h1, h2, h3⟩
  · exact .inl h
  · refine .inr ⟨b, off, c, cur, e, h1, ?_, h3⟩
    rw [hg.block b (Array.getElem?_eq_some_iff.1 h2).1 (fun e2 => by
      rw [e] at hne
      rcases hne with h | h
      · cases h
      · exact h e2)]
    exact h2
theorem OwnB.set {w : World} {B : Nat} {v : Value} {n : Nat} {L : List Bn} (h : OwnB w B v n L) {a : Addr} (hne : v.ownBlock ≠ some a.block) (u : Value) : OwnB (w.setCell a u) B v n L :=
  h.kept (r := some a.block) ⟨rfl, rfl, rfl, by simp [World.setCell], fun k hk hn => Below.heap_setCell _ _ _ _ (fun e => hn (by rw [e]))⟩ (.inr hne)

theorem c_Clone {w : World} {ao : Option Addr} {L : List Bn} (c n : Nat) (hn : L.length = n) (hl : n ≤ 1048576) (hA : BinsAt w ao L) :
    Calls Tryz.prog 165 #[.slice ao n c] w fun e w' => ∃ v, e = .returned v ∧ OwnB w' w.heap.size v n L ∧ Below w.heap.size w w' := by
  obtain ⟨i0, hi, hz0, hz1, hz2⟩ := info_parts infoBin
  cases ao with
  | none =>
    have h0 : n = 0 := by
      rcases Nat.eq_zero_or_pos n with h | h
      · exact h
      · obtain ⟨b, off, e, _⟩ := hA (by omega); cases e
    subst h0
    have hq := fun W => Lib.run_eql_slice_nil (P := Tryz.prog) W 26 188 none 0 c 0 0 Tryz.underlying26
    have HN := hide hn
    clear hA hn
    go_enter Tryz.func165, Tryz.ntmps165
    go_wp2
    go_ret
    exact ⟨_, rfl, ⟨HN.out.symm, .inl ⟨rfl, rfl⟩⟩, Below.refl _ _⟩
  | some A =>
    have hcs : ∀ j z, (fl encB L)[j]? = some z → w.cell? (A.add j) = some z := fun j z hz => by
      have hj := (List.getElem?_eq_some_iff.1 hz).1
      rw [fl_len encB2] at hj
      obtain ⟨b, off, e, hcell⟩ := hA (by omega)
      cases e
      obtain ⟨x, hx⟩ : ∃ x, L[j / 2]? = some x := ⟨L[j / 2]'(by omega), List.getElem?_eq_getElem (by omega)⟩
      have h1 := fl_at encB2 L (j / 2) x (j % 2) (by omega) hx
      rw [show j / 2 * 2 + j % 2 = j by omega, hz] at h1
      have hc := hcell (j / 2) x hx
      rw [Addr.add_lit]
      have : j % 2 = 0 ∨ j % 2 = 1 := by omega
      rcases this with e | e
      · rw [e] at h1; rw [show off + j = off + j / 2 * 2 by omega, hc.1]; simpa [encB] using h1.symm
      · rw [e] at h1; rw [show off + j = off + j / 2 * 2 + 1 by omega, hc.2]; simpa [encB] using h1.symm
    have HCs := hide hcs
    have hq := fun W => Lib.run_eql_slice_nil (P := Tryz.prog) W 26 188 (some A) n c 0 0 Tryz.underlying26
    have HN := hide hn
    clear hA hcs hn
    go_enter Tryz.func165, Tryz.ntmps165
    go_wp2_with (at_builtin; refine wpList_append_own _ rfl (.tmp 5) (.tmp 6) 26 rfl w.heap.size 188 i0 (.agg #[.int .i64 0, .int .u64 0]) 2 16 Tryz.underlying26 hi hz0 hz1 hz2 rfl (by decide) _ _ _ rfl (World.ownsRow_made _ #[] 0 (Nat.le_refl _) (Nat.zero_le _) rfl) A n c (fl encB L) rfl (by rw [fl_len encB2, HN.out]) (fun j z hz => by have := HCs.out j z hz; exact cell_on this _) (fl_oneB _) (by unfold maxLen; omega) (by omega) (by simp) ?_; intro v1 w1 hown1 hgrow1 hnil1; simp only [Nat.zero_add, List.nil_append] at hown1; have O1 := hide hown1; have B1 := hide (((Below.refl _ _).alloc (Nat.le_refl _) _).grown hgrow1 (by simp) (fun j hj => by cases hj; exact Nat.le_refl _)); clear hown1 hgrow1 hnil1)
    go_ret
    exact ⟨_, rfl, OwnB.of O1.out HN.out.symm, B1.out⟩
/-- A sketch that is one's own. -/
def Apart (p n : Value) : Prop := ∀ k, p.ownBlock = some k → n.ownBlock ≠ some k
def SkOut (w : World) (B : Nat) (v : Value) (z : Int) (P N : List Bn) (h l : Int) : Prop := ∃ p n pn nn, v = .agg #[.int .u64 z, p, n, .int .i64 h, .int .u64 l] ∧ OwnB w B p pn P ∧ OwnB w B n nn N ∧ Apart p n
theorem SkOut.past {w w' : World} {B : Nat} {v : Value} {z h l : Int} {P N : List Bn} (k : SkOut w B v z P N h l) (hb : Below w.heap.size w w') : SkOut w' B v z P N h l := by
  obtain ⟨p, n, pn, nn, e, h1, h2, h3⟩ := k
  exact ⟨p, n, pn, nn, e, h1.past hb, h2.past hb, h3⟩
theorem SkOut.le {w : World} {B B' : Nat} {v : Value} {z h l : Int} {P N : List Bn} (k : SkOut w B v z P N h l) (hb : B' ≤ B) : SkOut w B' v z P N h l := by
  obtain ⟨p, n, pn, nn, e, h1, h2, h3⟩ := k
  exact ⟨p, n, pn, nn, e, h1.le hb, h2.le hb, h3⟩
abbrev zeroSk : Array Value := #[.int .u64 0, .slice none 0 0, .slice none 0 0, .int .i64 0, .int .u64 0]
theorem cell5 {w : World} {r : Nat} {T : TypeId} {u0 u1 u2 u3 u4 : Value} (h : w.heap[r]? = some (.cells #[u0, u1, u2, u3, u4] T (0, 0))) :
    w.cell? ⟨r, 0, none⟩ = some u0 ∧ w.cell? ⟨r, 1, none⟩ = some u1 ∧ w.cell? ⟨r, 2, none⟩ = some u2 ∧ w.cell? ⟨r, 3, none⟩ = some u3 ∧ w.cell? ⟨r, 4, none⟩ = some u4 :=
  ⟨by rw [cell_of_row w r 0 _ _ (0, 0) h]; rfl, by rw [cell_of_row w r 1 _ _ (0, 0) h]; rfl, by rw [cell_of_row w r 2 _ _ (0, 0) h]; rfl, by rw [cell_of_row w r 3 _ _ (0, 0) h]; rfl, by rw [cell_of_row w r 4 _ _ (0, 0) h]; rfl⟩

set_option maxHeartbeats 2000000 in
theorem c_copySketch {w : World} {z h l : Int} {pa na : Option Addr} {pn pc nn nc : Nat} {P N : List Bn} (hp : P.length = pn) (hn : N.length = nn) (lp : pn ≤ 1048576) (ln : nn ≤ 1048576) (hP : BinsAt w pa P) (hN : BinsAt w na N) :
    Calls Tryz.prog 122 #[.agg #[.int .u64 z, .slice pa pn pc, .slice na nn nc, .int .i64 h, .int .u64 l]] w fun e w' => ∃ v, e = .returned v ∧ SkOut w' w.heap.size v z P N h l ∧ Below w.heap.size w w' := by
  have HP := hide hP
  have HN := hide hN
  clear hP hN
  go_enter Tryz.func122, Tryz.ntmps122
  go_wp2_with fail
  generalize hW0 : (w.alloc (Obj.cells #[.int .u64 z, .slice pa pn pc, .slice na nn nc, .int .i64 h, .int .u64 l] 28)).alloc (Obj.cells zeroSk 28) = W0
  have T0 : Below w.heap.size w W0 := by rw [← hW0]; exact ((Below.refl _ _).alloc (Nat.le_refl _) _).alloc (by simp) _
  have K0 : SkCell W0 w.heap.size z (.slice pa pn pc) (.slice na nn nc) h l := by rw [← hW0]; exact sk_past (sk_new w _ _ _ _ _ _) ((Below.refl _ _).alloc (Nat.le_refl _) _)
  have R0 : W0.heap[w.heap.size + 1]? = some (.cells zeroSk 28 (0, 0)) := by rw [← hW0]; simpa using heap_alloc_new (w.alloc (Obj.cells #[.int .u64 z, .slice pa pn pc, .slice na nn nc, .int .i64 h, .int .u64 l] 28)) (Obj.cells zeroSk 28)
  have hsz0 : W0.heap.size = w.heap.size + 2 := by rw [← hW0]; simp
  clear hW0
  have HT0 := hide T0
  have hC : ∀ W, Below W0.heap.size W0 W → SkCell W w.heap.size z (.slice pa pn pc) (.slice na nn nc) h l ∧ W.heap[w.heap.size + 1]? = some (.cells zeroSk 28 (0, 0)) := fun W hW => ⟨sk_past K0 hW, by rw [hW.block _ (by omega)]; exact R0⟩
  have HC := hide hC
  clear T0 hC K0 R0
  have HS0 : (fun W => Below W0.heap.size W0 W) W0.drew := (Below.refl _ _).drew
  refine regionK (fun W => Below W0.heap.size W0 W) 11 (by kernel_rfl) ?_
  refine takeK (i := 0) (d := 3) (v := .pointer (some ⟨w.heap.size, 0, none⟩)) rfl rfl (by kernel_rfl) (by kernel_rfl) (by kernel_rfl) (by decide) (by kernel_rfl) (fun _ _ _ h => h) (Or.inl ⟨by rfl, fun W hW => ?_⟩) HS0 ?_
  · obtain ⟨⟨x0, x1, x2, x3, x4⟩, _⟩ := HC.out W hW
    go_simp
  simp only [List.setIfInBounds_toArray, List.set_cons_zero, List.set_cons_succ]
  refine takeK (i := 1) (d := 4) (v := .int .u64 z) rfl rfl (by kernel_rfl) (by kernel_rfl) (by kernel_rfl) (by decide) (by kernel_rfl) (fun _ _ _ h => h) (Or.inl ⟨by rfl, fun W hW => ?_⟩) HS0 ?_
  · obtain ⟨⟨x0, x1, x2, x3, x4⟩, _⟩ := HC.out W hW
    go_simp
  simp only [List.setIfInBounds_toArray, List.set_cons_zero, List.set_cons_succ]
  refine takeK (i := 2) (d := 5) (v := .pointer (some ⟨w.heap.size, 1, none⟩)) rfl rfl (by kernel_rfl) (by kernel_rfl) (by kernel_rfl) (by decide) (by kernel_rfl) (fun _ _ _ h => h) (Or.inl ⟨by rfl, fun W hW => ?_⟩) HS0 ?_
  · obtain ⟨⟨x0, x1, x2, x3, x4⟩, _⟩ := HC.out W hW
    go_simp
  simp only [List.setIfInBounds_toArray, List.set_cons_zero, List.set_cons_succ]
  refine takeK (i := 3) (d := 6) (v := .slice pa pn pc) rfl rfl (by kernel_rfl) (by kernel_rfl) (by kernel_rfl) (by decide) (by kernel_rfl) (fun _ _ _ h => h) (Or.inl ⟨by rfl, fun W hW => ?_⟩) HS0 ?_
  · obtain ⟨⟨x0, x1, x2, x3, x4⟩, _⟩ := HC.out W hW
    go_simp
  simp only [List.setIfInBounds_toArray, List.set_cons_zero, List.set_cons_succ]
  refine takeK (i := 5) (d := 8) (v := .pointer (some ⟨w.heap.size, 2, none⟩)) rfl rfl (by kernel_rfl) (by kernel_rfl) (by kernel_rfl) (by decide) (by kernel_rfl) (fun _ _ _ h => h) (Or.inl ⟨by rfl, fun W hW => ?_⟩) HS0 ?_
  · obtain ⟨⟨x0, x1, x2, x3, x4⟩, _⟩ := HC.out W hW
    go_simp
  simp only [List.setIfInBounds_toArray, List.set_cons_zero, List.set_cons_succ]
  refine takeK (i := 6) (d := 9) (v := .slice na nn nc) rfl rfl (by kernel_rfl) (by kernel_rfl) (by kernel_rfl) (by decide) (by kernel_rfl) (fun _ _ _ h => h) (Or.inl ⟨by rfl, fun W hW => ?_⟩) HS0 ?_
  · obtain ⟨⟨x0, x1, x2, x3, x4⟩, _⟩ := HC.out W hW
    go_simp
  simp only [List.setIfInBounds_toArray, List.set_cons_zero, List.set_cons_succ]
  refine takeK (i := 8) (d := 11) (v := .pointer (some ⟨w.heap.size, 3, none⟩)) rfl rfl (by kernel_rfl) (by kernel_rfl) (by kernel_rfl) (by decide) (by kernel_rfl) (fun _ _ _ h => h) (Or.inl ⟨by rfl, fun W hW => ?_⟩) HS0 ?_
  · obtain ⟨⟨x0, x1, x2, x3, x4⟩, _⟩ := HC.out W hW
    go_simp
  simp only [List.setIfInBounds_toArray, List.set_cons_zero, List.set_cons_succ]
  refine takeK (i := 9) (d := 12) (v := .agg #[.int .i64 h, .int .u64 l]) rfl rfl (by kernel_rfl) (by kernel_rfl) (by kernel_rfl) (by decide) (by kernel_rfl) (fun _ _ _ h => h) (Or.inl ⟨by rfl, fun W hW => ?_⟩) HS0 ?_
  · obtain ⟨⟨x0, x1, x2, x3, x4⟩, _⟩ := HC.out W hW
    go_simp
  simp only [List.setIfInBounds_toArray, List.set_cons_zero, List.set_cons_succ]
  refine oneK (i := 4) (by kernel_rfl) rfl (fun K hK => ?_)
  go_simp
  refine (c_Clone _ _ hp lp (bins_past HP.out (HT0.out.trans ((Below.refl _ _).drew.mono HT0.out.size)))).mono ?_
  rintro e w1 ⟨v1, rfl, ho1, hb1⟩
  dsimp only
  have HB1 := hide ((HS0 : Below W0.heap.size W0 W0.drew).trans hb1)
  have HO1 := hide (ho1.le (B' := w.heap.size) (by show w.heap.size ≤ W0.heap.size; omega))
  obtain ⟨ao1, c1, rfl⟩ := ho1.any
  clear ho1 hb1
  refine hK.out _ _ (fun _ => HB1.out) ?_
  clear hK K
  try simp only [Act.put, List.setIfInBounds_toArray, List.set_cons_zero, List.set_cons_succ]
  refine oneK (i := 7) (by kernel_rfl) rfl (fun K hK => ?_)
  go_simp
  refine (c_Clone _ _ hn ln (bins_past HN.out (chain HT0.out HB1.out))).mono ?_
  rintro e w2 ⟨v2, rfl, ho2, hb2⟩
  dsimp only
  have HB2 := hide (chain HB1.out hb2)
  have HO2 := hide (ho2.le (B' := w.heap.size) (by have := HB1.out.size; omega))
  have HO12 := hide (HO1.out.past hb2)
  have HAp : Hid (Apart (.slice ao1 pn c1) v2) := (fun k e1 e2 => by have := (HO1.out.lt k e1).2; have := (ho2.lt k e2).1; omega : Apart (.slice ao1 pn c1) v2)
  obtain ⟨ao2, c2, rfl⟩ := ho2.any
  clear ho2 hb2
  refine hK.out _ _ (fun _ => HB2.out) ?_
  clear hK K
  try simp only [Act.put, List.setIfInBounds_toArray, List.set_cons_zero, List.set_cons_succ]
  refine takeK (i := 10) (d := 13) (v := .agg #[.int .u64 z, .slice ao1 pn c1, .slice ao2 nn c2, .int .i64 h, .int .u64 l]) rfl rfl (by kernel_rfl) (by kernel_rfl) (by kernel_rfl) (by decide) (by kernel_rfl) (fun _ _ _ h => h) (Or.inl ⟨by rfl, fun W hW => ?_⟩) HB2.out ?_
  · clear hW
    go_simp
  simp only [List.setIfInBounds_toArray, List.set_cons_zero, List.set_cons_succ]
  have R2 := (HC.out _ HB2.out).2
  obtain ⟨q0, q1, q2, q3, q4⟩ := cell5 R2
  have f0 := frozen_of_row w2 (w.heap.size + 1) 0 _ _ R2
  have f1 := frozen_of_row w2 (w.heap.size + 1) 1 _ _ R2
  have f2 := frozen_of_row w2 (w.heap.size + 1) 2 _ _ R2
  have f3 := frozen_of_row w2 (w.heap.size + 1) 3 _ _ R2
  have f4 := frozen_of_row w2 (w.heap.size + 1) 4 _ _ R2
  refine oneK (i := 11) (by kernel_rfl) rfl (fun K hK => ?_)
  go_simp
  refine hK.out _ _ (fun h => absurd rfl h) ?_
  clear hK K
  try simp only [Act.put, List.setIfInBounds_toArray, List.set_cons_zero, List.set_cons_succ]
  refine doneK (by kernel_rfl) ?_ _
  go_wp2
  refine bodyPost_ret (v := .agg #[.int .u64 z, .slice ao1 pn c1, .slice ao2 nn c2, .int .i64 h, .int .u64 l]) (by simp [results, Tryz.results122, go_sem, q0, q1, q2, q3, q4]) rfl ⟨_, rfl, ⟨_, _, pn, nn, rfl, ?_, ?_, HAp.out⟩, ?_⟩
  · have hne := HO12.out.ne R2 (by decide)
    repeat (refine OwnB.set ?_ hne _)
    exact HO12.out
  · have hne := HO2.out.ne R2 (by decide)
    repeat (refine OwnB.set ?_ hne _)
    exact HO2.out
  · repeat (refine Below.setCell ?_ (by simp <;> omega) _)
    exact chain HT0.out HB2.out
end Go.Proofs.YthpilcoklapooaaGreatDoor
