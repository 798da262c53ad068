/-
  A drawn put of a sketch of how many; such a sketch in the world, and in a local variable.
-/
import Derived.Test.YtljhjcmodaaaoaaDrawH
import Derived.Test.YtljhjcmodaaaoaaDrawN
namespace Go.Proofs.Ytljhjcmodaaaoaa
set_option linter.unusedVariables false
set_option linter.unusedSimpArgs false
open Go.ChangeShapes Go.WideShapes Go.ChangeAt Go.RowKit Go.PlainAid
set_option maxRecDepth 10000

/-- A sketch of how many in the world. -/
structure HlI (w : World) (ea : Option Addr) (n c : Nat) (ra : Option Addr) (m d : Nat) (E R : List Int) : Prop where
  le : E.length = n
  lr : R.length = m
  hE : NumsAt .u64 w ea E
  hR : NumsAt .i64 w ra R
  u : ∀ x ∈ E, U64 x
  k : ∀ x ∈ R, I64 x
  fe : Flat ea
  fr : Flat ra
  nc : n ≤ c
  cm : c ≤ maxLen
  ce : ea = none → c = 0
  cr : ra = none → d = 0
  n20 : n ≤ 200
  m20 : m ≤ 200
section
variable {w w' : World} {r : Nat} {ea ra : Option Addr} {n c m d : Nat} {E R : List Int}
theorem HlI.past (k : HlI w ea n c ra m d E R) (hb : Below w.heap.size w w') : HlI w' ea n c ra m d E R := ⟨k.le, k.lr, nums_past k.hE hb, nums_past k.hR hb, k.u, k.k, k.fe, k.fr, k.nc, k.cm, k.ce, k.cr, k.n20, k.m20⟩
theorem HlI.n9 (k : HlI w ea n c ra m d E R) : n ≤ 1048576 := by have := k.n20; omega
theorem HlI.m9 (k : HlI w ea n c ra m d E R) : m ≤ 1048576 := by have := k.m20; omega
theorem HlI.of {B B' : Nat} (o1 : OwnN .u64 34 w B (.slice ea n c) n E) (o2 : OwnN .i64 2 w B' (.slice ra m d) m R) (u : ∀ x ∈ E, U64 x) (k : ∀ x ∈ R, I64 x) (l1 : E.length ≤ 200) (l2 : R.length ≤ 200) : HlI w ea n c ra m d E R := by
  obtain ⟨a1, a2, a3, a4, a5⟩ := o1.caps
  obtain ⟨b1, b2, b3, b4, b5⟩ := o2.caps
  exact ⟨o1.1.symm, o2.1.symm, a1, b1, u, k, a2, b2, a3, a4, a5, b5, by rw [o1.1]; exact l1, by rw [o2.1]; exact l2⟩
theorem hl_out {B : Nat} {v : Value} (h : HlOut w B v E R) (u : ∀ x ∈ E, U64 x) (k : ∀ x ∈ R, I64 x) (l1 : E.length ≤ 200) (l2 : R.length ≤ 200) : ∃ ea n c ra m d, v = .agg #[.slice ea n c, .slice ra m d] ∧ HlI w ea n c ra m d E R := by
  obtain ⟨ea, c, ra, d, rfl, o1, o2⟩ := h.two
  exact ⟨ea, _, c, ra, _, d, rfl, HlI.of o1 o2 u k l1 l2⟩
theorem put_hl {w1 : World} {B : Nat} {v : Value} {E' R' : List Int} {x : Int} (a : HlI w1 ea n c ra m d E R) (ux : U64 x) (h : HlOut w B v E' R') (p : PutH E R x E' R') : ∃ ea n c ra m d, v = .agg #[.slice ea n c, .slice ra m d] ∧ HlI w ea n c ra m d E' R' := by
  have l := put_lens (M := 200) (by omega) p (by rw [a.le]; exact a.n20) (by rw [a.lr]; exact a.m20)
  exact hl_out h (put_u64 a.u ux p) (put_i64 a.k p) l.1 l.2
theorem mrg_hl {w1 w2 : World} {B : Nat} {v : Value} {ea' ra' : Option Addr} {n' c' m' d' : Nat} {F S E' R' : List Int} (a : HlI w1 ea n c ra m d E R) (b : HlI w2 ea' n' c' ra' m' d' F S) (h : HlOut w B v E' R') (p : MrgH E R F S E' R') : ∃ ea n c ra m d, v = .agg #[.slice ea n c, .slice ra m d] ∧ HlI w ea n c ra m d E' R' := by
  have l := mrg_few' (M := 200) (by omega) p
  exact hl_out h (mrg_u64 a.u b.u p) (mrg_i64 p) l.1 l.2
/-- A local variable that holds one. -/
structure HlL (w : World) (r : Nat) (ea : Option Addr) (n c : Nat) (ra : Option Addr) (m d : Nat) (E R : List Int) : Prop where
  row : w.heap[r]? = some (.cells #[.slice ea n c, .slice ra m d] 27 (0, 0))
  hl : HlI w ea n c ra m d E R
theorem HlL.past (k : HlL w r ea n c ra m d E R) (hb : Below w.heap.size w w') : HlL w' r ea n c ra m d E R :=
  ⟨by rw [hb.block _ (Array.getElem?_eq_some_iff.1 k.row).1]; exact k.row, k.hl.past hb⟩
theorem HlL.drew (k : HlL w r ea n c ra m d E R) : HlL w.drew r ea n c ra m d E R := k.past ((Below.refl _ _).drew)
theorem HlL.cells (k : HlL w r ea n c ra m d E R) : w.cell? ⟨r, 0, none⟩ = some (.slice ea n c) ∧ w.cell? ⟨r, 1, none⟩ = some (.slice ra m d) := cellH2 k.row
theorem HlL.made (k : HlI w ea n c ra m d E R) : HlL (w.alloc (.cells #[.slice ea n c, .slice ra m d] 27)) w.heap.size ea n c ra m d E R :=
  ⟨heap_alloc_new w _, k.past ((Below.refl _ _).alloc (Nat.le_refl _) _)⟩
end
theorem same_hl {E R E' R' : List Int} (h : E = E' ∧ R = R') : sameH E R E' R' = true := by obtain ⟨rfl, rfl⟩ := h; simp [sameH]
set_option maxHeartbeats 2000000 in
theorem c_DrawHllPut {w : World} {ln cap : Nat} {ao : Option Addr} (hc : CodeAt w w.heap.size ao ln) :
    Calls Try.prog 13 #[.slice ao ln cap] w fun e w' => ∃ ea n c ra m d E R x, e = .returned (.tuple #[.agg #[.slice ea n c, .slice ra m d], .int .u64 x]) ∧ U64 x ∧ HlI w' ea n c ra m d E R ∧ Below w.heap.size w w' := by
  have HC := hide hc
  clear hc
  go_enter Try.func13, Try.ntmps13
  go_wp2_with fail
  refine (c_source_at (K := w.heap.size + 1) _ _ _ _ (by simp) (codeAt_on1 HC.out _)).mono ?_
  rintro e w1 ⟨rfl, hS1⟩
  go_wp2_with fail
  refine (c_l04Hll (codeAt_on1 HC.out _) hS1).mono ?_
  rintro e w2 ⟨v, E, R, rfl, ho, hu, hk, lE, lR, hS2, hg2⟩
  obtain ⟨ea, ec, ra, rd, rfl, o1, o2⟩ := ho.two
  obtain ⟨n, hn⟩ : ∃ n, E.length = n := ⟨_, rfl⟩
  obtain ⟨m, hm⟩ : ∃ m, R.length = m := ⟨_, rfl⟩
  rw [hn] at o1; rw [hm] at o2
  rw [hn, hm]
  go_wp2_with fail
  have bB : Below w2.heap.size w2 (w2.alloc (.cells #[.slice ea n ec, .slice ra m rd] 27)) := (Below.refl _ _).alloc (Nat.le_refl _) _
  have S3 := src_past hS2 bB
  have hs1 := src_lt hS1
  have hs2 := hg2.size
  have row3 : (w2.alloc (.cells #[.slice ea n ec, .slice ra m rd] 27)).drew.heap[w2.heap.size]? = some (.cells #[.slice ea n ec, .slice ra m rd] 27 (0, 0)) := heap_alloc_new w2 _
  refine regionK (fun W' => W'.heap[w2.heap.size]? = some (.cells #[.slice ea n ec, .slice ra m rd] 27 (0, 0))) 4 (by rfl) ?_
  refine takeK (i := 0) (d := 10) (v := .agg #[.slice ea n ec, .slice ra m rd]) rfl rfl (by kernel_rfl) (by kernel_rfl) (by kernel_rfl) (by decide) (by kernel_rfl) (fun _ _ _ h => h) (Or.inl ⟨by rfl, fun W hW => ?_⟩) row3 ?_
  · obtain ⟨x0, x1⟩ := cellH2 hW
    go_simp
  simp only [List.setIfInBounds_toArray, List.set_cons_zero, List.set_cons_succ]
  refine takeK (i := 1) (d := 11) (v := .pointer (some ⟨w.heap.size + 1, 0, none⟩)) rfl rfl (by kernel_rfl) (by kernel_rfl) (by kernel_rfl) (by decide) (by kernel_rfl) (fun _ _ _ h => h) (Or.inl ⟨by rfl, fun W hW => ?_⟩) row3 ?_
  · clear hW
    go_simp
  simp only [List.setIfInBounds_toArray, List.set_cons_zero, List.set_cons_succ]
  refine oneK (i := 2) (by kernel_rfl) rfl (fun K hK => ?_)
  go_simp
  refine (c_l04Hash (codeAt_on1 HC.out _) (src_drews (k := 1) S3)).mono ?_
  rintro e w4 ⟨x, rfl, hx, hS4, hg4⟩
  have row4 : w4.heap[w2.heap.size]? = some (.cells #[.slice ea n ec, .slice ra m rd] 27 (0, 0)) := by rw [hg4.block _ (Array.getElem?_eq_some_iff.1 row3).1 (fun e => by have := Option.some.inj e; omega)]; exact row3
  have hg34 : (w2.alloc (.cells #[.slice ea n ec, .slice ra m rd] 27)).grownBy w4 (some (w.heap.size + 1)) := (grown_drews _ 1 _).trans hg4
  have t1 := (o1.past bB).kept hg34 (.inr (fun e => by have := ((o1.past bB).lt _ e).1; omega))
  have t2 := (o2.past bB).kept hg34 (.inr (fun e => by have := ((o2.past bB).lt _ e).1; omega))
  have res1 : w4.heap[w.heap.size]? = some (.cells zeroHl 27 (0, 0)) := by rw [hS4.bel.block _ (by omega)]; exact heap_alloc_new w _
  have bel : Below w.heap.size w w4 := ((Below.refl _ _).alloc (Nat.le_refl _) _).trans (hS4.bel.mono (by omega))
  have row5' : ∀ u0 u1, ((w4.setCell ⟨w.heap.size, 0, none⟩ u0).setCell ⟨w.heap.size, 1, none⟩ u1).heap[w2.heap.size]? = some (.cells #[.slice ea n ec, .slice ra m rd] 27 (0, 0)) := fun u0 u1 => by
    rw [Below.heap_setCell _ _ _ _ (by simp; omega), Below.heap_setCell _ _ _ _ (by simp; omega)]; exact row4
  have HR5 := hide row5'
  have q1 := t1.ne res1 (by decide)
  have q2 := t2.ne res1 (by decide)
  have HI : Hid (HlI ((w4.setCell ⟨w.heap.size, 0, none⟩ (.slice ea n ec)).setCell ⟨w.heap.size, 1, none⟩ (.slice ra m rd)) ea n ec ra m rd E R ∧ Below w.heap.size w ((w4.setCell ⟨w.heap.size, 0, none⟩ (.slice ea n ec)).setCell ⟨w.heap.size, 1, none⟩ (.slice ra m rd))) := (⟨HlI.of ((t1.set q1 _).set q1 _) ((t2.set q2 _).set q2 _) hu hk lE lR, (bel.setCell (Nat.le_refl _) _).setCell (Nat.le_refl _) _⟩ : HlI ((w4.setCell ⟨w.heap.size, 0, none⟩ (.slice ea n ec)).setCell ⟨w.heap.size, 1, none⟩ (.slice ra m rd)) ea n ec ra m rd E R ∧ Below w.heap.size w ((w4.setCell ⟨w.heap.size, 0, none⟩ (.slice ea n ec)).setCell ⟨w.heap.size, 1, none⟩ (.slice ra m rd)))
  obtain ⟨r0, r1⟩ := cellH2 res1
  have e0 := frozen_of_row w4 w.heap.size 0 _ _ res1
  have e1 := frozen_of_row w4 w.heap.size 1 _ _ res1
  have R4 := hide row4
  have HX := hide hx
  clear row3 row4 row5' hs1 hs2 S3 o1 o2 ho hu hk lE lR hg34 hS4 hg4 t1 t2 res1 bel bB hS1 hS2 hg2 q1 q2 hn hm hx
  dsimp only
  refine hK.out _ _ (fun _ => R4.out) ?_
  clear hK K
  try simp only [Act.put, List.setIfInBounds_toArray, List.set_cons_zero, List.set_cons_succ]
  refine oneK (i := 3) (by kernel_rfl) rfl (fun K hK => ?_)
  go_simp
  refine hK.out _ _ (fun _ => HR5.out _ _) ?_
  clear hK K
  try simp only [Act.put, List.setIfInBounds_toArray, List.set_cons_zero, List.set_cons_succ]
  refine oneK (i := 4) (by kernel_rfl) rfl (fun K hK => ?_)
  go_simp
  refine hK.out _ _ (fun h => absurd rfl h) ?_
  clear hK K
  try simp only [Act.put, List.setIfInBounds_toArray, List.set_cons_zero, List.set_cons_succ]
  refine doneK (by kernel_rfl) ?_ _
  go_wp2
  refine bodyPost_ret (v := .tuple #[.agg #[.slice ea n ec, .slice ra m rd], .int .u64 x]) (by simp [results, Try.results13, go_sem, r0, r1]) rfl ⟨ea, n, ec, ra, m, rd, E, R, x, rfl, HX.out, HI.out⟩
end Go.Proofs.Ytljhjcmodaaaoaa
