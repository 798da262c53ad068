/-
  mergeRightHlls of the program. (Written by tools/gen_hly.py.)
-/
import Derived.Test.YthpilcoklapooaaGreatDoorJK
import Derived.Laws.CopyOwn
import Derived.Test.YthpilcoklapooaaGreatDoorJD
namespace Go.Proofs.YthpilcoklapooaaGreatDoor
set_option linter.unusedVariables false
set_option linter.unusedSimpArgs false
open Go.ChangeShapes Go.WideShapes Go.ChangeAt Go.RowKit Go.PlainAid Go.Maps
set_option maxRecDepth 10000

def zer64 : List Value := (List.replicate 64 (0 : Int)).map (Value.int .i64)
theorem RowI.of {w : World} {B g : Nat} {R : List Int} (h : R.length = 64) (hB : B ≤ g) (hg : w.heap[g]? = some (.cells (R.map (Value.int .i64)).toArray 2 (0, 0))) : RowI w B g R :=
  ⟨h, by simp [h], .inr ⟨g, 64, _, rfl, hB, hg, Nat.le_refl _, by unfold maxLen; omega, by simp [h], List.take_of_length_le (by simp [h])⟩⟩
theorem RowI.le {w : World} {B B' g : Nat} {R : List Int} (h : RowI w B g R) (hB : B' ≤ B) : RowI w B' g R := ⟨h.1, own_le h.2 hB⟩
theorem own_anyH {w : World} {B s n : Nat} {e : TypeId} {v : Value} {xs : List Value} (h : w.ownsRow B e s v n xs) : ∃ ao c, v = .slice ao n c := by
  rcases h.2 with ⟨rfl, rfl⟩ | ⟨g, c, _, rfl, _⟩
  · exact ⟨none, 0, rfl⟩
  · exact ⟨_, c, rfl⟩
end Go.Proofs.YthpilcoklapooaaGreatDoor

/-
  HllPut and HllMerge of the program.
-/
namespace Go.Proofs.YthpilcoklapooaaGreatDoor
set_option linter.unusedVariables false
set_option linter.unusedSimpArgs false
open Go.ChangeShapes Go.WideShapes Go.ChangeAt Go.RowKit Go.PlainAid Go.Maps
set_option maxRecDepth 10000

/-- Where a row that is handed in lies. -/
def Flat (ao : Option Addr) : Prop := ao = none ∨ ∃ b off, ao = some ⟨b, off, none⟩
theorem nums_nil {kd : IntKind} {w : World} {L : List Int} (h : NumsAt kd w none L) : L = [] := by
  cases L with
  | nil => rfl
  | cons x r => obtain ⟨b, off, e, _⟩ := h (by simp); cases e
theorem nums_news {kd : IntKind} {w : World} {b off : Nat} {L : List Int} (h : NumsAt kd w (some ⟨b, off, none⟩) L) : ∀ j u, (L.map (Value.int kd))[j]? = some u → w.cell? ⟨b, off + j, none⟩ = some u := fun j u hu => by
  rw [List.getElem?_map] at hu
  obtain ⟨x, hx, rfl⟩ := Option.map_eq_some_iff.1 hu
  obtain ⟨b', off', e, hc⟩ := h (by have := (List.getElem?_eq_some_iff.1 hx).1; omega)
  cases e
  exact hc j x hx
theorem sizeU (w : World) : (Go.sizeOf 23).run Tryz.prog w = .ok 1 w := Tryz.sizeOf23 w
theorem sizeI (w : World) : (Go.sizeOf 2).run Tryz.prog w = .ok 1 w := Tryz.sizeOf2 w
theorem c_cloneU {w : World} {ao : Option Addr} {n c : Nat} {L : List Int} (hn : L.length = n) (hl : n ≤ 1048576) (hf : Flat ao) (hA : NumsAt .u64 w ao L) :
    Calls Tryz.prog 166 #[.slice ao n c] w fun e w' => ∃ v, e = .returned v ∧ w'.ownsRow w.heap.size 23 1 v L.length (L.map (Value.int .u64)) ∧ Below w.heap.size w w' := by
  obtain ⟨i0, hi, hz0, hz1, hz2⟩ := info_parts infoUint64S
  rcases hf with rfl | ⟨b, off, rfl⟩
  · obtain rfl := nums_nil hA
    refine (Tryz.slices_Clone_nil_f166 _ _ _).mono ?_
    rintro e w' ⟨rfl, rfl⟩
    exact ⟨_, rfl, World.ownsRow_nil _ _ _ _, Below.refl _ _⟩
  · refine (Tryz.slices_Clone_f166 i0 _ 1 8 hi hz0 hz1 hz2 rfl (by omega) sizeU b off n c (L.map (Value.int .u64)) w (by simp [hn]) (by unfold maxLen; omega) (by omega) (nums_news hA) (by intro v hv; simp at hv; obtain ⟨x, _, rfl⟩ := hv; rfl)).mono ?_
    rintro e w' ⟨v, rfl, ho, _, hb⟩
    exact ⟨v, rfl, by rw [hn]; exact ho, hb⟩
theorem c_cloneI {w : World} {ao : Option Addr} {n c : Nat} {L : List Int} (hn : L.length = n) (hl : n ≤ 1048576) (hf : Flat ao) (hA : NumsAt .i64 w ao L) :
    Calls Tryz.prog 167 #[.slice ao n c] w fun e w' => ∃ v, e = .returned v ∧ w'.ownsRow w.heap.size 2 1 v L.length (L.map (Value.int .i64)) ∧ Below w.heap.size w w' := by
  obtain ⟨i0, hi, hz0, hz1, hz2⟩ := info_parts infoInt64S
  rcases hf with rfl | ⟨b, off, rfl⟩
  · obtain rfl := nums_nil hA
    refine (Tryz.slices_Clone_nil_f167 _ _ _).mono ?_
    rintro e w' ⟨rfl, rfl⟩
    exact ⟨_, rfl, World.ownsRow_nil _ _ _ _, Below.refl _ _⟩
  · refine (Tryz.slices_Clone_f167 i0 _ 1 8 hi hz0 hz1 hz2 rfl (by omega) sizeI b off n c (L.map (Value.int .i64)) w (by simp [hn]) (by unfold maxLen; omega) (by omega) (nums_news hA) (by intro v hv; simp at hv; obtain ⟨x, _, rfl⟩ := hv; rfl)).mono ?_
    rintro e w' ⟨v, rfl, ho, _, hb⟩
    exact ⟨v, rfl, by rw [hn]; exact ho, hb⟩
theorem two_cell (w : World) (T1 T3 : TypeId) (p n x y : Value) (w1 : World) (hb : Below ((w.alloc (.cells #[p, n] T1)).alloc (.cells #[x, y] T3)).heap.size ((w.alloc (.cells #[p, n] T1)).alloc (.cells #[x, y] T3)) w1) : HlCell w1 w.heap.size p n ∧ w1.heap[w.heap.size + 1]? = some (.cells #[x, y] T3 (0, 0)) := by
  have k0 := hl_new w T1 p n
  have a1 : ∀ (W : World) o, Below W.heap.size W (W.alloc o) := fun W o => (Below.refl _ _).alloc (Nat.le_refl _) _
  have h2 := heap_alloc_new (w.alloc (.cells #[p, n] T1)) (.cells #[x, y] T3)
  simp only [World.size_alloc] at h2
  exact ⟨hl_past (hl_past k0 (a1 _ _)) hb, (hb.block _ (by simp)).trans h2⟩
set_option maxHeartbeats 2000000 in
theorem c_copyHll {w : World} {ea ra : Option Addr} {n c m d : Nat} {E R : List Int} (h1 : E.length = n) (h2 : R.length = m) (l1 : n ≤ 1048576) (l2 : m ≤ 1048576) (f1 : Flat ea) (f2 : Flat ra) (hE : NumsAt .u64 w ea E) (hR : NumsAt .i64 w ra R) :
    Calls Tryz.prog 123 #[.agg #[.slice ea n c, .slice ra m d]] w fun e w' => ∃ v, e = .returned v ∧ HlOut w' w.heap.size v E R ∧ Below w.heap.size w w' := by
  have HE := hide hE
  have HR := hide hR
  have F1 := hide f1
  have F2 := hide f2
  have H1 := hide h1
  have H2 := hide h2
  have HBa : Hid (∀ o1 o2, Below w.heap.size w ((w.alloc o1).alloc o2)) := fun o1 o2 => ((Below.refl _ _).alloc (Nat.le_refl _) _).alloc (by simp) _
  clear hE hR f1 f2 h1 h2
  go_enter Tryz.func123, Tryz.ntmps123
  go_wp2_with fail
  generalize hW0 : (w.alloc (Obj.cells #[.slice ea n c, .slice ra m d] 32)).alloc (Obj.cells #[.slice none 0 0, .slice none 0 0] 32) = W0
  have T0 : Below w.heap.size w W0 := by rw [← hW0]; exact HBa.out _ _
  have KR := two_cell w 32 32 (.slice ea n c) (.slice ra m d) (.slice none 0 0) (.slice none 0 0) W0 (by rw [hW0]; exact Below.refl _ _)
  have hsz0 : W0.heap.size = w.heap.size + 2 := by rw [← hW0]; simp
  clear hW0
  have HT0 := hide T0
  have hC : ∀ W, Below W0.heap.size W0 W → HlCell W w.heap.size (.slice ea n c) (.slice ra m d) ∧ W.heap[w.heap.size + 1]? = some (.cells #[.slice none 0 0, .slice none 0 0] 32 (0, 0)) := fun W hW => ⟨hl_past KR.1 hW, by rw [hW.block _ (by omega)]; exact KR.2⟩
  have HC := hide hC
  clear T0 hC KR
  have HS0 : (fun W => Below W0.heap.size W0 W) W0.drew := (Below.refl _ _).drew
  refine regionK (fun W => Below W0.heap.size W0 W) 7 (by kernel_rfl) ?_
  refine takeK (i := 0) (d := 3) (v := .pointer (some ⟨w.heap.size, 0, none⟩)) rfl rfl (by kernel_rfl) (by kernel_rfl) (by kernel_rfl) (by decide) (by kernel_rfl) (fun _ _ _ h => h) (Or.inl ⟨by rfl, fun W hW => ?_⟩) HS0 ?_
  · obtain ⟨⟨x0, x1⟩, _⟩ := HC.out W hW
    go_simp
  simp only [List.setIfInBounds_toArray, List.set_cons_zero, List.set_cons_succ]
  refine takeK (i := 1) (d := 4) (v := .slice ea n c) rfl rfl (by kernel_rfl) (by kernel_rfl) (by kernel_rfl) (by decide) (by kernel_rfl) (fun _ _ _ h => h) (Or.inl ⟨by rfl, fun W hW => ?_⟩) HS0 ?_
  · obtain ⟨⟨x0, x1⟩, _⟩ := HC.out W hW
    go_simp
  simp only [List.setIfInBounds_toArray, List.set_cons_zero, List.set_cons_succ]
  refine takeK (i := 3) (d := 6) (v := .pointer (some ⟨w.heap.size, 1, none⟩)) rfl rfl (by kernel_rfl) (by kernel_rfl) (by kernel_rfl) (by decide) (by kernel_rfl) (fun _ _ _ h => h) (Or.inl ⟨by rfl, fun W hW => ?_⟩) HS0 ?_
  · obtain ⟨⟨x0, x1⟩, _⟩ := HC.out W hW
    go_simp
  simp only [List.setIfInBounds_toArray, List.set_cons_zero, List.set_cons_succ]
  refine takeK (i := 4) (d := 7) (v := .slice ra m d) rfl rfl (by kernel_rfl) (by kernel_rfl) (by kernel_rfl) (by decide) (by kernel_rfl) (fun _ _ _ h => h) (Or.inl ⟨by rfl, fun W hW => ?_⟩) HS0 ?_
  · obtain ⟨⟨x0, x1⟩, _⟩ := HC.out W hW
    go_simp
  simp only [List.setIfInBounds_toArray, List.set_cons_zero, List.set_cons_succ]
  refine oneK (i := 2) (by kernel_rfl) rfl (fun K hK => ?_)
  go_simp
  refine (c_cloneU H1.out l1 F1.out (nums_past HE.out (HT0.out.trans ((Below.refl _ _).drew.mono HT0.out.size)))).mono ?_
  rintro e w1 ⟨v1, rfl, ho1, hb1⟩
  dsimp only
  have HB1 := hide ((HS0 : Below W0.heap.size W0 W0.drew).trans hb1)
  have HO1 := hide (own_le (B' := W0.heap.size) ho1 (by show W0.heap.size ≤ W0.heap.size; omega))
  obtain ⟨ao1, c1, rfl⟩ := own_anyH ho1
  clear ho1 hb1
  refine hK.out _ _ (fun _ => HB1.out) ?_
  clear hK K
  try simp only [Act.put, List.setIfInBounds_toArray, List.set_cons_zero, List.set_cons_succ]
  refine oneK (i := 5) (by kernel_rfl) rfl (fun K hK => ?_)
  go_simp
  refine (c_cloneI H2.out l2 F2.out (nums_past HR.out (chain HT0.out HB1.out))).mono ?_
  rintro e w2 ⟨v2, rfl, ho2, hb2⟩
  dsimp only
  have HB2 := hide (chain HB1.out hb2)
  have HO2 := hide (own_le (B' := W0.heap.size) ho2 HB1.out.size)
  have HO12 := hide (own_past HO1.out hb2)
  obtain ⟨ao2, c2, rfl⟩ := own_anyH ho2
  clear ho2 hb2
  refine hK.out _ _ (fun _ => HB2.out) ?_
  clear hK K
  try simp only [Act.put, List.setIfInBounds_toArray, List.set_cons_zero, List.set_cons_succ]
  refine takeK (i := 6) (d := 9) (v := .agg #[.slice ao1 E.length c1, .slice ao2 R.length c2]) rfl rfl (by kernel_rfl) (by kernel_rfl) (by kernel_rfl) (by decide) (by kernel_rfl) (fun _ _ _ h => h) (Or.inl ⟨by rfl, fun W hW => ?_⟩) HB2.out ?_
  · clear hW
    go_simp
  simp only [List.setIfInBounds_toArray, List.set_cons_zero, List.set_cons_succ]
  have R2 := (HC.out _ HB2.out).2
  have q0 : w2.cell? ⟨w.heap.size + 1, 0, none⟩ = some (.slice none 0 0) := by rw [cell_of_row _ _ 0 _ _ (0, 0) R2]; rfl
  have q1 : w2.cell? ⟨w.heap.size + 1, 1, none⟩ = some (.slice none 0 0) := by rw [cell_of_row _ _ 1 _ _ (0, 0) R2]; rfl
  have f0 := frozen_of_row w2 (w.heap.size + 1) 0 _ _ R2
  have f1 := frozen_of_row w2 (w.heap.size + 1) 1 _ _ R2
  refine oneK (i := 7) (by kernel_rfl) rfl (fun K hK => ?_)
  go_simp
  refine hK.out _ _ (fun h => absurd rfl h) ?_
  clear hK K
  try simp only [Act.put, List.setIfInBounds_toArray, List.set_cons_zero, List.set_cons_succ]
  refine doneK (by kernel_rfl) ?_ _
  go_wp2
  refine bodyPost_ret (v := .agg #[.slice ao1 E.length c1, .slice ao2 R.length c2]) (by simp [results, Tryz.results123, go_sem, q0, q1]) rfl ⟨_, rfl, ⟨_, _, rfl, ?_, ?_⟩, ?_⟩
  · refine own_le (B := W0.heap.size) ?_ (by omega)
    repeat (refine ownsRow_setCell_below ?_ (by simp; omega) _)
    exact HO12.out
  · refine own_le (B := W0.heap.size) ?_ (by omega)
    repeat (refine ownsRow_setCell_below ?_ (by simp; omega) _)
    exact HO2.out
  · repeat (refine Below.setCell ?_ (by simp <;> omega) _)
    exact chain HT0.out HB2.out
/-- What is answered when a hash is put. -/
def PutH (E R : List Int) (x : Int) (E' R' : List Int) : Prop := if hlB E R = true then Mg E R [x] [] E' R' else E' = E ∧ R' = R
/-- What two come to. -/
def MrgH (E1 R1 E2 R2 E R : List Int) : Prop := if hlB E1 R1 = true ∧ hlB E2 R2 = true then Mg E1 R1 E2 R2 E R else E = [] ∧ R = []
end Go.Proofs.YthpilcoklapooaaGreatDoor

/-
  Contracts of HllCount, of the program and of its model.
-/
namespace Go.Proofs.YthpilcoklapooaaGreatDoor
set_option linter.unusedVariables false
set_option linter.unusedSimpArgs false
open Go.ChangeShapes Go.WideShapes Go.ChangeAt Go.RowKit Go.PlainAid Go.Lib
set_option maxRecDepth 10000

/-- What the registers come to, in steps of 2^-55. -/
def cS : List Int → Int
  | [] => 0
  | r :: t => 2 ^ (55 - r).toNat + cS t
/-- How many there are. -/
def cntH (E R : List Int) : Int := if hlB E R = true then (if R.length = 0 then (E.length : Int) else Int.tdiv (Int.tdiv 3193052135805681664 (max (Int.tdiv (cS R) 32768) 1)) 1000) else 0
end Go.Proofs.YthpilcoklapooaaGreatDoor
