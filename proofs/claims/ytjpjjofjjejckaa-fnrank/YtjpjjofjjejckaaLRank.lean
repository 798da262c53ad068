/-
  The law FnRank: of every code: of the values that are put one by one, that of each rank is in the bin of the one that stands there, if they are put in order; nothing that was there has turned. No condition.
-/
import Derived.Test.YtjpjjofjjejckaaRankN
import Derived.Test.YtjpjjofjjejckaaLwC
import Derived.Test.YtjpjjofjjejckaaOpenC
import Derived.Lib.SmallJoins
import Derived.Carry
import Derived.Deep.RegionHeld3
import Derived.Deep.DeepCutAuto
import Derived.ShutString
import Derived.ChangeOld
namespace Go.Proofs.Ytjpjjofjjejckaa
set_option linter.unusedVariables false
set_option linter.unusedSimpArgs false
open Go.ChangeMaps (open_string shut_string)
open Go.ChangeShapes Go.WideShapes Go.ChangeAt Go.RowKit Go.PlainAid
set_option maxRecDepth 10000

theorem mul_bd {a b A B : Int} (a1 : -A ≤ a) (a2 : a ≤ A) (b1 : 0 ≤ b) (b2 : b ≤ B) (hA : 0 ≤ A) : -(A * B) ≤ a * b ∧ a * b ≤ A * B := by
  have h1 : a * b ≤ A * b := Int.mul_le_mul_of_nonneg_right a2 b1
  have h2 : A * b ≤ A * B := Int.mul_le_mul_of_nonneg_left b2 hA
  have h3 : -A * b ≤ a * b := Int.mul_le_mul_of_nonneg_right a1 b1
  rw [Int.neg_mul] at h3
  omega
/-- A value of three bytes. -/
theorem val_bd {a b c : Int} (ha : 0 ≤ a ∧ a < 256) (hb : 0 ≤ b ∧ b < 256) (hc : 0 ≤ c ∧ c < 256) : (-45056 ≤ (a - 80) * (1 + b) ∧ (a - 80) * (1 + b) ≤ 45056) ∧ -11534336 ≤ (a - 80) * (1 + b) * (1 + c) ∧ (a - 80) * (1 + b) * (1 + c) ≤ 11534336 := by
  have h1 := mul_bd (a := a - 80) (b := 1 + b) (A := 176) (B := 256) (by omega) (by omega) (by omega) (by omega) (by omega)
  have h2 := mul_bd (a := (a - 80) * (1 + b)) (b := 1 + c) (A := 45056) (B := 256) (by omega) (by omega) (by omega) (by omega) (by omega)
  omega
theorem infoI64 : (Try.prog.info? 2).map (fun i => (i.zero, i.size, i.bytes)) = some (some (.int .i64 0), 1, 8) := by kernel_rfl
/-- What stands ahead of a round. -/
structure RAt (w wr : World) (k : Nat) (z h l : Int) (pa na : Option Addr) (pn pc nn nc gl lc : Nat) (P N : List Bn) (ls : List Int) : Prop where
  bel : Below w.heap.size w wr
  row : wr.heap[w.heap.size]? = some (.cells #[.int .u64 z, .slice pa pn pc, .slice na nn nc, .int .i64 h, .int .u64 l] 32 (0, 0))
  hl : U64 l
  inv : RInv k z P N ls
  oP : OwnB wr 0 (.slice pa pn pc) pn P
  oN : OwnB wr 0 (.slice na nn nc) nn N
  own : wr.ownsRow w.heap.size 2 1 (.slice (some ⟨gl, 0, none⟩) k lc) k (ls.map (Value.int .i64))
theorem RAt.start (w : World) : RAt w ((w.alloc (.cells #[.int .u64 0, .slice none 0 0, .slice none 0 0, .int .i64 0, .int .u64 0] 32)).alloc (.cells #[] 2)) 0 0 0 0 none none 0 0 0 0 (w.heap.size + 1) 0 [] [] [] := by
  refine ⟨((Below.refl _ _).alloc (Nat.le_refl _) _).alloc (by simp) _, ?_, by unfold U64; omega, RInv.start, ⟨rfl, .inl ⟨rfl, rfl⟩⟩, ⟨rfl, .inl ⟨rfl, rfl⟩⟩, ?_⟩
  · have h := heap_alloc_new w (.cells #[.int .u64 0, .slice none 0 0, .slice none 0 0, .int .i64 0, .int .u64 0] 32)
    have hb : Below (w.alloc (.cells #[.int .u64 0, .slice none 0 0, .slice none 0 0, .int .i64 0, .int .u64 0] 32)).heap.size (w.alloc (.cells #[.int .u64 0, .slice none 0 0, .slice none 0 0, .int .i64 0, .int .u64 0] 32)) ((w.alloc (.cells #[.int .u64 0, .slice none 0 0, .slice none 0 0, .int .i64 0, .int .u64 0] 32)).alloc (.cells #[] 2)) := (Below.refl _ _).alloc (Nat.le_refl _) _
    rw [hb.block _ (by simp)]; exact h
  · have := World.ownsRow_made (base := w.heap.size) (e := 2) (size := 1) (w.alloc (.cells #[.int .u64 0, .slice none 0 0, .slice none 0 0, .int .i64 0, .int .u64 0] 32)) #[] 0 (by simp) (Nat.zero_le _) rfl
    simpa using this
theorem own_someR {w : World} {B n : Nat} {T : TypeId} {s : Nat} {v : Value} {xs : List Value} (h : w.ownsRow B T s v n xs) (hn : v = .slice none 0 0 → False) : ∃ g c, v = .slice (some ⟨g, 0, none⟩) n c := by
  rcases h.2 with ⟨e, _⟩ | ⟨g, c, _, e, _⟩
  · exact (hn e).elim
  · exact ⟨g, c, e⟩
theorem own_nR {w : World} {B n n' : Nat} {T : TypeId} {s : Nat} {v : Value} {xs : List Value} (h : w.ownsRow B T s v n xs) (e : n = n') : w.ownsRow B T s v n' xs := by subst e; exact h
theorem app_bel {w5 wa wb : World} {T : TypeId} {s n : Nat} {v : Value} {xs : List Value} (hB : Below w5.heap.size w5 wa) (ho : wa.ownsRow w5.heap.size T s v n xs) (hg : wa.grownBy wb v.ownBlock) : Below w5.heap.size w5 wb := by
  refine hB.grown hg hB.size (fun k e => ?_)
  rcases ho.2 with ⟨e1, _⟩ | ⟨g, c, cur, e1, h1, _⟩
  · rw [e1] at e; cases e
  · rw [e1] at e; cases e; exact h1
theorem src_take {w5 w' : World} {B gl k kk lc : Nat} {T : TypeId} {ls : List Int} (ho : w5.ownsRow B T 1 (.slice (some ⟨gl, 0, none⟩) k lc) k (ls.map (Value.int .i64))) (hb : Below w5.heap.size w5 w') : ∀ j u, ((ls.take kk).map (Value.int .i64))[j]? = some u → w'.cell? ((⟨gl, 0, none⟩ : Addr).add j) = some u := fun j u hu => by
  have hl : ls.length = k := by have := ho.1; simpa using this
  have hj : j < k := by
    have := (List.getElem?_eq_some_iff.1 hu).1
    simp at this; omega
  rw [Addr.add_lit, Nat.zero_add, (own_past ho hb).cellAt j (by omega)]
  rw [List.getElem?_map, List.getElem?_take] at hu
  rw [List.getElem?_map]
  split at hu
  · exact hu
  · cases hu
theorem src_drop {w5 w' : World} {B gl k kk lc : Nat} {T : TypeId} {ls : List Int} (ho : w5.ownsRow B T 1 (.slice (some ⟨gl, 0, none⟩) k lc) k (ls.map (Value.int .i64))) (hb : Below w5.heap.size w5 w') : ∀ j u, ((ls.drop kk).map (Value.int .i64))[j]? = some u → w'.cell? ((⟨gl, kk, none⟩ : Addr).add j) = some u := fun j u hu => by
  have hl : ls.length = k := by have := ho.1; simpa using this
  have hj : kk + j < k := by
    have := (List.getElem?_eq_some_iff.1 hu).1
    simp at this; omega
  rw [Addr.add_lit, (own_past ho hb).cellAt (kk + j) (by omega)]
  rw [List.getElem?_map, List.getElem?_drop] at hu
  rw [List.getElem?_map]; exact hu
theorem src_drop0 {w5 w' : World} {B gl k kk lc : Nat} {T : TypeId} {ls : List Int} (h0 : kk = 0) (ho : w5.ownsRow B T 1 (.slice (some ⟨gl, 0, none⟩) k lc) k (ls.map (Value.int .i64))) (hb : Below w5.heap.size w5 w') : ∀ j u, ((ls.drop kk).map (Value.int .i64))[j]? = some u → w'.cell? ((⟨gl, 0, none⟩ : Addr).add j) = some u := by
  subst h0; exact src_drop ho hb
theorem src_none {w' : World} {A : Addr} {kk : Nat} {ls : List Int} (h : ls.length ≤ kk) : ∀ j u, ((ls.drop kk).map (Value.int .i64))[j]? = some u → w'.cell? (A.add j) = some u := fun j u hu => by
  rw [List.drop_eq_nil_of_le h] at hu; simp at hu
theorem src_one (w : World) (t : TypeId) (v : Int) : ∀ j u, ([Value.int .i64 v])[j]? = some u → (w.alloc (.cells #[.int .i64 v] t)).cell? ((⟨w.heap.size, 0, none⟩ : Addr).add j) = some u := fun j u hu => by
  have hb := heap_alloc_new w (.cells #[.int .i64 v] t)
  rw [Addr.add_lit, Nat.zero_add, cell_of_row _ w.heap.size j _ _ (0, 0) hb]
  simpa using hu
theorem oneI (L : List Int) : ∀ u ∈ L.map (Value.int .i64), u.oneCell' = true := fun u hu => by
  obtain ⟨x, _, rfl⟩ := List.mem_map.1 hu; rfl
theorem RAt.next {w w5 w8 : World} {k : Nat} {z h l : Int} {pa na : Option Addr} {pn pc nn nc gl lc : Nat} {P N : List Bn} {ls : List Int} (h5 : Below w.heap.size w w5) (h8 : Below w5.heap.size w5 w8)
    (row : w5.heap[w.heap.size]? = some (.cells #[.int .u64 z, .slice pa pn pc, .slice na nn nc, .int .i64 h, .int .u64 l] 32 (0, 0))) (hl : U64 l) (inv : RInv k z P N ls) (oP : OwnB w5 0 (.slice pa pn pc) pn P) (oN : OwnB w5 0 (.slice na nn nc) nn N)
    (own : w8.ownsRow w5.heap.size 2 1 (.slice (some ⟨gl, 0, none⟩) k lc) k (ls.map (Value.int .i64))) : RAt w w8 k z h l pa na pn pc nn nc gl lc P N ls :=
  ⟨chain h5 h8, by rw [h8.block _ (Array.getElem?_eq_some_iff.1 row).1]; exact row, hl, inv, oP.past h8, oN.past h8, own_le own h5.size⟩
theorem take_le {ls : List Int} {j : Nat} {x v : Int} (hs : ls.Pairwise (fun a b => a ≤ b)) (hx : ls[j]? = some x) (h : x ≤ v) : ∀ y ∈ ls.take (j + 1), y ≤ v := fun y hy => by
  obtain ⟨i, hi⟩ := List.getElem?_of_mem hy
  rw [List.getElem?_take] at hi
  split at hi
  · rename_i hij
    by_cases e : i = j
    · subst e; rw [hx] at hi; obtain rfl := Option.some.inj hi; exact h
    · have h1 := List.getElem?_eq_some_iff.1 hi
      have h2 := List.getElem?_eq_some_iff.1 hx
      have := (List.pairwise_iff_getElem.1 hs) i j h1.1 h2.1 (by omega)
      rw [h1.2, h2.2] at this; omega
  · cases hi
theorem drop_ge {ls : List Int} {j : Nat} {x v : Int} (hx : ls[j]? = some x) (h : v ≤ x) (hd : ∀ y ∈ ls.drop (j + 1), v ≤ y) : ∀ y ∈ ls.drop j, v ≤ y := fun y hy => by
  have h2 := List.getElem?_eq_some_iff.1 hx
  rw [List.drop_eq_getElem_cons h2.1, h2.2] at hy
  rcases List.mem_cons.1 hy with rfl | hy
  · exact h
  · exact hd y hy
theorem own_set {w : World} {B g r c n j : Nat} {T : TypeId} {s : Nat} {xs : List Value} {u : Value} (h : w.ownsRow B T s (.slice (some ⟨g, 0, none⟩) n c) n xs) (hne : g ≠ r) : (w.setCell ⟨r, j, none⟩ u).ownsRow B T s (.slice (some ⟨g, 0, none⟩) n c) n xs := by
  refine ⟨h.1, ?_⟩
  rcases h.2 with ⟨e, _⟩ | ⟨g', cap, cur, e, h1, h2, h3⟩
  · cases e
  · cases e
    exact .inr ⟨g, c, cur, rfl, h1, by rw [heap_setCell_other _ _ _ _ (by simpa using hne)]; exact h2, h3⟩
theorem own_set5 {w : World} {B g r c n : Nat} {T T' : TypeId} {s : Nat} {xs : List Value} {cs : Array Value} {fz : Nat × Nat} {v0 v1 v2 v3 v4 : Value} (h : w.ownsRow B T s (.slice (some ⟨g, 0, none⟩) n c) n xs) (hr : w.heap[r]? = some (.cells cs T' fz)) (hT : T' ≠ T) :
    (((((w.setCell ⟨r, 0, none⟩ v0).setCell ⟨r, 1, none⟩ v1).setCell ⟨r, 2, none⟩ v2).setCell ⟨r, 3, none⟩ v3).setCell ⟨r, 4, none⟩ v4).ownsRow B T s (.slice (some ⟨g, 0, none⟩) n c) n xs := by
  have hne : g ≠ r := fun e => by
    subst e
    rcases h.2 with ⟨e, _⟩ | ⟨g', cap, cur, e, h1, h2, h3⟩
    · cases e
    · cases e; rw [h2] at hr; cases hr; exact hT rfl
  exact own_set (own_set (own_set (own_set (own_set h hne) hne) hne) hne) hne

set_option maxHeartbeats 4000000 in
theorem walkRank (ao : Option Addr) (ln cap : Nat) (w : World) (hl : ln ≤ maxLen) (ha : ln ≤ 1048576 → CodeAt w w.heap.size ao ln) :
    Calls Try.prog 6 #[.slice ao ln cap] w fun e w' => e = .returned (.bool true) ∧ Below w.heap.size w w' := by
  have hlz : ln ≤ 9223372036854775807 := hl
  by_cases hl1 : 1048576 < ln
  · have hl1i : (1048576 : Int) < (ln : Int) := by omega
    clear ha
    go_enter Try.func6, Try.ntmps6
    go_wp2
    go_ret
    exact ⟨rfl, Below.refl _ _⟩
  have hl1i : ¬ (1048576 : Int) < (ln : Int) := by omega
  have HA := hide (ha (by omega))
  have HR0 := hide (RAt.start w)
  clear ha
  go_enter Try.func6, Try.ntmps6
  go_wp2
  go_loopw [4, 5] (fun lv i wr => ∃ (k : Nat) (z h l : Int) (pa na : Option Addr) (pn pc nn nc gl lc : Nat) (P N : List Bn) (ls : List Int), k ≤ 20 ∧ i = .int .i64 k ∧ lv = .slice (some ⟨gl, 0, none⟩) k lc ∧ RAt w wr k z h l pa na pn pc nn nc gl lc P N ls) (fun lv i wr => 20 - (intOf i).toNat)
  case atStart => exact ⟨0, _, _, _, _, _, _, _, _, _, _, _, _, _, _, Nat.zero_le _, rfl, rfl, HR0.out⟩
  case round =>
    clear HR0
    obtain ⟨k, z, h, l, pa, na, pn, pc, nn, nc, gl, lc, P, N, ls, hk, rfl, rfl, hR⟩ := hrel
    have HR := hide hR
    by_cases hk20 : k < 20
    · obtain ⟨c0, c1, c2, c3, c4⟩ := cell5 hR.row
      have A0 := lwF_in HA.out (m := 256) (by omega) (3 * k)
      have A1 := lwF_in HA.out (m := 256) (by omega) (3 * k + 1)
      have A2 := lwF_in HA.out (m := 256) (by omega) (3 * k + 2)
      have HB := hide hR.bel
      clear hR
      generalize e0 : lwF w ao ln (3 * k) 256 = a0 at A0
      generalize e1 : lwF w ao ln (3 * k + 1) 256 = a1 at A1
      generalize e2 : lwF w ao ln (3 * k + 2) 256 = a2 at A2
      have E0 := hide e0
      have E1 := hide e1
      have E2 := hide e2
      clear e0 e1 e2
      obtain ⟨⟨m1, m2⟩, m3, m4⟩ := val_bd A0 A1 A2
      obtain ⟨q, hq⟩ : ∃ q, (a0 - 80) * (1 + a1) = q := ⟨_, rfl⟩
      rw [hq] at m1 m2 m3 m4
      obtain ⟨vv, hvv⟩ : ∃ v, q * (1 + a2) = v := ⟨_, rfl⟩
      rw [hvv] at m3 m4
      go_wp2_with (go_at_call 26; first | (refine (c_lwAtI _ _ _ _ (3 * k) _ (by omega) (by omega) (by omega) (by omega) _ _ HA.out HB.out).mono ?_; rintro e w1 ⟨rfl, rfl⟩; rw [E0.out]) | (refine (c_lwAtI _ _ _ _ (3 * k + 1) _ (by omega) (by omega) (by omega) (by omega) _ _ HA.out HB.out).mono ?_; rintro e w1 ⟨rfl, rfl⟩; rw [E1.out]) | (refine (c_lwAtI _ _ _ _ (3 * k + 2) _ (by omega) (by omega) (by omega) (by omega) _ _ HA.out HB.out).mono ?_; rintro e w1 ⟨rfl, rfl⟩; rw [E2.out]))
      have RI := HR.out.inv
      have hVb : Vb vv := ⟨by omega, by omega⟩
      have hz : U64 z := by have := RI.z0; have := RI.small.1; unfold U64; omega
      have ok : putOk P N vv 1 := ⟨RI.right (by omega), hVb, by omega⟩
      have lP : pn ≤ 20 := by rw [HR.out.oP.1]; have := RI.lP; omega
      have lN : nn ≤ 20 := by rw [HR.out.oN.1]; have := RI.lN; omega
      refine (c_i_SketchPut hz HR.out.hl (by unfold I64; omega) (by unfold U64; omega) HR.out.oP.1.symm HR.out.oN.1.symm (by omega) (by omega) HR.out.oP.at HR.out.oN.at (RI.ok (by omega)).1 (RI.ok (by omega)).2).mono ?_
      rintro e w4 ⟨v4, rfl, hb4, hq4⟩
      obtain ⟨p5, n5, m5, m6, rfl, o5, o6, hap⟩ := (hq4.resolve_right (fun h => h.1 ok)).2
      obtain ⟨ao5, c5, rfl⟩ := o5.any
      obtain ⟨ao6, c6, rfl⟩ := o6.any
      have HI4 : Hid (∀ ls', ls'.Perm (vv :: ls) → ls'.Pairwise (fun a b => a ≤ b) → RInv (k + 1) (putZ z vv 1) (putP P vv 1) (putN N vv 1) ls') := fun ls' p s => RI.put hk20 hVb p s
      have row4 : w4.heap[w.heap.size]? = some (.cells #[.int .u64 z, .slice pa pn pc, .slice na nn nc, .int .i64 h, .int .u64 l] 32 (0, 0)) := by rw [hb4.block _ (Array.getElem?_eq_some_iff.1 HR.out.row).1]; exact HR.out.row
      have HLU : Hid (U64 (addL l (thL vv 1))) := (uw_in _ : U64 (addL l (thL vv 1)))
      have HO4 := hide (own_past HR.out.own hb4)
      have HB4 := hide (chain HR.out.bel hb4)
      have HR5 := hide RI
      generalize eZ : putZ z vv 1 = Z at HI4
      generalize eP : putP P vv 1 = P5 at HI4 o5
      generalize eN : putN N vv 1 = N5 at HI4 o6
      generalize eH : addH h l (thH vv 1) (thL vv 1) = H
      generalize eL : addL l (thL vv 1) = L at HLU
      have HI5 := HI4
      clear eZ eP eN eH eL HI4 HR HB c0 c1 c2 c3 c4 E0 E1 E2 hq hvv hq4 ok RI hz
      obtain ⟨c0, c1, c2, c3, c4⟩ := cell5 row4
      have f0 := frozen_of_row w4 w.heap.size 0 _ _ row4
      have f1 := frozen_of_row w4 w.heap.size 1 _ _ row4
      have f2 := frozen_of_row w4 w.heap.size 2 _ _ row4
      have f3 := frozen_of_row w4 w.heap.size 3 _ _ row4
      have f4 := frozen_of_row w4 w.heap.size 4 _ _ row4
      have n5 := (o5.ne row4 (by decide))
      have n6 := (o6.ne row4 (by decide))
      have OP4 : Hid (∀ v0 v1 v2 v3 v4, OwnB (((((w4.setCell ⟨w.heap.size, 0, none⟩ v0).setCell ⟨w.heap.size, 1, none⟩ v1).setCell ⟨w.heap.size, 2, none⟩ v2).setCell ⟨w.heap.size, 3, none⟩ v3).setCell ⟨w.heap.size, 4, none⟩ v4) 0 (.slice ao5 m5 c5) m5 P5) := fun v0 v1 v2 v3 v4 => ((((((o5.le (Nat.zero_le _)).set n5 _).set n5 _).set n5 _).set n5 _).set n5 _)
      have ON4 : Hid (∀ v0 v1 v2 v3 v4, OwnB (((((w4.setCell ⟨w.heap.size, 0, none⟩ v0).setCell ⟨w.heap.size, 1, none⟩ v1).setCell ⟨w.heap.size, 2, none⟩ v2).setCell ⟨w.heap.size, 3, none⟩ v3).setCell ⟨w.heap.size, 4, none⟩ v4) 0 (.slice ao6 m6 c6) m6 N5) := fun v0 v1 v2 v3 v4 => ((((((o6.le (Nat.zero_le _)).set n6 _).set n6 _).set n6 _).set n6 _).set n6 _)
      have ROW4 : Hid (∀ v0 v1 v2 v3 v4, (((((w4.setCell ⟨w.heap.size, 0, none⟩ v0).setCell ⟨w.heap.size, 1, none⟩ v1).setCell ⟨w.heap.size, 2, none⟩ v2).setCell ⟨w.heap.size, 3, none⟩ v3).setCell ⟨w.heap.size, 4, none⟩ v4).heap[w.heap.size]? = some (.cells #[v0, v1, v2, v3, v4] 32 (0, 0))) := fun v0 v1 v2 v3 v4 => row5 row4
      have BEL4 : Hid (∀ v0 v1 v2 v3 v4, Below w.heap.size w (((((w4.setCell ⟨w.heap.size, 0, none⟩ v0).setCell ⟨w.heap.size, 1, none⟩ v1).setCell ⟨w.heap.size, 2, none⟩ v2).setCell ⟨w.heap.size, 3, none⟩ v3).setCell ⟨w.heap.size, 4, none⟩ v4)) := fun v0 v1 v2 v3 v4 => ((((HB4.out.setCell (Nat.le_refl _) _).setCell (Nat.le_refl _) _).setCell (Nat.le_refl _) _).setCell (Nat.le_refl _) _).setCell (Nat.le_refl _) _
      have OWN4 : Hid (∀ v0 v1 v2 v3 v4, (((((w4.setCell ⟨w.heap.size, 0, none⟩ v0).setCell ⟨w.heap.size, 1, none⟩ v1).setCell ⟨w.heap.size, 2, none⟩ v2).setCell ⟨w.heap.size, 3, none⟩ v3).setCell ⟨w.heap.size, 4, none⟩ v4).ownsRow w.heap.size 2 1 (.slice (some ⟨gl, 0, none⟩) k lc) k (ls.map (Value.int .i64))) := fun v0 v1 v2 v3 v4 => own_set5 HO4.out row4 (by decide)
      clear row4 o5 o6 n5 n6 HO4 HB4
      go_wp2_with fail
      have OP5 := hide (OP4.out (.int .u64 Z) (.slice ao5 m5 c5) (.slice ao6 m6 c6) (.int .i64 H) (.int .u64 L))
      have ON5 := hide (ON4.out (.int .u64 Z) (.slice ao5 m5 c5) (.slice ao6 m6 c6) (.int .i64 H) (.int .u64 L))
      have ROW5 := hide (ROW4.out (.int .u64 Z) (.slice ao5 m5 c5) (.slice ao6 m6 c6) (.int .i64 H) (.int .u64 L))
      have HB5 := hide (BEL4.out (.int .u64 Z) (.slice ao5 m5 c5) (.slice ao6 m6 c6) (.int .i64 H) (.int .u64 L))
      have HO5 := hide (OWN4.out (.int .u64 Z) (.slice ao5 m5 c5) (.slice ao6 m6 c6) (.int .i64 H) (.int .u64 L))
      generalize (((((w4.setCell ⟨w.heap.size, 0, none⟩ (.int .u64 Z)).setCell ⟨w.heap.size, 1, none⟩ (.slice ao5 m5 c5)).setCell ⟨w.heap.size, 2, none⟩ (.slice ao6 m6 c6)).setCell ⟨w.heap.size, 3, none⟩ (.int .i64 H)).setCell ⟨w.heap.size, 4, none⟩ (.int .u64 L)) = w5 at OP5 ON5 ROW5 HB5 HO5 ⊢
      clear OP4 ON4 ROW4 BEL4 OWN4 c0 c1 c2 c3 c4 f0 f1 f2 f3 f4 hap hb4
      obtain ⟨i0, hi, hz0, hz1, hz2⟩ := info_parts infoI64
      have hlc := own_cap HO5.out
      have hlc9 := own_capm HO5.out
      have HL5 : Hid (ls.length = k) := (by have := HO5.out.1; simpa using this : ls.length = k)
      have HAl : Hid (∀ (W : World) o, Below W.heap.size W (W.alloc o)) := fun W o => (Below.refl _ _).alloc (Nat.le_refl _) _
      have HM : Hid ((w5.alloc (.cells #[] 2)).ownsRow w5.heap.size 2 1 (.slice (some ⟨w5.heap.size, 0, none⟩) 0 0) 0 []) := by
        have := World.ownsRow_made (base := w5.heap.size) (e := 2) (size := 1) w5 #[] 0 (by simp) (Nat.zero_le _) rfl
        refine (?_ : (w5.alloc (.cells #[] 2)).ownsRow w5.heap.size 2 1 (.slice (some ⟨w5.heap.size, 0, none⟩) 0 0) 0 [])
        simpa using this
      go_loop [7] (fun kv => ∃ kk : Nat, kk ≤ k ∧ kv = .int .i64 kk ∧ Hid (∀ x ∈ ls.drop kk, vv ≤ x)) (fun kv => (intOf kv).toNat)
      case atStart => exact ⟨k, Nat.le_refl _, rfl, (fun x hx => by rw [List.drop_eq_nil_of_le (by have := HL5.out; omega)] at hx; simp at hx : ∀ x ∈ ls.drop k, vv ≤ x)⟩
      case round =>
        obtain ⟨kk, hkk, rfl, HD⟩ := hrel
        have t2 := HD.out
        clear HD
        rcases Nat.eq_zero_or_pos kk with h0 | h0
        · have t1 : ∀ x ∈ ls.take kk, x ≤ vv := by rw [h0]; simp
          have d0 : decide ((0 : Int) < (kk : Int)) = false := decide_eq_false (by omega)
          have HK0 := hide h0
          have hk0 : ¬ (0 : Int) < (kk : Int) := by omega
          clear h0
          by_cases hcap : kk = lc
          · subst hcap
            have T1 := hide t1
            have T2 := hide t2
            clear t1 t2
            go_wp2_with (first
              | (at_builtin; refine wpList_append_own _ rfl (.tmp 57) (.tmp 60) 49 rfl w5.heap.size 2 i0 (.int .i64 0) 1 8 Try.underlying49 hi hz0 hz1 hz2 rfl (by decide) _ _ _ rfl HM.out ⟨gl, 0, none⟩ kk _ ((ls.take kk).map (Value.int .i64)) rfl (by simp [HL5.out]; omega) (src_take HO5.out (HAl.out _ _)) (oneI _) (by unfold maxLen; omega) (by omega) (by simp) ?_; intro v6 w6 hown6 hgrow6 hnil6; simp only [Nat.zero_add, List.nil_append] at hown6; obtain ⟨g6, c6', hv6⟩ := own_someR hown6 (fun e => by cases (hnil6.1 e).1); subst hv6; have hB6 := app_bel (HAl.out _ _) HM.out hgrow6; have HO6 := hide hown6; have HB6 := hide hB6; have hs6 := hB6.size; clear hown6 hgrow6 hnil6 hB6)
              | (at_builtin; refine wpList_append_own _ rfl (.tmp 62) (.tmp 64) 49 rfl w5.heap.size 2 i0 (.int .i64 0) 1 8 Try.underlying49 hi hz0 hz1 hz2 rfl (by decide) _ _ _ rfl (own_past HO6.out (HAl.out _ _)) ⟨w6.heap.size, 0, none⟩ 1 1 [.int .i64 vv] rfl rfl (src_one _ _ _) (oneI [vv]) (by unfold maxLen; omega) (by omega) (by simp; omega) ?_; intro v7 w7 hown7 hgrow7 hnil7; obtain ⟨g7, c7, hv7⟩ := own_someR hown7 (fun e => by cases (hnil7.1 e).1); subst hv7; have hB7 := app_bel (chain HB6.out (HAl.out _ _)) (own_past HO6.out (HAl.out _ _)) hgrow7; have HO7 := hide hown7; have HB7 := hide hB7; have hs7 := hB7.size; clear hown7 hgrow7 hnil7 hB7)
              | (at_builtin; refine wpList_append_own _ rfl (.tmp 66) (.tmp 69) 49 rfl w5.heap.size 2 i0 (.int .i64 0) 1 8 Try.underlying49 hi hz0 hz1 hz2 rfl (by decide) _ _ _ rfl HO7.out _ _ _ ((ls.drop kk).map (Value.int .i64)) rfl (by rw [List.length_map, List.length_drop, HL5.out]; omega) (by first | exact src_drop HO5.out HB7.out | exact src_drop0 HK0.out HO5.out HB7.out | exact src_none (by have := HL5.out; omega)) (oneI _) (by unfold maxLen; omega) (by omega) (by omega) ?_; intro v8 w8 hown8 hgrow8 hnil8; replace hown8 := own_nR hown8 (n' := k + 1) (by omega); obtain ⟨g8, c8, hv8⟩ := own_someR hown8 (fun e => by cases (hnil8.1 e).1); subst hv8; have hB8 := app_bel HB7.out HO7.out hgrow8; have HO8 := hide hown8; have HB8 := hide hB8; clear hown8 hgrow8 hnil8 hB8))
            all_goals go_roundw
            all_goals first
              | exact ⟨k + 1, Z, H, L, ao5, ao6, m5, c5, m6, c6, g8, c8, P5, N5, ls.take kk ++ vv :: ls.drop kk, by omega, by go_num, rfl, RAt.next HB5.out HB8.out ROW5.out HLU.out (HI5.out _ (ins_place HR5.out.srt T1.out T2.out).2 (ins_place HR5.out.srt T1.out T2.out).1) OP5.out ON5.out (by have := HO8.out; simpa using this)⟩
              | (simp [intOf]; omega)
          · have hcap2 : ¬ lc - kk = 0 := by omega
            have hcap3 : ¬ kk = lc := by omega
            have hcap4 : kk < lc := by omega
            have T1 := hide t1
            have T2 := hide t2
            clear t1 t2
            go_wp2_with (first
              | (at_builtin; refine wpList_append_own _ rfl (.tmp 57) (.tmp 60) 49 rfl w5.heap.size 2 i0 (.int .i64 0) 1 8 Try.underlying49 hi hz0 hz1 hz2 rfl (by decide) _ _ _ rfl HM.out ⟨gl, 0, none⟩ kk _ ((ls.take kk).map (Value.int .i64)) rfl (by simp [HL5.out]; omega) (src_take HO5.out (HAl.out _ _)) (oneI _) (by unfold maxLen; omega) (by omega) (by simp) ?_; intro v6 w6 hown6 hgrow6 hnil6; simp only [Nat.zero_add, List.nil_append] at hown6; obtain ⟨g6, c6', hv6⟩ := own_someR hown6 (fun e => by cases (hnil6.1 e).1); subst hv6; have hB6 := app_bel (HAl.out _ _) HM.out hgrow6; have HO6 := hide hown6; have HB6 := hide hB6; have hs6 := hB6.size; clear hown6 hgrow6 hnil6 hB6)
              | (at_builtin; refine wpList_append_own _ rfl (.tmp 62) (.tmp 64) 49 rfl w5.heap.size 2 i0 (.int .i64 0) 1 8 Try.underlying49 hi hz0 hz1 hz2 rfl (by decide) _ _ _ rfl (own_past HO6.out (HAl.out _ _)) ⟨w6.heap.size, 0, none⟩ 1 1 [.int .i64 vv] rfl rfl (src_one _ _ _) (oneI [vv]) (by unfold maxLen; omega) (by omega) (by simp; omega) ?_; intro v7 w7 hown7 hgrow7 hnil7; obtain ⟨g7, c7, hv7⟩ := own_someR hown7 (fun e => by cases (hnil7.1 e).1); subst hv7; have hB7 := app_bel (chain HB6.out (HAl.out _ _)) (own_past HO6.out (HAl.out _ _)) hgrow7; have HO7 := hide hown7; have HB7 := hide hB7; have hs7 := hB7.size; clear hown7 hgrow7 hnil7 hB7)
              | (at_builtin; refine wpList_append_own _ rfl (.tmp 66) (.tmp 69) 49 rfl w5.heap.size 2 i0 (.int .i64 0) 1 8 Try.underlying49 hi hz0 hz1 hz2 rfl (by decide) _ _ _ rfl HO7.out _ _ _ ((ls.drop kk).map (Value.int .i64)) rfl (by rw [List.length_map, List.length_drop, HL5.out]; omega) (by first | exact src_drop HO5.out HB7.out | exact src_drop0 HK0.out HO5.out HB7.out | exact src_none (by have := HL5.out; omega)) (oneI _) (by unfold maxLen; omega) (by omega) (by omega) ?_; intro v8 w8 hown8 hgrow8 hnil8; replace hown8 := own_nR hown8 (n' := k + 1) (by omega); obtain ⟨g8, c8, hv8⟩ := own_someR hown8 (fun e => by cases (hnil8.1 e).1); subst hv8; have hB8 := app_bel HB7.out HO7.out hgrow8; have HO8 := hide hown8; have HB8 := hide hB8; clear hown8 hgrow8 hnil8 hB8))
            all_goals go_roundw
            all_goals first
              | exact ⟨k + 1, Z, H, L, ao5, ao6, m5, c5, m6, c6, g8, c8, P5, N5, ls.take kk ++ vv :: ls.drop kk, by omega, by go_num, rfl, RAt.next HB5.out HB8.out ROW5.out HLU.out (HI5.out _ (ins_place HR5.out.srt T1.out T2.out).2 (ins_place HR5.out.srt T1.out T2.out).1) OP5.out ON5.out (by have := HO8.out; simpa using this)⟩
              | (simp [intOf]; omega)
        · obtain ⟨j, hj⟩ : ∃ j, kk = j + 1 := ⟨kk - 1, by omega⟩
          have hj1 : (kk : Int) - 1 = (j : Int) := by omega
          obtain ⟨x, hx⟩ : ∃ x, ls[j]? = some x := ⟨ls[j]'(by have := HL5.out; omega), List.getElem?_eq_getElem _⟩
          have hc : w5.cell? ⟨gl, j, none⟩ = some (.int .i64 x) := by
            rw [HO5.out.cellAt j (by omega), List.getElem?_map, hx]; rfl
          have hk0 : (0 : Int) < (kk : Int) := by omega
          have d0 : decide ((0 : Int) < (kk : Int)) = true := decide_eq_true hk0
          by_cases hlt : vv < x
          · have d1 : decide (vv < x) = true := decide_eq_true hlt
            have T3 := hide (drop_ge hx (Int.le_of_lt hlt) (by rw [← hj]; exact t2))
            clear t2 hx hj
            go_wp2
            go_round
            case rel => exact ⟨j, by omega, by first | rfl | go_num, T3⟩
            case measure => simp [intOf]; omega
          · have d1 : decide (vv < x) = false := decide_eq_false hlt
            have t1 : ∀ y ∈ ls.take kk, y ≤ vv := by rw [hj]; exact take_le HR5.out.srt hx (by omega)
            clear hx hj
            by_cases hcap : kk = lc
            · subst hcap
              have T1 := hide t1
              have T2 := hide t2
              clear t1 t2
              go_wp2_with (first
                | (at_builtin; refine wpList_append_own _ rfl (.tmp 57) (.tmp 60) 49 rfl w5.heap.size 2 i0 (.int .i64 0) 1 8 Try.underlying49 hi hz0 hz1 hz2 rfl (by decide) _ _ _ rfl HM.out ⟨gl, 0, none⟩ kk _ ((ls.take kk).map (Value.int .i64)) rfl (by simp [HL5.out]; omega) (src_take HO5.out (HAl.out _ _)) (oneI _) (by unfold maxLen; omega) (by omega) (by simp) ?_; intro v6 w6 hown6 hgrow6 hnil6; simp only [Nat.zero_add, List.nil_append] at hown6; obtain ⟨g6, c6', hv6⟩ := own_someR hown6 (fun e => by cases (hnil6.1 e).1); subst hv6; have hB6 := app_bel (HAl.out _ _) HM.out hgrow6; have HO6 := hide hown6; have HB6 := hide hB6; have hs6 := hB6.size; clear hown6 hgrow6 hnil6 hB6)
                | (at_builtin; refine wpList_append_own _ rfl (.tmp 62) (.tmp 64) 49 rfl w5.heap.size 2 i0 (.int .i64 0) 1 8 Try.underlying49 hi hz0 hz1 hz2 rfl (by decide) _ _ _ rfl (own_past HO6.out (HAl.out _ _)) ⟨w6.heap.size, 0, none⟩ 1 1 [.int .i64 vv] rfl rfl (src_one _ _ _) (oneI [vv]) (by unfold maxLen; omega) (by omega) (by simp; omega) ?_; intro v7 w7 hown7 hgrow7 hnil7; obtain ⟨g7, c7, hv7⟩ := own_someR hown7 (fun e => by cases (hnil7.1 e).1); subst hv7; have hB7 := app_bel (chain HB6.out (HAl.out _ _)) (own_past HO6.out (HAl.out _ _)) hgrow7; have HO7 := hide hown7; have HB7 := hide hB7; have hs7 := hB7.size; clear hown7 hgrow7 hnil7 hB7)
                | (at_builtin; refine wpList_append_own _ rfl (.tmp 66) (.tmp 69) 49 rfl w5.heap.size 2 i0 (.int .i64 0) 1 8 Try.underlying49 hi hz0 hz1 hz2 rfl (by decide) _ _ _ rfl HO7.out _ _ _ ((ls.drop kk).map (Value.int .i64)) rfl (by rw [List.length_map, List.length_drop, HL5.out]; omega) (by first | exact src_drop HO5.out HB7.out | exact src_drop0 HK0.out HO5.out HB7.out | exact src_none (by have := HL5.out; omega)) (oneI _) (by unfold maxLen; omega) (by omega) (by omega) ?_; intro v8 w8 hown8 hgrow8 hnil8; replace hown8 := own_nR hown8 (n' := k + 1) (by omega); obtain ⟨g8, c8, hv8⟩ := own_someR hown8 (fun e => by cases (hnil8.1 e).1); subst hv8; have hB8 := app_bel HB7.out HO7.out hgrow8; have HO8 := hide hown8; have HB8 := hide hB8; clear hown8 hgrow8 hnil8 hB8))
              all_goals go_roundw
              all_goals first
                | exact ⟨k + 1, Z, H, L, ao5, ao6, m5, c5, m6, c6, g8, c8, P5, N5, ls.take kk ++ vv :: ls.drop kk, by omega, by go_num, rfl, RAt.next HB5.out HB8.out ROW5.out HLU.out (HI5.out _ (ins_place HR5.out.srt T1.out T2.out).2 (ins_place HR5.out.srt T1.out T2.out).1) OP5.out ON5.out (by have := HO8.out; simpa using this)⟩
                | (simp [intOf]; omega)
            · have hcap2 : ¬ lc - kk = 0 := by omega
              have hcap3 : ¬ kk = lc := by omega
              have hcap4 : kk < lc := by omega
              have T1 := hide t1
              have T2 := hide t2
              clear t1 t2
              go_wp2_with (first
                | (at_builtin; refine wpList_append_own _ rfl (.tmp 57) (.tmp 60) 49 rfl w5.heap.size 2 i0 (.int .i64 0) 1 8 Try.underlying49 hi hz0 hz1 hz2 rfl (by decide) _ _ _ rfl HM.out ⟨gl, 0, none⟩ kk _ ((ls.take kk).map (Value.int .i64)) rfl (by simp [HL5.out]; omega) (src_take HO5.out (HAl.out _ _)) (oneI _) (by unfold maxLen; omega) (by omega) (by simp) ?_; intro v6 w6 hown6 hgrow6 hnil6; simp only [Nat.zero_add, List.nil_append] at hown6; obtain ⟨g6, c6', hv6⟩ := own_someR hown6 (fun e => by cases (hnil6.1 e).1); subst hv6; have hB6 := app_bel (HAl.out _ _) HM.out hgrow6; have HO6 := hide hown6; have HB6 := hide hB6; have hs6 := hB6.size; clear hown6 hgrow6 hnil6 hB6)
                | (at_builtin; refine wpList_append_own _ rfl (.tmp 62) (.tmp 64) 49 rfl w5.heap.size 2 i0 (.int .i64 0) 1 8 Try.underlying49 hi hz0 hz1 hz2 rfl (by decide) _ _ _ rfl (own_past HO6.out (HAl.out _ _)) ⟨w6.heap.size, 0, none⟩ 1 1 [.int .i64 vv] rfl rfl (src_one _ _ _) (oneI [vv]) (by unfold maxLen; omega) (by omega) (by simp; omega) ?_; intro v7 w7 hown7 hgrow7 hnil7; obtain ⟨g7, c7, hv7⟩ := own_someR hown7 (fun e => by cases (hnil7.1 e).1); subst hv7; have hB7 := app_bel (chain HB6.out (HAl.out _ _)) (own_past HO6.out (HAl.out _ _)) hgrow7; have HO7 := hide hown7; have HB7 := hide hB7; have hs7 := hB7.size; clear hown7 hgrow7 hnil7 hB7)
                | (at_builtin; refine wpList_append_own _ rfl (.tmp 66) (.tmp 69) 49 rfl w5.heap.size 2 i0 (.int .i64 0) 1 8 Try.underlying49 hi hz0 hz1 hz2 rfl (by decide) _ _ _ rfl HO7.out _ _ _ ((ls.drop kk).map (Value.int .i64)) rfl (by rw [List.length_map, List.length_drop, HL5.out]; omega) (by first | exact src_drop HO5.out HB7.out | exact src_drop0 HK0.out HO5.out HB7.out | exact src_none (by have := HL5.out; omega)) (oneI _) (by unfold maxLen; omega) (by omega) (by omega) ?_; intro v8 w8 hown8 hgrow8 hnil8; replace hown8 := own_nR hown8 (n' := k + 1) (by omega); obtain ⟨g8, c8, hv8⟩ := own_someR hown8 (fun e => by cases (hnil8.1 e).1); subst hv8; have hB8 := app_bel HB7.out HO7.out hgrow8; have HO8 := hide hown8; have HB8 := hide hB8; clear hown8 hgrow8 hnil8 hB8))
              all_goals go_roundw
              all_goals first
                | exact ⟨k + 1, Z, H, L, ao5, ao6, m5, c5, m6, c6, g8, c8, P5, N5, ls.take kk ++ vv :: ls.drop kk, by omega, by go_num, rfl, RAt.next HB5.out HB8.out ROW5.out HLU.out (HI5.out _ (ins_place HR5.out.srt T1.out T2.out).2 (ins_place HR5.out.srt T1.out T2.out).1) OP5.out ON5.out (by have := HO8.out; simpa using this)⟩
                | (simp [intOf]; omega)
    · obtain rfl : k = 20 := by omega
      have RI := hR.inv
      have hz : U64 z := by have := RI.z0; have := RI.small.1; unfold U64; omega
      have lP : pn ≤ 20 := by rw [hR.oP.1]; exact RI.lP
      have lN : nn ≤ 20 := by rw [hR.oN.1]; exact RI.lN
      have hok := RI.ok (by omega)
      have KP := hide hok.1
      have KN := hide hok.2
      have HW := hide (show skW z P N = 20 from RI.weight (by omega))
      have HO := hide (show skR z P N 20 = 0 from RI.over (by omega))
      have HI := hide RI
      have K1 : SkCell wr w.heap.size z (.slice pa pn pc) (.slice na nn nc) h l := cell5 hR.row
      clear hR hok RI hk hk20
      go_wp2_with fail
      refine (c_i_SketchWeight hz HR.out.oP.1.symm HR.out.oN.1.symm (by omega) (by omega) HR.out.oP.at HR.out.oN.at KP.out KN.out).mono ?_
      rintro e w1 ⟨rfl, hb1⟩
      rw [HW.out]
      have K2 := sk_past K1 hb1
      have HB1 := hide hb1
      clear hb1 K1
      go_wp2_with fail
      refine (c_i_SketchRank hz (by unfold U64; omega) HR.out.oP.1.symm HR.out.oN.1.symm (by omega) (by omega) (HR.out.oP.past HB1.out).at (HR.out.oN.past HB1.out).at KP.out KN.out).mono ?_
      rintro e w2 ⟨rfl, hb2⟩
      rw [HO.out]
      have K3 := sk_past K2 hb2
      have HB2 := hide (chain HB1.out hb2)
      clear hb2 K2
      go_wp2
      go_loopw [9] (fun i wr' => ∃ j : Nat, j ≤ 20 ∧ i = .int .i64 j ∧ Below w2.heap.size w2 wr') (fun i wr' => 20 - (intOf i).toNat)
      case atStart => exact ⟨0, Nat.zero_le _, rfl, Below.refl _ _⟩
      case round =>
        obtain ⟨j, hj, rfl, hbj⟩ := hrel
        have HBJ := hide hbj
        by_cases hj20 : j < 20
        · have K4 := sk_past K3 hbj
          clear hbj
          obtain ⟨x, hx⟩ : ∃ x, ls[j]? = some x := ⟨ls[j]'(by have := HI.out.len; omega), List.getElem?_eq_getElem _⟩
          have HX := hide (HI.out.rank (by omega) hx)
          have hxb := HI.out.bd x (List.mem_of_getElem? hx)
          obtain ⟨b1, b2, b3, b4⟩ := fv_same hxb
          have HOJ := hide (own_past HR.out.own (chain HB2.out HBJ.out))
          have HCJ := hide (show wr.cell? ⟨gl, j, none⟩ = some (.int .i64 x) by rw [HOJ.out.cellAt j (by omega), List.getElem?_map, hx]; rfl)
          have hlc := own_cap HOJ.out
          obtain ⟨y, hy⟩ : ∃ y, fv x = y := ⟨_, rfl⟩
          rw [hy] at HX b1 b2 b3 b4
          obtain ⟨x1, x2⟩ := hxb
          obtain ⟨y1, y2⟩ := b4
          clear hx hy
          go_wp2_with fail
          refine (c_i_SketchRank hz (by unfold U64; omega) HR.out.oP.1.symm HR.out.oN.1.symm (by omega) (by omega) (HR.out.oP.past (chain HB2.out HBJ.out)).at (HR.out.oN.past (chain HB2.out HBJ.out)).at KP.out KN.out).mono ?_
          rintro e w3 ⟨rfl, hb3⟩
          rw [HX.out]
          have hc := cell_past hb3 HCJ.out
          have HB3 := hide (chain HBJ.out hb3)
          clear hb3 K4
          go_wp2
          go_quiet (first | (go_at_call 28; refine Calls.quiet_of_same (c_s_BinOf _ _ (by unfold I64; omega))))
          go_wp2
          go_roundw
          case rel => exact ⟨j + 1, by omega, by go_num, bel_drews HB3.out _⟩
          case measure => simp [intOf]; omega
        · clear hbj
          go_wp2
          go_ret
          exact ⟨rfl, chain (chain HR.out.bel HB2.out) HBJ.out⟩
theorem own : ownKnob Try.prog.godebug = none := by kernel_rfl
theorem laidOut : laidOutB Try.prog = true := by kernel_rfl

set_option maxRecDepth 100000 in
theorem liftedRank (os : Os) (started : os.Started) (H : Type) (enc : TypeId × Value → H) :
    ReturnsInHanded {} Try.checked os 6 .any (Rows.fnRankSpec.pre6 enc Try.prog Try.f6 Rows.fnRankRow.domain false) (Rows.fnRankSpec.post enc Try.prog Try.f6 false true false false) := by
  refine returnsInHanded_of_change (C := Try.checked) own started (by kernel_rfl) Try.func6
    (ChangeSpec.witness6 (enc := enc) (C := Try.checked) false ⟨#[], #[.slice none 0 0], []⟩ 8 (by kernel_rfl) (by kernel_rfl) (by kernel_rfl) (by kernel_rfl)) ?_
  intro W base args ds gs before hval0 hW hcnd _
  have hval : ∀ (j : Nat) t v, Try.f6.params[j]? = some t → args[j]? = some v → Value.okWide Try.prog W .any base t v := hval0
  have hW' := hW
  obtain ⟨p, q, hA0, hV, rfl, hfz, hnd⟩ := hW
  have hA : DataW.TrodAll enc Try.prog W 0 (fun _ => true) true Try.f6.params.toList args.toList ds p := hA0
  rw [Try.params6] at hA hval
  obtain ⟨v0, vs0, d0, ds0, p0, q0, hargs, rfl, rfl, h0, r0⟩ := trodAll_cons hA
  obtain ⟨rfl, rfl, rfl⟩ := trodAll_nil r0
  obtain rfl : args = #[v0] := by cases args; simp_all
  obtain ⟨rfl, rfl⟩ := trodVars_none hV
  have k0 := h0
  have lt0 : ∀ x ∈ p0, x.block < W.heap.size := by obtain ⟨m, hm⟩ := k0; exact DataW.trod_lt m _ _ _ hm
  obtain ⟨a0, n0, c0, rfl, m0, s0⟩ := open_code (hval 0 38 v0 rfl rfl) h0
  clear hA0 hval0
  refine (walkRank a0 n0 c0 W m0 s0).mono fun e W' ⟨he, bel⟩ => ?_
  subst he
  exact ⟨_, rfl, _, _, _, [], _, [], hW', trodAll_mk1 (shut_bool Try.underlying4 _), (trodAll_cons_mk (Below.trod laidOut (by kernel_rfl) (of_decide_eq_true (by kernel_rfl)) k0 bel lt0) trodAll_mk0), rfl, bel.frame _, fun h => by cases h⟩

theorem overRank : Rows.fnRankRow.holds Try.pinned (OpenSpec.ofChange Rows.fnRankSpec) :=
  OpenClaim.holds_of_wide 6 Try.f6 rfl rfl rfl rfl rfl rfl rfl ⟨rfl, rfl, rfl, rfl, rfl⟩ rfl rfl rfl rfl rfl (by kernel_rfl) Try.func6 (by kernel_rfl)
    (of_decide_eq_true (by kernel_rfl)) (by unfold Func.isWrapper; first | (rw [if_pos (by decide +kernel)]; kernel_rfl) | (rw [if_neg (by decide +kernel)]; exact ⟨rfl, rfl⟩))
    (fun os started H enc _ => liftedRank os started H enc)

theorem fnRank_holds : Rows.FnRankSaid := overRank
#print axioms fnRank_holds

end Go.Proofs.Ytjpjjofjjejckaa
