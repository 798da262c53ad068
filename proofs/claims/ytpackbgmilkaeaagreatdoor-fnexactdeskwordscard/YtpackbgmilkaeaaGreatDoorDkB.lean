/-
  DeskWords of the program.
-/
import Derived.Test.YtpackbgmilkaeaaGreatDoorDkA
import Derived.Test.YtpackbgmilkaeaaGreatDoorShelf
import Derived.Test.YtpackbgmilkaeaaGreatDoorKeepK
namespace Go.Proofs.YtpackbgmilkaeaaGreatDoor
set_option linter.unusedVariables false
set_option linter.unusedSimpArgs false
open Go.ChangeShapes Go.WideShapes Go.ChangeAt Go.RowKit Go.PlainAid Go.Shelf Go.Sort
set_option maxRecDepth 10000

/-- slices.Sort at texts, as slices.Sorted asks it. -/
theorem sortsW (m : Nat) : AnyZ.SortsIn Tryz.prog Tryz.sortedT_ren Fence.wide m :=
  ⟨fun blk off cap ss W hH hblk hsz => callsIn_wide.2 (AnyM.slices_Sort_string Tryz.sortT blk off cap ss W hH hblk hsz), fun p cap W => callsIn_wide.2 (AnyM.slices_Sort_string_none Tryz.sortT p cap W)⟩
theorem c_keysW (mb : Option Nat) (W : World) : Calls Tryz.prog 10 #[.map mb] W fun e w' => e = .returned (.func (.func 15) #[] #[.pointer (some ⟨W.heap.size, 0, none⟩)]) ∧ w' = W.alloc (.cells #[.map mb] 31) :=
  callsIn_wide.1 (AnyZ.keys_in Tryz.keysT Fence.wide 5 trivial rfl mb W)
theorem setW_keys {w : World} {b n : Nat} {R : Value → Option (DataW Unit × List MemPlace)} {L : List ByteArray} (h : w.ownsMap Tryz.prog 9 R b n (setT L)) : ∃ es, setT L = .map es ∧ ∀ p ∈ es, ∃ x, p.1 = Lit.string x := by
  obtain ⟨es, e, hk⟩ := h.keysOf
  exact ⟨es, e, fun p hp => by obtain ⟨v, hv⟩ := hk p hp; obtain ⟨x, _, hx, _⟩ := Go.Maps.keyOf_str Tryz.underlying9 hv; exact ⟨x, hx⟩⟩
theorem mapW_enc (K : List ByteArray) : (K.map toL).map encStr = K.map Value.string := by
  rw [List.map_map]
  refine List.map_congr_left (fun x _ => ?_)
  show encStr (toL x) = .string x
  unfold encStr
  rw [mk_toL]
set_option maxHeartbeats 1000000 in
theorem c_sortedW {L : List ByteArray} {R : Value → Option (DataW Unit × List MemPlace)} (b nn g : Nat) (w : World) (hg : w.heap.size = g) (hown : w.ownsMap Tryz.prog 9 R b nn (setT L)) (hl : L.length ≤ 100000) :
    Calls Tryz.prog 9 #[.func (.func 15) #[] #[.pointer (some ⟨g, 0, none⟩)]] (w.alloc (.cells #[.map (some b)] 31)) fun e w' => ∃ v, e = .returned v ∧ OwnT w' w.heap.size v (serK L) ∧ Below w.heap.size w w' := by
  subst hg
  have hbl := hown.lt
  have hk := setW_keys hown
  have hsz : Go.Maps.size (setT L) ≤ 100000 := by
    have h := (keys_sorted hk (keys_perm L hk).symm.symm).2.2
    have := serK_len L
    omega
  have hseq : SeqGives Fence.wide 2 Tryz.prog 15 #[.pointer (some ⟨w.heap.size, 0, none⟩)] encStr (fun ss => ss.Perm (Go.strKeys (setT L))) (Go.Maps.size (setT L)) (w.alloc (.cells #[.map (some b)] 31)) :=
    AnyZ.keys_gives (ρ := Tryz.keysT_ren) { Tryz.keysT with } Fence.wide _ trivial rfl (by omega) w.heap.size b nn (setT L) _ (by simp) (by simp) (hown.alloc _)
  have hc := callsIn_wide.1 (AnyZ.sorted_in Tryz.sortedT Fence.wide 5 trivial trivial trivial trivial rfl (by omega) (sortsW _) (enters_of Tryz.func14 (by kernel_rfl) rfl) 15 #[.pointer (some ⟨w.heap.size, 0, none⟩)] trivial (enters_of Tryz.func15 (by kernel_rfl) rfl) _ (Go.Maps.size (setT L)) (by unfold maxLen; omega) (by omega) _ hseq)
  refine hc.mono ?_
  rintro e w' ⟨v, ss, rfl, hS, hrow, hnil, hb⟩
  obtain ⟨h1, h2, _⟩ := keys_sorted hk hS
  refine ⟨v, rfl, ?_, ((Below.refl _ _).alloc (Nat.le_refl _) _).trans (hb.mono (by simp))⟩
  have h1 : ss.mergeSort (fun x y => decide (x ≤ y)) = (serK L).map toL := h1
  rw [h1, mapW_enc, h2] at hrow
  exact own_le' hrow (by simp)
def cmdL : List ByteArray := [⟨#[112, 117, 116]⟩, ⟨#[106, 111, 105, 110]⟩, ⟨#[108, 101, 97, 118, 101]⟩, ⟨#[116, 105, 99, 107]⟩, ⟨#[99, 108, 111, 115, 101]⟩, ⟨#[119, 104, 101, 114, 101]⟩, ⟨#[114, 97, 110, 107]⟩, ⟨#[109, 97, 110, 121]⟩, ⟨#[116, 111, 112]⟩]
theorem cmdD_set : cmdD (fun _ _ => .agg []) = setT cmdL := rfl
theorem cmdL_ser : serK cmdL = wordsK := by kernel_rfl
set_option maxHeartbeats 1000000 in
theorem c_i_DeskWords (w : World) : Calls Tryz.prog 5 #[] w fun e w' => ∃ v, e = .returned v ∧ OwnT w' w.heap.size v wordsK ∧ Below w.heap.size w w' := by
  go_enter Tryz.func5, Tryz.ntmps5
  go_wp2_with fail
  refine (c_commandsByWord (fun _ => some (.agg [], [])) (fun _ _ => .agg []) (fun _ _ _ => rfl) w).mono ?_
  rintro e w1 ⟨rfl, hown, hb1⟩
  rw [cmdD_set] at hown
  have HO := hide hown
  have HB1 := hide hb1
  clear hown hb1
  go_wp2_with fail
  refine (c_keysW _ _).mono ?_
  rintro e w2 ⟨rfl, hw2⟩
  subst hw2
  go_wp2_with fail
  refine (c_sortedW _ _ _ w1 rfl HO.out (by decide)).mono ?_
  rintro e w3 ⟨v, rfl, ho3, hb3⟩
  have HO3 := hide ho3
  have HB3 := hide hb3
  clear ho3 hb3
  go_wp2
  go_ret
  refine ⟨v, rfl, ?_, chain HB1.out HB3.out⟩
  have q := HO3.out
  rw [cmdL_ser] at q
  exact own_le' q HB1.out.size
end Go.Proofs.YtpackbgmilkaeaaGreatDoor
