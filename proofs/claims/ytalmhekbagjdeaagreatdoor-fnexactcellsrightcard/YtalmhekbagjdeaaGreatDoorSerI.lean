/-
  The program's series: the tags stand in a map, and are told in order.
-/
import Derived.Test.YtalmhekbagjdeaaGreatDoorSerS
import Derived.Test.YtalmhekbagjdeaaGreatDoorShelf
import Derived.Test.YtalmhekbagjdeaaGreatDoorKeepK
import Derived.Sort.EveryDepth
namespace Go.Proofs.YtalmhekbagjdeaaGreatDoor
set_option linter.unusedVariables false
set_option linter.unusedSimpArgs false
open Go.ChangeShapes Go.WideShapes Go.ChangeAt Go.RowKit Go.PlainAid Go.Shelf Go.Sort
set_option maxRecDepth 10000

/-- slices.Sort at texts, as slices.Sorted asks it. -/
theorem sortsT (m : Nat) : AnyZ.SortsIn Tryz.prog Tryz.sortedT_ren Fence.wide m :=
  ⟨fun blk off cap ss W hH hblk hsz => callsIn_wide.2 (AnyM.slices_Sort_string Tryz.sortT blk off cap ss W hH hblk hsz), fun p cap W => callsIn_wide.2 (AnyM.slices_Sort_string_none Tryz.sortT p cap W)⟩
theorem c_keysT (mb : Option Nat) (W : World) : Calls Tryz.prog 110 #[.map mb] W fun e w' => e = .returned (.func (.func 142) #[] #[.pointer (some ⟨W.heap.size, 0, none⟩)]) ∧ w' = W.alloc (.cells #[.map mb] 148) :=
  callsIn_wide.1 (AnyZ.keys_in Tryz.keysT Fence.wide 5 trivial rfl mb W)
theorem setT_keys {w : World} {b n : Nat} {R : Value → Option (DataW Unit × List MemPlace)} {L : List ByteArray} (h : w.ownsMap Tryz.prog 9 R b n (setT L)) : ∃ es, setT L = .map es ∧ ∀ p ∈ es, ∃ x, p.1 = Lit.string x := by
  obtain ⟨es, e, hk⟩ := h.keysOf
  exact ⟨es, e, fun p hp => by obtain ⟨v, hv⟩ := hk p hp; obtain ⟨x, _, hx, _⟩ := Go.Maps.keyOf_str Tryz.underlying9 hv; exact ⟨x, hx⟩⟩
theorem map_enc (K : List ByteArray) : (K.map toL).map encStr = K.map Value.string := by
  rw [List.map_map]
  refine List.map_congr_left (fun x _ => ?_)
  show encStr (toL x) = .string x
  unfold encStr
  rw [mk_toL]
set_option maxHeartbeats 1000000 in
/-- The tags in order, each once. -/
theorem c_sortedT {L : List ByteArray} (b nn g : Nat) (w : World) (hg : w.heap.size = g) (hown : w.ownsMap Tryz.prog 9 (unitElem (H := Unit)) b nn (setT L)) (hl : L.length ≤ 100000) :
    Calls Tryz.prog 109 #[.func (.func 142) #[] #[.pointer (some ⟨g, 0, none⟩)]] (w.alloc (.cells #[.map (some b)] 148)) fun e w' => ∃ v, e = .returned v ∧ OwnT w' 0 v (serK L) ∧ Below w.heap.size w w' := by
  subst hg
  have hbl := hown.lt
  have hk := setT_keys hown
  have hsz : Go.Maps.size (setT L) ≤ 100000 := by
    have h := (keys_sorted hk (keys_perm L hk).symm.symm).2.2
    have := serK_len L
    omega
  have hseq : SeqGives Fence.wide 2 Tryz.prog 142 #[.pointer (some ⟨w.heap.size, 0, none⟩)] encStr (fun ss => ss.Perm (Go.strKeys (setT L))) (Go.Maps.size (setT L)) (w.alloc (.cells #[.map (some b)] 148)) :=
    AnyZ.keys_gives (ρ := Tryz.keysT_ren) { Tryz.keysT with } Fence.wide _ trivial rfl (by omega) w.heap.size b nn (setT L) _ (by simp) (by simp) (hown.alloc _)
  have hc := callsIn_wide.1 (AnyZ.sorted_in Tryz.sortedT Fence.wide 5 trivial trivial trivial trivial rfl (by omega) (sortsT _) (enters_of Tryz.func141 (by kernel_rfl) rfl) 142 #[.pointer (some ⟨w.heap.size, 0, none⟩)] trivial (enters_of Tryz.func142 (by kernel_rfl) rfl) _ (Go.Maps.size (setT L)) (by unfold maxLen; omega) (by omega) _ hseq)
  refine hc.mono ?_
  rintro e w' ⟨v, ss, rfl, hS, hrow, hnil, hb⟩
  obtain ⟨h1, h2, _⟩ := keys_sorted hk hS
  refine ⟨v, rfl, ?_, ((Below.refl _ _).alloc (Nat.le_refl _) _).trans (hb.mono (by simp))⟩
  have h1 : ss.mergeSort (fun x y => decide (x ≤ y)) = (serK L).map toL := h1
  rw [h1, map_enc, h2] at hrow
  exact own_le' hrow (Nat.zero_le _)
set_option maxHeartbeats 1000000 in
theorem c_joinT {w : World} {B m c : Nat} {ao : Option Addr} {K : List ByteArray} (hm : K.length = m) (ho : OwnT w B (.slice ao m c) K) (hl : m ≤ 100000) (hu : ∀ x ∈ K, x.size ≤ 20) :
    Calls Tryz.prog 108 #[.slice ao m c, .string ⟨#[44]⟩] w fun e w' => e = .returned (.string ⟨(joinT K).toArray⟩) ∧ Below w.heap.size w w' := by
  have hj := joinT_len hu
  have ho2 := ho
  rcases ho2.2 with ⟨e, h0⟩ | ⟨g, cap, cur, e, hB, hg, hnc, _⟩
  · cases e
    obtain rfl : K = [] := List.eq_nil_of_length_eq_zero h0
    exact (Tryz.strings_Join_none none 0 ⟨#[44]⟩ w).mono (fun e w' h => ⟨by rw [h.1]; rfl, h.2 ▸ Below.refl _ _⟩)
  · cases e
    refine (Tryz.strings_Join g 0 c K ⟨#[44]⟩ w (fun j x hx => ?_) (Array.getElem?_eq_some_iff.1 hg).1 (by omega) hnc (by show (joinT K).length ≤ _; omega)).mono (fun e w' h => ⟨by rw [h.1]; rfl, h.2⟩)
    have := (strs_owned ho) (by have := (List.getElem?_eq_some_iff.1 hx).1; omega)
    obtain ⟨b', off', e', hc⟩ := this
    cases e'
    exact hc j x hx
end Go.Proofs.YtalmhekbagjdeaaGreatDoor
