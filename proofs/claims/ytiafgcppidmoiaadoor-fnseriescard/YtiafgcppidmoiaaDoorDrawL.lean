/-
  A drawn name with tags.
-/
import Derived.Test.YtiafgcppidmoiaaDoorDrawN
import Derived.Test.YtiafgcppidmoiaaDoorSerO
import Derived.Test.YtiafgcppidmoiaaDoorDecC
namespace Go.Proofs.YtiafgcppidmoiaaDoor
set_option linter.unusedVariables false
set_option linter.unusedSimpArgs false
open Go.ChangeShapes Go.WideShapes Go.ChangeAt Go.RowKit Go.PlainAid
set_option maxRecDepth 10000

set_option maxHeartbeats 1000000 in
theorem c_d_l06Tag {W w : World} {B ln cap s : Nat} {ao : Option Addr} (hc : CodeAt W B ao ln) (h : Src W B ao ln cap s w) :
    Calls Tryd.prog 29 #[.pointer (some ⟨s, 0, none⟩)] w fun e w' => ∃ u, e = .returned (.string u) ∧ u.size ≤ 21 ∧ Src W B ao ln cap s w' ∧ w.grownBy w' (some s) := by
  go_enter Tryd.func29, Tryd.ntmps29
  go_wp2_with fail
  refine (c_one hc h _ (by omega)).mono ?_
  rintro e w1 ⟨bb, rfl, hS1, hg1⟩
  cases bb <;>
  · go_wp2_with (go_at_call 27; refine (c_pick_lit hc hS1 21 (by rfl) (by omega) (by omega) (by decide)).mono ?_; rintro e w2 ⟨u, rfl, hu, hS2, hg2⟩)
    go_ret
    exact ⟨u, rfl, hu, hS2, hg1.trans hg2⟩
/-- The tags drawn so far. -/
structure DL (W : World) (B : Nat) (ao : Option Addr) (ln cap s : Nat) (w wr : World) (v : Value) (L : List ByteArray) : Prop where
  own : OwnT wr w.heap.size v L
  sz : ∀ u ∈ L, u.size ≤ 40
  src : Src W B ao ln cap s wr
  gr : w.grownBy wr (some s)
section
variable {W : World} {B ln cap s : Nat} {ao : Option Addr} {w wr : World} {v : Value} {L : List ByteArray}
theorem DL.step (h : DL W B ao ln cap s w wr v L) (hs : s < w.heap.size) {w1 : World} (hS : Src W B ao ln cap s w1) (hg : wr.grownBy w1 (some s)) : DL W B ao ln cap s w w1 v L := by
  refine ⟨World.ownsRow.kept h.own hg ?_, h.sz, hS, h.gr.trans hg⟩
  cases e : v.ownBlock with
  | none => exact .inl rfl
  | some k => exact .inr (fun q => by have := (World.ownsRow.lt h.own k e).1; cases q; omega)
theorem DL.past (h : DL W B ao ln cap s w wr v L) (hs : s < w.heap.size) {w1 : World} (hb : Below wr.heap.size wr w1) : DL W B ao ln cap s w w1 v L :=
  h.step hs (src_past h.src hb) ⟨hb.os, hb.tape, hb.output, hb.size, fun j hj _ => hb.block j hj⟩
theorem DL.app (h : DL W B ao ln cap s w wr v L) (hs : s < w.heap.size) {w1 : World} {v' : Value} {u : ByteArray} (hu : u.size ≤ 40) {n : Nat} (ho : w1.ownsRow w.heap.size 9 1 v' n (L.map Value.string ++ [.string u])) (hg : wr.grownBy w1 v.ownBlock) : DL W B ao ln cap s w w1 v' (L ++ [u]) := by
  have bel : Below w.heap.size wr w1 := ⟨hg.os, hg.tape, hg.output, hg.size, fun j hj => hg.block j (by have := h.gr.size; omega) (fun e => by have := (World.ownsRow.lt h.own j e.symm).1; omega)⟩
  refine ⟨OwnT.of ho (by simp), fun x hx => ?_, ?_, ?_⟩
  · rcases List.mem_append.1 hx with hx | hx
    · exact h.sz x hx
    · obtain rfl := List.mem_singleton.1 hx; exact hu
  · obtain ⟨x, m, y, h0, h1, h2⟩ := h.src.blk
    exact ⟨h.src.bel.trans (bel.mono (Nat.le_trans h.src.hB (Nat.le_of_lt hs))), h.src.hB, x, m, y, by rw [bel.block s hs]; exact h0, h1, h2⟩
  · exact ⟨hg.os.trans h.gr.os, hg.tape.trans h.gr.tape, hg.output.trans h.gr.output, Nat.le_trans h.gr.size hg.size, fun j hj hne => by rw [bel.block j hj]; exact h.gr.block j hj hne⟩
end
theorem c_decT (N : Nat) (hN : N ≤ 1000) (w : World) : Calls Tryd.prog 31 #[.int .i64 N] w fun e w' => ∃ u, e = .returned (.string u) ∧ u.size ≤ 30 ∧ Below w.heap.size w w' := by
  by_cases h0 : N = 0
  · subst h0
    go_enter Tryd.func31, Tryd.ntmps31
    go_wp2
    go_ret
    exact ⟨_, rfl, by decide, Below.refl _ _⟩
  · refine (c_l01Dec_pos N h0 (by omega) w).mono ?_
    rintro e w' ⟨rfl, hb⟩
    refine ⟨_, rfl, ?_, hb⟩
    rw [← toL_len, toL_mk, Lib.decDigits_length]
    have := Lib.nDigits_le20 N (by omega)
    omega
/-- What a drawn name with tags is. -/
def DrawnSer (w : World) (e : Ending) (w' : World) : Prop := ∃ name ao n c L, e = .returned (.tuple #[.string name, .slice ao n c]) ∧ L.length = n ∧ n ≤ 40 ∧ OwnT w' 0 (.slice ao n c) L ∧ (∀ u ∈ L, u.size ≤ 40) ∧ name.size ≤ 40 ∧ Below w.heap.size w w'
set_option maxHeartbeats 2000000 in
theorem c_DrawSeriesOf {w : World} {ln cap : Nat} {ao : Option Addr} (hc : CodeAt w w.heap.size ao ln) :
    Calls Tryd.prog 12 #[.slice ao ln cap] w fun e w' => DrawnSer w e w' := by
  obtain ⟨i0, hi, hz0, hz1, hz2⟩ := info_parts infoStr
  have HC := hide hc
  clear hc
  go_enter Tryd.func12, Tryd.ntmps12
  go_wp2_with fail
  refine (c_source_at (K := w.heap.size) _ _ _ _ rfl HC.out).mono ?_
  rintro e w1 ⟨rfl, hS1⟩
  have hlt1 := src_lt hS1
  have HS := hide hS1
  clear hS1
  go_wp2_with fail
  refine (c_pick_lit HC.out HS.out 40 (by rfl) (by omega) (by omega) (by decide)).mono ?_
  rintro e w2 ⟨name, rfl, hnm, hS2, hg2⟩
  have hlt2 : w.heap.size < w2.heap.size := Nat.lt_of_lt_of_le hlt1 hg2.size
  replace HS := hide hS2
  clear hS2 hg2 hlt1
  go_wp2_with fail
  refine (c_n HC.out (src_past HS.out ((Below.refl _ _).alloc (Nat.le_refl _) (.cells #[] 9))) _ (by omega)).mono ?_
  rintro e w3 ⟨kk, rfl, k0, k1, _, hS3, hg3⟩
  have k1 := k1 (by omega)
  have D0 : DL w w.heap.size ao ln cap w.heap.size w2 w3 (.slice (some ⟨w2.heap.size, 0, none⟩) 0 0) [] := by
    have O0 : OwnT (w2.alloc (.cells #[] 9)) w2.heap.size (.slice (some ⟨w2.heap.size, 0, none⟩) 0 0) [] := World.ownsRow_made w2 #[] 0 (Nat.le_refl _) (Nat.zero_le _) rfl
    have D1 : DL w w.heap.size ao ln cap w.heap.size w2 (w2.alloc (.cells #[] 9)) (.slice (some ⟨w2.heap.size, 0, none⟩) 0 0) [] := ⟨O0, fun u hu => absurd hu List.not_mem_nil, src_past HS.out ((Below.refl _ _).alloc (Nat.le_refl _) _), World.grownBy_alloc _ _ _⟩
    exact D1.step hlt2 hS3 hg3
  have HD0 := hide D0
  have HB2 := hide HS.out.bel
  clear D0 hS3 hg3 HS
  obtain ⟨kn, rfl⟩ := Int.eq_ofNat_of_zero_le k0
  have hk6 : kn < 6 := by omega
  clear k0 k1
  go_wp2_with fail
  go_loopw [6, 7] (fun lv kv wr => ∃ (j : Nat) (lo : Option Addr) (n lc : Nat) (L : List ByteArray), kv = .int .i64 j ∧ j ≤ 6 ∧ lv = .slice lo n lc ∧ n + j ≤ 6 ∧ Hid (L.length = n ∧ DL w w.heap.size ao ln cap w.heap.size w2 wr (.slice lo n lc) L)) (fun lv kv wr => (RowKit.intOf kv).toNat)
  case atStart => exact ⟨kn, _, 0, 0, [], rfl, by omega, rfl, by omega, ⟨rfl, HD0.out⟩⟩
  case round =>
    clear HD0
    obtain ⟨j, lo, n, lc, L, rfl, hj, rfl, hnj, HD⟩ := hrel
    rcases Nat.eq_zero_or_pos j with h0 | h0
    · subst h0
      go_wp2_with fail
      refine (c_one HC.out HD.out.2.src _ (by omega)).mono ?_
      rintro e w4 ⟨bb, rfl, hS4, hg4⟩
      replace HD : Hid (L.length = n ∧ DL w w.heap.size ao ln cap w.heap.size w2 w4 (.slice lo n lc) L) := (⟨HD.out.1, HD.out.2.step hlt2 hS4 hg4⟩ : L.length = n ∧ DL w w.heap.size ao ln cap w.heap.size w2 w4 (.slice lo n lc) L)
      clear hS4 hg4
      cases bb with
      | false =>
        go_wp2
        go_ret2
        exact ⟨name, lo, n, lc, L, rfl, HD.out.1, by omega, own_le' HD.out.2.own (Nat.zero_le _), HD.out.2.sz, hnm, HD.out.2.src.bel⟩
      | true =>
        go_wp2_with fail
        have hn6 : n ≤ 11 := by omega
        clear hnj hj
        go_loopw [6, 8] (fun lv iv wr => ∃ (i : Nat) (lo : Option Addr) (n lc : Nat) (L : List ByteArray), iv = .int .i64 i ∧ i ≤ 30 ∧ lv = .slice lo n lc ∧ i ≤ n ∧ n ≤ 11 ∧ Hid (L.length = n ∧ DL w w.heap.size ao ln cap w.heap.size w2 wr (.slice lo n lc) L)) (fun lv iv wr => 40 - (RowKit.intOf iv).toNat)
        case atStart => exact ⟨0, lo, n, lc, L, rfl, by omega, rfl, by omega, hn6, HD⟩
        case round =>
          clear HD hn6
          obtain ⟨i, lo, n, lc, L, rfl, hi30, rfl, hin, hn6, HD⟩ := hrel
          go_wp2_with fail
          refine (c_n HC.out HD.out.2.src _ (by omega)).mono ?_
          rintro e w5 ⟨c, rfl, c0, c1, _, hS5, hg5⟩
          have c1 := c1 (by omega)
          replace HD : Hid (L.length = n ∧ DL w w.heap.size ao ln cap w.heap.size w2 w5 (.slice lo n lc) L) := (⟨HD.out.1, HD.out.2.step hlt2 hS5 hg5⟩ : L.length = n ∧ DL w w.heap.size ao ln cap w.heap.size w2 w5 (.slice lo n lc) L)
          clear hS5 hg5
          have hw7 : IntKind.i64.wrap (7 + c) = 7 + c := IntWalk.i64_in _ ⟨by omega, by omega⟩
          have hwc : IntKind.i64.wrap c = c := IntWalk.i64_in _ ⟨by omega, by omega⟩
          by_cases hlt : (n : Int) < 7 + c
          · go_wp2_with fail
            refine (c_decT i (by omega) _).mono ?_
            rintro e w6 ⟨u, rfl, hu, hb6⟩
            have HN := hide HD.out.1
            have HD1 := hide (HD.out.2.past hlt2 hb6)
            clear hb6 HD
            obtain ⟨T, hT⟩ : ∃ T : ByteArray, T = ⟨([116, 97, 103] ++ toL u).toArray⟩ := ⟨_, rfl⟩
            have hadd : Op.stringOp .add ⟨#[116, 97, 103]⟩ u = pure (.string T) := by
              rw [str_addL (x := [116, 97, 103]) (y := toL u) rfl (mk_toL u).symm (by rw [toL_len]; simp; omega), hT]
            have hTs : T.size ≤ 40 := by rw [hT, ← toL_len, toL_mk]; simp [toL_len]; omega
            clear hT
            have HD2 := hide (HD1.out.past hlt2 ((Below.refl _ _).alloc (Nat.le_refl _) (.cells #[.string T] 9)))
            have hn11 : n ≤ 10 := by omega
            go_wp2_with (at_builtin; refine wpList_append_own _ rfl _ _ 32 rfl w2.heap.size 9 i0 (.string ByteArray.empty) 1 16 Tryd.underlying32 hi hz0 hz1 hz2 rfl (by decide) _ _ _ rfl HD2.out.own ⟨w6.heap.size, 0, none⟩ 1 1 [.string T] rfl rfl (new_cells (cs := #[.string T]) rfl) (strs_one [T]) (by have := HN.out; unfold maxLen; omega) (by have := HN.out; omega) HD2.out.gr.size ?_; intro v5 w7 hown hgrow hnil; have HD5 := hide (HD2.out.app hlt2 hTs hown hgrow); obtain ⟨lo5, c5, rfl⟩ := own_any hown; clear hown hgrow hnil)
            go_roundw
            case rel => exact ⟨i + 1, lo5, L.length + 1, c5, L ++ [T], by go_num, by omega, rfl, by have := HN.out; omega, by have := HN.out; omega, ⟨by simp, HD5.out⟩⟩
            case measure => simp [RowKit.intOf]; omega
          · go_wp2
            go_ret2
            exact ⟨name, lo, n, lc, L, rfl, HD.out.1, by omega, own_le' HD.out.2.own (Nat.zero_le _), HD.out.2.sz, hnm, HD.out.2.src.bel⟩
    · have hj0 : (0 : Int) < (j : Int) := by omega
      have hwj : IntKind.i64.wrap ((j : Int) - 1) = ((j - 1 : Nat) : Int) := by rw [IntWalk.i64_in _ ⟨by omega, by omega⟩]; omega
      have hn6 : n ≤ 6 := by omega
      go_wp2_with (first
        | (go_at_call 29; refine (c_d_l06Tag HC.out HD.out.2.src).mono ?_; rintro e w4 ⟨u, rfl, hu, hS4, hg4⟩; have HD1 := hide (HD.out.2.step hlt2 hS4 hg4); have HD2 := hide (HD1.out.past hlt2 ((Below.refl _ _).alloc (Nat.le_refl _) (.cells #[.string u] 9))); have HN := hide HD.out.1; clear hS4 hg4 HD)
        | (at_builtin; refine wpList_append_own _ rfl (.tmp 21) (.tmp 24) 32 rfl w2.heap.size 9 i0 (.string ByteArray.empty) 1 16 Tryd.underlying32 hi hz0 hz1 hz2 rfl (by decide) _ _ _ rfl HD2.out.own ⟨w4.heap.size, 0, none⟩ 1 1 [.string u] rfl rfl (new_cells (cs := #[.string u]) rfl) (strs_one [u]) (by have := HN.out; unfold maxLen; omega) (by have := HN.out; omega) HD2.out.gr.size ?_; intro v5 w5 hown hgrow hnil; have HD5 := hide (HD2.out.app hlt2 (show u.size ≤ 40 by omega) hown hgrow); obtain ⟨lo5, c5, rfl⟩ := own_any hown; clear hown hgrow hnil))
      go_roundw
      case rel => exact ⟨j - 1, lo5, L.length + 1, c5, L ++ [u], rfl, by omega, rfl, by have := HN.out; omega, ⟨by simp, HD5.out⟩⟩
      case measure => simp [RowKit.intOf]; omega
end Go.Proofs.YtiafgcppidmoiaaDoor
