/-
  Weak contracts of the draws: weights and the values that a sketch takes.
-/
import Derived.Test.YtnflhahnbdnaoaaGreatDoorDA
import Derived.Test.YtnflhahnbdnaoaaGreatDoorLA
import Derived.Deep.RegionHeld3
import Derived.Test.YtnflhahnbdnaoaaGreatDoorLC
import Derived.Test.YtnflhahnbdnaoaaGreatDoorLP
import Derived.Test.YtnflhahnbdnaoaaGreatDoorLQ
namespace Go.Proofs.YtnflhahnbdnaoaaGreatDoor
set_option linter.unusedVariables false
set_option linter.unusedSimpArgs false
open Go.ChangeShapes Go.WideShapes Go.ChangeAt Go.RowKit Go.PlainAid

def isU : Value → Bool
  | .int .u64 y => decide (0 ≤ y) && decide (y ≤ 18446744073709551615)
  | _ => false
theorem isU_of {v : Value} (h : isU v = true) : ∃ y, v = .int .u64 y ∧ U64 y := by
  unfold isU at h
  split at h
  · rename_i y
    have := Bool.and_eq_true_iff.1 h
    exact ⟨y, rfl, of_decide_eq_true this.1, of_decide_eq_true this.2⟩
  · cases h
theorem lit_cellU {w w2 : World} {cs : Array Value} {t : TypeId} {s : Nat} (hg : (w.alloc (.cells cs t)).grownBy w2 (some s)) (hs : s < w.heap.size) (h : cs.toList.all isU = true) {v : Int} (h0 : 0 ≤ v) (h1 : v < cs.size) :
    ∃ y, w2.cell? ⟨w.heap.size, v.toNat, none⟩ = some (.int .u64 y) ∧ U64 y := by
  have hi : v.toNat < cs.size := by omega
  obtain ⟨y, e, hI⟩ := isU_of (List.all_eq_true.1 h cs[v.toNat] (Array.mem_toList_iff.2 (Array.getElem_mem hi)))
  have hb : w2.heap[w.heap.size]? = some (.cells cs t (0, 0)) := by
    rw [hg.block w.heap.size (by simp) (fun e => by cases e; omega)]; exact heap_alloc_new w _
  exact ⟨y, by rw [cell_of_row w2 w.heap.size v.toNat _ _ (0, 0) hb, Array.getElem?_eq_getElem hi, e], hI⟩

set_option maxHeartbeats 1000000 in
theorem c_l03Any {W w : World} {B ln cap s : Nat} {ao : Option Addr} (hc : CodeAt W B ao ln) (h : Src W B ao ln cap s w) :
    Calls Tryz.prog 53 #[.pointer (some ⟨s, 0, none⟩)] w fun e w' => ∃ v, e = .returned (.int .i64 v) ∧ I64 v ∧ Src W B ao ln cap s w' ∧ w.grownBy w' (some s) := by
  have HC := hide hc
  go_enter Tryz.func53, Tryz.ntmps53
  go_wp2_with fail
  refine (c_one HC.out h _ (by omega)).mono ?_
  rintro e w1 ⟨b, rfl, hS1, hg1⟩
  have HS1 := hide hS1
  have HG1 := hide hg1
  clear hS1 hg1 h hc
  cases b with
  | true =>
    go_wp2_with fail
    refine (c_l01Any HC.out HS1.out).mono ?_
    rintro e w2 ⟨v, rfl, hI, hS2, hg2⟩
    have HS2 := hide hS2
    have HG2 := hide (HG1.out.trans hg2)
    clear hS2 hg2
    go_wp2
    go_ret
    exact ⟨v, rfl, hI, HS2.out, HG2.out⟩
  | false =>
    go_wp2_with fail
    refine (c_n HC.out HS1.out _ (by omega)).mono ?_
    rintro e w2 ⟨v, rfl, v0, v1, _, hS2, hg2⟩
    have v1 := v1 (by omega)
    have HS2 := hide hS2
    have HG2 := hide (HG1.out.trans hg2)
    clear hS2 hg2
    go_wp2_with fail
    refine (c_n HC.out HS2.out _ (by omega)).mono ?_
    rintro e w3 ⟨k, rfl, k0, k1, _, hS3, hg3⟩
    have k1 := k1 (by omega)
    have HS3 := hide hS3
    have HG3 := hide (HG2.out.trans hg3)
    clear hS3 hg3
    go_wp2_with fail
    obtain ⟨k, rfl⟩ := Int.eq_ofNat_of_zero_le k0
    go_loop [3, 4] (fun xv kv => ∃ (j : Nat) (x : Int), j ≤ 8 ∧ kv = .int .i64 j ∧ xv = .int .i64 x ∧ I64 x) (fun xv kv => (Go.RowKit.intOf kv).toNat)
    case atStart => exact ⟨k, v, by omega, rfl, rfl, by unfold I64; omega⟩
    case round =>
      clear v0 v1 k0 k1
      obtain ⟨j, x, hj, rfl, rfl, hx⟩ := hrel
      rcases Nat.eq_zero_or_pos j with h0 | h0
      · subst h0
        go_wp2_with fail
        refine (c_one HC.out HS3.out _ (by omega)).mono ?_
        rintro e w4 ⟨b, rfl, hS4, hg4⟩
        have HS4 := hide hS4
        have HG4 := hide (HG3.out.trans hg4)
        clear hS4 hg4
        have hm := w64_in (-x)
        cases b with
        | true =>
          go_wp2
          go_ret
          exact ⟨_, rfl, by first | exact hm | (unfold I64 at *; omega), HS4.out, HG4.out⟩
        | false =>
          go_wp2
          go_ret
          exact ⟨_, rfl, hx, HS4.out, HG4.out⟩
      · have hj0 : (0 : Int) < (j : Int) := by omega
        have hm := w64_in (x * 9)
        go_wp2
        go_round
        case rel => exact ⟨j - 1, _, by omega, by congr 1; omega, rfl, hm⟩
        case measure => simp [Go.RowKit.intOf]; omega
end Go.Proofs.YtnflhahnbdnaoaaGreatDoor

/-
  A drawn name with tags.
-/
namespace Go.Proofs.YtnflhahnbdnaoaaGreatDoor
set_option linter.unusedVariables false
set_option linter.unusedSimpArgs false
open Go.ChangeShapes Go.WideShapes Go.ChangeAt Go.RowKit Go.PlainAid
set_option maxRecDepth 10000

/-- The tags drawn so far. -/
structure DL (W : World) (B : Nat) (ao : Option Addr) (ln cap s : Nat) (w wr : World) (v : Value) (L : List ByteArray) : Prop where
  own : OwnT wr w.heap.size v L
  sz : ∀ u ∈ L, u.size ≤ 40
  src : Src W B ao ln cap s wr
  gr : w.grownBy wr (some s)
section
variable {W : World} {B ln cap s : Nat} {ao : Option Addr} {w wr : World} {v : Value} {L : List ByteArray}
theorem DL.step (h : DL W B ao ln cap s w wr v L) (hs : s < w.heap.size) {w1 : World} (hS : Src W B ao ln cap s w1) (hg : wr.grownBy w1 (some s)) : DL W B ao ln cap s w w1 v L := by
  refine ⟨World.ownsRow.kept h.own hg ?_, h.sz, hS, h.gr.trans hg⟩
  cases e : v.ownBlock with
  | none => exact .inl rfl
  | some k => exact .inr (fun q => by have := (World.ownsRow.lt h.own k e).1; cases q; omega)
theorem DL.past (h : DL W B ao ln cap s w wr v L) (hs : s < w.heap.size) {w1 : World} (hb : Below wr.heap.size wr w1) : DL W B ao ln cap s w w1 v L :=
  h.step hs (src_past h.src hb) ⟨hb.os, hb.tape, hb.output, hb.size, fun j hj _ => hb.block j hj⟩
theorem DL.app (h : DL W B ao ln cap s w wr v L) (hs : s < w.heap.size) {w1 : World} {v' : Value} {u : ByteArray} (hu : u.size ≤ 40) {n : Nat} (ho : w1.ownsRow w.heap.size 9 1 v' n (L.map Value.string ++ [.string u])) (hg : wr.grownBy w1 v.ownBlock) : DL W B ao ln cap s w w1 v' (L ++ [u]) := by
  have bel : Below w.heap.size wr w1 := ⟨hg.os, hg.tape, hg.output, hg.size, fun j hj => hg.block j (by have := h.gr.size; omega) (fun e => by have := (World.ownsRow.lt h.own j e.symm).1; omega)⟩
  refine ⟨OwnT.of ho (by simp), fun x hx => ?_, ?_, ?_⟩
  · rcases List.mem_append.1 hx with hx | hx
    · exact h.sz x hx
    · obtain rfl := List.mem_singleton.1 hx; exact hu
  · obtain ⟨x, m, y, h0, h1, h2⟩ := h.src.blk
    exact ⟨h.src.bel.trans (bel.mono (Nat.le_trans h.src.hB (Nat.le_of_lt hs))), h.src.hB, x, m, y, by rw [bel.block s hs]; exact h0, h1, h2⟩
  · exact ⟨hg.os.trans h.gr.os, hg.tape.trans h.gr.tape, hg.output.trans h.gr.output, Nat.le_trans h.gr.size hg.size, fun j hj hne => by rw [bel.block j hj]; exact h.gr.block j hj hne⟩
end
theorem c_decT (N : Nat) (hN : N ≤ 1000) (w : World) : Calls Tryz.prog 18 #[.int .i64 N] w fun e w' => ∃ u, e = .returned (.string u) ∧ u.size ≤ 30 ∧ Below w.heap.size w w' := by
  by_cases h0 : N = 0
  · subst h0
    go_enter Tryz.func18, Tryz.ntmps18
    go_wp2
    go_ret
    exact ⟨_, rfl, by decide, Below.refl _ _⟩
  · refine (c_l01Dec_pos N h0 (by omega) w).mono ?_
    rintro e w' ⟨rfl, hb⟩
    refine ⟨_, rfl, ?_, hb⟩
    rw [← toL_len, toL_mk, Lib.decDigits_length]
    have := Lib.nDigits_le20 N (by omega)
    omega
end Go.Proofs.YtnflhahnbdnaoaaGreatDoor

/-
  A sample's fields together.
-/
namespace Go.Proofs.YtnflhahnbdnaoaaGreatDoor
set_option linter.unusedVariables false
set_option linter.unusedSimpArgs false
open Go.ChangeShapes Go.WideShapes Go.ChangeAt Go.RowKit Go.PlainAid
set_option maxRecDepth 10000

/-- A sample's fields. -/
structure Sx where
  k : Int
  se : ByteArray
  v : Int
  wd : ByteArray
  wt : Int
  tm : Bool
  ti : Int
noncomputable def Sx.B (x : Sx) : Bool := smpB x.k x.se x.v x.wd x.wt x.tm x.ti
structure Sx.Ok (x : Sx) : Prop where
  k : I64 x.k
  v : I64 x.v
  wt : U64 x.wt
  ti : I64 x.ti
  se : x.se.size ≤ maxLen
  wd : x.wd.size ≤ maxLen
abbrev sxArr (x : Sx) : Array Value := #[.int .i64 x.k, .string x.se, .int .i64 x.v, .string x.wd, .int .u64 x.wt, .bool x.tm, .int .i64 x.ti]
end Go.Proofs.YtnflhahnbdnaoaaGreatDoor

/-
  A drawn series.
-/
namespace Go.Proofs.YtnflhahnbdnaoaaGreatDoor
set_option linter.unusedVariables false
set_option linter.unusedSimpArgs false
open Go.ChangeShapes Go.WideShapes Go.ChangeAt Go.RowKit Go.PlainAid
set_option maxRecDepth 10000

theorem grown_farX {w w1 w2 : World} {r : Option Nat} (h : w.grownBy w1 r) (hb : Below w.heap.size w1 w2) : w.grownBy w2 r :=
  ⟨hb.os.trans h.os, hb.tape.trans h.tape, hb.output.trans h.output, Nat.le_trans h.size hb.size, fun k hk hne => by rw [hb.block k hk]; exact h.block k hk hne⟩
theorem serO_100 (name : ByteArray) (L : List ByteArray) : (serO name L).size ≤ 100 := by
  have e0 : ByteArray.empty.size ≤ 100 := by decide
  unfold serO
  split
  · exact e0
  · unfold serW
    split
    · unfold serF
      split
      · exact e0
      · rename_i h; omega
    · exact e0
set_option maxHeartbeats 2000000 in
theorem c_d_l06Series {W w : World} {B ln cap s : Nat} {ao : Option Addr} (hc : CodeAt W B ao ln) (h : Src W B ao ln cap s w) :
    Calls Tryz.prog 51 #[.pointer (some ⟨s, 0, none⟩)] w fun e w' => ∃ u, e = .returned (.string u) ∧ u.size ≤ 100 ∧ Src W B ao ln cap s w' ∧ w.grownBy w' (some s) := by
  obtain ⟨i0, hi, hz0, hz1, hz2⟩ := info_parts infoStr
  have HC := hide hc
  have HS := hide h
  clear hc h
  go_enter Tryz.func51, Tryz.ntmps51
  go_wp2_with fail
  refine (c_pick_lit HC.out HS.out 40 (by rfl) (by omega) (by omega) (by decide)).mono ?_
  rintro e w2 ⟨name, rfl, hnm, hS2, hg2⟩
  have hlt2 : s < w2.heap.size := src_lt hS2
  have HG2 := hide hg2
  replace HS := hide hS2
  clear hS2 hg2
  go_wp2_with fail
  refine (c_n HC.out (src_past HS.out ((Below.refl _ _).alloc (Nat.le_refl _) (.cells #[] 9))) _ (by omega)).mono ?_
  rintro e w3 ⟨kk, rfl, k0, k1, _, hS3, hg3⟩
  have k1 := k1 (by omega)
  have D0 : DL W B ao ln cap s w2 w3 (.slice (some ⟨w2.heap.size, 0, none⟩) 0 0) [] := by
    have O0 : OwnT (w2.alloc (.cells #[] 9)) w2.heap.size (.slice (some ⟨w2.heap.size, 0, none⟩) 0 0) [] := World.ownsRow_made w2 #[] 0 (Nat.le_refl _) (Nat.zero_le _) rfl
    have D1 : DL W B ao ln cap s w2 (w2.alloc (.cells #[] 9)) (.slice (some ⟨w2.heap.size, 0, none⟩) 0 0) [] := ⟨O0, fun u hu => absurd hu List.not_mem_nil, src_past HS.out ((Below.refl _ _).alloc (Nat.le_refl _) _), World.grownBy_alloc _ _ _⟩
    exact D1.step hlt2 hS3 hg3
  have HD0 := hide D0
  clear D0 hS3 hg3 HS
  obtain ⟨kn, rfl⟩ := Int.eq_ofNat_of_zero_le k0
  have hk6 : kn < 3 := by omega
  clear k0 k1
  go_wp2_with fail
  go_loopw [4, 5] (fun lv kv wr => ∃ (j : Nat) (lo : Option Addr) (n lc : Nat) (L : List ByteArray), kv = .int .i64 j ∧ j ≤ 3 ∧ lv = .slice lo n lc ∧ n + j ≤ 3 ∧ Hid (L.length = n ∧ DL W B ao ln cap s w2 wr (.slice lo n lc) L)) (fun lv kv wr => (RowKit.intOf kv).toNat)
  case atStart => exact ⟨kn, _, 0, 0, [], rfl, by omega, rfl, by omega, ⟨rfl, HD0.out⟩⟩
  case round =>
    clear HD0
    obtain ⟨j, lo, n, lc, L, rfl, hj, rfl, hnj, HD⟩ := hrel
    rcases Nat.eq_zero_or_pos j with h0 | h0
    · subst h0
      go_wp2_with fail
      refine (c_s_SeriesOf name lc n (by unfold maxLen; omega) HD.out.1 (by omega) (fun u hu => by have := HD.out.2.sz u hu; unfold maxLen; omega) HD.out.2.own.at).mono ?_
      rintro e w4 ⟨rfl, hb4⟩
      have HS4 := hide (src_past HD.out.2.src hb4)
      have HG4 := hide (grown_farX (HG2.out.trans HD.out.2.gr) (hb4.mono (Nat.le_trans HG2.out.size HD.out.2.gr.size)))
      have h100 := serO_100 name L
      clear hb4 HD
      generalize serO name L = u at h100 ⊢
      go_wp2
      go_ret
      exact ⟨u, rfl, h100, HS4.out, HG4.out⟩
    · have hj0 : (0 : Int) < (j : Int) := by omega
      have hwj : IntKind.i64.wrap ((j : Int) - 1) = ((j - 1 : Nat) : Int) := by rw [IntWalk.i64_in _ ⟨by omega, by omega⟩]; omega
      have hn6 : n ≤ 6 := by omega
      go_wp2_with (first
        | (go_at_call 34; refine (c_pick_lit HC.out HD.out.2.src 21 (by rfl) (by omega) (by omega) (by decide)).mono ?_; rintro e w4 ⟨u, rfl, hu, hS4, hg4⟩; have HD1 := hide (HD.out.2.step hlt2 hS4 hg4); have HD2 := hide (HD1.out.past hlt2 ((Below.refl _ _).alloc (Nat.le_refl _) (.cells #[.string u] 9))); have HN := hide HD.out.1; clear hS4 hg4 HD)
        | (at_builtin; refine wpList_append_own _ rfl (.tmp 16) (.tmp 20) 39 rfl w2.heap.size 9 i0 (.string ByteArray.empty) 1 16 Tryz.underlying39 hi hz0 hz1 hz2 rfl (by decide) _ _ _ rfl HD2.out.own ⟨w4.heap.size, 0, none⟩ 1 1 [.string u] rfl rfl (new_cells (cs := #[.string u]) rfl) (strs_one [u]) (by have := HN.out; unfold maxLen; omega) (by have := HN.out; omega) HD2.out.gr.size ?_; intro v5 w5 hown hgrow hnil; have HD5 := hide (HD2.out.app hlt2 (show u.size ≤ 40 by omega) hown hgrow); obtain ⟨lo5, c5, rfl⟩ := own_any hown; clear hown hgrow hnil))
      go_roundw
      case rel => exact ⟨j - 1, lo5, L.length + 1, c5, L ++ [u], rfl, by omega, rfl, by have := HN.out; omega, ⟨by simp, HD5.out⟩⟩
      case measure => simp [RowKit.intOf]; omega
end Go.Proofs.YtnflhahnbdnaoaaGreatDoor
