/-
  A drawn Top: the walk; and a drawn put.
-/
import Derived.Test.YtmhojmgemiphkaaDrawP
import Derived.Deep.AppendLies
namespace Go.Proofs.Ytmhojmgemiphkaa
set_option linter.unusedVariables false
set_option linter.unusedSimpArgs false
open Go.ChangeShapes Go.WideShapes Go.ChangeAt Go.RowKit Go.PlainAid
set_option maxRecDepth 10000

theorem DT.setC {W w : World} {B : Nat} {ao : Option Addr} {ln cap s : Nat} {wr : World} {d t : Int} {g c : Nat} {x : Hv} {L1 : List Hv} (k : DT W w B ao ln cap s wr (.slice (some ⟨g, 0, none⟩) (L1.length + 1) c) d t (x :: L1)) {y : Int} (hy : I64 y) :
    wr.cell? ⟨g, 1, none⟩ = some (.int .i64 x.2) ∧ wr.frozen? ⟨g, 1, none⟩ = false ∧ g ≠ w.heap.size ∧ g ≠ w.heap.size + 1 ∧ DT W w B ao ln cap s (wr.setCell ⟨g, 1, none⟩ (.int .i64 y)) (.slice (some ⟨g, 0, none⟩) (L1.length + 1) c) d t ((x.1, y) :: L1) := by
  have hlt := k.lt
  have hf := k.far
  have b1 : g ≠ w.heap.size + 1 := fun e => k.own.ne k.row (by decide) (by rw [e]; rfl)
  have b2 : g ≠ w.heap.size := fun e => k.own.ne k.res (by decide) (by rw [e]; rfl)
  have hg := (k.own.lt g rfl).1
  have own : wr.ownsRow w.heap.size 52 2 (.slice (some ⟨g, 0, none⟩) (L1.length + 1) c) (L1.length + 1) (fl encH (x :: L1)) := k.own
  have st := (own.stored 1 (.int .i64 y)).1
  refine ⟨by rw [own.cellAt 1 (by omega)]; simp [fl, encH], own.frozenAt 1, b2, b1, src_setP k.src (by show s < g; omega), hlt, grown_setP k.gr hg, by rw [Below.heap_setCell _ _ _ _ (by simpa using fun e => b1 e.symm)]; exact k.row, by rw [Below.heap_setCell _ _ _ _ (by simpa using fun e => b2 e.symm)]; exact k.res, ?_, k.hd, k.ht, ?_, by simpa using k.len⟩
  · have e : (fl encH (x :: L1)).set 1 (.int .i64 y) = fl encH ((x.1, y) :: L1) := by simp [fl, encH]
    rw [e] at st; exact st
  · intro z hz
    rcases List.mem_cons.1 hz with rfl | hz
    · exact ⟨(k.ok x List.mem_cons_self).1, hy⟩
    · exact k.ok z (List.mem_cons_of_mem _ hz)

set_option maxHeartbeats 2000000 in
theorem c_l05Top {W w : World} {B ln cap s : Nat} {ao : Option Addr} (hc : CodeAt W B ao ln) (h : Src W B ao ln cap s w) :
    Calls Try.prog 38 #[.pointer (some ⟨s, 0, none⟩)] w fun e w' => DrawnTp W B ao ln cap s w e w' := by
  have HC := hide hc
  have hS0 : ∀ o1 o2, Src W B ao ln cap s ((w.alloc o1).alloc o2) := fun o1 o2 => src_past (src_past h ((Below.refl _ _).alloc (Nat.le_refl _) _)) ((Below.refl _ _).alloc (Nat.le_refl _) _)
  have HS0 := hide hS0
  have hlt := src_lt h
  obtain ⟨at_, mix, sz, hblk, _, _⟩ := h.blk
  have hs3 : ∀ o1 o2, ((w.alloc o1).alloc o2).cell? ⟨s, 3, none⟩ = some (.int .i64 sz) := fun o1 o2 => cell_on (cell_on (by rw [cell_of_row w s 3 _ _ (0, 0) hblk]; rfl) o1) o2
  clear hc hS0 hblk h
  have hw9 := w64_in (8 + sz)
  go_enter Try.func38, Try.ntmps38
  go_wp2_with fail
  refine (c_n HC.out (HS0.out _ _) _ hw9.2).mono ?_
  rintro e w1 ⟨k, rfl, k0, k1, k2, hS1, hg1⟩
  have hk9 : I64 k := by
    by_cases hm : wrap64 (8 + sz) ≤ 1
    · rw [k2 hm]; unfold I64; omega
    · have := k1 (by omega); unfold I64 at *; omega
  clear k1 k2
  have D0 : DT W w B ao ln cap s w1 (.slice none 0 0) 0 0 [] := by
    refine DT.step (p := .slice none 0 0) (d := 0) (t := 0) (L := []) (wr := (w.alloc (.cells zeroTp 28)).alloc (.cells zeroTp 28)) ⟨HS0.out _ _, hlt, (World.grownBy_alloc _ _ _).trans (World.grownBy_alloc _ _ _), by simpa using heap_alloc_new (w.alloc (.cells zeroTp 28)) (.cells zeroTp 28), ?_, World.ownsRow_nil _ _ _ _, (by unfold I64; omega), (by unfold I64; omega), (fun x hx => by simp at hx), (by simp)⟩ hS1 hg1
    rw [heap_alloc_old _ _ (by simp)]; exact heap_alloc_new w _
  have HD0 := hide D0
  obtain ⟨k, rfl⟩ := Int.eq_ofNat_of_zero_le k0
  clear D0 hS1 hg1 HS0 hs3 hw9 k0
  go_wp2_with fail
  go_loopw [4] (fun kv wr => ∃ (j : Nat) (p : Value) (d t : Int) (L : List Hv), kv = .int .i64 j ∧ I64 j ∧ Hid (DT W w B ao ln cap s wr p d t L) ∧ Hid (L.length ≤ 30)) (fun kv wr => (RowKit.intOf kv).toNat)
  case atStart => exact ⟨k, _, 0, 0, [], rfl, hk9, HD0, (by simp : ([] : List Hv).length ≤ 30)⟩
  case round =>
    clear HD0
    obtain ⟨j, p, d, t, L, rfl, hj, HD, H30⟩ := hrel
    rcases Nat.eq_zero_or_pos j with h0 | h0
    · subst h0
      obtain ⟨pa, pc, rfl⟩ := HD.out.own.any
      obtain ⟨n, hn⟩ : ∃ n, L.length = n := ⟨_, rfl⟩
      rw [hn] at HD H30
      have HN := hide hn
      clear hn
      go_wp2_with fail
      refine (c_one HC.out HD.out.src _ (by omega)).mono ?_
      rintro e w2 ⟨bb, rfl, hS2, hg2⟩
      have HD2 := hide (HD.out.step hS2 hg2)
      clear HD hS2 hg2
      cases bb with
      | false =>
        obtain ⟨q0, q1, q2⟩ := cell3 HD2.out.row
        obtain ⟨r0, r1, r2⟩ := cell3 HD2.out.res
        have e0 := frozen_of_row w2 w.heap.size 0 _ _ HD2.out.res
        have e1 := frozen_of_row w2 w.heap.size 1 _ _ HD2.out.res
        have e2 := frozen_of_row w2 w.heap.size 2 _ _ HD2.out.res
        go_wp2
        refine bodyPost_ret (v := .agg #[.slice pa n pc, .int .i64 d, .int .i64 t]) (by simp [results, Try.results38, go_sem, q0, q1, q2, r0, r1, r2]) rfl HD2.out.fin
      | true =>
        go_wp2_with fail
        refine (c_n HC.out HD2.out.src _ (by omega)).mono ?_
        rintro e w3 ⟨c, rfl, c0, c1, _, hS3, hg3⟩
        have c1 := c1 (by omega)
        have HD3 := hide (HD2.out.step hS3 hg3)
        clear HD2 hS3 hg3
        have hc4 : c = 0 ∨ c = 1 ∨ c = 2 ∨ c = 3 := by omega
        clear c0 c1
        rcases hc4 with rfl | rfl | rfl | rfl
        · go_wp2_with fail
          have HA3 := hide (HD3.out.past ((Below.refl _ _).alloc (Nat.le_refl _) (.cells #[.int .i64 0, .int .i64 (-1), .int .i64 1000000000000000, .int .i64 1000000000000001] 2)))
          refine (c_n HC.out HA3.out.src _ (by omega)).mono ?_
          rintro e w4 ⟨c, rfl, c0, c1, _, hS4, hg4⟩
          have c1 := c1 (by omega)
          obtain ⟨y, hy, hI⟩ := lit_cell hg4 (src_lt HD3.out.src) (by decide) c0 c1
          have HD4 := hide (HA3.out.step hS4 hg4)
          have HD6 := hide (HD4.out.set (d' := d) (t' := y) (j := 2) (.inr ⟨rfl, rfl, rfl⟩) HD4.out.hd hI)
          clear hS4 hg4 HD3 HA3
          obtain ⟨q0, q1, q2⟩ := cell3 HD4.out.row
          obtain ⟨r0, r1, r2⟩ := cell3 HD4.out.res
          have fr := frozen_of_row w4 (w.heap.size + 1) 2 _ _ HD4.out.row
          have e0 := frozen_of_row w4 w.heap.size 0 _ _ HD4.out.res
          have e1 := frozen_of_row w4 w.heap.size 1 _ _ HD4.out.res
          have e2 := frozen_of_row w4 w.heap.size 2 _ _ HD4.out.res
          go_wp2
          refine bodyPost_ret (v := .agg #[.slice pa n pc, .int .i64 d, .int .i64 y]) (by simp [results, Try.results38, go_sem, q0, q1, q2, r0, r1, r2]) rfl HD6.out.fin
        · go_wp2_with fail
          refine regionK (fun W' => W'.heap[w.heap.size + 1]? = some (.cells #[.slice pa n pc, .int .i64 d, .int .i64 t] 28 (0, 0))) 6 (by rfl) ?_
          refine takeK (i := 0) (d := 53) (v := .pointer (some ⟨w.heap.size + 1, 1, none⟩)) rfl rfl (by kernel_rfl) (by kernel_rfl) (by kernel_rfl) (by decide) (by kernel_rfl) (fun _ _ _ h => h) (Or.inl ⟨by rfl, fun W hW => ?_⟩) HD3.out.row ?_
          · clear hW
            go_simp
          simp only [List.setIfInBounds_toArray, List.set_cons_zero, List.set_cons_succ]
          refine takeK (i := 1) (d := 54) (v := .int .i64 d) rfl rfl (by kernel_rfl) (by kernel_rfl) (by kernel_rfl) (by decide) (by kernel_rfl) (fun _ _ _ h => h) (Or.inl ⟨by rfl, fun W hW => ?_⟩) HD3.out.row ?_
          · obtain ⟨x0, x1, x2⟩ := cell3 hW
            go_simp
          simp only [List.setIfInBounds_toArray, List.set_cons_zero, List.set_cons_succ]
          refine takeK (i := 2) (d := 55) (v := .pointer (some ⟨s, 0, none⟩)) rfl rfl (by kernel_rfl) (by kernel_rfl) (by kernel_rfl) (by decide) (by kernel_rfl) (fun _ _ _ h => h) (Or.inl ⟨by rfl, fun W hW => ?_⟩) HD3.out.row ?_
          · clear hW
            go_simp
          simp only [List.setIfInBounds_toArray, List.set_cons_zero, List.set_cons_succ]
          refine oneK (i := 3) (by kernel_rfl) rfl (fun K hK => ?_)
          go_simp
          refine (c_n HC.out HD3.out.drew.src _ (by omega)).mono ?_
          rintro e w4 ⟨c, rfl, c0, c1, _, hS4, hg4⟩
          have HD4 := hide (HD3.out.drew.step hS4 hg4)
          have HD6 := hide (HD4.out.set (d' := wrap64 (d + c)) (t' := t) (j := 1) (.inl ⟨rfl, rfl, rfl⟩) (w64_in _) HD4.out.ht)
          dsimp only
          refine hK.out _ _ (fun _ => HD4.out.row) ?_
          clear hK K hS4 hg4 HD3 c0 c1
          have wd : IntKind.i64.wrap (d + c) = wrap64 (d + c) := i64_is _
          try simp only [Act.put, List.setIfInBounds_toArray, List.set_cons_zero, List.set_cons_succ]
          refine takeK (i := 4) (d := 57) (v := .int .i64 (wrap64 (d + c))) rfl rfl (by kernel_rfl) (by kernel_rfl) (by kernel_rfl) (by decide) (by kernel_rfl) (fun _ _ _ h => h) (Or.inl ⟨by rfl, fun W hW => ?_⟩) HD4.out.row ?_
          · clear hW
            go_simp
          simp only [List.setIfInBounds_toArray, List.set_cons_zero, List.set_cons_succ]
          refine oneK (i := 5) (by kernel_rfl) rfl (fun K hK => ?_)
          go_simp
          refine hK.out _ _ (fun _ => HD4.out.row) ?_
          clear hK K
          try simp only [Act.put, List.setIfInBounds_toArray, List.set_cons_zero, List.set_cons_succ]
          generalize wrap64 (d + c) = d6 at HD6 ⊢
          refine oneK (i := 6) (by kernel_rfl) rfl (fun K hK => ?_)
          obtain ⟨q0, q1, q2⟩ := cell3 HD4.out.row
          have fr := frozen_of_row w4 (w.heap.size + 1) 1 _ _ HD4.out.row
          go_simp
          refine hK.out _ _ (fun h => absurd rfl h) ?_
          clear hK K q0 q1 q2 fr
          try simp only [Act.put, List.setIfInBounds_toArray, List.set_cons_zero, List.set_cons_succ]
          refine doneK (by kernel_rfl) ?_ _
          generalize (w4.setCell ⟨w.heap.size + 1, 1, none⟩ (.int .i64 d6)) = w7 at HD6 ⊢
          obtain ⟨q0, q1, q2⟩ := cell3 HD6.out.row
          obtain ⟨r0, r1, r2⟩ := cell3 HD6.out.res
          have e0 := frozen_of_row w7 w.heap.size 0 _ _ HD6.out.res
          have e1 := frozen_of_row w7 w.heap.size 1 _ _ HD6.out.res
          have e2 := frozen_of_row w7 w.heap.size 2 _ _ HD6.out.res
          go_wp2
          refine bodyPost_ret (v := .agg #[.slice pa n pc, .int .i64 d6, .int .i64 t]) (by simp [results, Try.results38, go_sem, q0, q1, q2, r0, r1, r2]) rfl HD6.out.fin
        · obtain ⟨q0, q1, q2⟩ := cell3 HD3.out.row
          obtain ⟨i0, hi, hz0, hz1, hz2⟩ := info_parts infoHeavy
          have HA3 : Hid (∀ o, DT W w B ao ln cap s (w3.alloc o) (.slice pa n pc) d t L) := fun o => HD3.out.past ((Below.refl _ _).alloc (Nat.le_refl _) o)
          go_wp2_with (at_builtin; refine wpList_append_own _ rfl (.tmp 62) (.tmp 64) 26 rfl w.heap.size 52 i0 (.agg #[.string ByteArray.empty, .int .i64 0]) 2 24 Try.underlying26 hi hz0 hz1 hz2 rfl (by decide) _ _ _ rfl (HA3.out _).own ⟨w3.heap.size, 0, none⟩ 1 1 (encH (_, 1)) rfl rfl (new_cells (cs := #[.string _, .int .i64 1]) rfl) (encH_one _) (by have := HN.out; have := H30.out; unfold maxLen; omega) (by have := HN.out; have := H30.out; omega) (HA3.out _).far ?_; intro v6 w6 hown hgrow hnil; have hO6 : OwnH w6 w.heap.size v6 (L ++ [(⟨#[97]⟩, 1)]) := (by unfold OwnH; rw [fl_app, List.length_append]; simpa [fl] using hown); obtain ⟨row6, res6, hd6⟩ := (HA3.out _).app hO6 hgrow (⟨by decide, by unfold I64; omega⟩ : HvOk (⟨#[97]⟩, 1)) (by have := HN.out; have := H30.out; omega); obtain ⟨ao6, c6, rfl⟩ := hO6.any; have HD6 := hide hd6; obtain ⟨q0, q1, q2⟩ := cell3 row6; have fr := frozen_of_row w6 (w.heap.size + 1) 0 _ _ row6; obtain ⟨r0, r1, r2⟩ := cell3 res6; have e0 := frozen_of_row w6 w.heap.size 0 _ _ res6; have e1 := frozen_of_row w6 w.heap.size 1 _ _ res6; have e2 := frozen_of_row w6 w.heap.size 2 _ _ res6; clear hd6 hO6 hown hgrow hnil row6 res6)
          rw [show (L ++ [((⟨#[97]⟩ : ByteArray), (1 : Int))]).length = L.length + 1 by simp] at HD6
          refine bodyPost_ret (v := .agg #[_, .int .i64 d, .int .i64 t]) (by simp [results, Try.results38, go_sem, q0, q1, q2, r0, r1, r2]) rfl HD6.out.fin
        · obtain ⟨q0, q1, q2⟩ := cell3 HD3.out.row
          obtain ⟨r0, r1, r2⟩ := cell3 HD3.out.res
          have e0 := frozen_of_row w3 w.heap.size 0 _ _ HD3.out.res
          have e1 := frozen_of_row w3 w.heap.size 1 _ _ HD3.out.res
          have e2 := frozen_of_row w3 w.heap.size 2 _ _ HD3.out.res
          cases L with
          | nil =>
            have hn : n = 0 := HN.out.symm
            subst hn
            go_wp2
            refine bodyPost_ret (v := .agg #[.slice pa 0 pc, .int .i64 d, .int .i64 t]) (by simp [results, Try.results38, go_sem, q0, q1, q2, r0, r1, r2]) rfl HD3.out.fin
          | cons x L1 =>
            obtain ⟨g, cap', hpa, hg1, hg2⟩ := World.ownsRow.form HD3.out.own (by simp)
            cases hpa
            clear HN hg1 hg2
            have hn0 : (0 : Int) < ((L1.length + 1 : Nat) : Int) := by omega
            go_wp2_with fail
            clear q0 q1 q2 r0 r1 r2 e0 e1 e2
            refine regionK (fun W' => ∃ L', DT W w B ao ln cap s W' (.slice (some ⟨g, 0, none⟩) (L1.length + 1) pc) d t L') 10 (by rfl) ?_
            refine takeK (i := 0) (d := 34) (v := .pointer (some ⟨w.heap.size + 1, 0, none⟩)) rfl rfl (by kernel_rfl) (by kernel_rfl) (by kernel_rfl) (by decide) (by kernel_rfl) (fun _ _ _ h => h) (Or.inl ⟨by rfl, fun W hW => ?_⟩) ⟨_, HD3.out.drew⟩ ?_
            · clear hW
              go_simp
            simp only [List.setIfInBounds_toArray, List.set_cons_zero, List.set_cons_succ]
            refine takeK (i := 1) (d := 35) (v := .slice (some ⟨g, 0, none⟩) (L1.length + 1) pc) rfl rfl (by kernel_rfl) (by kernel_rfl) (by kernel_rfl) (by decide) (by kernel_rfl) (fun _ _ _ h => h) (Or.inl ⟨by rfl, fun W hW => ?_⟩) ⟨_, HD3.out.drew⟩ ?_
            · obtain ⟨L9, hL9⟩ := hW
              obtain ⟨x0, x1, x2⟩ := cell3 hL9.row
              go_simp
            simp only [List.setIfInBounds_toArray, List.set_cons_zero, List.set_cons_succ]
            refine takeK (i := 3) (d := 37) (v := .pointer (some ⟨s, 0, none⟩)) rfl rfl (by kernel_rfl) (by kernel_rfl) (by kernel_rfl) (by decide) (by kernel_rfl) (fun _ _ _ h => h) (Or.inl ⟨by rfl, fun W hW => ?_⟩) ⟨_, HD3.out.drew⟩ ?_
            · clear hW
              go_simp
            simp only [List.setIfInBounds_toArray, List.set_cons_zero, List.set_cons_succ]
            refine twoK (i := 2) (j := 4) (by kernel_rfl) rfl rfl (fun K hK => ?_) (fun K hK => ?_)
            · go_simp
              have HA3 := hide (HD3.out.drew.past ((Below.refl _ _).alloc (Nat.le_refl _) (.cells #[.int .i64 0, .int .i64 (-5), .int .i64 1] 2)))
              refine hK.out _ _ (fun _ => ⟨_, HA3.out⟩) ?_
              clear hK K
              try simp only [Act.put, List.setIfInBounds_toArray, List.set_cons_zero, List.set_cons_succ]
              refine oneK (i := 4) (by kernel_rfl) rfl (fun K hK => ?_)
              go_simp
              refine (c_n HC.out HA3.out.src _ (by omega)).mono ?_
              rintro e w4 ⟨c, rfl, c0, c1, _, hS4, hg4⟩
              have c1 := c1 (by omega)
              obtain ⟨y, hy, hI⟩ := lit_cell hg4 (src_lt HD3.out.drew.src) (by decide) c0 c1
              have HD4 := hide (HA3.out.step hS4 hg4)
              dsimp only
              refine hK.out _ _ (fun _ => ⟨_, HD4.out⟩) ?_
              clear hK K hS4 hg4 HD3 HA3
              try simp only [Act.put, List.setIfInBounds_toArray, List.set_cons_zero, List.set_cons_succ]
              have hy : w4.cell? ⟨w3.heap.size, c.toNat, none⟩ = some (.int .i64 y) := hy
              generalize w3.heap.size = lb at hy ⊢
              refine takeK (i := 5) (d := 39) (v := .pointer (some ⟨lb, c.toNat, none⟩)) rfl rfl (by kernel_rfl) (by kernel_rfl) (by kernel_rfl) (by decide) (by kernel_rfl) (fun _ _ _ h => h) (Or.inl ⟨by rfl, fun W hW => ?_⟩) ⟨_, HD4.out⟩ ?_
              · clear hW
                go_simp
              simp only [List.setIfInBounds_toArray, List.set_cons_zero, List.set_cons_succ]
              refine oneK (i := 6) (by kernel_rfl) rfl (fun K hK => ?_)
              go_simp
              refine hK.out _ _ (fun _ => ⟨_, HD4.out⟩) ?_
              clear hK K
              try simp only [Act.put, List.setIfInBounds_toArray, List.set_cons_zero, List.set_cons_succ]
              refine takeK (i := 7) (d := 41) (v := .pointer (some ⟨g, 0, none⟩)) rfl rfl (by kernel_rfl) (by kernel_rfl) (by kernel_rfl) (by decide) (by kernel_rfl) (fun _ _ _ h => h) (Or.inl ⟨by rfl, fun W hW => ?_⟩) ⟨_, HD4.out⟩ ?_
              · clear hW
                go_simp
              simp only [List.setIfInBounds_toArray, List.set_cons_zero, List.set_cons_succ]
              refine takeK (i := 8) (d := 42) (v := .pointer (some ⟨g, 1, none⟩)) rfl rfl (by kernel_rfl) (by kernel_rfl) (by kernel_rfl) (by decide) (by kernel_rfl) (fun _ _ _ h => h) (Or.inl ⟨by rfl, fun W hW => ?_⟩) ⟨_, HD4.out⟩ ?_
              · clear hW
                go_simp
              simp only [List.setIfInBounds_toArray, List.set_cons_zero, List.set_cons_succ]
              obtain ⟨s1, s2, s3, s4, hd6⟩ := HD4.out.setC hI
              have HD6 := hide hd6
              clear hd6
              refine oneK (i := 9) (by kernel_rfl) rfl (fun K hK => ?_)
              go_simp
              refine hK.out _ _ (fun _ => ⟨_, HD6.out⟩) ?_
              clear hK K
              try simp only [Act.put, List.setIfInBounds_toArray, List.set_cons_zero, List.set_cons_succ]
              refine doneK (by kernel_rfl) ?_ _
              generalize (w4.setCell ⟨g, 1, none⟩ (.int .i64 y)) = w7 at HD6 ⊢
              obtain ⟨q0, q1, q2⟩ := cell3 HD6.out.row
              obtain ⟨r0, r1, r2⟩ := cell3 HD6.out.res
              have e0 := frozen_of_row w7 w.heap.size 0 _ _ HD6.out.res
              have e1 := frozen_of_row w7 w.heap.size 1 _ _ HD6.out.res
              have e2 := frozen_of_row w7 w.heap.size 2 _ _ HD6.out.res
              go_wp2
              refine bodyPost_ret (v := .agg #[.slice (some ⟨g, 0, none⟩) (L1.length + 1) pc, .int .i64 d, .int .i64 t]) (by simp [results, Try.results38, go_sem, q0, q1, q2, r0, r1, r2]) rfl HD6.out.fin
            · go_simp
              refine (c_n HC.out HD3.out.drew.src _ (by omega)).mono ?_
              rintro e w4 ⟨c, rfl, c0, c1, _, hS4, hg4⟩
              have c1 := c1 (by omega)
              have HD4 := hide (HD3.out.drew.step hS4 hg4)
              dsimp only
              refine hK.out _ _ (fun _ => ⟨_, HD4.out⟩) ?_
              clear hK K hS4 hg4 HD3
              try simp only [Act.put, List.setIfInBounds_toArray, List.set_cons_zero, List.set_cons_succ]
              refine oneK (i := 2) (by kernel_rfl) rfl (fun K hK => ?_)
              go_simp
              have HA4 := hide (HD4.out.past ((Below.refl _ _).alloc (Nat.le_refl _) (.cells #[.int .i64 0, .int .i64 (-5), .int .i64 1] 2)))
              obtain ⟨y, hy, hI⟩ := lit_cell (w := w4) (cs := #[.int .i64 0, .int .i64 (-5), .int .i64 1]) (t := 2) (World.grownBy.refl _ (some s)) (src_lt HD4.out.src) (by decide) c0 c1
              refine hK.out _ _ (fun _ => ⟨_, HA4.out⟩) ?_
              clear hK K HD4
              try simp only [Act.put, List.setIfInBounds_toArray, List.set_cons_zero, List.set_cons_succ]
              generalize (w4.alloc (.cells #[.int .i64 0, .int .i64 (-5), .int .i64 1] 2)) = w5 at HA4 hy ⊢
              generalize w4.heap.size = lb at hy ⊢
              refine takeK (i := 5) (d := 39) (v := .pointer (some ⟨lb, c.toNat, none⟩)) rfl rfl (by kernel_rfl) (by kernel_rfl) (by kernel_rfl) (by decide) (by kernel_rfl) (fun _ _ _ h => h) (Or.inl ⟨by rfl, fun W hW => ?_⟩) ⟨_, HA4.out⟩ ?_
              · clear hW
                go_simp
              simp only [List.setIfInBounds_toArray, List.set_cons_zero, List.set_cons_succ]
              refine oneK (i := 6) (by kernel_rfl) rfl (fun K hK => ?_)
              go_simp
              refine hK.out _ _ (fun _ => ⟨_, HA4.out⟩) ?_
              clear hK K
              try simp only [Act.put, List.setIfInBounds_toArray, List.set_cons_zero, List.set_cons_succ]
              refine takeK (i := 7) (d := 41) (v := .pointer (some ⟨g, 0, none⟩)) rfl rfl (by kernel_rfl) (by kernel_rfl) (by kernel_rfl) (by decide) (by kernel_rfl) (fun _ _ _ h => h) (Or.inl ⟨by rfl, fun W hW => ?_⟩) ⟨_, HA4.out⟩ ?_
              · clear hW
                go_simp
              simp only [List.setIfInBounds_toArray, List.set_cons_zero, List.set_cons_succ]
              refine takeK (i := 8) (d := 42) (v := .pointer (some ⟨g, 1, none⟩)) rfl rfl (by kernel_rfl) (by kernel_rfl) (by kernel_rfl) (by decide) (by kernel_rfl) (fun _ _ _ h => h) (Or.inl ⟨by rfl, fun W hW => ?_⟩) ⟨_, HA4.out⟩ ?_
              · clear hW
                go_simp
              simp only [List.setIfInBounds_toArray, List.set_cons_zero, List.set_cons_succ]
              obtain ⟨s1, s2, s3, s4, hd6⟩ := HA4.out.setC hI
              have HD6 := hide hd6
              clear hd6
              refine oneK (i := 9) (by kernel_rfl) rfl (fun K hK => ?_)
              go_simp
              refine hK.out _ _ (fun _ => ⟨_, HD6.out⟩) ?_
              clear hK K
              try simp only [Act.put, List.setIfInBounds_toArray, List.set_cons_zero, List.set_cons_succ]
              refine doneK (by kernel_rfl) ?_ _
              generalize (w5.setCell ⟨g, 1, none⟩ (.int .i64 y)) = w7 at HD6 ⊢
              obtain ⟨q0, q1, q2⟩ := cell3 HD6.out.row
              obtain ⟨r0, r1, r2⟩ := cell3 HD6.out.res
              have e0 := frozen_of_row w7 w.heap.size 0 _ _ HD6.out.res
              have e1 := frozen_of_row w7 w.heap.size 1 _ _ HD6.out.res
              have e2 := frozen_of_row w7 w.heap.size 2 _ _ HD6.out.res
              go_wp2
              refine bodyPost_ret (v := .agg #[.slice (some ⟨g, 0, none⟩) (L1.length + 1) pc, .int .i64 d, .int .i64 t]) (by simp [results, Try.results38, go_sem, q0, q1, q2, r0, r1, r2]) rfl HD6.out.fin
    · have hj0 : (0 : Int) < (j : Int) := by omega
      have hj9 : (j : Int) ≤ 9223372036854775807 := hj.2
      go_wp2_with fail
      refine (c_l05AnyKey HC.out HD.out.src).mono ?_
      rintro e w2 ⟨u, rfl, hu, hS2, hg2⟩
      have HD2 := hide (HD.out.step hS2 hg2)
      clear HD hS2 hg2
      go_wp2_with fail
      obtain ⟨pa, pc, rfl⟩ := HD2.out.own.any
      obtain ⟨n, hn⟩ : ∃ n, L.length = n := ⟨_, rfl⟩
      rw [hn] at HD2 H30
      have HN := hide hn
      clear hn
      refine regionK (fun W' => DT W w B ao ln cap s W' (.slice pa n pc) d t L) 6 (by rfl) ?_
      refine takeK (i := 0) (d := 20) (v := .agg #[.slice pa n pc, .int .i64 d, .int .i64 t]) rfl rfl (by kernel_rfl) (by kernel_rfl) (by kernel_rfl) (by decide) (by kernel_rfl) (fun _ _ _ h => h) (Or.inl ⟨by rfl, fun W hW => ?_⟩) HD2.out.drew ?_
      · obtain ⟨x0, x1, x2⟩ := cell3 hW.row
        go_simp
      simp only [List.setIfInBounds_toArray, List.set_cons_zero, List.set_cons_succ]
      refine takeK (i := 1) (d := 21) (v := .string u) rfl rfl (by kernel_rfl) (by kernel_rfl) (by kernel_rfl) (by decide) (by kernel_rfl) (fun _ _ _ h => h) (Or.inl ⟨by rfl, fun W hW => ?_⟩) HD2.out.drew ?_
      · clear hW
        go_simp
      simp only [List.setIfInBounds_toArray, List.set_cons_zero, List.set_cons_succ]
      refine takeK (i := 2) (d := 22) (v := .pointer (some ⟨s, 0, none⟩)) rfl rfl (by kernel_rfl) (by kernel_rfl) (by kernel_rfl) (by decide) (by kernel_rfl) (fun _ _ _ h => h) (Or.inl ⟨by rfl, fun W hW => ?_⟩) HD2.out.drew ?_
      · clear hW
        go_simp
      simp only [List.setIfInBounds_toArray, List.set_cons_zero, List.set_cons_succ]
      refine oneK (i := 3) (by kernel_rfl) rfl (fun K hK => ?_)
      go_simp
      refine (c_n HC.out HD2.out.drew.src _ (by omega)).mono ?_
      rintro e w3 ⟨c, rfl, c0, c1, _, hS3, hg3⟩
      have c1 := c1 (by omega)
      have w1c : IntKind.i64.wrap (1 + c) = 1 + c := IntWalk.i64_in _ ⟨by omega, by omega⟩
      have HD3 := hide (HD2.out.drew.step hS3 hg3)
      dsimp only
      refine hK.out _ _ (fun _ => HD3.out) ?_
      clear hK K hS3 hg3
      try simp only [Act.put, List.setIfInBounds_toArray, List.set_cons_zero, List.set_cons_succ]
      refine takeK (i := 4) (d := 24) (v := .int .i64 (1 + c)) rfl rfl (by kernel_rfl) (by kernel_rfl) (by kernel_rfl) (by decide) (by kernel_rfl) (fun _ _ _ h => h) (Or.inl ⟨by rfl, fun W hW => ?_⟩) HD3.out ?_
      · clear hW
        go_simp
      simp only [List.setIfInBounds_toArray, List.set_cons_zero, List.set_cons_succ]
      refine oneK (i := 5) (by kernel_rfl) rfl (fun K hK => ?_)
      go_simp
      refine (c_s_TopPut (by omega) HN.out (by have := H30.out; omega) HD3.out.own.cap.2.1 HD3.out.own.cap.2.2.1 HD3.out.own.at HD3.out.own.cap.2.2.2 HD3.out.ok HD3.out.hd HD3.out.ht (by unfold I64; omega)).mono ?_
      rintro e w4 ⟨v4, rfl, hb4, hq4⟩
      obtain ⟨L4, d4, t4, ho, hd4, ht4, ok4, len4⟩ := put_outT hu HD3.out.hd HD3.out.ht HD3.out.ok (by rw [HN.out]; exact H30.out) hq4
      obtain ⟨p4, rfl, o4⟩ := ho
      have HD4 := hide (HD3.out.past hb4)
      have HD5 := hide (HD3.out.put hb4 o4 hd4 ht4 ok4 (by omega))
      have H5 : Hid (L4.length ≤ 30) := len4
      obtain ⟨ao4, c4, rfl⟩ := o4.any
      obtain ⟨n4, hn4⟩ : ∃ n, L4.length = n := ⟨_, rfl⟩
      rw [hn4] at HD5
      rw [hn4]
      dsimp only
      refine hK.out _ _ (fun _ => HD4.out) ?_
      clear hK K hb4 hq4 o4 hd4 ht4 ok4 len4 hn4
      try simp only [Act.put, List.setIfInBounds_toArray, List.set_cons_zero, List.set_cons_succ]
      refine oneK (i := 6) (by kernel_rfl) rfl (fun K hK => ?_)
      obtain ⟨q0, q1, q2⟩ := cell3 HD4.out.row
      have fr0 := frozen_of_row w4 (w.heap.size + 1) 0 _ _ HD4.out.row
      have fr1 := frozen_of_row w4 (w.heap.size + 1) 1 _ _ HD4.out.row
      have fr2 := frozen_of_row w4 (w.heap.size + 1) 2 _ _ HD4.out.row
      go_simp
      refine hK.out _ _ (fun h => absurd rfl h) ?_
      clear hK K
      try simp only [Act.put, List.setIfInBounds_toArray, List.set_cons_zero, List.set_cons_succ]
      refine doneK (by kernel_rfl) ?_ _
      clear q0 q1 q2 fr0 fr1 fr2
      go_wp2
      go_roundw
      case rel => exact ⟨j - 1, _, d4, t4, L4, by congr 1; omega, by unfold I64 at *; omega, HD5, H5⟩
      case measure => simp [RowKit.intOf]; omega
end Go.Proofs.Ytmhojmgemiphkaa
