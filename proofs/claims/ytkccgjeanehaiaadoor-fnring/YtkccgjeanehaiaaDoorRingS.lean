/-
  The contracts of spec.l02Ring and spec.RingOf: the ring by laying each mark where it belongs.
-/
import Derived.Test.YtkccgjeanehaiaaDoorRingJ
import Derived.Test.YtkccgjeanehaiaaDoorDecC
import Derived.Deep.DeepCutAuto
import Derived.Deep.CutBlock
namespace Go.Proofs.YtkccgjeanehaiaaDoor
set_option linter.unusedVariables false
set_option linter.unusedSimpArgs false
open Go.ChangeShapes Go.WideShapes Go.ChangeAt Go.RowKit Go.PlainAid Go.Lib Go.Shelf
open Go.Sort hiding Below

theorem c_l01Dec8 (k : Nat) (hk : k < 8) (w : World) :
    Calls Tryd.prog 41 #[.int .i64 k] w fun e w' => e = .returned (.string ⟨(Lib.decDigits k).toArray⟩) ∧ Below w.heap.size w w' := by
  rcases Nat.eq_zero_or_pos k with rfl | h
  · have e : (⟨(Lib.decDigits 0).toArray⟩ : ByteArray) = ⟨#[48]⟩ := by rw [Lib.decDigits_one (by omega)]; rfl
    rw [e]
    go_enter Tryd.func41, Tryd.ntmps41
    go_wp2
    go_ret
    exact ⟨rfl, Below.refl _ _⟩
  · exact c_l01Dec_pos k (by omega) (by omega) w

theorem str_add {a b : ByteArray} (h : a.size + b.size ≤ 1000000) : Op.stringOp .add a b = pure (.string (a ++ b)) := by
  unfold Op.stringOp
  have : ¬ (((a.size + b.size : Nat) : Int) > IntKind.i64.max) := by
    have e : IntKind.i64.max = 9223372036854775807 := by decide
    rw [e]; omega
  simp only [if_neg this]
theorem own_cap {w : World} {B g c n : Nat} {T : TypeId} {s : Nat} {xs : List Value} (h : w.ownsRow B T s (.slice (some ⟨g, 0, none⟩) n c) n xs) : n ≤ c := by
  rcases h.2 with ⟨e, _⟩ | ⟨g', c', cur, e, _, _, h1, _⟩
  · cases e
  · cases e; exact h1
theorem own_form {w : World} {B n : Nat} {T : TypeId} {s : Nat} {v : Value} {xs : List Value} (h : w.ownsRow B T s v n xs) (hn : 0 < n) : ∃ g c, v = .slice (some ⟨g, 0, none⟩) n c := by
  rcases h.2 with ⟨_, e⟩ | ⟨g, c, _, e, _⟩
  · omega
  · exact ⟨g, c, e⟩
theorem own_capm {w : World} {B g c n : Nat} {T : TypeId} {s : Nat} {xs : List Value} (h : w.ownsRow B T s (.slice (some ⟨g, 0, none⟩) n c) n xs) : c ≤ 9223372036854775807 := by
  rcases h.2 with ⟨e, _⟩ | ⟨g', c', cur, e, _, _, _, h1, _⟩
  · cases e
  · cases e; exact h1
theorem encM_one (m : Mk) : ∀ u ∈ encM m, u.oneCell' = true := fun u hu => by simp [encM] at hu; rcases hu with rfl | rfl <;> rfl
theorem fl_oneM (R : List Mk) : ∀ u ∈ fl encM R, u.oneCell' = true := fun u hu => by
  obtain ⟨m, _, h⟩ := List.mem_flatMap.1 hu
  exact encM_one m u h
theorem hide {p : Prop} (h : p) : Hid p := h
theorem drews_add (w : World) (a b : Nat) : (w.drewN a).drewN b = w.drewN (a + b) := by simp [World.drewN, Nat.add_assoc]
/-- What was owned stays so, where all old blocks stay. -/
theorem own_past {w w' : World} {B : Nat} {T : TypeId} {s : Nat} {v : Value} {n : Nat} {xs : List Value} (h : w.ownsRow B T s v n xs) (hb : Below w.heap.size w w') : w'.ownsRow B T s v n xs := by
  refine ⟨h.1, ?_⟩
  rcases h.2 with h | ⟨g, cap, cur, e, h1, h2, h3⟩
  · exact .inl h
  · exact .inr ⟨g, cap, cur, e, h1, by rw [hb.block g (Array.getElem?_eq_some_iff.1 h2).1]; exact h2, h3⟩

set_option maxRecDepth 10000 in
set_option maxHeartbeats 4000000 in
theorem c_s_l02Ring {w : World} {ao : Option Addr} {L : List ByteArray} (cap : Nat) (hL : membersB L = true) (hA : StrsAt w ao L) :
    Calls Tryd.prog 31 #[.slice ao L.length cap] w fun e w' => ∃ g cp R, e = .returned (.slice (some ⟨g, 0, none⟩) R.length cp) ∧ IsRing L R ∧ w'.ownsRow w.heap.size 32 2 (.slice (some ⟨g, 0, none⟩) R.length cp) R.length (fl encM R) ∧ Below w.heap.size w w' := by
  obtain ⟨i0, hi, hz0, hz1, hz2⟩ := info_parts infoM
  obtain ⟨hl1, hl12⟩ := memb_len hL
  have hgt := op_gtr 9
  obtain ⟨N, hN⟩ : ∃ N, L.length = N := ⟨_, rfl⟩
  have HN : Hid (L.length = N) := hN
  have HL : Hid (membersB L = true) := hL
  rw [hN] at hl1 hl12
  rw [hN]
  clear hN hL
  go_enter Tryd.func31, Tryd.ntmps31
  go_wp2
  go_loopw [3, 4] (fun v i wr => ∃ (p : Nat) (R : List Mk) (go co : Nat), p ≤ N ∧ i = .int .i64 p ∧ v = .slice (some ⟨go, 0, none⟩) (8 * p) co ∧ R.Perm (mks L (8 * p)) ∧ R.Pairwise mle ∧ wr.ownsRow w.heap.size 32 2 (.slice (some ⟨go, 0, none⟩) (8 * p) co) (8 * p) (fl encM R) ∧ Below w.heap.size w wr) (fun v i wr => N - (intOf i).toNat)
  case atStart => exact ⟨0, [], w.heap.size, 0, Nat.zero_le _, rfl, rfl, List.Perm.refl _, List.Pairwise.nil, World.ownsRow_made w #[] 0 (Nat.le_refl _) (Nat.zero_le _) rfl, (Below.refl _ _).alloc (Nat.le_refl _) _⟩
  case round =>
    obtain ⟨p, R0, go0, co0, hp, rfl, rfl, hPm, hPw, hown, hbel⟩ := hrel
    by_cases hpn : p < N
    · obtain ⟨b, off, rfl, hcell⟩ := hA (by have := HN.out; omega)
      obtain ⟨u, hpu⟩ : ∃ u, L[p]? = some u := ⟨L[p]'(by have := HN.out; omega), List.getElem?_eq_getElem _⟩
      have hus := (name_size (memb_name HL.out (List.mem_of_getElem? hpu))).2
      have HU : Hid (L[p]? = some u) := hpu
      have HC : Hid (w.cell? ⟨b, off + p, none⟩ = some (.string u)) := hcell p u hpu
      clear hcell hpu
      go_wp2
      go_loopw [3, 5] (fun v2 i wr2 => ∃ (k : Nat) (R : List Mk) (go co : Nat), k ≤ 8 ∧ i = .int .i64 k ∧ v2 = .slice (some ⟨go, 0, none⟩) (8 * p + k) co ∧ R.Perm (mks L (8 * p + k)) ∧ R.Pairwise mle ∧ wr2.ownsRow w.heap.size 32 2 (.slice (some ⟨go, 0, none⟩) (8 * p + k) co) (8 * p + k) (fl encM R) ∧ Below w.heap.size w wr2) (fun v2 i wr2 => 8 - (intOf i).toNat)
      case atStart => exact ⟨0, R0, go0, co0, Nat.zero_le _, rfl, rfl, hPm, hPw, hown, hbel⟩
      case round =>
        clear hown hbel hPm hPw
        obtain ⟨k, R, go, co, hk, rfl, rfl, hPm, hPw, hown, hbel⟩ := hrel
        obtain ⟨M, hM⟩ : ∃ M, 8 * p + k = M := ⟨_, rfl⟩
        rw [hM] at hPm hown
        rw [hM]
        by_cases hk8 : k < 8
        · obtain ⟨D, hD⟩ : ∃ D : ByteArray, D = ⟨(Lib.decDigits k).toArray⟩ := ⟨_, rfl⟩
          have hDs : D.size = 1 := by rw [hD]; show (Lib.decDigits k).toArray.size = 1; rw [List.size_toArray]; exact decDig k hk8
          have hcI := fun W => c_l01Dec8 k hk8 W
          rw [← hD] at hcI
          obtain ⟨X, hX⟩ : ∃ X : Int, X = hashT (u ++ ⟨#[35]⟩ ++ D) := ⟨_, rfl⟩
          have hXs : (u ++ ⟨#[35]⟩ ++ D).size = u.size + 2 := by rw [ByteArray.size_append, ByteArray.size_append, hDs]; rfl
          have hcH := fun W => c_s_l02Hash (u ++ ⟨#[35]⟩ ++ D) (by unfold maxLen; omega) W
          rw [← hX] at hcH
          have HX : Hid (mks L (M + 1) = mks L M ++ [(X, u)]) := by
            rw [← hM, mks_succ, mk_eq HU.out hk8, hX, hD]; rfl
          have hc := cell_past hbel HC.out
          have hcb : b < wr.heap.size := World.block_lt_of_cell? _ _ hc
          have hs35 : (⟨#[35]⟩ : ByteArray).size = 1 := rfl
          have hadd1 : Op.stringOp .add u ⟨#[35]⟩ = pure (.string (u ++ ⟨#[35]⟩)) := str_add (by omega)
          have hadd2 : Op.stringOp .add (u ++ ⟨#[35]⟩) D = pure (.string (u ++ ⟨#[35]⟩ ++ D)) := str_add (by rw [ByteArray.size_append]; omega)
          have HO : Hid (wr.ownsRow w.heap.size 32 2 (.slice (some ⟨go, 0, none⟩) M co) M (fl encM R)) := hown
          have HB : Hid (Below w.heap.size w wr) := hbel
          have HM : Hid (8 * p + k = M) := hM
          have hMb : M ≤ 96 := by omega
          have HP : Hid (R.Perm (mks L M) ∧ R.Pairwise mle) := ⟨hPm, hPw⟩
          have hsz := hbel.size
          clear hD hX hXs hown hbel hPm hPw hM
          go_wp2_with fail
          go_cut [6] (fun v w' => ∃ g : Nat, v = .pointer (some ⟨g, 0, none⟩) ∧ w'.cell? ⟨g, 0, none⟩ = some (.int .u64 X) ∧ w'.cell? ⟨g, 1, none⟩ = some (.string u) ∧ wr.heap.size ≤ g ∧ g < w'.heap.size ∧ Below wr.heap.size wr w')
          case first =>
            go_region_held3 (Kept wr.heap.size wr)
              (refine held ?_ (by simp) <;> first | exact (Below.refl _ _).drew | exact ((Below.refl _ _).alloc (by simp) _).drew | exact hS1 | exact Below.alloc hS1 (by omega) _ | exact Below.setCell (Below.setCell hS1 (by dsimp only; omega) _) (by dsimp only; omega) _)
              (first
                | (go_at_call 41; refine (hcI _).mono ?_; rintro e w1 ⟨rfl, hb1⟩; obtain ⟨hS1, hS2⟩ := held_call hb1 ‹Kept _ _ _›; (first | have hT := chain hT hb1 | have hT := hb1); obtain ⟨hc1, hf1⟩ := bcell hT; have hz2 := hb1.size; (try simp at hz2); clear hb1)
                | (go_at_call 35; refine (hcH _).mono ?_; rintro e w1 ⟨rfl, hw1⟩; subst hw1))
            all_goals (go_wp2; go_meet)
            all_goals
              have hK := ‹Kept _ _ _›
              refine ⟨_, rfl, ?_, ?_, ?_, ?_, hK.1⟩
              · go_simp
              · go_simp
              · omega
              · first | (simp; done) | (simp; omega)
          case rest =>
            clear hcI hcH hadd1 hadd2 hc hs35 hDs
            obtain ⟨g, rfl, hg0, hg1, hgl, hgz, hB⟩ := hcut
            have HO2 : Hid (wc.ownsRow w.heap.size 32 2 (.slice (some ⟨go, 0, none⟩) M co) M (fl encM R)) := own_past HO.out hB
            have HB2 : Hid (Below w.heap.size w wc) := HB.out.trans (hB.mono hsz)
            have hRl : R.length = M := by rw [HP.out.1.length_eq, mks_len]
            clear HO HB hB
            go_upto_block 4 with fail
            go_cut [7] (fun v w' => ∃ n q : Nat, v = .int .i64 n ∧ w' = wc.drewN q ∧ n ≤ M ∧ (n = 0 ∨ ∃ a, R[n - 1]? = some a ∧ mle a (X, u)) ∧ ∀ j a, n ≤ j → R[j]? = some a → mle (X, u) a)
            case first =>
              go_wp2_with fail
              go_loopw [7] (fun i wr2 => ∃ n q : Nat, n ≤ M ∧ i = .int .i64 n ∧ wr2 = wc.drewN q ∧ ∀ j a, n ≤ j → R[j]? = some a → mle (X, u) a) (fun i _ => (intOf i).toNat)
              case atStart => exact ⟨M, 0, Nat.le_refl _, rfl, rfl, fun j a hj h => absurd (List.getElem?_eq_some_iff.1 h).1 (by omega)⟩
              case round =>
                obtain ⟨n, q, hn, rfl, rfl, hhi⟩ := hrel
                have HH : Hid (∀ j a, n ≤ j → R[j]? = some a → mle (X, u) a) := hhi
                clear hhi
                rcases Nat.eq_zero_or_pos n with rfl | hpos
                · go_wp2
                  go_quiet (fail)
                  go_wp2
                  go_meet
                  exact ⟨0, _, rfl, (by first | rfl | exact drews_add _ _ _), Nat.zero_le _, .inl rfl, HH.out⟩
                · obtain ⟨j, hj1⟩ : ∃ j, j + 1 = n := ⟨n - 1, by omega⟩
                  obtain ⟨⟨ax, um⟩, hRj⟩ : ∃ a, R[j]? = some a := ⟨R[j]'(by omega), List.getElem?_eq_getElem _⟩
                  have hc0 : wc.cell? ⟨go, j * 2, none⟩ = some (.int .u64 ax) := by
                    rw [HO2.out.cellAt _ (by omega)]
                    have := fl_at encM2 R j _ 0 (by omega) hRj
                    rw [Nat.add_zero] at this; rw [this]; rfl
                  have hc1 : wc.cell? ⟨go, j * 2 + 1, none⟩ = some (.string um) := by
                    rw [HO2.out.cellAt _ (by omega), fl_at encM2 R j _ 1 (by omega) hRj]; rfl
                  have ek : ((n : Int) - 1) = (j : Int) := by omega
                  have ew : IntKind.i64.wrap (j : Int) = j := IntWalk.i64_in _ ⟨by omega, by omega⟩
                  have hpi : (0 : Int) < (n : Int) := by omega
                  have hjM : j < M := by omega
                  have HJ : Hid (j + 1 = n) := hj1
                  have HR : Hid (R[j]? = some (ax, um)) := hRj
                  have on : mle (X, u) (ax, um) → ∀ i a, j ≤ i → R[i]? = some a → mle (X, u) a := fun hm i a hi ha => by
                    by_cases e : i = j
                    · subst e; rw [hRj] at ha; obtain rfl := Option.some.inj ha; exact hm
                    · exact HH.out i a (by omega) ha
                  have ON : Hid (mle (X, u) (ax, um) → ∀ i a, j ≤ i → R[i]? = some a → mle (X, u) a) := on
                  have off_ : mle (ax, um) (X, u) → (n = 0 ∨ ∃ a, R[n - 1]? = some a ∧ mle a (X, u)) := fun hm => .inr ⟨(ax, um), by rw [← hj1]; exact hRj, hm⟩
                  have OFF : Hid (mle (ax, um) (X, u) → (n = 0 ∨ ∃ a, R[n - 1]? = some a ∧ mle a (X, u))) := off_
                  clear on off_ hj1 hRj
                  rcases Int.lt_trichotomy X ax with ht | ht | ht
                  · have ht2 : X < ax := ht
                    go_wp2
                    go_quiet (fail)
                    go_wp2
                    go_roundw
                    case rel => exact ⟨j, _, by omega, rfl, (by first | rfl | exact drews_add _ _ _), ON.out (.inl ht)⟩
                    case measure => simp [intOf]; have := HJ.out; omega
                  · subst ht
                    cases hlt : strLt u um
                    · go_wp2
                      go_quiet (fail)
                      go_wp2
                      go_meet
                      exact ⟨n, _, rfl, (by first | rfl | exact drews_add _ _ _), hn, OFF.out (.inr ⟨rfl, hlt⟩), HH.out⟩
                    · go_wp2
                      go_quiet (fail)
                      go_wp2
                      go_roundw
                      case rel => exact ⟨j, _, by omega, rfl, (by first | rfl | exact drews_add _ _ _), ON.out (.inr ⟨rfl, strLt_ant hlt⟩)⟩
                      case measure => simp [intOf]; have := HJ.out; omega
                  · have h1 : decide (X < ax) = false := decide_eq_false (by omega)
                    have h2 : (ax == X) = false := beq_eq_false_iff_ne.2 (by omega)
                    go_wp2
                    go_quiet (fail)
                    go_wp2
                    go_meet
                    exact ⟨n, _, rfl, (by first | rfl | exact drews_add _ _ _), hn, OFF.out (.inl ht), HH.out⟩
            case rest =>
              obtain ⟨n, q, rfl, rfl, hn, hlo, hhi⟩ := hcut
              have HPut : Hid ((R.take n ++ (X, u) :: R.drop n).Pairwise mle ∧ (R.take n ++ (X, u) :: R.drop n).Perm (mks L (M + 1))) := ⟨put_sorted HP.out.2 (by omega) hlo hhi, by rw [HX.out]; exact (put_perm R (X, u) n).trans (HP.out.1.append_right _)⟩
              clear hlo hhi
              have hMco : M ≤ co := own_cap HO2.out
              have hcom : co ≤ 9223372036854775807 := own_capm HO2.out
              have hnM : (n : Int) ≤ (M : Int) := by omega
              have hnco : (n : Int) ≤ (co : Int) := by omega
              have l1 : (fl encM (R.take n)).length = n * 2 := by rw [fl_len encM2, List.length_take, Nat.min_eq_left (by omega)]
              have l3 : (fl encM (R.drop n)).length = (M - n) * 2 := by rw [fl_len encM2, List.length_drop, hRl]
              have c1 : ∀ W, Below wc.heap.size wc W → ∀ j u, (fl encM (R.take n))[j]? = some u → W.cell? ((⟨go, 0, none⟩ : Addr).add j) = some u := fun W hW j u hj => by
                have hjl := (List.getElem?_eq_some_iff.1 hj).1
                rw [Addr.add_lit, Nat.zero_add, (own_past HO2.out hW).cellAt j (by omega)]
                conv => lhs; rw [← List.take_append_drop n R]
                rw [fl_app, List.getElem?_append_left hjl]; exact hj
              obtain ⟨A, hA1, hA2⟩ : ∃ A : Addr, (if co = n then some (⟨go, 0, none⟩ : Addr) else some ⟨go, n * 2, none⟩) = some A ∧ ∀ W, Below wc.heap.size wc W → ∀ j u, (fl encM (R.drop n))[j]? = some u → W.cell? (A.add j) = some u := by
                by_cases e : co = n
                · refine ⟨_, if_pos e, fun W hW j u hj => ?_⟩
                  have hjl := (List.getElem?_eq_some_iff.1 hj).1
                  rw [l3] at hjl; omega
                · refine ⟨_, if_neg e, fun W hW j u hj => ?_⟩
                  have hjl := (List.getElem?_eq_some_iff.1 hj).1
                  rw [Addr.add_lit, (own_past HO2.out hW).cellAt (n * 2 + j) (by omega)]
                  conv => lhs; rw [← List.take_append_drop n R]
                  rw [fl_app, List.getElem?_append_right (by omega), l1, show n * 2 + j - n * 2 = j by omega]; exact hj
              have hb0 : ∀ o, Below wc.heap.size wc ((wc.drewN q).alloc o) := fun o => (bel_drews (Below.refl _ _) q).alloc (by exact Nat.le_refl _) o
              have C1 := hide c1
              have C3 := hide hA2
              have B0 := hide hb0
              have L1 := hide l1
              have L3 := hide l3
              clear c1 hA2 hb0 l1 l3
              go_wp2_with (first
                | (at_builtin; refine wpList_append_own _ rfl (.tmp 73) (.tmp 76) 28 rfl wc.heap.size 32 i0 (.agg #[.int .u64 0, .string ByteArray.empty]) 2 24 Tryd.underlying28 hi hz0 hz1 hz2 rfl (by decide) _ _ _ rfl (World.ownsRow_made (wc.drewN q) #[] 0 (by exact Nat.le_refl _) (Nat.zero_le _) rfl) ⟨go, 0, none⟩ n co (fl encM (R.take n)) rfl L1.out (C1.out _ (B0.out _)) (fl_oneM _) (by unfold maxLen; omega) (by omega) (by simp) ?_; intro v1 w1 hown1 hgrow1 hnil1; simp only [Nat.zero_add, List.nil_append] at hown1; have hb1 := (B0.out _).grown hgrow1 (by simp) (fun j hj => Nat.le_of_eq (Option.some.inj hj)); have m0 := cell_past hb1 hg0; have m1 := cell_past hb1 hg1; have O1 := hide hown1; have B1 := hide hb1; clear hown1 hgrow1 hnil1 hb1)
                | (at_builtin; refine wpList_append_own _ rfl (.tmp 78) (.tmp 80) 28 rfl wc.heap.size 32 i0 (.agg #[.int .u64 0, .string ByteArray.empty]) 2 24 Tryd.underlying28 hi hz0 hz1 hz2 rfl (by decide) _ _ _ rfl (O1.out.alloc _) ⟨w1.heap.size, 0, none⟩ 1 1 (encM (X, u)) rfl rfl (new_cells (cs := #[.int .u64 X, .string u]) rfl) (encM_one _) (by unfold maxLen; omega) (by omega) (by simp; have := B1.out.size; omega) ?_; intro v2 w2 hown2 hgrow2 hnil2; have hb2 := (B1.out.alloc B1.out.size _).grown hgrow2 (by simp; have := B1.out.size; omega) (fun j hj => (O1.out.lt j hj).1); have O2 := hide hown2; have B2 := hide hb2; clear hown2 hgrow2 hnil2 hb2)
                | (at_builtin; refine wpList_append_own _ rfl (.tmp 82) (.tmp 85) 28 rfl wc.heap.size 32 i0 (.agg #[.int .u64 0, .string ByteArray.empty]) 2 24 Tryd.underlying28 hi hz0 hz1 hz2 rfl (by decide) _ _ _ rfl O2.out A (M - n) (co - n) (fl encM (R.drop n)) rfl L3.out (C3.out _ B2.out) (fl_oneM _) (by unfold maxLen; omega) (by omega) B2.out.size ?_; intro v3 w3 hown3 hgrow3 hnil3; have hb3 := B2.out.grown hgrow3 B2.out.size (fun j hj => (O2.out.lt j hj).1); have O3 := hide hown3; have B3 := hide hb3; clear hown3 hgrow3 hb3))
              have hO : w3.ownsRow wc.heap.size 32 2 v3 (M + 1) (fl encM (R.take n ++ (X, u) :: R.drop n)) := own_same O3.out (by omega) (by rw [fl_app, fl_cons, List.append_assoc])
              obtain ⟨g3, c3, hv3⟩ := own_form hO (by omega)
              subst hv3
              have e := HM.out
              go_roundw
              case rel =>
                refine ⟨k + 1, R.take n ++ (X, u) :: R.drop n, g3, c3, by omega, by go_num, ?_, ?_, HPut.out.1, ?_, HB2.out.trans (B3.out.mono HB2.out.size)⟩
                · rw [← Nat.add_assoc, e]
                · rw [← Nat.add_assoc, e]; exact HPut.out.2
                · rw [← Nat.add_assoc, e]; exact hO.mono HB2.out.size
              case measure => simp [intOf]; omega
        · have e : k = 8 := by omega
          subst e
          have e2 : M = 8 * (p + 1) := by omega
          subst e2
          have HO : Hid (wr.ownsRow w.heap.size 32 2 (.slice (some ⟨go, 0, none⟩) (8 * (p + 1)) co) (8 * (p + 1)) (fl encM R)) := hown
          have HB : Hid (Below w.heap.size w wr) := hbel
          have HP : Hid (R.Perm (mks L (8 * (p + 1))) ∧ R.Pairwise mle) := ⟨hPm, hPw⟩
          clear hown hbel hPm hPw hM
          go_wp2
          go_roundw
          case rel => exact ⟨p + 1, R, go, co, by omega, by go_num, rfl, HP.out.1, HP.out.2, HO.out, HB.out⟩
          case measure => simp [intOf]; omega
    · have e : p = N := by omega
      subst e
      have HO : Hid (wr.ownsRow w.heap.size 32 2 (.slice (some ⟨go0, 0, none⟩) (8 * p) co0) (8 * p) (fl encM R0)) := hown
      have HB : Hid (Below w.heap.size w wr) := hbel
      have HP : Hid (R0.Perm (mks L (8 * p)) ∧ R0.Pairwise mle) := ⟨hPm, hPw⟩
      have HRl : Hid (8 * p = R0.length) := (by rw [hPm.length_eq, mks_len] : 8 * p = R0.length)
      clear hown hbel hPm hPw hA
      go_wp2
      go_ret
      have hl := HRl.out
      have hN := HN.out
      have hO := HO.out
      rw [hl] at hO
      refine ⟨go0, co0, R0, by rw [← hl]; rfl, ⟨?_, HP.out.2⟩, hO, HB.out⟩
      rw [hN]; exact HP.out.1

set_option maxHeartbeats 1000000 in
theorem c_s_RingOf {w : World} {ao : Option Addr} {L : List ByteArray} (cap : Nat) (hl : L.length ≤ 1048576) (hu : ∀ u ∈ L, u.size ≤ 1048576) (hA : StrsAt w ao L) :
    Calls Tryd.prog 14 #[.slice ao L.length cap] w fun e w' => ∃ v R, e = .returned v ∧ RingAns L R ∧ w'.ownsRow w.heap.size 32 2 v R.length (fl encM R) ∧ Below w.heap.size w w' := by
  have hcM := c_s_MembersRight cap hl hu hA
  cases hL : membersB L
  · rw [hL] at hcM
    have HL : Hid (membersB L = false) := hL
    clear hL hA hu
    go_enter Tryd.func14, Tryd.ntmps14
    go_wp2_with (go_at_call 9; refine hcM.mono ?_; rintro e w1 ⟨rfl, hb1⟩)
    go_ret
    exact ⟨_, [], rfl, .inr ⟨HL.out, rfl⟩, World.ownsRow_made w1 #[] 0 hb1.size (Nat.zero_le _) rfl, hb1.alloc hb1.size _⟩
  · have hcR := fun W (h : StrsAt W ao L) => c_s_l02Ring cap hL h
    rw [hL] at hcM
    have HL : Hid (membersB L = true) := hL
    clear hL hu
    go_enter Tryd.func14, Tryd.ntmps14
    go_wp2_with (first
      | (go_at_call 9; refine hcM.mono ?_; rintro e w1 ⟨rfl, hb1⟩)
      | (go_at_call 31; refine (hcR _ (strs_past hA hb1)).mono ?_; rintro e w2 ⟨g, cp, R, rfl, hR, hown, hb2⟩))
    go_ret
    exact ⟨_, R, rfl, .inl ⟨HL.out, hR⟩, hown.mono hb1.size, chain hb1 hb2⟩
end Go.Proofs.YtkccgjeanehaiaaDoor
