/-
  The law FnExact: of at most as many words as are kept their number is told, however often each comes. No condition.
-/
import Derived.Test.YtljhjcmodaaaoaaHlQ
import Derived.Test.YtljhjcmodaaaoaaLwC
import Derived.Test.YtljhjcmodaaaoaaHashC
import Derived.Test.YtljhjcmodaaaoaaOpenC
namespace Go.Proofs.Ytljhjcmodaaaoaa
set_option linter.unusedVariables false
set_option linter.unusedSimpArgs false
open Go.ChangeMaps (open_string shut_string)
open Go.ChangeShapes Go.WideShapes Go.ChangeAt Go.RowKit Go.PlainAid
set_option maxRecDepth 10000

theorem three_byte (w : World) (x y : Int) : (convert 33 9 (.slice (some ⟨w.heap.size, 0, none⟩) 3 3)).run Try.prog (w.alloc (.cells #[.int .u8 119, .int .u8 x, .int .u8 y] 5)) = .ok (.string (strOfNums [119, x, y])) (w.alloc (.cells #[.int .u8 119, .int .u8 x, .int .u8 y] 5)) :=
  run_convert_bytes_arg (P := Try.prog) (w.alloc (.cells #[.int .u8 119, .int .u8 x, .int .u8 y] 5)) 33 5 Try.underlying33 Try.underlying5 w.heap.size 0 3 3 [119, x, y] rfl (fun i hi => by
    have : i = 0 ∨ i = 1 ∨ i = 2 := by omega
    rcases this with rfl | rfl | rfl <;> simp) 9 Try.underlying9
/-- What the loop keeps. -/
def ExI (w wr : World) (ao : Option Addr) (n c : Nat) : Prop := ∃ (E L : List Int) (ea ra : Option Addr) (ec rd : Nat),
  E.Pairwise (· < ·) ∧ E.length = n ∧ L.length = n ∧ (∀ x, x ∈ E ↔ x ∈ L) ∧ (∀ x ∈ E, U64 x) ∧ wr.heap[w.heap.size]? = some (.cells #[.slice ea n ec, .slice ra 0 rd] 27 (0, 0)) ∧ Flat ea ∧ Flat ra ∧ NumsAt .u64 wr ea E ∧ wr.ownsRow (w.heap.size + 1) 34 1 (.slice ao n c) n (L.map (Value.int .u64)) ∧ Below w.heap.size w wr
theorem put_exact {E E' R' : List Int} {x : Int} (hp : E.Pairwise (· < ·)) (h : E.length < 40) (p : PutH E [] x E' R') : E' = insU E x ∧ R' = [] := by
  have hb : hlB E [] = true := by unfold hlB exB; rw [if_pos (by rfl : ([] : List Int).length = 0), up_of_pair hp]; simp; omega
  unfold PutH at p
  rw [if_pos hb] at p
  have e := all_one (up_of_pair hp) x
  have l := len_insU E x hp
  rcases p with ⟨_, _, _, a, b⟩ | ⟨a, _⟩
  · exact ⟨a.trans e, b⟩
  · refine absurd ⟨rfl, rfl, ?_⟩ a
    rw [e, l]; split <;> omega
theorem cnt_exact {E : List Int} {n : Nat} (hp : E.Pairwise (· < ·)) (hn : E.length = n) (h : n ≤ 40) : cntH E [] = n := by
  have hb : hlB E [] = true := by unfold hlB exB; rw [if_pos (by rfl : ([] : List Int).length = 0), up_of_pair hp]; simp; omega
  unfold cntH
  rw [if_pos hb, if_pos (by rfl : ([] : List Int).length = 0), hn]
theorem mem_take_iff {L : List Int} {k : Nat} {y x : Int} (h : L[k]? = some y) : decide (x ∈ L.take (k + 1)) = (decide (x ∈ L.take k) || (y == x)) := by
  have := mem_take_step h x
  by_cases a : x ∈ L.take k
  · rw [decide_eq_true a, decide_eq_true (this.2 (.inl a))]; rfl
  · by_cases b : y = x
    · rw [decide_eq_true (this.2 (.inr b.symm)), b]; simp
    · rw [decide_eq_false a, decide_eq_false (fun h => (this.1 h).elim a (fun e => b e.symm))]; simp [b]

theorem hash_u64 (s : ByteArray) : U64 (hashF s) := by
  by_cases h : s.size ≤ 20000
  · rw [hashF_le h]; have := hx_in s s.size; unfold hashT U64; omega
  · rw [hashF_gt h]; unfold U64; omega
theorem own_blk {w : World} {B n s : Nat} {e : TypeId} {v : Value} {xs : List Value} (h : w.ownsRow B e s v n xs) : ∀ k, v.ownBlock = some k → B ≤ k ∧ k < w.heap.size := fun k hk => by
  rcases h.2 with ⟨e, h0⟩ | ⟨g, cap, cur, e, h1, h2, h3⟩
  · rw [e] at hk; cases hk
  · rw [e] at hk
    have hk' : g = k := Option.some.inj hk
    subst hk'
    exact ⟨h1, (Array.getElem?_eq_some_iff.1 h2).1⟩
theorem own_grown {w w' : World} {B n s : Nat} {e : TypeId} {v : Value} {xs : List Value} {row : Option Nat} (h : w.ownsRow B e s v n xs) (hg : w.grownBy w' row) (hr : ∀ k, v.ownBlock = some k → row ≠ some k) : w'.ownsRow B e s v n xs := by
  refine ⟨h.1, ?_⟩
  rcases h.2 with h2 | ⟨g, cap, cur, e, h1, h2, h3⟩
  · exact .inl h2
  · refine .inr ⟨g, cap, cur, e, h1, (hg.block g (Array.getElem?_eq_some_iff.1 h2).1 (fun hh => ?_)).trans h2, h3⟩
    exact hr g (by rw [e]; rfl) hh.symm

set_option maxHeartbeats 4000000 in
theorem walkExact (ao : Option Addr) (ln cap : Nat) (bo : Option Addr) (lm cbp : Nat) (w : World) (hl : ln ≤ maxLen) (ha : ln ≤ 1048576 → CodeAt w w.heap.size ao ln) (hm : lm ≤ maxLen) (hb : lm ≤ 1048576 → CodeAt w w.heap.size bo lm) :
    Calls Try.prog 5 #[.slice ao ln cap, .slice bo lm cbp] w fun e w' => e = .returned (.bool true) ∧ Below w.heap.size w w' := by
  have hlz : ln ≤ 9223372036854775807 := hl
  have hmz : lm ≤ 9223372036854775807 := hm
  by_cases hl1 : 1048576 < ln
  · have hl1i : (1048576 : Int) < (ln : Int) := by omega
    clear ha hb
    go_enter Try.func5, Try.ntmps5
    go_wp2
    go_ret
    exact ⟨rfl, Below.refl _ _⟩
  have hl1i : ¬ (1048576 : Int) < (ln : Int) := by omega
  by_cases hm1 : 1048576 < lm
  · have hm1i : (1048576 : Int) < (lm : Int) := by omega
    clear ha hb
    go_enter Try.func5, Try.ntmps5
    go_wp2
    go_ret
    exact ⟨rfl, Below.refl _ _⟩
  have hm1i : ¬ (1048576 : Int) < (lm : Int) := by omega
  have HA := hide (ha (by omega))
  have HB := hide (hb (by omega))
  clear ha hb
  obtain ⟨i0, hi, hy0, hy1, hy2⟩ := info_parts infoUint64S
  have INV0 : Hid (ExI w ((w.alloc (.cells #[.slice none 0 0, .slice none 0 0] 27)).alloc (.cells #[] 34)) (some ⟨w.heap.size + 1, 0, none⟩) 0 0) := by
    refine ⟨[], [], none, none, 0, 0, List.Pairwise.nil, rfl, rfl, fun x => Iff.rfl, fun x hx => by simp at hx, ?_, .inl rfl, .inl rfl, fun h => by simp at h, ?_, ((Below.refl _ _).alloc (Nat.le_refl _) _).alloc (by simp) _⟩
    · rw [heap_alloc_old _ _ (by simp)]; exact heap_alloc_new w _
    · have := World.ownsRow_made (base := w.heap.size + 1) (e := 34) (size := 1) (w.alloc (.cells #[.slice none 0 0, .slice none 0 0] 27)) #[] 0 (by simp) (Nat.zero_le _) rfl
      simpa using this
  go_enter Try.func5, Try.ntmps5
  go_wp2
  go_loopw [6, 7] (fun lv iv wr => ∃ (i n : Nat) (lo : Option Addr) (c : Nat), lv = .slice lo n c ∧ iv = .int .i64 i ∧ i ≤ 60 ∧ n ≤ 40 ∧ (0 < i → 0 < n) ∧ Hid (ExI w wr lo n c)) (fun lv iv wr => 60 - (RowKit.intOf iv).toNat)
  case atStart => exact ⟨0, 0, _, 0, rfl, rfl, by omega, by omega, by omega, INV0⟩
  case round =>
    clear INV0
    obtain ⟨i, n, lo, c, rfl, rfl, hi60, hn40, hin, INV⟩ := hrel
    obtain ⟨E, L, ea, ra, ec, rd, hp, hE, hL, hM, hU, hrow, fe, fr, hNE, hown, hbel⟩ := INV.out
    have HP := hide hp
    have HE := hide hE
    have HL := hide hL
    have HM := hide hM
    have HU := hide hU
    have HRow := hide hrow
    have Fe := hide fe
    have Fr := hide fr
    have HNE := hide hNE
    have HO := hide hown
    have HBl := hide hbel
    clear hp hE hL hM hU hrow fe fr hNE hown hbel INV
    by_cases hgo : i < 60 ∧ n < 40
    · obtain ⟨hlt, hnl⟩ := hgo
      have hlti : (i : Int) < 60 := by omega
      have hnli : (n : Int) < 40 := by omega
      have k1 : wr.cell? ⟨w.heap.size, 0, none⟩ = some (.slice ea n ec) := by rw [cell_of_row _ _ 0 _ _ (0, 0) HRow.out]; rfl
      have k2 : wr.cell? ⟨w.heap.size, 1, none⟩ = some (.slice ra 0 rd) := by rw [cell_of_row _ _ 1 _ _ (0, 0) HRow.out]; rfl
      have hgs := (Array.getElem?_eq_some_iff.1 HRow.out).1
      go_wp2_with fail
      refine (c_lwAtF ao ln cap i 60 (by omega) (by omega) (by omega) _ w HA.out HBl.out).mono ?_
      rintro e wr' ⟨rfl, hwr⟩
      obtain rfl := hwr.symm
      obtain ⟨v0, v1⟩ := lwF_in HA.out (show (0 : Int) < 60 by omega) i
      obtain ⟨vn, hvn⟩ : ∃ vn, lwF w ao ln i 60 = vn := ⟨_, rfl⟩
      rw [hvn] at v0 v1 ⊢
      clear hvn
      go_wp2_with fail
      refine (c_lwAtF bo lm cbp i 3 (by omega) (by omega) (by omega) _ w HB.out HBl.out).mono ?_
      rintro e wr' ⟨rfl, hwr⟩
      obtain rfl := hwr.symm
      obtain ⟨u0, u1⟩ := lwF_in HB.out (show (0 : Int) < 3 by omega) i
      obtain ⟨un, hun⟩ : ∃ un, lwF w bo lm i 3 = un := ⟨_, rfl⟩
      rw [hun] at u0 u1 ⊢
      clear hun
      have ew1 : IntKind.u8.wrap vn = vn := IntWalk.u8_in _ ⟨by omega, by omega⟩
      have ew2 : IntKind.u8.wrap un = un := IntWalk.u8_in _ ⟨by omega, by omega⟩
      have kc := three_byte wr vn un
      go_wp2_with fail
      refine (c_s_Hash (strOfNums [119, vn, un]) (by unfold maxLen; simp [strOfNums, ByteArray.size]) _).mono ?_
      rintro e w1 ⟨rfl, hw1⟩
      obtain rfl := hw1.symm
      have hux := hash_u64 (strOfNums [119, vn, un])
      obtain ⟨xx, hxx⟩ : ∃ xx, hashF (strOfNums [119, vn, un]) = xx := ⟨_, rfl⟩
      rw [hxx] at hux ⊢
      have HX := hide hux
      clear hxx kc v0 v1 u0 u1 ew1 ew2 hux
      have ba : Below wr.heap.size wr (wr.alloc (.cells #[.int .u8 119, .int .u8 vn, .int .u8 un] 5)) := (Below.refl _ _).alloc (Nat.le_refl _) _
      have HBa := hide ba
      have k1' := cell_past ba k1
      have k2' := cell_past ba k2
      clear ba k1 k2
      go_wp2_with fail
      refine (c_i_HllPut (R := []) xx HE.out rfl (by omega) (by simp) Fe.out Fr.out (nums_past HNE.out HBa.out) (fun h => by simp at h) HU.out HX.out).mono ?_
      rintro e w2 ⟨v2, E', R', rfl, hPut, ⟨p, q, rfl, o1, o2⟩, hb2⟩
      obtain ⟨rfl, rfl⟩ := put_exact HP.out (by rw [HE.out]; exact hnl) hPut
      have hlen := len_insU E xx HP.out
      obtain ⟨n', hn'⟩ : ∃ n', (insU E xx).length = n' := ⟨_, rfl⟩
      rw [hn', HE.out] at hlen
      rw [hn'] at o1
      have HN' := hide hn'
      obtain ⟨ea2, ec2, rfl⟩ := own_any o1
      obtain ⟨ra2, rd2, rfl⟩ := own_any o2
      have hb02 := HBa.out.trans (hb2.mono (by simp))
      have row2 := (hb02.block _ hgs).trans HRow.out
      have q0 : w2.cell? ⟨w.heap.size, 0, none⟩ = some (.slice ea n ec) := by rw [cell_of_row _ _ 0 _ _ (0, 0) row2]; rfl
      have q1 : w2.cell? ⟨w.heap.size, 1, none⟩ = some (.slice ra 0 rd) := by rw [cell_of_row _ _ 1 _ _ (0, 0) row2]; rfl
      have f0 := frozen_of_row w2 w.heap.size 0 _ _ row2
      have f1 := frozen_of_row w2 w.heap.size 1 _ _ row2
      simp only [World.size_alloc] at o1 o2
      have hz2 : wr.heap.size + 1 ≤ w2.heap.size := by have := hb2.size; simpa using this
      obtain ⟨w3, hw3⟩ : ∃ w3, (w2.setCell ⟨w.heap.size, 0, none⟩ (.slice ea2 n' ec2)).setCell ⟨w.heap.size, 1, none⟩ (.slice ra2 0 rd2) = w3 := ⟨_, rfl⟩
      have row3 : w3.heap[w.heap.size]? = some (.cells #[.slice ea2 n' ec2, .slice ra2 0 rd2] 27 (0, 0)) := by
        rw [← hw3]; exact heap_setCell_same _ _ 1 _ _ _ (heap_setCell_same w2 _ 0 _ _ _ row2)
      have O3 : w3.ownsRow (w.heap.size + 1) 34 1 (.slice lo n c) n (L.map (Value.int .u64)) := by
        rw [← hw3]
        repeat (refine ownsRow_setCell_below ?_ (by simp) _)
        exact own_past HO.out hb02
      have E3 : w3.ownsRow (wr.heap.size + 1) 34 1 (.slice ea2 n' ec2) n' ((insU E xx).map (Value.int .u64)) := by
        rw [← hw3]
        repeat (refine ownsRow_setCell_below ?_ (by simp; omega) _)
        exact o1
      have B3 : Below w.heap.size w w3 := by
        rw [← hw3]
        exact ((chain HBl.out hb02).setCell (Nat.le_refl _) _).setCell (Nat.le_refl _) _
      have hz3 : w3.heap.size = w2.heap.size := by rw [← hw3]; simp
      have blk := own_blk HO.out
      have fr2 : Flat ra2 := (nums_own (kd := .i64) (L := []) o2).2.1
      have H3r := hide row3
      have H3o := hide O3
      have H3e := hide E3
      have H3b := hide B3
      have HBk := hide blk
      have Fr2 := hide fr2
      have HW3 := hide hw3
      have hsz3 : wr.heap.size + 1 ≤ w3.heap.size := by omega
      have HLn := hide hlen
      have hn'41 : n' ≤ 40 := by split at hlen <;> omega
      have HNL : Hid (NumsAt .u64 w3 lo L) := (nums_own (kd := .u64) (L := L) (by rw [HL.out]; exact O3)).1
      clear hPut o1 o2 hb2 hb02 row2 hn' row3 O3 E3 B3 hz3 blk fr2 hw3 hlen HRow HO HNE HBa k1' k2'
      go_wp2_with fail
      rw [HW3.out]
      clear q0 q1 f0 f1 HW3
      go_loopw [9, 10] (fun bv kv wq => wq = w3 ∧ ∃ (k : Nat) (b : Bool), k ≤ n ∧ kv = .int .i64 k ∧ bv = .bool b ∧ Hid (b = decide (xx ∈ L.take k))) (fun bv kv wq => n - (RowKit.intOf kv).toNat)
      case atStart => exact ⟨rfl, 0, false, Nat.zero_le _, rfl, rfl, hide (by simp)⟩
      case round =>
        obtain ⟨hwq, k, b, hk, rfl, rfl, HD⟩ := hrel
        obtain rfl := hwq.symm
        by_cases hkn : k < n
        · have hkni : (k : Int) < (n : Int) := by omega
          obtain ⟨gb, off, e, hcell⟩ := HNL.out (by have := HL.out; omega)
          subst e
          obtain ⟨y, hy⟩ : ∃ y, L[k]? = some y := ⟨L[k]'(by have := HL.out; omega), List.getElem?_eq_getElem _⟩
          have hc0 := hcell k y hy
          have HT := hide (mem_take_iff (x := xx) hy)
          clear hcell hy
          cases b with
          | true =>
            have HD2 : Hid (true = decide (xx ∈ L.take (k + 1))) := (by rw [HT.out, ← HD.out]; rfl : true = decide (xx ∈ L.take (k + 1)))
            go_wp2
            go_roundw
            case rel => exact ⟨trivial, k + 1, true, by omega, by go_num, rfl, HD2⟩
            case measure => simp [RowKit.intOf]; omega
          | false =>
            by_cases hyx : y = xx
            · subst hyx
              have HD2 : Hid (true = decide (y ∈ L.take (k + 1))) := (by rw [HT.out]; simp : true = decide (y ∈ L.take (k + 1)))
              go_wp2
              go_roundw
              case rel => exact ⟨trivial, k + 1, true, by omega, by go_num, rfl, HD2⟩
              case measure => simp [RowKit.intOf]; omega
            · have hyb : (y == xx) = false := beq_eq_false_iff_ne.2 hyx
              have HD2 : Hid (false = decide (xx ∈ L.take (k + 1))) := (by rw [HT.out, ← HD.out, hyb]; rfl : false = decide (xx ∈ L.take (k + 1)))
              go_wp2
              go_roundw
              case rel => exact ⟨trivial, k + 1, false, by omega, by go_num, rfl, HD2⟩
              case measure => simp [RowKit.intOf]; omega
        · have hkn' : ¬ (k : Int) < (n : Int) := by omega
          obtain rfl : n = k := by omega
          have HD2 : Hid (b = decide (xx ∈ L)) := (by rw [HD.out, List.take_of_length_le (by have := HL.out; omega)] : b = decide (xx ∈ L))
          clear HD
          cases b with
          | true =>
            have hx : xx ∈ L := of_decide_eq_true HD2.out.symm
            have hxE : xx ∈ E := (HM.out xx).2 hx
            have hn0 : 0 < n := by have := HL.out; have := List.length_pos_of_mem hx; omega
            obtain rfl : n' = n := by have := HLn.out; rw [if_pos hxE] at this; omega
            have INV1 : Hid (ExI w w3 lo n' c) := by
              refine ⟨insU E xx, L, ea2, ra2, ec2, rd2, rise_insU E xx HP.out, HN'.out, HL.out, fun z => ?_, fun z hz => ((mem_insU z E xx).1 hz).elim (fun h => h ▸ HX.out) (HU.out z), H3r.out, (nums_own (kd := .u64) (L := insU E xx) (by rw [HN'.out]; exact H3e.out)).2.1, Fr2.out, (nums_own (kd := .u64) (L := insU E xx) (by rw [HN'.out]; exact H3e.out)).1, H3o.out, H3b.out⟩
              rw [mem_insU, ← HM.out z]
              exact ⟨fun h => h.elim (fun h => h ▸ hxE) id, .inr⟩
            clear hx hxE
            go_wp2
            go_roundw
            case rel => exact ⟨i + 1, n', lo, c, rfl, by go_num, by omega, by omega, fun _ => hn0, INV1⟩
            case measure => simp [RowKit.intOf]; omega
          | false =>
            have hx : xx ∉ L := of_decide_eq_false HD2.out.symm
            have hxE : xx ∉ E := fun h => hx ((HM.out xx).1 h)
            obtain rfl : n' = n + 1 := by have := HLn.out; rw [if_neg hxE] at this; omega
            have HXE := hide hxE
            clear hx hxE
            go_wp2_with (at_builtin; refine wpList_append_nilH _ rfl (.tmp 61) (.tmp 63) 22 rfl (w.heap.size + 1) 34 i0 (.int .u64 0) 1 8 Try.underlying22 hi hy0 hy1 hy2 rfl (by decide) _ _ _ rfl (own_past H3o.out ((Below.refl _ _).alloc (Nat.le_refl _) _)) (some ⟨w3.heap.size, 0, none⟩) 1 1 [.int .u64 xx] rfl rfl (fun e => by cases e) (fun ad e => by cases e; exact new_cells (cs := #[.int .u64 xx]) rfl) (one_map .u64 [xx]) (by unfold maxLen; omega) (by omega) (by simp; omega) ?_; intro v4 w4 hown hgrow hnil; obtain ⟨lo4, c4, rfl⟩ := own_any hown; have O4 := hide hown; have G4 := hide hgrow; clear hown hgrow hnil)
            have ng : ∀ k, k < w.heap.size + 1 ∨ wr.heap.size ≤ k → (Value.slice lo n c).ownBlock ≠ some k := fun k hk e => by have := HBk.out k e; omega
            have ea4 := own_grown (own_past H3e.out ((Below.refl _ _).alloc (Nat.le_refl _) (.cells #[.int .u64 xx] 34))) G4.out (fun k e => ng k (.inr (by have := (own_blk H3e.out k e).1; omega)))
            have row4 : w4.heap[w.heap.size]? = some (.cells #[.slice ea2 (n + 1) ec2, .slice ra2 0 rd2] 27 (0, 0)) := by
              have hlt := (Array.getElem?_eq_some_iff.1 H3r.out).1
              rw [G4.out.block _ (by simp; omega) (fun e => ng _ (.inl (by omega)) e.symm), heap_alloc_old _ _ hlt]; exact H3r.out
            have INV1 : Hid (ExI w w4 lo4 (n + 1) c4) := by
              refine ⟨insU E xx, L ++ [xx], ea2, ra2, ec2, rd2, rise_insU E xx HP.out, HN'.out, by simp [HL.out], fun z => ?_, fun z hz => ((mem_insU z E xx).1 hz).elim (fun h => h ▸ HX.out) (HU.out z), row4, (nums_own (kd := .u64) (L := insU E xx) (by rw [HN'.out]; exact ea4)).2.1, Fr2.out, (nums_own (kd := .u64) (L := insU E xx) (by rw [HN'.out]; exact ea4)).1, ?_, ?_⟩
              · rw [mem_insU, HM.out z]; simp [or_comm]
              · rw [List.map_append]; exact O4.out
              · exact (H3b.out.alloc H3b.out.size _).grown G4.out (by simp; have := H3b.out.size; omega) (fun k e => by have := (HBk.out k e).1; omega)
            clear ea4 row4 ng
            go_roundw
            case rel => exact ⟨i + 1, n + 1, lo4, c4, rfl, by go_num, by omega, by omega, fun _ => by omega, INV1⟩
            case measure => simp [RowKit.intOf]; omega
    · have hn0 : 0 < n := by
        by_cases h : 0 < i
        · exact hin h
        · omega
      have k1 : wr.cell? ⟨w.heap.size, 0, none⟩ = some (.slice ea n ec) := by rw [cell_of_row _ _ 0 _ _ (0, 0) HRow.out]; rfl
      have k2 : wr.cell? ⟨w.heap.size, 1, none⟩ = some (.slice ra 0 rd) := by rw [cell_of_row _ _ 1 _ _ (0, 0) HRow.out]; rfl
      have hc := cnt_exact HP.out HE.out hn40
      have HC := hide hc
      have hn0i : (0 : Int) < (n : Int) := by omega
      have dn0 : decide ((0 : Int) < (n : Int)) = true := decide_eq_true hn0i
      clear hc hin
      by_cases hi6 : i < 60
      · have hi6i : (i : Int) < 60 := by omega
        have hn4i : ¬ (n : Int) < 40 := by omega
        have dn4 : decide ((n : Int) < 40) = false := decide_eq_false hn4i
        have di6 : decide ((i : Int) < 60) = true := decide_eq_true hi6i
        go_wp2_with fail
        refine (c_i_HllCount (N := []) HE.out rfl (by omega) (by simp) HNE.out (fun h => by simp at h)).mono ?_
        rintro e w2 ⟨rfl, hb2⟩
        rw [HC.out]
        have HT2 := hide (chain HBl.out hb2)
        clear hb2
        go_wp2
        go_ret
        exact ⟨rfl, HT2.out⟩
      · have hi6i : ¬ (i : Int) < 60 := by omega
        have di6 : decide ((i : Int) < 60) = false := decide_eq_false hi6i
        go_wp2_with fail
        refine (c_i_HllCount (N := []) HE.out rfl (by omega) (by simp) HNE.out (fun h => by simp at h)).mono ?_
        rintro e w2 ⟨rfl, hb2⟩
        rw [HC.out]
        have HT2 := hide (chain HBl.out hb2)
        clear hb2
        go_wp2
        go_ret
        exact ⟨rfl, HT2.out⟩
theorem own : ownKnob Try.prog.godebug = none := by kernel_rfl
theorem laidOut : laidOutB Try.prog = true := by kernel_rfl

set_option maxRecDepth 100000 in
theorem liftedExact (os : Os) (started : os.Started) (H : Type) (enc : TypeId × Value → H) :
    ReturnsInHanded {} Try.checked os 5 .any (Rows.fnExactSpec.pre6 enc Try.prog Try.f5 Rows.fnExactRow.domain false) (Rows.fnExactSpec.post enc Try.prog Try.f5 false true false false) := by
  refine returnsInHanded_of_change (C := Try.checked) own started (by kernel_rfl) Try.func5
    (ChangeSpec.witness6 (enc := enc) (C := Try.checked) false ⟨#[], #[.slice none 0 0, .slice none 0 0], []⟩ 8 (by kernel_rfl) (by kernel_rfl) (by kernel_rfl) (by kernel_rfl)) ?_
  intro W base args ds gs before hval0 hW hcnd _
  have hval : ∀ (j : Nat) t v, Try.f5.params[j]? = some t → args[j]? = some v → Value.okWide Try.prog W .any base t v := hval0
  have hW' := hW
  obtain ⟨p, q, hA0, hV, rfl, hfz, hnd⟩ := hW
  have hA : DataW.TrodAll enc Try.prog W 0 (fun _ => true) true Try.f5.params.toList args.toList ds p := hA0
  rw [Try.params5] at hA hval
  obtain ⟨v0, vs0, d0, ds0, p0, q0, hargs, rfl, rfl, h0, r0⟩ := trodAll_cons hA
  obtain ⟨v1, vs1, d1, ds1, p1, q1, rfl, rfl, rfl, h1, r1⟩ := trodAll_cons r0
  obtain ⟨rfl, rfl, rfl⟩ := trodAll_nil r1
  obtain rfl : args = #[v0, v1] := by cases args; simp_all
  obtain ⟨rfl, rfl⟩ := trodVars_none hV
  have k0 := h0
  have lt0 : ∀ x ∈ p0, x.block < W.heap.size := by obtain ⟨m, hm⟩ := k0; exact DataW.trod_lt m _ _ _ hm
  obtain ⟨a0, n0, c0, rfl, m0, s0⟩ := open_code (hval 0 33 v0 rfl rfl) h0
  have k1 := h1
  have lt1 : ∀ x ∈ p1, x.block < W.heap.size := by obtain ⟨m, hm⟩ := k1; exact DataW.trod_lt m _ _ _ hm
  obtain ⟨a1, n1, c1, rfl, m1, s1⟩ := open_code (hval 1 33 v1 rfl rfl) h1
  clear hA0 hval0
  refine (walkExact a0 n0 c0 a1 n1 c1 W m0 s0 m1 s1).mono fun e W' ⟨he, bel⟩ => ?_
  subst he
  exact ⟨_, rfl, _, _, _, [], _, [], hW', trodAll_mk1 (shut_bool Try.underlying4 _), (trodAll_cons_mk (Below.trod laidOut (by kernel_rfl) (of_decide_eq_true (by kernel_rfl)) k0 bel lt0) (trodAll_cons_mk (Below.trod laidOut (by kernel_rfl) (of_decide_eq_true (by kernel_rfl)) k1 bel lt1) trodAll_mk0)), rfl, bel.frame _, fun h => by cases h⟩

theorem overExact : Rows.fnExactRow.holds Try.pinned (OpenSpec.ofChange Rows.fnExactSpec) :=
  OpenClaim.holds_of_wide 5 Try.f5 rfl rfl rfl rfl rfl rfl rfl ⟨rfl, rfl, rfl, rfl, rfl⟩ rfl rfl rfl rfl rfl (by kernel_rfl) Try.func5 (by kernel_rfl)
    (of_decide_eq_true (by kernel_rfl)) (by unfold Func.isWrapper; first | (rw [if_pos (by decide +kernel)]; kernel_rfl) | (rw [if_neg (by decide +kernel)]; exact ⟨rfl, rfl⟩))
    (fun os started H enc _ => liftedExact os started H enc)

theorem fnExact_holds : Rows.FnExactSaid := overExact
#print axioms fnExact_holds
end Go.Proofs.Ytljhjcmodaaaoaa
