/-
  strconv.FormatUint at base 10, strconv.ParseUint at base 10 and 64 bits, readCount, readTime.
-/
import Derived.Test.YtnflhahnbdnaoaaGreatDoorLE
import Derived.Test.YtnflhahnbdnaoaaGreatDoorLD
import Derived.Test.YtnflhahnbdnaoaaGreatDoorKF
import Derived.Test.YtnflhahnbdnaoaaGreatDoorKU
import Derived.Lib.ItoaMem
import Derived.Lib.AppendIntMem
import Derived.Lib.SmallJoins
namespace Go.Proofs.YtnflhahnbdnaoaaGreatDoor
set_option linter.unusedVariables false
set_option linter.unusedSimpArgs false
open Go.ChangeShapes Go.WideShapes Go.ChangeAt Go.RowKit Go.PlainAid Go.Sort

/-- The table of the powers of ten lies as the library lays it. -/
def tabF (w : World) : Prop := Lib.TabIs Tryz.prog w "internal/strconv.uint64pow10" .u64 Lib.pow10Tab
theorem tabF.past {w w' : World} {B : Nat} (h : tabF w) (hb : Below B w w') (hB : w.heap.size ≤ B) : tabF w' := by
  exact Go.Joins.var_stays (show Tryz.prog.globalNamed "internal/strconv.uint64pow10" = some 1 by kernel_rfl) h hb hB
theorem holds_zero0 (w : World) (T : TypeId) (nd : Nat) (hs : nd ≤ 24) : Holds (fun (b : UInt8) => Value.int .u8 (b.toNat : Int)) (w.alloc (.cells Lib.zeros24 T)) w.heap.size 0 (Array.replicate nd (0 : UInt8)) := fun j hj => by
  have hj' : j < nd := by simpa using hj
  refine ⟨?_, World.frozen?_alloc_new _ _ _ _⟩
  rw [World.cell?_alloc_new, Lib.zeros24_at _ (by omega), getElem!_pos _ j hj]
  simp
theorem fin_pos0 (w : World) (o : Obj) (dk : Array UInt8) (k : Nat) : Below w.heap.size w ((putRow (fun (b : UInt8) => Value.int .u8 (b.toNat : Int)) (w.alloc o) w.heap.size 0 dk).drewN k) := by
  rw [alloc_eq_grow]
  obtain ⟨os', _, e⟩ := putRow_grow_new (fun (b : UInt8) => Value.int .u8 (b.toNat : Int)) w #[o] w.heap.size 0 dk (Nat.le_refl _)
  rw [e]
  exact Lib.below_grow _ _ (Nat.le_refl _) _ _
set_option maxHeartbeats 6400000 in
set_option maxRecDepth 100000 in
theorem c_FormatUintI (u : Nat) (hu64 : u < 18446744073709551616) (w : World) (ht : tabF w) :
    Calls Tryz.prog 168 #[.int .u64 u, .int .i64 10] w fun e w' => e = .returned (.string ⟨(Lib.decDigits u).toArray⟩) ∧ Below w.heap.size w w' := by
  by_cases hs : u < 100
  · have hi : (u : Int) < 100 := by omega
    go_enter Tryz.func168, Tryz.ntmps168
    go_wp2_with (go_at_call 98; refine (Tryz.internal_strconv_small u hs _).mono ?_; rintro e w' ⟨rfl, hw⟩; obtain rfl := hw.symm)
    go_ret
    exact ⟨rfl, Below.refl _ _⟩
  · have hi : ¬ (u : Int) < 100 := by omega
    have hu1 : 1 ≤ u := by omega
    have hnd20 : Lib.nDigits u ≤ 20 := by have := Lib.numDigits_eq u hu1 hu64; split at this <;> omega
    have hal : Tryz.prog.arrayLen 134 = 24 := by kernel_rfl
    have hsl1 : ∀ W, (Instr.sliceAt 134 (.pointer (some ⟨w.heap.size, 0, none⟩)) none (some (.int .i64 (Lib.nDigits u : Int))) none).run Tryz.prog W = .ok (.slice (some ⟨w.heap.size, 0, none⟩) (Lib.nDigits u) 24) W := fun W => by
      rw [run_sliceAt_array_h W 134 ⟨w.heap.size, 0, none⟩ (by simp [Program.arrayLen, Program.elem, Tryz.underlying134]) .i64 (Lib.nDigits u : Int) (by omega) (by rw [hal]; omega)]
      go_simp
    have hH0 := holds_zero0 w 134 (Lib.nDigits u) (by omega)
    have hfmt := Tryz.internal_strconv_formatBase10 w.heap.size 0 24 u (Array.replicate (Lib.nDigits u) 0) (w.alloc (.cells Lib.zeros24 134)) hH0 (by rw [Array.size_replicate]; exact Lib.lt_pow_nDigits u) hu64 (by rw [Array.size_replicate]; omega)
    rw [Array.size_replicate] at hfmt
    have HH0 := Lib.hid hH0
    clear hH0 hal
    go_enter Tryz.func168, Tryz.ntmps168
    go_wp2_with (first
      | (go_at_call 99; refine (Tryz.internal_strconv_numDigits u hu1 hu64 _ (Lib.tabIs_alloc ht _)).mono ?_; rintro e w' ⟨rfl, hw⟩; obtain rfl := hw.symm))
    go_at_call 100
    refine hfmt.mono ?_
    rintro e w' ⟨rfl, k, v', dk, rfl, hF⟩
    have hcv : (convert 30 9 (.slice (some ⟨w.heap.size, 0, none⟩) (Lib.nDigits u) 24)).run Tryz.prog ((putRow (fun (b : UInt8) => Value.int .u8 (b.toNat : Int)) (w.alloc (.cells Lib.zeros24 134)) w.heap.size 0 dk).drewN k) = .ok (.string ⟨(Lib.decDigits u).toArray⟩) ((putRow (fun (b : UInt8) => Value.int .u8 (b.toNat : Int)) (w.alloc (.cells Lib.zeros24 134)) w.heap.size 0 dk).drewN k) := by
      have h := run_convert_bytes_back (P := Tryz.prog) ((putRow (fun (b : UInt8) => Value.int .u8 (b.toNat : Int)) (w.alloc (.cells Lib.zeros24 134)) w.heap.size 0 dk).drewN k) 30 9 5 ⟨w.heap.size, 0, none⟩ 24 (Lib.decDigits u) Tryz.underlying30 Tryz.underlying5 Tryz.underlying9 (fun j hj => by
        rw [Lib.row_is_numeral hF j hj, Lib.add_plain, World.cell?_drewN]
        exact cell?_putRow (fun (b : UInt8) => Value.int .u8 (b.toNat : Int)) _ w.heap.size 0 _ dk HH0.out (by rw [hF.size, Array.size_replicate]) j (by rw [hF.size]; rw [Lib.decDigits_length] at hj; exact hj))
      rw [Lib.decDigits_length] at h
      exact h
    go_wp2
    go_ret
    exact ⟨rfl, fin_pos0 w _ dk k⟩
theorem c_FormatUint (u : Nat) (hu64 : u < 18446744073709551616) (w : World) (ht : tabF w) :
    Calls Tryz.prog 152 #[.int .u64 u, .int .i64 10] w fun e w' => e = .returned (.string ⟨(Lib.decDigits u).toArray⟩) ∧ Below w.heap.size w w' := by
  go_enter Tryz.func152, Tryz.ntmps152
  go_wp2_with (go_at_call 168; refine (c_FormatUintI u hu64 _ ht).mono ?_; rintro e w1 ⟨rfl, hb⟩)
  go_ret
  exact ⟨rfl, hb⟩
theorem parse_lt : ∀ (l : List UInt8) (a u : Nat), a < 18446744073709551616 → Lib.parseUintM (2 ^ 64 - 1) a l = .ok u → u < 18446744073709551616
  | [], a, u, ha, h => by
    unfold Lib.parseUintM at h
    cases h; exact ha
  | c :: r, a, u, ha, h => by
    unfold Lib.parseUintM at h
    split at h
    · split at h
      · cases h
      · split at h
        · cases h
        · exact parse_lt r _ u (by omega) h
    · cases h
theorem parseB_lt {l : List UInt8} {u : Nat} (h : Lib.parseUintB 64 l = .ok u) : u < 18446744073709551616 := by
  unfold Lib.parseUintB at h
  split at h
  · cases h
  · exact parse_lt l 0 u (by omega) h
/-- What the world must hold: tables, the library's errors, its bound. -/
structure LnG (w : World) : Prop where
  tab : tabF w
  syn : ∃ te pe, w.cell? ⟨7, 0, none⟩ = some (.iface te pe)
  rng : ∃ te pe, w.cell? ⟨8, 0, none⟩ = some (.iface te pe)
theorem LnG.past {w w' : World} (h : LnG w) (hb : Below w.heap.size w w') : LnG w' :=
  ⟨h.tab.past hb (Nat.le_refl _), by obtain ⟨a, b, c⟩ := h.syn; exact ⟨a, b, cell_past hb c⟩, by obtain ⟨a, b, c⟩ := h.rng; exact ⟨a, b, cell_past hb c⟩⟩
/-- The number of a text of digits without needless noughts. -/
def rcO (t : ByteArray) : Option Nat := match Lib.parseUintB 64 (toL t) with
  | .ok u => if (⟨(Lib.decDigits u).toArray⟩ : ByteArray) = t then some u else none
  | _ => none
set_option maxHeartbeats 2000000 in
theorem c_readCount (t : ByteArray) (hz : t.size ≤ 100000) (w : World) (hG : LnG w) :
    Calls Tryz.prog 128 #[.string t] w fun e w' => e = .returned (.tuple #[.int .u64 ((rcO t).getD 0 : Nat), .bool (rcO t).isSome]) ∧ Below w.heap.size w w' := by
  cases hp : Lib.parseUintB 64 (toL t) with
  | ok u =>
    have hu := parseB_lt hp
    have HR : Hid (rcO t = if (⟨(Lib.decDigits u).toArray⟩ : ByteArray) = t then some u else none) := (by unfold rcO; rw [hp] : rcO t = if (⟨(Lib.decDigits u).toArray⟩ : ByteArray) = t then some u else none)
    have HP : Hid (Lib.parseUintB 64 t.data.toList = .ok u) := hp
    clear hp
    go_enter Tryz.func128, Tryz.ntmps128
    go_wp2_with (go_at_call 151; refine (Any.strconv_ParseUint_10_at64_ok Tryz.parseU t (by omega) u HP.out _).mono ?_; rintro e w1 ⟨rfl, hw1⟩)
    have hb1 : Below w.heap.size w w1 := by
      rcases hw1 with rfl | rfl
      · exact Below.refl _ _
      · exact Lib.bytesWorld_below _ _ _
    clear hw1
    have hG1 := hG.past hb1
    have HB1 := hide hb1
    have HQ := hide (str_eqB ⟨(Lib.decDigits u).toArray⟩ t)
    clear hb1
    generalize hx : (⟨(Lib.decDigits u).toArray⟩ : ByteArray) = x at HR HQ
    have HX := hide hx
    clear hx
    by_cases hd : x = t
    · have HE : Hid (rcO t = some u) := (by rw [HR.out, if_pos hd] : rcO t = some u)
      have hq : (x.toList == t.toList) = true := by rw [HQ.out, decide_eq_true hd]
      go_wp2_with (go_at_call 152; refine (c_FormatUint u hu _ hG1.tab).mono ?_; rintro e w2 ⟨rfl, hb2⟩; rw [HX.out])
      go_ret2
      exact ⟨by rw [HE.out]; rfl, HB1.out.trans (hb2.mono HB1.out.size)⟩
    · have HE : Hid (rcO t = none) := (by rw [HR.out, if_neg hd] : rcO t = none)
      have hq : (x.toList == t.toList) = false := by rw [HQ.out, decide_eq_false hd]
      go_wp2_with (go_at_call 152; refine (c_FormatUint u hu _ hG1.tab).mono ?_; rintro e w2 ⟨rfl, hb2⟩; rw [HX.out])
      go_ret2
      exact ⟨by rw [HE.out]; rfl, HB1.out.trans (hb2.mono HB1.out.size)⟩
  | «syntax» =>
    have HE : Hid (rcO t = none) := (by unfold rcO; rw [hp] : rcO t = none)
    have HP : Hid (Lib.parseUintB 64 t.data.toList = .syntax) := hp
    clear hp
    obtain ⟨te, pe, hv⟩ := hG.syn
    go_enter Tryz.func128, Tryz.ntmps128
    go_wp2_with (go_at_call 151; refine (Any.strconv_ParseUint_10_at64_syntax Tryz.parseU t (by omega) HP.out _ _ hv (Or.inr ⟨te, pe, rfl⟩)).mono ?_; rintro e w1 ⟨N, rfl, h1, h2, hb⟩)
    go_ret2
    exact ⟨by rw [HE.out]; rfl, hb⟩
  | range =>
    have HE : Hid (rcO t = none) := (by unfold rcO; rw [hp] : rcO t = none)
    have HP : Hid (Lib.parseUintB 64 t.data.toList = .range) := hp
    clear hp
    obtain ⟨te, pe, hv⟩ := hG.rng
    go_enter Tryz.func128, Tryz.ntmps128
    go_wp2_with (go_at_call 151; refine (Any.strconv_ParseUint_10_at64_range Tryz.parseU t (by omega) HP.out _ _ hv (Or.inr ⟨te, pe, rfl⟩)).mono ?_; rintro e w1 ⟨N, rfl, h1, h2, hb⟩)
    go_ret2
    exact ⟨by rw [HE.out]; rfl, hb⟩
theorem rcO_iff {t : ByteArray} {n : Nat} : (rcO t = some n ∧ n ≤ 1000000000) ↔ TimP t n := by
  constructor
  · rintro ⟨h, hn⟩
    unfold rcO at h
    split at h
    · split at h
      · cases h
        rename_i he
        exact ⟨by rw [← he, toL_mk], hn⟩
      · cases h
    · cases h
  · intro h
    refine ⟨?_, h.2⟩
    unfold rcO
    rw [h.parse]
    show (if (⟨(Lib.decDigits n).toArray⟩ : ByteArray) = t then some n else none) = some n
    rw [if_pos (toL_inj (by rw [toL_mk]; exact h.1.symm))]
/-- A time's number. -/
def timO (t : ByteArray) : Option Nat := match rcO t with
  | some n => if n ≤ 1000000000 then some n else none
  | none => none
theorem timO_iff {t : ByteArray} {n : Nat} : timO t = some n ↔ TimP t n := by
  rw [← rcO_iff]
  unfold timO
  constructor
  · intro h
    split at h
    · split at h
      · cases h; rename_i h1 h2; exact ⟨h1, h2⟩
      · cases h
    · cases h
  · rintro ⟨h, hn⟩
    rw [h]
    show (if n ≤ 1000000000 then some n else none) = some n
    rw [if_pos hn]
set_option maxHeartbeats 1000000 in
theorem c_readTime (t : ByteArray) (hz : t.size ≤ 100000) (w : World) (hG : LnG w) :
    Calls Tryz.prog 104 #[.string t] w fun e w' => e = .returned (.tuple #[.int .i64 ((timO t).getD 0 : Nat), .bool (timO t).isSome]) ∧ Below w.heap.size w w' := by
  cases hr : rcO t with
  | none =>
    have HE : Hid (timO t = none) := (by unfold timO; rw [hr] : timO t = none)
    go_enter Tryz.func104, Tryz.ntmps104
    go_wp2_with (go_at_call 128; refine (c_readCount t hz _ hG).mono ?_; rw [hr]; rintro e w1 ⟨rfl, hb⟩)
    go_ret2
    exact ⟨by rw [HE.out]; rfl, hb⟩
  | some n =>
    by_cases hn : n ≤ 1000000000
    · have HE : Hid (timO t = some n) := (by unfold timO; rw [hr]; show (if n ≤ 1000000000 then some n else none) = some n; rw [if_pos hn] : timO t = some n)
      have hni : ¬ (1000000000 : Int) < (n : Int) := by omega
      go_enter Tryz.func104, Tryz.ntmps104
      go_wp2_with (go_at_call 128; refine (c_readCount t hz _ hG).mono ?_; rw [hr]; rintro e w1 ⟨rfl, hb⟩)
      go_ret2
      exact ⟨by rw [HE.out]; rfl, hb⟩
    · have HE : Hid (timO t = none) := (by unfold timO; rw [hr]; show (if n ≤ 1000000000 then some n else none) = none; rw [if_neg hn] : timO t = none)
      have hni : (1000000000 : Int) < (n : Int) := by omega
      go_enter Tryz.func104, Tryz.ntmps104
      go_wp2_with (go_at_call 128; refine (c_readCount t hz _ hG).mono ?_; rw [hr]; rintro e w1 ⟨rfl, hb⟩)
      go_ret2
      exact ⟨by rw [HE.out]; rfl, hb⟩
end Go.Proofs.YtnflhahnbdnaoaaGreatDoor
