/-
  The contracts of impl.compareParts, impl.ringParts, impl.RingOf: the ring of right members.
-/
import Derived.Test.YtkccgjeanehaiaaDoorRingM
import Derived.Test.YtkccgjeanehaiaaDoorShelf
import Derived.Shelf.SlSortCmp.WholeK
import Derived.WalkSmall
namespace Go.Proofs.YtkccgjeanehaiaaDoor
set_option linter.unusedVariables false
set_option linter.unusedSimpArgs false
open Go.ChangeShapes Go.WideShapes Go.ChangeAt Go.RowKit Go.PlainAid Go.Lib Go.Shelf
open Go.Sort hiding Below

/-- Things of two cells each, one behind the other. -/
def fl {α : Type} (e : α → List Value) (xs : List α) : List Value := xs.flatMap e
theorem fl_app {α : Type} (e : α → List Value) (xs ys : List α) : fl e (xs ++ ys) = fl e xs ++ fl e ys := by simp [fl]
theorem fl_one {α : Type} (e : α → List Value) (x : α) : fl e [x] = e x := by simp [fl]
theorem fl_cons {α : Type} (e : α → List Value) (x : α) (xs : List α) : fl e (x :: xs) = e x ++ fl e xs := by simp [fl]
theorem fl_len {α : Type} {e : α → List Value} (he : ∀ x, (e x).length = 2) : ∀ xs : List α, (fl e xs).length = xs.length * 2
  | [] => rfl
  | x :: xs => by rw [fl_cons, List.length_append, he, fl_len he xs, List.length_cons]; omega
theorem fl_at {α : Type} {e : α → List Value} (he : ∀ x, (e x).length = 2) : ∀ (xs : List α) (i : Nat) (x : α) (c : Nat), c < 2 → xs[i]? = some x → (fl e xs)[i * 2 + c]? = (e x)[c]?
  | [], i, x, c, hc, h => by simp at h
  | y :: xs, 0, x, c, hc, h => by
    obtain rfl : y = x := by simpa using h
    rw [fl_cons, List.getElem?_append_left (by rw [he]; omega), Nat.zero_mul, Nat.zero_add]
  | y :: xs, i + 1, x, c, hc, h => by
    rw [fl_cons, List.getElem?_append_right (by rw [he]; omega), he, show (i + 1) * 2 + c - 2 = i * 2 + c by omega]
    exact fl_at he xs i x c hc (by simpa using h)
theorem fl_set {α : Type} {e : α → List Value} (he : ∀ x, (e x).length = 2) {u v : Value} : ∀ (xs : List α) (i : Nat) (y : α), i < xs.length → e y = [u, v] → ((fl e xs).set (i * 2) u).set (i * 2 + 1) v = fl e (xs.set i y)
  | [], i, y, h, _ => by simp at h
  | x :: xs, 0, y, h, hy => by
    have hx := he x
    match hq : e x, hx with
    | [a, b], _ => rw [fl_cons, hq, List.set_cons_zero, fl_cons, hy]; rfl
  | x :: xs, i + 1, y, h, hy => by
    have h' : i < xs.length := by simpa using h
    rw [fl_cons, List.set_cons_succ, fl_cons, ← fl_set he xs i y h' hy]
    rw [List.set_append_right _ _ (by rw [he]; omega), he, List.set_append_right _ _ (by rw [he]; omega), he, show (i + 1) * 2 - 2 = i * 2 by omega, show (i + 1) * 2 + 1 - 2 = i * 2 + 1 by omega]

def encP (x : Int × Nat) : List Value := [.int .u64 x.1, .int .u64 x.2]
def encM (m : Mk) : List Value := [.int .u64 m.1, .string m.2]
theorem encP2 (x : Int × Nat) : (encP x).length = 2 := rfl
theorem encM2 (x : Mk) : (encM x).length = 2 := rfl

theorem range02 {m : Type → Type} [Monad m] {β : Type} (b : β) (f : Nat → β → m (ForInStep β)) : (forIn ([0:2] : Std.Legacy.Range) b fun i r => f i r) = (do
    match ← f 0 b with
    | .done r => pure r
    | .yield r => match ← f 1 r with
      | .done r => pure r
      | .yield r => pure r) := by
  rw [Std.Legacy.Range.forIn_eq_forIn_range']
  rfl
theorem run_equalIn_arr2 {P : Program} (w : World) (d : Nat) (t e : TypeId) (k : IntKind) (a p b q : Int) (ht : P.underlying t = some (.array 2 e)) (he : P.underlying e = some (.int k))
    (hi : ∀ w, (isAgg e).run P w = .ok false w) (hz : ∀ w, (sizeOf e).run P w = .ok 1 w) :
    (Op.equalIn (d + 1 + 1) t (.agg #[.int k a, .int k p]) (.agg #[.int k b, .int k q])).run P w = .ok (a == b && p == q) w := by
  rw [Op.equalIn]
  simp only [Sem.run_bind, run_underlying ht, Result.andThen_ok, hz]
  have p0 : ∀ x y w, (part e #[x, y] (0 * 1)).run P w = .ok x w := fun x y w => by simp [part, hi]
  have p1 : ∀ x y w, (part e #[x, y] (1 * 1)).run P w = .ok y w := fun x y w => by simp [part, hi]
  have q0 : ∀ x y w, (Op.equalIn (d + 1) e (.int k x) (.int k y)).run P w = .ok (x == y) w := fun x y w => run_equalIn_int w d e k k x y he
  rw [range02]
  simp only [Sem.run_bind, p0, q0, Result.andThen_ok]
  by_cases h1 : a = b <;> by_cases h2 : p = q <;> simp [h1, h2, p1, q0]

set_option maxRecDepth 10000 in
set_option maxHeartbeats 1000000 in
theorem eq_parts (a p b q : Int) (w : World) : (binOp .eql 52 (.agg #[.int .u64 a, .int .u64 p]) (.agg #[.int .u64 b, .int .u64 q])).run Tryd.prog w = .ok (.bool (a == b && p == q)) w := by
  have a5 := Tryd.isAgg50
  have z5 := Tryd.sizeOf50
  have hS : Tryd.prog.underlying 52 = some (.struct (Tryd.prog.fieldsOf 52)) := by kernel_rfl
  have hp : Tryd.prog.stoodInHeld 52 = false := by kernel_rfl
  have hq := fun w => run_equalIn_arr2 (P := Tryd.prog) w 9997 50 30 .u64 a p b q Tryd.underlying50 Tryd.underlying30 Tryd.isAgg30 Tryd.sizeOf30
  rw [run_eql_struct, show (10000 : Nat) = 9999 + 1 from rfl, run_equalIn_agg w 9999 52 _ _ hS hp]
  simp only [Program.fieldsOf, Tryd.underlying52]
  go_simp
  by_cases h1 : a = b <;> by_cases h2 : p = q <;> simp [h1, h2]

set_option maxRecDepth 10000 in
set_option maxHeartbeats 1000000 in
theorem c_compareParts (x y : Int × Nat) (W : World) : Calls Tryd.prog 40 #[.agg #[.int .u64 x.1, .int .u64 x.2], .agg #[.int .u64 y.1, .int .u64 y.2]] W fun e w' => e = .returned (.int .i64 (cfP x y)) ∧ ∃ q os', w' = grow (W.drewN q) os' := by
  obtain ⟨a, p⟩ := x
  obtain ⟨b, q⟩ := y
  have he := eq_parts a p b q
  have fin : ∀ (c d : Int) (w1 : World), c = d → (∃ q os', w1 = grow (W.drewN q) os') → Ending.returned (.int .i64 c) = .returned (.int .i64 d) ∧ ∃ q os', w1 = grow (W.drewN q) os' := fun c d w1 h k => ⟨by rw [h], k⟩
  have FIN : Hid _ := fin
  have hg : ∀ o1 o2 : Obj, ∃ q os', (W.alloc o1).alloc o2 = grow (W.drewN q) os' := fun o1 o2 => ⟨0, _, by rw [alloc_eq_grow, alloc_eq_grow, grow_grow]; rfl⟩
  have HG : Hid _ := hg
  clear fin hg
  by_cases e1 : a = b
  · subst e1
    by_cases e2 : p = q
    · subst e2
      have HC : Hid (0 = cfP (a, p) (a, p)) := (by simp [cfP] : 0 = cfP (a, p) (a, p))
      go_enter Tryd.func40, Tryd.ntmps40
      go_wp2
      go_ret
      exact FIN.out _ _ _ HC.out (HG.out _ _)
    · have e3 : ((p : Int) == (q : Int)) = false := beq_eq_false_iff_ne.2 (by omega)
      by_cases e4 : p < q
      · have HC : Hid (-1 = cfP (a, p) (a, q)) := (by simp [cfP, e2, e4] : -1 = cfP (a, p) (a, q))
        have e5 : (p : Int) < (q : Int) := by omega
        clear e2
        go_enter Tryd.func40, Tryd.ntmps40
        go_wp2
        go_ret
        exact FIN.out _ _ _ HC.out (HG.out _ _)
      · have HC : Hid (1 = cfP (a, p) (a, q)) := (by simp [cfP, e2, e4] : 1 = cfP (a, p) (a, q))
        clear e2
        go_enter Tryd.func40, Tryd.ntmps40
        go_wp2
        go_ret
        exact FIN.out _ _ _ HC.out (HG.out _ _)
  · have e3 : (a == b) = false := beq_eq_false_iff_ne.2 e1
    by_cases e4 : a < b
    · have HC : Hid (-1 = cfP (a, p) (b, q)) := (by simp [cfP, e1, e4] : -1 = cfP (a, p) (b, q))
      clear e1
      go_enter Tryd.func40, Tryd.ntmps40
      go_wp2
      go_ret
      exact FIN.out _ _ _ HC.out (HG.out _ _)
    · have HC : Hid (1 = cfP (a, p) (b, q)) := (by simp [cfP, e1, e4] : 1 = cfP (a, p) (b, q))
      clear e1
      go_enter Tryd.func40, Tryd.ntmps40
      go_wp2
      go_ret
      exact FIN.out _ _ _ HC.out (HG.out _ _)

theorem infoP : (Tryd.prog.info? 52).map (fun i => (i.zero, i.size, i.bytes)) = some (some (.agg #[.int .u64 0, .int .u64 0]), 2, 16) := by kernel_rfl
theorem own_same {B : Nat} {w : World} {v : Value} {T : TypeId} {n n' : Nat} {xs xs' : List Value} (h : w.ownsRow B T 2 v n xs) (e : n = n') (e2 : xs = xs') : w.ownsRow B T 2 v n' xs' := by subst e e2; exact h

/-- A new block's cells. -/
theorem new_cells {W : World} {cs : Array Value} {t : TypeId} {g : Nat} (hg : W.heap.size = g) (j : Nat) (u : Value) (hj : cs.toList[j]? = some u) : (W.alloc (.cells cs t)).cell? ((⟨g, 0, none⟩ : Addr).add j) = some u := by
  subst hg
  have hb : (W.alloc (.cells cs t)).heap[W.heap.size]? = some (.cells cs t (0, 0)) := heap_alloc_new W _
  rw [Addr.add_lit, Nat.zero_add, cell_of_row _ W.heap.size j _ _ (0, 0) hb]
  simpa using hj
/-- What an owned row of things of two cells holds. -/
theorem holdsK_owned {α : Type} [Inhabited α] {e : α → List Value} (he : ∀ x, (e x).length = 2) {w : World} {B g cp : Nat} {T : TypeId} {xs : List α} (h : w.ownsRow B T 2 (.slice (some ⟨g, 0, none⟩) xs.length cp) xs.length (fl e xs)) : HoldsK e 2 w g 0 xs.toArray := by
  intro j hj
  have hj' : j < xs.length * 2 := by simpa using hj
  rw [Nat.zero_add]
  refine ⟨?_, h.frozenAt j⟩
  rw [h.cellAt j hj', get_flatK _ _ _ _ (by simpa using hj')]
  have hi : j / 2 < xs.length := by omega
  obtain ⟨x, hx⟩ : ∃ x, xs[j / 2]? = some x := ⟨_, List.getElem?_eq_getElem hi⟩
  have h1 := fl_at he xs (j / 2) x (j % 2) (by omega) hx
  rw [show j / 2 * 2 + j % 2 = j by omega] at h1
  have h2 : xs.toArray[j / 2]! = x := by
    have := (List.getElem?_eq_some_iff.1 hx).2
    simp [hi, this]
  rw [h1, h2]
  have hm : j % 2 < (e x).length := by rw [he]; omega
  simp [hm]
theorem grown_sortK {α : Type} [Inhabited α] (e : α → List Value) (k : Nat) (w : World) (g o n : Nat) (d : Array α) (os : Array Obj) : w.grownBy (sortWorldK e k w g o n d os) (some g) := by
  refine ⟨rfl, rfl, rfl, size_sortWorldK_c _ _ _ _ _ _ _ _, fun j hj hne => ?_⟩
  unfold sortWorldK
  rw [heap_grow_old _ _ (by rw [size_putRowK]; exact hj)]
  have : g ≠ j := fun e => hne (by rw [e])
  simp [putRowK, putRow, mapBlock, Sort.ahead, Array.getElem?_modify, this]
theorem ltC : ltOf cfP = ltP := by funext x y; exact cfP_lt x y
theorem swoC : SWO (ltOf cfP) := by rw [ltC]; exact swoP
theorem sorted_lt {a b : Nat} {d : Array (Int × Nat)} (h : SortedIn (ltOf cfP) a b d) : SortedIn ltP a b d := by rw [← ltC]; exact h

set_option maxRecDepth 10000 in
set_option maxHeartbeats 2000000 in
theorem parts_loop {w : World} {ao : Option Addr} {L : List ByteArray} (cap : Nat) (hL : membersB L = true) (hA : StrsAt w ao L) :
    Calls Tryd.prog 30 #[.slice ao L.length cap] w fun e w' => ∃ g cp d', e = .returned (.slice (some ⟨g, 0, none⟩) (8 * L.length) cp) ∧ w.heap.size ≤ g ∧ g < w'.heap.size ∧ HoldsK encP 2 w' g 0 d' ∧ IsRing L (d'.toList.map (mkOfPr L)) ∧ (∀ x ∈ d'.toList, x.2 < L.length) ∧ d'.size = 8 * L.length ∧ Below w.heap.size w w' := by
  obtain ⟨i0, hi, hz0, hz1, hz2⟩ := info_parts infoP
  obtain ⟨hl1, hl12⟩ := memb_len hL
  obtain ⟨N, hN⟩ : ∃ N, L.length = N := ⟨_, rfl⟩
  have HN : Hid (L.length = N) := hN
  have HL : Hid (membersB L = true) := hL
  rw [hN] at hl1 hl12
  rw [hN]
  clear hN hL
  go_enter Tryd.func30, Tryd.ntmps30
  go_wp2
  go_loopw [3, 9] (fun v i wr => ∃ p : Nat, p ≤ N ∧ i = .int .i64 p ∧ wr.ownsRow w.heap.size 52 2 v (8 * p) (fl encP (prs L (8 * p))) ∧ Below w.heap.size w wr) (fun v i wr => N - (intOf i).toNat)
  case atStart => exact ⟨0, Nat.zero_le _, rfl, World.ownsRow_nil _ _ _ _, Below.refl _ _⟩
  case round =>
    obtain ⟨p, hp, rfl, hown, hbel⟩ := hrel
    by_cases hpn : p < N
    · obtain ⟨b, off, rfl, hcell⟩ := hA (by have := HN.out; omega)
      obtain ⟨u, hpu⟩ : ∃ u, L[p]? = some u := ⟨L[p]'(by have := HN.out; omega), List.getElem?_eq_getElem _⟩
      have hus := (name_size (memb_name HL.out (List.mem_of_getElem? hpu))).2
      have HU : Hid (L[p]? = some u) := hpu
      have HC : Hid (w.cell? ⟨b, off + p, none⟩ = some (.string u)) := hcell p u hpu
      clear hcell hpu
      go_wp2
      go_loopw [3, 12] (fun v2 i wr2 => ∃ k : Nat, k ≤ 8 ∧ i = .int .i64 k ∧ wr2.ownsRow w.heap.size 52 2 v2 (8 * p + k) (fl encP (prs L (8 * p + k))) ∧ Below w.heap.size w wr2) (fun v2 i wr2 => 8 - (intOf i).toNat)
      case atStart => exact ⟨0, Nat.zero_le _, rfl, hown, hbel⟩
      case round =>
        clear hown hbel
        obtain ⟨k, hk, rfl, hown, hbel⟩ := hrel
        by_cases hk8 : k < 8
        · obtain ⟨D, hD⟩ : ∃ D : ByteArray, D = ⟨(Lib.decDigits k).toArray⟩ := ⟨_, rfl⟩
          have hDs : D.size = 1 := by rw [hD]; show (Lib.decDigits k).toArray.size = 1; rw [List.size_toArray]; exact decDig k hk8
          have hcI := fun W => Tryd.strconv_Itoa_small k (by omega) W
          rw [← hD] at hcI
          obtain ⟨X, hX⟩ : ∃ X : Int, X = hashF (u ++ ⟨#[35]⟩ ++ D) := ⟨_, rfl⟩
          have hXs : (u ++ ⟨#[35]⟩ ++ D).size = u.size + 2 := by rw [ByteArray.size_append, ByteArray.size_append, hDs]; rfl
          have hcH := fun W => c_i_Hash (u ++ ⟨#[35]⟩ ++ D) (by unfold maxLen; omega) W
          rw [← hX] at hcH
          have HX : Hid (prs L (8 * p + (k + 1)) = prs L (8 * p + k) ++ [(X, p)]) := by
            rw [← Nat.add_assoc, prs_succ, pr_eq HU.out hk8, hX, hashF_le (by omega), hD]; rfl
          have hc := cell_past hbel HC.out
          have hs35 : (⟨#[35]⟩ : ByteArray).size = 1 := rfl
          have ewp : IntKind.u64.wrap (p : Int) = p := by rw [IntKind.wrap_u64]; omega
          have HO : Hid (∀ n, (wr.drewN n).ownsRow w.heap.size 52 2 u3 (8 * p + k) (fl encP (prs L (8 * p + k)))) := fun _ => hown
          have HB : Hid (∀ n, Below w.heap.size w (wr.drewN n)) := fun n => bel_drews hbel n
          have hsz := hbel.size
          clear hD hX hXs hown hbel
          go_wp2
          go_quiet (first | (go_at_call 38; refine Calls.quiet_of_same (hcI _)) | (go_at_call 26; refine Calls.quiet_of_same (hcH _)))
          go_wp2_with (at_builtin; refine wpList_append_own _ rfl _ _ 48 rfl w.heap.size 52 i0 (.agg #[.int .u64 0, .int .u64 0]) 2 16 Tryd.underlying48 hi hz0 hz1 hz2 rfl (by decide) _ _ _ rfl ((HO.out _).alloc _) ⟨wr.heap.size, 0, none⟩ 1 1 (encP (X, p)) rfl rfl ?c1 ?c2 ?c3 ?c4 ?c5 ?_)
          case c1 =>
            exact new_cells (cs := #[.int .u64 X, .int .u64 p]) (by rfl)
          case c2 => intro v hv; simp [encP] at hv; rcases hv with rfl | rfl <;> rfl
          case c3 => unfold maxLen; omega
          case c4 => omega
          case c5 => simp; omega
          · intro v' w1 hown' hgrow _
            have R : w1.ownsRow w.heap.size 52 2 v' (8 * p + (k + 1)) (fl encP (prs L (8 * p + (k + 1)))) := own_same hown' rfl (by rw [HX.out, fl_app, fl_one])
            have R2 : Below w.heap.size w w1 := ((HB.out _).alloc (by exact hsz) _).grown hgrow (by simp; omega) (fun j hj => ((HO.out 0).lt j hj).1)
            clear hown' hgrow HO HB
            go_wp2
            go_roundw
            case rel => exact ⟨k + 1, by omega, by go_num, R, R2⟩
            case measure => simp [intOf]; omega
        · have e : k = 8 := by omega
          subst e
          have HO : Hid (wr.ownsRow w.heap.size 52 2 u3 (8 * (p + 1)) (fl encP (prs L (8 * (p + 1))))) := hown
          have HB : Hid (Below w.heap.size w wr) := hbel
          clear hown hbel
          go_wp2
          go_roundw
          case rel => exact ⟨p + 1, by omega, by go_num, HO.out, HB.out⟩
          case measure => simp [intOf]; omega
    · have e : p = N := by omega
      subst e
      obtain ⟨g, cp, rfl, hg, hgs, hH⟩ : ∃ g cp, u3 = .slice (some ⟨g, 0, none⟩) (8 * p) cp ∧ w.heap.size ≤ g ∧ g < wr.heap.size ∧ HoldsK encP 2 wr g 0 (prs L (8 * p)).toArray := by
        have h2 := hown.2
        rcases h2 with ⟨_, e⟩ | ⟨g, cp, cur, e, hb, hk, _⟩
        · omega
        · subst e
          refine ⟨g, cp, rfl, hb, (Array.getElem?_eq_some_iff.1 hk).1, ?_⟩
          refine holdsK_owned (xs := prs L (8 * p)) (B := w.heap.size) (T := 52) (cp := cp) encP2 ?_
          have hl := prs_len L (8 * p)
          rw [hl]; exact hown
      have hsz : (prs L (8 * p)).toArray.size = 8 * p := by rw [List.size_toArray, prs_len]
      have eg : ∀ args w, (callFunc 40 args).run Tryd.prog w = .ok (.enter 40 args) w := enters_of Tryd.func40 (by kernel_rfl) rfl
      have hcon := AnyQ.slices_SortFunc (α := Int × Nat) Tryd.laysSort 2 Tryd.isAgg52 Tryd.sizeOf52 encP encP2 (fun x v hv => by simp [encP] at hv; rcases hv with rfl | rfl <;> rfl) cfP swoC 40 #[] g 0 cp (prs L (8 * p)).toArray wr eg (fun _ _ _ _ x y => c_compareParts x y _) hH hgs (by rw [hsz]; omega)
      rw [hsz] at hcon
      change Calls Tryd.prog 39 _ _ _ at hcon
      have HH : Hid (HoldsK encP 2 wr g 0 (prs L (8 * p)).toArray) := hH
      have HB : Hid (Below w.heap.size w wr) := hbel
      have HG : Hid (w.heap.size ≤ g ∧ g < wr.heap.size) := ⟨hg, hgs⟩
      clear hown hbel hA hH hg hgs eg
      go_wp2_with (go_at_call 39; refine hcon.mono ?_; rintro e w1 ⟨rfl, d', n, os, hpm, hst, rfl⟩)
      clear hcon
      go_ret
      have hN := HN.out
      have hR := ring_of_pairs HL.out (d := (prs L (8 * p)).toArray) (d' := d') (by rw [hN]) (by rw [hsz]; exact hpm) (by rw [hsz]; exact sorted_lt hst)
      have hH1 : HoldsK encP 2 (sortWorldK encP 2 wr g 0 n d' os) g 0 d' := holdsK_sortWorldK_c _ _ _ _ _ _ d' _ _ HH.out HG.out.2 (by rw [hsz, hR.2.2, hN])
      have hB1 : Below w.heap.size w (sortWorldK encP 2 wr g 0 n d' os) := HB.out.grown (grown_sortK _ _ _ _ _ _ _ _) HB.out.size (fun j hj => by cases hj; exact HG.out.1)
      refine ⟨g, cp, d', rfl, HG.out.1, ?_, hH1, hR.1, ?_, ?_, hB1⟩
      · exact Nat.lt_of_lt_of_le HG.out.2 (size_sortWorldK_c _ _ _ _ _ _ _ _)
      · rw [← hN]; exact hR.2.1
      · rw [← hN]; exact hR.2.2
end Go.Proofs.YtkccgjeanehaiaaDoor
