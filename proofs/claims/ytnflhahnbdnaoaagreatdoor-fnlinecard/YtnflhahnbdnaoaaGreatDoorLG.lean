/-
  errors.As at a target of type *readFault: a nil error (false; nothing turns); an error that is a readFault (true; the target gets it).
-/
import Derived.Test.YtnflhahnbdnaoaaGreatDoorRows
import Derived.WalkKit
import Derived.LaidEql
import Derived.Stop.Asserts
import Derived.RowKitTokens
import Derived.Test.YtnflhahnbdnaoaaGreatDoorLA
import Derived.WalkSpells
import Derived.PlainAid
import Derived.Lib.Strings
import Derived.Lib.IndexBytes
import Derived.Scope
import Derived.ScopeJumps
import Derived.WalkMore
namespace Go.Proofs.YtnflhahnbdnaoaaGreatDoor
set_option linter.unusedVariables false
set_option linter.unusedSimpArgs false
open Go.RowKit Go.Extern.Stop Go.Stop Go.Extern

theorem as_nil (t : Value) (w : World) :
    Calls Tryz.prog 63 #[.nilIface, t] w fun e w' => e = .returned (.bool false) ∧ w' = w := by
  go_enter Tryz.func63, Tryz.ntmps63
  go_wp2
  go_ret
  exact ⟨rfl, rfl⟩

theorem ra_valueOfP (t : Addr) (w : World) : (ReflectliteValue.unpack (.iface 92 (.pointer (some t)))).run Tryz.prog w
    = .ok (.agg #[.pointer (some ⟨9, 92, none⟩), .pointer (some ⟨w.heap.size, 0, none⟩), .int .u64 150]) (w.alloc (.cells #[.pointer (some t)] 92)) := by kernel_rfl
theorem ra_typeP (a : Addr) (w : World) : (ReflectliteValue.methodAny (ReflectliteValue.valueError "reflectlite.Value.Type" 0) (fun t _ _ _ => ReflectliteType.toType t) #[.agg #[.pointer (some ⟨9, 92, none⟩), .pointer (some a), .int .u64 150]]).run Tryz.prog w
    = .ok (.iface 145 (.agg #[.pointer (some ⟨9, 92, none⟩)])) w := by kernel_rfl
theorem ra_valueOfR (c : Int) (w : World) : (ReflectliteValue.unpack (.iface 82 (.agg #[.int .i64 c]))).run Tryz.prog w
    = .ok (.agg #[.pointer (some ⟨9, 82, none⟩), .pointer (some ⟨w.heap.size, 0, none⟩), .int .u64 153]) (w.alloc (.cells #[.int .i64 c] 82)) := by kernel_rfl
theorem ra_kindP (w : World) : ((ReflectliteType.abiMethod fun t => (fun a : Nat => Value.int IntKind.u8 (a : Int)) <$> Rtype.kind t) #[.pointer (some ⟨9, 92, none⟩)]).run Tryz.prog w = .ok (.int .u8 22) w := by kernel_rfl
theorem ra_kindR (w : World) : ((ReflectliteType.abiMethod fun t => (fun a : Nat => Value.int IntKind.u8 (a : Int)) <$> Rtype.kind t) #[.pointer (some ⟨9, 82, none⟩)]).run Tryz.prog w = .ok (.int .u8 25) w := by kernel_rfl
theorem rlm (z : Sem Value) (f : TypeId → Addr → Nat → Nat → Sem Value) (v : Value) :
    ReflectliteValue.method z f #[v] = (do match ← ReflectliteValue.parts v with | none => z | some (t, a, fl) => f t a fl (fl % 32)) := rfl
theorem ra_partsP (a : Addr) (w : World) : (ReflectliteValue.parts (.agg #[.pointer (some ⟨9, 92, none⟩), .pointer (some a), .int .u64 150])).run Tryz.prog w = .ok (some (92, a, 150)) w := by kernel_rfl
theorem ra_isNil (a p : Addr) (W : World) (ha : W.cell? a = some (.pointer (some p))) :
    (ReflectliteValue.method (ReflectliteValue.valueError "reflectlite.Value.IsNil" 0) ReflectliteValue.isNil #[.agg #[.pointer (some ⟨9, 92, none⟩), .pointer (some a), .int .u64 150]]).run Tryz.prog W = .ok (.bool false) W := by
  rw [rlm]
  simp only [Sem.run_bind, ra_partsP, Result.andThen]
  simp [ReflectliteValue.isNil, loadVar, isAgg, underlying, Tryz.underlying92, ha, Result.andThen]

theorem ra_mKind (h : Value) (w : World) : (Go.method 352 145 (.agg #[h]) "Kind").run Tryz.prog w = .ok (196, h) w := by kernel_rfl
theorem ra_mElem (h : Value) (w : World) : (Go.method 352 145 (.agg #[h]) "Elem").run Tryz.prog w = .ok (207, .agg #[h]) w := by kernel_rfl
theorem ra_mImplements (h : Value) (w : World) : (Go.method 352 145 (.agg #[h]) "Implements").run Tryz.prog w = .ok (208, .agg #[h]) w := by kernel_rfl
theorem ra_mAssignableTo (h : Value) (w : World) : (Go.method 352 145 (.agg #[h]) "AssignableTo").run Tryz.prog w = .ok (205, .agg #[h]) w := by kernel_rfl
theorem ra_elem (w : World) : (ReflectliteType.method ReflectliteType.elem #[.agg #[.pointer (some ⟨9, 92, none⟩)]]).run Tryz.prog w = .ok (.iface 145 (.agg #[.pointer (some ⟨9, 82, none⟩)])) w := by kernel_rfl
theorem ra_implements (w : World) : (ReflectliteType.relation "Implements" ReflectliteType.implements_ #[.agg #[.pointer (some ⟨9, 82, none⟩)], .iface 145 (.agg #[.pointer (some ⟨9, 49, none⟩)])]).run Tryz.prog w = .ok (.bool true) w := by kernel_rfl
theorem ra_typeOf (v : Value) (w : World) : (ReflectliteType.typeOf #[.iface 82 v]).run Tryz.prog w = .ok (.iface 145 (.agg #[.pointer (some ⟨9, 82, none⟩)])) w := by kernel_rfl
theorem ra_assignable (w : World) : (ReflectliteType.relation "AssignableTo" ReflectliteType.assignableTo #[.agg #[.pointer (some ⟨9, 82, none⟩)], .iface 145 (.agg #[.pointer (some ⟨9, 82, none⟩)])]).run Tryz.prog w = .ok (.bool true) w := by kernel_rfl
theorem ra_elemOf (w : World) : (Rtype.elem? 92).run Tryz.prog w = .ok (some 82) w := by kernel_rfl
theorem ra_mk (p : Addr) (w : World) : (ReflectliteValue.mk 82 p ReflectliteValue.flagAddr).run Tryz.prog w = .ok (.agg #[.pointer (some ⟨9, 82, none⟩), .pointer (some p), .int .u64 409]) w := by kernel_rfl
theorem ra_elemV (a p : Addr) (W : World) (ha : W.cell? a = some (.pointer (some p))) :
    (ReflectliteValue.method (ReflectliteValue.valueError "reflectlite.Value.Elem" 0) ReflectliteValue.elem #[.agg #[.pointer (some ⟨9, 92, none⟩), .pointer (some a), .int .u64 150]]).run Tryz.prog W
      = .ok (.agg #[.pointer (some ⟨9, 82, none⟩), .pointer (some p), .int .u64 409]) W := by
  rw [rlm]
  simp only [Sem.run_bind, ra_partsP, Result.andThen]
  simp [ReflectliteValue.elem, loadVar, isAgg, underlying, Tryz.underlying92, ha, Result.andThen, ra_elemOf, ra_mk]
theorem rls (v x : Value) : ReflectliteValue.set #[v, x] = (do
    let (some (dst, a, fl), some (src, b, _)) := (← ReflectliteValue.parts v, ← ReflectliteValue.parts x)
      | unsupported (.noEntry "extern/(internal/reflectlite.Value).Set.zeroValue")
    if fl / ReflectliteValue.flagAddr % 2 == 0 then unsupported (.noEntry "extern/(internal/reflectlite.Value).Set.unaddressable")
    let val ← loadVar src b
    if ← Rtype.directlyAssignable dst src then storeVar dst a val
    else if ← Rtype.implements dst src then
      if (← Rtype.kind src) == 20 then
        match val with
        | .nilIface => unsupported (.noEntry "extern/reflectlite: a nil value of one interface type handed on as a value of another")
        | _ => storeVar dst a val
      else storeVar dst a (.iface src val)
    else panicString ("reflectlite.Set: value of type " ++ (← Rtype.spelt src) ++ " is not assignable to type " ++ (← Rtype.spelt dst))
    pure (.tuple #[])) := rfl
theorem ra_partsRa (a : Addr) (w : World) : (ReflectliteValue.parts (.agg #[.pointer (some ⟨9, 82, none⟩), .pointer (some a), .int .u64 409])).run Tryz.prog w = .ok (some (82, a, 409)) w := by kernel_rfl
theorem ra_partsR (a : Addr) (w : World) : (ReflectliteValue.parts (.agg #[.pointer (some ⟨9, 82, none⟩), .pointer (some a), .int .u64 153])).run Tryz.prog w = .ok (some (82, a, 153)) w := by kernel_rfl
theorem ra_direct (w : World) : (Rtype.directlyAssignable 82 82).run Tryz.prog w = .ok true w := by kernel_rfl
theorem ra_size (w : World) : (sizeOf 82).run Tryz.prog w = .ok 1 w := by kernel_rfl
theorem ra_isAgg (w : World) : (isAgg 82).run Tryz.prog w = .ok true w := by kernel_rfl
/-- (Value).Set: the variable at 'ta' gets what the Value's own variable 'b' holds. -/
theorem ra_set (ta b : Addr) (c : Int) (old : Value) (W : World) (hb : W.cell? b = some (.int .i64 c)) (ht : W.cell? ta = some old) (hf : W.frozen? ta = false) :
    (ReflectliteValue.set #[.agg #[.pointer (some ⟨9, 82, none⟩), .pointer (some ta), .int .u64 409], .agg #[.pointer (some ⟨9, 82, none⟩), .pointer (some b), .int .u64 153]]).run Tryz.prog W
      = .ok (.tuple #[]) (W.setCell ta (.int .i64 c)) := by
  have hl : (loadVar 82 b).run Tryz.prog W = .ok (.agg #[.int .i64 c]) W := by
    have h1 := run_loadCells_list (P := Tryz.prog) W b [.int .i64 c] (fun j v hj => by
      match j, hj with
      | 0, hj => simp at hj; subst hj; simpa [Addr.add] using hb)
    have h2 : (loadCells b 1).run Tryz.prog W = .ok #[.int .i64 c] W := h1
    unfold loadVar
    simp [ra_isAgg, ra_size, h2, Result.andThen]
  have hs : (storeVar 82 ta (.agg #[.int .i64 c])).run Tryz.prog W = .ok () (W.setCell ta (.int .i64 c)) := by
    unfold storeVar
    simp [ra_isAgg, ra_size, Result.andThen, Value.cells, storeCells, Addr.add]
    rw [run_store Tryz.prog W ta _ _ (by rfl)]
    simp [ht, hf]
  rw [rls]
  simp only [Sem.run_bind, ra_partsRa, ra_partsR, Result.andThen]
  simp [ReflectliteValue.flagAddr, hl, Result.andThen, ra_direct, hs]
end Go.Proofs.YtnflhahnbdnaoaaGreatDoor

/-
  errors.As at an error that is a readFault, and codeOf: the code that an error bears, or none.
-/
namespace Go.Proofs.YtnflhahnbdnaoaaGreatDoor
set_option linter.unusedVariables false
set_option linter.unusedSimpArgs false
open Go.RowKit Go.Extern.Stop Go.Stop Go.Extern

/-- What the listed variable holds. -/
def errT (w : World) : Prop := w.cell? ⟨0, 0, none⟩ = some (.iface 145 (.agg #[.pointer (some ⟨9, 49, none⟩)]))

set_option maxRecDepth 100000 in
set_option maxHeartbeats 4000000 in
theorem as_hit (c : Int) (t : Addr) (old : Value) (w : World) (hg0 : errT w) (ht0 : w.cell? t = some old) (hf0 : w.frozen? t = false) :
    Calls Tryz.prog 63 #[.iface 82 (.agg #[.int .i64 c]), .iface 92 (.pointer (some t))] w fun ev w' => ev = .returned (.bool true) ∧ w' = ((((w.alloc (.cells #[.pointer (some t)] 92)).alloc (.cells #[.pointer (some ⟨9, 92, none⟩), .pointer (some ⟨w.heap.size, 0, none⟩), .int .u64 150] 121)).alloc (.cells #[.pointer (some ⟨9, 92, none⟩), .pointer (some ⟨w.heap.size, 0, none⟩), .int .u64 150] 121)).alloc (.cells #[.int .i64 c] 82)).setCell t (.int .i64 c) := by
  have hg : w.cell? ⟨0, 0, none⟩ = some (.iface 145 (.agg #[.pointer (some ⟨9, 49, none⟩)])) := hg0
  have h6 := @run_callFunc_extern Tryz.prog 85 _ (fun args => ReflectliteValue.unpack (args.getD 0 (.tuple #[]))) Tryz.func85 (by kernel_rfl) (by kernel_rfl) (by kernel_rfl) (by kernel_rfl)
  have h7 := @run_callFunc_extern Tryz.prog 86 _ (ReflectliteValue.methodAny (ReflectliteValue.valueError "reflectlite.Value.Type" 0) (fun t _ _ _ => ReflectliteType.toType t)) Tryz.func86 (by kernel_rfl) (by kernel_rfl) (by kernel_rfl) (by kernel_rfl)
  have h8 := @run_callFunc_extern Tryz.prog 87 _ (ReflectliteValue.method (ReflectliteValue.valueError "reflectlite.Value.IsNil" 0) ReflectliteValue.isNil) Tryz.func87 (by kernel_rfl) (by kernel_rfl) (by kernel_rfl) (by kernel_rfl)
  have h27 := @run_callFunc_extern Tryz.prog 196 _ (ReflectliteType.abiMethod fun t => do pure (.int .u8 (← Rtype.kind t))) Tryz.func196 (by kernel_rfl) (by kernel_rfl) (by kernel_rfl) (by kernel_rfl)
  have h37 := @run_callFunc_extern Tryz.prog 207 _ (ReflectliteType.method ReflectliteType.elem) Tryz.func207 (by kernel_rfl) (by kernel_rfl) (by kernel_rfl) (by kernel_rfl)
  have h38 := @run_callFunc_extern Tryz.prog 208 _ (ReflectliteType.relation "Implements" ReflectliteType.implements_) Tryz.func208 (by kernel_rfl) (by kernel_rfl) (by kernel_rfl) (by kernel_rfl)
  have h10 := @run_callFunc_extern Tryz.prog 109 _ ReflectliteType.typeOf Tryz.func109 (by kernel_rfl) (by kernel_rfl) (by kernel_rfl) (by kernel_rfl)
  have h35 := @run_callFunc_extern Tryz.prog 205 _ (ReflectliteType.relation "AssignableTo" ReflectliteType.assignableTo) Tryz.func205 (by kernel_rfl) (by kernel_rfl) (by kernel_rfl) (by kernel_rfl)
  have h11 := @run_callFunc_extern Tryz.prog 110 _ (ReflectliteValue.method (ReflectliteValue.valueError "reflectlite.Value.Elem" 0) ReflectliteValue.elem) Tryz.func110 (by kernel_rfl) (by kernel_rfl) (by kernel_rfl) (by kernel_rfl)
  have h12 := @run_callFunc_extern Tryz.prog 111 _ ReflectliteValue.set Tryz.func111 (by kernel_rfl) (by kernel_rfl) (by kernel_rfl) (by kernel_rfl)
  have tO := ra_typeOf
  have mA := ra_mAssignableTo
  have a25 := ra_assignable
  have v25 := ra_valueOfR
  have f6 := ra_valueOfP
  have f7 := ra_typeP
  have mK := ra_mKind
  have mE := ra_mElem
  have mI := ra_mImplements
  have k27 := ra_kindP
  have k25 := ra_kindR
  have e27 := ra_elem
  have i25 := ra_implements
  have n8 := ra_isNil ⟨w.heap.size, 0, none⟩ t ((w.alloc (.cells #[.pointer (some t)] 92)).alloc (.cells #[.pointer (some ⟨9, 92, none⟩), .pointer (some ⟨w.heap.size, 0, none⟩), .int .u64 150] 121)) (by simp)
  have hg2 := cell_on (cell_on hg (.cells #[.pointer (some t)] 92)) (.cells #[.pointer (some ⟨9, 92, none⟩), .pointer (some ⟨w.heap.size, 0, none⟩), .int .u64 150] 121)
  have htl := World.block_lt_of_cell? w t ht0
  have el := ra_elemV ⟨w.heap.size, 0, none⟩ t (((w.alloc (.cells #[.pointer (some t)] 92)).alloc (.cells #[.pointer (some ⟨9, 92, none⟩), .pointer (some ⟨w.heap.size, 0, none⟩), .int .u64 150] 121)).alloc (.cells #[.pointer (some ⟨9, 92, none⟩), .pointer (some ⟨w.heap.size, 0, none⟩), .int .u64 150] 121)) (cell_on (cell_on (by simp) _) _)
  have st := ra_set t ⟨w.heap.size + 1 + 1 + 1, 0, none⟩ c old ((((w.alloc (.cells #[.pointer (some t)] 92)).alloc (.cells #[.pointer (some ⟨9, 92, none⟩), .pointer (some ⟨w.heap.size, 0, none⟩), .int .u64 150] 121)).alloc (.cells #[.pointer (some ⟨9, 92, none⟩), .pointer (some ⟨w.heap.size, 0, none⟩), .int .u64 150] 121)).alloc (.cells #[.int .i64 c] 82))
    (by rw [World.cell?_alloc_at _ _ _ _ (by simp)]; rfl)
    (cell_on (cell_on (cell_on (cell_on ht0 _) _) _) _)
    (by rw [World.frozen?_alloc_old _ _ t (by simp; omega), World.frozen?_alloc_old _ _ t (by simp; omega), World.frozen?_alloc_old _ _ t (by simp; omega), World.frozen?_alloc_old _ _ t (Nat.ne_of_lt htl)]; exact hf0)
  clear hg0
  go_enter Tryz.func63, Tryz.ntmps63
  go_wp2
  refine wp_loop_rounds 1 ?_
  rw [rounds_succ]
  go_wp2
  go_ret
  exact ⟨rfl, rfl⟩
end Go.Proofs.YtnflhahnbdnaoaaGreatDoor

/-
  Contracts: codeOf of no error and of a readFault; textFits; strings.CutPrefix at "-".
-/
namespace Go.Proofs.YtnflhahnbdnaoaaGreatDoor
set_option linter.unusedVariables false
set_option linter.unusedSimpArgs false
open Go.RowKit Go.PlainAid

theorem c_codeOf_nil (w : World) :
    Calls Tryz.prog 31 #[.nilIface] w fun e w' => e = .returned (.int .i64 0) ∧ Below w.heap.size w w' := by
  go_enter Tryz.func31, Tryz.ntmps31
  go_wp2_with (go_at_call 63; refine (as_nil _ _).mono ?_; rintro e w1 ⟨rfl, rfl⟩)
  go_ret
  exact ⟨rfl, (Below.refl _ _).alloc (Nat.le_refl _) _⟩

set_option maxHeartbeats 1000000 in
theorem c_codeOf_hit (c : Int) (w : World) (hg : errT w) :
    Calls Tryz.prog 31 #[.iface 82 (.agg #[.int .i64 c])] w fun e w' => e = .returned (.int .i64 c) ∧ Below w.heap.size w w' := by
  have hg1 : errT (w.alloc (.cells #[.int .i64 0] 82)) := cell_on hg _
  have ht : (w.alloc (.cells #[.int .i64 0] 82)).cell? ⟨w.heap.size, 0, none⟩ = some (.int .i64 0) := by simp
  have hf : (w.alloc (.cells #[.int .i64 0] 82)).frozen? ⟨w.heap.size, 0, none⟩ = false := by simp
  have HC := as_hit c ⟨w.heap.size, 0, none⟩ (.int .i64 0) _ hg1 ht hf
  clear hg1 ht hf hg
  go_enter Tryz.func31, Tryz.ntmps31
  go_wp2_with fail
  refine HC.mono ?_
  rintro e w1 ⟨rfl, rfl⟩
  go_wp2
  go_ret
  refine ⟨rfl, ?_⟩
  exact (((((Below.refl _ _).alloc (Nat.le_refl _) _).alloc (by simp) _).alloc (by simp; omega) _).alloc (by simp; omega) _).alloc (by simp; omega) _

def fitB (s : ByteArray) : Bool := decide (s.size ≤ 20000)
theorem c_textFits (s : ByteArray) (hs : s.size ≤ maxLen) (w : World) :
    Calls Tryz.prog 58 #[.string s] w fun e w' => e = .returned (.bool (fitB s)) ∧ w' = w := by
  unfold maxLen at hs
  by_cases h : s.size ≤ 20000
  · have h' : (s.size : Int) ≤ 20000 := by omega
    go_enter Tryz.func58, Tryz.ntmps58
    go_wp2
    go_ret
    exact ⟨by simp [fitB, h], rfl⟩
  · have h' : ¬ (s.size : Int) ≤ 20000 := by omega
    go_enter Tryz.func58, Tryz.ntmps58
    go_wp2
    go_ret
    exact ⟨by simp [fitB, h], rfl⟩

/-- Does it begin with a '-'? -/
def negB (s : ByteArray) : Bool := decide (0 < s.size) && (bt s 0 == 45)
/-- What stands behind it. -/
def tailS (s : ByteArray) : ByteArray := if negB s = true then s.extract 1 s.size else s

theorem first1 (s : ByteArray) (h : 1 ≤ s.size) : ((s.extract 0 1).toList == [45]) = negB s := by
  have e : negB s = (bt s 0 == 45) := by unfold negB; rw [decide_eq_true (by omega : 0 < s.size)]; rfl
  rw [e, Lib.extract_toList]
  have hb : bt s 0 = ((s[0]'(by omega)).toNat : Int) := by unfold bt; rw [dif_pos (by omega : 0 < s.size)]
  rw [hb]
  have hd : s.data.toList[0]? = some (s[0]'(by omega)) := Lib.data_getElem? s 0 (by omega)
  cases hl : s.data.toList with
  | nil => rw [hl] at hd; simp at hd
  | cons x tl =>
    rw [hl] at hd; simp at hd; rw [← hd]
    simp only [List.drop_zero, Nat.sub_zero, List.take_succ_cons, List.take_zero]
    by_cases k : x = 45
    · subst k; rfl
    · have k2 : ¬ x.toNat = 45 := fun h => k (UInt8.toNat_inj.1 h)
      have h1 : ([x] == [(45 : UInt8)]) = false := by simp [k]
      have h2 : ((x.toNat : Int) == 45) = false := by simp; omega
      rw [h1, h2]

theorem c_HasPrefix (s : ByteArray) (hs : s.size ≤ maxLen) (w : World) :
    Calls Tryz.prog 135 #[.string s, .string ⟨#[45]⟩] w fun e w' => e = .returned (.bool (negB s)) ∧ w' = w := by
  unfold maxLen at hs
  by_cases h : 1 ≤ s.size
  · have h' : (1 : Int) ≤ (s.size : Int) := by omega
    have HF : Hid (_ = _) := first1 s h
    go_enter Tryz.func135, Tryz.ntmps135
    go_wp2
    go_ret
    exact ⟨by rw [← HF.out]; rfl, rfl⟩
  · have h' : ¬ (1 : Int) ≤ (s.size : Int) := by omega
    have HF : Hid (negB s = false) := (by unfold negB; rw [decide_eq_false (by omega : ¬ 0 < s.size)]; rfl : negB s = false)
    go_enter Tryz.func135, Tryz.ntmps135
    go_wp2
    go_ret
    exact ⟨by rw [HF.out]; rfl, rfl⟩

end Go.Proofs.YtnflhahnbdnaoaaGreatDoor

/-
  Plain facts: what a value's text is, byte by byte. Of no program.
-/
namespace Go.Proofs.YtnflhahnbdnaoaaGreatDoor
set_option linter.unusedVariables false
set_option linter.unusedSimpArgs false
open Go.RowKit Go.PlainAid

def isDig (c : Int) : Bool := decide (48 ≤ c) && decide (c ≤ 57)
theorem isDig_t {c : Int} (h : isDig c = true) : 48 ≤ c ∧ c ≤ 57 := by
  unfold isDig at h
  have := Bool.and_eq_true_iff.1 h
  exact ⟨of_decide_eq_true this.1, of_decide_eq_true this.2⟩
theorem isDig_f {c : Int} (h : isDig c = false) : ¬ (48 ≤ c ∧ c ≤ 57) := by
  rintro ⟨h1, h2⟩; simp [isDig, h1, h2] at h
/-- n digits from place o on. -/
def dig (s : ByteArray) (o n : Nat) : Prop := ∀ j, j < n → 48 ≤ bt s (o + j) ∧ bt s (o + j) ≤ 57
/-- Their number. -/
def valD (s : ByteArray) (o : Nat) : Nat → Int
  | 0 => 0
  | n + 1 => valD s o n * 10 + (bt s (o + n) - 48)

theorem dig_succ {s : ByteArray} {o n : Nat} (h : dig s o n) (hd : isDig (bt s (o + n)) = true) : dig s o (n + 1) := by
  intro j hj
  rcases Nat.lt_or_ge j n with k | k
  · exact h j k
  · rw [show j = n by omega]; exact isDig_t hd
theorem dig_size {s : ByteArray} {o n : Nat} (h : dig s o n) (h1 : 1 ≤ n) : o + n ≤ s.size := by
  rcases Nat.lt_or_ge s.size (o + n) with k | k
  · have := h (n - 1) (by omega)
    rw [bt_end s (show s.size ≤ o + (n - 1) by omega)] at this
    omega
  · exact k
theorem valD_bd {s : ByteArray} {o : Nat} : ∀ n, dig s o n → 0 ≤ valD s o n ∧ valD s o n < 10 ^ n
  | 0, _ => by simp [valD]
  | n + 1, h => by
    have ih := valD_bd n (fun j hj => h j (by omega))
    have hl := h n (by omega)
    unfold valD
    rw [Int.pow_succ]
    omega

/-- A whole part of k digits at F. -/
def Whole (s : ByteArray) (F k : Nat) : Prop := 1 ≤ k ∧ k ≤ 12 ∧ dig s F k ∧ ¬ (1 < k ∧ bt s F = 48)
/-- The text from F on is that of V millionths. -/
def Parse (s : ByteArray) (F : Nat) (V : Int) : Prop := ∃ k, Whole s F k ∧ ((F + k = s.size ∧ V = valD s F k * 1000000) ∨ ∃ p, 1 ≤ p ∧ p ≤ 6 ∧ F + k + 1 + p = s.size ∧ bt s (F + k) = 46 ∧ dig s (F + k + 1) p ∧ V = (valD s F k * 10 ^ p + valD s (F + k + 1) p) * 10 ^ (6 - p))

/-- Where the digits stop: so long is the whole part, if there is one. -/
theorem stop {s : ByteArray} {F k0 k : Nat} (h0 : dig s F k0) (hs : k0 = 12 ∨ isDig (bt s (F + k0)) = false) (hk : k ≤ 12) (hd : dig s F k) (hn : isDig (bt s (F + k)) = false) : k = k0 := by
  rcases Nat.lt_trichotomy k k0 with h | h | h
  · have := h0 k h
    exact absurd this (isDig_f hn)
  · exact h
  · rcases hs with e | e
    · omega
    · exact absurd (hd k0 h) (isDig_f e)
theorem parse_k {s : ByteArray} {F k0 : Nat} {V : Int} (h0 : dig s F k0) (hs : k0 = 12 ∨ isDig (bt s (F + k0)) = false) (hp : Parse s F V) :
    Whole s F k0 ∧ ((F + k0 = s.size ∧ V = valD s F k0 * 1000000) ∨ ∃ p, 1 ≤ p ∧ p ≤ 6 ∧ F + k0 + 1 + p = s.size ∧ bt s (F + k0) = 46 ∧ dig s (F + k0 + 1) p ∧ V = (valD s F k0 * 10 ^ p + valD s (F + k0 + 1) p) * 10 ^ (6 - p)) := by
  obtain ⟨k, hw, hr⟩ := hp
  have e : k = k0 := by
    refine stop h0 hs hw.2.1 hw.2.2.1 ?_
    rcases hr with ⟨e, _⟩ | ⟨p, _, _, _, e, _⟩
    · rw [bt_end s (by omega)]; rfl
    · rw [e]; rfl
  subst e
  exact ⟨hw, hr⟩
theorem parse_unique {s : ByteArray} {F : Nat} {V V' : Int} (h : Parse s F V) (h' : Parse s F V') : V = V' := by
  obtain ⟨k, hw, hr⟩ := h
  have hn : isDig (bt s (F + k)) = false := by
    rcases hr with ⟨e, _⟩ | ⟨p, _, _, _, e, _⟩
    · rw [bt_end s (by omega)]; rfl
    · rw [e]; rfl
  obtain ⟨_, hr'⟩ := parse_k hw.2.2.1 (.inr hn) h'
  rcases hr with ⟨e, hv⟩ | ⟨p, p1, p2, e, e46, hd, hv⟩
  · rcases hr' with ⟨_, hv'⟩ | ⟨p', q1, _, e', _⟩
    · rw [hv, hv']
    · omega
  · rcases hr' with ⟨e', _⟩ | ⟨p', q1, q2, e', _, _, hv'⟩
    · omega
    · have : p' = p := by omega
      subst this; rw [hv, hv']
theorem parse_bd {s : ByteArray} {F : Nat} {V : Int} (h : Parse s F V) : 0 ≤ V ∧ V ≤ 999999999999999999 := by
  obtain ⟨k, hw, hr⟩ := h
  have b := valD_bd k hw.2.2.1
  have hk : valD s F k ≤ 999999999999 := by
    have h0 := Nat.pow_le_pow_right (show 0 < 10 by omega) hw.2.1
    have h1 : (10 : Int) ^ k ≤ 10 ^ 12 := by exact_mod_cast h0
    have h2 : (10 : Int) ^ 12 = 1000000000000 := by decide
    omega
  rcases hr with ⟨_, hv⟩ | ⟨p, p1, p2, _, _, hd, hv⟩
  · omega
  · have bp := valD_bd p hd
    rw [hv]
    have hc : p = 1 ∨ p = 2 ∨ p = 3 ∨ p = 4 ∨ p = 5 ∨ p = 6 := by omega
    rcases hc with rfl | rfl | rfl | rfl | rfl | rfl <;> simp only [show (10 : Int) ^ 1 = 10 from rfl, show (10 : Int) ^ 2 = 100 from rfl, show (10 : Int) ^ 3 = 1000 from rfl, show (10 : Int) ^ 4 = 10000 from rfl, show (10 : Int) ^ 5 = 100000 from rfl, show (10 : Int) ^ 6 = 1000000 from rfl, Nat.reduceSub, show (10 : Int) ^ 0 = 1 from rfl] at bp ⊢ <;> omega

/-- Of k digits, up to 17. -/
theorem valD_17 {s : ByteArray} {o n : Nat} (h : dig s o n) (hn : n ≤ 12) : 0 ≤ valD s o n ∧ valD s o n ≤ 999999999999 := by
  have b := valD_bd n h
  have h0 := Nat.pow_le_pow_right (show 0 < 10 by omega) hn
  have h1 : (10 : Int) ^ n ≤ 10 ^ 12 := by exact_mod_cast h0
  have h2 : (10 : Int) ^ 12 = 1000000000000 := by decide
  omega
/-- What has been read when p digits of the part have come. -/
def valP (s : ByteArray) (F k p : Nat) : Int := valD s F k * 10 ^ p + valD s (F + k + 1) p
theorem valP_bd {s : ByteArray} {F k p : Nat} (hk : dig s F k) (h12 : k ≤ 12) (hp : dig s (F + k + 1) p) (h6 : p ≤ 5) : 0 ≤ valP s F k p ∧ valP s F k p ≤ 99999999999999999 := by
  have b := valD_17 hk h12
  have bp := valD_bd p hp
  unfold valP
  have hc : p = 0 ∨ p = 1 ∨ p = 2 ∨ p = 3 ∨ p = 4 ∨ p = 5 := by omega
  rcases hc with rfl | rfl | rfl | rfl | rfl | rfl <;> simp only [show (10 : Int) ^ 1 = 10 from rfl, show (10 : Int) ^ 2 = 100 from rfl, show (10 : Int) ^ 3 = 1000 from rfl, show (10 : Int) ^ 4 = 10000 from rfl, show (10 : Int) ^ 5 = 100000 from rfl, show (10 : Int) ^ 0 = 1 from rfl] at bp ⊢ <;> omega
theorem valP_succ (s : ByteArray) (F k p : Nat) : valP s F k p * 10 + (bt s (F + k + 1 + p) - 48) = valP s F k (p + 1) := by
  unfold valP
  rw [Int.pow_succ]
  show _ = valD s F k * (10 ^ p * 10) + (valD s (F + k + 1) p * 10 + (bt s (F + k + 1 + p) - 48))
  rw [← Int.mul_assoc]
  omega
/-- Noughts behind. -/
def Scal (v : Int) (p : Nat) (V : Int) : Prop := p ≤ 6 ∧ v * 10 ^ (6 - p) = V
theorem scal_step {v V : Int} {p : Nat} (h : Scal v p V) (hp : p < 6) : Scal (v * 10) (p + 1) V := by
  refine ⟨by omega, ?_⟩
  have := h.2
  rw [show 6 - p = (6 - (p + 1)) + 1 by omega, Int.pow_succ] at this
  rw [Int.mul_assoc, Int.mul_comm 10]; exact this
theorem scal_end {v V : Int} {p : Nat} (h : Scal v p V) (hp : ¬ p < 6) : v = V := by
  have h2 := h.2
  rw [show 6 - p = 0 by have := h.1; omega] at h2
  simpa using h2
theorem scal_bd {v V : Int} {p : Nat} (h : Scal v p V) (hp : p < 6) (hV : 0 ≤ V ∧ V ≤ 999999999999999999) : 0 ≤ v ∧ v ≤ 99999999999999999 := by
  have h2 := h.2
  have hc : 6 - p = 1 ∨ 6 - p = 2 ∨ 6 - p = 3 ∨ 6 - p = 4 ∨ 6 - p = 5 ∨ 6 - p = 6 := by omega
  rcases hc with e | e | e | e | e | e <;> rw [e] at h2 <;> simp only [show (10 : Int) ^ 1 = 10 from rfl, show (10 : Int) ^ 2 = 100 from rfl, show (10 : Int) ^ 3 = 1000 from rfl, show (10 : Int) ^ 4 = 10000 from rfl, show (10 : Int) ^ 5 = 100000 from rfl, show (10 : Int) ^ 6 = 1000000 from rfl] at h2 <;> omega
end Go.Proofs.YtnflhahnbdnaoaaGreatDoor

/-
  A scope in which the run jumps to several labels: what holds at each jump, and a measure that every pass lowers. Of no program.
-/
namespace Go.Proofs.YtnflhahnbdnaoaaGreatDoor
open Go

/-- As Q; by a goto to label l: J l. -/
def jumpsM (J : Nat → Act → World → Prop) (Q : Exit → Act → World → Prop) : Exit → Act → World → Prop
  | .goto l, a, w => J l a w
  | e, a, w => Q e a w

theorem wp_scope_many {P : Program} {a : Act} {w : World} {Q : Exit → Act → World → Prop} {c : Code} (J : Nat → Act → World → Prop) (μ : Nat → Act → World → Nat)
    (first : c.wp P (jumpsM J Q) a w)
    (pass : ∀ l a w, J l a w → ∃ rest, findLabel c l = some rest ∧ rest.wp P (jumpsM (fun l' a' w' => J l' a' w' ∧ μ l' a' w' < μ l a w) Q) a w) : (Code.scope c).wp P Q a w := by
  intro b k cs
  have key : ∀ n l a w, μ l a w = n → J l a w → ∃ rest, findLabel c l = some rest ∧ ∃ e a' w', Q e a' w' ∧ Arrives P (lone (b.at a (.code rest :: .inScope c :: k)) cs w) b k cs e a' w' := by
    intro n
    induction n using Nat.strongRecOn with
    | _ n ih =>
      intro l a w hn hJ
      obtain ⟨rest, hf, hp⟩ := pass l a w hJ
      refine ⟨rest, hf, ?_⟩
      obtain ⟨e, a₁, w₁, hq, harr⟩ := hp b (.inScope c :: k) cs
      cases e with
      | normal => exact ⟨.normal, a₁, w₁, hq, Steps.trans harr (.one step_inScope)⟩
      | exit id => exact ⟨.exit id, a₁, w₁, hq, fun k' hk => harr k' (by simp [exitTo, hk])⟩
      | goto l' =>
        obtain ⟨hJ', hlt⟩ := hq
        obtain ⟨rest', hf', e₂, a₂, w₂, hq₂, harr₂⟩ := ih _ (by omega) l' a₁ w₁ rfl hJ'
        have hg : gotoIn l' (.inScope c :: k) = some (.code rest' :: .inScope c :: k) := by simp [gotoIn, hf']
        exact ⟨e₂, a₂, w₂, hq₂, .of_steps (harr _ hg) harr₂⟩
      | ret => exact ⟨_, a₁, w₁, hq, harr⟩
      | panic ch => exact ⟨_, a₁, w₁, hq, harr⟩
      | outgrown => exact ⟨_, a₁, w₁, hq, harr⟩
  obtain ⟨e, a₁, w₁, hq, harr⟩ := first b (.inScope c :: k) cs
  cases e with
  | normal => exact ⟨.normal, a₁, w₁, hq, .head step_scope (Steps.trans harr (.one step_inScope))⟩
  | exit id => exact ⟨.exit id, a₁, w₁, hq, fun k' hk => .head step_scope (harr k' (by simp [exitTo, hk]))⟩
  | goto l' =>
    obtain ⟨rest', hf', e₂, a₂, w₂, hq₂, harr₂⟩ := key _ l' a₁ w₁ rfl hq
    have hg : gotoIn l' (.inScope c :: k) = some (.code rest' :: .inScope c :: k) := by simp [gotoIn, hf']
    exact ⟨e₂, a₂, w₂, hq₂, .of_steps (.head step_scope (harr _ hg)) harr₂⟩
  | ret => exact ⟨_, a₁, w₁, hq, .of_steps (.one step_scope) harr⟩
  | panic ch => exact ⟨_, a₁, w₁, hq, .of_steps (.one step_scope) harr⟩
  | outgrown => exact ⟨_, a₁, w₁, hq, .of_steps (.one step_scope) harr⟩
end Go.Proofs.YtnflhahnbdnaoaaGreatDoor
