/-
  The law FnExactLineText: of every sample the program writes the line that the model writes; nothing that was there has turned. Condition: the library's tables and errors as the program's text lays them (the card ties them).
-/
import Derived.Test.YtnflhahnbdnaoaaGreatDoorLT
import Derived.Test.YtnflhahnbdnaoaaGreatDoorLQ
import Derived.Test.YtnflhahnbdnaoaaGreatDoorLR
import Derived.Test.YtnflhahnbdnaoaaGreatDoorTie
import Derived.Test.YtnflhahnbdnaoaaGreatDoorCards
import Derived.Lib.SmallJoins
import Derived.Lib.LaidTab
import Derived.LaidLaws
namespace Go.Proofs.YtnflhahnbdnaoaaGreatDoor
set_option linter.unusedVariables false
set_option linter.unusedSimpArgs false
open Go.ChangeMaps (open_string shut_string)
open Go.ChangeShapes Go.WideShapes Go.ChangeAt Go.RowKit Go.Joins
set_option maxRecDepth 10000

set_option maxHeartbeats 1000000 in
theorem c_szSample {w : World} (k : Int) (se : ByteArray) (v : Int) (wd : ByteArray) (wt : Int) (tm : Bool) (ti : Int) (hse : se.size ≤ maxLen) (hwd : wd.size ≤ maxLen) :
    Calls Tryz.prog 5 #[smpV k se v wd wt tm ti, .int .i64 1048576] w fun e w' => ∃ r, e = .returned (.int .i64 r) ∧ Below w.heap.size w w' := by
  unfold maxLen at hse hwd
  unfold smpV
  have hw1 : IntKind.i64.wrap (1048576 - (se.size : Int)) = 1048576 - (se.size : Int) := IntWalk.i64_in _ ⟨by omega, by omega⟩
  by_cases h1 : 1048576 - (se.size : Int) < 0
  · go_enter Tryz.func5, Tryz.ntmps5
    go_wp2
    go_ret
    first | exact ⟨_, rfl, (Below.refl _ _).alloc (Nat.le_refl _) _⟩ | exact ⟨⟨_, rfl⟩, (Below.refl _ _).alloc (Nat.le_refl _) _⟩
  · have hw2 : IntKind.i64.wrap (1048576 - (se.size : Int) - (wd.size : Int)) = 1048576 - (se.size : Int) - (wd.size : Int) := IntWalk.i64_in _ ⟨by omega, by omega⟩
    by_cases h2 : 1048576 - (se.size : Int) - (wd.size : Int) < 0
    · go_enter Tryz.func5, Tryz.ntmps5
      go_wp2
      go_ret
      first | exact ⟨_, rfl, (Below.refl _ _).alloc (Nat.le_refl _) _⟩ | exact ⟨⟨_, rfl⟩, (Below.refl _ _).alloc (Nat.le_refl _) _⟩
    · go_enter Tryz.func5, Tryz.ntmps5
      go_wp2
      go_ret
      first | exact ⟨_, rfl, (Below.refl _ _).alloc (Nat.le_refl _) _⟩ | exact ⟨⟨_, rfl⟩, (Below.refl _ _).alloc (Nat.le_refl _) _⟩
set_option maxHeartbeats 1000000 in
theorem c_toSample {w : World} (k : Int) (se : ByteArray) (v : Int) (wd : ByteArray) (wt : Int) (tm : Bool) (ti : Int) :
    Calls Tryz.prog 7 #[smpV k se v wd wt tm ti] w fun e w' => e = .returned (smpV k se v wd wt tm ti) ∧ Below w.heap.size w w' := by
  unfold smpV
  go_enter Tryz.func7, Tryz.ntmps7
  go_wp2
  refine bodyPost_ret (v := .agg #[.int .i64 k, .string se, .int .i64 v, .string wd, .int .u64 wt, .bool tm, .int .i64 ti]) (by simp [results, Tryz.results7, go_sem]) rfl ⟨rfl, ?_⟩
  exact (((Below.refl _ _).alloc (Nat.le_refl _) _).alloc (by simp) _).alloc (by simp; omega) _
set_option maxHeartbeats 2000000 in
theorem walkLineText (k : Int) (se : ByteArray) (v : Int) (wd : ByteArray) (wt : Int) (tm : Bool) (ti : Int) (w : World) (hse : se.size ≤ maxLen) (hwd : wd.size ≤ maxLen) (hG : LnG w) (hm : MX w) (hE : errT w) :
    Calls Tryz.prog 3 #[smpV k se v wd wt tm ti] w fun e w' => e = .returned (.bool true) ∧ Below w.heap.size w w' := by
  have HB := hide (SBox.made (k := k) (se := se) (v := v) (wd := wd) (wt := wt) (tm := tm) (ti := ti) (T := 24) w)
  have HM := hide hm
  have HG := hide hG
  have HE := hide hE
  clear hm hG hE
  unfold smpV
  go_enter Tryz.func3, Tryz.ntmps3
  go_wp2_with fail
  refine (c_szSample k se v wd wt tm ti hse hwd).mono ?_
  rintro e w1 ⟨r, rfl, hb1⟩
  replace HB := hide (HB.out.past hb1)
  clear hb1
  by_cases hr : r < 0
  · go_wp2
    go_ret
    exact ⟨rfl, HB.out.bel⟩
  · obtain ⟨c0, c1, c2, c3, c4, c5, c6⟩ := cell7M HB.out.row
    go_wp2_with fail
    clear c0 c1 c2 c3 c4 c5 c6
    refine (c_toSample k se v wd wt tm ti).mono ?_
    rintro e w2 ⟨rfl, hb2⟩
    replace HB := hide (HB.out.past hb2)
    clear hb2
    unfold smpV
    go_wp2_with fail
    refine (c_s_LineText k se v wd wt tm ti hse hwd).mono ?_
    rintro e w3 ⟨r1, rfl, hA1, hb3⟩
    replace HB := hide (HB.out.past hb3)
    have HA1 := hide hA1
    clear hb3 hA1
    obtain ⟨c0, c1, c2, c3, c4, c5, c6⟩ := cell7M HB.out.row
    go_wp2_with fail
    clear c0 c1 c2 c3 c4 c5 c6
    refine (c_toSample k se v wd wt tm ti).mono ?_
    rintro e w4 ⟨rfl, hb4⟩
    replace HB := hide (HB.out.past hb4)
    clear hb4
    unfold smpV
    go_wp2_with fail
    refine (c_i_LineText k se v wd wt tm ti hse hwd (HM.out.past HB.out.bel) (HG.out.past HB.out.bel).tab (HG.out.past HB.out.bel) (cell_past HB.out.bel HE.out)).mono ?_
    rintro e w5 ⟨r2, rfl, hA2, hb5⟩
    obtain rfl := hA2.one HA1.out
    replace HB := hide (HB.out.past hb5)
    clear hb5 hA2
    have hss : (r2.toList == r2.toList) = true := by simp
    go_wp2
    go_ret
    exact ⟨rfl, HB.out.bel⟩
theorem etG : Tryz.prog.globalNamed "errors.errorType" = some 0 := by kernel_rfl
theorem etR : (Tryz.prog.cutTypes.find? (·.1 == "internal/reflectlite.rtype")).map (·.2) = some 145 := by kernel_rfl
theorem etOne : ((List.range 252).filter fun t => Tryz.prog.rowNamed t [101, 114, 114, 111, 114]) = [49] := by kernel_rfl
theorem etSize : Tryz.prog.types.size = 252 := by kernel_rfl
set_option maxRecDepth 100000 in
theorem errT_of_laid {W : World} {l : List (String × DataW Unit)} (h : laidMetH Tryz.prog l W) (hm : ("errors.errorType", Rows.laid_errors_errorType) ∈ l.filter fun x => x.2.handleName?.isSome) : errT W := by
  have h' := (laidMetH_iff.1 h).2 _ hm
  obtain ⟨name, u, ty, e1, e2, e3, e4, e5⟩ := h'
  have en : name = [101, 114, 114, 111, 114] := (Option.some.inj e1).symm
  subst en
  obtain rfl := Option.some.inj (etR.symm.trans e2)
  have hm : ty ∈ (List.range 252).filter fun t => Tryz.prog.rowNamed t [101, 114, 114, 111, 114] := List.mem_filter.2 ⟨List.mem_range.2 (by rw [← etSize]; exact e3), e4⟩
  rw [etOne] at hm
  obtain rfl := List.mem_singleton.1 hm
  have hh : typeHandle Tryz.prog 49 = .pointer (some ⟨9, 49, none⟩) := by kernel_rfl
  rw [hh] at e5
  simpa [errT] using World.var?_cell etG e5 0


theorem iface_cell {W : World} {name : String} {nm : String} {d : DataW Unit} {g : Nat} {t : TypeId} {ms : Array (String × TypeId)} {rest : List (String × DataW Unit)} (hg : Tryz.prog.globalNamed name = some g) (hty : (Tryz.prog.globals[g]?).map (·.type) = some t) (ht : Tryz.prog.underlying t = some (.interface ms)) (h : laidMet Tryz.prog ((name, .iface nm d) :: rest) W) :
    ∃ te pe, W.cell? ⟨g, 0, none⟩ = some (.iface te pe) := by
  obtain ⟨ps, ⟨g', t', cs, fuel, p, q, hg', ht', hvar, hd, _, _⟩, _⟩ := h
  obtain rfl := Option.some.inj (hg.symm.trans hg')
  obtain rfl := Option.some.inj (hty.symm.trans ht')
  obtain ⟨_, u, v, hcs, _, _⟩ := iface_of_trod ht hd
  refine ⟨u, v, ?_⟩
  rw [World.var?_cell hg hvar 0, ← Array.getElem?_toList, hcs]
  rfl
set_option maxRecDepth 100000 in
theorem of_laid {W : World} (h : laidMetH Tryz.prog Rows.fnExactLineTextRow.laid W) : errT W ∧ LnG W := by
  refine ⟨errT_of_laid h ?_, ⟨?_, ?_, ?_⟩⟩
  · rw [show (Rows.fnExactLineTextRow.laid.filter fun x => x.2.handleName?.isSome) = [("errors.errorType", Rows.laid_errors_errorType)] by kernel_rfl]; exact List.mem_singleton.2 rfl
  · have h2 := ((laidMetH_iff.1 h).1).filter (fun x => x.1 == "internal/strconv.uint64pow10")
    rw [show (Rows.fnExactLineTextRow.laid.filter fun x => x.2.handleName?.isNone).filter (fun x => x.1 == "internal/strconv.uint64pow10") = [("internal/strconv.uint64pow10", Lib.tabData .u64 Lib.pow10Tab)] by kernel_rfl] at h2
    exact Lib.tabIs_of_head (g := 1) (t := 172) (e := 22) (n := 20) (by kernel_rfl) (by kernel_rfl) Tryz.underlying172 Tryz.underlying22 (by kernel_rfl) (by kernel_rfl) h2
  · have h2 := ((laidMetH_iff.1 h).1).filter (fun x => x.1 == "strconv.ErrSyntax")
    rw [show (Rows.fnExactLineTextRow.laid.filter fun x => x.2.handleName?.isNone).filter (fun x => x.1 == "strconv.ErrSyntax") = [("strconv.ErrSyntax", Rows.laid_strconv_ErrSyntax)] by kernel_rfl] at h2
    exact iface_cell (by kernel_rfl) (by kernel_rfl) Tryz.underlying49 h2
  · have h2 := ((laidMetH_iff.1 h).1).filter (fun x => x.1 == "strconv.ErrRange")
    rw [show (Rows.fnExactLineTextRow.laid.filter fun x => x.2.handleName?.isNone).filter (fun x => x.1 == "strconv.ErrRange") = [("strconv.ErrRange", Rows.laid_strconv_ErrRange)] by kernel_rfl] at h2
    exact iface_cell (by kernel_rfl) (by kernel_rfl) Tryz.underlying49 h2

set_option maxRecDepth 100000
theorem own : ownKnob Tryz.prog.godebug = none := by kernel_rfl
theorem laidOut : laidOutB Tryz.prog = true := by kernel_rfl
/-- The listed data. -/
noncomputable def dataL : List (String × DataW Unit) := Rows.fnExactLineTextRow.laid.filter fun x => x.2.handleName?.isNone
/-- A world with the handle laid. -/
noncomputable def base0 (os : Os) : World := { World.holding Tryz.prog os ⟨#[], #[], []⟩ with heap := (World.holding Tryz.prog os ⟨#[], #[], []⟩).heap.modify 0 fun | .cells _ t frozen => .cells #[.iface 145 (.agg #[.pointer (some ⟨9, 49, none⟩)])] t frozen | o => o }
noncomputable def witW (os : Os) : World := (base0 os).layVars Tryz.prog dataL
theorem witW_met (os : Os) (args : Array Value) : laidMetH Tryz.prog Rows.fnExactLineTextRow.laid ((witW os).forCall (fun _ _ => 0) ⟨#[], args, []⟩).memory :=
  laidMetH_of_parts (laidMet_over (W0 := base0 os) (laid := dataL) args (by kernel_rfl) (by kernel_rfl)) (by kernel_rfl)
theorem liftedLineText (os : Os) (started : os.Started) (H : Type) (enc : TypeId × Value → H) :
    ReturnsInHanded {} Tryz.checked os 3 .any (fun w args => (Rows.fnExactLineTextSpec.pre enc Tryz.prog Tryz.f3 [] false w args ∧ laidMetH Tryz.prog Rows.fnExactLineTextRow.laid w) ∧ sizedMet enc Tryz.prog Tryz.f3 (OpenSpec.ofChange Rows.fnExactLineTextSpec) false w args)
      (Rows.fnExactLineTextSpec.post enc Tryz.prog Tryz.f3 false true false false) := by
  refine handed_shaped (C := Tryz.checked) (L := Rows.fnExactLineTextRow.laid) own started (by kernel_rfl) Tryz.func3
    (ChangeSpec.witness_shaped (enc := enc) (C := Tryz.checked) (os := os) (X := fun w _ => laidMetH Tryz.prog Rows.fnExactLineTextRow.laid w) false (witW os) #[.agg #[.int .i64 0, .string ByteArray.empty, .int .i64 0, .string ByteArray.empty, .int .u64 0, .bool false, .int .i64 0]] 8 (World.layVars_os _ _ _)
      (World.shaped_of_ZipB (by kernel_rfl) (by kernel_rfl)) (by kernel_rfl) (by kernel_rfl) (by kernel_rfl) (witW_met os _)) ?_
  intro W base args ds gs before hval0 hW hL hsh
  have hval : ∀ (j : Nat) t v, Tryz.f3.params[j]? = some t → args[j]? = some v → Value.okWide Tryz.prog W .any base t v := hval0
  have hW' := hW
  obtain ⟨p, q, hA0, hV, rfl, hfz, hnd⟩ := hW
  have hA : DataW.TrodAll enc Tryz.prog W 0 (fun _ => true) true Tryz.f3.params.toList args.toList ds p := hA0
  rw [Tryz.params3] at hA hval
  obtain ⟨v0, vs0, d0, ds0, p0, q0, hargs, rfl, rfl, h0, r0⟩ := trodAll_cons hA
  obtain ⟨rfl, rfl, rfl⟩ := trodAll_nil r0
  obtain rfl : args = #[v0] := by cases args; simp_all
  obtain ⟨rfl, rfl⟩ := trodVars_none hV
  have k0 := h0
  have lt0 : ∀ x ∈ p0, x.block < W.heap.size := by obtain ⟨m, hm⟩ := k0; exact DataW.trod_lt m _ _ _ hm
  obtain ⟨k0a, k0b, k0c, k0d, k0e, k0f, k0g, rfl, u0, x0⟩ := open_sample (hval 0 24 v0 rfl rfl) h0
  clear hA0 hval0
  refine (walkLineText k0a k0b k0c k0d k0e k0f k0g W u0 x0 (of_laid hL).2 (mx_of hsh) (of_laid hL).1).mono fun e W' ⟨he, bel⟩ => ?_
  subst he
  exact ⟨_, rfl, _, _, _, [], _, [], hW', trodAll_mk1 (shut_bool Tryz.underlying4 _), (trodAll_cons_mk (Below.trod laidOut (by kernel_rfl) (of_decide_eq_true (by kernel_rfl)) k0 bel lt0) trodAll_mk0), rfl, bel.frame _, fun h => by cases h⟩

theorem saidLineText : Rows.FnExactLineTextSaid :=
  OpenClaim.holds_of_wide 3 Tryz.f3 rfl rfl rfl rfl rfl rfl rfl ⟨rfl, rfl, rfl, rfl, rfl⟩ rfl rfl rfl rfl rfl (by kernel_rfl) Tryz.func3 (by kernel_rfl)
    (of_decide_eq_true (by kernel_rfl)) (by unfold Func.isWrapper; first | (rw [if_pos (by decide +kernel)]; kernel_rfl) | (rw [if_neg (by decide +kernel)]; exact ⟨rfl, rfl⟩))
    (fun os started H enc _ => liftedLineText os started H enc)

/-- No parameter wants a stand-in; the program's own looks are off. -/
theorem plainLineText (f : FuncId) (fn : Func) (hf : Tryz.pinned.checked.prog.funcNamed Rows.fnExactLineTextRow.func = some f) (hfn : Tryz.pinned.checked.prog.funcs[f]? = some fn) :
    Rows.fnExactLineTextCard.stood.looks = Tryz.pinned.checked.prog.looks [] ∧ ∀ (j : Nat) t, fn.params[j]? = some t → Tryz.pinned.checked.prog.wantsStandIn t = false := by
  obtain rfl : f = 3 := Option.some.inj ((show Tryz.prog.funcNamed Rows.fnExactLineTextRow.func = some 3 by kernel_rfl).symm.trans hf) |>.symm
  obtain rfl : fn = Tryz.f3 := (Option.some.inj (Tryz.func3.symm.trans hfn)).symm
  refine ⟨by kernel_rfl, fun j t ht => ?_⟩
  rw [Tryz.params3] at ht
  have ht2 := Array.mem_of_getElem? ht
  simp only [List.mem_toArray, List.mem_cons, List.not_mem_nil, or_false] at ht2
  subst ht2
  exact (show Tryz.prog.wantsStandIn 24 = false by kernel_rfl)

theorem fnExactLineText_card : Rows.FnExactLineTextCardSaid :=
  Claim7.holds_tied_plain_at .later [] _ _ _ _ saidLineText (fun _ h => by cases h) (by kernel_rfl) (fun _ h => by cases h) fnExactLineText_row_tie rfl ⟨rfl, rfl⟩ (by kernel_rfl) rfl plainLineText (by kernel_rfl)
#print axioms fnExactLineText_card

end Go.Proofs.YtnflhahnbdnaoaaGreatDoor
