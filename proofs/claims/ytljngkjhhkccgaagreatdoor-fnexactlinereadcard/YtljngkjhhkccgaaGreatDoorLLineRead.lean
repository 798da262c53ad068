/-
  The law FnExactLineRead: of every text the program reads what the model reads, every field; nothing that was there has turned. No condition.
-/
import Derived.Test.YtljngkjhhkccgaaGreatDoorLnV
import Derived.Test.YtljngkjhhkccgaaGreatDoorLnN
import Derived.Test.YtljngkjhhkccgaaGreatDoorShp
import Derived.Test.YtljngkjhhkccgaaGreatDoorLaidO
import Derived.Test.YtljngkjhhkccgaaGreatDoorTie
import Derived.Test.YtljngkjhhkccgaaGreatDoorCards
import Derived.Lib.SmallJoins
import Derived.Lib.LaidTab
import Derived.LaidLaws
namespace Go.Proofs.YtljngkjhhkccgaaGreatDoor
set_option linter.unusedVariables false
set_option linter.unusedSimpArgs false
open Go.ChangeMaps (open_string shut_string)
open Go.ChangeShapes Go.WideShapes Go.ChangeAt Go.RowKit Go.Joins
set_option maxRecDepth 10000

set_option maxHeartbeats 1000000 in
theorem c_eqSample (k va wt ti : Int) (se wd : ByteArray) (td : Bool) (w : World) :
    Calls Tryz.prog 17 #[.agg #[.int .i64 k, .string se, .int .i64 va, .string wd, .int .u64 wt, .bool td, .int .i64 ti], .agg #[.int .i64 k, .string se, .int .i64 va, .string wd, .int .u64 wt, .bool td, .int .i64 ti]] w fun e w' => e = .returned (.bool true) ∧ Below w.heap.size w w' := by
  go_enter Tryz.func17, Tryz.ntmps17
  go_wp2
  go_ret
  exact ⟨rfl, ((Below.refl _ _).alloc (Nat.le_refl _) _).alloc (by simp) _⟩
set_option maxHeartbeats 1000000 in
theorem c_eqSampleOut (s : Sm) (w : World) :
    Calls Tryz.prog 6 #[outL s, outL s] w fun e w' => e = .returned (.bool true) ∧ Below w.heap.size w w' := by
  obtain ⟨k, se, va, wd, wt, td, ti, c⟩ := s
  unfold outL
  simp only
  have HW : Hid (∀ o1 o2, Below w.heap.size w ((w.alloc o1).alloc o2)) := fun o1 o2 => ((Below.refl _ _).alloc (Nat.le_refl _) _).alloc (by simp) _
  go_enter Tryz.func6, Tryz.ntmps6
  go_wp2_with fail
  refine (c_eqSample _ _ _ _ _ _ _ _).mono ?_
  rintro e w1 ⟨rfl, hb1⟩
  have HT1 := hide ((HW.out _ _).trans (hb1.mono (by simp <;> omega)))
  obtain ⟨hc1, _⟩ := bcell hb1
  simp at hc1
  clear hb1
  go_wp2
  go_ret
  exact ⟨rfl, HT1.out⟩

theorem row_box8 {k va wt ti c : Int} {se wd : ByteArray} {td : Bool} {T : TypeId} (w : World) {w' : World} (hb : Below (w.alloc (.cells #[.int .i64 k, .string se, .int .i64 va, .string wd, .int .u64 wt, .bool td, .int .i64 ti, .int .i64 c] T)).heap.size (w.alloc (.cells #[.int .i64 k, .string se, .int .i64 va, .string wd, .int .u64 wt, .bool td, .int .i64 ti, .int .i64 c] T)) w') :
    w'.cell? ⟨w.heap.size, 0, none⟩ = some (.int .i64 k) ∧ w'.cell? ⟨w.heap.size, 1, none⟩ = some (.string se) ∧ w'.cell? ⟨w.heap.size, 2, none⟩ = some (.int .i64 va) ∧ w'.cell? ⟨w.heap.size, 3, none⟩ = some (.string wd) ∧ w'.cell? ⟨w.heap.size, 4, none⟩ = some (.int .u64 wt) ∧ w'.cell? ⟨w.heap.size, 5, none⟩ = some (.bool td) ∧ w'.cell? ⟨w.heap.size, 6, none⟩ = some (.int .i64 ti) ∧ w'.cell? ⟨w.heap.size, 7, none⟩ = some (.int .i64 c) := by
  obtain ⟨a0, a1, a2, a3, a4, a5, a6, a7⟩ := cell8 (heap_alloc_new w (.cells #[.int .i64 k, .string se, .int .i64 va, .string wd, .int .u64 wt, .bool td, .int .i64 ti, .int .i64 c] T))
  exact ⟨cell_past hb a0, cell_past hb a1, cell_past hb a2, cell_past hb a3, cell_past hb a4, cell_past hb a5, cell_past hb a6, cell_past hb a7⟩
set_option maxHeartbeats 2000000 in
theorem walkLineRead (t : ByteArray) (w : World) (hz : t.size ≤ maxLen) (hG : LnG w) (hM : MX w) (hE : errT w) :
    Calls Tryz.prog 3 #[.string t] w fun e w' => e = .returned (.bool true) ∧ Below w.heap.size w w' := by
  have HG := hide hG
  have HM := hide hM
  have HE := hide hE
  clear hG hM hE
  have HAl : Hid (∀ (W : World) o, Below W.heap.size W (W.alloc o)) := fun W o => (Below.refl _ _).alloc (Nat.le_refl _) o
  by_cases hs : 1048576 < t.size
  · have hsi : (1048576 : Int) < (t.size : Int) := by omega
    go_enter Tryz.func3, Tryz.ntmps3
    go_wp2
    go_ret
    exact ⟨rfl, Below.refl _ _⟩
  · have hsi : ¬ (1048576 : Int) < (t.size : Int) := by omega
    go_enter Tryz.func3, Tryz.ntmps3
    go_wp2_with fail
    refine (c_s_LineRead t hz).mono ?_
    rintro e w1 ⟨s, rfl, hs1, hb1⟩
    have HS1 := hide hs1
    have HT1 := hide hb1
    clear hs1 hb1
    obtain ⟨k, se, va, wd, wt, td, ti, c⟩ := s
    unfold outL
    simp only
    go_wp2_with fail
    refine (c_i_LineRead t hz (LnG.past HG.out (chain HT1.out (HAl.out _ _))) (MX.past HM.out (chain HT1.out (HAl.out _ _))) (cell_past (chain HT1.out (HAl.out _ _)) HE.out)).mono ?_
    rintro e w2 ⟨s2, rfl, hs2, hb2⟩
    have he := LnR.one hs2 HS1.out
    subst he
    have A2 := row_box8 w1 hb2
    have HT2 := hide (chain (chain HT1.out (HAl.out _ _)) hb2)
    clear hb2 hs2
    unfold outL
    simp only
    obtain ⟨a0, a1, a2, a3, a4, a5, a6, a7⟩ := A2
    have b0 := cell_on a0
    have b1 := cell_on a1
    have b2 := cell_on a2
    have b3 := cell_on a3
    have b4 := cell_on a4
    have b5 := cell_on a5
    have b6 := cell_on a6
    have b7 := cell_on a7
    go_wp2_with fail
    have HT3 := hide (chain HT2.out (HAl.out w2 (.cells #[.int .i64 k, .string se, .int .i64 va, .string wd, .int .u64 wt, .bool td, .int .i64 ti, .int .i64 c] 26)))
    refine (c_eqSampleOut ⟨k, se, va, wd, wt, td, ti, c⟩ _).mono ?_
    rintro e w4 ⟨rfl, hb4⟩
    have HT4 := hide (chain HT3.out hb4)
    clear hb4
    go_wp2
    go_ret
    exact ⟨rfl, HT4.out⟩
theorem etG : Tryz.prog.globalNamed "errors.errorType" = some 0 := by kernel_rfl
theorem etR : (Tryz.prog.cutTypes.find? (·.1 == "internal/reflectlite.rtype")).map (·.2) = some 110 := by kernel_rfl
theorem etOne : ((List.range 217).filter fun t => Tryz.prog.rowNamed t [101, 114, 114, 111, 114]) = [45] := by kernel_rfl
theorem etSize : Tryz.prog.types.size = 217 := by kernel_rfl
set_option maxRecDepth 100000 in
theorem errT_of_laid {W : World} {l : List (String × DataW Unit)} (h : laidMetH Tryz.prog l W) (hm : ("errors.errorType", Rows.laid_errors_errorType) ∈ l.filter fun x => x.2.handleName?.isSome) : errT W := by
  have h' := (laidMetH_iff.1 h).2 _ hm
  obtain ⟨name, u, ty, e1, e2, e3, e4, e5⟩ := h'
  have en : name = [101, 114, 114, 111, 114] := (Option.some.inj e1).symm
  subst en
  obtain rfl := Option.some.inj (etR.symm.trans e2)
  have hm : ty ∈ (List.range 217).filter fun t => Tryz.prog.rowNamed t [101, 114, 114, 111, 114] := List.mem_filter.2 ⟨List.mem_range.2 (by rw [← etSize]; exact e3), e4⟩
  rw [etOne] at hm
  obtain rfl := List.mem_singleton.1 hm
  have hh : typeHandle Tryz.prog 45 = .pointer (some ⟨9, 45, none⟩) := by kernel_rfl
  rw [hh] at e5
  simpa [errT] using World.var?_cell etG e5 0


theorem iface_cell {W : World} {name : String} {nm : String} {d : DataW Unit} {g : Nat} {t : TypeId} {ms : Array (String × TypeId)} {rest : List (String × DataW Unit)} (hg : Tryz.prog.globalNamed name = some g) (hty : (Tryz.prog.globals[g]?).map (·.type) = some t) (ht : Tryz.prog.underlying t = some (.interface ms)) (h : laidMet Tryz.prog ((name, .iface nm d) :: rest) W) :
    ∃ te pe, W.cell? ⟨g, 0, none⟩ = some (.iface te pe) := by
  obtain ⟨ps, ⟨g', t', cs, fuel, p, q, hg', ht', hvar, hd, _, _⟩, _⟩ := h
  obtain rfl := Option.some.inj (hg.symm.trans hg')
  obtain rfl := Option.some.inj (hty.symm.trans ht')
  obtain ⟨_, u, v, hcs, _, _⟩ := iface_of_trod ht hd
  refine ⟨u, v, ?_⟩
  rw [World.var?_cell hg hvar 0, ← Array.getElem?_toList, hcs]
  rfl
set_option maxRecDepth 100000 in
theorem of_laid {W : World} (h : laidMetH Tryz.prog Rows.fnExactLineReadRow.laid W) : errT W ∧ LnG W := by
  refine ⟨errT_of_laid h ?_, ⟨?_, ?_, ?_⟩⟩
  · rw [show (Rows.fnExactLineReadRow.laid.filter fun x => x.2.handleName?.isSome) = [("errors.errorType", Rows.laid_errors_errorType)] by kernel_rfl]; exact List.mem_singleton.2 rfl
  · have h2 := ((laidMetH_iff.1 h).1).filter (fun x => x.1 == "internal/strconv.uint64pow10")
    rw [show (Rows.fnExactLineReadRow.laid.filter fun x => x.2.handleName?.isNone).filter (fun x => x.1 == "internal/strconv.uint64pow10") = [("internal/strconv.uint64pow10", Lib.tabData .u64 Lib.pow10Tab)] by kernel_rfl] at h2
    exact Lib.tabIs_of_head (g := 6) (t := 181) (e := 22) (n := 20) (by kernel_rfl) (by kernel_rfl) Tryz.underlying181 Tryz.underlying22 (by kernel_rfl) (by kernel_rfl) h2
  · have h2 := ((laidMetH_iff.1 h).1).filter (fun x => x.1 == "strconv.ErrSyntax")
    rw [show (Rows.fnExactLineReadRow.laid.filter fun x => x.2.handleName?.isNone).filter (fun x => x.1 == "strconv.ErrSyntax") = [("strconv.ErrSyntax", Rows.laid_strconv_ErrSyntax)] by kernel_rfl] at h2
    exact iface_cell (by kernel_rfl) (by kernel_rfl) Tryz.underlying45 h2
  · have h2 := ((laidMetH_iff.1 h).1).filter (fun x => x.1 == "strconv.ErrRange")
    rw [show (Rows.fnExactLineReadRow.laid.filter fun x => x.2.handleName?.isNone).filter (fun x => x.1 == "strconv.ErrRange") = [("strconv.ErrRange", Rows.laid_strconv_ErrRange)] by kernel_rfl] at h2
    exact iface_cell (by kernel_rfl) (by kernel_rfl) Tryz.underlying45 h2

set_option maxRecDepth 100000
theorem own : ownKnob Tryz.prog.godebug = none := by kernel_rfl
theorem laidOut : laidOutB Tryz.prog = true := by kernel_rfl
/-- The listed data. -/
noncomputable def dataL : List (String × DataW Unit) := Rows.fnExactLineReadRow.laid.filter fun x => x.2.handleName?.isNone
/-- A world with the handle laid. -/
noncomputable def base0 (os : Os) : World := { World.holding Tryz.prog os ⟨#[], #[], []⟩ with heap := (World.holding Tryz.prog os ⟨#[], #[], []⟩).heap.modify 0 fun | .cells _ t frozen => .cells #[.iface 110 (.agg #[.pointer (some ⟨9, 45, none⟩)])] t frozen | o => o }
noncomputable def witW (os : Os) : World := (base0 os).layVars Tryz.prog dataL
theorem witW_met (os : Os) (args : Array Value) : laidMetH Tryz.prog Rows.fnExactLineReadRow.laid ((witW os).forCall (fun _ _ => 0) ⟨#[], args, []⟩).memory :=
  laidMetH_of_parts (laidMet_over (W0 := base0 os) (laid := dataL) args (by kernel_rfl) (by kernel_rfl)) (by kernel_rfl)
theorem liftedLineRead (os : Os) (started : os.Started) (H : Type) (enc : TypeId × Value → H) :
    ReturnsInHanded {} Tryz.checked os 3 .any (fun w args => (Rows.fnExactLineReadSpec.pre enc Tryz.prog Tryz.f3 [] false w args ∧ laidMetH Tryz.prog Rows.fnExactLineReadRow.laid w) ∧ sizedMet enc Tryz.prog Tryz.f3 (OpenSpec.ofChange Rows.fnExactLineReadSpec) false w args)
      (Rows.fnExactLineReadSpec.post enc Tryz.prog Tryz.f3 false true false false) := by
  refine handed_shaped (C := Tryz.checked) (L := Rows.fnExactLineReadRow.laid) own started (by kernel_rfl) Tryz.func3
    (ChangeSpec.witness_shaped (enc := enc) (C := Tryz.checked) (os := os) (X := fun w _ => laidMetH Tryz.prog Rows.fnExactLineReadRow.laid w) false (witW os) #[.string ByteArray.empty] 8 (World.layVars_os _ _ _)
      (World.shaped_of_ZipB (by kernel_rfl) (by kernel_rfl)) (by kernel_rfl) (by kernel_rfl) (by kernel_rfl) (witW_met os _)) ?_
  intro W base args ds gs before hval0 hW hL hsh
  have hval : ∀ (j : Nat) t v, Tryz.f3.params[j]? = some t → args[j]? = some v → Value.okWide Tryz.prog W .any base t v := hval0
  have hW' := hW
  obtain ⟨p, q, hA0, hV, rfl, hfz, hnd⟩ := hW
  have hA : DataW.TrodAll enc Tryz.prog W 0 (fun _ => true) true Tryz.f3.params.toList args.toList ds p := hA0
  rw [Tryz.params3] at hA hval
  obtain ⟨v0, vs0, d0, ds0, p0, q0, hargs, rfl, rfl, h0, r0⟩ := trodAll_cons hA
  obtain ⟨rfl, rfl, rfl⟩ := trodAll_nil r0
  obtain rfl : args = #[v0] := by cases args; simp_all
  obtain ⟨rfl, rfl⟩ := trodVars_none hV
  have k0 := h0
  have lt0 : ∀ x ∈ p0, x.block < W.heap.size := by obtain ⟨m, hm⟩ := k0; exact DataW.trod_lt m _ _ _ hm
  obtain ⟨a0, rfl, rfl, rfl, w0⟩ := open_string Tryz.underlying9 (hval 0 9 v0 rfl rfl) h0
  clear hA0 hval0
  refine (walkLineRead a0 W w0 (of_laid hL).2 (mx_of hsh) (of_laid hL).1).mono fun e W' ⟨he, bel⟩ => ?_
  subst he
  exact ⟨_, rfl, _, _, _, [], _, [], hW', trodAll_mk1 (shut_bool Tryz.underlying4 _), (trodAll_cons_mk (Below.trod laidOut (by kernel_rfl) (of_decide_eq_true (by kernel_rfl)) k0 bel lt0) trodAll_mk0), rfl, bel.frame _, fun h => by cases h⟩

theorem saidLineRead : Rows.FnExactLineReadSaid :=
  OpenClaim.holds_of_wide 3 Tryz.f3 rfl rfl rfl rfl rfl rfl rfl ⟨rfl, rfl, rfl, rfl, rfl⟩ rfl rfl rfl rfl rfl (by kernel_rfl) Tryz.func3 (by kernel_rfl)
    (of_decide_eq_true (by kernel_rfl)) (by unfold Func.isWrapper; first | (rw [if_pos (by decide +kernel)]; kernel_rfl) | (rw [if_neg (by decide +kernel)]; exact ⟨rfl, rfl⟩))
    (fun os started H enc _ => liftedLineRead os started H enc)

/-- No parameter wants a stand-in; the program's own looks are off. -/
theorem plainLineRead (f : FuncId) (fn : Func) (hf : Tryz.pinned.checked.prog.funcNamed Rows.fnExactLineReadRow.func = some f) (hfn : Tryz.pinned.checked.prog.funcs[f]? = some fn) :
    Rows.fnExactLineReadCard.stood.looks = Tryz.pinned.checked.prog.looks [] ∧ ∀ (j : Nat) t, fn.params[j]? = some t → Tryz.pinned.checked.prog.wantsStandIn t = false := by
  obtain rfl : f = 3 := Option.some.inj ((show Tryz.prog.funcNamed Rows.fnExactLineReadRow.func = some 3 by kernel_rfl).symm.trans hf) |>.symm
  obtain rfl : fn = Tryz.f3 := (Option.some.inj (Tryz.func3.symm.trans hfn)).symm
  refine ⟨by kernel_rfl, fun j t ht => ?_⟩
  rw [Tryz.params3] at ht
  have ht2 := Array.mem_of_getElem? ht
  simp only [List.mem_toArray, List.mem_cons, List.not_mem_nil, or_false] at ht2
  subst ht2
  exact (show Tryz.prog.wantsStandIn 9 = false by kernel_rfl)

theorem fnExactLineRead_card : Rows.FnExactLineReadCardSaid :=
  Claim7.holds_tied_plain_at .later [] _ _ _ _ saidLineRead (fun _ h => by cases h) (by kernel_rfl) (fun _ h => by cases h) fnExactLineRead_row_tie rfl ⟨rfl, rfl⟩ (by kernel_rfl) rfl plainLineRead (by kernel_rfl)
#print axioms fnExactLineRead_card

end Go.Proofs.YtljngkjhhkccgaaGreatDoor
