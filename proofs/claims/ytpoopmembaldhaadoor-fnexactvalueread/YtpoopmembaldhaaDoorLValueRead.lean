/-
  The law FnExactValueRead: at every text the program reads of it what the model reads, the value and the code; nothing that was there has turned. Condition: the variable errors.errorType as the program's text lays it (the card ties it).
-/
import Derived.Test.YtpoopmembaldhaaDoorReadY
import Derived.Test.YtpoopmembaldhaaDoorTie
import Derived.Test.YtpoopmembaldhaaDoorCards
import Derived.Carry
import Derived.ShutString
import Derived.ChangeOld
import Derived.ChangeSame
import Derived.ChangeVars
import Derived.JoinedOf
import Derived.LaidLaws
import Derived.LaidHandle
import Derived.Stop.Joined
import Derived.SevenTiedAt
import Derived.Deep.DeepHandedRow
import Derived.WalkKit
import Derived.ProofKit
import Derived.OpenShut
namespace Go.Proofs.YtpoopmembaldhaaDoor
set_option linter.unusedVariables false
set_option linter.unusedSimpArgs false
open Go.ChangeMaps (open_string shut_string)
open Go.ChangeShapes Go.WideShapes Go.ChangeAt Go.RowKit Go.PlainAid

theorem c_s_ValueRead (s : ByteArray) (hs : s.size ≤ maxLen) (w : World) :
    Calls Tryd.prog 5 #[.string s] w fun e w' => e = .returned (.agg #[.int .i64 (rvV s), .int .i64 (rvC s)]) ∧ Below w.heap.size w w' := by
  cases hf : fitB s
  · exact c_s_ValueRead_size s hs hf w
  · obtain ⟨u0, u1, n, S⟩ := sp_all (tailS s)
    have hz' : s.size ≤ 20000 := of_decide_eq_true hf
    have hz : ¬ (20000 : Int) < (s.size : Int) := by omega
    have hTz : (tailS s).size ≤ 20000 := by have := (shift_tail s).size; omega
    have h0z : u0.size ≤ 20000 := Nat.le_trans S.le0 hTz
    have h1z : u1.size ≤ 20000 := Nat.le_trans S.le1 hTz
    have hp := S.pos
    have hn1 : (0 : Int) < (n : Int) := by omega
    have hsp := c_split S hTz
    by_cases hm : 2 < n
    · have hn : (2 : Int) < (n : Int) := by omega
      have hR := rv_no hf (S.many hm)
      cases hneg : negB s
      · exact vr_pos_many hz hneg rfl hTz h0z h1z hsp hn hR w
      · exact vr_neg_many hz hneg rfl hTz h0z h1z hsp hn hR w
    have hn : ¬ (2 : Int) < (n : Int) := by omega
    have hn2 : n ≤ 2 := by omega
    by_cases hl : 12 < u0.size
    · have hli : (12 : Int) < (u0.size : Int) := by omega
      have hR := rv_no hf (S.long hn2 hl)
      cases hneg : negB s
      · exact vr_pos_long hz hneg rfl hTz h0z h1z hsp hn hn1 hli hR w
      · exact vr_neg_long hz hneg rfl hTz h0z h1z hsp hn hn1 hli hR w
    have hli : ¬ (12 : Int) < (u0.size : Int) := by omega
    have hl12 : u0.size ≤ 12 := by omega
    by_cases hq : 1 < u0.size ∧ bt u0 0 = 48
    · have hl1 : (1 : Int) < (u0.size : Int) := by omega
      have h48 : (bt u0 0 == 48) = true := by simp [hq.2]
      have hR := rv_no hf (S.lead hn2 hq.1 hq.2)
      cases hneg : negB s
      · exact vr_pos_lead hz hneg rfl hTz h0z h1z hsp hn hn1 hli hl1 h48 hR w
      · exact vr_neg_lead hz hneg rfl hTz h0z h1z hsp hn hn1 hli hl1 h48 hR w
    have hq0 : (¬ (1 : Int) < (u0.size : Int)) ∨ ((1 : Int) < (u0.size : Int) ∧ (bt u0 0 == 48) = false) := by
      by_cases h1 : 1 < u0.size
      · exact .inr ⟨by omega, beq_eq_false_iff_ne.2 (fun h => hq ⟨h1, h⟩)⟩
      · exact .inl (by omega)
    obtain ⟨hv0, hv1⟩ := dgV_bd hl12
    cases hb0 : dgB u0
    · have hR := rv_no hf (S.bad0 hn2 hb0)
      cases hneg : negB s
      · exact vr_pos_bad0 hz hneg rfl hTz h0z h1z hsp hn hn1 hli hq0 hv0 hv1 hb0 hR w
      · exact vr_neg_bad0 hz hneg rfl hTz h0z h1z hsp hn hn1 hli hq0 hv0 hv1 hb0 hR w
    by_cases e1 : n = 1
    · have hR := rv_yes hf (S.good1 e1 hl12 hq hb0)
      cases hneg : negB s
      · exact vr_pos_good1 hz hneg rfl hTz h0z h1z hsp e1 hli hq0 hv0 hv1 hb0 (by simpa [hneg] using hR) w
      · exact vr_neg_good1 hz hneg rfl hTz h0z h1z hsp e1 hli hq0 hv0 hv1 hb0 (by rw [hneg, if_pos rfl] at hR; exact hR) w
    have e2 : n = 2 := by omega
    by_cases h6 : 6 < u1.size
    · have hl6 : ¬ (u1.size : Int) ≤ 6 := by omega
      have hR := rv_no hf (S.long1 e2 h6)
      cases hneg : negB s
      · exact vr_pos_long1 hz hneg rfl hTz h0z h1z hsp e2 hli hq0 hv0 hv1 hb0 hl6 hR w
      · exact vr_neg_long1 hz hneg rfl hTz h0z h1z hsp e2 hli hq0 hv0 hv1 hb0 hl6 hR w
    have hl6 : (u1.size : Int) ≤ 6 := by omega
    have h6' : u1.size ≤ 6 := by omega
    have hX : Scal (dgV u1) u1.size (dgV u1 * 10 ^ (6 - u1.size)) := ⟨h6', rfl⟩
    obtain ⟨hx0, hx1⟩ := dgV_6 h6'
    cases hb1 : dgB u1
    · have hR := rv_no hf (S.bad1 e2 hb1)
      cases hneg : negB s
      · exact vr_pos_bad1 hz hneg rfl hTz h0z h1z hsp e2 hli hq0 hv0 hv1 hb0 hl6 hb1 hX hx0 hx1 hR w
      · exact vr_neg_bad1 hz hneg rfl hTz h0z h1z hsp e2 hli hq0 hv0 hv1 hb0 hl6 hb1 hX hx0 hx1 hR w
    · have hR := rv_yes hf (S.good2 e2 hl12 hq hb0 h6' hb1)
      cases hneg : negB s
      · exact vr_pos_good2 hz hneg rfl hTz h0z h1z hsp e2 hli hq0 hv0 hv1 hb0 hl6 hb1 hX hx0 hx1 (by rw [hneg, if_neg (by simp)] at hR; exact hR) w
      · exact vr_neg_good2 hz hneg rfl hTz h0z h1z hsp e2 hli hq0 hv0 hv1 hb0 hl6 hb1 hX hx0 hx1 (by rw [hneg, if_pos rfl] at hR; exact hR) w

theorem c_eqValueOut (a b : Int) (w : World) :
    Calls Tryd.prog 7 #[.agg #[.int .i64 a, .int .i64 b], .agg #[.int .i64 a, .int .i64 b]] w fun e w' => e = .returned (.bool true) ∧ Below w.heap.size w w' := by
  go_enter Tryd.func7, Tryd.ntmps7
  go_wp2
  go_ret
  exact ⟨rfl, (((Below.refl _ _).alloc (Nat.le_refl _) _).alloc (by simp) _)⟩

set_option maxHeartbeats 1000000 in
theorem walkValueRead (s : ByteArray) (w : World) (hs : s.size ≤ maxLen) (hg : errT w) :
    Calls Tryd.prog 3 #[.string s] w fun e w' => e = .returned (.bool true) ∧ Below w.heap.size w w' := by
  have hz : s.size ≤ 9223372036854775807 := hs
  go_enter Tryd.func3, Tryd.ntmps3
  go_wp2_with (first
    | (go_at_call 5; refine (c_s_ValueRead _ hs _).mono ?_; rintro e w1 ⟨rfl, hb1⟩; have hg1 := cell_on (cell_past hb1 hg); have hz1 := hb1.size)
    | (go_at_call 6; refine (c_i_ValueRead _ hs _ (hg1 _)).mono ?_; rintro e w2 ⟨rfl, hb2⟩; have hz2 := hb2.size; simp at hz2; have p0 := cell_past (a := ⟨w1.heap.size, 0, none⟩) (v := .int .i64 (rvV s)) hb2 (by simp); have p1 := cell_past (a := ⟨w1.heap.size, 1, none⟩) (v := .int .i64 (rvC s)) hb2 (by simp); have q0 := cell_on p0; have q1 := cell_on p1)
    | (go_at_call 7; refine (c_eqValueOut _ _ _).mono ?_; rintro e w3 ⟨rfl, hb3⟩))
  · go_ret
    exact ⟨rfl, Below.refl _ _⟩
  · go_ret
    exact ⟨rfl, ((hb1.alloc (by first | omega | (simp; done) | (simp; omega)) _).trans (hb2.mono (by first | omega | (simp; done) | (simp; omega)))).alloc (by omega) _ |>.trans (hb3.mono (by first | omega | (simp; done) | (simp; omega)))⟩

set_option maxRecDepth 100000
theorem own : ownKnob Tryd.prog.godebug = none := by kernel_rfl
theorem laidOut : laidOutB Tryd.prog = true := by kernel_rfl
theorem etG : Tryd.prog.globalNamed "errors.errorType" = some 0 := by kernel_rfl
theorem etR : (Tryd.prog.cutTypes.find? (·.1 == "internal/reflectlite.rtype")).map (·.2) = some 77 := by kernel_rfl
theorem etOne : ((List.range 141).filter fun t => Tryd.prog.rowNamed t [101, 114, 114, 111, 114]) = [34] := by kernel_rfl
theorem etSize : Tryd.prog.types.size = 141 := by kernel_rfl

/-- What the row's list gives: the variable's one cell. -/
theorem handle_of_laid {W : World} (h : laidMetH Tryd.prog Rows.fnExactValueReadRow.laid W) : errT W := by
  have h' : laidMet Tryd.prog [] W ∧ handlesMet Tryd.prog Rows.fnExactValueReadRow.laid W := h
  obtain ⟨name, u, ty, e1, e2, e3, e4, e5⟩ := h'.2 _ (List.mem_singleton.2 rfl)
  have en : name = [101, 114, 114, 111, 114] := (Option.some.inj e1).symm
  subst en
  obtain rfl := Option.some.inj (etR.symm.trans e2)
  have hm : ty ∈ (List.range 141).filter fun t => Tryd.prog.rowNamed t [101, 114, 114, 111, 114] := List.mem_filter.2 ⟨List.mem_range.2 (by rw [← etSize]; exact e3), e4⟩
  rw [etOne] at hm
  obtain rfl := List.mem_singleton.1 hm
  have hh : typeHandle Tryd.prog 34 = .pointer (some ⟨7, 34, none⟩) := by kernel_rfl
  rw [hh] at e5
  simpa [errT] using World.var?_cell etG e5 0

theorem contractValueRead (H : Type) (enc : TypeId × Value → H) (W : World) (base : Nat) (args : Array Value) (ds gs : List (DataW H)) (before : List MemPlace)
    (hval : ∀ (j : Nat) t v, Tryd.f3.params[j]? = some t → args[j]? = some v → Value.okWide Tryd.prog W .any base t v)
    (hW : DataW.Whole enc Tryd.prog Tryd.f3.params.toList Rows.fnExactValueReadSpec.vars false W args.toList ds gs before) (hL : laidMetH Tryd.prog Rows.fnExactValueReadRow.laid W) :
    Calls Tryd.prog 3 args W fun e W' => ∃ v, e = .returned v ∧ Rows.fnExactValueReadSpec.post enc Tryd.prog Tryd.f3 false true false false W args v W' := by
  have hW' := hW
  obtain ⟨p, q, hA0, hV, rfl, hfz, hnd⟩ := hW
  have hA : DataW.TrodAll enc Tryd.prog W 0 (fun _ => true) true Tryd.f3.params.toList args.toList ds p := hA0
  rw [Tryd.params3] at hA hval
  obtain ⟨v0, vs0, d0, ds0, p0, q0, hargs, rfl, rfl, h0, r0⟩ := trodAll_cons hA
  obtain ⟨rfl, rfl, rfl⟩ := trodAll_nil r0
  obtain rfl : args = #[v0] := by cases args; simp_all
  obtain ⟨rfl, rfl⟩ := trodVars_none hV
  have k0 := h0
  have lt0 : ∀ x ∈ p0, x.block < W.heap.size := by obtain ⟨m, hm⟩ := k0; exact DataW.trod_lt m _ _ _ hm
  obtain ⟨a0, rfl, rfl, rfl, w0⟩ := open_string Tryd.underlying9 (hval 0 9 v0 rfl rfl) h0
  clear hA0
  refine (walkValueRead a0 W w0 (handle_of_laid hL)).mono fun e W' ⟨he, bel⟩ => ?_
  subst he
  exact ⟨_, rfl, _, _, _, [], _, [], hW', trodAll_mk1 (shut_bool Tryd.underlying4 _), (trodAll_cons_mk (Below.trod laidOut (by kernel_rfl) (of_decide_eq_true (by kernel_rfl)) k0 bel lt0) trodAll_mk0), rfl, bel.frame _, fun h => by cases h⟩

theorem laid_met (os : Os) : laidMetH Tryd.prog Rows.fnExactValueReadRow.laid (({ World.holding Tryd.prog os ⟨#[], #[], []⟩ with heap := (World.holding Tryd.prog os ⟨#[], #[], []⟩).heap.modify 0 fun | .cells _ t frozen => .cells #[.iface 77 (.agg #[.pointer (some ⟨7, 34, none⟩)])] t frozen | o => o } : World).forCall (fun _ _ => 0) ⟨#[], #[.string ByteArray.empty], []⟩).memory :=
  laidMetH_of_parts (laidMet_nil _ _) (by kernel_rfl)
theorem reads (os : Os) {H : Type} (enc : TypeId × Value → H) : ∃ places, DataW.whole enc Tryd.prog (({ World.holding Tryd.prog os ⟨#[], #[], []⟩ with heap := (World.holding Tryd.prog os ⟨#[], #[], []⟩).heap.modify 0 fun | .cells _ t frozen => .cells #[.iface 77 (.agg #[.pointer (some ⟨7, 34, none⟩)])] t frozen | o => o } : World).forCall (fun _ _ => 0) ⟨#[], #[.string ByteArray.empty], []⟩).memory Tryd.f3.params.toList Rows.fnExactValueReadSpec.vars false (#[.string ByteArray.empty] : Array Value).toList 8 = some ([.lit (.string [])], [], places) :=
  ⟨[], by kernel_rfl⟩

set_option maxRecDepth 100000 in
theorem liftedValueRead (os : Os) (started : os.Started) (H : Type) (enc : TypeId × Value → H) (F : Stop.Interp) :
    ReturnsInHanded {} Tryd.checked os 3 .any ((OpenSpec.ofChange Rows.fnExactValueReadSpec).preRow enc Tryd.prog Tryd.f3 Rows.fnExactValueReadRow.domain false Rows.fnExactValueReadRow.laid) (((OpenSpec.ofChange Rows.fnExactValueReadSpec).at F).post enc Tryd.prog Tryd.f3 false true false false) := by
  obtain ⟨places, hx⟩ := reads os enc
  refine returnsInHanded_of_row (C := Tryd.checked) (s := OpenSpec.ofChange Rows.fnExactValueReadSpec) own started (by kernel_rfl) Tryd.func3
    (witness_row_at (enc := enc) (C := Tryd.checked) false ({ World.holding Tryd.prog os ⟨#[], #[], []⟩ with heap := (World.holding Tryd.prog os ⟨#[], #[], []⟩).heap.modify 0 fun | .cells _ t frozen => .cells #[.iface 77 (.agg #[.pointer (some ⟨7, 34, none⟩)])] t frozen | o => o } : World) #[.string ByteArray.empty] rfl (by kernel_rfl) (by kernel_rfl) (by kernel_rfl)
      (OpenSpec.preRow_of_cond 8 hx (by kernel_rfl) (fun k hk => by cases hk) (by kernel_rfl) (laid_met os))) ?_
  intro W base args ds gs before hval hW _ _ _ hL _ _
  exact contractValueRead H enc W base args ds gs before hval hW hL

theorem saidValueRead : Rows.FnExactValueReadSaid :=
  OpenClaim.holds_of_cond 3 Tryd.f3 rfl rfl rfl rfl rfl rfl rfl ⟨rfl, rfl, rfl, rfl, rfl⟩ rfl rfl rfl rfl rfl (by kernel_rfl) Tryd.func3 (by kernel_rfl)
    (of_decide_eq_true (by kernel_rfl)) (by unfold Func.isWrapper; first | (rw [if_pos (by decide +kernel)]; kernel_rfl) | (rw [if_neg (by decide +kernel)]; exact ⟨rfl, rfl⟩))
    (fun os started H enc _ F => by rw [OpenClaim.pre_eq_preRow]; exact liftedValueRead os started H enc F)

/-- No parameter wants a stand-in; the program's own looks are off. -/
theorem plainValueRead (f : FuncId) (fn : Func) (hf : Tryd.pinned.checked.prog.funcNamed Rows.fnExactValueReadRow.func = some f) (hfn : Tryd.pinned.checked.prog.funcs[f]? = some fn) :
    true = Tryd.pinned.checked.prog.looks [] ∧ ∀ (j : Nat) t, fn.params[j]? = some t → Tryd.pinned.checked.prog.wantsStandIn t = false := by
  obtain rfl : f = 3 := Option.some.inj ((show Tryd.prog.funcNamed Rows.fnExactValueReadRow.func = some 3 by kernel_rfl).symm.trans hf) |>.symm
  obtain rfl : fn = Tryd.f3 := (Option.some.inj (Tryd.func3.symm.trans hfn)).symm
  refine ⟨by kernel_rfl, fun j t ht => ?_⟩
  rw [Tryd.params3] at ht
  have ht2 := Array.mem_of_getElem? ht
  simp only [List.mem_toArray, List.mem_cons, List.not_mem_nil, or_false] at ht2
  obtain rfl := ht2
  exact (show Tryd.prog.wantsStandIn 9 = false by kernel_rfl)

theorem fnExactValueRead_card : Rows.FnExactValueReadCardSaid :=
  Claim7.holds_tied_plain_at .later [] _ _ _ _ saidValueRead (fun _ h => by cases h) (by kernel_rfl) (fun _ h => by cases h) fnExactValueRead_row_tie rfl ⟨rfl, rfl⟩ (by kernel_rfl) rfl plainValueRead (by kernel_rfl)
#print axioms fnExactValueRead_card
end Go.Proofs.YtpoopmembaldhaaDoor
