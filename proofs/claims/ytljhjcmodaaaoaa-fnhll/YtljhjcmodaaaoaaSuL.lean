/-
  slices.Sorted(maps.Keys(m)) at a map keyed by uint64 with at most forty entries: the keys in rising order, each once.
-/
import Derived.Test.YtljhjcmodaaaoaaSuK
namespace Go.Proofs.Ytljhjcmodaaaoaa
set_option linter.unusedVariables false
set_option linter.unusedSimpArgs false
open Go.ChangeShapes Go.WideShapes Go.ChangeAt Go.RowKit Go.PlainAid Go.Maps
open Go.Sort (ltInt PermIn SortedIn)
set_option maxRecDepth 10000

theorem c_KeysU (b : Nat) (w : World) :
    Calls Try.prog 53 #[.map (some b)] w fun e w' => e = .returned (.func (.func 64) #[] #[.pointer (some ⟨w.heap.size, 0, none⟩)]) ∧ w' = w.alloc (.cells #[.map (some b)] 61) := by
  go_enter Try.func53, Try.ntmps53
  go_wp2
  go_ret
  exact ⟨rfl, rfl⟩
theorem keys_stopsU {H : Type} (Bm b nn : Nat) (D : DataW H) {R : Value → Option (DataW H × List MemPlace)} (w : World) (hBm : Bm < w.heap.size) (hm : w.cell? ⟨Bm, 0, none⟩ = some (.map (some b))) (hown : w.ownsMap Try.prog 34 R b nn D) :
    SeqStopsK Fence.wide 2 Try.prog 64 #[.pointer (some ⟨Bm, 0, none⟩)] (fun x : Int => #[.int .u64 x]) KeepsWalks (KeysU D) (fun _ => True) (Maps.size D) w := fun l J Jx W hW hJ hJx hY h0 => by
  have hown' : W.ownsMap Try.prog 34 R b nn D := by
    have hbl := hown.lt
    obtain ⟨es, clock, hb, Ft, hs, hD⟩ := hown
    exact ⟨es, clock, (hW.block b hbl).trans hb, Ft, hs, hD⟩
  exact keys1U Fence.wide 2 trivial rfl (by omega) l Bm b nn D J Jx hY W hJ ((hW.cell (p := ⟨Bm, 0, none⟩) hBm).trans hm) hown' h0
theorem c_CollectU {H : Type} (Bm b nn : Nat) (D : DataW H) {R : Value → Option (DataW H × List MemPlace)} (w : World) (hBm : Bm < w.heap.size) (hm : w.cell? ⟨Bm, 0, none⟩ = some (.map (some b))) (hown : w.ownsMap Try.prog 34 R b nn D) (hN : Maps.size D ≤ 1000) :
    Calls Try.prog 62 #[.func (.func 64) #[] #[.pointer (some ⟨Bm, 0, none⟩)]] w fun e w' => ∃ (v : Value) (ss : List Int), e = .returned v ∧ KeysU D ss ∧ w'.ownsRow w.heap.size 34 1 v ss.length (ss.map (Value.int .u64)) ∧ (v = .slice none 0 0 ↔ ss = []) ∧ Below w.heap.size w w' := by
  have hc := (callsIn_wide (n := 3)).1 (appendSeqU Fence.wide 3 trivial rfl (by omega) 64 #[.pointer (some ⟨Bm, 0, none⟩)] trivial (enters_of Try.func64 (by kernel_rfl) rfl) (KeysU D) (fun _ => True) (Maps.size D) hN w (keys_stopsU Bm b nn D w hBm hm hown))
  have HC := hide hc
  clear hc hm hown
  go_enter Try.func62, Try.ntmps62
  go_wp2_with fail
  refine HC.out.mono ?_
  rintro e w1 ⟨v, ss, rfl, h⟩
  have H := hide h
  clear h
  go_wp2
  go_ret
  exact ⟨v, ss, rfl, H.out⟩
/-- Rising, and the very keys of the map. -/
def RiseU {H : Type} (D : DataW H) (L : List Int) : Prop := L.Pairwise (· < ·) ∧ ∀ x, x ∈ L ↔ has D (.int .u64 x) = true
theorem pair_sorted {M : Array Int} (h : SortedIn ltInt 0 M.size M) : M.toList.Pairwise (· ≤ ·) := by
  rw [List.pairwise_iff_getElem]
  intro i j hi hj hij
  have := h i j (Nat.zero_le _) hij (by simpa using hj)
  simp only [ltInt, decide_eq_false_iff_not, Int.not_lt] at this
  rw [getElem!_pos M i (by simpa using hi), getElem!_pos M j (by simpa using hj)] at this
  simpa using this
theorem pair_strict {L : List Int} (h : L.Pairwise (· ≤ ·)) (n : L.Nodup) : L.Pairwise (· < ·) := by
  rw [List.pairwise_iff_getElem] at h ⊢
  intro i j hi hj hij
  have a := h i j hi hj hij
  have b := List.pairwise_iff_getElem.1 n i j hi hj hij
  omega
theorem c_Len64Z (w : World) : Calls Try.prog 69 #[.int .u64 0] w fun e w' => (∃ v, e = .returned (.int .i64 v)) ∧ w' = w := by
  go_enter Try.func69, Try.ntmps69
  go_wp2
  go_ret
  exact ⟨⟨_, rfl⟩, rfl⟩
theorem c_bitsLenZ (w : World) : Calls Try.prog 68 #[.int .u64 0] w fun e w' => (∃ v, e = .returned (.int .i64 v)) ∧ w' = w := by
  go_enter Try.func68, Try.ntmps68
  go_wp2_with (go_at_call 69; refine (c_Len64Z _).mono ?_; rintro e w2 ⟨⟨v, rfl⟩, hw⟩; obtain rfl := hw.symm)
  go_ret
  exact ⟨⟨_, rfl⟩, rfl⟩
theorem c_insZ (w : World) : Calls Try.prog 70 #[.slice none 0 0, .int .i64 0, .int .i64 0] w fun e w' => (∃ r, e = .returned r) ∧ w' = w := by
  go_enter Try.func70, Try.ntmps70
  go_wp2
  refine wp_loop_rounds 1 ?_
  rw [rounds_succ]
  go_wp2
  go_end0
  exact ⟨⟨_, rfl⟩, rfl⟩
theorem c_pdqZ (lim : Int) (w : World) : Calls Try.prog 67 #[.slice none 0 0, .int .i64 0, .int .i64 0, .int .i64 lim] w fun e w' => (∃ r, e = .returned r) ∧ w' = w := by
  go_enter Try.func67, Try.ntmps67
  go_wp2
  refine wp_loop_rounds 1 ?_
  rw [rounds_succ]
  go_wp2_with fail
  refine (c_insZ _).mono ?_
  rintro e w1 ⟨⟨r, rfl⟩, hw⟩
  obtain rfl := hw.symm
  go_wp2
  (try simp only [Exit.inBlock, Exit.then]); refine bodyPost_ret (results_none rfl _ _ _) rfl ?_
  exact ⟨⟨_, rfl⟩, rfl⟩
theorem c_SortZ (w : World) : Calls Try.prog 63 #[.slice none 0 0] w fun e w' => (∃ r, e = .returned r) ∧ w' = w := by
  go_enter Try.func63, Try.ntmps63
  go_wp2_with fail
  refine (c_bitsLenZ _).mono ?_
  rintro e w1 ⟨⟨v, rfl⟩, hw⟩
  obtain rfl := hw.symm
  go_wp2_with fail
  refine (c_pdqZ v _).mono ?_
  rintro e w2 ⟨⟨r, rfl⟩, hw2⟩
  obtain rfl := hw2.symm
  go_wp2
  go_end0
  exact ⟨⟨_, rfl⟩, rfl⟩
set_option maxHeartbeats 2000000 in
theorem c_SortedU {H : Type} (Bm b nn : Nat) (D : DataW H) {R : Value → Option (DataW H × List MemPlace)} (w : World) (hBm : Bm < w.heap.size) (hm : w.cell? ⟨Bm, 0, none⟩ = some (.map (some b))) (hown : w.ownsMap Try.prog 34 R b nn D) (hN : Maps.size D ≤ 40) (hL : ∀ ss, KeysU D ss → ss.length ≤ 40) :
    Calls Try.prog 52 #[.func (.func 64) #[] #[.pointer (some ⟨Bm, 0, none⟩)]] w fun e w' => ∃ (v : Value) (L : List Int), e = .returned v ∧ RiseU D L ∧ w'.ownsRow w.heap.size 34 1 v L.length (L.map (Value.int .u64)) ∧ Below w.heap.size w w' := by
  have HC := hide (c_CollectU Bm b nn D w hBm hm hown (by omega))
  have HL := hide hL
  clear hBm hm hown hL
  go_enter Try.func52, Try.ntmps52
  go_wp2_with fail
  refine HC.out.mono ?_
  rintro e w1 ⟨v, ss, rfl, hK, hO, hnil, hb1⟩
  have hlen := HL.out ss hK
  have HK := hide hK
  have HB1 := hide hb1
  cases ss with
  | nil =>
    obtain rfl := hnil.2 rfl
    have HO := hide hO
    clear hO hK hnil hb1 hlen
    go_wp2_with fail
    refine (c_SortZ _).mono ?_
    rintro e w2 ⟨⟨r, rfl⟩, hw⟩
    obtain rfl := hw.symm
    go_wp2
    go_ret
    exact ⟨_, [], rfl, ⟨List.Pairwise.nil, HK.out.2⟩, HO.out, HB1.out⟩
  | cons x0 r =>
    obtain ⟨g, c, rfl⟩ := own_form hO (by simp)
    have hR : RowU w1 w.heap.size g (x0 :: r).length c (x0 :: r).toArray := ⟨by simp, by simpa using hO⟩
    have HR := hide hR
    generalize hn : (x0 :: r).length = n at hlen HR ⊢
    have h1 : 1 ≤ n := by rw [← hn]; simp
    have HN := hide hn
    clear hO hK hnil hb1 hR hn
    go_wp2_with fail
    refine (c_SortU hlen h1 (by simpa using HK.out.1) HR.out).mono ?_
    rintro e w2 ⟨r2, rfl, M, hp, hs, hR2, hb2⟩
    have hMs : M.size = n := hR2.1
    have HF : Hid (RiseU D M.toList ∧ w2.ownsRow w.heap.size 34 1 (.slice (some ⟨g, 0, none⟩) n c) M.toList.length (M.toList.map (Value.int .u64)) ∧ Below w.heap.size w w2) := by
      have hnd : M.toList.Nodup := (hp.nodup_iff).2 (by simpa using HK.out.1)
      refine ⟨⟨pair_strict (pair_sorted (by rw [hMs]; exact hs)) hnd, fun x => ?_⟩, ?_, HB1.out.trans hb2⟩
      · rw [hp.mem_iff, ← HK.out.2 x]
      · have := hR2.2; rw [show M.toList.length = n by simpa using hMs]; exact this
    clear hp hs hR2 hb2 hMs
    go_wp2
    go_ret
    exact ⟨_, M.toList, rfl, HF.out.1, HF.out.2.1, HF.out.2.2⟩
end Go.Proofs.Ytljhjcmodaaaoaa
