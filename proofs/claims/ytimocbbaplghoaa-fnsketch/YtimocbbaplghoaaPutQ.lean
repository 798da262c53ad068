/-
  A value that is put is a sketch of one value that is brought together: so puts and merges go in any order.
-/
import Derived.Test.YtimocbbaplghoaaSkL
namespace Go.Proofs.Ytimocbbaplghoaa
set_option linter.unusedVariables false
set_option linter.unusedSimpArgs false
open Go.ChangeShapes Go.WideShapes Go.ChangeAt Go.RowKit Go.PlainAid Go.Lib

structure T5 where
  z : Int
  P : List Bn
  N : List Bn
  h : Int
  l : Int
def T5.M (a b : T5) : T5 := ⟨wAdd a.z b.z, keepL (mrg a.P b.P), keepL (mrg a.N b.N), addH a.h a.l b.h b.l, addL a.l b.l⟩
structure T5.Ok (a : T5) : Prop where
  hz : U64 a.z
  hl : U64 a.l
  kP : ∀ x ∈ a.P, BnOk x
  kN : ∀ x ∈ a.N, BnOk x
structure T5.Good (a : T5) : Prop extends T5.Ok a where
  sk : skB a.P a.N = true
theorem T5.good {a b : T5} (ha : a.Good) (hb : b.Good) : (a.M b).Good := by
  have s1 := skB_and.1 ha.sk
  have s2 := skB_and.1 hb.sk
  exact ⟨⟨wAdd_ok ha.hz hb.hz, uw_in _, (bins_mrg s1.1 s2.1 ha.kP hb.kP).2, (bins_mrg s1.2 s2.2 ha.kN hb.kN).2⟩, sk_mrg ha.sk hb.sk ha.kP ha.kN hb.kP hb.kN⟩
theorem T5.comm (a b : T5) : a.M b = b.M a := by
  unfold T5.M
  rw [wAdd_comm a.z, keep_comm a.P, keep_comm a.N, (sum_comm a.h a.l b.h b.l).1, (sum_comm a.h a.l b.h b.l).2]
theorem T5.assoc {a b c : T5} (ha : a.Good) (hb : b.Good) (hc : c.Good) : (a.M b).M c = a.M (b.M c) := by
  have s1 := skB_and.1 ha.sk
  have s2 := skB_and.1 hb.sk
  have s3 := skB_and.1 hc.sk
  have q := sum_assoc a.h b.h c.h ha.hl hb.hl hc.hl
  unfold T5.M
  dsimp only
  rw [wAdd_assoc ha.hz hb.hz hc.hz, keep_three s1.1 s2.1 s3.1 ha.kP hb.kP hc.kP, keep_three s1.2 s2.2 s3.2 ha.kN hb.kN hc.kN, q.1, q.2]
theorem T5.swap {a b c : T5} (ha : a.Good) (hb : b.Good) (hc : c.Good) : (a.M b).M c = (a.M c).M b := by
  rw [T5.assoc ha hb hc, T5.comm b c, ← T5.assoc ha hc hb]
theorem same_of {a b : T5} (h : a = b) : sameS a.z a.h a.l a.P a.N b.z b.h b.l b.P b.N = true := by subst h; simp [sameS]

/-- The sketch of one value. -/
def one5 (v w : Int) : T5 := ⟨if v = 0 then w else 0, if 0 < v then [(binI v, w)] else [], if v < 0 then [(binI (-v), w)] else [], thH v w, thL v w⟩
theorem binW_1' {v : Nat} (h : 1 ≤ v) : 1 ≤ binW v := by
  unfold binW; split <;> omega
theorem binI_1 {v : Int} (h : 1 ≤ v) (h2 : v ≤ 999999999999999999) : 1 ≤ binI v := by
  rw [binI_yes h h2]; have := binW_1' (v := v.toNat) (by omega); omega
theorem bins_nilB : binsB [] = true := by decide
theorem bins_oneB {v w : Int} (h : 1 ≤ v) (h2 : v ≤ 999999999999999999) (hw : w ≠ 0) : binsB [(binI v, w)] = true := by
  refine binsB_iff.2 ⟨by simp, rise_one _, fun x hx => ?_⟩
  obtain rfl := List.mem_singleton.1 hx
  exact ⟨by have := binI_1 h h2; show 0 < binI v; omega, (binI_in v).2, hw⟩
theorem ok_oneB {v w : Int} (hw : U64 w) : ∀ x ∈ [(binI v, w)], BnOk x := fun x hx => by
  obtain rfl := List.mem_singleton.1 hx
  have := binI_in v
  exact ⟨by show I64 (binI v); unfold I64; omega, hw⟩
theorem one_good {v w : Int} (hv : -999999999999999999 ≤ v ∧ v ≤ 999999999999999999) (hw : U64 w) (h0 : w ≠ 0) : (one5 v w).Good := by
  refine ⟨⟨?_, uw_in _, ?_, ?_⟩, ?_⟩
  · show U64 (if v = 0 then w else 0); split
    · exact hw
    · unfold U64; omega
  · show ∀ x ∈ (if 0 < v then [(binI v, w)] else []), BnOk x; split
    · exact ok_oneB hw
    · intro x hx; simp at hx
  · show ∀ x ∈ (if v < 0 then [(binI (-v), w)] else []), BnOk x; split
    · exact ok_oneB hw
    · intro x hx; simp at hx
  · show skB (if 0 < v then [(binI v, w)] else []) (if v < 0 then [(binI (-v), w)] else []) = true
    refine skB_and.2 ⟨?_, ?_⟩
    · split
      · exact bins_oneB (by omega) (by omega) h0
      · exact bins_nilB
    · split
      · exact bins_oneB (by omega) (by omega) h0
      · exact bins_nilB
theorem keep_same {P : List Bn} (h : P.length ≤ 30) : keepL P = P := by unfold keepL; rw [if_pos h]
theorem wAdd_0 {z : Int} (h : U64 z) : wAdd z 0 = z := by unfold wAdd; unfold U64 at h; rw [if_neg (by omega), Int.add_zero]
/-- What a put hands back. -/
structure PutIs (a b : T5) (v w : Int) : Prop where
  yes : putOk a.P a.N v w → b = ⟨putZ a.z v w, putPS a.P v w, putNS a.N v w, addH a.h a.l (thH v w) (thL v w), addL a.l (thL v w)⟩
  no : ¬ putOk a.P a.N v w → b = a
structure MrgIs (a b c : T5) : Prop where
  yes : mrgOk a.P a.N b.P b.N → c = a.M b
  no : ¬ mrgOk a.P a.N b.P b.N → c = ⟨0, [], [], 0, 0⟩
theorem PutIs.M {a b : T5} {v w : Int} (h : PutIs a b v w) (ha : a.Ok) (ok : putOk a.P a.N v w) : b = a.M (one5 v w) := by
  rw [h.yes ok]
  have r := sk_rise ok.1
  unfold T5.M one5 putZ putPS putNS
  dsimp only
  congr 1
  · split
    · rfl
    · rw [wAdd_0 ha.hz]
  · split
    · rfl
    · rw [mrg_nil', keep_same r.1.2]
  · split
    · rfl
    · rw [mrg_nil', keep_same r.2.2]
theorem PutIs.fn {a b c : T5} {v w : Int} (h : PutIs a b v w) (k : PutIs a c v w) : b = c := by
  by_cases ok : putOk a.P a.N v w
  · rw [h.yes ok, k.yes ok]
  · rw [h.no ok, k.no ok]
theorem MrgIs.fn {a b c d : T5} (h : MrgIs a b c) (k : MrgIs a b d) : c = d := by
  by_cases ok : mrgOk a.P a.N b.P b.N
  · rw [h.yes ok, k.yes ok]
  · rw [h.no ok, k.no ok]
theorem MrgIs.comm {a b c d : T5} (h : MrgIs a b c) (k : MrgIs b a d) : c = d := by
  by_cases ok : mrgOk a.P a.N b.P b.N
  · rw [h.yes ok, k.yes ⟨ok.2, ok.1⟩, T5.comm]
  · rw [h.no ok, k.no (fun q => ok ⟨q.2, q.1⟩)]
theorem PutIs.good {a b : T5} {v w : Int} (h : PutIs a b v w) (ha : a.Good) (hw : U64 w) : b.Good := by
  by_cases ok : putOk a.P a.N v w
  · rw [h.M ha.toOk ok]; exact T5.good ha (one_good ok.2.1 hw ok.2.2)
  · rw [h.no ok]; exact ha
theorem MrgIs.good {a b c : T5} (h : MrgIs a b c) (ha : a.Good) (hb : b.Good) : c.Good := by
  rw [h.yes ⟨ha.sk, hb.sk⟩]; exact T5.good ha hb
/-- Values are put in any order. -/
theorem put_comm {s b1 b2 a b : T5} {v w u x : Int} (hs : s.Ok) (hw : U64 w) (hx : U64 x) (h1 : PutIs s b1 v w) (h2 : PutIs b1 a u x) (h3 : PutIs s b2 u x) (h4 : PutIs b2 b v w) : a = b := by
  by_cases sk : skB s.P s.N = true
  · have hg : s.Good := ⟨hs, sk⟩
    by_cases ok1 : (-999999999999999999 ≤ v ∧ v ≤ 999999999999999999) ∧ w ≠ 0
    · have p1 : b1 = s.M (one5 v w) := h1.M hs ⟨sk, ok1⟩
      have g1 := one_good ok1.1 hw ok1.2
      by_cases ok2 : (-999999999999999999 ≤ u ∧ u ≤ 999999999999999999) ∧ x ≠ 0
      · have g2 := one_good ok2.1 hx ok2.2
        have p3 : b2 = s.M (one5 u x) := h3.M hs ⟨sk, ok2⟩
        subst p1 p3
        have G1 := T5.good hg g1
        have G2 := T5.good hg g2
        rw [h2.M G1.toOk ⟨G1.sk, ok2⟩, h4.M G2.toOk ⟨G2.sk, ok1⟩, T5.swap hg g1 g2]
      · have e3 : b2 = s := h3.no (fun k => ok2 k.2)
        have e2 : a = b1 := h2.no (fun k => ok2 k.2)
        subst e3
        rw [e2]; exact h1.fn h4
    · have e1 : b1 = s := h1.no (fun k => ok1 k.2)
      have e4 : b = b2 := h4.no (fun k => ok1 k.2)
      subst e1
      rw [e4]; exact h2.fn h3
  · have e1 : b1 = s := h1.no (fun k => sk k.1)
    have e3 : b2 = s := h3.no (fun k => sk k.1)
    subst e1
    subst e3
    rw [h2.no (fun k => sk k.1), h4.no (fun k => sk k.1)]
/-- A value is put ahead of bringing together, or behind. -/
theorem put_mrg {s o b c m d : T5} {v w : Int} (hs : s.Good) (ho : o.Good) (hw : U64 w) (h1 : PutIs s b v w) (h2 : MrgIs b o c) (h3 : MrgIs s o m) (h4 : PutIs m d v w) : c = d := by
  have em := h3.yes ⟨hs.sk, ho.sk⟩
  subst em
  have gm := T5.good hs ho
  by_cases ok : (-999999999999999999 ≤ v ∧ v ≤ 999999999999999999) ∧ w ≠ 0
  · have g1 := one_good ok.1 hw ok.2
    have p1 : b = s.M (one5 v w) := h1.M hs.toOk ⟨hs.sk, ok⟩
    subst p1
    have G1 := T5.good hs g1
    rw [h2.yes ⟨G1.sk, ho.sk⟩, h4.M gm.toOk ⟨gm.sk, ok⟩, T5.swap hs g1 ho]
  · have e1 : b = s := h1.no (fun k => ok k.2)
    subst e1
    rw [h2.yes ⟨hs.sk, ho.sk⟩, h4.no (fun k => ok k.2)]

/-- Puts hand back sketches. -/
theorem put_sk {w w1 : World} {B : Nat} {v : Value} {z h l vv wt : Int} {pa na : Option Addr} {pn pc nn nc : Nat} {P N : List Bn} (k : SkI w1 z h l pa pn pc na nn nc P N) (hwt : U64 wt)
    (hq : (putOk P N vv wt ∧ SkOut w B v (putZ z vv wt) (putPS P vv wt) (putNS N vv wt) (addH h l (thH vv wt) (thL vv wt)) (addL l (thL vv wt))) ∨ (¬ putOk P N vv wt ∧ SkOut w B v z P N h l)) :
    ∃ z4 h4 l4 pa4 pn4 pc4 na4 nn4 nc4 P4 N4, v = .agg #[.int .u64 z4, .slice pa4 pn4 pc4, .slice na4 nn4 nc4, .int .i64 h4, .int .u64 l4] ∧ SkI w z4 h4 l4 pa4 pn4 pc4 na4 nn4 nc4 P4 N4 ∧ PutIs ⟨z, P, N, h, l⟩ ⟨z4, P4, N4, h4, l4⟩ vv wt := by
  rcases hq with ⟨ok, ho⟩ | ⟨ok, ho⟩
  · have kO : T5.Ok ⟨z, P, N, h, l⟩ := ⟨k.hz, k.hl, k.kP, k.kN⟩
    have e : PutIs ⟨z, P, N, h, l⟩ ⟨putZ z vv wt, putPS P vv wt, putNS N vv wt, addH h l (thH vv wt) (thL vv wt), addL l (thL vv wt)⟩ vv wt := ⟨fun _ => rfl, fun h => absurd ok h⟩
    have g := e.good ⟨kO, ok.1⟩ hwt
    have g2 := sk_rise g.sk
    obtain ⟨pa4, pn4, pc4, na4, nn4, nc4, e4, I⟩ := sk_out ho g.hz g.hl g.kP g.kN (by have : (putPS P vv wt).length ≤ 30 := g2.1.2; omega) (by have : (putNS N vv wt).length ≤ 30 := g2.2.2; omega)
    exact ⟨_, _, _, pa4, pn4, pc4, na4, nn4, nc4, _, _, e4, I, e⟩
  · obtain ⟨pa4, pn4, pc4, na4, nn4, nc4, e4, I⟩ := sk_out ho k.hz k.hl k.kP k.kN (by rw [k.lp]; exact k.lP) (by rw [k.ln]; exact k.lN)
    exact ⟨_, _, _, pa4, pn4, pc4, na4, nn4, nc4, _, _, e4, I, ⟨fun h => absurd h ok, fun _ => rfl⟩⟩
theorem put_ski {w w1 : World} {B : Nat} {v : Value} {z h l vv wt : Int} {pa na : Option Addr} {pn pc nn nc : Nat} {P N : List Bn} (k : SkI w1 z h l pa pn pc na nn nc P N) (hwt : U64 wt)
    (hq : (putOk P N vv wt ∧ SkOut w B v (putZ z vv wt) (putP P vv wt) (putN N vv wt) (addH h l (thH vv wt) (thL vv wt)) (addL l (thL vv wt))) ∨ (¬ putOk P N vv wt ∧ SkOut w B v z P N h l)) :
    ∃ z4 h4 l4 pa4 pn4 pc4 na4 nn4 nc4 P4 N4, v = .agg #[.int .u64 z4, .slice pa4 pn4 pc4, .slice na4 nn4 nc4, .int .i64 h4, .int .u64 l4] ∧ SkI w z4 h4 l4 pa4 pn4 pc4 na4 nn4 nc4 P4 N4 ∧ PutIs ⟨z, P, N, h, l⟩ ⟨z4, P4, N4, h4, l4⟩ vv wt := by
  refine put_sk (B := B) k hwt ?_
  rcases hq with ⟨ok, ho⟩ | hq
  · rw [put_sameP ok.1, put_sameN ok.1] at ho; exact .inl ⟨ok, ho⟩
  · exact .inr hq
theorem mrg_skT {w w1 w2 : World} {B : Nat} {v : Value} {z h l z' h' l' : Int} {pa na pb nb : Option Addr} {pn pc nn nc pm pd nm nd : Nat} {P N P' N' : List Bn} (k : SkI w1 z h l pa pn pc na nn nc P N) (k' : SkI w2 z' h' l' pb pm pd nb nm nd P' N')
    (hq : (mrgOk P N P' N' ∧ SkOut w B v (wAdd z z') (gatL P P') (gatL N N') (addH h l h' l') (addL l l')) ∨ (¬ mrgOk P N P' N' ∧ SkOut w B v 0 [] [] 0 0)) :
    ∃ z4 h4 l4 pa4 pn4 pc4 na4 nn4 nc4 P4 N4, v = .agg #[.int .u64 z4, .slice pa4 pn4 pc4, .slice na4 nn4 nc4, .int .i64 h4, .int .u64 l4] ∧ SkI w z4 h4 l4 pa4 pn4 pc4 na4 nn4 nc4 P4 N4 ∧ MrgIs ⟨z, P, N, h, l⟩ ⟨z', P', N', h', l'⟩ ⟨z4, P4, N4, h4, l4⟩ := by
  obtain ⟨z4, h4, l4, pa4, pn4, pc4, na4, nn4, nc4, P4, N4, e, I, m1, m2⟩ := mrg_sk k k' hq
  refine ⟨z4, h4, l4, pa4, pn4, pc4, na4, nn4, nc4, P4, N4, e, I, fun ok => ?_, fun ok => ?_⟩
  · obtain ⟨rfl, rfl, rfl, rfl, rfl⟩ := m1 ok; rfl
  · obtain ⟨rfl, rfl, rfl, rfl, rfl⟩ := m2 ok; rfl
theorem mrg_sks {w w1 w2 : World} {B : Nat} {v : Value} {z h l z' h' l' : Int} {pa na pb nb : Option Addr} {pn pc nn nc pm pd nm nd : Nat} {P N P' N' : List Bn} (k : SkI w1 z h l pa pn pc na nn nc P N) (k' : SkI w2 z' h' l' pb pm pd nb nm nd P' N')
    (hq : (mrgOk P N P' N' ∧ SkOut w B v (wAdd z z') (keepL (mrg P P')) (keepL (mrg N N')) (addH h l h' l') (addL l l')) ∨ (¬ mrgOk P N P' N' ∧ SkOut w B v 0 [] [] 0 0)) :
    ∃ z4 h4 l4 pa4 pn4 pc4 na4 nn4 nc4 P4 N4, v = .agg #[.int .u64 z4, .slice pa4 pn4 pc4, .slice na4 nn4 nc4, .int .i64 h4, .int .u64 l4] ∧ SkI w z4 h4 l4 pa4 pn4 pc4 na4 nn4 nc4 P4 N4 ∧ MrgIs ⟨z, P, N, h, l⟩ ⟨z', P', N', h', l'⟩ ⟨z4, P4, N4, h4, l4⟩ := by
  refine mrg_skT (B := B) k k' ?_
  rcases hq with ⟨ok, ho⟩ | hq
  · rw [← gat_mrg (sk_rise ok.1).1.1 (sk_rise ok.2).1.1, ← gat_mrg (sk_rise ok.1).2.1 (sk_rise ok.2).2.1] at ho; exact .inl ⟨ok, ho⟩
  · exact .inr hq
theorem SkI.ok {w : World} {z h l : Int} {pa na : Option Addr} {pn pc nn nc : Nat} {P N : List Bn} (k : SkI w z h l pa pn pc na nn nc P N) : T5.Ok ⟨z, P, N, h, l⟩ := ⟨k.hz, k.hl, k.kP, k.kN⟩
end Go.Proofs.Ytimocbbaplghoaa
