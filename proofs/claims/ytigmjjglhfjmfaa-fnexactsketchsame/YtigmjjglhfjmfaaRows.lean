/-
  No cell of these rows narrows 'for every input' (looked for: loops, veiled, ifaces, maps, wideKeys, modest, calm, conditions, laid).
  DERIVED. THE GIVEN ROWS OF THIS SEAT. 4 by the template 'for every input the law returns true; each argument reads behind the call as it read before'; 0 by the template 'total and deterministic' (their statements: YtigmjjglhfjmfaaTotals.lean).
  GIVEN WITH THE SEED: the statements are not yours to turn. If you find one false, say at which input.
  Laid BY PROGRAM, IN A SANDBOX (cutbox-rows.mjs): the forced cells as the released guide's own fill.sh prints them over the translation c50e99987ed31edd… (all of the seat's roots in one cut). By AI agents, Wed Nov 11 2026. No macro, syntax, notation, axiom, sorry.
-/
import Derived.Test.YtigmjjglhfjmfaaChecked
import GoSem.Claim
import GoSem.ClaimJoined
import GoSem.ClaimMapViews
import Derived.JoinedTies
import Derived.KernelRfl
namespace Go.Proofs.Ytigmjjglhfjmfaa
/- THE CELL 'sum', in the pinned program and in every row, IS THE sha256 OF THE DUMP (.gsa) THAT YtigmjjglhfjmfaaProg.lean LOADS. Nothing in Lean hashes anything: it is a label: what it is worth is what the hold of that sum in a sandbox is worth. -/
noncomputable def Try.pinned : Pinned := { name := "ytigmjjglhfjmfaa", sum := "c50e99987ed31edda687c894e24681ecbfb3d78eabf0c5a2ab4e6005b8ed7706", checked := Try.checked }
namespace Rows
def none {H : Type} : Left H := { results := [], args := [] }

/-- 'laws.FnExactSketchRight': WHATEVER THE INPUT: true; the input reads as it did. -/
def fnExactSketchRightSpec : ChangeSpec := { name := "fnExactSketchRight", fn := fun _ => fun
  | [d] => { results := [.lit (.bool true)], args := [d] }
  | _ => none }
def fnExactSketchRightRow : OpenClaim := { program := "ytigmjjglhfjmfaa", sum := "c50e99987ed31edda687c894e24681ecbfb3d78eabf0c5a2ab4e6005b8ed7706", func := "loop.example/g00309/laws.FnExactSketchRight", spec := "fnExactSketchRight", apart := false }
def FnExactSketchRightSaid : Prop := fnExactSketchRightRow.holds Try.pinned (OpenSpec.ofChange fnExactSketchRightSpec)

/-- ITS FALSE NEIGHBOUR: 'it returns false'. Refute it at one input. -/
def fnExactSketchRightWrong : ChangeSpec := { name := "fnExactSketchRight", fn := fun _ => fun
  | [d] => { results := [.lit (.bool false)], args := [d] }
  | _ => none }
def FnExactSketchRightWrongFalsely : Prop := fnExactSketchRightRow.holds Try.pinned (OpenSpec.ofChange fnExactSketchRightWrong)

/-- 'laws.FnExactSketchWeight': WHATEVER THE INPUT: true; the input reads as it did. -/
def fnExactSketchWeightSpec : ChangeSpec := { name := "fnExactSketchWeight", fn := fun _ => fun
  | [d] => { results := [.lit (.bool true)], args := [d] }
  | _ => none }
def fnExactSketchWeightRow : OpenClaim := { program := "ytigmjjglhfjmfaa", sum := "c50e99987ed31edda687c894e24681ecbfb3d78eabf0c5a2ab4e6005b8ed7706", func := "loop.example/g00309/laws.FnExactSketchWeight", spec := "fnExactSketchWeight", inPlace := ["math/bits.Add64"], apart := false }
def FnExactSketchWeightSaid : Prop := fnExactSketchWeightRow.holds Try.pinned (OpenSpec.ofChange fnExactSketchWeightSpec)

/-- ITS FALSE NEIGHBOUR: 'it returns false'. Refute it at one input. -/
def fnExactSketchWeightWrong : ChangeSpec := { name := "fnExactSketchWeight", fn := fun _ => fun
  | [d] => { results := [.lit (.bool false)], args := [d] }
  | _ => none }
def FnExactSketchWeightWrongFalsely : Prop := fnExactSketchWeightRow.holds Try.pinned (OpenSpec.ofChange fnExactSketchWeightWrong)

/-- 'laws.FnExactSketchRank': WHATEVER THE INPUT: true; the input reads as it did. -/
def fnExactSketchRankSpec : ChangeSpec := { name := "fnExactSketchRank", fn := fun _ => fun
  | [d1, d2] => { results := [.lit (.bool true)], args := [d1, d2] }
  | _ => none }
def fnExactSketchRankRow : OpenClaim := { program := "ytigmjjglhfjmfaa", sum := "c50e99987ed31edda687c894e24681ecbfb3d78eabf0c5a2ab4e6005b8ed7706", func := "loop.example/g00309/laws.FnExactSketchRank", spec := "fnExactSketchRank", inPlace := ["math/bits.Add64"], unfollowed := true, recurses := true, apart := false }
def FnExactSketchRankSaid : Prop := fnExactSketchRankRow.holds Try.pinned (OpenSpec.ofChange fnExactSketchRankSpec)

/-- ITS FALSE NEIGHBOUR: 'it returns false'. Refute it at one input. -/
def fnExactSketchRankWrong : ChangeSpec := { name := "fnExactSketchRank", fn := fun _ => fun
  | [d1, d2] => { results := [.lit (.bool false)], args := [d1, d2] }
  | _ => none }
def FnExactSketchRankWrongFalsely : Prop := fnExactSketchRankRow.holds Try.pinned (OpenSpec.ofChange fnExactSketchRankWrong)

/-- 'laws.FnExactSketchSame': WHATEVER THE INPUT: true; the input reads as it did. -/
def fnExactSketchSameSpec : ChangeSpec := { name := "fnExactSketchSame", fn := fun _ => fun
  | [d1, d2] => { results := [.lit (.bool true)], args := [d1, d2] }
  | _ => none }
def fnExactSketchSameRow : OpenClaim := { program := "ytigmjjglhfjmfaa", sum := "c50e99987ed31edda687c894e24681ecbfb3d78eabf0c5a2ab4e6005b8ed7706", func := "loop.example/g00309/laws.FnExactSketchSame", spec := "fnExactSketchSame", apart := false }
def FnExactSketchSameSaid : Prop := fnExactSketchSameRow.holds Try.pinned (OpenSpec.ofChange fnExactSketchSameSpec)

/-- ITS FALSE NEIGHBOUR: 'it returns false'. Refute it at one input. -/
def fnExactSketchSameWrong : ChangeSpec := { name := "fnExactSketchSame", fn := fun _ => fun
  | [d1, d2] => { results := [.lit (.bool false)], args := [d1, d2] }
  | _ => none }
def FnExactSketchSameWrongFalsely : Prop := fnExactSketchSameRow.holds Try.pinned (OpenSpec.ofChange fnExactSketchSameWrong)

/- THE SECOND FORM. 'bulk': how many values and letters a reading holds, each counted each time it is reached (what is shared counts as often as it is met; a slice's spare places count too). A statement '..UptoSaid' is the law's where the arguments, and the package variables that the reading takes, are together of bulk at most 1048576: NARROWER than '..Said'. Prove '..Said' where nothing that the law and all that it calls make is longer than what came in: it says more and counts as full. Else prove '..UptoSaid'. A law counts once. -/
mutual
def uptoBulk {H : Type} : DataW H → Nat
  | .lit (.string bytes) => bytes.length + 1
  | .lit _ => 1
  | .nil => 1
  | .ptr d => uptoBulk d + 1
  | .slice elems spare => uptoBulkAll elems + uptoBulkAll spare + 1
  | .agg parts => uptoBulkAll parts + 1
  | .iface _ d => uptoBulk d + 1
  | .map entries => uptoBulkEntries entries + 1
  | .held _ => 1
def uptoBulkAll {H : Type} : List (DataW H) → Nat
  | [] => 0
  | d :: r => uptoBulk d + uptoBulkAll r
def uptoBulkEntries {H : Type} : List (Lit × DataW H) → Nat
  | [] => 0
  | x :: r => uptoBulkEntry x + uptoBulkEntries r
def uptoBulkEntry {H : Type} : Lit × DataW H → Nat
  | (.string bytes, d) => bytes.length + uptoBulk d + 1
  | (_, d) => uptoBulk d + 1
 end
def uptoSmall : (H : Type) → List (DataW H) → Bool := fun _ ds => decide (uptoBulkAll ds ≤ 1048576)
def OpenSpec.upto (s : _root_.Go.ChangeSpec) : _root_.Go.OpenSpec := { _root_.Go.OpenSpec.ofChange s with cond := some uptoSmall }

/-- 'laws.FnExactSketchRight', WHERE WHAT IT READS IS OF BULK AT MOST 1048576: true; the input reads as it did. -/
def fnExactSketchRightUptoRow : OpenClaim := { program := "ytigmjjglhfjmfaa", sum := "c50e99987ed31edda687c894e24681ecbfb3d78eabf0c5a2ab4e6005b8ed7706", func := "loop.example/g00309/laws.FnExactSketchRight", spec := "fnExactSketchRight", apart := false, narrowed := true }
def FnExactSketchRightUptoSaid : Prop := fnExactSketchRightUptoRow.holds Try.pinned (OpenSpec.upto fnExactSketchRightSpec)

/-- 'laws.FnExactSketchWeight', WHERE WHAT IT READS IS OF BULK AT MOST 1048576: true; the input reads as it did. -/
def fnExactSketchWeightUptoRow : OpenClaim := { program := "ytigmjjglhfjmfaa", sum := "c50e99987ed31edda687c894e24681ecbfb3d78eabf0c5a2ab4e6005b8ed7706", func := "loop.example/g00309/laws.FnExactSketchWeight", spec := "fnExactSketchWeight", inPlace := ["math/bits.Add64"], apart := false, narrowed := true }
def FnExactSketchWeightUptoSaid : Prop := fnExactSketchWeightUptoRow.holds Try.pinned (OpenSpec.upto fnExactSketchWeightSpec)

/-- 'laws.FnExactSketchRank', WHERE WHAT IT READS IS OF BULK AT MOST 1048576: true; the input reads as it did. -/
def fnExactSketchRankUptoRow : OpenClaim := { program := "ytigmjjglhfjmfaa", sum := "c50e99987ed31edda687c894e24681ecbfb3d78eabf0c5a2ab4e6005b8ed7706", func := "loop.example/g00309/laws.FnExactSketchRank", spec := "fnExactSketchRank", inPlace := ["math/bits.Add64"], unfollowed := true, recurses := true, apart := false, narrowed := true }
def FnExactSketchRankUptoSaid : Prop := fnExactSketchRankUptoRow.holds Try.pinned (OpenSpec.upto fnExactSketchRankSpec)

/-- 'laws.FnExactSketchSame', WHERE WHAT IT READS IS OF BULK AT MOST 1048576: true; the input reads as it did. -/
def fnExactSketchSameUptoRow : OpenClaim := { program := "ytigmjjglhfjmfaa", sum := "c50e99987ed31edda687c894e24681ecbfb3d78eabf0c5a2ab4e6005b8ed7706", func := "loop.example/g00309/laws.FnExactSketchSame", spec := "fnExactSketchSame", apart := false, narrowed := true }
def FnExactSketchSameUptoSaid : Prop := fnExactSketchSameUptoRow.holds Try.pinned (OpenSpec.upto fnExactSketchSameSpec)

end Rows
end Go.Proofs.Ytigmjjglhfjmfaa
