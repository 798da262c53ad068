/-
  No cell of these rows narrows 'for every input' (looked for: loops, veiled, ifaces, maps, wideKeys, modest, calm, conditions, laid).
  DERIVED. THE GIVEN ROWS OF THIS SEAT. 3 by the template 'for every input the law returns true; each argument reads behind the call as it read before'; 0 by the template 'total and deterministic' (their statements: YtjcogjfgppkomaaTotals.lean).
  GIVEN WITH THE SEED: the statements are not yours to turn. If you find one false, say at which input.
  Laid BY PROGRAM, IN A SANDBOX (cutbox-rows.mjs): the forced cells as the released guide's own fill.sh prints them over the translation 87914989fa7a4813… (all of the seat's roots in one cut). By AI agents, Wed Nov 11 2026. No macro, syntax, notation, axiom, sorry.
-/
import Derived.Test.YtjcogjfgppkomaaChecked
import GoSem.Claim
import GoSem.ClaimJoined
import GoSem.ClaimMapViews
import Derived.JoinedTies
import Derived.KernelRfl
namespace Go.Proofs.Ytjcogjfgppkomaa
/- THE CELL 'sum', in the pinned program and in every row, IS THE sha256 OF THE DUMP (.gsa) THAT YtjcogjfgppkomaaProg.lean LOADS. Nothing in Lean hashes anything: it is a label: what it is worth is what the hold of that sum in a sandbox is worth. -/
noncomputable def Try.pinned : Pinned := { name := "ytjcogjfgppkomaa", sum := "87914989fa7a4813f9031c4f3e65bf2bc79452c40caeed16978f9afabbf65939", checked := Try.checked }
namespace Rows
def none {H : Type} : Left H := { results := [], args := [] }

/-- 'laws.FnExactAggRight': WHATEVER THE INPUT: true; the input reads as it did. -/
def fnExactAggRightSpec : ChangeSpec := { name := "fnExactAggRight", fn := fun _ => fun
  | [d] => { results := [.lit (.bool true)], args := [d] }
  | _ => none }
def fnExactAggRightRow : OpenClaim := { program := "ytjcogjfgppkomaa", sum := "87914989fa7a4813f9031c4f3e65bf2bc79452c40caeed16978f9afabbf65939", func := "loop.example/g00309/laws.FnExactAggRight", spec := "fnExactAggRight", unfollowed := true, recurses := true, apart := false }
def FnExactAggRightSaid : Prop := fnExactAggRightRow.holds Try.pinned (OpenSpec.ofChange fnExactAggRightSpec)

/-- ITS FALSE NEIGHBOUR: 'it returns false'. Refute it at one input. -/
def fnExactAggRightWrong : ChangeSpec := { name := "fnExactAggRight", fn := fun _ => fun
  | [d] => { results := [.lit (.bool false)], args := [d] }
  | _ => none }
def FnExactAggRightWrongFalsely : Prop := fnExactAggRightRow.holds Try.pinned (OpenSpec.ofChange fnExactAggRightWrong)

/-- 'laws.FnExactAggNew': WHATEVER THE INPUT: true; the input reads as it did. -/
def fnExactAggNewSpec : ChangeSpec := { name := "fnExactAggNew", fn := fun _ => fun
  | [d] => { results := [.lit (.bool true)], args := [d] }
  | _ => none }
def fnExactAggNewRow : OpenClaim := { program := "ytjcogjfgppkomaa", sum := "87914989fa7a4813f9031c4f3e65bf2bc79452c40caeed16978f9afabbf65939", func := "loop.example/g00309/laws.FnExactAggNew", spec := "fnExactAggNew", apart := false }
def FnExactAggNewSaid : Prop := fnExactAggNewRow.holds Try.pinned (OpenSpec.ofChange fnExactAggNewSpec)

/-- ITS FALSE NEIGHBOUR: 'it returns false'. Refute it at one input. -/
def fnExactAggNewWrong : ChangeSpec := { name := "fnExactAggNew", fn := fun _ => fun
  | [d] => { results := [.lit (.bool false)], args := [d] }
  | _ => none }
def FnExactAggNewWrongFalsely : Prop := fnExactAggNewRow.holds Try.pinned (OpenSpec.ofChange fnExactAggNewWrong)

/-- 'laws.FnExactAggSame': WHATEVER THE INPUT: true; the input reads as it did. -/
def fnExactAggSameSpec : ChangeSpec := { name := "fnExactAggSame", fn := fun _ => fun
  | [d1, d2] => { results := [.lit (.bool true)], args := [d1, d2] }
  | _ => none }
def fnExactAggSameRow : OpenClaim := { program := "ytjcogjfgppkomaa", sum := "87914989fa7a4813f9031c4f3e65bf2bc79452c40caeed16978f9afabbf65939", func := "loop.example/g00309/laws.FnExactAggSame", spec := "fnExactAggSame", apart := false }
def FnExactAggSameSaid : Prop := fnExactAggSameRow.holds Try.pinned (OpenSpec.ofChange fnExactAggSameSpec)

/-- ITS FALSE NEIGHBOUR: 'it returns false'. Refute it at one input. -/
def fnExactAggSameWrong : ChangeSpec := { name := "fnExactAggSame", fn := fun _ => fun
  | [d1, d2] => { results := [.lit (.bool false)], args := [d1, d2] }
  | _ => none }
def FnExactAggSameWrongFalsely : Prop := fnExactAggSameRow.holds Try.pinned (OpenSpec.ofChange fnExactAggSameWrong)

/- THE SECOND FORM. 'bulk': how many values and letters a reading holds, each counted each time it is reached (what is shared counts as often as it is met; a slice's spare places count too). A statement '..UptoSaid' is the law's where the arguments, and the package variables that the reading takes, are together of bulk at most 1048576: NARROWER than '..Said'. Prove '..Said' where nothing that the law and all that it calls make is longer than what came in: it says more and counts as full. Else prove '..UptoSaid'. A law counts once. -/
mutual
def uptoBulk {H : Type} : DataW H → Nat
  | .lit (.string bytes) => bytes.length + 1
  | .lit _ => 1
  | .nil => 1
  | .ptr d => uptoBulk d + 1
  | .slice elems spare => uptoBulkAll elems + uptoBulkAll spare + 1
  | .agg parts => uptoBulkAll parts + 1
  | .iface _ d => uptoBulk d + 1
  | .map entries => uptoBulkEntries entries + 1
  | .held _ => 1
def uptoBulkAll {H : Type} : List (DataW H) → Nat
  | [] => 0
  | d :: r => uptoBulk d + uptoBulkAll r
def uptoBulkEntries {H : Type} : List (Lit × DataW H) → Nat
  | [] => 0
  | x :: r => uptoBulkEntry x + uptoBulkEntries r
def uptoBulkEntry {H : Type} : Lit × DataW H → Nat
  | (.string bytes, d) => bytes.length + uptoBulk d + 1
  | (_, d) => uptoBulk d + 1
 end
def uptoSmall : (H : Type) → List (DataW H) → Bool := fun _ ds => decide (uptoBulkAll ds ≤ 1048576)
def OpenSpec.upto (s : _root_.Go.ChangeSpec) : _root_.Go.OpenSpec := { _root_.Go.OpenSpec.ofChange s with cond := some uptoSmall }

/-- 'laws.FnExactAggRight', WHERE WHAT IT READS IS OF BULK AT MOST 1048576: true; the input reads as it did. -/
def fnExactAggRightUptoRow : OpenClaim := { program := "ytjcogjfgppkomaa", sum := "87914989fa7a4813f9031c4f3e65bf2bc79452c40caeed16978f9afabbf65939", func := "loop.example/g00309/laws.FnExactAggRight", spec := "fnExactAggRight", unfollowed := true, recurses := true, apart := false, narrowed := true }
def FnExactAggRightUptoSaid : Prop := fnExactAggRightUptoRow.holds Try.pinned (OpenSpec.upto fnExactAggRightSpec)

/-- 'laws.FnExactAggNew', WHERE WHAT IT READS IS OF BULK AT MOST 1048576: true; the input reads as it did. -/
def fnExactAggNewUptoRow : OpenClaim := { program := "ytjcogjfgppkomaa", sum := "87914989fa7a4813f9031c4f3e65bf2bc79452c40caeed16978f9afabbf65939", func := "loop.example/g00309/laws.FnExactAggNew", spec := "fnExactAggNew", apart := false, narrowed := true }
def FnExactAggNewUptoSaid : Prop := fnExactAggNewUptoRow.holds Try.pinned (OpenSpec.upto fnExactAggNewSpec)

/-- 'laws.FnExactAggSame', WHERE WHAT IT READS IS OF BULK AT MOST 1048576: true; the input reads as it did. -/
def fnExactAggSameUptoRow : OpenClaim := { program := "ytjcogjfgppkomaa", sum := "87914989fa7a4813f9031c4f3e65bf2bc79452c40caeed16978f9afabbf65939", func := "loop.example/g00309/laws.FnExactAggSame", spec := "fnExactAggSame", apart := false, narrowed := true }
def FnExactAggSameUptoSaid : Prop := fnExactAggSameUptoRow.holds Try.pinned (OpenSpec.upto fnExactAggSameSpec)

end Rows
end Go.Proofs.Ytjcogjfgppkomaa
