/-
  No cell of these rows narrows 'for every input' (looked for: loops, veiled, ifaces, maps, wideKeys, modest, calm, conditions, laid).
  DERIVED. THE GIVEN ROWS OF THIS SEAT. 3 by the template 'for every input the law returns true; each argument reads behind the call as it read before'; 0 by the template 'total and deterministic' (their statements: YtjgemoblmlodnaaTotals.lean).
  GIVEN WITH THE SEED: the statements are not yours to turn. If you find one false, say at which input.
  Laid BY PROGRAM, IN A SANDBOX (cutbox-rows.mjs): the forced cells as the released guide's own fill.sh prints them over the translation 2efeba73a21fa445… (all of the seat's roots in one cut). By AI agents, Wed Nov 11 2026. No macro, syntax, notation, axiom, sorry.
-/
import Derived.Test.YtjgemoblmlodnaaChecked
import GoSem.Claim
import GoSem.ClaimJoined
import GoSem.ClaimMapViews
import Derived.JoinedTies
import Derived.KernelRfl
namespace Go.Proofs.Ytjgemoblmlodnaa
/- THE CELL 'sum', in the pinned program and in every row, IS THE sha256 OF THE DUMP (.gsa) THAT YtjgemoblmlodnaaProg.lean LOADS. Nothing in Lean hashes anything: it is a label: what it is worth is what the hold of that sum in a sandbox is worth. -/
noncomputable def Try.pinned : Pinned := { name := "ytjgemoblmlodnaa", sum := "2efeba73a21fa445c6dc014c15fe43732f4f467e102662a2611f9915f68f4718", checked := Try.checked }
namespace Rows
def none {H : Type} : Left H := { results := [], args := [] }

/-- 'laws.FnExactBinOf': WHATEVER THE INPUT: true; the input reads as it did. -/
def fnExactBinOfSpec : ChangeSpec := { name := "fnExactBinOf", fn := fun _ => fun
  | [d] => { results := [.lit (.bool true)], args := [d] }
  | _ => none }
def fnExactBinOfRow : OpenClaim := { program := "ytjgemoblmlodnaa", sum := "2efeba73a21fa445c6dc014c15fe43732f4f467e102662a2611f9915f68f4718", func := "loop.example/g00309/laws.FnExactBinOf", spec := "fnExactBinOf", apart := false }
def FnExactBinOfSaid : Prop := fnExactBinOfRow.holds Try.pinned (OpenSpec.ofChange fnExactBinOfSpec)

/-- ITS FALSE NEIGHBOUR: 'it returns false'. Refute it at one input. -/
def fnExactBinOfWrong : ChangeSpec := { name := "fnExactBinOf", fn := fun _ => fun
  | [d] => { results := [.lit (.bool false)], args := [d] }
  | _ => none }
def FnExactBinOfWrongFalsely : Prop := fnExactBinOfRow.holds Try.pinned (OpenSpec.ofChange fnExactBinOfWrong)

/-- 'laws.FnExactBinLow': WHATEVER THE INPUT: true; the input reads as it did. -/
def fnExactBinLowSpec : ChangeSpec := { name := "fnExactBinLow", fn := fun _ => fun
  | [d] => { results := [.lit (.bool true)], args := [d] }
  | _ => none }
def fnExactBinLowRow : OpenClaim := { program := "ytjgemoblmlodnaa", sum := "2efeba73a21fa445c6dc014c15fe43732f4f467e102662a2611f9915f68f4718", func := "loop.example/g00309/laws.FnExactBinLow", spec := "fnExactBinLow", apart := false }
def FnExactBinLowSaid : Prop := fnExactBinLowRow.holds Try.pinned (OpenSpec.ofChange fnExactBinLowSpec)

/-- ITS FALSE NEIGHBOUR: 'it returns false'. Refute it at one input. -/
def fnExactBinLowWrong : ChangeSpec := { name := "fnExactBinLow", fn := fun _ => fun
  | [d] => { results := [.lit (.bool false)], args := [d] }
  | _ => none }
def FnExactBinLowWrongFalsely : Prop := fnExactBinLowRow.holds Try.pinned (OpenSpec.ofChange fnExactBinLowWrong)

/-- 'laws.FnBin': WHATEVER THE INPUT: true; the input reads as it did. -/
def fnBinSpec : ChangeSpec := { name := "fnBin", fn := fun _ => fun
  | [d1, d2] => { results := [.lit (.bool true)], args := [d1, d2] }
  | _ => none }
def fnBinRow : OpenClaim := { program := "ytjgemoblmlodnaa", sum := "2efeba73a21fa445c6dc014c15fe43732f4f467e102662a2611f9915f68f4718", func := "loop.example/g00309/laws.FnBin", spec := "fnBin", apart := false }
def FnBinSaid : Prop := fnBinRow.holds Try.pinned (OpenSpec.ofChange fnBinSpec)

/-- ITS FALSE NEIGHBOUR: 'it returns false'. Refute it at one input. -/
def fnBinWrong : ChangeSpec := { name := "fnBin", fn := fun _ => fun
  | [d1, d2] => { results := [.lit (.bool false)], args := [d1, d2] }
  | _ => none }
def FnBinWrongFalsely : Prop := fnBinRow.holds Try.pinned (OpenSpec.ofChange fnBinWrong)

/- THE SECOND FORM. 'bulk': how many values and letters a reading holds, each counted each time it is reached (what is shared counts as often as it is met; a slice's spare places count too). A statement '..UptoSaid' is the law's where the arguments, and the package variables that the reading takes, are together of bulk at most 1048576: NARROWER than '..Said'. Prove '..Said' where nothing that the law and all that it calls make is longer than what came in: it says more and counts as full. Else prove '..UptoSaid'. A law counts once. -/
mutual
def uptoBulk {H : Type} : DataW H → Nat
  | .lit (.string bytes) => bytes.length + 1
  | .lit _ => 1
  | .nil => 1
  | .ptr d => uptoBulk d + 1
  | .slice elems spare => uptoBulkAll elems + uptoBulkAll spare + 1
  | .agg parts => uptoBulkAll parts + 1
  | .iface _ d => uptoBulk d + 1
  | .map entries => uptoBulkEntries entries + 1
  | .held _ => 1
def uptoBulkAll {H : Type} : List (DataW H) → Nat
  | [] => 0
  | d :: r => uptoBulk d + uptoBulkAll r
def uptoBulkEntries {H : Type} : List (Lit × DataW H) → Nat
  | [] => 0
  | x :: r => uptoBulkEntry x + uptoBulkEntries r
def uptoBulkEntry {H : Type} : Lit × DataW H → Nat
  | (.string bytes, d) => bytes.length + uptoBulk d + 1
  | (_, d) => uptoBulk d + 1
 end
def uptoSmall : (H : Type) → List (DataW H) → Bool := fun _ ds => decide (uptoBulkAll ds ≤ 1048576)
def OpenSpec.upto (s : _root_.Go.ChangeSpec) : _root_.Go.OpenSpec := { _root_.Go.OpenSpec.ofChange s with cond := some uptoSmall }

/-- 'laws.FnExactBinOf', WHERE WHAT IT READS IS OF BULK AT MOST 1048576: true; the input reads as it did. -/
def fnExactBinOfUptoRow : OpenClaim := { program := "ytjgemoblmlodnaa", sum := "2efeba73a21fa445c6dc014c15fe43732f4f467e102662a2611f9915f68f4718", func := "loop.example/g00309/laws.FnExactBinOf", spec := "fnExactBinOf", apart := false, narrowed := true }
def FnExactBinOfUptoSaid : Prop := fnExactBinOfUptoRow.holds Try.pinned (OpenSpec.upto fnExactBinOfSpec)

/-- 'laws.FnExactBinLow', WHERE WHAT IT READS IS OF BULK AT MOST 1048576: true; the input reads as it did. -/
def fnExactBinLowUptoRow : OpenClaim := { program := "ytjgemoblmlodnaa", sum := "2efeba73a21fa445c6dc014c15fe43732f4f467e102662a2611f9915f68f4718", func := "loop.example/g00309/laws.FnExactBinLow", spec := "fnExactBinLow", apart := false, narrowed := true }
def FnExactBinLowUptoSaid : Prop := fnExactBinLowUptoRow.holds Try.pinned (OpenSpec.upto fnExactBinLowSpec)

/-- 'laws.FnBin', WHERE WHAT IT READS IS OF BULK AT MOST 1048576: true; the input reads as it did. -/
def fnBinUptoRow : OpenClaim := { program := "ytjgemoblmlodnaa", sum := "2efeba73a21fa445c6dc014c15fe43732f4f467e102662a2611f9915f68f4718", func := "loop.example/g00309/laws.FnBin", spec := "fnBin", apart := false, narrowed := true }
def FnBinUptoSaid : Prop := fnBinUptoRow.holds Try.pinned (OpenSpec.upto fnBinSpec)

end Rows
end Go.Proofs.Ytjgemoblmlodnaa
