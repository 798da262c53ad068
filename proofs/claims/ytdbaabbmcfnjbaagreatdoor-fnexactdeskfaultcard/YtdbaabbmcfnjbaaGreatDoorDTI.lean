/-
 Parts.
-/
import Derived.Test.YtdbaabbmcfnjbaaGreatDoorRows
import Derived.LaidByTextLater
import Derived.SevenTiedAt
set_option linter.all false
namespace Go.Proofs.YtdbaabbmcfnjbaaGreatDoor
open Go
abbrev laidLL:List (String×DataW Unit):=[("unicode/utf8.acceptRanges",Rows.laid_unicode_utf8_acceptRanges),("internal/strconv.uint64pow10",Rows.laid_internal_strconv_uint64pow10),("math/bits.deBruijn32tab",Rows.laid_math_bits_deBruijn32tab),("math/bits.deBruijn64tab",Rows.laid_math_bits_deBruijn64tab),("strconv.ErrSyntax",Rows.laid_strconv_ErrSyntax),("strconv.ErrRange",Rows.laid_strconv_ErrRange),("errors.errorType",Rows.laid_errors_errorType)]
theorem tieW:Tryz.prog.worded (varsWordLater true)=true:=by kernel_rfl
theorem tieX:Tryz.prog.worded (varsWordLater !true)=false:=by kernel_rfl
theorem tieR:Tryz.prog.worded rootWordLater=true:=by kernel_rfl
theorem tieK:laidLL.map (fun x=>Tryz.prog.kindOfLater x.1)=[LaidKind.data,.data,.data,.data,.sentinel,.sentinel,.handle].map some:=by kernel_rfl
theorem tieG:(Tryz.prog.funcNamed "gosem.cut.vars").isSome=true:=by kernel_rfl
theorem tieN:varsNamedLaterB Tryz.prog (varsId Tryz.prog) laidLL=true:=by kernel_rfl
theorem tieP1:Tryz.pinned.checked.prog.pinnedFits "unicode/utf8.first"=true:=by kernel_rfl
theorem tieU1:Tryz.pinned.checked.prog.headLifts.contains "ownunsafe"=false:=by kernel_rfl
theorem fitsLL:Tryz.pinned.checked.prog.listedFits (("unicode/utf8.first",Rows.laid_unicode_utf8_first) :: laidLL)=true:=by
 unfold Program.listedFits;rw [tieU1]
 kernel_rfl
theorem tieD (os:Os) (tape:Tape):varsDone Tryz.prog 400 (varsId Tryz.prog) os tape=true:=by kernel_rfl
theorem tie1 (os:Os) (tape:Tape):(DataW.laidRun Tryz.prog (varsWorld Tryz.prog 400 (varsId Tryz.prog) os tape).memory 8 ((laidLL.filter fun x=>x.2.handleName?.isNone).map (·.1))).map (·.1)=some (laidLL.filter fun x=>x.2.handleName?.isNone):=by kernel_rfl
theorem tie2 (os:Os) (tape:Tape):(DataW.laidRun Tryz.prog (varsWorld Tryz.prog 400 (varsId Tryz.prog) os tape).memory 8 ((laidLL.filter fun x=>x.2.handleName?.isNone).map (·.1))).map (fun x=>decide x.2.Nodup && laidRowsB Tryz.prog (varsWorld Tryz.prog 400 (varsId Tryz.prog) os tape).memory x.2)=some true:=by kernel_rfl
theorem tie3 (os:Os) (tape:Tape):(laidLL.filter fun x=>x.2.handleName?.isSome).all (handleAtB Tryz.prog (varsWorld Tryz.prog 400 (varsId Tryz.prog) os tape).memory)=true:=by kernel_rfl
theorem tieAll:Tryz.prog.laidByTextLater laidLL [.data,.data,.data,.data,.sentinel,.sentinel,.handle] true:=
 Program.laidByTextLater_by_run_h 400 8 tieW tieX tieR tieK tieG tieN tieD tie1 tie2 tie3
theorem rowTie:Rows.fnExactDeskFaultRow.laidByTextAt .later Tryz.pinned [.pinned,.data,.data,.data,.data,.sentinel,.sentinel,.handle] true:=
 OpenClaim.laidByTextAt_pinned rfl rfl tieAll rfl rfl rfl rfl (fun y hy he=>by
  simp only [Rows.fnExactDeskFaultRow,List.zip_cons_cons,List.zip_nil_right,List.mem_cons,List.mem_nil_iff,or_false] at hy;rcases hy with rfl | rfl | rfl | rfl | rfl | rfl | rfl | rfl
  ·exact ⟨tieP1,by kernel_rfl⟩
  all_goals cases he) fitsLL
end Go.Proofs.YtdbaabbmcfnjbaaGreatDoor
