/-
 Parts.
-/
import Derived.Shelf.SlSortCmp.WholeK
import Derived.Shelf.LaysM
import Derived.Shelf.Strconv.Itoa3
import Derived.Test.YtdbaabbmcfnjbaaGreatDoorProg
import Derived.Shelf.SlIter.Nil
import Derived.Shelf.Pu.ParseUintPublic10
set_option linter.all false
namespace Go.Proofs
open Go.Shelf
def Tryz.lays171_ren:Go.Shelf.Ren:=⟨fun | 171=>279 | 243=>343 | 246=>207 | 283=>269 | 284=>270 | 285=>271 | 286=>272 | 129=>327 | 317=>326 | 318=>328 | 319=>329 | 320=>330 | 337=>380 | 338=>381 | n=>n,fun | 3=>3 | 9=>9 | 2=>2 | 4=>4 | 171=>325 | 0=>0 | 53=>69 | 37=>42 | 5=>5 | 173=>328 | 212=>388 | 51=>389 | 20=>20 | 213=>390 | 46=>155 | 232=>458 | 233=>459 | n=>n,fun | 17=>1 | 18=>7 | 19=>8 | n=>n⟩
open Go.RowKit Go.Sort Go.Lib in
def Tryz.laysSortM_ren:Go.Shelf.Ren:=⟨fun | 6=>280 | 15=>275 | 14=>344 | 28=>339 | 29=>327 | 20=>388 | 21=>389 | 22=>390 | 23=>391 | 24=>392 | 25=>393 | 26=>394 | 27=>395 | 46=>424 | 47=>383 | 48=>384 | 49=>425 | 50=>426 | 57=>435 | n=>n,fun | 22=>262 | 24=>266 | 25=>335 | 3=>3 | 39=>155 | 0=>0 | 53=>389 | 55=>69 | 4=>4 | 46=>394 | 45=>393 | 50=>110 | 5=>5 | 9=>9 | 66=>428 | 70=>432 | 76=>460 | 77=>461 | n=>n,fun | n=>n⟩
end Go.Proofs
namespace Go.Proofs
open Go.Shelf
def Tryz.keysSh_ren:Go.Shelf.Ren:=⟨fun | 7=>243 | 10=>302 | n=>n,fun | 23=>186 | 26=>9 | 3=>60 | 28=>288 | 0=>0 | 27=>287 | 33=>26 | 4=>4 | n=>n,fun | n=>n⟩
end Go.Proofs
namespace Go.Proofs
open Go.Shelf
def Tryz.parseU_ren:Go.Shelf.Ren:=⟨fun | 14=>164 | 16=>228 | 17=>229 | 19=>288 | 20=>289 | 21=>290 | 22=>291 | 23=>292 | 24=>293 | 25=>351 | 27=>279 | 26=>352 | 28=>343 | 29=>207 | 30=>269 | 31=>270 | 32=>271 | 33=>272 | 35=>327 | 34=>326 | 36=>328 | 37=>329 | 38=>330 | 39=>380 | 40=>381 | n=>n,fun | 9=>9 | 3=>3 | 22=>69 | 24=>194 | 25=>207 | 4=>4 | 34=>352 | 5=>5 | 36=>155 | 37=>42 | 0=>0 | 39=>354 | 21=>21 | 44=>410 | 47=>323 | 50=>446 | 48=>444 | 2=>2 | 52=>325 | 55=>328 | 59=>388 | 60=>389 | 20=>20 | 61=>390 | 65=>458 | 66=>459 | 67=>252 | n=>n,fun | 0=>4 | 1=>5 | 2=>1 | 3=>7 | 4=>8 | n=>n⟩
theorem Tryz.parseU:Go.Proofs.LaysPu.n14 Tryz.prog Tryz.parseU_ren:={
 mixed:=by kernel_rfl
 f14:=Tryz.func164.trans (congrArg some (by kernel_rfl))
 f16:=Tryz.func228.trans (congrArg some (by kernel_rfl))
 f17:=Tryz.func229.trans (congrArg some (by kernel_rfl))
 f19:=Tryz.func288.trans (congrArg some (by kernel_rfl))
 f20:=Tryz.func289.trans (congrArg some (by kernel_rfl))
 f21:=Tryz.func290.trans (congrArg some (by kernel_rfl))
 f22:=Tryz.func291.trans (congrArg some (by kernel_rfl))
 f23:=Tryz.func292.trans (congrArg some (by kernel_rfl))
 f24:=Tryz.func293.trans (congrArg some (by kernel_rfl))
 f25:=Tryz.func351.trans (congrArg some (by kernel_rfl))
 f26:=Tryz.func352.trans (congrArg some (by kernel_rfl))
 f27:=Tryz.func279.trans (congrArg some (by kernel_rfl))
 f28:=Tryz.func343.trans (congrArg some (by kernel_rfl))
 f29:=Tryz.func207.trans (congrArg some (by kernel_rfl))
 f30:=Tryz.func269.trans (congrArg some (by kernel_rfl))
 f31:=Tryz.func270.trans (congrArg some (by kernel_rfl))
 f32:=Tryz.func271.trans (congrArg some (by kernel_rfl))
 f33:=Tryz.func272.trans (congrArg some (by kernel_rfl))
 f34:=Tryz.func326.trans (congrArg some (by kernel_rfl))
 f35:=Tryz.func327.trans (congrArg some (by kernel_rfl))
 f36:=Tryz.func328.trans (congrArg some (by kernel_rfl))
 f37:=Tryz.func329.trans (congrArg some (by kernel_rfl))
 f38:=Tryz.func330.trans (congrArg some (by kernel_rfl))
 f39:=Tryz.func380.trans (congrArg some (by kernel_rfl))
 f40:=Tryz.func381.trans (congrArg some (by kernel_rfl))
 t0:=Tryz.underlying0
 a0:=Tryz.isAgg0
 z0:=Tryz.sizeOf0
 v0:=Tryz.zeroValue0
 i0:=by kernel_rfl
 t2:=Tryz.underlying2
 a2:=Tryz.isAgg2
 z2:=Tryz.sizeOf2
 v2:=Tryz.zeroValue2
 i2:=by kernel_rfl
 t3:=Tryz.underlying3
 a3:=Tryz.isAgg3
 z3:=Tryz.sizeOf3
 v3:=Tryz.zeroValue3
 i3:=by kernel_rfl
 t4:=Tryz.underlying4
 a4:=Tryz.isAgg4
 z4:=Tryz.sizeOf4
 v4:=Tryz.zeroValue4
 i4:=by kernel_rfl
 t5:=Tryz.underlying5
 a5:=Tryz.isAgg5
 z5:=Tryz.sizeOf5
 v5:=Tryz.zeroValue5
 i5:=by kernel_rfl
 t9:=Tryz.underlying9
 a9:=Tryz.isAgg9
 z9:=Tryz.sizeOf9
 v9:=Tryz.zeroValue9
 i9:=by kernel_rfl
 t20:=Tryz.underlying20
 a20:=Tryz.isAgg20
 z20:=Tryz.sizeOf20
 v20:=Tryz.zeroValue20
 i20:=by kernel_rfl
 t21:=Tryz.underlying21
 a21:=Tryz.isAgg21
 z21:=Tryz.sizeOf21
 v21:=Tryz.zeroValue21
 i21:=by kernel_rfl
 t22:=Tryz.underlying69
 a22:=Tryz.isAgg69
 z22:=Tryz.sizeOf69
 v22:=Tryz.zeroValue69
 i22:=by kernel_rfl
 t24:=Tryz.underlying194
 a24:=Tryz.isAgg194
 z24:=Tryz.sizeOf194
 v24:=Tryz.zeroValue194
 i24:=by kernel_rfl
 t25:=Tryz.underlying207
 a25:=Tryz.isAgg207
 z25:=Tryz.sizeOf207
 v25:=Tryz.zeroValue207
 i25:=by kernel_rfl
 t34:=Tryz.underlying352
 a34:=Tryz.isAgg352
 z34:=Tryz.sizeOf352
 v34:=Tryz.zeroValue352
 i34:=by kernel_rfl
 c34:=by kernel_rfl
 t36:=Tryz.underlying155
 a36:=Tryz.isAgg155
 z36:=Tryz.sizeOf155
 v36:=Tryz.zeroValue155
 i36:=by kernel_rfl
 t37:=Tryz.underlying42
 a37:=Tryz.isAgg42
 z37:=Tryz.sizeOf42
 v37:=Tryz.zeroValue42
 i37:=by kernel_rfl
 t39:=Tryz.underlying354
 a39:=Tryz.isAgg354
 z39:=Tryz.sizeOf354
 v39:=Tryz.zeroValue354
 i39:=by kernel_rfl
 t44:=Tryz.underlying410
 a44:=Tryz.isAgg410
 z44:=Tryz.sizeOf410
 v44:=Tryz.zeroValue410
 i44:=by kernel_rfl
 t47:=Tryz.underlying323
 a47:=Tryz.isAgg323
 z47:=Tryz.sizeOf323
 v47:=Tryz.zeroValue323
 i47:=by kernel_rfl
 t48:=Tryz.underlying444
 a48:=Tryz.isAgg444
 z48:=Tryz.sizeOf444
 v48:=Tryz.zeroValue444
 i48:=by kernel_rfl
 t50:=Tryz.underlying446
 a50:=Tryz.isAgg446
 z50:=Tryz.sizeOf446
 v50:=Tryz.zeroValue446
 i50:=by kernel_rfl
 t52:=Tryz.underlying325
 a52:=Tryz.isAgg325
 z52:=Tryz.sizeOf325
 v52:=Tryz.zeroValue325
 i52:=by kernel_rfl
 t55:=Tryz.underlying328
 a55:=Tryz.isAgg328
 z55:=Tryz.sizeOf328
 v55:=Tryz.zeroValue328
 i55:=by kernel_rfl
 t59:=Tryz.underlying388
 a59:=Tryz.isAgg388
 z59:=Tryz.sizeOf388
 v59:=Tryz.zeroValue388
 i59:=by kernel_rfl
 t60:=Tryz.underlying389
 a60:=Tryz.isAgg389
 z60:=Tryz.sizeOf389
 v60:=Tryz.zeroValue389
 i60:=by kernel_rfl
 t61:=Tryz.underlying390
 a61:=Tryz.isAgg390
 z61:=Tryz.sizeOf390
 t65:=Tryz.underlying458
 a65:=Tryz.isAgg458
 z65:=Tryz.sizeOf458
 v65:=Tryz.zeroValue458
 i65:=by kernel_rfl
 t66:=Tryz.underlying459
 a66:=Tryz.isAgg459
 z66:=Tryz.sizeOf459
 v66:=Tryz.zeroValue459
 i66:=by kernel_rfl
 t67:=Tryz.underlying252
 a67:=Tryz.isAgg252
 z67:=Tryz.sizeOf252
 v67:=Tryz.zeroValue252
 i67:=by kernel_rfl
 g0:=by kernel_rfl
 m0:=by kernel_rfl
 g1:=by kernel_rfl
 m1:=by kernel_rfl
 g2:=by kernel_rfl
 m2:=by kernel_rfl
 g3:=by kernel_rfl
 m3:=by kernel_rfl
 g4:=by kernel_rfl
 m4:=by kernel_rfl }
end Go.Proofs
