/-
 A sample sized and copied, as the exact laws do.
-/
import Derived.Test.YtiiclgcpagdekaaGreatDoorSPA
namespace Go.Proofs.YtiiclgcpagdekaaGreatDoor
set_option linter.unusedVariables false
set_option linter.unusedSimpArgs false
open Go.ChangeShapes Go.WideShapes Go.ChangeAt Go.RowKit Go.PlainAid
set_option maxHeartbeats 1000000 in
theorem c_szSampleX {w:World} (x:Sx) (ox:x.Ok) (left:Int) (h0:0≤left) (hl:left≤1048576) :
  Calls Tryz.prog 10 #[.agg (sxArr x),.int .i64 left] w fun e w'=>∃ r,e=.returned (.int .i64 r)∧Below w.heap.size w w':=by
 have hse:=ox.se
 have hwd:=ox.wd
 unfold maxLen at hse hwd
 have hw1:IntKind.i64.wrap (left - (x.se.size:Int))=left - (x.se.size:Int):=IntWalk.i64_in _ ⟨by omega,by omega⟩
 by_cases h1:left - (x.se.size:Int)<0
 ·go_enter Tryz.func10,Tryz.ntmps10
  go_wp2
  go_ret
  first | exact ⟨_,rfl,(Below.refl _ _).alloc (Nat.le_refl _) _⟩ | exact ⟨⟨_,rfl⟩,(Below.refl _ _).alloc (Nat.le_refl _) _⟩
 ·have hw2:IntKind.i64.wrap (left - (x.se.size:Int) - (x.wd.size:Int))=left - (x.se.size:Int) - (x.wd.size:Int):=IntWalk.i64_in _ ⟨by omega,by omega⟩
  by_cases h2:left - (x.se.size:Int) - (x.wd.size:Int)<0
  ·go_enter Tryz.func10,Tryz.ntmps10
   go_wp2
   go_ret
   first | exact ⟨_,rfl,(Below.refl _ _).alloc (Nat.le_refl _) _⟩ | exact ⟨⟨_,rfl⟩,(Below.refl _ _).alloc (Nat.le_refl _) _⟩
  ·go_enter Tryz.func10,Tryz.ntmps10
   go_wp2
   go_ret
   first | exact ⟨_,rfl,(Below.refl _ _).alloc (Nat.le_refl _) _⟩ | exact ⟨⟨_,rfl⟩,(Below.refl _ _).alloc (Nat.le_refl _) _⟩
set_option maxHeartbeats 1000000 in
theorem c_toSampleX {w:World} (x:Sx) :
  Calls Tryz.prog 13 #[.agg (sxArr x)] w fun e w'=>e=.returned (.agg (sxArr x))∧Below w.heap.size w w':=by
 go_enter Tryz.func13,Tryz.ntmps13
 go_wp2
 refine bodyPost_ret (v:=.agg (sxArr x)) (by simp [results,Tryz.results13,go_sem]) rfl ⟨rfl,?_⟩
 exact (((Below.refl _ _).alloc (Nat.le_refl _) _).alloc (by simp) _).alloc (by simp;omega) _
theorem array7 {α:Type} {cs:Array α} (h:cs.size=7):∃ c0 c1 c2 c3 c4 c5 c6,cs=#[c0,c1,c2,c3,c4,c5,c6]:=by
 obtain ⟨l⟩:=cs
 match l,h with
 | [c0,c1,c2,c3,c4,c5,c6],_=>exact ⟨c0,c1,c2,c3,c4,c5,c6,rfl⟩
set_option maxRecDepth 100000 in
theorem open_sampleX {H:Type} {enc:TypeId×Value→H} {W:World} {r:Reach} {b0 base:Nat} {sp:Nat→Bool} {held:Bool} {v:Value} {d:DataW H} {ps:List MemPlace}
  (hval:Value.okWide Tryz.prog W r b0 27 v) (hd:DataW.Trod enc Tryz.prog W base sp held 27 v d ps) :
  ∃ x:Sx,v=.agg (sxArr x)∧x.Ok:=by
 obtain ⟨cs,rfl,hsz⟩:=okWide_struct Tryz.underlying27 hval
 obtain ⟨c0,c1,c2,c3,c4,c5,c6,rfl⟩:=array7 (hsz.trans (show Tryz.prog.cellsOf 27=7 by kernel_rfl))
 obtain ⟨fuel,hf⟩:=hd
 obtain ⟨xs,n,_,_,_,hlen,hfs⟩:=DataW.trod_struct Tryz.underlying27 hf
 have eI:Tryz.prog.cellsOf 2=1:=by kernel_rfl
 have eS:Tryz.prog.cellsOf 9=1:=by kernel_rfl
 have eU:Tryz.prog.cellsOf 25=1:=by kernel_rfl
 have eB:Tryz.prog.cellsOf 4=1:=by kernel_rfl
 match xs,hlen with
 | [y0,y1,y2,y3,y4,y5,y6],_=>
  have k0:DataW.trod enc Tryz.prog W base sp held n 2 [c0]=some y0:=by simpa [Value.cells,eI] using hfs 0 _ rfl
  have k1:DataW.trod enc Tryz.prog W base sp held n 9 [c1]=some y1:=by simpa [Value.cells,eS] using hfs 1 _ rfl
  have k2:DataW.trod enc Tryz.prog W base sp held n 2 [c2]=some y2:=by simpa [Value.cells,eI] using hfs 2 _ rfl
  have k3:DataW.trod enc Tryz.prog W base sp held n 9 [c3]=some y3:=by simpa [Value.cells,eS] using hfs 3 _ rfl
  have k4:DataW.trod enc Tryz.prog W base sp held n 25 [c4]=some y4:=by simpa [Value.cells,eU] using hfs 4 _ rfl
  have k5:DataW.trod enc Tryz.prog W base sp held n 4 [c5]=some y5:=by simpa [Value.cells,eB] using hfs 5 _ rfl
  have k6:DataW.trod enc Tryz.prog W base sp held n 2 [c6]=some y6:=by simpa [Value.cells,eI] using hfs 6 _ rfl
  obtain ⟨a0,f0,_,w0⟩:=DataW.trod_int Tryz.underlying2 k0
  obtain ⟨a1,f1,_,w1⟩:=DataW.trod_string Tryz.underlying9 k1
  obtain ⟨a2,f2,_,w2⟩:=DataW.trod_int Tryz.underlying2 k2
  obtain ⟨a3,f3,_,w3⟩:=DataW.trod_string Tryz.underlying9 k3
  obtain ⟨a4,f4,_,w4⟩:=DataW.trod_int Tryz.underlying25 k4
  obtain ⟨a5,f5,_⟩:=DataW.trod_bool Tryz.underlying4 k5
  obtain ⟨a6,f6,_,w6⟩:=DataW.trod_int Tryz.underlying2 k6
  simp at f0 f1 f2 f3 f4 f5 f6
  subst f0 f1 f2 f3 f4 f5 f6
  exact ⟨⟨a0,a1,a2,a3,a4,a5,a6⟩,rfl,bounds_i64 w0,bounds_i64 w2,bounds_u64 w4,bounds_i64 w6,w1,w3⟩
end Go.Proofs.YtiiclgcpagdekaaGreatDoor
