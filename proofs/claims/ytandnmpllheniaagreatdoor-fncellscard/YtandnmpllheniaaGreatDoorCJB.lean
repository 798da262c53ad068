/-
 Parts.
-/
import Derived.Test.YtandnmpllheniaaGreatDoorCJA
namespace Go.Proofs.YtandnmpllheniaaGreatDoor
open Go.ChangeShapes Go.WideShapes Go.ChangeAt Go.RowKit Go.PlainAid Go.Lib
set_option maxRecDepth 10000
def Qaq (kd:IntKind) (w:World) (ao:Option Addr) (L:List Int):Prop:=
 0<L.length->∃ b off,ao=some ⟨b,off,none⟩/\∀ i x,L[i]?=some x->w.cell? ⟨b,off+i,none⟩=some (.int kd x)
theorem Qaf {kd:IntKind} {w w':World} {ao:Option Addr} {L:List Int} (h:Qaq kd w ao L) (hb:Below w.heap.size w w'):Qaq kd w' ao L:=fun h0=>by
 obtain ⟨b,off,e,hc⟩:=h h0;exact ⟨b,off,e,fun i x hx=>Qab hb (hc i x hx)⟩
theorem Qa5 {a b:Bool} (h:a=b):Ending.returned (.bool a)=.returned (.bool b):=by rw [h]
def fillN (L:List Int) (k:Nat):List Int:=L.take k ++ List.replicate (L.length - k) 0
theorem Qfj (kd:IntKind) (n:Nat):(madeCells (Value.int kd 0).cells (n*1)).toList=(List.replicate n (0:Int)).map (Value.int kd):=by
 rw [Nat.mul_one,List.map_replicate];exact toList_madeCells_one _ _
theorem Qmh {L M:List Int} {k:Nat} {a a':Int} (h:L[k]?=some a) (g:M[k]?=some a'):decide (L.drop k=M.drop k)=((a == a') && decide (L.drop (k+1)=M.drop (k+1))):=by
 have hk:=(ZZd.1 h).1;have gk:=(ZZd.1 g).1;rw [List.drop_eq_getElem_cons hk,(List.getElem?_eq_some_iff.1 h).2,List.drop_eq_getElem_cons gk,(List.getElem?_eq_some_iff.1 g).2];by_cases h1:a=a' <;> simp [h1]
theorem Qdo:(Tryz.prog.info? 26).map (fun i=>(i.zero,i.size,i.bytes))=some (some (.int .u64 0),1,8):=by kernel_rfl
theorem QdZ:(Tryz.prog.info? 2).map (fun i=>(i.zero,i.size,i.bytes))=some (some (.int .i64 0),1,8):=by kernel_rfl
abbrev Qbm (w:World) (g:Nat) (p n:Value):Prop:=w.cell? ⟨g,0,none⟩=some p/\w.cell? ⟨g,1,none⟩=some n
theorem Qbq {w w':World} {g:Nat} {p n:Value} (k:Qbm w g p n) (hb:Below w.heap.size w w'):Qbm w' g p n:=
 ⟨Qab hb k.1,Qab hb k.2⟩
theorem QgI (w:World) (t:TypeId) (p n:Value):Qbm (w.alloc (.cells #[p,n] t)) w.heap.size p n:=by
 have hb:=ZZk w (.cells #[p,n] t);exact ⟨by rw [cell_of_row _ w.heap.size 0 _ _ (0,0) hb];rfl,by rw [cell_of_row _ w.heap.size 1 _ _ (0,0) hb];rfl⟩
structure Ag where
 k:Int
 s:Int
 h:Int
 l:Int
 a:Int
 t:Int
 z:Int
 P:List Bn
 N:List Bn
 x:Int
 y:Int
 E:List Int
 R:List Int
structure Pl where
 pa:Option Addr
 pc:Nat
 na:Option Addr
 nc:Nat
 ea:Option Addr
 ec:Nat
 ra:Option Addr
 rc:Nat
abbrev Qak (g:Ag) (p:Pl):Array Value:=#[.int .i64 g.k,.int .u64 g.s,.int .i64 g.h,.int .u64 g.l,.int .i64 g.a,.int .i64 g.t,.int .u64 g.z,.slice p.pa g.P.length p.pc,.slice p.na g.N.length p.nc,.int .i64 g.x,.int .u64 g.y,.slice p.ea g.E.length p.ec,.slice p.ra g.R.length p.rc]
structure AgAt (w:World) (g:Ag) (p:Pl):Prop where
 P:QaA w p.pa g.P
 N:QaA w p.na g.N
 E:Qaq .u64 w p.ea g.E
 R:Qaq .i64 w p.ra g.R
theorem Qao {w w':World} {g:Ag} {p:Pl} (h:AgAt w g p) (hb:Below w.heap.size w w'):AgAt w' g p:=⟨Qae h.P hb,Qae h.N hb,Qaf h.E hb,Qaf h.R hb⟩
structure AgSm (g:Ag):Prop where
 P:g.P.length<=1048576
 N:g.N.length<=1048576
 E:g.E.length<=1048576
 R:g.R.length<=1048576
structure AgLen (g:Ag):Prop where
 P:g.P.length<=maxLen
 N:g.N.length<=maxLen
 E:g.E.length<=maxLen
 R:g.R.length<=maxLen
abbrev Qb9 (w:World) (b:Nat) (g:Ag) (p:Pl):Prop:=
 w.cell? ⟨b,0,none⟩=some (.int .i64 g.k)/\w.cell? ⟨b,1,none⟩=some (.int .u64 g.s)/\w.cell? ⟨b,2,none⟩=some (.int .i64 g.h)/\w.cell? ⟨b,3,none⟩=some (.int .u64 g.l)/\w.cell? ⟨b,4,none⟩=some (.int .i64 g.a)/\w.cell? ⟨b,5,none⟩=some (.int .i64 g.t)/\w.cell? ⟨b,6,none⟩=some (.int .u64 g.z)/\w.cell? ⟨b,7,none⟩=some (.slice p.pa g.P.length p.pc)/\w.cell? ⟨b,8,none⟩=some (.slice p.na g.N.length p.nc)/\w.cell? ⟨b,9,none⟩=some (.int .i64 g.x)/\w.cell? ⟨b,10,none⟩=some (.int .u64 g.y)/\w.cell? ⟨b,11,none⟩=some (.slice p.ea g.E.length p.ec)/\w.cell? ⟨b,12,none⟩=some (.slice p.ra g.R.length p.rc)
theorem QaD {w w':World} {b:Nat} {g:Ag} {p:Pl} (k:Qb9 w b g p) (hb:Below w.heap.size w w'):Qb9 w' b g p:=by
 obtain ⟨k0,k1,k2,k3,k4,k5,k6,k7,k8,k9,ac,ab,aa⟩:=k;exact ⟨Qab hb k0,Qab hb k1,Qab hb k2,Qab hb k3,Qab hb k4,Qab hb k5,Qab hb k6,Qab hb k7,Qab hb k8,Qab hb k9,Qab hb ac,Qab hb ab,Qab hb aa⟩
theorem Qev (w:World) (t:TypeId) (g:Ag) (p:Pl):Qb9 (w.alloc (.cells (Qak g p) t)) w.heap.size g p:=by
 have hb:=ZZk w (.cells (Qak g p) t);have h:∀ j,(w.alloc (.cells (Qak g p) t)).cell? ⟨w.heap.size,j,none⟩=(Qak g p)[j]?:=fun j=>cell_of_row _ w.heap.size j _ _ (0,0) hb;exact ⟨by rw [h];rfl,by rw [h];rfl,by rw [h];rfl,by rw [h];rfl,by rw [h];rfl,by rw [h];rfl,by rw [h];rfl,by rw [h];rfl,by rw [h];rfl,by rw [h];rfl,by rw [h];rfl,by rw [h];rfl,by rw [h];rfl⟩
abbrev plNew (g:Ag) (gp gn ge gr:Nat):Pl:=⟨some ⟨gp,0,none⟩,g.P.length,some ⟨gn,0,none⟩,g.N.length,some ⟨ge,0,none⟩,g.E.length,some ⟨gr,0,none⟩,g.R.length⟩
structure AgOwn (w:World) (B:Nat) (g:Ag) (p:Pl):Prop where
 P:w.ownsRow B 199 2 (.slice p.pa g.P.length p.pc) g.P.length (fl QaL g.P)
 N:w.ownsRow B 199 2 (.slice p.na g.N.length p.nc) g.N.length (fl QaL g.N)
 E:w.ownsRow B 26 1 (.slice p.ea g.E.length p.ec) g.E.length (g.E.map (Value.int .u64))
 R:w.ownsRow B 2 1 (.slice p.ra g.R.length p.rc) g.R.length (g.R.map (Value.int .i64))
end Go.Proofs.YtandnmpllheniaaGreatDoor
