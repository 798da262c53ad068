/-
 Parts.
-/
import Derived.Test.YtioohanfodmddaaGreatDoorCJE
import Derived.Test.YtioohanfodmddaaGreatDoorCJK
import Derived.Laws.IdiomCopy
import Derived.Deep.DeepCutAuto
set_option linter.all false
namespace Go.Proofs.YtioohanfodmddaaGreatDoor
open Go.ChangeShapes Go.WideShapes Go.ChangeAt Go.RowKit Go.PlainAid Go.Lib Tryz
set_option maxRecDepth 10000
structure Ce where
  n:Int
  s:ByteArray
  g:Ag
  p:Pl
abbrev Qao (c:Ce):Array Value:=#[.int .i64 c.n,.string c.s,.int .i64 c.g.k,.int .u64 c.g.s,.int .i64 c.g.h,.int .u64 c.g.l,.int .i64 c.g.a,.int .i64 c.g.t,.int .u64 c.g.z,.slice c.p.pa c.g.P.length c.p.pc,.slice c.p.na c.g.N.length c.p.nc,.int .i64 c.g.x,.int .u64 c.g.y,.slice c.p.ea c.g.E.length c.p.ec,.slice c.p.ra c.g.R.length c.p.rc]
def Ce.key (c:Ce):Int×ByteArray×Ag:=(c.n,c.s,c.g)
abbrev QbO (w:World) (b o:Nat) (c:Ce):Prop:=w.cell? ⟨b,o,none⟩=some (.int .i64 c.n)/\w.cell? ⟨b,o+1,none⟩=some (.string c.s)/\w.cell? ⟨b,o+2,none⟩=some (.int .i64 c.g.k)/\w.cell? ⟨b,o+3,none⟩=some (.int .u64 c.g.s)/\w.cell? ⟨b,o+4,none⟩=some (.int .i64 c.g.h)/\w.cell? ⟨b,o+5,none⟩=some (.int .u64 c.g.l)/\w.cell? ⟨b,o+6,none⟩=some (.int .i64 c.g.a)/\w.cell? ⟨b,o+7,none⟩=some (.int .i64 c.g.t)/\w.cell? ⟨b,o+8,none⟩=some (.int .u64 c.g.z)/\w.cell? ⟨b,o+9,none⟩=some (.slice c.p.pa c.g.P.length c.p.pc)/\w.cell? ⟨b,o+10,none⟩=some (.slice c.p.na c.g.N.length c.p.nc)/\w.cell? ⟨b,o+11,none⟩=some (.int .i64 c.g.x)/\w.cell? ⟨b,o+12,none⟩=some (.int .u64 c.g.y)/\w.cell? ⟨b,o+13,none⟩=some (.slice c.p.ea c.g.E.length c.p.ec)/\w.cell? ⟨b,o+14,none⟩=some (.slice c.p.ra c.g.R.length c.p.rc)
variable {w w':World}
variable {b o:Nat}
variable {c d:Ce}
theorem Qaq (k:QbO w b o c) (hb:Bw w w'):QbO w' b o c:=by
  obtain ⟨x0,x1,x2,x3,x4,x5,x6,x7,x8,x9,ae,ab,aa,ad,ac⟩:=k;exact ⟨Qab hb x0,Qab hb x1,Qab hb x2,Qab hb x3,Qab hb x4,Qab hb x5,Qab hb x6,Qab hb x7,Qab hb x8,Qab hb x9,Qab hb ae,Qab hb ab,Qab hb aa,Qab hb ad,Qab hb ac⟩
variable {T:TypeId}
theorem Qvu {cur:Array Value} (h:w.heap[b]?=some (.cells cur T (0,0))) (hc:∀ j v,(Qao c)[j]?=some v->cur[o+j]?=some v):QbO w b o c:=by
  have q:∀ j v,(Qao c)[j]?=some v->w.cell? ⟨b,o+j,none⟩=some v:=fun j v e=>by rw [cell_of_row _ _ _ _ _ (0,0) h];exact hc j v e
  exact ⟨q 0 _ rfl,q 1 _ rfl,q 2 _ rfl,q 3 _ rfl,q 4 _ rfl,q 5 _ rfl,q 6 _ rfl,q 7 _ rfl,q 8 _ rfl,q 9 _ rfl,q 10 _ rfl,q 11 _ rfl,q 12 _ rfl,q 13 _ rfl,q 14 _ rfl⟩
theorem QfC (w:World) (t:TypeId) (c:Ce):QbO (w.alloc (.cells (Qao c) t)) w.heap.size 0 c:=Qvu (heap_alloc_new w _) (fun j v e=>by rw [Nat.zero_add];exact e)
def QbG (w:World) (ao:Option Addr) (L:List Ce):Prop:=(0<L.length->∃ b off,ao=some ⟨b,off,none⟩/\∀ i c,L[i]?=some c->QbO w b (off+i*15) c)/\∀ c∈L,AgAt w c.g c.p
variable {L M:List Ce}
theorem QaL {ao:Option Addr} (h:QbG w ao L) (hb:Bw w w'):QbG w' ao L:=
  ⟨fun h0=>by
    obtain ⟨b,off,e,hc⟩:=h.1 h0;exact ⟨b,off,e,fun i c hx=>Qaq (hc i c hx) hb⟩,fun c hc=>QaD (h.2 c hc) hb⟩
structure CesLen (L:List Ce):Prop where
  len:L.length<=maxLen
  s:∀ c∈L,c.s.size<=maxLen
  g:∀ c∈L,AgLen c.g
abbrev Qbo:Array Value:=#[.int .i64 0,.string ⟨#[]⟩,.int .i64 0,.int .u64 0,.int .i64 0,.int .u64 0,.int .i64 0,.int .i64 0,.int .u64 0,.slice none 0 0,.slice none 0 0,.int .i64 0,.int .u64 0,.slice none 0 0,.slice none 0 0]
theorem QaG {r:Nat} {cs:Array Value} (h:w.heap[r]?=some (.cells cs T (0,0))) (j:Nat) {v:Value} (e:cs[j]?=some v):w.cell? ⟨r,j,none⟩=some v:=by rw [cell_of_row _ _ j _ _ (0,0) h];exact e
theorem QsA:(prog.info? 46).map (fun i=>(i.zero,i.size,i.bytes))=some (some (.agg Qbo),15,192):=oG
structure CeRow (w:World) (g N:Nat) (M:List Ce):Prop where
  row:∃ cur:Array Value,w.heap[g]?=some (.cells cur 46 (0,0))/\N*15<=cur.size/\∀ i c,M[i]?=some c->∀ j v,(Qao c)[j]?=some v->cur[i*15+j]?=some v
  own:∀ c∈M,AgOwn w (g+1) c.g c.p
theorem QtE (w:World) (t:TypeId) (c d:Ce) (W:World) (hb:Below ((w.alloc (.cells (Qao c) t)).alloc (.cells (Qao d) t)).heap.size ((w.alloc (.cells (Qao c) t)).alloc (.cells (Qao d) t)) W):QbO W w.heap.size 0 c/\QbO W (w.heap.size+1) 0 d:=by
  refine ⟨Qaq (Qaq (QfC w t c) bAA) hb,?_⟩;have:=QfC (w.alloc (.cells (Qao c) t)) t d;exact Qaq (by simpa using this) hb
theorem Qh0 (h:c.key=d.key):∃ q,d=⟨c.n,c.s,c.g,q⟩:=by
  obtain ⟨n,s,g,p⟩:=c;obtain ⟨n',s',g',p'⟩:=d;simp only [Ce.key,Prod.mk.injEq] at h;obtain ⟨rfl,rfl,rfl⟩:=h;exact ⟨p',rfl⟩
def QeT (c d:Ce):Bool:=((c.n == d.n) && (c.s.toList == d.s.toList)) && QaI c.g d.g
def QbV:List Ce->List Ce->Bool
  | [],[]=>true
  | c :: L,d :: M=>QeT c d && QbV L M
  | _,_=>false
theorem Ql3 {k:Nat} (hc:L[k]?=some c) (hd:M[k]?=some d):QbV (L.drop k) (M.drop k)=(QeT c d && QbV (L.drop (k+1)) (M.drop (k+1))):=by
  have h1:=(ZZd.1 hc).1;have h2:=(ZZd.1 hd).1;rw [List.drop_eq_getElem_cons h1,List.drop_eq_getElem_cons h2,(List.getElem?_eq_some_iff.1 hc).2,(List.getElem?_eq_some_iff.1 hd).2]
  rfl
theorem Qic:∀ {L M:List Ce},¬ L.length=M.length->QbV L M=false
  | [],[],h=>absurd rfl h
  | [],d :: M,_=>rfl
  | c :: L,[],_=>rfl
  | c :: L,d :: M,h=>by
    unfold QbV;rw [Qic oU];simp
def csB (L M:List Ce):Bool:=decide (L.length<=400) && decide (M.length<=400) && QbV L M
theorem QqV {c' d':Ce} (h:c.key=c'.key) (k:d.key=d'.key):QeT c d=QeT c' d':=by
  obtain ⟨q,rfl⟩:=Qh0 h;obtain ⟨q',rfl⟩:=Qh0 k
  rfl
theorem QhO:∀ {L M L' M':List Ce},L.map Ce.key=L'.map Ce.key->M.map Ce.key=M'.map Ce.key->QbV L M=QbV L' M'
  | [],[],[],[],_,_=>rfl
  | [],d :: M,[],d' :: M',_,_=>rfl
  | c :: L,[],c' :: L',[],_,_=>rfl
  | c :: L,d :: M,c' :: L',d' :: M',h,k=>by
    simp only [List.map_cons,List.cons.injEq] at h k;unfold QbV;rw [QqV h.1 k.1,QhO h.2 k.2]
  | [],_,_ :: _,_,h,_=>by simp at h
  | _ :: _,_,[],_,h,_=>by simp at h
  | _,[],_,_ :: _,_,k=>by simp at k
  | _,_ :: _,_,[],_,k=>by simp at k
theorem Qup {L' M':List Ce} (h:L.map Ce.key=L'.map Ce.key) (k:M.map Ce.key=M'.map Ce.key):csB L M=csB L' M':=by
  have e1:L.length=L'.length:=by have:=congrArg List.length h;simpa using this
  have e2:M.length=M'.length:=by have:=congrArg List.length k;simpa using this
  unfold csB;rw [e1,e2,QhO h k]
theorem Qlv (c:Ce) (w:World):Calls prog 106 #[.agg (Qao c)] w fun e w'=>e=.returned (.agg #[.int .i64 c.n,.string c.s])/\Bw w w':=by
  go_enter func106,ntmps106;go_wp2;refine bodyPost_ret (v:=.agg #[.int .i64 c.n,.string c.s]) (by simp [results,results106,go_sem]) rfl ⟨rfl,?_⟩
  first
    | exact ((Below.refl _ _).alloc (Nat.le_refl _) _).alloc oE _
    | (repeat (refine Below.setCell ?_ oE _)
       exact ((Below.refl _ _).alloc (Nat.le_refl _) _).alloc oE _)
end Go.Proofs.YtioohanfodmddaaGreatDoor
