/-
 Parts.
-/
import Derived.Test.YtdbaabbmcfnjbaaGreatDoorDET
import Derived.Test.YtdbaabbmcfnjbaaGreatDoorDEL
set_option maxHeartbeats 8000000
set_option linter.all false
namespace Go.Proofs.YtdbaabbmcfnjbaaGreatDoor
open Go.ChangeShapes Go.WideShapes Go.ChangeAt Go.RowKit Go.PlainAid Go.Lib Go.Maps Tryz
set_option maxRecDepth 10000
abbrev QeR (v:Value) (p:Pi) (u:Value) (d t:Int):Array Value:=#[v,.int .i64 p.a,.int .i64 p.b,.int .i64 p.c,.int .i64 p.d,u,.int .i64 d,.int .i64 t]
structure TpI (P:List Hv) (d t:Int):Prop where
 l:P.length<=5
 m:∀ x∈P,x.1.size<=100/\0<=x.2/\x.2<=2000000000000000
 d:0<=d/\d<=4000000000000000
 t:0<=t/\t<=4000000000000000
theorem TpI.nil:TpI [] 0 0:=⟨by simp,by simp,by omega,by omega⟩
variable {P:List Hv}
variable {d k kd t:Int}
theorem TpI.hv (h:TpI P d t):∀ x∈P,HvOk x:=fun x hx=>by
 have:=h.m x hx;exact ⟨by omega,by unfold I64;omega⟩
theorem Qr7 {t:Int}:∀ {L:List Hv} {p:Option ByteArray} {n:Int},itB t p n L=true->∀ x∈L,x.1.size<=100/\1<=x.2/\x.2<=1000000000000000
 | [],_,_,_,x,hx=>by cases hx
 | y :: r,p,n,h,x,hx=>by
  simp only [itB,Bool.and_eq_true,decide_eq_true_eq] at h;rcases List.mem_cons.1 hx with rfl | hx
  ·have:=h.1.1.1.1
   unfold Qgy at this;simp only [Bool.and_eq_true,decide_eq_true_eq] at this;exact ⟨this.2,h.1.1.2,h.1.2⟩
  ·exact Qr7 h.2 x hx
theorem QnS {x:Hv} (h1:x.1.size<=100) (h2:1<=x.2/\x.2<=1000000):∀ {L:List Hv},(∀ z∈L,z.1.size<=100/\1<=z.2/\z.2<=1000000000000000)->∀ y∈Qay L x,y.1.size<=100/\1<=y.2/\y.2<=1000001000000000
 | [],_,y,hy=>by
  simp only [Qay,List.mem_singleton] at hy;subst hy;omega
 | z :: r,h,y,hy=>by
  have hz:=h z (by simp);have hr:∀ z∈r,z.1.size<=100/\1<=z.2/\z.2<=1000000000000000:=fun u hu=>h u (by simp [hu]);unfold Qay at hy
  split at hy
  ·rcases List.mem_cons.1 hy with rfl | hy
   ·omega
   ·exact QnS h1 h2 hr y hy
  ·split at hy
   ·rcases List.mem_cons.1 hy with rfl | hy
    ·exact ⟨hz.1,by show 1<=z.2+x.2;omega,by show z.2+x.2<=_;omega⟩
    ·have:=hr y hy;omega
   ·rcases List.mem_cons.1 hy with rfl | hy
    ·omega
    ·have:=h y hy;omega
theorem Qhr (d:Int):∀ L:List Hv,(QaM L d).length=(QeF L).countP (fun x=>decide (d<x))
 | []=>rfl
 | x :: r=>by
  have h:=Qhr d r;rw [QcF];unfold QeF at h ⊢;rw [List.map_cons,List.countP_cons];by_cases q:d<x.2
  ·rw [if_pos q,List.length_cons,h,if_pos (by simpa using q)]
  ·rw [if_neg q,h,if_neg (by simpa using q)];rfl
theorem TpI.put {wt d':Int} {key:ByteArray} (h:QpR P d t key wt) (hd:Qgn (Qay P (key,wt)) d'):TpI (QaM (Qay P (key,wt)) d') (d+d') (t+wt):=by
 obtain ⟨ht,hk,w1,w2,tw⟩:=h;unfold Qcm at ht;simp only [Bool.and_eq_true,decide_eq_true_eq] at ht;unfold Qgy at hk;simp only [Bool.and_eq_true,decide_eq_true_eq] at hk;have hm:=QnS (x:=(key,wt)) hk.2 ⟨w1,w2⟩ (Qr7 ht.2);have h0:=QqA ht.2
 have aa:0<=d'/\d'<=1000001000000000:=by
  rcases hd with ⟨_,rfl⟩ | ⟨_,_,x,hx,rfl⟩
  ·omega
  ·have:=hm x hx;omega
 refine ⟨?_,fun x hx=>?_,by omega,by omega⟩
 ·rcases hd with ⟨hl,_⟩ | ⟨_,hp,_⟩
  ·have h:=Qhr d' (Qay P (key,wt))
   have h2:=List.countP_le_length (p:=fun x=>decide (d'<x)) (l:=QeF (Qay P (key,wt)));unfold QeF at h h2;rw [List.length_map] at h2;omega
  ·rw [Qhr];exact hp.1
 ·unfold QaM at hx
  obtain ⟨y,hy,e⟩:=List.mem_filterMap.1 hx;have:=hm y hy
  split at e
  ·injection e with e
   subst e;exact ⟨this.1,by show 0<=y.2 - d'; omega,by show y.2 - d'<=_;omega⟩
  ·cases e
variable {W2 w wr:World}
variable {A b cp n r:Nat}
variable {T:TypeId}
theorem Qmm {a b c d e f g h:Value} (H:w.heap[r]?=some (.cells #[a,b,c,d,e,f,g,h] T (0,0))):(w.cell? ⟨r,0,none⟩=some a/\w.cell? ⟨r,1,none⟩=some b/\w.cell? ⟨r,2,none⟩=some c/\w.cell? ⟨r,3,none⟩=some d)/\w.cell? ⟨r,4,none⟩=some e/\w.cell? ⟨r,5,none⟩=some f/\w.cell? ⟨r,6,none⟩=some g/\w.cell? ⟨r,7,none⟩=some h:=
 ⟨⟨QaO H 0 rfl,QaO H 1 rfl,QaO H 2 rfl,QaO H 3 rfl⟩,QaO H 4 rfl,QaO H 5 rfl,QaO H 6 rfl,QaO H 7 rfl⟩
theorem grB {w':World} (hb:Below w.heap.size w w') (r:Option Nat):w.grownBy w' r:=⟨hb.os,hb.tape,hb.output,hb.size,fun j hj _=>hb.block j hj⟩
theorem row8P {u0 u1 u2 u3 u4 u5 u6 u7:Value} (h:w.heap[r]?=some (.cells #[u0,u1,u2,u3,u4,u5,u6,u7] T (0,0))) (v0 v1 v2 v3 v4:Value) :
  (((((w.setCell ⟨r,0,none⟩ v0).setCell ⟨r,1,none⟩ v1).setCell ⟨r,2,none⟩ v2).setCell ⟨r,3,none⟩ v3).setCell ⟨r,4,none⟩ v4).heap[r]?=some (.cells #[v0,v1,v2,v3,v4,u5,u6,u7] T (0,0)):=
 ZZl _ r 4 _ _ v4 (ZZl _ r 3 _ _ v3 (ZZl _ r 2 _ _ v2 (ZZl _ r 1 _ _ v1 (ZZl _ r 0 _ _ v0 h))))
theorem Qj9 (W:World) (G:Nat) (a b c d e:Value):W.grownBy (((((W.setCell ⟨G,0,none⟩ a).setCell ⟨G,1,none⟩ b).setCell ⟨G,2,none⟩ c).setCell ⟨G,3,none⟩ d).setCell ⟨G,4,none⟩ e) (some G):=
 ((((Qal W G 0 a).trans (Qal _ G 1 b)).trans (Qal _ G 2 c)).trans (Qal _ G 3 d)).trans (Qal _ G 4 e)
def TdA (w:World) (b:Nat) (v:Value) (p:Pi) (u v':Value) (q:Pi) (d t cd:Int) (e:Ending) (w':World):Prop:=
 TxA 200 e/\w.grownBy w' (some b)/\((cd=0/\w'.heap[b]?=some (.cells (QeR v' q u d t) 41 (0,0)))∨(cd≠0/\w'.heap[b]?=some (.cells (QeR v p u d t) 41 (0,0))))
variable {word:ByteArray}
theorem QlZ {u:ByteArray} (h1:word.size<=100) (h2:u.size<=40):(word ++ (⟨#[32]⟩:ByteArray) ++ u).size<=200:=by
 rw [ByteArray.size_append,ByteArray.size_append]
 show word.size+1+u.size<=_
 omega
variable {u:Value}
variable {ax:Option Addr}
variable {p:Pi}
theorem Qi7 {v u':Value} {q:Pi} {cd:Int} (hr:w.heap[b]?=some (.cells (QeR v p u d t) 41 (0,0))) (hw:word.size<=100) (h0:0<=cd) (h1:cd<=9223372036854775807) :
  Calls prog 24 #[.pointer (some ⟨b,0,none⟩),.string word,.agg (QaI (.slice ax n cp) q u' cd)] w fun e w'=>TdA w b v p u (.slice ax n cp) q d t cd e w':=by
 have af:(word ++ (⟨#[32]⟩:ByteArray)).size<=101:=by rw [ByteArray.size_append];show word.size+1<=_;omega
 have ag:Op.stringOp .add word ⟨#[32]⟩=pure (.string (word ++ ⟨#[32]⟩)):=Qaf (by show word.size+1<=_;omega);have a0:Below w.heap.size w (w.alloc (.cells (QaI (.slice ax n cp) q u' cd) 66)):=(ZZb _ _).alloc (ZZa _) _;have KB:=ZZk w (.cells (QaI (.slice ax n cp) q u' cd) 66);have KD:=Qae hr a0;obtain ⟨x0,x1,x2,x3,x4,x5,x6⟩:=Qd4 KB;obtain ⟨⟨y0,y1,y2,y3⟩,y4,y5,y6,y7⟩:=Qmm KD;obtain ⟨f0,f1,f2,f3,f4⟩:=fA5 KD;have ae:w.heap.size≠b:=by have:=(ZZc.1 hr).1;omega
 have HA:=Qaa a0;have ab:=Qaa KD;have HW:=Qaa hw;have HC:=Qaa (QfE h0 h1);clear a0 KB KD hr;by_cases hc:cd=0
 ·have ac:=Qaa hc
  subst hc;go_enter func24,ntmps24;go_wp2_with fail;refine (HC.out _).mono ?_;rintro e w1 ⟨⟨u1,rfl,aa⟩,hb⟩;have HB:=Qaa hb;have HR:Hid (w1.heap[b]?=some (.cells (QeR (.slice ax n cp) q u d t) 41 (0,0))):=Qae (row8P ab _ _ _ _ _) hb;have ad:Op.stringOp .add (word ++ (⟨#[32]⟩:ByteArray)) u1=pure (.string (word ++ ⟨#[32]⟩ ++ u1)):=Qaf (by omega);have HT:=Qaa (QlZ HW aa);clear hb f0 f1 f2 f3 f4 x0 x1 x2 x3 x4 x5 x6 y0 y1 y2 y3 y4 y5 y6 y7;go_wp2;go_ret;exact ⟨⟨_,rfl,HT⟩,((grB HA _).trans (Qj9 _ b _ _ _ _ _)).trans (grB HB _),.inl ⟨rfl,HR⟩⟩
 ·have ac:=Qaa hc
  go_enter func24,ntmps24;go_wp2_with fail;refine (HC.out _).mono ?_;rintro e w1 ⟨⟨u1,rfl,aa⟩,hb⟩;have HB:=Qaa hb;have HR:Hid (w1.heap[b]?=some (.cells (QeR v p u d t) 41 (0,0))):=Qae ab hb;have ad:Op.stringOp .add (word ++ (⟨#[32]⟩:ByteArray)) u1=pure (.string (word ++ ⟨#[32]⟩ ++ u1)):=Qaf (by omega);have HT:=Qaa (QlZ HW aa);clear hb f0 f1 f2 f3 f4 x0 x1 x2 x3 x4 x5 x6 y0 y1 y2 y3 y4 y5 y6 y7;go_wp2;go_ret;exact ⟨⟨_,rfl,HT⟩,(grB HA _).trans (grB HB _),.inr ⟨ac,HR⟩⟩
variable {M:List Sd}
theorem Quy (hp:QaZ M p=true) {s:Sd} (hs:s∈M) {d:Ce} (hd:d∈s.L):cRi d=true:=by
 have h:=Qcz (QaE hp).1 hs;unfold shB at h;exact (csR_iff.1 (Bool.and_eq_true_iff.1 h).2).2.1 d hd
abbrev Qkn (kd:Int):Ag:=⟨kd,0,0,0,0,0,0,[],[],0,0,[],[]⟩
theorem QuX (hk:kd=3∨kd=4):(QbT kd).k=kd/\(QbT kd).t=0/\agB (Qkn kd)=true/\AgOk (Qkn kd):=by
 rcases hk with rfl | rfl
 ·exact ⟨rfl,rfl,by decide,by constructor <;> simp [U64,I64]⟩
 ·exact ⟨rfl,rfl,by decide,by constructor <;> simp [U64,I64]⟩
structure OnI (W2 wr:World) (A:Nat) (kd:Int) (g:Ag) (q:Pl):Prop where
 row:wr.heap[A]?=some (.cells (Qan g q) 90 (0,0))
 gk:g.k=kd
 ok:AgOk g
 rt:agB g=true
 o:AgO wr (A+1) g q
 gr:W2.grownBy wr (some A)
theorem Qk0 (w:World) (r:Nat) (v0 v1 v2 v3 v4 v5 v6 v7 v8 v9 v10 v11 v12:Value):w.grownBy (((((((((((((w.setCell ⟨r,0,none⟩ v0).setCell ⟨r,1,none⟩ v1).setCell ⟨r,2,none⟩ v2).setCell ⟨r,3,none⟩ v3).setCell ⟨r,4,none⟩ v4).setCell ⟨r,5,none⟩ v5).setCell ⟨r,6,none⟩ v6).setCell ⟨r,7,none⟩ v7).setCell ⟨r,8,none⟩ v8).setCell ⟨r,9,none⟩ v9).setCell ⟨r,10,none⟩ v10).setCell ⟨r,11,none⟩ v11).setCell ⟨r,12,none⟩ v12) (some r):=by
 repeat (refine World.grownBy.trans ?_ (Qal _ r _ _))
 exact World.grownBy.refl _ _
theorem far13A {X:World} (h:Below w.heap.size w X) (hr:w.heap.size<=r) (v0 v1 v2 v3 v4 v5 v6 v7 v8 v9 v10 v11 v12:Value):Below w.heap.size w (((((((((((((X.setCell ⟨r,0,none⟩ v0).setCell ⟨r,1,none⟩ v1).setCell ⟨r,2,none⟩ v2).setCell ⟨r,3,none⟩ v3).setCell ⟨r,4,none⟩ v4).setCell ⟨r,5,none⟩ v5).setCell ⟨r,6,none⟩ v6).setCell ⟨r,7,none⟩ v7).setCell ⟨r,8,none⟩ v8).setCell ⟨r,9,none⟩ v9).setCell ⟨r,10,none⟩ v10).setCell ⟨r,11,none⟩ v11).setCell ⟨r,12,none⟩ v12):=by
 repeat (refine Below.setCell ?_ (by exact hr) _)
 exact h
theorem QsC {w2:World} (h:Below w.heap.size w w2) (g:w2.grownBy wr (some A)) (hA:w.heap.size<=A):Below w.heap.size w wr:=by
 have G:=(grB h (some A)).trans g;exact ⟨G.os,G.tape,G.output,G.size,fun j hj=>G.block j hj (fun e=>by injection e with e;omega)⟩
theorem AgO.nilG (w:World) (B:Nat) (kd:Int):AgO w B (Qkn kd) pl0:=AgO.nil w B rfl rfl rfl rfl
variable {g:Ag}
variable {q:Pl}
theorem OnI.ces {W1:World} {N nr:Nat} {ar:Option Addr} {R:List Ce} {k:Nat} (h:OnI W2 wr A kd g q) (hL:LaI W1 W2 M k (.slice ar N nr) R) (hA:A<W1.heap.size):Qcl wr ar R/\CesO wr W1.heap.size R:=by
 have ho:=hL.o.grown h.gr hA;have hr:OwnC wr W1.heap.size (.slice ar N nr) R:=hL.r.keptS (grS h.gr) (fun j e q=>by injection q with q;have:=(World.ownsRow.lt hL.r j e).1;omega);exact ⟨hr.at ho.at,ho⟩
theorem OnI.put {w6:World} {o:Ag} {q':Pl} (h:OnI W2 wr A kd g q) (hb:Below wr.heap.size wr w6) (ho:AgO w6 wr.heap.size o q') (hk:o.k=kd) (hok:AgOk o) (hrt:agB o=true) :
  OnI W2 (((((((((((((w6.setCell ⟨A,0,none⟩ (.int .i64 o.k)).setCell ⟨A,1,none⟩ (.int .u64 o.s)).setCell ⟨A,2,none⟩ (.int .i64 o.h)).setCell ⟨A,3,none⟩ (.int .u64 o.l)).setCell ⟨A,4,none⟩ (.int .i64 o.a)).setCell ⟨A,5,none⟩ (.int .i64 o.t)).setCell ⟨A,6,none⟩ (.int .u64 o.z)).setCell ⟨A,7,none⟩ (.slice q'.pa o.P.length q'.pc)).setCell ⟨A,8,none⟩ (.slice q'.na o.N.length q'.nc)).setCell ⟨A,9,none⟩ (.int .i64 o.x)).setCell ⟨A,10,none⟩ (.int .u64 o.y)).setCell ⟨A,11,none⟩ (.slice q'.ea o.E.length q'.ec)).setCell ⟨A,12,none⟩ (.slice q'.ra o.R.length q'.rc)) A kd o q':=by
 have hz:=(ZZc.1 h.row).1;have hg:=Qk0 w6 A (.int .i64 o.k) (.int .u64 o.s) (.int .i64 o.h) (.int .u64 o.l) (.int .i64 o.a) (.int .i64 o.t) (.int .u64 o.z) (.slice q'.pa o.P.length q'.pc) (.slice q'.na o.N.length q'.nc) (.int .i64 o.x) (.int .u64 o.y) (.slice q'.ea o.E.length q'.ec) (.slice q'.ra o.R.length q'.rc);exact ⟨Qny (Qae h.row hb),hk,hok,hrt,(ho.keptS (grS hg) (fun j e q=>by injection q with q;have:=(ho.lt e).1;omega)).le (by omega),(h.gr.trans (grB hb _)).trans hg⟩
def OneA (w:World) (kd:Int) (e:Ending) (w':World):Prop:=∃ g q ok,e=.returned (.tuple #[.agg (Qan g q),.bool ok])/\g.k=kd/\AgOk g/\agB g=true/\AgAt w' g q/\Below w.heap.size w w'
theorem Qsv {se:ByteArray} (hrow:w.heap[b]?=some (.cells (QeR (.slice ax n cp) p u d t) 41 (0,0))) (hI:PpI w ax n M) (hp:QaZ M p=true) (hk:kd=3∨kd=4) :
  Calls prog 33 #[.pointer (some ⟨b,0,none⟩),.string se,.int .i64 kd] w fun e w'=>OneA w kd e w':=by
 have al:∀ (X:World) o,Below X.heap.size X (X.alloc o):=fun X o=>(ZZb _ _).alloc (ZZa _) _;have HG:=Qaa (QuX hk);have HI:=Qaa hI;have HP:=Qaa hp;have HR:=Qaa hrow;clear hrow hI hp;go_enter func33,ntmps33;go_wp2_with fail;refine (Qha kd _).mono ?_;rintro e w1 ⟨rfl,hb⟩;rw [HG.out.1,HG.out.2.1];have T1:Hid (Below w.heap.size w w1):=Qac (al w (.cells (Qan (Qkn 0) pl0) 90)) hb;have au:=Qaa hb;clear hb;have q1:=ZZk w1 (.cells (Qan (Qkn 0) pl0) 90);have f0:=fun j=>frozen_of_row _ w1.heap.size j _ _ q1;go_upto_region 2 with fail;have T2:Hid (Below w.heap.size w (w1.alloc (.cells (Qan (Qkn kd) pl0) 90))):=Qac T1 (al w1 _);have KA:=Qaa (ZZk w1 (.cells (Qan (Qkn kd) pl0) 90));have KB:Hid ((w1.alloc (.cells (Qan (Qkn kd) pl0) 90)).heap[w.heap.size]?=some (.cells (Qan (Qkn 0) pl0) 90 (0,0))):=Qae (Qae (ZZk w (.cells (Qan (Qkn 0) pl0) 90)) au) (al w1 _);have am:Hid (w.heap.size<w1.heap.size):=by have:=au.out.size;simp only [World.size_alloc] at this;exact this
 have aq:=Qaa (Qae HR T2);have ae:=Qaa (HI.out.past T2)
 change Code.wp _ _ _ _ (w1.alloc (.cells (Qan (Qkn kd) pl0) 90))
 generalize w1.alloc (.cells (Qan (Qkn kd) pl0) 90)=W1 at T2 KA KB aq ae ⊢;generalize w1.heap.size=A at KA am ⊢;clear q1 f0 T1 au;obtain ⟨⟨y0,y1,y2,y3⟩,y4,y5,y6,y7⟩:=Qmm aq;go_wp2_with fail;refine (Qfv p ae.out.n (ae.out.qs HP) ae.out.at').mono ?_;rintro e w2 ⟨v,R,rfl,hL⟩;obtain ⟨ar,nr,rfl⟩:=Qag hL.r;have hA:A<W1.heap.size:=(ZZc.1 KA).1;have HA:=Qaa hA;have HL:=Qaa hL
 have HQ:Hid (∀ c∈R,agB c.g=true/\AgOk c.g):=fun c hc=>by
  obtain ⟨s,hs,d',hd,_,_,eg⟩:=hL.mem hc;rw [<- eg];exact ⟨Qi3 (Quy HP hs hd),(ae.out.ok s hs d' hd).1⟩
 have HO:Hid (OnI w2 w2 A kd (Qkn kd) pl0):=⟨Qae KA hL.b,rfl,HG.out.2.2.2,HG.out.2.2.1,AgO.nilG _ _ _,World.grownBy.refl _ _⟩;have T3:Hid (Below w.heap.size w w2):=Qac T2 hL.b;have aK:R.length<=720:=hL.len (ae.out.qs HP);have aF:=Qaa (Qae KB hL.b);have aH:w.heap.size≠A:=by have:=am.out;omega
 have aG:w.heap.size<=A:=by have:=am.out;omega
 have aP:=Qaa aH;have aA:=Qaa aG;clear hL y0 y1 y2 y3 y4 y5 y6 y7 KB KA hA T2 aq ae HR HI aH aG am al;go_wp2
 go_loopw [10,11] (fun fl i wr=>∃ (g:Ag) (q:Pl) (k:Nat) (o:Bool),k<=R.length/\i=.int .i64 k/\fl=.bool o/\Hid (OnI w2 wr A kd g q)) (fun fl i wr=>R.length - (Go.RowKit.intOf i).toNat)
 case atStart=>exact ⟨Qkn kd,pl0,0,false,ZZj _,rfl,rfl,HO⟩
 case round=>
  obtain ⟨g,q,k,o,a0,rfl,rfl,HS⟩:=hrel;by_cases aR:k<R.length
  ·have aQ:(k:Int)<(R.length:Int):=by omega
   obtain ⟨c,hc⟩:∃ c,R[k]?=some c:=⟨R[k],ZZe aR⟩;have ay:=HS.out.ces HL HA;have ah:=Qaa (ZZn hc);have aN:=Qaa ay.2;obtain ⟨b',av,rfl,ad⟩:=ay.1.1 (by omega);obtain ⟨z0,z1,z2,z3,z4,z5,z6,z7,z8,z9,aj,ai,ag,z13,af⟩:=ad k c hc;have aW:IntKind.i64.wrap ((k:Int)+1)=(k:Int)+1:=ZZi _ ⟨by omega,by omega⟩;clear hc ay ad
   cases qs:(c.s.toList == se.toList) with
   | false=>
    go_wp2;go_roundw
    case rel=>exact ⟨g,q,k+1,o,by omega,by go_num,rfl,HS⟩
    case measure=>simp [zI];omega
   | true=>
    cases qk:(c.g.k == kd) with
    | false=>
     go_wp2;go_roundw
     case rel=>exact ⟨g,q,k+1,o,by omega,by go_num,rfl,HS⟩
     case measure=>simp [zI];omega
    | true=>
     have aC:Hid (g.k=c.g.k):=by have h:=beq_iff_eq.1 qk;rw [h];exact HS.out.gk
     have aZ:=Qaa HS.out.gk;go_upto_region 8 with fail;have HZ:=Qaa (And.intro z2 (And.intro z3 (And.intro z4 (And.intro z5 (And.intro z6 (And.intro z7 (And.intro z8 (And.intro z9 (And.intro aj (And.intro ai (And.intro ag (And.intro z13 af))))))))))));clear z2 z3 z4 z5 z6 z7 z8 z9 aj ai ag z13 af;have aa:Hid (Below wr.heap.size wr wr.drew):=(ZZb _ _).drew;clear z0 z1;refine Qao (fun W=>Below wr.heap.size wr W) 7 (by kernel_rfl) ?_;generalize wr.drew=X0 at aa ⊢;refine tkL 0 (.agg (Qan g q)) aa (fun W hW=>?_) ?_
     ·have qr:=Qae HS.out.row hW
      have q0:=Qai qr 0 rfl;have q1:=Qai qr 1 rfl;have q2:=Qai qr 2 rfl;have q3:=Qai qr 3 rfl;have q4:=Qai qr 4 rfl;have q5:=Qai qr 5 rfl;have q6:=Qai qr 6 rfl;have q7:=Qai qr 7 rfl;have q8:=Qai qr 8 rfl;have q9:=Qai qr 9 rfl;have ap:=Qai qr 10 rfl;have an:=Qai qr 11 rfl;have ak:=Qai qr 12 rfl;clear qr;clear hW;go_simp
     refine tkL 1 (.slice (some ⟨b',av,none⟩) R.length nr) aa (fun W hW=>?_) ?_
     ·clear aa
      clear hW;go_simp
     refine tkL 2 (.int .i64 k) aa (fun W hW=>?_) ?_
     ·clear aa
      clear hW;go_simp
     simp only [sX];refine tkL 3 (.pointer (some (⟨b',av+k*15,none⟩:Addr))) aa (fun W hW=>?_) ?_
     ·clear aa
      clear hW;go_simp
     refine tkL 4 (.pointer (some (⟨b',av+k*15+2,none⟩:Addr))) aa (fun W hW=>?_) ?_
     ·clear aa
      clear hW;go_simp
     refine tkL 5 (.agg (Qan c.g c.p)) aa (fun W hW=>?_) ?_
     ·obtain ⟨z2,z3,z4,z5,z6,z7,z8,z9,aj,ai,ag,z13,af⟩:=HZ.out
      have q2:=Qab hW z2;have q3:=Qab hW z3;have q4:=Qab hW z4;have q5:=Qab hW z5;have q6:=Qab hW z6;have q7:=Qab hW z7;have q8:=Qab hW z8;have q9:=Qab hW z9;have ap:=Qab hW aj;have an:=Qab hW ai;have ak:=Qab hW ag;have aV:=Qab hW z13;have aX:=Qab hW af;clear z2 z3 z4 z5 z6 z7 z8 z9 aj ai ag z13 af;clear hW;go_simp
     simp only [sX];refine onE 6 fun K hK=>?_;go_simp;refine (Qqf ⟨HS.out.rt,(HQ.out c ah).1,aC⟩ HS.out.ok (HQ.out c ah).2 (Qbj HS.out.o.at aa) (Qbj (aN.out.at c ah) aa) HS.out.o.plgP.cE).mono ?_;rintro e w6 ⟨v,o',rfl,aJ,⟨q',rfl,ho⟩,aD⟩;have aw:Hid (Below wr.heap.size wr w6):=Qac aa aD;have ao:=Qiy ⟨HS.out.rt,(HQ.out c ah).1,aC⟩ HS.out.ok (HQ.out c ah).2 aJ;have HN:=Qaa (HS.out.put aw (ho.le aa.out.size) (ao.2.2.trans HS.out.gk) ao.2.1 ao.1);have ac:=Qaa (Qae HS.out.row aw);clear aJ ho aD ao
     try dsimp only
     refine gK hK aw.out ?_
     try simp only [sX]
     have q0:=Qai ac 0 rfl;have q1:=Qai ac 1 rfl;have q2:=Qai ac 2 rfl;have q3:=Qai ac 3 rfl;have q4:=Qai ac 4 rfl;have q5:=Qai ac 5 rfl;have q6:=Qai ac 6 rfl;have q7:=Qai ac 7 rfl;have q8:=Qai ac 8 rfl;have q9:=Qai ac 9 rfl;have ap:=Qai ac 10 rfl;have an:=Qai ac 11 rfl;have ak:=Qai ac 12 rfl;obtain ⟨f0,f1,f2,f3,f4,f5,f6,f7,f8,f9,aI,az,aE⟩:=QeL ac;refine onE 7 fun K hK=>?_;go_simp;clear q0 f0 q1 f1 q2 f2 q3 f3 q4 f4 q5 f5 q6 f6 q7 f7 q8 f8 q9 f9 ap aI an az ak aE;refine hK.out _ _ (fun h=>absurd rfl h) ?_
     try simp only [sX]
     refine dnE ?_ _;go_wp2;go_roundw
     case rel=>exact ⟨o',q',k+1,true,by omega,by go_num,rfl,HN⟩
     case measure=>simp [zI];omega
  ·have aQ:¬ (k:Int)<(R.length:Int):=by omega
   have ab:Hid (wr.heap[w.heap.size]?=some (.cells (Qan (Qkn 0) pl0) 90 (0,0))):=(HS.out.gr.block _ (ZZc.1 aF).1 (fun e=>by injection e with e;exact aP.out e)).trans aF;have q0:=Qai HS.out.row 0 rfl;have q1:=Qai HS.out.row 1 rfl;have q2:=Qai HS.out.row 2 rfl;have q3:=Qai HS.out.row 3 rfl;have q4:=Qai HS.out.row 4 rfl;have q5:=Qai HS.out.row 5 rfl;have q6:=Qai HS.out.row 6 rfl;have q7:=Qai HS.out.row 7 rfl;have q8:=Qai HS.out.row 8 rfl;have q9:=Qai HS.out.row 9 rfl;have ap:=Qai HS.out.row 10 rfl;have an:=Qai HS.out.row 11 rfl;have ak:=Qai HS.out.row 12 rfl;have s0:=Qai ab 0 rfl;have s1:=Qai ab 1 rfl;have s2:=Qai ab 2 rfl;have s3:=Qai ab 3 rfl;have s4:=Qai ab 4 rfl;have s5:=Qai ab 5 rfl;have s6:=Qai ab 6 rfl;have s7:=Qai ab 7 rfl;have s8:=Qai ab 8 rfl;have s9:=Qai ab 9 rfl;have aY:=Qai ab 10 rfl;have aU:=Qai ab 11 rfl;have aT:=Qai ab 12 rfl;obtain ⟨f0,f1,f2,f3,f4,f5,f6,f7,f8,f9,aI,az,aE⟩:=QeL ab;have aB:Hid (AgO wr (A+1) g q):=HS.out.o;have aL:Hid (Below w.heap.size w wr):=QsC T3 HS.out.gr aA;go_wp2;have FR:=Qny (v0:=.int .i64 g.k) (v1:=.int .u64 g.s) (v2:=.int .i64 g.h) (v3:=.int .u64 g.l) (v4:=.int .i64 g.a) (v5:=.int .i64 g.t) (v6:=.int .u64 g.z) (v7:=.slice q.pa g.P.length q.pc) (v8:=.slice q.na g.N.length q.nc) (v9:=.int .i64 g.x) (v10:=.int .u64 g.y) (v11:=.slice q.ea g.E.length q.ec) (v12:=.slice q.ra g.R.length q.rc) ab;have y0:=Qai FR 0 rfl;have y1:=Qai FR 1 rfl;have y2:=Qai FR 2 rfl;have y3:=Qai FR 3 rfl;have y4:=Qai FR 4 rfl;have y5:=Qai FR 5 rfl;have y6:=Qai FR 6 rfl;have y7:=Qai FR 7 rfl;have y8:=Qai FR 8 rfl;have y9:=Qai FR 9 rfl;have aS:=Qai FR 10 rfl;have aM:=Qai FR 11 rfl;have aO:=Qai FR 12 rfl;refine bodyPost_ret (v:=.tuple #[.agg (Qan g q),.bool o]) (by simp [results,results33,go_sem,y0,y1,y2,y3,y4,y5,y6,y7,y8,y9,aS,aM,aO]) rfl ?_;refine ⟨g,q,o,rfl,HS.out.gk,HS.out.ok,HS.out.rt,(aB.out.keptS (grS (Qk0 wr w.heap.size _ _ _ _ _ _ _ _ _ _ _ _ _)) (fun j e q=>by injection q with q;have:=(aB.out.lt e).1;have:=aA.out;omega)).at,far13A aL (ZZa _) _ _ _ _ _ _ _ _ _ _ _ _ _⟩
theorem GdK.zero (g:GdK 1 (M.map Sd.key)) (hp:QaZ M p=true):GdK 0 (M.map Sd.key):=by
 refine ⟨g.1,fun x hx=>?_⟩;obtain ⟨h1,_,h3⟩:=g.2 x hx;refine ⟨h1,?_,h3⟩;obtain ⟨s,hs,rfl⟩:=List.mem_map.1 hx;have h:=Qcz (QaE hp).1 hs;unfold shB at h;have:=(csR_iff.1 (Bool.and_eq_true_iff.1 h).2).1
 show ((((s.L.map Ce.key).length:Nat)):Int)<=300+0
 rw [List.length_map];omega
theorem Qs8 {S T:List Sd} (h:QaZ S p=true) (e:T.map Sd.key=S.map Sd.key) (h0:0<=k) (h1:k<=1000000000 - p.c):QaZ T ⟨p.a,p.b,p.c+k,p.d⟩=true:=by
 obtain ⟨a1,a2,b1,b2,c1,c2,d1,d2⟩:=Qcj h;rw [Qep e];unfold QaZ at h ⊢;rw [Bool.and_eq_true] at h ⊢;refine ⟨?_,h.2⟩;unfold Qlv inB;simp only [Bool.and_eq_true,decide_eq_true_eq];omega
structure DkR (B:Nat) (w:World) (b:Nat) (ax:Option Addr) (n cp:Nat) (p:Pi) (M:List Sd) (pa:Option Addr) (pn pc:Nat) (P:List Hv) (d t:Int):Prop where
 row:w.heap[b]?=some (.cells (QeR (.slice ax n cp) p (.slice pa pn pc) d t) 41 (0,0))
 lb:B<=b
 r:OwnD w B (.slice ax n cp) M
 o:LvO w B M
 nb:∀ j,QpU (.slice ax n cp) M j->j≠b
 gd:GdK 0 (M.map Sd.key)
 ok:QaZ M p=true
 h:OwnH w B (.slice pa pn pc) P
 tp:TpI P d t
def DkS (B:Nat) (w:World) (b:Nat):Prop:=∃ ax n cp p M pa pn pc P d t,DkR B w b ax n cp p M pa pn pc P d t
section
variable {B b n cp pn pc n' cp' pn' pc' B2:Nat} {w w':World} {ax pa ax' pa':Option Addr} {p q:Pi} {M M':List Sd} {P P':List Hv} {d t d' t' cd:Int} {e:Ending} {u:Value}
theorem DkR.s (h:DkR B w b ax n cp p M pa pn pc P d t):DkS B w b:=⟨_,_,_,_,_,_,_,_,_,_,_,h⟩
theorem DkR.pp (h:DkR B w b ax n cp p M pa pn pc P d t):PpI w ax n M:=GdK.pp (by omega) h.gd h.r h.o
theorem DkR.past (h:DkR B w b ax n cp p M pa pn pc P d t) (hb:Below w.heap.size w w'):DkR B w' b ax n cp p M pa pn pc P d t:=
 ⟨Qae h.row hb,h.lb,h.r.past hb,h.o.past hb,h.nb,h.gd,h.ok,h.h.past hb,h.tp⟩
theorem DkR.lt (h:DkR B w b ax n cp p M pa pn pc P d t):b<w.heap.size:=(ZZc.1 h.row).1
theorem DkR.pipe (h:DkR B w b ax n cp p M pa pn pc P d t) (hg:w.grownBy w' (some b)) (hr:w'.heap[b]?=some (.cells (QeR (.slice ax' n' cp') q (.slice pa pn pc) d t) 41 (0,0))) (r:OwnD w B2 (.slice ax' n' cp') M') (o:LvO w B2 M') (hB:b<B2) (gd:GdK 0 (M'.map Sd.key)) (ok:QaZ M' q=true) :
  DkR B w' b ax' n' cp' q M' pa pn pc P d t:=by
 have hl:=h.lb;have hp:=PpB.of r o;exact ⟨hr,h.lb,(r.keptS (grS hg) (fun k q e=>by injection e with e;have:=(hp.hi k (.inl q)).1;omega)).le (by omega),(o.keptS (grS hg) (fun x hx k q e=>by injection e with e;have:=(hp.hi k (.inr ⟨x,hx,q⟩)).1;omega)).le (by omega),fun j q e=>by have:=(hp.hi j q).1;omega,gd,ok,World.ownsRow.kept h.h hg (.inr (h.h.ne h.row (by decide))),h.tp⟩
theorem DkR.same (h:DkR B w b ax n cp p M pa pn pc P d t) (hg:w.grownBy w' (some b)) (hr:w'.heap[b]?=some (.cells (QeR (.slice ax n cp) p (.slice pa pn pc) d t) 41 (0,0))) :
  DkR B w' b ax n cp p M pa pn pc P d t:=
 ⟨hr,h.lb,h.r.keptS (grS hg) (fun k q e=>by injection e with e;exact h.nb k (.inl q) e.symm),h.o.keptS (grS hg) (fun x hx k q e=>by injection e with e;exact h.nb k (.inr ⟨x,hx,q⟩) e.symm),h.nb,h.gd,h.ok,World.ownsRow.kept h.h hg (.inr (h.h.ne h.row (by decide))),h.tp⟩
theorem DkR.told (h:DkR B w b ax n cp p M pa pn pc P d t) (T:TdA w b (.slice ax n cp) p (.slice pa pn pc) (.slice ax' n' cp') q d t cd e w') (r:OwnD w B2 (.slice ax' n' cp') M') (o:LvO w B2 M') (hB:b<B2) (good:cd=0->GdK 0 (M'.map Sd.key)/\QaZ M' q=true):DkS B w' b:=by
 obtain ⟨_,hg,⟨h0,hr⟩ | ⟨_,hr⟩⟩:=T
 ·exact (h.pipe hg hr r o hB (good h0).1 (good h0).2).s
 ·exact (h.same hg hr).s
theorem DkR.top (h:DkR B w b ax n cp p M pa pn pc P d t) (ho:OwnH w B2 (.slice pa' pn' pc') P') (hB:b<B2) (tp:TpI P' d' t') :
  DkR B (((w.setCell ⟨b,5,none⟩ (.slice pa' pn' pc')).setCell ⟨b,6,none⟩ (.int .i64 d')).setCell ⟨b,7,none⟩ (.int .i64 t')) b ax n cp p M pa' pn' pc' P' d' t':=by
 have hl:=h.lb;have hg:w.grownBy (((w.setCell ⟨b,5,none⟩ (.slice pa' pn' pc')).setCell ⟨b,6,none⟩ (.int .i64 d')).setCell ⟨b,7,none⟩ (.int .i64 t')) (some b):=((Qal w b 5 _).trans (Qal _ b 6 _)).trans (Qal _ b 7 _);exact ⟨ZZl _ b 7 _ _ _ (ZZl _ b 6 _ _ _ (ZZl _ b 5 _ _ _ h.row)),h.lb,h.r.keptS (grS hg) (fun k q e=>by injection e with e;exact h.nb k (.inl q) e.symm),h.o.keptS (grS hg) (fun x hx k q e=>by injection e with e;exact h.nb k (.inr ⟨x,hx,q⟩) e.symm),h.nb,h.gd,h.ok,OwnH.le (B:=B2) (World.ownsRow.kept ho hg (.inr (ho.ne h.row (by decide)))) (by omega),tp⟩
theorem DkR.tick (h:DkR B w b ax n cp p M pa pn pc P d t) (ky:M'.map Sd.key=M.map Sd.key):GdK 0 (M'.map Sd.key)/\QaZ M' (QgD M p k)=true:=by
 refine ⟨by rw [ky];exact h.gd,?_⟩;unfold QgD
 split
 ·rename_i c
  exact Qs8 h.ok ky c.2.1 c.2.2
 ·rw [Qep ky];exact h.ok
end
end Go.Proofs.YtdbaabbmcfnjbaaGreatDoor
