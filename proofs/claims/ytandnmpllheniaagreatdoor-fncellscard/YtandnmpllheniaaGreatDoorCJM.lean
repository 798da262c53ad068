/-
 Parts.
-/
import Derived.Test.YtandnmpllheniaaGreatDoorCJL
import Derived.Lib.ItoaNum
set_option linter.all false
set_option maxHeartbeats 4000000
namespace Go.Proofs.YtandnmpllheniaaGreatDoor
open Go.ChangeShapes Go.WideShapes Go.ChangeAt Go.RowKit Go.PlainAid
def Qa4 (a b:ByteArray):Bool:=Op.bytesLess a.toList b.toList
theorem Qil:∀ x y:List UInt8,Op.bytesLess x y=true->Op.bytesLess y x=false
 | _,[],h=>by simp [Op.bytesLess] at h
 | [],_ :: _,_=>by simp [Op.bytesLess]
 | a :: x,b :: y,h=>by
  simp only [Op.bytesLess,Bool.or_eq_true,Bool.and_eq_true,decide_eq_true_eq,beq_iff_eq] at h;simp only [Op.bytesLess,Bool.or_eq_false_iff,Bool.and_eq_false_iff,decide_eq_false_iff_not,beq_eq_false_iff_ne];rcases h with h | ⟨rfl,h⟩
  ·exact ⟨fun k=>by have:=UInt8.lt_asymm h k;exact this,.inl (fun e=>by subst e;exact UInt8.lt_irrefl _ h)⟩
  ·exact ⟨UInt8.lt_irrefl _,.inr (Qil x y h)⟩
theorem QkO:∀ x y:List UInt8,Op.bytesLess x y=false->(x == y)=false->Op.bytesLess y x=true
 | [],[],_,h=>by simp at h
 | _ :: _,[],_,_=>by simp [Op.bytesLess]
 | [],_ :: _,h,_=>by simp [Op.bytesLess] at h
 | a :: x,b :: y,h,k=>by
  simp only [Op.bytesLess,Bool.or_eq_false_iff,Bool.and_eq_false_iff,decide_eq_false_iff_not,beq_eq_false_iff_ne] at h;simp only [Op.bytesLess,Bool.or_eq_true,Bool.and_eq_true,decide_eq_true_eq,beq_iff_eq];by_cases e:a=b
  ·subst e
   refine .inr ⟨rfl,QkO x y ?_ ?_⟩
   ·rcases h.2 with h | h
    ·exact absurd rfl h
    ·exact h
   ·simpa using k
  ·left
   have h1:=h.1;simp only [UInt8.lt_iff_toNat_lt] at h1 ⊢;have:a.toNat≠b.toNat:=fun q=>e (UInt8.toNat_inj.1 q);omega
theorem Qq3 {x y:List UInt8} (h:(x == y)=true):Op.bytesLess y x=false:=by
 have h:=beq_iff_eq.1 h;subst h
 cases e:Op.bytesLess x x with
 | false=>rfl
 | true=>have:=Qil x x e;rw [this] at e;cases e
theorem QhM:∀ x y z:List UInt8,Op.bytesLess x y=true->Op.bytesLess y z=true->Op.bytesLess x z=true
 | _,[],_,h,_=>by simp [Op.bytesLess] at h
 | _,_ :: _,[],_,h=>by simp [Op.bytesLess] at h
 | [],_ :: _,_ :: _,_,_=>by simp [Op.bytesLess]
 | a :: x,b :: y,c :: z,h,k=>by
  simp only [Op.bytesLess,Bool.or_eq_true,Bool.and_eq_true,decide_eq_true_eq,beq_iff_eq] at h k ⊢;rcases h with h | ⟨rfl,h⟩
  ·rcases k with k | ⟨rfl,k⟩
   ·exact .inl (UInt8.lt_trans h k)
   ·exact .inl h
  ·rcases k with k | ⟨rfl,k⟩
   ·exact .inl k
   ·exact .inr ⟨rfl,QhM x y z h k⟩
theorem QjT {a b:ByteArray} (h:(a.toList == b.toList)=true):a=b:=by
 have h:=beq_iff_eq.1 h;rw [ByteArray.toList_eq,ByteArray.toList_eq] at h
 cases a;cases b
 simp at h;simp [h]
theorem QeO {a b c:ByteArray} (h:Qa4 a b=true) (k:Qa4 b c=true):Qa4 a c=true:=QhM _ _ _ h k
theorem QeW (a:ByteArray):Qa4 a a=false:=Qq3 (x:=a.toList) (y:=a.toList) (by simp)
theorem Qol {a b:ByteArray} (h:Qa4 a b=true):Qa4 b a=false:=Qil _ _ h
theorem QgJ {a b:ByteArray} (h:Qa4 a b=false):Qa4 b a=true∨a=b:=by
 cases e:(a.toList == b.toList) with
 | true=>exact .inr (QjT e)
 | false=>exact .inl (QkO _ _ h e)
theorem QkC {a b c:ByteArray} (h:Qa4 b a=false) (k:Qa4 c b=false):Qa4 c a=false:=by
 cases e:Qa4 c a with
 | false=>rfl
 | true=>
  rcases QgJ k with q | q
  ·rw [QeO q e] at h;cases h
  ·subst q;rw [e] at h;cases h
theorem Qag {P:Program} (w:World) {ops:Array Oper} {rest:List Oper} {o:Oper} {a:Act} {Q:Exit->Act->World->Prop} (hgd:o.guard=none) (s x:Operand) (t:TypeId)
  (ho:o.op=.call { callee:=.builtin .append,args:=#[s,x],argTypes:=#[t,t] })
  (base:Nat) (e:TypeId) (i:TypeInfo) (z:Value) (size bytes:Nat) (ht:P.underlying t=some (.slice e)) (hi:P.info? e=some i) (hz:i.zero=some z)
  (hsize:i.size=size) (hby:i.bytes=bytes) (hzs:z.cells.size=size) (hsz:0<size)
  (v:Value) (n:Nat) (xs:List Value) (hs:a.eval s=v) (hown:w.ownsRow base e size v n xs)
  (xo:Option Addr) (m c:Nat) (news:List Value) (hx:a.eval x=.slice xo m c) (hl:news.length=m*size) (hno:xo=none->m=0/\c=0) (hnews:∀ ad,xo=some ad->∀ j u,news[j]?=some u->w.cell? (ad.add j)=some u) (h1:∀ u∈news,u.oneCell'=true)
  (h63:n+m<=maxLen) (hbytes:(n+m)*bytes<=140737488355328) (hbase:base<=w.heap.size)
  (h:∀ v' w',w'.ownsRow base e size v' (n+m) (xs ++ news)->w.grownBy w' v.ownBlock->(v'=.slice none 0 0↔v=.slice none 0 0/\m=0)->wpList P ops Q rest (a.put o.dst v') w'):wpList P ops Q (o :: rest) a w:=by
 cases xo with
 | some ad=>exact wpList_append_own w hgd s x t ho base e i z size bytes ht hi hz hsize hby hzs hsz v n xs hs hown ad m c news hx hl (hnews ad rfl) h1 h63 hbytes hbase h
 | none=>
  obtain ⟨rfl,rfl⟩:=hno rfl;obtain rfl:news=[]:=List.eq_nil_of_length_eq_zero (by rw [hl,Nat.zero_mul]);refine wpList_plain hgd fun _ hK=>?_;have hr:=run_append_owned_none (P:=P) (w:=w) base t o.type e i size ht hi v n xs hown;unfold Oper.wp execOp;simp only [ho,resolve,invoke,builtin,Sem.run_bind,Sem.run_pure,Result.andThen_ok,List.map_toArray,List.map_cons,List.map_nil,hs,hx,hr];exact hK _ _ (h v w (by rw [Nat.add_zero,List.append_nil];exact hown) (World.grownBy.refl _ _) (by simp))
theorem Qrb (t:TypeId) (a b:ByteArray):binOp .lss t (.string a) (.string b)=pure (.bool (Qa4 a b)):=by simp [binOp,Op.stringOp,Qa4]
set_option maxRecDepth 10000
open Go.Maps
theorem QqI {v:Nat} (h:9223372036854775808<=v) (h2:v<18446744073709551616):Lib.bitLen v=64:=by
 have hb:=Lib.bitLenAux_bounds 64 v (by simpa using h2) (by omega);have hl:=Qdm v;have hd:Lib.bitLen v=Lib.bitLenAux 64 v:=rfl;rw [<- hd] at hb;by_cases q:Lib.bitLen v<=63
 ·have:2 ^ Lib.bitLen v<=2 ^ 63:=Nat.pow_le_pow_right (by omega) q
  omega
 ·omega
def Qho (n v:Int):Int:=min (64 - (Lib.bitLen v.toNat:Int)+n) 55
theorem Qnf (x:Int):Qho 1 (IntKind.u64.wrap (x*64))=rho x:=rfl
theorem QoQ {n v:Int} (h1:1<=n) (h0:0<=v) (hv:v<9223372036854775808):Qho (n+1) (v*2)=Qho n v:=by
 unfold Qho;by_cases e:v=0
 ·subst e
  simp [Lib.bitLen,Lib.bitLenAux_zero];omega
 ·have:=Lib.bitLen_half (v*2).toNat (by omega) (by omega)
  have h2:(v*2).toNat / 2=v.toNat:=by omega
  rw [h2] at this;rw [this];omega
theorem rho_full {v:Int}:Qho 55 v=55:=by
 unfold Qho;have:=Qdm v.toNat;omega
theorem QrA {n v:Int} (hn:n<=55) (hv:9223372036854775808<=v) (h2:v<18446744073709551616):Qho n v=n:=by
 unfold Qho;rw [QqI (by omega) (by omega)];omega
theorem QqK {w:World} {B g:Nat} {R:List Int} (x:Int) (hx:U64 x) (hR:RowI w B g R) :
  Calls Tryz.prog 211 #[.slice (some ⟨g,0,none⟩) 64 64,.int .u64 x] w fun e w'=>(∃ r,e=.returned r)/\RowI w' B g (lay R x)/\Below B w w':=by
 have ab:=Qqn hx;have q0:0<=x / 288230376151711744:=by unfold U64 at hx;omega
 have q1:x / 288230376151711744<64:=by unfold U64 at hx;omega
 have qw:IntKind.i64.wrap (x / 288230376151711744)=x / 288230376151711744:=ZZi _ ⟨by omega,by omega⟩;obtain ⟨v,hv⟩:∃ v,v=R.getD (reg x) 0:=⟨_,rfl⟩;have aa:w.cell? ⟨g,(x / 288230376151711744).toNat,none⟩=some (.int .i64 v):=hR.cell ab hv;have ad:w.frozen? ⟨g,(x / 288230376151711744).toNat,none⟩=false:=hR.froz (reg x)
 have HF:Hid (∀ y,y=rho x->RowI (w.setCell ⟨g,(x / 288230376151711744).toNat,none⟩ (.int .i64 (max v y))) B g (lay R x)/\Below B w (w.setCell ⟨g,(x / 288230376151711744).toNat,none⟩ (.int .i64 (max v y)))):=fun y hy=>by
  subst hy;refine ⟨?_,(ZZb _ _).setCell hR.lt.1 _⟩;have:=hR.set (reg x) (max v (rho x));unfold lay;rw [<- hv];exact this
 obtain ⟨s0,s1⟩:=Qm8 (x*64);have HS:=Qaa (Qnf x);clear hR hv ab;go_enter Tryz.func211,Tryz.ntmps211;go_wp2
 go_loopw [5,6] (fun a b wr=>wr=w/\∃ n z:Int,a=.int .i64 n/\b=.int .u64 z/\1<=n/\n<=55/\0<=z/\z<=18446744073709551615/\Hid (Qho n z=rho x)) (fun a b wr=>55 - (Go.RowKit.intOf a).toNat)
 case atStart=>exact ⟨rfl,1,_,rfl,rfl,by omega,by omega,s0,s1,HS⟩
 case round=>
  clear HS s0 s1;obtain ⟨rfl,n,z,rfl,rfl,n1,n2,z0,z1,HR⟩:=hrel;by_cases hn:n<55
  ·by_cases hz:z<9223372036854775808
   ·have dz:z / 9223372036854775808=0:=by omega
    have d0:decide (z / 9223372036854775808=0)=true:=ZZh dz;have uw:IntKind.u64.wrap (z*2)=z*2:=IntWalk.u64_in _ ⟨by omega,by omega⟩;have ac:Hid (Qho (n+1) (z*2)=rho x):=(QoQ n1 z0 hz).trans HR;go_wp2;go_roundw
    case rel=>exact ⟨trivial,n+1,z*2,rfl,rfl,by omega,by omega,by omega,by omega,ac⟩
    case measure=>simp [zI];omega
   ·have dz:z / 9223372036854775808=1:=by omega
    have HE:Hid (n=rho x):=(QrA n2 (by omega) (by omega)).symm.trans HR;go_wp2_with (go_at_call 182;refine (Qd4 _ _ _).mono ?_;rintro e w1 ⟨rfl,hw⟩;obtain rfl:=hw.symm)
    go_end0
    exact ⟨⟨_,rfl⟩,HF.out _ HE⟩
  ·obtain rfl:n=55:=by omega
   have HE:Hid ((55:Int)=rho x):=rho_full.symm.trans HR;go_wp2_with (go_at_call 182;refine (Qd4 _ _ _).mono ?_;rintro e w1 ⟨rfl,hw⟩;obtain rfl:=hw.symm)
   go_end0
   exact ⟨⟨_,rfl⟩,HF.out _ HE⟩
theorem QiE {L:List Int} {k:Nat} {y:Int} (h:L[k]?=some y) (x:Int):x∈L.take (k+1)↔x∈L.take k∨x=y:=by
 rw [List.take_add_one,h];simp
theorem Qcr {w:World} {ra eb:Option Addr} {m d n c:Nat} {R E:List Int} (h1:R.length=m) (h2:E.length=n) (l1:m=0∨m=64) (l2:n<=1000) (hR:Qaq .i64 w ra R) (hE:Qaq .u64 w eb E) (u1:∀ x∈E,U64 x) :
  Calls Tryz.prog 180 #[.slice ra m d,.slice eb n c] w fun e w'=>∃ g R',e=.returned (.agg #[.slice none 0 0,.slice (some ⟨g,0,none⟩) 64 64])/\Laid (Qcc R) (·∈E) R'/\RowI w' w.heap.size g R'/\Below w.heap.size w w':=by
 have HR:=Qaa hR;have HE:=Qaa hE;have H1:=Qaa h1;have H2:=Qaa h2;have L1:=Qaa l1;have U1:=Qaa u1;have au:Hid ((Qcc R).length=64):=Qec (by rw [h1];exact l1);obtain ⟨i0,hi,ar,ap,av⟩:=info_parts QdZ;have al:Hid (∀ o,Below w.heap.size w (w.alloc o)):=fun o=>(ZZb _ _).alloc (ZZa _) _;have aw:=Qaa (ZZk w (.cells #[.slice none 0 0,.slice none 0 0] 47));clear hR hE h1 h2 l1 u1;go_enter Tryz.func180,Tryz.ntmps180
 go_wp2_with (first
  | (at_make;refine wpList_make_full _ rfl _ _ 45 rfl (w.heap.size+1) 2 i0 (.int .i64 0) 1 Tryz.underlying45 hi ar ap .i64 .i64 _ _ 64 rfl rfl rfl rfl (by rw [av];omega) (by unfold maxLen;omega) (by simp) ?_;intro w2 ab aa;simp only [World.size_alloc] at ab ⊢; have am:Hid (w2.heap[w.heap.size+1]?=some (.cells zer64.toArray 2 (0,0))):=RowI.full (R:=List.replicate 64 0) ⟨by simp,by rw [<- Qfj];exact ab⟩;have ae:Hid (Below (w.heap.size+1) (w.alloc (.cells #[.slice none 0 0,.slice none 0 0] 47)) w2):=(Below.refl _ _).grown aa (by simp) (fun k e=>by cases e);clear ab aa)
  | (refine wpList_copy_splice rfl _ _ 45 45 rfl 2 Tryz.underlying45 QkR _ _ _ _ _ _ rfl rfl (w.heap.size+1) 0 _ 2 am (R.map (Value.int .i64)) (by rw [List.length_map,H1.out];rcases L1.out with q | q <;> rw [q] <;> rfl) (fun h0=>⟨rfl,Qgm (K:=0) HR ((al.out _).trans (ae.out.mono (by omega))) h0⟩) (by rw [List.length_map,H1.out,QiN];have:=L1.out;omega) (by intro v hv;simp at hv;obtain ⟨x,_,rfl⟩:=hv;rfl) (w.heap.size+1) (w.alloc (.cells #[.slice none 0 0,.slice none 0 0] 47)) ae (Nat.le_refl _) ?_;intro w3 ac ah;have an:=Qaa ah;have aj:Hid (RowI w3 (w.heap.size+1) (w.heap.size+1) (Qcc R)):=RowI.of au (Nat.le_refl _) (by rw [<- Qd5 (by rw [H1.out];exact L1.out)];exact ac.out);clear ac ah am ae))
 go_loopw [6] (fun i wr=>∃ (k:Nat) (R':List Int),k<=n/\i=.int .i64 k/\Hid (RowI wr (w.heap.size+1) (w.heap.size+1) R')/\Hid (Laid (Qcc R) (·∈E.take k) R')/\Hid (Below (w.heap.size+1) (w.alloc (.cells #[.slice none 0 0,.slice none 0 0] 47)) wr)) (fun i wr=>n - (Go.RowKit.intOf i).toNat)
 case atStart=>exact ⟨0,Qcc R,Nat.zero_le _,rfl,aj,Laid.start _ (fun x hx=>by simp at hx),an⟩
 case round=>
  clear aj an;obtain ⟨k,R',hk,rfl,HO,HL,af⟩:=hrel;have ag:=Qaa ((al.out (.cells #[.slice none 0 0,.slice none 0 0] 47)).trans (af.out.mono (by omega)));by_cases ax:k<n
  ·obtain ⟨b,ay,e,ad⟩:=HE.out (by have:=H2.out;omega)
   obtain ⟨y,hy⟩:∃ y,E[k]?=some y:=⟨E[k]'(by have:=H2.out;omega),ZZe _⟩;subst e;have az:=Qab ag (ad k y hy);have HY:=Qaa hy;have HZ:=Qaa (U1.out y (ZZn hy));clear ad hy;go_wp2_with (go_at_call 211;refine (QqK _ HZ HO).mono ?_;rintro e w4 ⟨⟨r4,rfl⟩,ai,ak⟩;have ao:=Qaa ai;have aq:=Qaa (af.out.trans ak);clear ai ak);go_roundw
   case rel=>exact ⟨k+1,_,by omega,by go_num,ao,HL.out.step (QiE HY),aq⟩
   case measure=>simp [zI];omega
  ·have HF:Hid (Laid (Qcc R) (·∈E) R'):=by
    have:=HL.out;rw [List.take_of_length_le (by have:=H2.out;omega)] at this;exact this
   have R2:=(af.out.block _ (by omega)).trans aw;have q0:wr.cell? ⟨w.heap.size,0,none⟩=some (.slice none 0 0):=by rw [cell_of_row _ _ 0 _ _ (0,0) R2];rfl
   have q1:wr.cell? ⟨w.heap.size,1,none⟩=some (.slice none 0 0):=by rw [cell_of_row _ _ 1 _ _ (0,0) R2];rfl
   have f0:=fzR 0 R2;have f1:=fzR 1 R2;clear R2;go_wp2;refine bodyPost_ret (v:=.agg #[.slice none 0 0,.slice (some ⟨w.heap.size+1,0,none⟩) 64 64]) (by simp [results,Tryz.results180,go_sem,q0,q1]) rfl ⟨_,R',rfl,HF,?_,?_⟩
   ·refine RowI.le (B:=w.heap.size+1) ?_ (by omega)
    refine ⟨HO.out.1,?_⟩
    repeat (refine ownsRow_setCell_below ?_ (by simp) _)
    exact HO.out.2
   ·exact (ag.out.setCell (by simp) _).setCell (by simp) _
end Go.Proofs.YtandnmpllheniaaGreatDoor
