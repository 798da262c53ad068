/-
 Parts.
-/
import Derived.Test.YtlejlgldgafljaaGreatDoorVWI
import Derived.Test.YtlejlgldgafljaaGreatDoorVCE
set_option maxRecDepth 10000
set_option maxHeartbeats 2000000
set_option linter.all false
namespace Go.Proofs.YtlejlgldgafljaaGreatDoor
open Go.ChangeShapes Go.WideShapes Go.ChangeAt Go.RowKit Go.PlainAid Go.Lib Go.Maps Tryz
variable {W0 w w' w1 w2:World}
variable {ao ax:Option Addr}
variable {cap cp ln n:Nat}
section
theorem Qg0 {K B:Nat} (h:Qbq w K ao ln) (hb:Below K w w') (hw:K<=w.heap.size) (hK:K<=B):Qbq w' B ao ln:=by
 refine ⟨h.1,fun h0=>?_⟩;obtain ⟨b,aa,e,ab,hc⟩:=h.2 h0
 exact ⟨b,aa,e,by omega,fun i hi=>by
  obtain ⟨x,hx,h1,h2⟩:=hc i hi;refine ⟨x,?_,h1,h2⟩;rw [show w'.cell? ⟨b,aa+i,none⟩=w.cell? ⟨b,aa+i,none⟩ from ?_];exact hx;unfold World.cell?;rw [hb.block b ab]⟩
end
variable {A B L:List Ce}
section
theorem QnW (g:Ag):QaK g g=true:=by simp [QaK,Qbb,Qbu]
theorem Qgs:∀ L:List Ce,Qb5 L L=true
 | []=>rfl
 | c :: L=>by
  show (QeZ c c && Qb5 L L)=true
  rw [Qgs L,Bool.and_true];unfold QeZ;rw [QnW];simp
theorem QiU {M:List Ce} (k:L.map Ce.key=M.map Ce.key) (l:M.length<=400):csB L M=true:=by
 rw [Qul k rfl];unfold csB;rw [Qgs];simp [l]
end
variable {M S:List Sd}
theorem QnV {bo:Option Addr} {ca cb:Nat} {T:List Sd} (hS:PpI w ao n S) (hT:PpI w bo n T) (hk:T.map Sd.key=S.map Sd.key) (hl:∀ s∈S,s.L.length<=400) :
  Calls prog 8 #[.slice ao n ca,.slice bo n cb] w fun e w'=>e=.returned (.bool true)/\Bw w w':=by
 have HS:=Qaa hS;have HT:=Qaa hT;have HK:=Qaa hk;have HL:=Qaa hl;have hn:n<=1048576:=by have:=hS.n;have:=hS.sm.n;omega
 clear hS hT hk hl;go_enter func8,ntmps8;go_wp2_with fail
 go_loopw [5] (fun i wr=>∃ k:Nat,k<=n/\i=.int .i64 k/\Hid (Bw w wr)) (fun i wr=>n - (Go.RowKit.intOf i).toNat)
 case atStart=>exact ⟨0,ZZj _,rfl,Qaa (ZZb _ _)⟩
 case round=>
  obtain ⟨k,hk,rfl,HB⟩:=hrel;by_cases aq:k<n
  ·have ac:(k:Int)<(n:Int):=by omega
   have ap:(0:Int)<=(k:Int):=by omega
   have au:IntKind.i64.wrap ((k:Int)+1)=((k+1:Nat):Int):=by rw [show (k:Int)+1=((k+1:Nat):Int) by omega];exact ZZi _ ⟨by omega,by omega⟩
   obtain ⟨s,hs⟩:∃ s,S[k]?=some s:=⟨S[k]'(by have:=HS.n;omega),ZZe _⟩;obtain ⟨t,ht⟩:∃ t,T[k]?=some t:=⟨T[k]'(by have:=HT.n;omega),ZZe _⟩;obtain ⟨e1,e2,e3⟩:=Qfz (Qti HK ht hs);obtain ⟨b1,o1,ea,ad⟩:=HS.at'.1 (by have:=HS.n;omega);obtain ⟨b2,o2,eb,ae⟩:=HT.at'.1 (by have:=HT.n;omega);subst ea;subst eb;have ms:=ZZn hs;have mt:=ZZn ht;have FA:Hid (∀ W,Bw wr W->W.cell? ⟨b1,o1+k*2,none⟩=some (.string s.nm)/\W.cell? ⟨b1,o1+k*2+1,none⟩=some (.slice s.ao s.L.length s.cp)):=Qaa (fun W hW=>Qbz (ad k s hs) (Qac HB hW));have FB:Hid (∀ W,Bw wr W->W.cell? ⟨b2,o2+k*2,none⟩=some (.string s.nm)/\W.cell? ⟨b2,o2+k*2+1,none⟩=some (.slice t.ao t.L.length t.cp)):=Qaa (fun W hW=>by rw [<- e1];exact Qbz (ae k t ht) (Qac HB hW));have ak:=Qaa (QiU (L:=s.L) (M:=t.L) e2.symm (by have:=HL.out s ms;omega));have ag:Hid (s.L.length<=1048576):=Qaa (HS.sm.l s ms);have al:Hid (t.L.length<=1048576):=Qaa (HT.sm.l t mt);have ah:=Qaa (HS.sm.sm s ms);have am:=Qaa (HT.sm.sm t mt);have ai:=Qaa (QaP (HS.at'.2 s ms) HB);have an:=Qaa (QaP (HT.at'.2 t mt) HB);have ar:(s.nm.toList == s.nm.toList)=true:=by simp
   clear hs ht e1 e2 e3 ad ae ms mt;go_upto_region 6 with fail;have aa:Bw wr wr.drew:=(ZZb _ _).drew;refine Qal (fun W=>Bw wr W) 99 (by kernel_rfl) ?_;refine tkS 0 (.slice (some ⟨b1,o1,none⟩) n ca) aa ?_;refine tkS 1 (.int .i64 k) aa ?_;refine tkS 2 (.pointer (some ⟨b1,o1+k*2,none⟩)) aa ?_;simp only [sX];refine tkS 3 (.pointer (some ⟨b1,o1+k*2,none⟩)) aa ?_;refine tkL 4 (.string s.nm) aa (fun W hW=>?_) ?_
   ·obtain ⟨p0,p1⟩:=FA.out W hW
    obtain ⟨p2,p3⟩:=FB.out W hW;clear hW;go_simp
   refine tkS 5 (.slice (some ⟨b2,o2,none⟩) n cb) aa ?_;simp only [sX];refine tkS 6 (.int .i64 k) aa ?_;refine tkS 7 (.pointer (some ⟨b2,o2+k*2,none⟩)) aa ?_;refine tkS 8 (.pointer (some ⟨b2,o2+k*2,none⟩)) aa ?_;simp only [sX];refine tkL 9 (.string s.nm) aa (fun W hW=>?_) ?_
   ·obtain ⟨p0,p1⟩:=FA.out W hW
    obtain ⟨p2,p3⟩:=FB.out W hW;clear hW;go_simp
   refine tkS 10 (.bool false) aa ?_;refine tkS 11 (.bool false) aa ?_;simp only [sX];refine tkS 12 (.slice (some ⟨b1,o1,none⟩) n ca) aa ?_;refine tkS 13 (.int .i64 k) aa ?_;refine tkS 14 (.pointer (some ⟨b1,o1+k*2,none⟩)) aa ?_;simp only [sX];refine tkS 15 (.pointer (some ⟨b1,o1+k*2+1,none⟩)) aa ?_;refine tkL 16 (.slice s.ao s.L.length s.cp) aa (fun W hW=>?_) ?_
   ·obtain ⟨p0,p1⟩:=FA.out W hW
    obtain ⟨p2,p3⟩:=FB.out W hW;clear hW;go_simp
   refine tkS 17 (.slice (some ⟨b2,o2,none⟩) n cb) aa ?_;simp only [sX];refine tkS 18 (.int .i64 k) aa ?_;refine tkS 19 (.pointer (some ⟨b2,o2+k*2,none⟩)) aa ?_;refine tkS 20 (.pointer (some ⟨b2,o2+k*2+1,none⟩)) aa ?_;simp only [sX];refine tkL 21 (.slice t.ao t.L.length t.cp) aa (fun W hW=>?_) ?_
   ·obtain ⟨p0,p1⟩:=FA.out W hW
    obtain ⟨p2,p3⟩:=FB.out W hW;clear hW;go_simp
   simp only [sX];refine onE 22 fun K hK=>?_;go_simp;refine (Qc7 rfl rfl ag al ah am (QaP ai aa) (QaP an aa)).mono ?_;rintro e w5 ⟨rfl,af⟩;rw [ak.out];have ab:Bw wr w5:=Qac aa af;clear af;dsimp only;refine gK hK ab ?_
   try simp only [sX]
   refine tkS 23 (.bool false) ab ?_;refine tkS 24 (.bool false) ab ?_;simp only [sX];refine dnE ?_ _;have aj:=Qaa (Qac HB ab);go_wp2;go_roundw
   case rel=>exact ⟨k+1,by omega,by first | rfl | go_num,aj⟩
   case measure=>simp [zI];omega
  ·have ac:¬ (k:Int)<(n:Int):=by omega
   go_wp2;go_ret;exact ⟨rfl,HB⟩
structure TkD (W0:World) (K:Nat) (ao:Option Addr) (ln cap:Nat) (w wr:World) (c:Nat) (ax:Option Addr) (n cp:Nat) (p:Pi) (M:List Sd):Prop where
 src:Src W0 K ao ln cap K wr
 res:wr.heap[w.heap.size]?=some (.cells (Qad (.slice none 0 0) q0) 25 (0,0))
 row:wr.heap[c]?=some (.cells (Qad (.slice ax n cp) p) 25 (0,0))
 hk:w.heap.size<K
 lk:K<c
 r:OwnD wr (K+1) (.slice ax n cp) M
 o:LvO wr (K+1) M
 b:Bw w wr
section
variable {W0 w wr w1:World} {K ln cap c n cp:Nat} {ao ax:Option Addr} {p:Pi} {M:List Sd}
theorem TkD.step (h:TkD W0 K ao ln cap w wr c ax n cp p M) (hS:Src W0 K ao ln cap K w1) (hg:wr.grownBy w1 (some K)):TkD W0 K ao ln cap w w1 c ax n cp p M:=by
 have z1:=h.hk;have z2:=h.lk;have z:=(ZZc.1 h.row).1;have g:GrownS wr w1 (fun k=>k=K):=(grS hg).weak (fun k e=>by injection e with e;exact e.symm);have hp:=PpB.of h.r h.o;exact ⟨hS,g.row h.res (by omega),g.row h.row (by omega),h.hk,h.lk,h.r.keptS g (fun k q e=>by have:=(hp.hi k (.inl q)).1;omega),h.o.keptS g (fun x hx k q e=>by have:=(hp.hi k (.inr ⟨x,hx,q⟩)).1;omega),g.below h.b (by omega) (fun k e=>by omega)⟩
theorem TkD.drew (h:TkD W0 K ao ln cap w wr c ax n cp p M):TkD W0 K ao ln cap w wr.drew c ax n cp p M:=
 have hb:Bw wr wr.drew:=(ZZb _ _).drew
 h.step (QaJ h.src hb) ⟨hb.os,hb.tape,hb.output,hb.size,fun j hj _=>hb.block j hj⟩
theorem TkD.set5 (h:TkD W0 K ao ln cap w wr c ax n cp p M) (v0 v1 v2 v3 v4:Value) {X:World} (hX:X=((((wr.setCell ⟨w.heap.size,0,none⟩ v0).setCell ⟨w.heap.size,1,none⟩ v1).setCell ⟨w.heap.size,2,none⟩ v2).setCell ⟨w.heap.size,3,none⟩ v3).setCell ⟨w.heap.size,4,none⟩ v4) :
  X.heap[c]?=some (.cells (Qad (.slice ax n cp) p) 25 (0,0))/\OwnD X w.heap.size (.slice ax n cp) M/\LvO X w.heap.size M/\Bw w X:=by
 have z1:=h.hk;have z2:=h.lk;have z:=(ZZc.1 h.row).1;have g:=Qmv wr w.heap.size v0 v1 v2 v3 v4;rw [<- hX] at g;have hp:=PpB.of h.r h.o;exact ⟨g.row h.row (by omega),(h.r.keptS g (fun k q e=>by have:=(hp.hi k (.inl q)).1;omega)).le (by omega),(h.o.keptS g (fun x hx k q e=>by have:=(hp.hi k (.inr ⟨x,hx,q⟩)).1;omega)).le (by omega),g.below h.b (by omega) (fun k e=>by omega)⟩
end
variable {p:Pi}
theorem TkD.past {wr:World} {K c:Nat} (h:TkD W0 K ao ln cap w wr c ax n cp p M) (hb:Bw wr w1):TkD W0 K ao ln cap w w1 c ax n cp p M:=
 h.step (QaJ h.src hb) ⟨hb.os,hb.tape,hb.output,hb.size,fun j hj _=>hb.block j hj⟩
theorem TkD.mk0 {K:Nat} (z0:K=w.heap.size+1) (hK:W0.heap.size=K) (S1:Src W0 K ao ln cap K w1) (R0:W0.heap[w.heap.size]?=some (.cells (Qad (.slice none 0 0) q0) 25 (0,0))) (T0:Bw w W0)
  (hS2:Src W0 K ao ln cap K w2) (hg2:w1.grownBy w2 (some K)) (r2:OwnD w2 (w1.heap.size+1) (.slice ax n cp) M) (o2:LvO w2 (w1.heap.size+1) M):TkD W0 K ao ln cap w (w2.alloc (.cells (Qad (.slice ax n cp) p) 25)) w2.heap.size ax n cp p M:=by
 have a2:Bw w2 (w2.alloc (.cells (Qad (.slice ax n cp) p) 25)):=bA;have z1:=QcF S1;have z2:=hg2.size;have b1:Below W0.heap.size W0 w1:=by rw [hK];exact S1.bel
 have aa:w2.heap[w.heap.size]?=some (.cells (Qad (.slice none 0 0) q0) 25 (0,0)):=(hg2.block _ (by omega) (fun e=>by cases e;omega)).trans (Qaf R0 b1);have bb:Bw w w2:=(Qac T0 b1).grown hg2 (by omega) (fun k e=>by cases e;omega);exact ⟨QaJ hS2 a2,Qaf aa a2,ZZk w2 _,by omega,by omega,(r2.le (by omega)).past a2,(o2.le (by omega)).past a2,Qac bb a2⟩
theorem QhG (hc:Qbq w w.heap.size ao ln) :
  Calls prog 11 #[.slice ao ln cap] w fun e w'=>∃ ax n cp p M u,e=.returned (.tuple #[.agg (Qad (.slice ax n cp) p),.string u])/\u.size<=1048576/\OwnD w' w.heap.size (.slice ax n cp) M/\LvO w' w.heap.size M/\GdK 1 (M.map Sd.key)/\PcB 1 p/\Bw w w':=by
 have a0:Bw w (w.alloc (.cells (Qad (.slice none 0 0) q0) 25)):=bA;have HC:=Qaa (Qg0 (B:=(w.alloc (.cells (Qad (.slice none 0 0) q0) 25)).heap.size) hc a0 (ZZa _) a0.size);have HR:=Qaa (ZZk w (.cells (Qad (.slice none 0 0) q0) 25));have ab:=Qaa a0;have HZ:Hid ((w.alloc (.cells (Qad (.slice none 0 0) q0) 25)).heap.size=w.heap.size+1):=Qaa (by simp);clear hc a0;go_enter func11,ntmps11;go_wp2_with fail;generalize w.alloc _=W0 at HC HR ab HZ ⊢;obtain ⟨K,hK⟩:∃ K,W0.heap.size=K:=⟨_,rfl⟩;rw [hK] at HC HZ;refine (Qgy (K:=K) _ _ _ _ hK HC).mono ?_;rintro e w1 ⟨rfl,ad⟩;have ac:=Qaa ad;clear ad;go_wp2_with fail;refine (Qky HC ac).mono ?_;rintro e w2 ⟨ax,n,cp,p,M,rfl,af,ag,r2,o2,gd,pc⟩;have ai:=Qaa gd;have ah:=Qaa pc;have HD:=Qaa (TkD.mk0 (p:=p) HZ hK ac HR ab af ag r2 o2);clear af ag r2 o2 gd pc ac HR ab HZ hK;go_upto_region 3 with fail;generalize w2.alloc _=wr at HD ⊢;generalize w2.heap.size=c at HD ⊢;have D0:=Qaa HD.drew;refine Qal (fun X=>X.heap[c]?=some (.cells (Qad (.slice ax n cp) p) 25 (0,0))) 5 (by kernel_rfl) ?_;generalize wr.drew=X0 at D0 ⊢;refine tkL 0 (.agg (Qad (.slice ax n cp) p)) D0.row (fun W hW=>?_) ?_
 ·obtain ⟨x0,x1,x2,x3,x4⟩:=Qa2 hW
  clear hW;go_simp
 refine tkS 1 (.pointer (some ⟨K,0,none⟩)) D0.row ?_;simp only [sX];refine oneK (i:=2) (by kernel_rfl) rfl (fun K0 hK0=>?_);go_simp;have ae:Bw X0 (X0.alloc (.cells #[.string ⟨#[97]⟩,.string ⟨#[98]⟩,.string ⟨#[109]⟩,.string ⟨#[110,49]⟩,.string ⟨#[120]⟩,.string ⟨#[65]⟩] 9)):=bA;have D1:=Qaa (D0.past ae);have L1:Hid (∀ j,j<6->∃ u,(X0.alloc (.cells #[.string ⟨#[97]⟩,.string ⟨#[98]⟩,.string ⟨#[109]⟩,.string ⟨#[110,49]⟩,.string ⟨#[120]⟩,.string ⟨#[65]⟩] 9)).cell? ⟨X0.heap.size,j,none⟩=some (.string u)/\u.size<=2):=Qaa (fun j h=>QeB (by decide) j h);have Q1:Hid (K<X0.heap.size):=Qaa (by have:=(ZZc.1 D0.row).1;have:=D0.lk;omega)
 try dsimp only
 refine hK0.out _ _ (fun _=>D1.row) ?_;clear hK0 K0 ae
 try simp only [sX]
 generalize X0.alloc _=X1 at D1 L1 ⊢;generalize X0.heap.size=gl at L1 Q1 ⊢;refine onE 3 fun K hK=>?_;go_simp;refine (QjK HC D1.src gl 6 2 (by have:=Q1.out;omega) (by omega) (by omega) L1).mono ?_;rintro e w5 ⟨u,rfl,hu,hS,hg⟩;have HU:Hid (u.size<=1048576):=Qaa (by omega);have aa:=Qaa (D1.step hS hg);have S5:=aa.row;clear hS hg hu;dsimp only;refine gK hK S5 ?_
 try simp only [sX]
 obtain ⟨y0,y1,y2,y3,y4⟩:=Qa2 aa.res;obtain ⟨f0,f1,f2,f3,f4⟩:=fA5 aa.res;have S6:=aa.set5 (.slice ax n cp) (.int .i64 p.a) (.int .i64 p.b) (.int .i64 p.c) (.int .i64 p.d) rfl;refine onE 4 fun K hK=>?_;go_simp;refine gK hK S6.1 ?_
 try simp only [sX]
 refine onE 5 fun K hK=>?_;go_simp;refine hK.out _ _ (fun h=>absurd rfl h) ?_
 try simp only [sX]
 refine dnE ?_ _;have HF:=Qaa S6.2;clear S6 S5;go_wp2;refine bodyPost_ret (v:=.tuple #[.agg (Qad (.slice ax n cp) p),.string u]) (by simp [results,results11,go_sem,y0,y1,y2,y3,y4]) rfl ?_;exact ⟨ax,n,cp,p,M,u,rfl,HU,HF.1,HF.2.1,ai,ah,HF.2.2⟩
theorem QmF {α β:Type} (f g:α->List β):∀ K:List α,(K.flatMap (fun u=>f u ++ g u)).Perm (K.flatMap f ++ K.flatMap g)
 | []=>List.Perm.refl _
 | u :: K=>by
  simp only [List.flatMap_cons];have ih:=QmF f g K;refine (List.Perm.append_left (f u ++ g u) ih).trans ?_;rw [List.append_assoc,List.append_assoc];refine List.Perm.append_left (f u) ?_;rw [<- List.append_assoc,<- List.append_assoc];exact List.Perm.append_right _ List.perm_append_comm
theorem QmS {α β:Type} (P:α->Bool) (c:β):∀ K:List α,K.Nodup->(∃ u∈K,P u=true)->(∀ u∈K,∀ v∈K,P u=true->P v=true->u=v)->K.flatMap (fun u=>if P u=true then [c] else [])=[c]
 | [],_,⟨u,hu,_⟩,_=>by cases hu
 | a :: K,nd,⟨u,hu,hp⟩,un=>by
  obtain ⟨na,nd⟩:=List.nodup_cons.1 nd;rw [List.flatMap_cons];by_cases h:P a=true
  ·rw [if_pos h]
   have e:K.flatMap (fun u=>if P u=true then [c] else [])=[]:=List.flatMap_eq_nil_iff.2 (fun v hv=>by
    rw [if_neg];intro q;have:=un a (List.mem_cons_self) v (ZZm _ hv) h q;rw [this] at na;exact na hv)
   rw [e]
   rfl
  ·rw [if_neg h]
   refine QmS P c K nd ?_ (fun u hu v hv=>un u (ZZm _ hu) v (ZZm _ hv));rcases List.mem_cons.1 hu with rfl | hu
   ·exact absurd hp h
   ·exact ⟨u,hu,hp⟩
theorem Qjv {α β:Type} (P:α->β->Bool) (K:List α) (nd:K.Nodup):∀ L:List β,(∀ c∈L,∃ u∈K,P u c=true)->(∀ c∈L,∀ u∈K,∀ v∈K,P u c=true->P v c=true->u=v)->(K.flatMap (fun u=>L.filter (P u))).Perm L
 | [],_,_=>List.Perm.of_eq (List.flatMap_eq_nil_iff.2 (fun u _=>rfl))
 | c :: L,ex,un=>by
  have e:(fun u=>(c :: L).filter (P u))=fun u=>(if P u c=true then [c] else []) ++ L.filter (P u):=by
   funext u
   rw [List.filter_cons]
   split <;> rfl
  rw [e];refine (QmF _ _ K).trans ?_;rw [QmS (fun u=>P u c) c K nd (ex c (List.mem_cons_self)) (un c (List.mem_cons_self))];exact List.Perm.cons c (Qjv P K nd L (fun d hd=>ex d (ZZm _ hd)) (fun d hd=>un d (ZZm _ hd)))
theorem Qs4 (m:Mk):∀ {R:List Mk},R.Pairwise mle->∃ R':List Mk,R'.Perm (m :: R)/\R'.Pairwise mle
 | [],_=>⟨[m],.refl _,List.pairwise_singleton _ _⟩
 | a :: R,h=>by
  obtain ⟨h1,h2⟩:=List.pairwise_cons.1 h
  cases q:mgt a m with
  | true=>
   refine ⟨m :: a :: R,.refl _,List.pairwise_cons.2 ⟨fun b hb=>?_,h⟩⟩;rcases List.mem_cons.1 hb with rfl | hb
   ·exact mgt_t q
   ·exact QjL (mgt_t q) (h1 b hb)
  | false=>
   obtain ⟨R',p,s⟩:=Qs4 m h2;refine ⟨a :: R',(p.cons a).trans (List.Perm.swap m a R),List.pairwise_cons.2 ⟨fun b hb=>?_,s⟩⟩;rcases List.mem_cons.1 (p.mem_iff.1 hb) with rfl | hb
   ·exact mgt_f q
   ·exact h1 b hb
theorem Qoq:∀ l:List Mk,∃ R:List Mk,R.Perm l/\R.Pairwise mle
 | []=>⟨[],.refl _,.nil⟩
 | m :: l=>by
  obtain ⟨R,p,s⟩:=Qoq l;obtain ⟨R',p',s'⟩:=Qs4 m s;exact ⟨R',p'.trans (p.cons m),s'⟩
variable {K:List ByteArray}
theorem own_ex {s:ByteArray} (hK:Qag K=true) (hs:s.size<=20000):∃ u,QaR K s u:=by
 obtain ⟨R,h⟩:=Qoq (mks K (8*K.length));exact ⟨_,.inl ⟨hs,hK,R,h,rfl⟩⟩
noncomputable def shS (K:List ByteArray) (L:List Ce):List Sd:=K.map (fun u=>⟨u,L.filter (QbP K u),none,0⟩)
theorem Qub (e:M.map Sd.key=K.map (fun u=>(u,(L.filter (QbP K u)).map Ce.key))):M.map Sd.key=(shS K L).map Sd.key:=by
 rw [e];unfold shS;rw [List.map_map]
 rfl
theorem Qs3 (K:List ByteArray) (L:List Ce):(shS K L).map Sd.nm=K:=by
 unfold shS;rw [List.map_map];exact List.map_id'' (fun _=>rfl) K
theorem Qvd (hK:Qag K=true) (hs:∀ c∈L,c.s.size<=20000) (nd:K.Nodup) (ex:∀ c∈L,∃ u,QaR K c.s u):(QaL (shS K L)).Perm L:=by
 have e:QaL (shS K L)=K.flatMap (fun u=>L.filter (QbP K u)):=by unfold QaL shS;rw [List.flatMap_map]
 rw [e];refine Qjv (QbP K) K nd L (fun c hc=>?_) (fun c hc u _ v _ h1 h2=>Qet (ownB_iff.1 h1) (ownB_iff.1 h2));obtain ⟨u,hu⟩:=ex c hc;exact ⟨u,QsW hK (hs c hc) hu,ownB_iff.2 hu⟩
theorem Qmr (S:List Sd) (win:Int):Qhk (fcS S) win=(QaL S).countP (fun c=>decide (c.n=win)):=by
 rw [<- Qem,List.countP_map]
 rfl
theorem Qrp (h:(A.map Ce.key).Perm (B.map Ce.key)) (win:Int):A.countP (fun c=>decide (c.n=win))=B.countP (fun c=>decide (c.n=win)):=by
 have f:∀ X:List Ce,X.countP (fun c=>decide (c.n=win))=(X.map Ce.key).countP (fun k=>decide (k.1=win)):=fun X=>by rw [List.countP_map];rfl
 rw [f A,f B];exact h.countP_eq _
theorem QqP (hp:Qbi S p=true) (hK:Qag K=true) (asc:AscC L) (pm:(L.map Ce.key).Perm ((QaL S).map Ce.key)) (e:M.map Sd.key=K.map (fun u=>(u,(L.filter (QbP K u)).map Ce.key))):Qbi M p=true/\((QaL M).map Ce.key).Perm ((QaL S).map Ce.key):=by
 obtain ⟨hs,ab⟩:=Qay hp
 have key:∀ c∈L,∃ s∈S,∃ d∈s.L,d.key=c.key:=fun c hc=>by
  obtain ⟨d,hd,ed⟩:=List.mem_map.1 (pm.mem_iff.1 (List.mem_map_of_mem hc));obtain ⟨s,hs,ad⟩:=Qbr hd;exact ⟨s,hs,d,ad,ed⟩
 have cs:∀ s∈S,csR s.L=true:=fun s hm=>by
  have:=QdA hs hm;unfold shB at this;exact (Bool.and_eq_true_iff.1 this).2
 have ri:∀ c∈L,cRi c=true:=fun c hc=>by
  obtain ⟨s,hm,d,hd,ed⟩:=key c hc;rw [<- QlB ed];exact (csR_iff.1 (cs s hm)).2.1 d hd
 have hz:∀ c∈L,c.s.size<=20000:=fun c hc=>by
  have q:=ri c hc;unfold cRi at q;simp only [yB] at q;have:=Qf6 q.1.1.2;omega
 have aa:=Qvd hK hz (Qbo (QaW hK)) (fun c hc=>own_ex hK (hz c hc));have ae:(QaL S).length<=60:=by rw [<- Qem,yA];exact ab.l
 have lL:L.length=(QaL S).length:=by have:=pm.length_eq;rw [yA,yA] at this;exact this
 have pk:=(aa.map Ce.key).trans pm;have ek:=Qub e;refine ⟨?_,by rw [Qc4 ek];exact pk⟩;rw [QiC ek];unfold Qbi at hp ⊢;rw [yB] at hp ⊢;refine ⟨hp.1,?_⟩;rw [yB];constructor
 ·unfold Qeg
  rw [Qs3,hK,Bool.true_and];refine List.all_eq_true.2 (fun s hm=>?_);obtain ⟨u,hu,rfl⟩:=List.mem_map.1 hm
  show shB u (L.filter (QbP K u))=true
  unfold shB;rw [Qbx hK hu,Bool.true_and];refine csR_iff.2 ⟨?_,fun c hc=>ri c (List.mem_filter.1 hc).1,asc.sublist List.filter_sublist⟩;have:=List.length_filter_le (QbP K u) L;omega
 ·refine Qgm ⟨?_,fun win=>?_,fun x hx=>?_⟩
  ·have:=pk.length_eq
   rw [yA,yA] at this;have e2:(fcS (shS K L)).length=(QaL (shS K L)).length:=by rw [<- Qem,yA]
   omega
  ·rw [Qmr,Qrp pk,<- Qmr]
   exact ab.c win
  ·rw [Qs3]
   unfold fcS shS at hx;rw [List.flatMap_map] at hx;obtain ⟨u,hu,hx⟩:=List.mem_flatMap.1 hx;obtain ⟨c,hc,rfl⟩:=List.mem_map.1 hx;obtain ⟨ac,ho⟩:=List.mem_filter.1 hc;refine ⟨?_,ownB_iff.1 ho⟩;obtain ⟨s,hm,d,hd,ed⟩:=key c ac;have h1:=(ab.p (s.nm,d) (by unfold fcS;exact List.mem_flatMap.2 ⟨s,hm,List.mem_map.2 ⟨d,hd,rfl⟩⟩)).1;have:=(QpL ed).1
   show p.d<=c.n
   rw [<- this];exact h1
theorem Qp4 (h:(A.map Ce.key).Perm (B.map Ce.key)) (K:List ByteArray) (u:ByteArray):((A.filter (QbP K u)).map Ce.key).Perm ((B.filter (QbP K u)).map Ce.key):=by
 have f:∀ X:List Ce,(X.filter (QbP K u)).map Ce.key=(X.map Ce.key).filter (fun k=>@decide (QaR K k.2.1 u) (Classical.propDecidable _)):=fun X=>by rw [List.filter_map];rfl
 rw [f A,f B];exact h.filter _
theorem QnU (hp:Qbi S p=true) (asc:AscC L) (pm:(L.map Ce.key).Perm ((QaL S).map Ce.key)):(S.map Sd.nm).map (fun u=>(u,(L.filter (QbP (S.map Sd.nm) u)).map Ce.key))=S.map Sd.key:=by
 obtain ⟨hs,ab⟩:=Qay hp;have own:∀ t∈S,∀ c∈t.L,QaR (S.map Sd.nm) c.s t.nm:=fun t ht c hc=>(ab.p (t.nm,c) (by unfold fcS;exact List.mem_flatMap.2 ⟨t,ht,List.mem_map.2 ⟨c,hc,rfl⟩⟩)).2;have ap:=Qmi hs;rw [List.map_map];refine List.map_congr_left (fun s hm=>?_)
 show (s.nm,_)=(s.nm,_)
 refine congrArg _ ?_;have sh:=QdA hs hm;unfold shB at sh;refine Qgl (asc.sublist List.filter_sublist) (csR_iff.1 (Bool.and_eq_true_iff.1 sh).2).2.2 ((Qp4 pm _ _).trans ?_)
 have e:(QaL S).filter (QbP (S.map Sd.nm) s.nm)=s.L:=by
  obtain ⟨A,B,hS⟩:=List.append_of_mem hm;have ea:QaL S=QaL A ++ (s.L ++ QaL B):=by rw [hS];simp [QaL]
  rw [hS] at ap;obtain ⟨_,p2,p3⟩:=List.pairwise_append.1 ap;obtain ⟨p4,_⟩:=List.pairwise_cons.1 p2;have no:∀ t∈S,t.nm≠s.nm->∀ c∈t.L,¬ QbP (S.map Sd.nm) s.nm c=true:=fun t ht hne c hc q=>hne (Qet (own t ht c hc) (ownB_iff.1 q));rw [ea,List.filter_append,List.filter_append]
  have n1:(QaL A).filter (QbP (S.map Sd.nm) s.nm)=[]:=List.filter_eq_nil_iff.2 (fun c hc=>by
   obtain ⟨t,ht,aa⟩:=Qbr hc;exact no t (by rw [hS];exact List.mem_append_left _ ht) (p3 t ht s List.mem_cons_self) c aa)
  have n2:(QaL B).filter (QbP (S.map Sd.nm) s.nm)=[]:=List.filter_eq_nil_iff.2 (fun c hc=>by
   obtain ⟨t,ht,aa⟩:=Qbr hc;exact no t (by rw [hS];exact List.mem_append_right _ (List.mem_cons_of_mem _ ht)) (fun q=>p4 t ht q.symm) c aa)
  have n3:s.L.filter (QbP (S.map Sd.nm) s.nm)=s.L:=List.filter_eq_self.2 (fun c hc=>ownB_iff.2 (own s hm c hc));rw [n1,n2,n3];simp
 rw [e]
variable {u:ByteArray}
theorem QqL {y:ByteArray} (h:y≠u):(!(y.toList == u.toList))=true:=List.filter_eq_self.1 (Qgb (u:=u) (K:=[y]) (by simpa using Ne.symm h)) y (by simp)
theorem Qm3 {u:ByteArray}:∀ {K:List ByteArray},u ∉ K->QaU (QbL K u) u=K
 | [],_=>by simp [QaU,QbL]
 | y :: r,h=>by
  have hy:y≠u:=fun e=>h (by rw [e];exact List.mem_cons_self);unfold QbL
  split
  ·have ih:=Qm3 (u:=u) (K:=r) (fun q=>h (ZZm _ q))
   unfold QaU at ih ⊢;rw [List.filter_cons,if_pos (QqL hy),ih]
  ·try rw [if_neg hy]
   have ih:=Qgb (u:=u) (K:=y :: r) h;unfold QaU at ih ⊢;rw [List.filter_cons,if_neg (by simp),ih]
variable {KC:List (Int×ByteArray×Ag)}
section
variable {S M:List Sd} {p q:Pi} {mm:ByteArray} {c7:Int} {b7 b8:Bool} {K:List ByteArray} {KM:List (ByteArray×List (Int×ByteArray×Ag))} {L:List Ce}
theorem MbR.ok (h:MbR S p mm c7 b7 b8 K q KM 0) (h7:c7≠0):Qbi S p=true/\QaB mm=true/\b7=false/\b8=false/\q=p/\∃ L:List Ce,AscC L/\(L.map Ce.key).Perm ((QaL S).map Ce.key)/\KM=K.map (fun u=>(u,(L.filter (QbP K u)).map Ce.key)):=by
 unfold MbR at h
 split at h
 ·rename_i c;exact absurd h.1.symm c
 ·rename_i c
  split at h
  ·exact absurd h.1.symm h7
  ·rename_i c7
   split at h
   ·exact absurd h.1 (by decide)
   ·rename_i c8
    have r:=mfC_0 c;exact ⟨r.1,r.2,by simpa using c7,by simpa using c8,h.2.1,h.2.2⟩
structure Shr (S M:List Sd) (p:Pi) (K:List ByteArray):Prop where
 r:Qbi M p=true
 pm:((QaL M).map Ce.key).Perm ((QaL S).map Ce.key)
 n:M.map Sd.nm=K
 l:M.length=K.length
 g:GdK 1 (M.map Sd.key)
theorem QmK (g:GdK 1 (S.map Sd.key)) (hp:Qbi S p=true) (hK:Qag K=true) (asc:AscC L) (pm:(L.map Ce.key).Perm ((QaL S).map Ce.key)) (e:M.map Sd.key=K.map (fun u=>(u,(L.filter (QbP K u)).map Ce.key))):Shr S M p K:=by
 obtain ⟨h1,h2⟩:=QqP hp hK asc pm e;have hl:=congrArg List.length e;rw [yA,yA] at hl;have ac:=Qa8 hK;have ad:(QaL S).length<=60:=by rw [<- Qem,yA];exact (Qay hp).2.l
 have lL:L.length=(QaL S).length:=by have:=pm.length_eq;rw [yA,yA] at this;exact this
 refine ⟨h1,h2,?_,hl,?_,?_⟩
 ·have h:=congrArg (List.map Prod.fst) e
  rw [List.map_map,List.map_map] at h;exact h.trans (List.map_id'' (fun _=>rfl) K)
 ·rw [yA];omega
 ·rw [e]
  intro x hx;obtain ⟨u,hu,rfl⟩:=List.mem_map.1 hx;have h5:=Qb3 (Qbx hK hu);refine ⟨by show u.size<=_;omega,?_,fun c hc=>?_⟩
  ·have:=List.length_filter_le (QbP K u) L
   show (((L.filter (QbP K u)).map Ce.key).length:Int)<=300+1
   rw [yA];omega
  ·obtain ⟨d,hd,rfl⟩:=List.mem_map.1 hc
   obtain ⟨d',aa,ed⟩:=List.mem_map.1 (pm.mem_iff.1 (List.mem_map_of_mem (List.mem_filter.1 hd).1));obtain ⟨s,hs,ab⟩:=Qbr aa;rw [<- ed];exact (g.sh hs).2.2 d' ab
theorem QuC (h:u ∉ K):(QbL K u).length=K.length+1:=by rw [(Qdv h).length_eq,List.length_cons]
theorem Qse (nd:K.Nodup) (h:u∈K):(QaU K u).length+1=K.length:=by
 obtain ⟨A,R,rfl⟩:=List.append_of_mem h;rw [QiK nd];simp;omega
theorem JnR.shr (g:GdK 1 (S.map Sd.key)) (h:JnR S p mm q (M.map Sd.key) KC 0):p=q/\Qbi S p=true/\Shr S M p (QbL (S.map Sd.nm) mm)/\mm ∉ S.map Sd.nm/\QaB mm=true/\M.length=S.length+1:=by
 obtain ⟨h1,h2,h3,h4,rfl,L,h5,h6,h7⟩:=h.1.ok (by decide);have hs:=QmK g h1 (joinK h1 h2 h3 h4) h5 h6 h7;have hn:mm ∉ S.map Sd.nm:=fun q=>by rw [Qdl q] at h3;cases h3
 exact ⟨rfl,h1,hs,hn,h2,by rw [hs.l,QuC hn,yA]⟩
theorem LeR.shr (g:GdK 1 (S.map Sd.key)) (h:LeR S p mm q (M.map Sd.key) KC 0):p=q/\Qbi S p=true/\Shr S M p (QaU (S.map Sd.nm) mm)/\M.length+1=S.length:=by
 obtain ⟨h1,h2,h3,h4,rfl,L,h5,h6,h7⟩:=h.1.ok (by decide);have hs:=QmK g h1 (leaveK h1 h2 h3 h4) h5 h6 h7;have hn:mm∈S.map Sd.nm:=inK_iff.1 (by simpa using h3);have hl:=Qse (Qbo (QaW (Qbs (Qay h1).1))) hn;rw [yA] at hl;exact ⟨rfl,h1,hs,by rw [hs.l];omega⟩
theorem Qry {N:List Sd} {r:Pi} {cd:Int} (hp:Qbi S p=true) (hs:Shr S M p (QbL (S.map Sd.nm) mm)) (hn:mm ∉ S.map Sd.nm) (hm:QaB mm=true) (hl:M.length=S.length+1) (h:LeR M p mm r (N.map Sd.key) KC cd):cd=0/\N.map Sd.key=S.map Sd.key:=by
 have h:=h.1;have aa:=Qa8 (Qbs (Qay hp).1);rw [yA] at aa;have sz:=Qb3 hm
 have m0:mfC M p mm=0:=by
  unfold mfC;rw [if_neg (by omega),if_neg (by rw [hs.r,hm];simp)]
 have hi:inK (M.map Sd.nm) mm=true:=by rw [hs.n];exact Qdl ((Qdv hn).mem_iff.2 List.mem_cons_self)
 unfold MbR at h;rw [if_neg (by rw [m0];simp),hi,if_neg (by simp),if_neg (by rw [decide_eq_true_eq];omega),hs.n,Qm3 hn] at h;obtain ⟨h1,_,L,h3,h4,h5⟩:=h;exact ⟨h1,by rw [h5];exact QnU hp h3 (h4.trans hs.pm)⟩
theorem Shr.cells {w1' w2':World} {v1 v2:Value} {R1 R2:List Ce} (hp:Qbi S p=true) (hs:Shr S M p K) (h:PcA w1 w1' M p v1 R1) (k:PcA w2 w2' S p v2 R2):R1.map Ce.key=R2.map Ce.key/\R2.length<=60:=by
 obtain ⟨a1,p1⟩:=h.y hs.r;obtain ⟨a2,p2⟩:=k.y hp;refine ⟨Qgl a1 a2 (p1.trans (hs.pm.trans p2.symm)),?_⟩;have aa:(QaL S).length<=60:=by rw [<- Qem,yA];exact (Qay hp).2.l
 have:=p2.length_eq;rw [yA,yA] at this;omega
theorem PcA.fit {v:Value} {R:List Ce} (g:GdK 1 (S.map Sd.key)) (hp:Qbi S p=true) (h:PcA w w' S p v R):∃ a c,v=.slice a R.length c/\R.length<=60/\(∀ c∈R,AgSm c.g)/\QbV w' a R:=by
 obtain ⟨a,c,rfl,_⟩:=h.r.form;obtain ⟨_,pm⟩:=h.y hp;have ab:(QaL S).length<=60:=by rw [<- Qem,yA];exact (Qay hp).2.l
 have hl:=pm.length_eq;rw [yA,yA] at hl;refine ⟨a,c,rfl,by omega,fun c hc=>?_,h.r.at h.o.at⟩;obtain ⟨d,hd,ed⟩:=List.mem_map.1 (pm.mem_iff.1 (List.mem_map_of_mem hc));obtain ⟨s,hs,aa⟩:=Qbr hd;have e:d.g=c.g:=congrArg (fun x=>x.2.2) ed;rw [<- e];exact ((g.sh hs).2.2 d aa).2.1
end
end Go.Proofs.YtlejlgldgafljaaGreatDoor
