/-
 Parts.
-/
import Derived.Test.YtlejlgldgafljaaGreatDoorKWI
import Derived.Test.YtlejlgldgafljaaGreatDoorKCE
set_option maxRecDepth 10000
set_option maxHeartbeats 8000000
set_option linter.all false
namespace Go.Proofs.YtlejlgldgafljaaGreatDoor
open Go.ChangeShapes Go.WideShapes Go.ChangeAt Go.RowKit Go.PlainAid Go.Lib Go.Maps Tryz
variable {w w':World}
variable {ao:Option Addr}
variable {ln:Nat}
section
theorem Qpw {K B:Nat} (h:Qbd w K ao ln) (hb:Below K w w') (hw:K<=w.heap.size) (hK:K<=B):Qbd w' B ao ln:=by
 refine ⟨h.1,fun h0=>?_⟩;obtain ⟨b,aa,e,ab,hc⟩:=h.2 h0
 exact ⟨b,aa,e,by omega,fun i hi=>by
  obtain ⟨x,hx,h1,h2⟩:=hc i hi;refine ⟨x,?_,h1,h2⟩;rw [show w'.cell? ⟨b,aa+i,none⟩=w.cell? ⟨b,aa+i,none⟩ from ?_];exact hx;unfold World.cell?;rw [hb.block b ab]⟩
end
section
theorem QmQ (g:Ag):QaH g g=true:=by simp [QaH,Qa4,Qbq]
theorem QgM:∀ L:List Ce,QbS L L=true
 | []=>rfl
 | c :: L=>by
  show (QeM c c && QbS L L)=true
  rw [QgM L,Bool.and_true];unfold QeM;rw [QmQ];simp
theorem QrC {L M:List Ce} (k:L.map Ce.key=M.map Ce.key) (l:M.length<=400):csB L M=true:=by
 rw [Qua k rfl];unfold csB;rw [QgM];simp [l]
end
variable {S T:List Sd}
theorem QmL {bo:Option Addr} {n ca cb:Nat} (hS:PpI w ao n S) (hT:PpI w bo n T) (hk:T.map Sd.key=S.map Sd.key) (hl:∀ s∈S,s.L.length<=400) :
  Calls prog 8 #[.slice ao n ca,.slice bo n cb] w fun e w'=>e=.returned (.bool true)/\Below w.heap.size w w':=by
 have HS:=Qaa hS;have HT:=Qaa hT;have HK:=Qaa hk;have HL:=Qaa hl;have hn:n<=1048576:=by have:=hS.n;have:=hS.sm.n;omega
 clear hS hT hk hl;go_enter func8,ntmps8;go_wp2_with fail
 go_loopw [5] (fun i wr=>∃ k:Nat,k<=n/\i=.int .i64 k/\Hid (Below w.heap.size w wr)) (fun i wr=>n - (Go.RowKit.intOf i).toNat)
 case atStart=>exact ⟨0,ZZj _,rfl,Qaa (ZZb _ _)⟩
 case round=>
  obtain ⟨k,hk,rfl,HB⟩:=hrel;by_cases au:k<n
  ·have ac:(k:Int)<(n:Int):=by omega
   have aq:(0:Int)<=(k:Int):=by omega
   have ar:IntKind.i64.wrap ((k:Int)+1)=((k+1:Nat):Int):=by rw [show (k:Int)+1=((k+1:Nat):Int) by omega];exact ZZi _ ⟨by omega,by omega⟩
   obtain ⟨s,hs⟩:∃ s,S[k]?=some s:=⟨S[k]'(by have:=HS.out.n;omega),ZZe _⟩;obtain ⟨t,ht⟩:∃ t,T[k]?=some t:=⟨T[k]'(by have:=HT.out.n;omega),ZZe _⟩;obtain ⟨e1,e2,e3⟩:=Qd3 (Qr2 HK ht hs);obtain ⟨b1,o1,ea,ae⟩:=HS.out.at'.1 (by have:=HS.out.n;omega);obtain ⟨b2,o2,eb,af⟩:=HT.out.at'.1 (by have:=HT.out.n;omega);subst ea;subst eb;have ms:=ZZn hs;have mt:=ZZn ht;have FA:Hid (∀ W,Below wr.heap.size wr W->W.cell? ⟨b1,o1+k*2,none⟩=some (.string s.nm)/\W.cell? ⟨b1,o1+k*2+1,none⟩=some (.slice s.ao s.L.length s.cp)):=Qaa (fun W hW=>Qbt (ae k s hs) (Qac HB hW));have FB:Hid (∀ W,Below wr.heap.size wr W->W.cell? ⟨b2,o2+k*2,none⟩=some (.string s.nm)/\W.cell? ⟨b2,o2+k*2+1,none⟩=some (.slice t.ao t.L.length t.cp)):=Qaa (fun W hW=>by rw [<- e1];exact Qbt (af k t ht) (Qac HB hW));have am:=Qaa (QrC (L:=s.L) (M:=t.L) e2.symm (by have:=HL.out s ms;omega));have ag:Hid (s.L.length<=1048576):=Qaa (HS.out.sm.l s ms);have al:Hid (t.L.length<=1048576):=Qaa (HT.out.sm.l t mt);have ai:=Qaa (HS.out.sm.sm s ms);have ak:=Qaa (HT.out.sm.sm t mt);have ah:=Qaa (QaD (HS.out.at'.2 s ms) HB);have an:=Qaa (QaD (HT.out.at'.2 t mt) HB);have ap:(s.nm.toList == s.nm.toList)=true:=by simp
   clear hs ht e1 e2 e3 ae af ms mt;go_upto_region 6 with fail;have aa:Below wr.heap.size wr wr.drew:=(ZZb _ _).drew;refine Qal (fun W=>Below wr.heap.size wr W) 99 (by kernel_rfl) ?_;refine tkS 0 (.slice (some ⟨b1,o1,none⟩) n ca) aa ?_;refine tkS 1 (.int .i64 k) aa ?_;refine tkS 2 (.pointer (some ⟨b1,o1+k*2,none⟩)) aa ?_;simp only [sX];refine tkS 3 (.pointer (some ⟨b1,o1+k*2,none⟩)) aa ?_;refine tkL 4 (.string s.nm) aa (fun W hW=>?_) ?_
   ·obtain ⟨p0,p1⟩:=FA.out W hW
    obtain ⟨p2,p3⟩:=FB.out W hW;clear hW;go_simp
   refine tkS 5 (.slice (some ⟨b2,o2,none⟩) n cb) aa ?_;simp only [sX];refine tkS 6 (.int .i64 k) aa ?_;refine tkS 7 (.pointer (some ⟨b2,o2+k*2,none⟩)) aa ?_;refine tkS 8 (.pointer (some ⟨b2,o2+k*2,none⟩)) aa ?_;simp only [sX];refine tkL 9 (.string s.nm) aa (fun W hW=>?_) ?_
   ·obtain ⟨p0,p1⟩:=FA.out W hW
    obtain ⟨p2,p3⟩:=FB.out W hW;clear hW;go_simp
   refine tkS 10 (.bool false) aa ?_;refine tkS 11 (.bool false) aa ?_;simp only [sX];refine tkS 12 (.slice (some ⟨b1,o1,none⟩) n ca) aa ?_;refine tkS 13 (.int .i64 k) aa ?_;refine tkS 14 (.pointer (some ⟨b1,o1+k*2,none⟩)) aa ?_;simp only [sX];refine tkS 15 (.pointer (some ⟨b1,o1+k*2+1,none⟩)) aa ?_;refine tkL 16 (.slice s.ao s.L.length s.cp) aa (fun W hW=>?_) ?_
   ·obtain ⟨p0,p1⟩:=FA.out W hW
    obtain ⟨p2,p3⟩:=FB.out W hW;clear hW;go_simp
   refine tkS 17 (.slice (some ⟨b2,o2,none⟩) n cb) aa ?_;simp only [sX];refine tkS 18 (.int .i64 k) aa ?_;refine tkS 19 (.pointer (some ⟨b2,o2+k*2,none⟩)) aa ?_;refine tkS 20 (.pointer (some ⟨b2,o2+k*2+1,none⟩)) aa ?_;simp only [sX];refine tkL 21 (.slice t.ao t.L.length t.cp) aa (fun W hW=>?_) ?_
   ·obtain ⟨p0,p1⟩:=FA.out W hW
    obtain ⟨p2,p3⟩:=FB.out W hW;clear hW;go_simp
   simp only [sX];refine onE 22 fun K hK=>?_;go_simp;refine (QiO rfl rfl ag al ai ak (QaD ah aa) (QaD an aa)).mono ?_;rintro e w5 ⟨rfl,ad⟩;rw [am.out];have ab:Below wr.heap.size wr w5:=Qac aa ad;clear ad;dsimp only;refine gK hK ab ?_
   try simp only [sX]
   refine tkS 23 (.bool false) ab ?_;refine tkS 24 (.bool false) ab ?_;simp only [sX];refine dnE ?_ _;have aj:=Qaa (Qac HB ab);go_wp2;go_roundw
   case rel=>exact ⟨k+1,by omega,by first | rfl | go_num,aj⟩
   case measure=>simp [zI];omega
  ·have ac:¬ (k:Int)<(n:Int):=by omega
   go_wp2;go_ret;exact ⟨rfl,HB⟩
structure TkD (W0:World) (K:Nat) (ao:Option Addr) (ln cap:Nat) (w wr:World) (c:Nat) (ax:Option Addr) (n cp:Nat) (p:Pi) (M:List Sd):Prop where
 src:Src W0 K ao ln cap K wr
 res:wr.heap[w.heap.size]?=some (.cells (Qaf (.slice none 0 0) q0) 25 (0,0))
 row:wr.heap[c]?=some (.cells (Qaf (.slice ax n cp) p) 25 (0,0))
 hk:w.heap.size<K
 lk:K<c
 r:OwnD wr (K+1) (.slice ax n cp) M
 o:LvO wr (K+1) M
 b:Below w.heap.size w wr
section
variable {W0 w wr w1:World} {K ln cap c n cp:Nat} {ao ax:Option Addr} {p:Pi} {M:List Sd}
theorem TkD.step (h:TkD W0 K ao ln cap w wr c ax n cp p M) (hS:Src W0 K ao ln cap K w1) (hg:wr.grownBy w1 (some K)):TkD W0 K ao ln cap w w1 c ax n cp p M:=by
 have z1:=h.hk;have z2:=h.lk;have z:=(ZZc.1 h.row).1;have g:GrownS wr w1 (fun k=>k=K):=(grS hg).weak (fun k e=>by injection e with e;exact e.symm);have hp:=PpB.of h.r h.o;exact ⟨hS,g.row h.res (by omega),g.row h.row (by omega),h.hk,h.lk,h.r.keptS g (fun k q e=>by have:=(hp.hi k (.inl q)).1;omega),h.o.keptS g (fun x hx k q e=>by have:=(hp.hi k (.inr ⟨x,hx,q⟩)).1;omega),g.below h.b (by omega) (fun k e=>by omega)⟩
theorem TkD.drew (h:TkD W0 K ao ln cap w wr c ax n cp p M):TkD W0 K ao ln cap w wr.drew c ax n cp p M:=
 have hb:Below wr.heap.size wr wr.drew:=(ZZb _ _).drew
 h.step (QaK h.src hb) ⟨hb.os,hb.tape,hb.output,hb.size,fun j hj _=>hb.block j hj⟩
theorem TkD.set5 (h:TkD W0 K ao ln cap w wr c ax n cp p M) (v0 v1 v2 v3 v4:Value) {X:World} (hX:X=((((wr.setCell ⟨w.heap.size,0,none⟩ v0).setCell ⟨w.heap.size,1,none⟩ v1).setCell ⟨w.heap.size,2,none⟩ v2).setCell ⟨w.heap.size,3,none⟩ v3).setCell ⟨w.heap.size,4,none⟩ v4) :
  X.heap[c]?=some (.cells (Qaf (.slice ax n cp) p) 25 (0,0))/\OwnD X w.heap.size (.slice ax n cp) M/\LvO X w.heap.size M/\Below w.heap.size w X:=by
 have z1:=h.hk;have z2:=h.lk;have z:=(ZZc.1 h.row).1;have g:=Qps wr w.heap.size v0 v1 v2 v3 v4;rw [<- hX] at g;have hp:=PpB.of h.r h.o;exact ⟨g.row h.row (by omega),(h.r.keptS g (fun k q e=>by have:=(hp.hi k (.inl q)).1;omega)).le (by omega),(h.o.keptS g (fun x hx k q e=>by have:=(hp.hi k (.inr ⟨x,hx,q⟩)).1;omega)).le (by omega),g.below h.b (by omega) (fun k e=>by omega)⟩
end
theorem Qhb {cap:Nat} (hc:Qbd w w.heap.size ao ln) :
  Calls prog 5 #[.slice ao ln cap] w fun e w'=>∃ ax n cp p M v,e=.returned (.tuple #[.agg (Qaf (.slice ax n cp) p),.int .i64 v])/\I64 v/\OwnD w' w.heap.size (.slice ax n cp) M/\LvO w' w.heap.size M/\GdK 1 (M.map Sd.key)/\PcB 1 p/\Below w.heap.size w w':=by
 have a0:Below w.heap.size w (w.alloc (.cells (Qaf (.slice none 0 0) q0) 25)):=(ZZb _ _).alloc (ZZa _) _;have HC:=Qaa (Qpw (B:=(w.alloc (.cells (Qaf (.slice none 0 0) q0) 25)).heap.size) hc a0 (ZZa _) a0.size);have HR:=Qaa (ZZk w (.cells (Qaf (.slice none 0 0) q0) 25));have ae:=Qaa a0;have HZ:Hid ((w.alloc (.cells (Qaf (.slice none 0 0) q0) 25)).heap.size=w.heap.size+1):=Qaa (by simp);clear hc a0;go_enter func5,ntmps5;go_wp2_with fail;generalize w.alloc (.cells (Qaf (.slice none 0 0) q0) 25)=W0 at HC HR ae HZ ⊢;obtain ⟨K,hK⟩:∃ K,W0.heap.size=K:=⟨_,rfl⟩;rw [hK] at HC HZ;refine (QkV (K:=K) _ _ _ _ hK HC).mono ?_;rintro e w1 ⟨rfl,ag⟩;have ab:=Qaa ag;clear ag;go_wp2_with fail;refine (Qn6 HC ab).mono ?_;rintro e w2 ⟨ax,n,cp,p,M,rfl,ai,ac,r2,o2,gd,pc⟩;have ah:=Qaa gd;have af:=Qaa pc;have a2:Below w2.heap.size w2 (w2.alloc (.cells (Qaf (.slice ax n cp) p) 25)):=(ZZb _ _).alloc (ZZa _) _
 have HD:Hid (TkD W0 K ao ln cap w (w2.alloc (.cells (Qaf (.slice ax n cp) p) 25)) w2.heap.size ax n cp p M):=by
  have z0:=HZ.out;have z1:=Qcs ab;have z2:=ac.size;have b1:Below W0.heap.size W0 w1:=by rw [hK];exact ab.out.bel
  have ad:w2.heap[w.heap.size]?=some (.cells (Qaf (.slice none 0 0) q0) 25 (0,0)):=(ac.block _ (by omega) (fun e=>by cases e;omega)).trans (Qam HR b1);have bb:Below w.heap.size w w2:=(Qac ae b1).grown ac (by omega) (fun k e=>by cases e;omega);exact Qaa ⟨QaK ai a2,Qam ad a2,ZZk w2 _,by omega,by omega,(r2.le (by omega)).past a2,(o2.le (by omega)).past a2,Qac bb a2⟩
 clear ai ac r2 o2 gd pc a2 ab HR ae HZ hK;go_upto_region 3 with fail;generalize w2.alloc (.cells (Qaf (.slice ax n cp) p) 25)=W3 at HD ⊢;generalize w2.heap.size=c at HD ⊢;go_wp2_with fail;refine (QeX HC HD.out.src 8 (by omega)).mono ?_;rintro e wr ⟨b7,rfl,hS,hg⟩;have aj:=Qaa (HD.out.step hS hg);clear hS hg HD;obtain ⟨HD,ak⟩:∃ x:Hid (TkD W0 K ao ln cap w wr c ax n cp p M),x=aj:=⟨_,rfl⟩;clear ak aj
 cases b7 with
 | true=>
  go_upto_region 4 with fail;have S0:wr.drew.heap[c]?=some (.cells (Qaf (.slice ax n cp) p) 25 (0,0)):=HD.out.drew.row;refine Qal (fun X=>X.heap[c]?=some (.cells (Qaf (.slice ax n cp) p) 25 (0,0))) 4 (by kernel_rfl) ?_;refine tkL 0 (.agg (Qaf (.slice ax n cp) p)) S0 (fun W hW=>?_) ?_
  ·obtain ⟨x0,x1,x2,x3,x4⟩:=Qa0 hW
   clear hW;go_simp
  refine tkS 1 (.pointer (some ⟨K,0,none⟩)) S0 ?_;simp only [sX];refine onE 2 fun K hK=>?_;go_simp;refine (QrP HC HD.out.drew.src).mono ?_;rintro e w5 ⟨v,rfl,hv,hS,hg⟩;have HV:=Qaa hv;clear hv;have aa:=Qaa (HD.out.drew.step hS hg);have S5:=aa.out.row;clear hS hg;dsimp only;refine gK hK S5 ?_
  try simp only [sX]
  obtain ⟨y0,y1,y2,y3,y4⟩:=Qa0 aa.out.res;obtain ⟨f0,f1,f2,f3,f4⟩:=fA5 aa.out.res;have S6:=aa.out.set5 (.slice ax n cp) (.int .i64 p.a) (.int .i64 p.b) (.int .i64 p.c) (.int .i64 p.d) rfl;refine onE 3 fun K hK=>?_;go_simp;refine gK hK S6.1 ?_
  try simp only [sX]
  refine onE 4 fun K hK=>?_;go_simp;refine hK.out _ _ (fun h=>absurd rfl h) ?_
  try simp only [sX]
  refine dnE ?_ _;have HF:=Qaa S6.2;clear S6 S5;go_wp2;refine bodyPost_ret (v:=.tuple #[.agg (Qaf (.slice ax n cp) p),.int .i64 v]) (by simp [results,results5,go_sem,y0,y1,y2,y3,y4]) rfl ?_;exact ⟨ax,n,cp,p,M,v,rfl,HV,HF.out.1,HF.out.2.1,ah,af,HF.out.2.2⟩
 | false=>
  go_upto_region 5 with fail;have S0:wr.drew.heap[c]?=some (.cells (Qaf (.slice ax n cp) p) 25 (0,0)):=HD.out.drew.row;refine Qal (fun X=>X.heap[c]?=some (.cells (Qaf (.slice ax n cp) p) 25 (0,0))) 4 (by kernel_rfl) ?_;refine tkL 0 (.agg (Qaf (.slice ax n cp) p)) S0 (fun W hW=>?_) ?_
  ·obtain ⟨x0,x1,x2,x3,x4⟩:=Qa0 hW
   clear hW;go_simp
  refine tkS 1 (.pointer (some ⟨K,0,none⟩)) S0 ?_;simp only [sX];refine onE 2 fun K hK=>?_;go_simp;refine (c_n HC HD.out.drew.src 30 (by omega)).mono ?_;rintro e w5 ⟨v,rfl,v0,v1,_,hS,hg⟩;have HV:Hid (I64 v):=Qaa (by have:=v1 (by omega);unfold I64;omega);clear v0 v1;have aa:=Qaa (HD.out.drew.step hS hg);have S5:=aa.out.row;clear hS hg;dsimp only;refine gK hK S5 ?_
  try simp only [sX]
  obtain ⟨y0,y1,y2,y3,y4⟩:=Qa0 aa.out.res;obtain ⟨f0,f1,f2,f3,f4⟩:=fA5 aa.out.res;have S6:=aa.out.set5 (.slice ax n cp) (.int .i64 p.a) (.int .i64 p.b) (.int .i64 p.c) (.int .i64 p.d) rfl;refine onE 3 fun K hK=>?_;go_simp;refine gK hK S6.1 ?_
  try simp only [sX]
  refine onE 4 fun K hK=>?_;go_simp;refine hK.out _ _ (fun h=>absurd rfl h) ?_
  try simp only [sX]
  refine dnE ?_ _;have HF:=Qaa S6.2;clear S6 S5;go_wp2;refine bodyPost_ret (v:=.tuple #[.agg (Qaf (.slice ax n cp) p),.int .i64 v]) (by simp [results,results5,go_sem,y0,y1,y2,y3,y4]) rfl ?_;exact ⟨ax,n,cp,p,M,v,rfl,HV,HF.out.1,HF.out.2.1,ah,af,HF.out.2.2⟩
theorem fdPi (a:Option Addr) (m c:Nat) (p:Pi) (w:World):(Instr.field 25 (.agg (Qaf (.slice a m c) p)) 3).run prog w=.ok (.int .i64 p.c) w:=by kernel_rfl
theorem Qnz (S:List Sd) (p:Pi) (n:Int):Qco S p n=⟨p.a,p.b,(Qco S p n).c,p.d⟩:=by unfold Qco;split <;> rfl
variable {p:Pi}
variable {n:Int}
theorem Qte (h:QbD S p=true) (h0:0<=n) (h1:n<=1000000000 - p.c):Qco S p n=⟨p.a,p.b,p.c+n,p.d⟩:=by unfold Qco;rw [if_pos ⟨h,h0,h1⟩]
theorem tickN (h:¬ (QbD S p=true/\0<=n/\n<=1000000000 - p.c)):Qco S p n=p:=by unfold Qco;rw [if_neg h]
theorem pip_on {k:Int} (h:QbD S p=true) (e:T.map Sd.key=S.map Sd.key) (h0:0<=k) (h1:k<=1000000000 - p.c):QbD T ⟨p.a,p.b,p.c+k,p.d⟩=true:=by
 obtain ⟨a1,a2,b1,b2,c1,c2,d1,d2⟩:=QeK h;rw [Qld e];unfold QbD at h ⊢;rw [Bool.and_eq_true] at h ⊢;refine ⟨?_,h.2⟩;unfold QgS inB;simp only [Bool.and_eq_true,decide_eq_true_eq];omega
theorem PpI8 {a:Option Addr} {c:Nat} {M:List Sd} (g:GdK 1 (S.map Sd.key)) (h:CpP w w' S (.slice a M.length c) M):PpI w' a M.length M:=GdK.pp (k:=1) (by omega) (by rw [h.ky];exact g) h.r h.o
theorem Qqp (ao:Option Addr) (ln cap:Nat) (bo:Option Addr) (lm cbp:Nat) (w:World) (hl:ln<=maxLen) (ha:ln<=1048576->Qbd w w.heap.size ao ln) (hm:lm<=maxLen) (hb:lm<=1048576->Qbd w w.heap.size bo lm) (hx:MX w) :
  Calls prog 3 #[.slice ao ln cap,.slice bo lm cbp] w fun e w'=>e=.returned (.bool true)/\Below w.heap.size w w':=by
 have bk:ln<=9223372036854775807:=hl;have be:lm<=9223372036854775807:=hm;by_cases bf:1048576<ln
 ·have az:(1048576:Int)<(ln:Int):=by omega
  clear ha hb;go_enter func3,ntmps3;go_wp2;go_ret;exact ⟨rfl,ZZb _ _⟩
 have az:¬ (1048576:Int)<(ln:Int):=by omega
 by_cases bc:1048576<lm
 ·have aE:(1048576:Int)<(lm:Int):=by omega
  clear ha hb;go_enter func3,ntmps3;go_wp2;go_ret;exact ⟨rfl,ZZb _ _⟩
 have aE:¬ (1048576:Int)<(lm:Int):=by omega
 have aY:=Qaa (ha (by omega));have aX:=Qaa (hb (by omega));have aF:=Qaa hx;clear ha hb hx;go_enter func3,ntmps3;go_wp2_with fail;refine (Qhb aY).mono ?_;rintro e w1 ⟨ax,n,cp,p,M,v,rfl,hv,r1,o1,gd,pc,aR⟩;have aC:Below w1.heap.size w1 (w1.alloc (.cells (Qaf (.slice ax n cp) p) 25)):=(ZZb _ _).alloc (ZZa _) _;have ai:=Qaa ((GdK.pp (by omega) gd r1 o1).past aC);have av:=Qaa gd;have aw:=Qaa (Qac aR aC);have af:=Qaa (ZZk w1 (.cells (Qaf (.slice ax n cp) p) 25));have aK:M.length=n:=Qc0 r1;have a4:=Qaa aK;clear aK gd r1 o1 aR aC;go_upto_region 4 with fail;generalize w1.alloc (.cells (Qaf (.slice ax n cp) p) 25)=W1 at ai aw af ⊢;generalize w1.heap.size=bP at af ⊢;obtain ⟨y0,y1,y2,y3,y4⟩:=Qa0 af;go_wp2_with fail;clear y0 y1 y2 y3 y4;refine (Qdd p v (aF.out.past aw) ai).mono ?_;rintro e w2 ⟨v2,M2,rfl,hC⟩;obtain ⟨qc,aB⟩:∃ q,(Qco M p v).c=q:=⟨_,rfl⟩;have aM:Hid (Qco M p v=⟨p.a,p.b,qc,p.d⟩):=Qaa (by rw [<- aB];exact Qnz M p v);obtain ⟨a2,c2,rfl,_⟩:=hC.r.form;have aL:M2.length=n:=by have h:=congrArg List.length hC.ky;rw [List.length_map,List.length_map,a4.out] at h;exact h
 rw [aL] at hC ⊢;rw [aM.out];have aI:Below w2.heap.size w2 (w2.alloc (.cells (Qaf (.slice a2 n c2) ⟨p.a,p.b,qc,p.d⟩) 25)):=(ZZb _ _).alloc (ZZa _) _;have ak:=Qaa (Qac hC.b aI);have aN:=Qaa ((GdK.pp (k:=1) (by omega) (by rw [hC.ky];exact av.out) hC.r hC.o).past aI);have aW:=Qaa hC.ky.symm;have aU:Hid (∀ s∈M2,s.L.length<=400):=Qaa (fun s hs=>by have:=(GdK.sh (k:=1) (by rw [hC.ky];exact av.out) hs).2.1;omega);have ah:=Qaa (Qam af ak);have ae:=Qaa (ZZk w2 (.cells (Qaf (.slice a2 n c2) ⟨p.a,p.b,qc,p.d⟩) 25));have aS:=Qaa aB;clear hC aI aL af aB;go_upto_region 5 with fail;generalize w2.alloc (.cells (Qaf (.slice a2 n c2) ⟨p.a,p.b,qc,p.d⟩) 25)=W2 at ak aN ah ae ⊢;generalize w2.heap.size=bX at ae ⊢
 go_cut [53] (fun b w'=>b=.bool false/\Hid (Below W2.heap.size W2 w'))
 case first=>
  have ba:(p.a == p.a)=true:=by simp
  have bm:(p.d == p.d)=true:=by simp
  have aJ:(qc == qc)=true:=by simp
  have aa:Below W2.heap.size W2 W2.drew:=(ZZb _ _).drew;refine Qal (fun W=>Below W2.heap.size W2 W) 99 (by kernel_rfl) ?_;refine tkS 0 (.pointer (some ⟨bX,3,none⟩)) aa ?_;refine tkL 1 (.int .i64 qc) aa (fun W hW=>?_) ?_
  ·obtain ⟨x0,x1,x2,x3,x4⟩:=Qa0 (Qam ae hW)
   obtain ⟨y0,y1,y2,y3,y4⟩:=Qa0 (Qam ah hW);clear hW;go_simp
  refine tkL 2 (.agg (Qaf (.slice ax n cp) p)) aa (fun W hW=>?_) ?_
  ·obtain ⟨x0,x1,x2,x3,x4⟩:=Qa0 (Qam ae hW)
   obtain ⟨y0,y1,y2,y3,y4⟩:=Qa0 (Qam ah hW);clear hW;go_simp
  simp only [sX];refine tkS 3 (.int .i64 v) aa ?_;simp only [sX];refine onE 4 fun K hK=>?_;go_simp;refine (Qfk p v ((ai.out.past ak).past aa)).mono ?_;rintro e w5 ⟨v5,M5,rfl,aH⟩;rw [aM.out];obtain ⟨a5,c5,rfl,_⟩:=aH.r.form;have ag:Below W2.heap.size W2 w5:=Qac aa aH.b;clear aH;dsimp only;refine gK hK ag ?_
  try simp only [sX]
  refine tkL 5 (.int .i64 qc) ag (fun W hW=>?_) ?_
  ·have q0:=fdPi a5 M5.length c5 ⟨p.a,p.b,qc,p.d⟩ W
   clear hW;go_simp
  refine tkS 6 (.bool false) ag ?_;refine tkS 7 (.bool false) ag ?_;simp only [sX];refine tkS 8 (.pointer (some ⟨bX,0,none⟩)) ag ?_;refine tkL 9 (.slice a2 n c2) ag (fun W hW=>?_) ?_
  ·obtain ⟨x0,x1,x2,x3,x4⟩:=Qa0 (Qam ae hW)
   obtain ⟨y0,y1,y2,y3,y4⟩:=Qa0 (Qam ah hW);clear hW;go_simp
  refine tkS 10 (.pointer (some ⟨bP,0,none⟩)) ag ?_;simp only [sX];refine tkL 11 (.slice ax n cp) ag (fun W hW=>?_) ?_
  ·obtain ⟨x0,x1,x2,x3,x4⟩:=Qa0 (Qam ae hW)
   obtain ⟨y0,y1,y2,y3,y4⟩:=Qa0 (Qam ah hW);clear hW;go_simp
  simp only [sX];refine onE 12 fun K hK=>?_;go_simp;refine (QmL (aN.out.past ag) ((ai.out.past ak).past ag) aW aU).mono ?_;rintro e w6 ⟨rfl,aQ⟩;have ab:Below W2.heap.size W2 w6:=Qac ag aQ;clear aQ;dsimp only;refine gK hK ab ?_
  try simp only [sX]
  refine tkS 13 (.bool false) ab ?_;refine tkS 14 (.bool false) ab ?_;refine tkS 15 (.bool false) ab ?_;simp only [sX];refine tkS 16 (.pointer (some ⟨bX,1,none⟩)) ab ?_;refine tkL 17 (.int .i64 p.a) ab (fun W hW=>?_) ?_
  ·obtain ⟨x0,x1,x2,x3,x4⟩:=Qa0 (Qam ae hW)
   obtain ⟨y0,y1,y2,y3,y4⟩:=Qa0 (Qam ah hW);clear hW;go_simp
  refine tkS 18 (.pointer (some ⟨bP,1,none⟩)) ab ?_;simp only [sX];refine tkL 19 (.int .i64 p.a) ab (fun W hW=>?_) ?_
  ·obtain ⟨x0,x1,x2,x3,x4⟩:=Qa0 (Qam ae hW)
   obtain ⟨y0,y1,y2,y3,y4⟩:=Qa0 (Qam ah hW);clear hW;go_simp
  refine tkS 20 (.bool false) ab ?_;refine tkS 21 (.bool false) ab ?_;simp only [sX];refine tkS 22 (.bool false) ab ?_;refine tkS 23 (.pointer (some ⟨bX,4,none⟩)) ab ?_;refine tkL 24 (.int .i64 p.d) ab (fun W hW=>?_) ?_
  ·obtain ⟨x0,x1,x2,x3,x4⟩:=Qa0 (Qam ae hW)
   obtain ⟨y0,y1,y2,y3,y4⟩:=Qa0 (Qam ah hW);clear hW;go_simp
  simp only [sX];refine tkS 25 (.pointer (some ⟨bP,4,none⟩)) ab ?_;refine tkL 26 (.int .i64 p.d) ab (fun W hW=>?_) ?_
  ·obtain ⟨x0,x1,x2,x3,x4⟩:=Qa0 (Qam ae hW)
   obtain ⟨y0,y1,y2,y3,y4⟩:=Qa0 (Qam ah hW);clear hW;go_simp
  refine tkS 27 (.bool false) ab ?_;simp only [sX];refine tkS 28 (.bool false) ab ?_;simp only [sX];refine dnE ?_ _;go_wp2;go_meet;exact ⟨rfl,Qaa ab⟩
 case rest=>
  obtain ⟨rfl,ar⟩:=hcut;have a1:=Qaa (Qac (Qac aw ak) ar);have ap:=Qaa (Qam ah ar);have an:=Qaa (Qam ae ar);obtain ⟨y0,y1,y2,y3,y4⟩:=Qa0 ap;obtain ⟨x0,x1,x2,x3,x4⟩:=Qa0 an;go_wp2_with fail;refine (QbK p ai.out.n ai.out.sm ai.out.ok (QaR ai.out.at' (Qac ak ar))).mono ?_;rintro e w7 ⟨rfl,am⟩;have ay:=Qaa (Qac (Qac ak ar) am);have al:=Qaa (Qac a1 am);have ac:=Qaa (Qam ap am);have ad:=Qaa (Qam an am);clear am y0 y1 y2 y3 y4 x0 x1 x2 x3 x4;obtain ⟨p1,p2,_,_⟩:=pc;have bj:IntKind.i64.wrap (1000000000 - p.c)=1000000000 - p.c:=ZZi _ ⟨by omega,by omega⟩;obtain ⟨y0,y1,y2,y3,y4⟩:=Qa0 ac;obtain ⟨x0,x1,x2,x3,x4⟩:=Qa0 ad;by_cases aj:QbD M p=true/\0<=v/\v<=1000000000 - p.c
  ·obtain ⟨hp,aO,a7⟩:=aj
   have bi:¬ v<0:=by omega
   have bh:¬ 1000000000 - p.c<v:=by omega
   have bb:IntKind.i64.wrap (v+1)=v+1:=ZZi _ ⟨by omega,by omega⟩;have aD:qc=p.c+v:=by rw [<- aS.out,Qte hp aO a7]
   subst aD;have aP:=Qaa hp;rw [hp];clear hp;go_wp2_with fail;clear y0 y1 y2 y3 y4 x0 x1 x2 x3 x4;refine (QtW bo lm cbp 0 (v+1) (by omega) (by omega) (by omega) w7 w aX al).mono ?_;rintro e w8 ⟨k,rfl,hk,a6⟩;obtain rfl:=a6.symm;have aV:Hid (Qco M p k=⟨p.a,p.b,p.c+k,p.d⟩):=Qaa (Qte aP (by omega) (by omega))
   have a3:Hid (∀ M8:List Sd,M8.map Sd.key=M.map Sd.key->Qco M8 ⟨p.a,p.b,p.c+k,p.d⟩ (v - k)=⟨p.a,p.b,p.c+v,p.d⟩):=Qaa (fun M8 e8=>by
    rw [Qte (pip_on aP.out e8 (by omega) (by omega)) (by omega) (by show v - k<=1000000000 - (p.c+k);omega)]
    congr 1
    show p.c+k+(v - k)=p.c+v
    omega)
   have bd:IntKind.i64.wrap (p.c+v)=p.c+v:=ZZi _ ⟨by omega,by omega⟩;have bg:IntKind.i64.wrap (v - k)=v - k:=ZZi _ ⟨by omega,by omega⟩;have aJ:(p.c+v == p.c+v)=true:=by simp
   go_upto_region 10 with fail;have aa:Below w7.heap.size w7 w7.drew:=(ZZb _ _).drew;refine Qal (fun W=>Below w7.heap.size w7 W) 20 (by kernel_rfl) ?_;refine tkS 0 (.pointer (some ⟨bX,3,none⟩)) aa ?_;refine tkL 1 (.int .i64 (p.c+v)) aa (fun W hW=>?_) ?_
   ·obtain ⟨x0,x1,x2,x3,x4⟩:=Qa0 (Qam ad hW)
    obtain ⟨y0,y1,y2,y3,y4⟩:=Qa0 (Qam ac hW);clear hW;go_simp
   refine tkS 2 (.pointer (some ⟨bP,3,none⟩)) aa ?_;simp only [sX];refine tkL 3 (.int .i64 p.c) aa (fun W hW=>?_) ?_
   ·obtain ⟨x0,x1,x2,x3,x4⟩:=Qa0 (Qam ad hW)
    obtain ⟨y0,y1,y2,y3,y4⟩:=Qa0 (Qam ac hW);clear hW;go_simp
   refine tkS 4 (.int .i64 v) aa ?_;refine tkS 5 (.int .i64 (p.c+v)) aa ?_;simp only [sX];refine tkS 6 (.bool true) aa ?_;refine tkS 7 (.bool true) aa ?_;refine tkL 8 (.agg (Qaf (.slice ax n cp) p)) aa (fun W hW=>?_) ?_
   ·obtain ⟨x0,x1,x2,x3,x4⟩:=Qa0 (Qam ad hW)
    obtain ⟨y0,y1,y2,y3,y4⟩:=Qa0 (Qam ac hW);clear hW;go_simp
   simp only [sX];refine tkS 9 (.int .i64 k) aa ?_;refine tkS 11 (.int .i64 v) aa ?_;refine tkS 12 (.int .i64 k) aa ?_;simp only [sX];refine tkS 13 (.int .i64 (v - k)) aa ?_;refine tkS 16 (.pointer (some ⟨bX,3,none⟩)) aa ?_;refine tkL 17 (.int .i64 (p.c+v)) aa (fun W hW=>?_) ?_
   ·obtain ⟨x0,x1,x2,x3,x4⟩:=Qa0 (Qam ad hW)
    obtain ⟨y0,y1,y2,y3,y4⟩:=Qa0 (Qam ac hW);clear hW;go_simp
   simp only [sX];refine onE 10 fun K hK=>?_;go_simp;refine (Qdd p k ((aF.out.past al).past aa) ((ai.out.past ay).past aa)).mono ?_;rintro e w8 ⟨v8,M8,rfl,aq⟩;rw [aV.out];obtain ⟨a8,c8,rfl,_⟩:=aq.r.form;have aA:Below w7.heap.size w7 w8:=Qac aa aq.b;have aT:=Qaa (PpI8 av aq);have aZ:=Qaa (a3.out M8 aq.ky);clear aq;dsimp only;refine gK hK aA ?_
   try simp only [sX]
   refine onE 14 fun K hK=>?_;go_simp;refine (Qdd ⟨p.a,p.b,p.c+k,p.d⟩ (v - k) ((aF.out.past al).past aA) aT).mono ?_;rintro e w9 ⟨v9,M9,rfl,aG⟩;rw [aZ.out];obtain ⟨a9,c9,rfl,_⟩:=aG.r.form;have au:Below w7.heap.size w7 w9:=Qac aA aG.b;clear aG;dsimp only;refine gK hK au ?_
   try simp only [sX]
   refine tkL 15 (.int .i64 (p.c+v)) au (fun W hW=>?_) ?_
   ·have q0:=fdPi a9 M9.length c9 ⟨p.a,p.b,p.c+v,p.d⟩ W
    clear hW;go_simp
   refine tkS 18 (.bool true) au ?_;refine tkS 19 (.bool true) au ?_;simp only [sX];refine onE 20 fun K hK=>?_;go_simp;refine hK.out _ _ (fun h=>absurd rfl h) ?_
   try simp only [sX]
   refine dnE ?_ _;have a0:=Qaa (Qac al au);go_wp2;go_ret;exact ⟨rfl,a0⟩
  ·have aD:qc=p.c:=by rw [<- aS.out,tickN aj]
   subst aD;have aJ:(p.c == p.c)=true:=by simp
   cases hp:QbD M p with
   | false=>
    go_wp2;go_ret;exact ⟨rfl,al⟩
   | true=>
    by_cases aO:v<0
    ·go_wp2
     go_ret;exact ⟨rfl,al⟩
    ·have bl:1000000000 - p.c<v:=by
      rcases Int.lt_or_le (1000000000 - p.c) v with q | q
      ·exact q
      ·exact absurd ⟨hp,by omega,q⟩ aj
     go_wp2;go_ret;exact ⟨rfl,al⟩
end Go.Proofs.YtlejlgldgafljaaGreatDoor
