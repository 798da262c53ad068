/-
 Parts.
-/
import Derived.Test.YtlejlgldgafljaaGreatDoorVYA
set_option maxRecDepth 10000
set_option maxHeartbeats 16000000
set_option linter.all false
namespace Go.Proofs.YtlejlgldgafljaaGreatDoor
open Go.ChangeShapes Go.WideShapes Go.ChangeAt Go.RowKit Go.PlainAid Go.Lib Go.Maps Go.Shelf Tryz
open Go.Sort hiding Below
variable {w w' wr:World}
variable {B N b ca j k mb n:Nat}
variable {c:Ce}
theorem cec_at {o:Nat} (h:Qb6 w b o c):∀ j z,j<15->(ceL c)[j]?=some z->w.cell? ⟨b,o+j,none⟩=some z:=fun j z hj hz=>by
 obtain ⟨x0,x1,x2,x3,x4,x5,x6,x7,x8,x9,x10,x11,x12,x13,x14⟩:=h;have e:(ceL c)[j]?=(Qan c).toList[j]?:=rfl;rw [e] at hz
 match j,hj with
 | 0,_=>exact x0.trans hz
 | 1,_=>exact x1.trans hz
 | 2,_=>exact x2.trans hz
 | 3,_=>exact x3.trans hz
 | 4,_=>exact x4.trans hz
 | 5,_=>exact x5.trans hz
 | 6,_=>exact x6.trans hz
 | 7,_=>exact x7.trans hz
 | 8,_=>exact x8.trans hz
 | 9,_=>exact x9.trans hz
 | 10,_=>exact x10.trans hz
 | 11,_=>exact x11.trans hz
 | 12,_=>exact x12.trans hz
 | 13,_=>exact x13.trans hz
 | 14,_=>exact x14.trans hz
 | n+15,h=>omega
theorem Qq1 {A:Addr} {L:List Ce} (hA:QbV w (some A) L):∀ j z,(flC L)[j]?=some z->w.cell? (A.add j)=some z:=fun j z hz=>by
 have hj:=(ZZd.1 hz).1;rw [QbE] at hj;obtain ⟨b,off,e,hcell⟩:=hA.1 (by omega)
 cases e
 obtain ⟨x,hx⟩:∃ x,L[j / 15]?=some x:=⟨L[j / 15]'(by omega),ZZe (by omega)⟩;have h1:=Qkd L (j / 15) x (j % 15) (by omega) hx;rw [show j / 15*15+j % 15=j by omega,hz] at h1;rw [Addr.add_lit,show off+j=off+j / 15*15+j % 15 by omega];exact cec_at (hcell (j / 15) x hx) (j % 15) z (by omega) h1.symm
variable {ao:Option Addr}
theorem Qrs {L:List Ce} (c n:Nat) (hn:L.length=n) (hl:n<=1048576) (hA:QbV w ao L) :
  Calls prog 95 #[.slice ao n c] w fun e w'=>∃ v,e=.returned v/\OwnC w' w.heap.size v L/\Bw w w':=by
 obtain ⟨i0,hi,ag,ae,af⟩:=Qe8
 cases ao with
 | none=>
  have h0:n=0:=by
   rcases Nat.eq_zero_or_pos n with h | h
   ·exact h
   ·obtain ⟨b,ah,e,_⟩:=hA.1 (by omega);cases e
  subst h0;have hq:=fun W=>Lib.run_eql_slice_nil (P:=prog) W 35 75 none 0 c 0 0 underlying35;have HN:Hid (L=[]):=Qaa (List.eq_nil_of_length_eq_zero hn);clear hA hn;go_enter func95,ntmps95;go_wp2;go_ret;exact ⟨_,rfl,by rw [HN.out];exact OwnC.nil _ _,Below.refl _ _⟩
 | some A=>
  have ad:=Qaa (Qq1 hA);have hq:=fun W=>Lib.run_eql_slice_nil (P:=prog) W 35 75 (some A) n c 0 0 underlying35;have HN:=Qaa hn;clear hA hn;go_enter func95,ntmps95;go_wp2_with (at_builtin;refine wpList_append_own _ rfl (.tmp 5) (.tmp 6) 35 rfl w.heap.size 75 i0 (.agg QbC) 15 192 underlying35 hi ag ae af rfl (by decide) _ _ _ rfl (World.ownsRow_made _ #[] 0 (Nat.le_refl _) (Nat.zero_le _) rfl) A n c (flC L) rfl (by rw [QbE,HN.out]) (fun j z hz=>by have:=ad.out j z hz;exact QcJ this _) (QdX _) (by unfold maxLen;omega) (by omega) (by simp) ?_;intro v1 w1 ab aa ac;simp only [Nat.zero_add,List.nil_append] at ab;have O1:=Qaa ab;have B1:=Qaa (((Below.refl _ _).alloc (Nat.le_refl _) _).grown aa (by simp) (fun j hj=>by cases hj;exact Nat.le_refl _));clear ab aa ac);go_ret;exact ⟨_,rfl,by unfold OwnC;rw [HN.out];exact O1.out,B1⟩
structure CsI (w wr:World) (L:List Ce) (k:Nat) (v:Value) (M:List Ce):Prop where
 r:OwnC wr (w.heap.size+2) v M
 o:CesO wr (w.heap.size+2) (M.take k)
 dr:M.drop k=L.drop k
 ky:M.map Ce.key=L.map Ce.key
 b:Bw w wr
variable {v:Value}
theorem CsI.len {L M:List Ce} (h:CsI w wr L k v M):M.length=L.length:=Qjc h.ky
theorem CsI.at {L M:List Ce} (h:CsI w wr L k v M) (hc:L[k]?=some c):M[k]?=some c:=by
 have e:=congrArg List.head? h.dr;rw [List.head?_drop,List.head?_drop] at e;rw [e];exact hc
theorem CsI.set {w6:World} {L M:List Ce} {g cp:Nat} {q:Pl} (h:CsI w wr L k (.slice (some ⟨g,0,none⟩) n cp) M) (hn:M.length=n) (hc:L[k]?=some c) (hz:w.heap.size+2<=wr.heap.size) (hb6:Bw wr w6) (ho:AgO w6 wr.heap.size c.g q) :
  CsI w ((((((((((((((w6.setCell ⟨g,k*15+2,none⟩ (.int .i64 c.g.k)).setCell ⟨g,k*15+3,none⟩ (.int .u64 c.g.s)).setCell ⟨g,k*15+4,none⟩ (.int .i64 c.g.h)).setCell ⟨g,k*15+5,none⟩ (.int .u64 c.g.l)).setCell ⟨g,k*15+6,none⟩ (.int .i64 c.g.a)).setCell ⟨g,k*15+7,none⟩ (.int .i64 c.g.t)).setCell ⟨g,k*15+8,none⟩ (.int .u64 c.g.z)).setCell ⟨g,k*15+9,none⟩ (.slice q.pa c.g.P.length q.pc)).setCell ⟨g,k*15+10,none⟩ (.slice q.na c.g.N.length q.nc)).setCell ⟨g,k*15+11,none⟩ (.int .i64 c.g.x)).setCell ⟨g,k*15+12,none⟩ (.int .u64 c.g.y)).setCell ⟨g,k*15+13,none⟩ (.slice q.ea c.g.E.length q.ec)).setCell ⟨g,k*15+14,none⟩ (.slice q.ra c.g.R.length q.rc))) L (k+1) (.slice (some ⟨g,0,none⟩) n cp) (M.set k ⟨c.n,c.s,c.g,q⟩):=by
 have hd:=h.at hc;obtain ⟨s1,s2⟩:=QoB (c':=⟨c.n,c.s,c.g,q⟩) hd;have hk:=(ZZd.1 hd).1;have r6:=h.r.past hb6
 have tk:(M.set k ⟨c.n,c.s,c.g,q⟩).take (k+1)=M.take k ++ [⟨c.n,c.s,c.g,q⟩]:=by
  have l:(M.take k).length=k:=by rw [List.length_take];omega
  rw [s1,List.take_append,List.take_of_length_le (by omega),l,Nat.add_sub_cancel_left]
  rfl
 have hO:CesO w6 (w.heap.size+2) (M.take k ++ [⟨c.n,c.s,c.g,q⟩]):=(h.o.add (c:=⟨c.n,c.s,c.g,q⟩) hb6 hz ho).perm (List.perm_append_singleton _ _).symm;have bw:Bw w w6:=Qac h.b hb6;have gl:=fun j (hj:(Value.slice (some ⟨g,0,none⟩) n cp).ownBlock=some j)=>(World.ownsRow.lt h.r j hj).1;refine ⟨r6.putAg hn hd,?_,?_,?_,bw.grown (Qlm (g:=g)) bw.size (fun j hj=>Nat.le_trans (Nat.le_add_right _ 2) (gl j hj))⟩
 ·rw [tk];exact hO.row r6 Qlm
 ·rw [List.drop_set_of_lt (by omega)]
  have e:=congrArg (List.drop 1) h.dr;rw [List.drop_drop,List.drop_drop] at e
  simpa [Nat.add_comm] using e
 ·rw [<- h.ky,s1]
  conv=>rhs;rw [s2]
  simp only [List.map_append,List.map_cons]
  rfl
theorem Qaf {r:Nat} {o:Obj} (h:w.heap[r]?=some o) (hb:Bw w w'):w'.heap[r]?=some o:=(hb.block r (ZZc.1 h).1).trans h
theorem Qk7 (s:Sd) (lN:s.L.length<=1048576) (sm:∀ c∈s.L,AgSm c.g) (pl:∀ c∈s.L,PlG c.g c.p) (hA:QbV w s.ao s.L) :
  Calls prog 63 #[.agg (QaN s)] w fun e w'=>∃ ao cp M,e=.returned (.agg #[.string s.nm,.slice ao s.L.length cp])/\OwnC w' w.heap.size (.slice ao s.L.length cp) M/\CesO w' w.heap.size M/\M.map Ce.key=s.L.map Ce.key/\Bw w w':=by
 have SM:=Qaa sm;have PL:=Qaa pl;have HA:=Qaa hA;have a1:∀ (X:World) o,Bw X (X.alloc o):=fun X o=>bA;have hz:(w.alloc (.cells (QaN s) 56)).heap.size=w.heap.size+1:=by simp
 have aj:=Qaa (Qaf (ZZk w (.cells (QaN s) 56)) (a1 _ (.cells #[.string ⟨#[]⟩,.slice none 0 0] 56)));have av:=ZZk (w.alloc (.cells (QaN s) 56)) (.cells #[.string ⟨#[]⟩,.slice none 0 0] 56);rw [hz] at av;have aq:=Qaa av;have ai:=Qaa (Qac (a1 w (.cells (QaN s) 56)) (a1 _ (.cells #[.string ⟨#[]⟩,.slice none 0 0] 56)));have ak:Hid (((w.alloc (.cells (QaN s) 56)).alloc (.cells #[.string ⟨#[]⟩,.slice none 0 0] 56)).heap.size=w.heap.size+2):=Qaa (by simp);clear sm pl hA a1 hz av;go_enter func63,ntmps63;go_upto_region 1 with fail;generalize (w.alloc _).alloc _=W0 at aj aq ai ak ⊢;have x1:W0.cell? ⟨w.heap.size,1,none⟩=some (.slice s.ao s.L.length s.cp):=Qar aj 1 rfl;go_wp2_with fail;clear x1;refine (Qrs s.cp _ rfl lN (QaP HA ai)).mono ?_;rintro e w1 ⟨v1,rfl,ar,af⟩;obtain ⟨ao,cp,ev,_⟩:=ar.form;subst ev;have Y0:=Qaa (Qaf aj af);have Y1:=Qaa (Qaf aq af);have aC:=Qaa (Qac ai af);have ap:Hid (w.heap.size+2<=w1.heap.size):=Qaa (by have:=af.size;have:=ak.out;omega);have ag:OwnC w1 (w.heap.size+2) (.slice ao s.L.length cp) s.L:=by have:=ak.out;rw [<- this];exact ar
 have ay:=Qaa ag;have x1:w1.cell? ⟨w.heap.size,1,none⟩=some (.slice s.ao s.L.length s.cp):=Qar Y0 1 rfl;have f1:w1.frozen? ⟨w.heap.size,1,none⟩=false:=frozen_of_row w1 _ 1 _ _ Y0;clear ar ag af aj aq ai ak;go_upto_region 2 with fail;clear x1 f1;have am:=Qai w1 w.heap.size 1 (.slice ao s.L.length cp)
 have ne:(Value.slice ao s.L.length cp).ownBlock=none∨(Value.slice ao s.L.length cp).ownBlock≠some w.heap.size:=by
  cases q:(Value.slice ao s.L.length cp).ownBlock with
  | none=>exact .inl rfl
  | some j=>exact .inr (fun e=>by have:=(World.ownsRow.lt ay j q).1;injection e with e;omega)
 have ah:Hid (CsI w (w1.setCell ⟨w.heap.size,1,none⟩ (.slice ao s.L.length cp)) s.L 0 (.slice ao s.L.length cp) s.L):=Qaa ⟨World.ownsRow.kept ay am ne,by rw [List.take_zero];exact CesO.nil _ _,rfl,rfl,aC.setCell (Nat.le_refl _) _⟩;have Z0:Hid ((w1.setCell ⟨w.heap.size,1,none⟩ (.slice ao s.L.length cp)).heap[w.heap.size]?=some (.cells #[.string s.nm,.slice ao s.L.length cp] 56 (0,0))):=Qaa (ZZl w1 w.heap.size 1 _ _ _ Y0);have Z1:Hid ((w1.setCell ⟨w.heap.size,1,none⟩ (.slice ao s.L.length cp)).heap[w.heap.size+1]?=some (.cells #[.string ⟨#[]⟩,.slice none 0 0] 56 (0,0))):=Qaa ((am.block (w.heap.size+1) (by have:=ap.out;omega) (fun e=>by injection e with e;omega)).trans Y1);have ax:Hid (w.heap.size+2<=(w1.setCell ⟨w.heap.size,1,none⟩ (.slice ao s.L.length cp)).heap.size):=Qaa (Nat.le_trans ap am.size);generalize w1.setCell ⟨w.heap.size,1,none⟩ (.slice ao s.L.length cp)=W2 at ah Z0 Z1 ax ⊢;clear Y0 Y1 aC ap ay am ne w1;obtain ⟨n,hn⟩:∃ n,s.L.length=n:=⟨_,rfl⟩;rw [hn] at ah Z0 lN ⊢;have HN:=Qaa hn;clear hn;have x1:W2.cell? ⟨w.heap.size,1,none⟩=some (.slice ao n cp):=Qar Z0 1 rfl;go_upto_region 3 with fail;clear x1
 go_loopw [11] (fun i wr=>∃ (k:Nat) (M:List Ce),k<=n/\i=.int .i64 k/\Hid (CsI w wr s.L k (.slice ao n cp) M)/\Hid (wr.heap[w.heap.size]?=some (.cells #[.string s.nm,.slice ao n cp] 56 (0,0)))/\Hid (wr.heap[w.heap.size+1]?=some (.cells #[.string ⟨#[]⟩,.slice none 0 0] 56 (0,0)))/\Hid (w.heap.size+2<=wr.heap.size)) (fun i wr=>n - (Go.RowKit.intOf i).toNat)
 case atStart=>exact ⟨0,s.L,ZZj _,rfl,ah,Z0,Z1,ax⟩
 case round=>
  clear ah Z0 Z1 ax;obtain ⟨k,M,hk,rfl,HI,Z0,Z1,HZ⟩:=hrel;by_cases aY:k<n
  ·have az:(k:Int)<(n:Int):=by omega
   obtain ⟨c,hc⟩:∃ c,s.L[k]?=some c:=⟨s.L[k]'(by have:=HN.out;omega),ZZe _⟩;have an:M.length=n:=HI.len.trans HN;have aA:=Qaa an;have ad:OwnC wr (w.heap.size+2) (.slice ao n cp) M:=HI.r;obtain ⟨g,cc,ev⟩:=Qcf ad (by omega);injection ev with ev1 ev2 ev3;subst ev1;have hr:=ad;rw [<- an] at hr;have au:=Qe6 hr (HI.at hc);rw [Nat.zero_add] at au;have aF:=Qaa au;have HC:=Qaa hc;have aw:=Qaa (ZZn hc);have aD:=Qaa (World.ownsRow.lt ad g rfl);have a2:IntKind.i64.wrap ((k:Int)+1)=((k+1:Nat):Int):=by rw [show (k:Int)+1=((k+1:Nat):Int) by omega];exact ZZi _ ⟨by omega,by omega⟩
   have aJ:¬ n<=k:=by omega
   have a0:n<=cp:=by unfold OwnC at ad;rw [an] at ad;exact Qi6 ad
   clear hc an ad hr au ev2 ev3;go_upto_region 5 with fail;have ab:(fun W=>Bw wr W) wr.drew:=(ZZb _ _).drew;refine Qal (fun W=>Bw wr W) 12 (by kernel_rfl) ?_;refine tkS 0 (.pointer (some ⟨w.heap.size,1,none⟩)) ab ?_;refine tkL 1 (.slice (some ⟨g,0,none⟩) n cp) ab (fun W hW=>?_) ?_
   ·have z:=Qab hW (show wr.cell? ⟨w.heap.size,1,none⟩=some (.slice (some ⟨g,0,none⟩) n cp) from Qar Z0 1 rfl)
    clear hW;go_simp
   refine tkS 2 (.int .i64 (k:Int)) ab ?_;simp only [sX];refine tkS 3 (.pointer (some ⟨w.heap.size,1,none⟩)) ab ?_;refine tkL 4 (.slice (some ⟨g,0,none⟩) n cp) ab (fun W hW=>?_) ?_
   ·have z:=Qab hW (show wr.cell? ⟨w.heap.size,1,none⟩=some (.slice (some ⟨g,0,none⟩) n cp) from Qar Z0 1 rfl)
    clear hW;go_simp
   refine tkS 5 (.int .i64 (k:Int)) ab ?_;simp only [sX];refine tkL 6 (.pointer (some ⟨g,k*15,none⟩)) ab (fun W hW=>?_) ?_
   ·have aJ:¬ n<=k:=by omega
    clear hW;go_simp
   refine tkS 7 (.pointer (some ⟨g,k*15+2,none⟩)) ab ?_;refine tkL 8 (.agg (QaC c.g c.p)) ab (fun W hW=>?_) ?_
   ·obtain ⟨y0,y1,y2,y3,y4,y5,y6,y7,y8,y9,a4,aX,aZ,a5,a3⟩:=Qas aF hW
    clear hW;go_simp
   simp only [sX];refine onE 9 fun K hK=>?_;go_simp;refine (Qp8 (SM.out c aw) (PL.out c aw) (QaI (HA.2 c aw) (Qac HI.b (ab:Bw wr wr.drew)))).mono ?_;rintro e w6 ⟨v,o,rfl,aM,⟨q,rfl,ho⟩,aE⟩;subst aM;have ac:Hid (Bw wr w6):=(ab:Bw wr wr.drew).trans (aE.mono (ZZa _));have aL:Hid (AgO w6 wr.heap.size c.g q):=ho;clear ho aE;dsimp only;refine gK hK ac.out ?_
   try simp only [sX]
   refine onE 10 fun K hK=>?_;go_simp;refine gK hK ac.out ?_
   try simp only [sX]
   refine tkS 11 (.pointer (some ⟨g,k*15+2,none⟩)) ac ?_;simp only [sX];have ae:=HI.r.past ac;have ae:w6.ownsRow (w.heap.size+2) 75 15 (.slice (some ⟨g,0,none⟩) n cp) n (flC M):=by unfold OwnC at ae;rw [aA.out] at ae;exact ae
   have aa:=Qaa ae;have HF:=Qaa (HI.set aA HC HZ ac aL);have al:=Qaa (Qlm (w:=w6) (g:=g) (i:=k) (o:=c.g) (q:=q));have V0:=Qaa (Qaf Z0 ac);have V1:=Qaa (Qaf Z1 ac);have VZ:=Qaa (Nat.le_trans HZ ac.size);obtain ⟨u0,u1,u2,u3,u4,u5,u6,u7,u8,u9,aN,aQ,aK,aT,aU⟩:=Qas aF ac;clear ae u0 u1;have f2:=World.ownsRow.frozenAt aa (k*15+2);have f3:=World.ownsRow.frozenAt aa (k*15+3);have f4:=World.ownsRow.frozenAt aa (k*15+4);have f5:=World.ownsRow.frozenAt aa (k*15+5);have f6:=World.ownsRow.frozenAt aa (k*15+6);have f7:=World.ownsRow.frozenAt aa (k*15+7);have f8:=World.ownsRow.frozenAt aa (k*15+8);have f9:=World.ownsRow.frozenAt aa (k*15+9);have aV:=World.ownsRow.frozenAt aa (k*15+10);have aG:=World.ownsRow.frozenAt aa (k*15+11);have aR:=World.ownsRow.frozenAt aa (k*15+12);have aH:=World.ownsRow.frozenAt aa (k*15+13);have aO:=World.ownsRow.frozenAt aa (k*15+14);refine onE 12 fun K hK=>?_;go_simp;clear u2 f2 u3 f3 u4 f4 u5 f5 u6 f6 u7 f7 u8 f8 u9 f9 aN aV aQ aG aK aR aT aH aU aO;refine hK.out _ _ (fun h=>absurd rfl h) ?_
   try simp only [sX]
   refine dnE ?_ _;have U0:=Qaa ((al.block w.heap.size (ZZc.1 V0).1 (fun e=>by injection e with e;have:=aD.1;omega)).trans V0);have U1:=Qaa ((al.block (w.heap.size+1) (ZZc.1 V1).1 (fun e=>by injection e with e;have:=aD.1;omega)).trans V1);have UZ:=Qaa (Nat.le_trans VZ al.size);clear al V0 V1 VZ aa;go_wp2;go_roundw
   case rel=>exact ⟨k+1,_,by omega,by first | rfl | go_num,HF,U0,U1,UZ⟩
   case measure=>simp [zI];omega
  ·have az:¬ (k:Int)<(n:Int):=by omega
   obtain rfl:k=n:=by omega
   have x0:wr.cell? ⟨w.heap.size,0,none⟩=some (.string s.nm):=Qar Z0 0 rfl;have x1:wr.cell? ⟨w.heap.size,1,none⟩=some (.slice ao k cp):=Qar Z0 1 rfl;have y0:wr.cell? ⟨w.heap.size+1,0,none⟩=some (.string ⟨#[]⟩):=Qar Z1 0 rfl;have y1:wr.cell? ⟨w.heap.size+1,1,none⟩=some (.slice none 0 0):=Qar Z1 1 rfl;have f0:=fzR 0 Z1;have f1:=fzR 1 Z1;go_wp2_with fail;clear x0 x1 y0 y1 f0 f1;have aS:=ZZl wr (w.heap.size+1) 0 _ _ (.string s.nm) Z1;have aB:=ZZl _ (w.heap.size+1) 1 _ _ (.slice ao k cp) aS;have q0:((wr.setCell ⟨w.heap.size+1,0,none⟩ (.string s.nm)).setCell ⟨w.heap.size+1,1,none⟩ (.slice ao k cp)).cell? ⟨w.heap.size+1,0,none⟩=some (.string s.nm):=Qar aB 0 rfl;have q1:((wr.setCell ⟨w.heap.size+1,0,none⟩ (.string s.nm)).setCell ⟨w.heap.size+1,1,none⟩ (.slice ao k cp)).cell? ⟨w.heap.size+1,1,none⟩=some (.slice ao k cp):=Qar aB 1 rfl;have G2:wr.grownBy ((wr.setCell ⟨w.heap.size+1,0,none⟩ (.string s.nm)).setCell ⟨w.heap.size+1,1,none⟩ (.slice ao k cp)) (some (w.heap.size+1)):=(Qai _ _ _ _).trans (Qai _ _ _ _);have hO:OwnC wr (w.heap.size+2) (.slice ao k cp) M:=HI.r;have hC:=HI.o;rw [List.take_of_length_le (by rw [HI.len,HN.out];omega)] at hC
   have ne:(Value.slice ao k cp).ownBlock=none∨(Value.slice ao k cp).ownBlock≠some (w.heap.size+1):=by
    cases q:(Value.slice ao k cp).ownBlock with
    | none=>exact .inl rfl
    | some j=>exact .inr (fun e=>by have:=(World.ownsRow.lt hO j q).1;injection e with e;omega)
   have aI:=(World.ownsRow.kept hO G2 ne);have aW:=hC.grown G2 (by omega);have aP:=HI.b.grown G2 HI.b.size (fun j hj=>by injection hj with hj;omega);exact bodyPost_ret (v:=.agg #[.string s.nm,.slice ao k cp]) (by simp [results,results63,go_sem,q0,q1]) rfl ⟨ao,cp,by rw [HN.out],M,by rw [HN.out];exact OwnC.le (B:=w.heap.size+2) aI (Nat.le_add_right _ _),aW.le (Nat.le_add_right _ _),HI.ky,aP⟩
def rS:Value->Option (DataW Value×List MemPlace)
 | .agg cs=>some (.held (.agg cs),[])
 | _=>none
theorem Qna {y:DataW Value×List MemPlace} (h:rS v=some y):∃ cs,v=.agg cs:=by
 cases v <;> simp [rS] at h
 exact ⟨_,rfl⟩
abbrev Qk1 (s:Sd):DataW Value:=.held (.agg (QaN s))
theorem QdO {a b:ByteArray} (h:QcP a=QcP b):a=b:=by
 unfold QcP at h;injection h with h;exact Qbc h
theorem QkV (a:ByteArray):WideAt.IsKeyLit (QcP a):=trivial
theorem Qfq:Keyed prog 9:=string_keyed underlying9
variable {u x:ByteArray}
theorem Qno (h:x.size<=maxLen):keyOf prog 9 (.string x)=some (QcP x):=Go.WideMaps.keyOf_string_mk underlying9 h
structure HoldsS (D:DataW Value) (L:List Sd):Prop where
 ap:L.Pairwise (fun s t=>s.nm≠t.nm)
 val:∀ s∈L,∀ z,D.atKey (QcP s.nm) z=Qk1 s
 only:∀ u:ByteArray,Maps.has D (QcP u)=true->∃ s∈L,s.nm=u
 sz:Maps.size D=L.length
theorem HoldsS.nil:HoldsS (.map []) []:=⟨.nil,by simp,(fun n h=>by simp [Maps.has] at h),rfl⟩
variable {A L M R S:List Sd}
variable {D:DataW Value}
theorem HoldsS.perm (h:HoldsS D L) (p:L.Perm M):HoldsS D M:=
 ⟨(p.pairwise_iff (fun {a b} (q:a.nm≠b.nm)=>fun e=>q e.symm)).1 h.ap,fun c hc=>h.val c (p.mem_iff.2 hc),fun n q=>by
  obtain ⟨c,hc,e⟩:=h.only n q;exact ⟨c,p.mem_iff.1 hc,e⟩,h.sz.trans p.length_eq⟩
theorem HoldsS.none (h:HoldsS D L) (hn:∀ d∈L,d.nm≠u):Maps.has D (QcP u)=false:=by
 cases q:Maps.has D (QcP u)
 ·rfl
 ·obtain ⟨c,hc,e⟩:=h.only u q
  exact absurd e (hn c hc)
variable {s t:Sd}
theorem HoldsS.some (h:HoldsS D L) (hs:s∈L):Maps.has D (QcP s.nm)=true:=Maps.has_true_of_atKey (h.val s hs)
theorem HoldsS.put_new (h:HoldsS D L) (t:Tidy D) (hn:∀ d∈L,d.nm≠s.nm):HoldsS (D.put (QcP s.nm) (Qk1 s)) (L ++ [s]):=by
 have hh:=h.none hn;refine ⟨List.pairwise_append.2 ⟨h.ap,List.pairwise_singleton _ _,fun a ha b hb=>by simp at hb;subst hb;exact hn a ha⟩,fun d hd z=>?_,fun u q=>?_,?_⟩
 ·rcases List.mem_append.1 hd with hd | hd
  ·rw [atKey_put_other (fun e=>hn d hd (QdO e))];exact h.val d hd z
  ·simp at hd
   subst hd;exact atKey_put_same t.isMap (QkV _) _ z
 ·by_cases e:QcP u=QcP s.nm
  ·exact ⟨s,by simp,(QdO e).symm⟩
  ·rw [has_put_other e] at q
   obtain ⟨d,hd,e2⟩:=h.only u q;exact ⟨d,List.mem_append_left _ hd,e2⟩
 ·rw [size_put t,hh,List.length_append];simp [h.sz]
def MpS (w:World) (b n:Nat) (L:List Sd):Prop:=∃ D:DataW Value,w.ownsMap prog 9 rS b n D/\HoldsS D L
theorem MpS.kept (h:MpS w b n L) {row:Option Nat} (hg:w.grownBy w' row) (hne:Option.some b≠row):MpS w' b n L:=by
 obtain ⟨D,h1,h2⟩:=h;exact ⟨D,h1.kept hg hne,h2⟩
theorem MpS.lt (h:MpS w b n L):b<w.heap.size:=by
 obtain ⟨D,h1,h2⟩:=h;exact h1.lt
theorem MpS.past (h:MpS w b n L) (hb:Bw w w'):MpS w' b n L:=h.kept (row:=Option.none) ⟨hb.os,hb.tape,hb.output,hb.size,fun i hi _=>hb.block i hi⟩ (by simp)
theorem MpS.made (w:World):MpS (w.alloc (.map #[] 0)) w.heap.size 0 []:=⟨_,World.ownsMap_made _ _ _ _,HoldsS.nil⟩
structure RgS (D:DataW Value) (left:Lit->Bool) (L M R:List Sd):Prop where
 p:(M ++ R).Perm L
 no:∀ c∈M,left (QcP c.nm)=false
 yes:∀ c∈R,left (QcP c.nm)=true
theorem RgS.start (h:HoldsS D L):RgS D (Maps.has D) L [] L:=⟨by simp,by simp,fun c hc=>h.some hc⟩
variable {left:Lit->Bool}
theorem RgS.next (h:RgS D left L M R) (ho:HoldsS D L) (hl:left (QcP u)=true) {d:DataW Value} (hat:∀ z,D.atKey (QcP u) z=d) :
  ∃ c,c.nm=u/\d=Qk1 c/\∃ R',R.Perm (c :: R')/\RgS D (fun z=>left z && !z.sameKey (QcP u)) L (M ++ [c]) R':=by
 obtain ⟨c,hc,e1⟩:=ho.only u (Maps.has_true_of_atKey hat);subst e1
 have ad:c∈R:=by
  rcases List.mem_append.1 (h.p.mem_iff.2 hc) with q | q
  ·rw [h.no c q] at hl;cases hl
  ·exact q
 obtain ⟨A,B,rfl⟩:=List.append_of_mem ad;have pr:(A ++ c :: B).Perm (c :: (A ++ B)):=List.perm_middle;refine ⟨c,rfl,(hat .nil).symm.trans (ho.val c hc .nil),A ++ B,pr,?_,fun x hx=>?_,fun x hx=>?_⟩
 ·refine List.Perm.trans ?_ h.p
  rw [List.append_assoc];exact List.Perm.append_left M pr.symm
 ·rcases List.mem_append.1 hx with q | q
  ·simp [h.no x q]
  ·obtain rfl:x=c:=by simpa using q
   simp [WideAt.sameKey_self (QkV _)]
 ·have ab:x∈A ++ c :: B:=by
   rcases List.mem_append.1 hx with q | q <;> simp [q]
  have ac:x.nm≠c.nm:=by
   have ap:=(ho.perm ((h.p.symm).trans (List.Perm.append_left M pr))).ap;have aa:=(List.pairwise_append.1 ap).2.1;exact fun q=>(List.pairwise_cons.1 aa).1 x hx q.symm
  simp [h.yes x ab,sameKey_ne (fun q=>ac (QdO q))]
theorem RgS.done (h:RgS D left L M R) (hl:∀ z,left z=false):M.Perm L:=by
 have:R=[]:=by
  cases R with
  | nil=>rfl
  | cons c R=>have:=h.yes c (by simp);rw [hl] at this;cases this
 have p:=h.p;rw [this,List.append_nil] at p;exact p
abbrev slS (s:Sd):Value:=.slice s.ao s.L.length s.cp
structure LvO (w:World) (B:Nat) (M:List Sd):Prop where
 r:∀ s∈M,OwnC w B (slS s) s.L
 rap:M.Pairwise (fun s t=>ApV (slS s) (slS t))
 o:CesO w B (QaL M)
theorem QeF (A B:List Sd):QaL (A ++ B)=QaL A ++ QaL B:=by simp [QaL]
theorem Qjk (s:Sd):QaL [s]=s.L:=by simp [QaL]
theorem LvO.nil (w:World) (B:Nat):LvO w B []:=⟨by simp,.nil,CesO.nil _ _⟩
theorem LvO.past (h:LvO w B M) (hb:Bw w w'):LvO w' B M:=⟨fun s hs=>(h.r s hs).past hb,h.rap,h.o.past hb⟩
theorem QoC {L:List Ce} (h:OwnC w B v L) (hj:j<B):v.ownBlock=none∨v.ownBlock≠some j:=by
 cases q:v.ownBlock with
 | none=>exact .inl rfl
 | some k=>exact .inr (fun e=>by have:=(World.ownsRow.lt h k q).1;injection e with e;omega)
theorem LvO.grown (h:LvO w B M) (hg:w.grownBy w' (some j)) (hj:j<B):LvO w' B M:=
 ⟨fun s hs=>World.ownsRow.kept (h.r s hs) hg (QoC (h.r s hs) hj),h.rap,h.o.grown hg hj⟩
theorem LvO.add (h:LvO w B M) (hb:Bw w w') (hB:B<=w.heap.size) (hr:OwnC w' w.heap.size (slS t) t.L) (ho:CesO w' w.heap.size t.L):LvO w' B (M ++ [t]):=by
 refine ⟨fun s hs=>?_,List.pairwise_append.2 ⟨h.rap,List.pairwise_singleton _ _,fun a ha b hb'=>?_⟩,?_⟩
 ·rcases List.mem_append.1 hs with hs | hs
  ·exact (h.r s hs).past hb
  ·simp at hs
   subst hs;exact hr.le hB
 ·simp at hb'
  subst hb';intro k h1 h2;have l1:=(World.ownsRow.lt (h.r a ha) k h1).2;have l2:=(World.ownsRow.lt hr k h2).1;omega
 ·rw [QeF,Qjk]
  exact h.o.app hb hB ho
theorem Qq2 (w:World):(Instr.makeMap 50 none).run prog w=.ok (.map (some w.heap.size)) (w.alloc (.map #[] 0)):=by
 have h:=underlying50;simp [Instr.makeMap,h]
structure LvP (w w':World) (S:List Sd) (k mb Bm:Nat) (M:List Sd):Prop where
 mp:MpS w' mb k M
 o:LvO w' Bm M
 ky:M.map Sd.key=(S.take k).map Sd.key
 lt:mb<Bm
 le:w.heap.size<=mb
 bm:Bm<=w'.heap.size
 b:Bw w w'
theorem LvP.past {Bm:Nat} (h:LvP w wr S k mb Bm M) (hb:Bw wr w'):LvP w w' S k mb Bm M:=
 ⟨h.mp.past hb,h.o.past hb,h.ky,h.lt,h.le,Nat.le_trans h.bm hb.size,Qac h.b hb⟩
theorem QlO (h:M.map Sd.key=(S.take k).map Sd.key) (hs:S[k]?=some s) (e:t.key=s.key):(M ++ [t]).map Sd.key=(S.take (k+1)).map Sd.key:=by
 rw [List.take_add_one,hs,List.map_append,List.map_append,h];simp [e]
theorem Qjf (p:Pi) (hN:S.length=N) (lN:N<=1000) (lL:∀ s∈S,s.L.length<=1048576) (sm:∀ s∈S,∀ c∈s.L,AgSm c.g) (pl:∀ s∈S,∀ c∈s.L,PlG c.g c.p) (nz:∀ s∈S,s.nm.size<=maxLen) (ap:S.Pairwise (fun s t=>s.nm≠t.nm)) (hA:QfW w ao S) :
  Calls prog 27 #[.agg (Qad (.slice ao N ca) p)] w fun e w'=>∃ mb,e=.returned (.agg #[.int .i64 p.a,.int .i64 p.b,.int .i64 p.c,.int .i64 p.d,.map (some mb)])/\∃ Bm M,LvP w w' S N mb Bm M:=by
 have HN:=Qaa hN;have LL:=Qaa lL;have SM:=Qaa sm;have PL:=Qaa pl;have NZ:=Qaa nz;have AP:=Qaa ap;have HA:=Qaa hA;have a1:∀ (X:World) o,Bw X (X.alloc o):=fun X o=>bA;have hz:(w.alloc (.cells (Qad (.slice ao N ca) p) 25)).heap.size=w.heap.size+1:=by simp
 have ad:=Qaa (Qaf (ZZk w (.cells (Qad (.slice ao N ca) p) 25)) (a1 _ (.cells zAd 52)));have aw:=ZZk (w.alloc (.cells (Qad (.slice ao N ca) p) 25)) (.cells zAd 52);rw [hz] at aw;have aq:=Qaa aw;have av:=Qaa (Qac (a1 w (.cells (Qad (.slice ao N ca) p) 25)) (a1 _ (.cells zAd 52)));have ax:Hid (((w.alloc (.cells (Qad (.slice ao N ca) p) 25)).alloc (.cells zAd 52)).heap.size=w.heap.size+2):=Qaa (by simp);clear hN lL sm pl nz ap hA a1 hz aw;go_enter func27,ntmps27;go_upto_region 1 with fail;generalize (w.alloc _).alloc _=W0 at ad aq av ax ⊢;have r0:=Qar ad 0 rfl;have r1:=Qar ad 1 rfl;have r2:=Qar ad 2 rfl;have r3:=Qar ad 3 rfl;have r4:=Qar ad 4 rfl;go_wp2_with fail;clear r0 r1 r2 r3 r4;refine (QkF _ ao N ca rfl p.a p.b p.c p.d _).mono ?_;rintro e w1 ⟨rfl,ag⟩;have Y0:=Qaa (Qaf ad ag);have Y1:=Qaa (Qaf aq ag);have aG:=Qaa (Qac av ag);have an:Hid (w.heap.size+2<=w1.heap.size):=Qaa (by have:=ag.size;have:=ax.out;omega);clear ag ad aq av ax;have aQ:=Qq2;go_upto_region 2 with fail;clear aQ;have a1:∀ (X:World) o,Bw X (X.alloc o):=fun X o=>bA;have b2:∀ o,Bw w1 ((w1.alloc (.map #[] 0)).alloc o):=fun o=>Qac (a1 _ _) (a1 _ _);obtain ⟨mb,ai⟩:∃ mb,w1.heap.size=mb:=⟨_,rfl⟩;have au:(w1.alloc (.map #[] 0)).heap.size=mb+1:=by rw [<- ai];simp
 rw [ai]
 have X3:Hid (((w1.alloc (.map #[] 0)).alloc (.cells #[.int .i64 p.a,.int .i64 p.b,.int .i64 p.c,.int .i64 p.d,.map (some mb)] 52)).heap[mb+1]?=some (.cells #[.int .i64 p.a,.int .i64 p.b,.int .i64 p.c,.int .i64 p.d,.map (some mb)] 52 (0,0))):=by
  have q:=ZZk (w1.alloc (.map #[] 0)) (.cells #[.int .i64 p.a,.int .i64 p.b,.int .i64 p.c,.int .i64 p.d,.map (some mb)] 52);rw [au] at q;exact q
 have ar:=Qaa (Qaf Y0 (b2 (.cells #[.int .i64 p.a,.int .i64 p.b,.int .i64 p.c,.int .i64 p.d,.map (some mb)] 52)));have aA:=Qaa (Qaf Y1 (b2 (.cells #[.int .i64 p.a,.int .i64 p.b,.int .i64 p.c,.int .i64 p.d,.map (some mb)] 52)))
 have ak:Hid (LvP w ((w1.alloc (.map #[] 0)).alloc (.cells #[.int .i64 p.a,.int .i64 p.b,.int .i64 p.c,.int .i64 p.d,.map (some mb)] 52)) S 0 mb (mb+2) []):=by
  have m0:=(MpS.made w1).past (a1 _ (.cells #[.int .i64 p.a,.int .i64 p.b,.int .i64 p.c,.int .i64 p.d,.map (some mb)] 52));rw [ai] at m0;exact Qaa ⟨m0,LvO.nil _ _,by simp,by omega,by have:=an.out;omega,by rw [World.size_alloc,au];omega,Qac aG (b2 _)⟩
 have aT:w.heap.size+2<=mb:=by have:=an.out;omega
 generalize (w1.alloc _).alloc _=W3 at X3 ar aA ak ⊢;clear Y0 Y1 aG an a1 b2 au ai w1;have r0:W3.cell? ⟨w.heap.size,0,none⟩=some (.slice ao N ca):=Qar ar 0 rfl;go_upto_region 3 with fail;clear r0 ar
 go_loopw [13] (fun i wr=>∃ (k:Nat) (M:List Sd),k<=N/\i=.int .i64 k/\Hid (LvP w wr S k mb (mb+2) M)/\Hid (wr.heap[mb+1]?=some (.cells #[.int .i64 p.a,.int .i64 p.b,.int .i64 p.c,.int .i64 p.d,.map (some mb)] 52 (0,0)))/\Hid (wr.heap[w.heap.size+1]?=some (.cells zAd 52 (0,0)))) (fun i wr=>N - (Go.RowKit.intOf i).toNat)
 case atStart=>exact ⟨0,[],ZZj _,rfl,ak,X3,aA⟩
 case round=>
  clear ak X3 aA;obtain ⟨k,M,hk,rfl,HI,X3,Y1⟩:=hrel;by_cases aR:k<N
  ·have ay:(k:Int)<(N:Int):=by omega
   obtain ⟨b,aS,e,ac⟩:=HA.1 (by have:=HN.out;omega);subst e;obtain ⟨s,hs⟩:∃ s,S[k]?=some s:=⟨S[k]'(by have:=HN.out;omega),ZZe _⟩;obtain ⟨x0,x1⟩:=Qbz (ac k s hs) HI.b;have HS:=Qaa hs;have af:=Qaa (ZZn hs);have aV:IntKind.i64.wrap ((k:Int)+1)=((k+1:Nat):Int):=by rw [show (k:Int)+1=((k+1:Nat):Int) by omega];exact ZZi _ ⟨by omega,by omega⟩
   clear ac hs;go_upto_region 5 with fail;clear x0 x1;have al:Bw wr (wr.alloc (.cells (QaN s) 56)):=bA;have ah:Hid ((wr.alloc (.cells (QaN s) 56)).cell? ⟨wr.heap.size,0,none⟩=some (.string s.nm)):=Qaa (Qar (ZZk wr (.cells (QaN s) 56)) 0 rfl);have am:Hid ((wr.alloc (.cells (QaN s) 56)).cell? ⟨wr.heap.size,1,none⟩=some (.slice s.ao s.L.length s.cp)):=Qaa (Qar (ZZk wr (.cells (QaN s) 56)) 1 rfl);have aa:=Qaa (HI.past al);have X4:=Qaa (Qaf X3 al);have Y4:=Qaa (Qaf Y1 al);clear al HI X3 Y1;generalize wr.alloc _=W4 at ah am aa X4 Y4 ⊢;generalize wr.heap.size=sb at ah am ⊢;clear wr
   have aU:Hid (M.length=k):=by
    have:=congrArg List.length aa.ky;simp only [yA,List.length_take] at this;have:=HN.out;exact Qaa (by omega)
   have ae:(fun W=>Bw W4 W) W4.drew:=(ZZb _ _).drew;refine Qal (fun W=>Bw W4 W) 6 (by kernel_rfl) ?_;refine tkS 0 (.pointer (some ⟨mb+1,4,none⟩)) ae ?_;refine tkL 1 (.map (some mb)) ae (fun W hW=>?_) ?_
   ·have z:=Qab hW (show W4.cell? ⟨mb+1,4,none⟩=some (.map (some mb)) from Qar X4 4 rfl)
    clear hW;go_simp
   refine tkS 2 (.pointer (some ⟨sb,0,none⟩)) ae ?_;simp only [sX];refine tkL 3 (.string s.nm) ae (fun W hW=>?_) ?_
   ·have z:=Qab hW ah
    clear hW;go_simp
   refine tkL 4 (.agg (QaN s)) ae (fun W hW=>?_) ?_
   ·have z0:=Qab hW ah
    have z1:=Qab hW am;clear hW;go_simp
   simp only [sX];refine onE 5 fun K hK=>?_;go_simp;refine (Qk7 s (LL.out s af) (SM.out s af) (PL.out s af) (QaP (HA.2 s af) (Qac aa.b (ae:Bw W4 W4.drew)))).mono ?_;rintro e w6 ⟨bo,cp,M6,rfl,aC,aI,aj,aD⟩;have ab:Hid (Bw W4 w6):=(ae:Bw W4 W4.drew).trans (aD.mono (ZZa _));have aE:M6.length=s.L.length:=Qjc aj;have aM:Hid (OwnC w6 W4.heap.size (.slice bo s.L.length cp) M6):=aC;have aO:Hid (CesO w6 W4.heap.size M6):=aI;have aL:=Qaa aj;have aJ:=Qaa aE;clear aC aI aj aD aE;dsimp only;refine gK hK ab.out ?_
   try simp only [sX]
   obtain ⟨D,hD,aF⟩:=aa.mp.past ab;have aH:=Qaa aF;have HD:=Qaa hD;obtain ⟨w9,az,r1,r2⟩:=hD.update Qfq underlying50 (by unfold maxLen;omega) (Qno (NZ.out s af)) (show rS (.agg #[.string s.nm,.slice bo s.L.length cp])=some (.held (.agg #[.string s.nm,.slice bo s.L.length cp]),[]) from rfl);have RO:=Qaa r1;have RG:=Qaa r2;clear hD aF r1 r2;refine onE 6 fun K hK=>?_;go_simp;refine hK.out _ _ (fun h=>absurd rfl h) ?_;clear az
   try simp only [sX]
   refine dnE ?_ _
   have NN:∀ d∈M,d.nm≠s.nm:=fun d hd e=>by
    obtain ⟨q,hq,e1,_⟩:=Qfi aa.ky hd;obtain ⟨j,hj,rfl⟩:=List.mem_iff_getElem.1 hq;rw [List.length_take] at hj;have h1:S[j]?=some (S.take k)[j]:=by rw [List.getElem_take,List.getElem?_eq_getElem]
    have pw:=List.pairwise_iff_getElem.1 AP j k (by omega) (ZZd.1 HS).1 (by omega);rw [(List.getElem?_eq_some_iff.1 HS.out).2] at pw;rw [List.getElem_take] at e1;exact pw (e1.symm.trans e)
   have aN:Hid (LvP w w9 S (k+1) mb (mb+2) (M ++ [⟨s.nm,M6,bo,cp⟩])):=by
    have e6:=aJ.out;have aP:(QaN ⟨s.nm,M6,bo,cp⟩:Array Value)=#[.string s.nm,.slice bo s.L.length cp]:=by show #[_,_]=_;rw [<- e6]
    have hp:=aH.put_new (HD.tidy Qfq) (s:=⟨s.nm,M6,bo,cp⟩) NN;have ro:=RO.out;have aK:OwnC w6 W4.heap.size (slS ⟨s.nm,M6,bo,cp⟩) M6:=by show OwnC _ _ (.slice bo M6.length cp) _;rw [e6];exact aM.out
    have lo:=(aa.o.add (t:=⟨s.nm,M6,bo,cp⟩) ab aa.bm aK aO).grown RG (by omega);refine Qaa ⟨⟨_,ro,?_⟩,lo,QlO aa.ky HS ?_,aa.lt,aa.le,Nat.le_trans (Nat.le_trans aa.bm ab.size) RG.size,(Qac aa.b ab).grown RG (Qac aa.b ab).size (fun j hj=>by cases hj;exact aa.le)⟩
    ·have aB:HoldsS (D.put (QcP s.nm) (.held (.agg (QaN ⟨s.nm,M6,bo,cp⟩)))) (M ++ [⟨s.nm,M6,bo,cp⟩]):=hp
     rw [aP] at aB;exact aB
    ·show (s.nm,M6.map Ce.key)=s.key
     rw [aL.out];rfl
   have X9:=Qaa ((RG.block (mb+1) (by have:=aa.bm;have:=ab.size;omega) (fun e=>by injection e with e;omega)).trans (Qaf X4 ab));have Y9:=Qaa ((RG.block (w.heap.size+1) (by have:=aa.bm;have:=ab.size;omega) (fun e=>by injection e with e;omega)).trans (Qaf Y4 ab));clear NN aH HD RO RG aa X4 Y4;go_wp2;go_roundw
   case rel=>exact ⟨k+1,_,by omega,by first | rfl | go_num,aN,X9,Y9⟩
   case measure=>simp [zI];omega
  ·have ay:¬ (k:Int)<(N:Int):=by omega
   obtain rfl:k=N:=by omega
   have x0:=Qar X3 0 rfl;have y0:=Qar Y1 0 rfl;have f0:=fzR 0 Y1;have x1:=Qar X3 1 rfl;have y1:=Qar Y1 1 rfl;have f1:=fzR 1 Y1;have x2:=Qar X3 2 rfl;have y2:=Qar Y1 2 rfl;have f2:=fzR 2 Y1;have x3:=Qar X3 3 rfl;have y3:=Qar Y1 3 rfl;have f3:=fzR 3 Y1;have x4:=Qar X3 4 rfl;have y4:=Qar Y1 4 rfl;have f4:=fzR 4 Y1;go_wp2_with fail;clear x0 y0 f0 x1 y1 f1 x2 y2 f2 x3 y3 f3 x4 y4 f4;have h0:=ZZl wr (w.heap.size+1) 0 _ _ (.int .i64 p.a) Y1;have h1:=ZZl _ (w.heap.size+1) 1 _ _ (.int .i64 p.b) h0;have h2:=ZZl _ (w.heap.size+1) 2 _ _ (.int .i64 p.c) h1;have h3:=ZZl _ (w.heap.size+1) 3 _ _ (.int .i64 p.d) h2;have h4:=ZZl _ (w.heap.size+1) 4 _ _ (.map (some mb)) h3;have q0:(((((wr.setCell ⟨w.heap.size+1,0,none⟩ (.int .i64 p.a)).setCell ⟨w.heap.size+1,1,none⟩ (.int .i64 p.b)).setCell ⟨w.heap.size+1,2,none⟩ (.int .i64 p.c)).setCell ⟨w.heap.size+1,3,none⟩ (.int .i64 p.d)).setCell ⟨w.heap.size+1,4,none⟩ (.map (some mb))).cell? ⟨w.heap.size+1,0,none⟩=some (.int .i64 p.a):=Qar h4 0 rfl;have q1:(((((wr.setCell ⟨w.heap.size+1,0,none⟩ (.int .i64 p.a)).setCell ⟨w.heap.size+1,1,none⟩ (.int .i64 p.b)).setCell ⟨w.heap.size+1,2,none⟩ (.int .i64 p.c)).setCell ⟨w.heap.size+1,3,none⟩ (.int .i64 p.d)).setCell ⟨w.heap.size+1,4,none⟩ (.map (some mb))).cell? ⟨w.heap.size+1,1,none⟩=some (.int .i64 p.b):=Qar h4 1 rfl;have q2:(((((wr.setCell ⟨w.heap.size+1,0,none⟩ (.int .i64 p.a)).setCell ⟨w.heap.size+1,1,none⟩ (.int .i64 p.b)).setCell ⟨w.heap.size+1,2,none⟩ (.int .i64 p.c)).setCell ⟨w.heap.size+1,3,none⟩ (.int .i64 p.d)).setCell ⟨w.heap.size+1,4,none⟩ (.map (some mb))).cell? ⟨w.heap.size+1,2,none⟩=some (.int .i64 p.c):=Qar h4 2 rfl;have q3:(((((wr.setCell ⟨w.heap.size+1,0,none⟩ (.int .i64 p.a)).setCell ⟨w.heap.size+1,1,none⟩ (.int .i64 p.b)).setCell ⟨w.heap.size+1,2,none⟩ (.int .i64 p.c)).setCell ⟨w.heap.size+1,3,none⟩ (.int .i64 p.d)).setCell ⟨w.heap.size+1,4,none⟩ (.map (some mb))).cell? ⟨w.heap.size+1,3,none⟩=some (.int .i64 p.d):=Qar h4 3 rfl;have q4:(((((wr.setCell ⟨w.heap.size+1,0,none⟩ (.int .i64 p.a)).setCell ⟨w.heap.size+1,1,none⟩ (.int .i64 p.b)).setCell ⟨w.heap.size+1,2,none⟩ (.int .i64 p.c)).setCell ⟨w.heap.size+1,3,none⟩ (.int .i64 p.d)).setCell ⟨w.heap.size+1,4,none⟩ (.map (some mb))).cell? ⟨w.heap.size+1,4,none⟩=some (.map (some mb)):=Qar h4 4 rfl;have G5:wr.grownBy (((((wr.setCell ⟨w.heap.size+1,0,none⟩ (.int .i64 p.a)).setCell ⟨w.heap.size+1,1,none⟩ (.int .i64 p.b)).setCell ⟨w.heap.size+1,2,none⟩ (.int .i64 p.c)).setCell ⟨w.heap.size+1,3,none⟩ (.int .i64 p.d)).setCell ⟨w.heap.size+1,4,none⟩ (.map (some mb))) (some (w.heap.size+1)):=((((Qai _ _ _ _).trans (Qai _ _ _ _)).trans (Qai _ _ _ _)).trans (Qai _ _ _ _)).trans (Qai _ _ _ _);have HF:LvP w (((((wr.setCell ⟨w.heap.size+1,0,none⟩ (.int .i64 p.a)).setCell ⟨w.heap.size+1,1,none⟩ (.int .i64 p.b)).setCell ⟨w.heap.size+1,2,none⟩ (.int .i64 p.c)).setCell ⟨w.heap.size+1,3,none⟩ (.int .i64 p.d)).setCell ⟨w.heap.size+1,4,none⟩ (.map (some mb))) S k mb (mb+2) M:=⟨HI.mp.kept G5 (fun e=>by injection e with e;omega),HI.o.grown G5 (by omega),HI.ky,HI.lt,HI.le,Nat.le_trans HI.bm G5.size,HI.b.grown G5 HI.b.size (fun j hj=>by injection hj with hj;omega)⟩;exact bodyPost_ret (v:=.agg #[.int .i64 p.a,.int .i64 p.b,.int .i64 p.c,.int .i64 p.d,.map (some mb)]) (by simp [results,results27,go_sem,q0,q1,q2,q3,q4]) rfl ⟨mb,rfl,mb+2,M,HF⟩
theorem QtG (key:Value) (kl:Lit) (h:keyOf prog 9 key=some kl):∃ x:ByteArray,key=.string x:=by
 obtain ⟨x,e,_⟩:=Go.Maps.keyOf_str underlying9 h;exact ⟨_,e⟩
theorem Qu2 {kl:Lit} (h:keyOf prog 9 (.string x)=some kl):kl=QcP x:=by
 obtain ⟨y,e,e2,_⟩:=Go.Maps.keyOf_str underlying9 h;unfold encStr at e;injection e with e;rw [e2,e];unfold QcP;rw [Qba]
theorem QgE {cs:Array Value} (h:(DataW.held (Value.agg cs):DataW Value)=Qk1 s):cs=QaN s:=by
 injection h with q;injection q
def LiS (w:World) (b:Nat) (L:List Sd) (v:Value) (wr:World):Prop:=
 ∃ (D:DataW Value) (left:Lit->Bool) (cnt n:Nat) (A R:List Sd),wr.ranges prog 9 rS b w.heap.size n D left cnt/\HoldsS D L/\RgS D left L A R/\OwnC wr (w.heap.size+1) v (QaL A)/\Bw w wr
theorem QkO {B:List Sd} (h:A.Perm B):(QaL A).Perm (QaL B):=h.flatMap_right _
theorem QnH {w2:World} {cnt cnt2:Nat} {left':Lit->Bool} {R':List Sd} {u:Value} {c:Sd} (hrg:wr.ranges prog 9 rS b w.heap.size n D left cnt) (hho:HoldsS D L) (hbs:b<w.heap.size) (how:OwnC wr (w.heap.size+1) u (QaL A)) (hbl:Bw w wr) (lL:(QaL L).length<=1048576)
  (hrc:RgS D left L A R) (hrc':RgS D left' L (A ++ [c]) R') (hrg2:w2.ranges prog 9 rS b w.heap.size n D left' cnt2) (hlt:cnt2<cnt) (hg2:wr.grownBy w2 (some w.heap.size)) (W3:World) (hb3:Bw w2 W3) :
  OwnC W3 (w.heap.size+1) u (QaL A)/\(QaL A).length+c.L.length<=1048576/\w.heap.size+1<=W3.heap.size/\Bw w W3/\∀ v' w1 T,T=75->w1.ownsRow (w.heap.size+1) T 15 v' ((QaL A).length+c.L.length) (flC (QaL A) ++ flC c.L)->W3.grownBy w1 u.ownBlock->LiS w b L v' w1/\w1.rangeLeft b w.heap.size<wr.rangeLeft b w.heap.size:=by
 have o2:OwnC w2 (w.heap.size+1) u (QaL A):=World.ownsRow.kept how hg2 (QoC how (by omega));have o3:=o2.past hb3
 have lM:(QaL A).length+c.L.length<=1048576:=by
  have:=(QkO hrc'.p).length_eq;rw [QeF,QeF,Qjk,List.length_append,List.length_append] at this;omega
 have hr:=hrg2.lt;have z3:=hb3.size;have ab:Bw w w2:=hbl.grown hg2 hbl.size (fun j hj=>by cases hj;exact ZZa _);have aa:Bw w W3:=ab.trans (hb3.mono ab.size);refine ⟨o3,lM,by omega,aa,fun v' w1 T hT hown hgr=>?_⟩;subst hT;have ac:w2.grownBy W3 none:=⟨hb3.os,hb3.tape,hb3.output,hb3.size,fun i hi _=>hb3.block i hi⟩;have ub:∀ j,u.ownBlock=some j->w.heap.size+1<=j:=fun j q=>(World.ownsRow.lt how j q).1;have r1:=(hrg2.kept ac (by simp) (by simp)).kept hgr (fun e=>by have:=ub b e.symm;omega) (fun e=>by have:=ub _ e.symm;omega);refine ⟨⟨D,left',cnt2,n,A ++ [c],R',r1,hho,hrc',?_,aa.grown hgr aa.size (fun j hj=>Nat.le_of_succ_le (ub j hj))⟩,?_⟩
 ·show w1.ownsRow _ _ _ _ _ _
  rw [QeF,Qjk,List.length_append,Qer];exact hown
 ·rw [r1.left_eq,hrg.left_eq];exact hlt
theorem QuV {c:Sd} (h:OwnC w B (slS c) c.L):(c.ao=none->c.L.length=0/\c.cp=0)/\∀ ad,c.ao=some ad->∀ j u,(flC c.L)[j]?=some u->w.cell? (ad.add j)=some u:=by
 rcases h.2 with ⟨e,h0⟩ | ⟨g,aa,ab,e,_,hg,_⟩
 ·injection e with e1 e2 e3
  exact ⟨fun _=>⟨h0,e3⟩,fun ad q=>by rw [e1] at q;cases q⟩
 ·have h':=h
  unfold slS at h';injection e with e1 e2 e3;refine ⟨(fun q=>by rw [e1] at q;cases q),fun ad q j u hu=>?_⟩;rw [e1] at q;injection q with q;subst q;have hj:=(ZZd.1 hu).1;rw [QbE] at hj;rw [e1] at h';rw [Addr.add_lit,Nat.zero_add,World.ownsRow.cellAt h' j hj];exact hu
theorem QlK {L:List Ce} (p:Pi) (hM:MpS w mb n M) (hR:∀ s∈M,OwnC w 0 (slS s) s.L) (hL:AscC L) (hp:(QaL M).Perm L) (lL:(QaL M).length<=1048576) :
  Calls prog 50 #[.agg #[.int .i64 p.a,.int .i64 p.b,.int .i64 p.c,.int .i64 p.d,.map (some mb)]] w fun e w'=>∃ v,e=.returned v/\OwnC w' w.heap.size v L/\Bw w w':=by
 obtain ⟨i0,hi,aT,aW,aO⟩:=Qe8;have al:Bw w (w.alloc (.cells #[.int .i64 p.a,.int .i64 p.b,.int .i64 p.c,.int .i64 p.d,.map (some mb)] 52)):=bA;obtain ⟨D,ai,af⟩:=hM.past al;have HR:=Qaa (fun s hs=>(hR s hs).past al);have av:=Qaa al;have r4:(w.alloc (.cells #[.int .i64 p.a,.int .i64 p.b,.int .i64 p.c,.int .i64 p.d,.map (some mb)] 52)).cell? ⟨w.heap.size,4,none⟩=some (.map (some mb)):=Qar (ZZk w (.cells #[.int .i64 p.a,.int .i64 p.b,.int .i64 p.c,.int .i64 p.d,.map (some mb)] 52)) 4 rfl;have HD:=Qaa ai;have ae:=Qaa af;have HL:=Qaa hL;have HP:=Qaa hp;have LL:=Qaa lL;clear hM hR hL hp lL al ai af;go_enter func50,ntmps50;go_upto_region 2 with fail;generalize w.alloc _=W0 at HD HR av r4 ⊢
 have H0:Hid (∀ w0:World,w0.ranges prog 9 rS mb W0.heap.size n D (Maps.has D) (Maps.size D)->W0.grownBy w0 none->LiS W0 mb M (.slice none 0 0) w0):=fun w0 q1 q2=>
  ⟨D,_,_,n,[],M,q1,ae,RgS.start ae,OwnC.nil _ _,(ZZb _ W0).grown q2 (ZZa _) (fun j hj=>by cases hj)⟩
 have aG:=HD.lt;have aZ:=Qaa aG;clear aG;go_wp2_with (at_range;refine wpList_range_own _ rfl _ 50 rfl 9 56 Qfq underlying50 _ mb n _ rfl HD ?_;intro w0 am az a1;have HI:=Qaa (H0.out w0 am az);clear am az a1);clear r4
 go_frame
 go_loopw [3] (fun v wr=>Hid (LiS W0 mb M v wr)) (fun _ wr=>wr.rangeLeft mb W0.heap.size)
 case atStart=>exact HI
 case round=>
  clear HI H0 HD ae;obtain ⟨D,aP,a2,n,A,R,aC,aL,ay,aD,ah⟩:=hrel.out;have ax:=Qaa aC;have ae:=Qaa aL;have ap:=Qaa ay;have an:=Qaa aD;have au:=Qaa ah;clear hrel aC aL ay aD ah;go_wp2_with (at_next;refine wpList_next_ranges _ rfl _ rfl 9 Qfq rS Value.string Value.agg QtG (fun v y hv=>Qna hv) mb W0.heap.size n _ _ _ rfl ax ?_ ?_)
  ·intro aY aA
   have aq:=(QkO (ap.done aA)).trans HP;have aM:(QaL A).length<=1048576:=by rw [aq.length_eq,<- HP.length_eq];exact LL.out
   have ag:=QkY HL aq aM an;have HC:=Qaa ag;clear aY aA aq aM ag;go_wp2_with (go_at_call 76;refine HC.mono ?_;rintro e w1 ⟨rfl,aB,a0,aH⟩;have HF:=Qaa (And.intro aB (au.grown aH (Nat.le_trans (ZZa _) au.size) (fun j hj=>Nat.le_of_succ_le (World.ownsRow.lt an j hj).1)));clear aB a0 aH);go_ret;exact ⟨_,rfl,HF.1.le (Nat.le_trans av.size (Nat.le_succ _)),Qac av HF.2⟩
  ·intro x cs kl y1 y2 w2 aR aj aN hv aJ ak aw aF aQ aV
   obtain rfl:=Qu2 aj;have hy:y1=.held (.agg cs):=by cases hv;rfl
   obtain ⟨c,q1,q3,R',aS,ad⟩:=ap.next ae aN aJ;rw [hy] at q3;obtain rfl:=QgE q3;subst q1;have aK:c∈M:=ad.p.mem_iff.1 (List.mem_append_left _ (by simp));have aE:=Qaa (HR.out c aK);have HN:=Qaa (QnH ax ae aZ an au LL ap ad ak aw aF);have aI:Bw w2 (w2.alloc (.cells (QaN c) 56)):=bA;have K1:=Qaa aI;have x1:(w2.alloc (.cells (QaN c) 56)).cell? ⟨w2.heap.size,1,none⟩=some (.slice c.ao c.L.length c.cp):=Qar (ZZk w2 (.cells (QaN c) 56)) 1 rfl;clear aj aN hv aJ ak aw aF aQ hy q3 aS ad ap ae an aI aK;go_upto_region 5 with fail;clear aV;have ac:=Qaa (HN.out _ K1);clear HN K1;generalize w2.alloc _=W3 at ac x1 ⊢;have ar:=Qaa (QuV (aE.past ac.2.2.2.1));clear aE;go_wp2_with (at_builtin;refine Qb0 _ rfl _ _ 35 rfl (W0.heap.size+1) 75 i0 (.agg QbC) 15 192 underlying35 hi aT aW aO rfl (by decide) _ _ _ rfl ac.1 c.ao c.L.length c.cp (flC c.L) rfl ?c0 ar.1 ar.2 (QdX _) ?c3 ?c4 ?c5 ?_)
   case c0=>rw [QbE]
   case c3=>have:=ac.2.1;unfold maxLen;omega
   case c4=>have:=ac.2.1;omega
   case c5=>exact ac.2.2.1
   intro v' w1 ab aa _;obtain ⟨f1,f2⟩:=ac.2.2.2.2 _ _ _ rfl ab aa;have aU:=Qaa f1;have aX:=Qaa f2;clear ab aa f1 f2 ac x1 ar;go_wp2;go_roundw
   case rel=>exact aU
   case measure=>exact aX.out
theorem piBox (w:World) (v:Value) (p:Pi) (T:TypeId):∀ W,Below (w.alloc (.cells (Qad v p) T)).heap.size (w.alloc (.cells (Qad v p) T)) W->W.cell? ⟨w.heap.size,0,none⟩=some v/\W.cell? ⟨w.heap.size,1,none⟩=some (.int .i64 p.a)/\W.cell? ⟨w.heap.size,2,none⟩=some (.int .i64 p.b)/\W.cell? ⟨w.heap.size,3,none⟩=some (.int .i64 p.c)/\W.cell? ⟨w.heap.size,4,none⟩=some (.int .i64 p.d):=fun W hW=>
 ⟨Qab hW (Qar (ZZk w (.cells (Qad v p) T)) 0 rfl),Qab hW (Qar (ZZk w (.cells (Qad v p) T)) 1 rfl),Qab hW (Qar (ZZk w (.cells (Qad v p) T)) 2 rfl),Qab hW (Qar (ZZk w (.cells (Qad v p) T)) 3 rfl),Qab hW (Qar (ZZk w (.cells (Qad v p) T)) 4 rfl)⟩
theorem QpB {L:List Ce} {n:Int} {s:ByteArray} (h:¬ QoG L n s):L.Perm (L.filter (loF n s) ++ L.filter (hiF n s)):=by
 have e:L.filter (fun c=>!loF n s c)=L.filter (hiF n s):=List.filter_congr (fun c hc=>by
  cases q:loF n s c
  ·cases q2:hiF n s c
   ·exact absurd (Qla q q2) (fun e=>h ⟨c,hc,e⟩)
   ·rfl
  ·rw [show hiF n s c=false from Qfr q];rfl)
 have p:=List.filter_append_perm (loF n s) L;rw [e] at p;exact p.symm
theorem Qpi:∀ {X:List Ce},(X.map (fun c=>(c.n,c.s))).Nodup->∃ L,AscC L/\X.Perm L
 | [],_=>⟨[],.nil,.nil⟩
 | c :: X,h=>by
  rw [List.map_cons,List.nodup_cons] at h;obtain ⟨L,hL,hp⟩:=Qpi h.2;have hno:¬ QoG L c.n c.s:=fun ⟨d,hd,e1,e2⟩=>h.1 (List.mem_map.2 ⟨d,hp.mem_iff.2 hd,by rw [e1,e2]⟩);refine ⟨_,QkT (c:=c) hL,(List.Perm.cons c hp).trans ?_⟩;refine (List.Perm.cons c (QpB hno)).trans ?_;exact List.perm_middle.symm
theorem Qos {L:List Ce} (h:AscC L):(L.map (fun c=>(c.n,c.s))).Nodup:=by
 refine List.pairwise_map.2 (h.ap.imp (fun {a b} q e=>q ?_));injection e with e1 e2;exact ⟨e1,e2⟩
theorem QfX {S:List Sd} (q:QS S):∀ k,((QaL (S.take k)).map (fun c=>(c.n,c.s))).Nodup
 | 0=>by simp [QaL]
 | k+1=>by
  cases hs:S[k]? with
  | none=>rw [List.take_add_one,hs];simpa using QfX q k
  | some s=>
   rw [Qgp hs,List.map_append];refine List.nodup_append.2 ⟨QfX q k,Qos (q.asc s (ZZn hs)),fun a ha b hb e=>?_⟩;obtain ⟨d,hd,rfl⟩:=List.mem_map.1 ha;obtain ⟨c,hc,rfl⟩:=List.mem_map.1 hb;injection e with e1 e2;exact q.dj k s hs c hc ⟨d,hd,e1,e2⟩
theorem Qc4 (h:M.map Sd.key=S.map Sd.key):(QaL M).map Ce.key=(QaL S).map Ce.key:=by
 have e:∀ L:List Sd,(QaL L).map Ce.key=(L.map Sd.key).flatMap Prod.snd:=fun L=>by
  unfold QaL;rw [List.map_flatMap,List.flatMap_map]
  rfl
 rw [e,e,h]
theorem QsL {A B:List Ce} (h:A.map Ce.key=B.map Ce.key):A.map (fun c=>(c.n,c.s))=B.map (fun c=>(c.n,c.s)):=by
 have e:∀ L:List Ce,L.map (fun c=>(c.n,c.s))=(L.map Ce.key).map (fun x=>(x.1,x.2.1)):=fun L=>by rw [List.map_map];rfl
 rw [e,e,h]
theorem Qgl:∀ {L M:List Ce},AscC L->AscC M->(L.map Ce.key).Perm (M.map Ce.key)->L.map Ce.key=M.map Ce.key
 | [],M,_,_,p=>by
  have:=p.length_eq
  cases M with
  | nil=>rfl
  | cons _ _=>simp at this
 | c :: L,M,h,k,p=>by
  cases M with
  | nil=>have:=p.length_eq;simp at this
  | cons d M=>
   obtain ⟨h1,h2⟩:=List.pairwise_cons.1 h;obtain ⟨k1,k2⟩:=List.pairwise_cons.1 k
   have lt:∀ {a b:Ce} {x y:Ce},a.key=x.key->b.key=y.key->cAh a b=true->cAh x y=true:=fun {a b x y} e1 e2 q=>by
    obtain ⟨a1,a2,_⟩:=QpL e1;obtain ⟨b1,b2,_⟩:=QpL e2;unfold cAh at q ⊢;rw [<- a1,<- a2,<- b1,<- b2];exact q
   have e:c.key=d.key:=by
    have m1:c.key∈(d :: M).map Ce.key:=p.mem_iff.1 (by simp);have m2:d.key∈(c :: L).map Ce.key:=p.mem_iff.2 (by simp);rw [List.map_cons,List.mem_cons] at m1 m2;rcases m1 with m1 | m1
    ·exact m1
    ·rcases m2 with m2 | m2
     ·exact m2.symm
     ·obtain ⟨x,hx,ex⟩:=List.mem_map.1 m1
      obtain ⟨y,hy,ey⟩:=List.mem_map.1 m2;have q1:=lt (a:=d) (b:=x) rfl ex (k1 x hx);have q2:=lt (a:=c) (b:=y) rfl ey (h1 y hy);rw [Qfr q1] at q2
      cases q2
   rw [List.map_cons,List.map_cons,e] at p ⊢;rw [Qgl h2 k2 (List.Perm.cons_inv p)]
structure PcA (w w':World) (S:List Sd) (p:Pi) (v:Value) (R:List Ce):Prop where
 r:OwnC w' w.heap.size v R
 o:CesO w' w.heap.size R
 y:Qbi S p=true->AscC R/\(R.map Ce.key).Perm ((QaL S).map Ce.key)
 n:Qbi S p=false->R=[]
 b:Bw w w'
variable {p:Pi}
theorem Qay (h:Qbi S p=true):Qeg S=true/\PlP (fcS S) p.d (QaR (S.map Sd.nm)):=by
 unfold Qbi at h;simp only [yB] at h;refine ⟨h.2.1,?_⟩;by_cases q:PlP (fcS S) p.d (QaR (S.map Sd.nm))
 ·exact q
 ·rw [QfI q] at h;cases h.2.2
structure PpI (w:World) (ao:Option Addr) (N:Nat) (S:List Sd):Prop where
 n:S.length=N
 sm:SdsSm S
 ok:∀ s∈S,∀ c∈s.L,AgOk c.g/\c.s.size<=maxLen/\PlG c.g c.p
 at':QfW w ao S
theorem PpI.past (h:PpI w ao N S) (hb:Bw w w'):PpI w' ao N S:=⟨h.n,h.sm,h.ok,QaF h.at' hb⟩
theorem PpI.qs (h:PpI w ao N S) (hp:Qbi S p=true):QS S:=
 qs_of (Qay hp).1 (fun s hs c hc=>⟨(h.ok s hs c hc).1,h.sm.sm s hs c hc,(h.ok s hs c hc).2.1,(h.ok s hs c hc).2.2⟩) (fun x hx=>((Qay hp).2.p x hx).2)
theorem Qmi (h:Qeg S=true):S.Pairwise (fun s t=>s.nm≠t.nm):=by
 have aa:Qag (S.map Sd.nm)=true:=(Bool.and_eq_true_iff.1 (by unfold Qeg at h;exact h)).1;refine List.pairwise_iff_getElem.2 (fun i j hi hj hij e=>?_);have n1:(S.map Sd.nm)[i]?=some S[i].nm:=by rw [List.getElem?_map,List.getElem?_eq_getElem hi];rfl
 have n2:(S.map Sd.nm)[i+(j - i - 1)+1]?=some S[j].nm:=by rw [show i+(j - i - 1)+1=j by omega,List.getElem?_map,List.getElem?_eq_getElem hj];rfl
 have lt:=Qdk aa n1 (j - i - 1) n2;rw [e,Qcq] at lt
 cases lt
theorem QcX (p:Pi) (hI:PpI w ao N S) :
  Calls prog 17 #[.agg (Qad (.slice ao N ca) p)] w fun e w'=>∃ v,e=.returned v/\∃ R,PcA w w' S p v R:=by
 have HI:=Qaa hI;have ac:=Qaa (((ZZb _ _).alloc (ZZa _) _:Bw w (w.alloc (.cells (Qad (.slice ao N ca) p) 25))));have HC:=Qaa (piBox w (.slice ao N ca) p 25);clear hI;go_enter func17,ntmps17;go_upto_region 1 with fail;generalize w.alloc _=W0 at ac HC ⊢;obtain ⟨r0,r1,r2,r3,r4⟩:=HC.out _ (ZZb _ _);go_wp2_with fail;clear r0 r1 r2 r3 r4;refine (Qa7 p HI.n HI.sm HI.ok (QaF HI.at' ac)).mono ?_;rintro e w1 ⟨rfl,ad⟩;have ae:=Qaa ad;have aa:=Qaa (Qac ac ad);clear ad
 cases hp:Qbi S p with
 | false=>
  have HP:=Qaa hp;have m:=OwnC.made w1 #[] rfl;have HF:Hid (PcA w (w1.alloc (.cells #[] 75)) S p (.slice (some ⟨w1.heap.size,0,none⟩) 0 0) []):=Qaa ⟨m.le aa.size,CesO.nil _ _,(fun h=>by rw [HP.out] at h;cases h),fun _=>rfl,aa.alloc aa.size _⟩;clear m hp;go_wp2;go_ret;exact ⟨_,rfl,[],HF⟩
 | true=>
  have HP:=Qaa hp;clear hp;obtain ⟨r0,r1,r2,r3,r4⟩:=HC.out _ ae;go_wp2_with fail;clear r0 r1 r2 r3 r4;refine (Qf3 p HI.n (HI.qs HP) (QaF HI.at' aa)).mono ?_;rintro e w2 ⟨v,R,rfl,ab⟩;have HF:Hid (PcA w w2 S p v R):=Qaa ⟨ab.r.le aa.size,ab.o.le aa.size,(fun _=>⟨ab.asc,by have h:=ab.pm;rw [List.take_of_length_le (by have:=HI.n;omega)] at h;exact h⟩),(fun h=>by rw [HP.out] at h;cases h),Qac aa ab.b⟩;clear ab;go_wp2;go_ret;exact ⟨_,rfl,R,HF⟩
theorem QiN (p:Pi) (hm:MX w) (hI:PpI w ao N S) :
  Calls prog 16 #[.agg (Qad (.slice ao N ca) p)] w fun e w'=>∃ v,e=.returned v/\∃ R,PcA w w' S p v R:=by
 have HI:=Qaa hI;have HM:=Qaa hm;have ad:=Qaa (((ZZb _ _).alloc (ZZa _) _:Bw w (w.alloc (.cells (Qad (.slice ao N ca) p) 25))));have HC:=Qaa (piBox w (.slice ao N ca) p 25);clear hI hm;go_enter func16,ntmps16;go_upto_region 1 with fail;generalize w.alloc _=W0 at ad HC ⊢;obtain ⟨r0,r1,r2,r3,r4⟩:=HC.out _ (ZZb _ _);go_wp2_with fail;clear r0 r1 r2 r3 r4;refine (Qe3 p HI.n HI.sm (fun s hs c hc=>⟨(HI.ok s hs c hc).1,(HI.ok s hs c hc).2.1⟩) (HM.past ad) (QaF HI.at' ad)).mono ?_;rintro e w1 ⟨rfl,ae⟩;have am:=Qaa ae;have ab:=Qaa (Qac ad ae);clear ae
 cases hp:Qbi S p with
 | false=>
  have HP:=Qaa hp;have HF:Hid (PcA w w1 S p (.slice none 0 0) []):=Qaa ⟨OwnC.nil _ _,CesO.nil _ _,(fun h=>by rw [HP.out] at h;cases h),fun _=>rfl,ab⟩;clear hp;go_wp2;go_ret;exact ⟨_,rfl,[],HF⟩
 | true=>
  have HP:=Qaa hp;have HQ:=Qaa (HI.qs hp);clear hp;obtain ⟨r0,r1,r2,r3,r4⟩:=HC.out _ am;go_wp2_with fail;clear r0 r1 r2 r3 r4;refine (Qjf p HI.n (by have:=HQ.n;have:=HI.n;omega) HI.sm.l HI.sm.sm (fun s hs c hc=>(HI.ok s hs c hc).2.2) (fun s hs=>by have:=HI.sm.nz s hs;unfold maxLen;omega) (Qmi (Qay HP).1) (QaF HI.at' ab)).mono ?_;rintro e w2 ⟨mb,rfl,Bm,M,hl⟩;have ac:M.map Sd.key=S.map Sd.key:=by have:=hl.ky;rw [List.take_of_length_le (by have:=HI.n;omega)] at this;exact this
  have aj:((QaL M).map (fun c=>(c.n,c.s))).Nodup:=by
   rw [QsL (Qc4 ac)];have:=QfX HQ S.length;rw [List.take_length] at this;exact this
  obtain ⟨L,hL,ah⟩:=Qpi aj
  have aa:(QaL M).length<=1048576:=by
   have h1:=congrArg List.length (Qc4 ac);rw [yA,yA] at h1;have h2:=Qga (S:=S) 60 HQ.l;have h3:=HQ.n;have:S.length*60<=12*60:=Nat.mul_le_mul_right _ h3;omega
  have HL:=Qaa hl;have ai:=Qaa hL;have af:=Qaa ah;have al:=Qaa aa;have ak:=Qaa ac;clear hl ac aj hL ah aa;go_wp2_with fail;refine (QlK p HL.mp (fun s hs=>(HL.o.r s hs).le (ZZj _)) ai af al).mono ?_;rintro e w3 ⟨v,rfl,ho,ag⟩;have HF:Hid (PcA w w3 S p v L):=Qaa ⟨ho.le (Nat.le_trans ab.size HL.b.size),((HL.o.o.perm af).past ag).le (Nat.le_trans ab.size (Nat.le_trans HL.le (Nat.le_of_lt HL.lt))),(fun _=>⟨ai,by rw [<- Qc4 ak.out];exact (af.map _).symm⟩),(fun h=>by rw [HP.out] at h;cases h),Qac (Qac ab HL.b) ag⟩;clear ho ag;go_wp2;go_ret;exact ⟨_,rfl,L,HF⟩
end Go.Proofs.YtlejlgldgafljaaGreatDoor
