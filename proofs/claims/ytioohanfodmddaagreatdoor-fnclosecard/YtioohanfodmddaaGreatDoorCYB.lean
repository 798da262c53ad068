/-
 Parts.
-/
import Derived.Test.YtioohanfodmddaaGreatDoorCYA
set_option maxRecDepth 10000
set_option maxHeartbeats 16000000
set_option linter.all false
namespace Go.Proofs.YtioohanfodmddaaGreatDoor
open Go.ChangeShapes Go.WideShapes Go.ChangeAt Go.RowKit Go.PlainAid Go.Lib Go.Maps Go.Shelf Tryz
open Go.Sort hiding Below
variable {w w' wr:World}
variable {B N b ca j k mb n:Nat}
variable {c:Ce}
theorem cec_at {o:Nat} (h:QbO w b o c):∀ j z,j<15->(ceL c)[j]?=some z->w.cell? ⟨b,o+j,none⟩=some z:=fun j z hj hz=>by
 obtain ⟨x0,x1,x2,x3,x4,x5,x6,x7,x8,x9,x10,x11,x12,x13,x14⟩:=h;have e:(ceL c)[j]?=(Qao c).toList[j]?:=rfl;rw [e] at hz
 match j,hj with
 | 0,_=>exact x0.trans hz
 | 1,_=>exact x1.trans hz
 | 2,_=>exact x2.trans hz
 | 3,_=>exact x3.trans hz
 | 4,_=>exact x4.trans hz
 | 5,_=>exact x5.trans hz
 | 6,_=>exact x6.trans hz
 | 7,_=>exact x7.trans hz
 | 8,_=>exact x8.trans hz
 | 9,_=>exact x9.trans hz
 | 10,_=>exact x10.trans hz
 | 11,_=>exact x11.trans hz
 | 12,_=>exact x12.trans hz
 | 13,_=>exact x13.trans hz
 | 14,_=>exact x14.trans hz
 | n+15,h=>omega
theorem QsW {A:Addr} {L:List Ce} (hA:QbG w (some A) L):∀ j z,(flC L)[j]?=some z->w.cell? (A.add j)=some z:=fun j z hz=>by
 have hj:=(ZZd.1 hz).1;rw [Qbn] at hj;obtain ⟨b,off,e,hcell⟩:=hA.1 oB
 cases e
 obtain ⟨x,hx⟩:∃ x,L[j / 15]?=some x:=⟨L[j / 15]'oB,ZZe oB⟩;have h1:=Qk3 L (j / 15) x (j % 15) oB hx;rw [show j / 15*15+j % 15=j by omega,hz] at h1;rw [Addr.add_lit,show off+j=off+j / 15*15+j % 15 by omega];exact cec_at (hcell (j / 15) x hx) (j % 15) z oB h1.symm
variable {ao:Option Addr}
theorem Qr5 {L:List Ce} (c n:Nat) (hn:L.length=n) (hl:n<=1048576) (hA:QbG w ao L) :
  Calls prog 96 #[.slice ao n c] w fun e w'=>∃ v,e=.returned v/\OwnC w' w.heap.size v L/\Bw w w':=by
 obtain ⟨i0,hi,ag,ad,ae⟩:=Qeb
 cases ao with
 | none=>
  have h0:n=0:=by
   rcases Nat.eq_zero_or_pos n with h | h
   ·exact h
   ·obtain ⟨b,ah,e,_⟩:=hA.1 oB;cases e
  subst h0;have hq:=fun W=>Lib.run_eql_slice_nil (P:=prog) W 27 46 none 0 c 0 0 underlying27;have HN:Hid (L=[]):=Qaa (List.eq_nil_of_length_eq_zero hn);clear hA hn;go_enter func96,ntmps96;go_wp2;go_ret;exact ⟨_,rfl,by rw [HN.out];exact OwnC.nil _ _,Below.refl _ _⟩
 | some A=>
  have af:=Qaa (QsW hA);have hq:=fun W=>Lib.run_eql_slice_nil (P:=prog) W 27 46 (some A) n c 0 0 underlying27;have HN:=Qaa hn;clear hA hn;go_enter func96,ntmps96;go_wp2_with (at_builtin;refine wpList_append_own _ rfl (.tmp 5) (.tmp 6) 27 rfl w.heap.size 46 i0 (.agg Qbo) 15 192 underlying27 hi ag ad ae rfl oF _ _ _ rfl (World.ownsRow_made _ #[] 0 (Nat.le_refl _) (Nat.zero_le _) rfl) A n c (flC L) rfl (by rw [Qbn,HN.out]) (fun j z hz=>by have:=af.out j z hz;exact QcF this _) (Qc3 _) oC oB oE ?_;intro v1 w1 aa ab ac;simp only [Nat.zero_add,List.nil_append] at aa;have O1:=Qaa aa;have B1:=Qaa (((Below.refl _ _).alloc (Nat.le_refl _) _).grown ab oE (fun j hj=>by cases hj;exact Nat.le_refl _));clear aa ab ac);go_ret;exact ⟨_,rfl,by unfold OwnC;rw [HN.out];exact O1.out,B1⟩
structure CsI (w wr:World) (L:List Ce) (k:Nat) (v:Value) (M:List Ce):Prop where
 r:OwnC wr (w.heap.size+2) v M
 o:CesO wr (w.heap.size+2) (M.take k)
 dr:M.drop k=L.drop k
 ky:M.map Ce.key=L.map Ce.key
 b:Bw w wr
variable {v:Value}
theorem CsI.len {L M:List Ce} (h:CsI w wr L k v M):M.length=L.length:=Qg7 h.ky
theorem CsI.at {L M:List Ce} (h:CsI w wr L k v M) (hc:L[k]?=some c):M[k]?=some c:=by
 have e:=congrArg List.head? h.dr;rw [List.head?_drop,List.head?_drop] at e;rw [e];exact hc
theorem CsI.set {w6:World} {L M:List Ce} {g cp:Nat} {q:Pl} (h:CsI w wr L k (.slice (some ⟨g,0,none⟩) n cp) M) (hn:M.length=n) (hc:L[k]?=some c) (hz:w.heap.size+2<=wr.heap.size) (hb6:Bw wr w6) (ho:AgO w6 wr.heap.size c.g q) :
  CsI w ((((((((((((((w6.setCell ⟨g,k*15+2,none⟩ (.int .i64 c.g.k)).setCell ⟨g,k*15+3,none⟩ (.int .u64 c.g.s)).setCell ⟨g,k*15+4,none⟩ (.int .i64 c.g.h)).setCell ⟨g,k*15+5,none⟩ (.int .u64 c.g.l)).setCell ⟨g,k*15+6,none⟩ (.int .i64 c.g.a)).setCell ⟨g,k*15+7,none⟩ (.int .i64 c.g.t)).setCell ⟨g,k*15+8,none⟩ (.int .u64 c.g.z)).setCell ⟨g,k*15+9,none⟩ (.slice q.pa c.g.P.length q.pc)).setCell ⟨g,k*15+10,none⟩ (.slice q.na c.g.N.length q.nc)).setCell ⟨g,k*15+11,none⟩ (.int .i64 c.g.x)).setCell ⟨g,k*15+12,none⟩ (.int .u64 c.g.y)).setCell ⟨g,k*15+13,none⟩ (.slice q.ea c.g.E.length q.ec)).setCell ⟨g,k*15+14,none⟩ (.slice q.ra c.g.R.length q.rc))) L (k+1) (.slice (some ⟨g,0,none⟩) n cp) (M.set k ⟨c.n,c.s,c.g,q⟩):=by
 have hd:=h.at hc;obtain ⟨s1,s2⟩:=QoQ (c':=⟨c.n,c.s,c.g,q⟩) hd;have hk:=(ZZd.1 hd).1;have r6:=h.r.past hb6
 have tk:(M.set k ⟨c.n,c.s,c.g,q⟩).take (k+1)=M.take k ++ [⟨c.n,c.s,c.g,q⟩]:=by
  have l:(M.take k).length=k:=by rw [List.length_take];omega
  rw [s1,List.take_append,List.take_of_length_le oB,l,Nat.add_sub_cancel_left]
  rfl
 have hO:CesO w6 (w.heap.size+2) (M.take k ++ [⟨c.n,c.s,c.g,q⟩]):=(h.o.add (c:=⟨c.n,c.s,c.g,q⟩) hb6 hz ho).perm (List.perm_append_singleton _ _).symm;have bw:Bw w w6:=Qac h.b hb6;have gl:=fun j (hj:(Value.slice (some ⟨g,0,none⟩) n cp).ownBlock=some j)=>(World.ownsRow.lt h.r j hj).1;refine ⟨r6.putAg hn hd,?_,?_,?_,bw.grown (QlN (g:=g)) bw.size (fun j hj=>Nat.le_trans (Nat.le_add_right _ 2) (gl j hj))⟩
 ·rw [tk];exact hO.row r6 QlN
 ·rw [List.drop_set_of_lt oB]
  have e:=congrArg (List.drop 1) h.dr;rw [List.drop_drop,List.drop_drop] at e
  simpa [Nat.add_comm] using e
 ·rw [<- h.ky,s1]
  conv=>rhs;rw [s2]
  simp only [List.map_append,List.map_cons]
  rfl
theorem Qag {r:Nat} {o:Obj} (h:w.heap[r]?=some o) (hb:Bw w w'):w'.heap[r]?=some o:=(hb.block r (ZZc.1 h).1).trans h
theorem QlZ (s:Sd) (lN:s.L.length<=1048576) (sm:∀ c∈s.L,AgSm c.g) (pl:∀ c∈s.L,PlG c.g c.p) (hA:QbG w s.ao s.L) :
  Calls prog 56 #[.agg (QaS s)] w fun e w'=>∃ ao cp M,e=.returned (.agg #[.string s.nm,.slice ao s.L.length cp])/\OwnC w' w.heap.size (.slice ao s.L.length cp) M/\CesO w' w.heap.size M/\M.map Ce.key=s.L.map Ce.key/\Bw w w':=by
 have SM:=Qaa sm;have PL:=Qaa pl;have HA:=Qaa hA;have a1:∀ (X:World) o,Bw X (X.alloc o):=fun X o=>bAA;have hz:(w.alloc (.cells (QaS s) 71)).heap.size=w.heap.size+1:=oE
 have ak:=Qaa (Qag (ZZk w (.cells (QaS s) 71)) (a1 _ (.cells #[.string ⟨#[]⟩,.slice none 0 0] 71)));have aq:=ZZk (w.alloc (.cells (QaS s) 71)) (.cells #[.string ⟨#[]⟩,.slice none 0 0] 71);rw [hz] at aq;have ar:=Qaa aq;have al:=Qaa (Qac (a1 w (.cells (QaS s) 71)) (a1 _ (.cells #[.string ⟨#[]⟩,.slice none 0 0] 71)));have ah:Hid (((w.alloc (.cells (QaS s) 71)).alloc (.cells #[.string ⟨#[]⟩,.slice none 0 0] 71)).heap.size=w.heap.size+2):=Qaa oE;clear sm pl hA a1 hz aq;go_enter func56,ntmps56;go_upto_region 1 with fail;generalize (w.alloc _).alloc _=W0 at ak ar al ah ⊢;have x1:W0.cell? ⟨w.heap.size,1,none⟩=some (.slice s.ao s.L.length s.cp):=Qar ak 1 rfl;go_wp2_with fail;clear x1;refine (Qr5 s.cp _ rfl lN (QaL HA al)).mono ?_;rintro e w1 ⟨v1,rfl,ay,af⟩;obtain ⟨ao,cp,ev,_⟩:=ay.form;subst ev;have Y0:=Qaa (Qag ak af);have Y1:=Qaa (Qag ar af);have aC:=Qaa (Qac al af);have av:Hid (w.heap.size+2<=w1.heap.size):=Qaa (by have:=af.size;have:=ah.out;omega);have ag:OwnC w1 (w.heap.size+2) (.slice ao s.L.length cp) s.L:=by have:=ah.out;rw [<- this];exact ay
 have au:=Qaa ag;have x1:w1.cell? ⟨w.heap.size,1,none⟩=some (.slice s.ao s.L.length s.cp):=Qar Y0 1 rfl;have f1:w1.frozen? ⟨w.heap.size,1,none⟩=false:=frozen_of_row w1 _ 1 _ _ Y0;clear ay ag af ak ar al ah;go_upto_region 2 with fail;clear x1 f1;have aj:=Qah w1 w.heap.size 1 (.slice ao s.L.length cp)
 have ne:(Value.slice ao s.L.length cp).ownBlock=none∨(Value.slice ao s.L.length cp).ownBlock≠some w.heap.size:=by
  cases q:(Value.slice ao s.L.length cp).ownBlock with
  | none=>exact .inl rfl
  | some j=>exact .inr (fun e=>by have:=(World.ownsRow.lt au j q).1;injection e with e;omega)
 have am:Hid (CsI w (w1.setCell ⟨w.heap.size,1,none⟩ (.slice ao s.L.length cp)) s.L 0 (.slice ao s.L.length cp) s.L):=Qaa ⟨World.ownsRow.kept au aj ne,by rw [List.take_zero];exact CesO.nil _ _,rfl,rfl,aC.setCell (Nat.le_refl _) _⟩;have Z0:Hid ((w1.setCell ⟨w.heap.size,1,none⟩ (.slice ao s.L.length cp)).heap[w.heap.size]?=some (.cells #[.string s.nm,.slice ao s.L.length cp] 71 (0,0))):=Qaa (ZZl w1 w.heap.size 1 _ _ _ Y0);have Z1:Hid ((w1.setCell ⟨w.heap.size,1,none⟩ (.slice ao s.L.length cp)).heap[w.heap.size+1]?=some (.cells #[.string ⟨#[]⟩,.slice none 0 0] 71 (0,0))):=Qaa ((aj.block (w.heap.size+1) (oA av.out) (fun e=>by injection e with e;omega)).trans Y1);have ap:Hid (w.heap.size+2<=(w1.setCell ⟨w.heap.size,1,none⟩ (.slice ao s.L.length cp)).heap.size):=Qaa (Nat.le_trans av aj.size);generalize w1.setCell ⟨w.heap.size,1,none⟩ (.slice ao s.L.length cp)=W2 at am Z0 Z1 ap ⊢;clear Y0 Y1 aC av au aj ne w1;obtain ⟨n,hn⟩:∃ n,s.L.length=n:=⟨_,rfl⟩;rw [hn] at am Z0 lN ⊢;have HN:=Qaa hn;clear hn;have x1:W2.cell? ⟨w.heap.size,1,none⟩=some (.slice ao n cp):=Qar Z0 1 rfl;go_upto_region 3 with fail;clear x1
 go_loopw [11] (fun i wr=>∃ (k:Nat) (M:List Ce),k<=n/\i=.int .i64 k/\Hid (CsI w wr s.L k (.slice ao n cp) M)/\Hid (wr.heap[w.heap.size]?=some (.cells #[.string s.nm,.slice ao n cp] 71 (0,0)))/\Hid (wr.heap[w.heap.size+1]?=some (.cells #[.string ⟨#[]⟩,.slice none 0 0] 71 (0,0)))/\Hid (w.heap.size+2<=wr.heap.size)) (fun i wr=>n - (Go.RowKit.intOf i).toNat)
 case atStart=>exact ⟨0,s.L,ZZj _,rfl,am,Z0,Z1,ap⟩
 case round=>
  clear am Z0 Z1 ap;obtain ⟨k,M,hk,rfl,HI,Z0,Z1,HZ⟩:=hrel;by_cases aX:k<n
  ·have ax:(k:Int)<(n:Int):=by omega
   obtain ⟨c,hc⟩:∃ c,s.L[k]?=some c:=⟨s.L[k]'(oA HN.out),ZZe _⟩;have an:M.length=n:=HI.len.trans HN;have aA:=Qaa an;have ad:OwnC wr (w.heap.size+2) (.slice ao n cp) M:=HI.r;obtain ⟨g,cc,ev⟩:=Qb3 ad oB;injection ev with ev1 ev2 ev3;subst ev1;have hr:=ad;rw [<- an] at hr;have az:=Qe5 hr (HI.at hc);rw [Nat.zero_add] at az;have aF:=Qaa az;have HC:=Qaa hc;have aw:=Qaa (ZZn hc);have aB:=Qaa (World.ownsRow.lt ad g rfl);have a3:IntKind.i64.wrap ((k:Int)+1)=((k+1:Nat):Int):=by rw [show (k:Int)+1=((k+1:Nat):Int) by omega];exact ZZi _ ⟨by omega,by omega⟩
   have aT:¬ n<=k:=oB
   have aZ:n<=cp:=by unfold OwnC at ad;rw [an] at ad;exact QiS ad
   clear hc an ad hr az ev2 ev3;go_upto_region 5 with fail;have ab:(fun W=>Bw wr W) wr.drew:=(ZZb _ _).drew;refine Qal (fun W=>Bw wr W) 12 oG ?_;refine tkS 0 (.pointer (some ⟨w.heap.size,1,none⟩)) ab ?_;refine tkL 1 (.slice (some ⟨g,0,none⟩) n cp) ab (fun W hW=>?_) ?_
   ·have z:=Qab hW (show wr.cell? ⟨w.heap.size,1,none⟩=some (.slice (some ⟨g,0,none⟩) n cp) from Qar Z0 1 rfl)
    exact mAo
   refine tkS 2 (.int .i64 (k:Int)) ab ?_;simp only [sX];refine tkS 3 (.pointer (some ⟨w.heap.size,1,none⟩)) ab ?_;refine tkL 4 (.slice (some ⟨g,0,none⟩) n cp) ab (fun W hW=>?_) ?_
   ·have z:=Qab hW (show wr.cell? ⟨w.heap.size,1,none⟩=some (.slice (some ⟨g,0,none⟩) n cp) from Qar Z0 1 rfl)
    exact mAo
   refine tkS 5 (.int .i64 (k:Int)) ab ?_;simp only [sX];refine tkL 6 (.pointer (some ⟨g,k*15,none⟩)) ab (fun W hW=>?_) ?_
   ·have aT:¬ n<=k:=by omega
    exact mAo
   refine tkS 7 (.pointer (some ⟨g,k*15+2,none⟩)) ab ?_;refine tkL 8 (.agg (Qau c.g c.p)) ab (fun W hW=>?_) ?_
   ·obtain ⟨y0,y1,y2,y3,y4,y5,y6,y7,y8,y9,aY,a2,a4,a5,a0⟩:=Qaq aF hW
    exact mAo
   simp only [sX];refine onE 9 fun K hK=>?_;go_simp;refine (QkQ (SM.out c aw) (PL.out c aw) (QaD (HA.2 c aw) (Qac HI.b (ab:Bw wr wr.drew)))).mono ?_;rintro e w6 ⟨v,o,rfl,aL,⟨q,rfl,ho⟩,aD⟩;subst aL;have ac:Hid (Bw wr w6):=(ab:Bw wr wr.drew).trans (aD.mono (ZZa _));have aJ:Hid (AgO w6 wr.heap.size c.g q):=ho;clear ho aD;dsimp only;refine gK hK ac.out ?_
   try simp only [sX]
   refine onE 10 fun K hK=>?_;go_simp;refine gK hK ac.out ?_
   try simp only [sX]
   refine tkS 11 (.pointer (some ⟨g,k*15+2,none⟩)) ac ?_;simp only [sX];have ae:=HI.r.past ac;have ae:w6.ownsRow (w.heap.size+2) 46 15 (.slice (some ⟨g,0,none⟩) n cp) n (flC M):=by unfold OwnC at ae;rw [aA.out] at ae;exact ae
   have aa:=Qaa ae;have HF:=Qaa (HI.set aA HC HZ ac aJ);have ai:=Qaa (QlN (w:=w6) (g:=g) (i:=k) (o:=c.g) (q:=q));have V0:=Qaa (Qag Z0 ac);have V1:=Qaa (Qag Z1 ac);have VZ:=Qaa (Nat.le_trans HZ ac.size);obtain ⟨u0,u1,u2,u3,u4,u5,u6,u7,u8,u9,aU,aN,aM,aG,aO⟩:=Qaq aF ac;clear ae u0 u1;have f2:=World.ownsRow.frozenAt aa (k*15+2);have f3:=World.ownsRow.frozenAt aa (k*15+3);have f4:=World.ownsRow.frozenAt aa (k*15+4);have f5:=World.ownsRow.frozenAt aa (k*15+5);have f6:=World.ownsRow.frozenAt aa (k*15+6);have f7:=World.ownsRow.frozenAt aa (k*15+7);have f8:=World.ownsRow.frozenAt aa (k*15+8);have f9:=World.ownsRow.frozenAt aa (k*15+9);have aR:=World.ownsRow.frozenAt aa (k*15+10);have aI:=World.ownsRow.frozenAt aa (k*15+11);have aH:=World.ownsRow.frozenAt aa (k*15+12);have aP:=World.ownsRow.frozenAt aa (k*15+13);have aS:=World.ownsRow.frozenAt aa (k*15+14);refine onE 12 fun K hK=>?_;go_simp;clear u2 f2 u3 f3 u4 f4 u5 f5 u6 f6 u7 f7 u8 f8 u9 f9 aU aR aN aI aM aH aG aP aO aS;refine hK.out _ _ (fun h=>absurd rfl h) ?_
   try simp only [sX]
   refine dnE ?_ _;have U0:=Qaa ((ai.block w.heap.size (ZZc.1 V0).1 (fun e=>by injection e with e;have:=aB.1;omega)).trans V0);have U1:=Qaa ((ai.block (w.heap.size+1) (ZZc.1 V1).1 (fun e=>by injection e with e;have:=aB.1;omega)).trans V1);have UZ:=Qaa (Nat.le_trans VZ ai.size);clear ai V0 V1 VZ aa;go_wp2;go_roundw
   case rel=>exact ⟨k+1,_,by omega,by first | rfl | go_num,HF,U0,U1,UZ⟩
   case measure=>simp [zI];omega
  ·have ax:¬ (k:Int)<(n:Int):=by omega
   obtain rfl:k=n:=oB
   have x0:wr.cell? ⟨w.heap.size,0,none⟩=some (.string s.nm):=Qar Z0 0 rfl;have x1:wr.cell? ⟨w.heap.size,1,none⟩=some (.slice ao k cp):=Qar Z0 1 rfl;have y0:wr.cell? ⟨w.heap.size+1,0,none⟩=some (.string ⟨#[]⟩):=Qar Z1 0 rfl;have y1:wr.cell? ⟨w.heap.size+1,1,none⟩=some (.slice none 0 0):=Qar Z1 1 rfl;have f0:=fzR 0 Z1;have f1:=fzR 1 Z1;go_wp2_with fail;clear x0 x1 y0 y1 f0 f1;have aV:=ZZl wr (w.heap.size+1) 0 _ _ (.string s.nm) Z1;have aE:=ZZl _ (w.heap.size+1) 1 _ _ (.slice ao k cp) aV;have q0:((wr.setCell ⟨w.heap.size+1,0,none⟩ (.string s.nm)).setCell ⟨w.heap.size+1,1,none⟩ (.slice ao k cp)).cell? ⟨w.heap.size+1,0,none⟩=some (.string s.nm):=Qar aE 0 rfl;have q1:((wr.setCell ⟨w.heap.size+1,0,none⟩ (.string s.nm)).setCell ⟨w.heap.size+1,1,none⟩ (.slice ao k cp)).cell? ⟨w.heap.size+1,1,none⟩=some (.slice ao k cp):=Qar aE 1 rfl;have G2:wr.grownBy ((wr.setCell ⟨w.heap.size+1,0,none⟩ (.string s.nm)).setCell ⟨w.heap.size+1,1,none⟩ (.slice ao k cp)) (some (w.heap.size+1)):=(Qah _ _ _ _).trans (Qah _ _ _ _);have hO:OwnC wr (w.heap.size+2) (.slice ao k cp) M:=HI.r;have hC:=HI.o;rw [List.take_of_length_le (by rw [HI.len,HN.out];omega)] at hC
   have ne:(Value.slice ao k cp).ownBlock=none∨(Value.slice ao k cp).ownBlock≠some (w.heap.size+1):=by
    cases q:(Value.slice ao k cp).ownBlock with
    | none=>exact .inl rfl
    | some j=>exact .inr (fun e=>by have:=(World.ownsRow.lt hO j q).1;injection e with e;omega)
   have aK:=(World.ownsRow.kept hO G2 ne);have aQ:=hC.grown G2 oB;have aW:=HI.b.grown G2 HI.b.size (fun j hj=>by injection hj with hj;omega);exact bodyPost_ret (v:=.agg #[.string s.nm,.slice ao k cp]) (by simp [results,results56,go_sem,q0,q1]) rfl ⟨ao,cp,by rw [HN.out],M,by rw [HN.out];exact OwnC.le (B:=w.heap.size+2) aK (Nat.le_add_right _ _),aQ.le (Nat.le_add_right _ _),HI.ky,aW⟩
def rS:Value->Option (DataW Value×List MemPlace)
 | .agg cs=>some (.held (.agg cs),[])
 | _=>none
theorem Qtq {y:DataW Value×List MemPlace} (h:rS v=some y):∃ cs,v=.agg cs:=by
 cases v <;> simp [rS] at h
 exact ⟨_,rfl⟩
abbrev Qoo (s:Sd):DataW Value:=.held (.agg (QaS s))
theorem Qfd {a b:ByteArray} (h:Qda a=Qda b):a=b:=by
 unfold Qda at h;injection h with h;exact QaW h
theorem Qlq (a:ByteArray):WideAt.IsKeyLit (Qda a):=trivial
theorem Qkp:Keyed prog 9:=string_keyed underlying9
variable {u x:ByteArray}
theorem Qum (h:x.size<=maxLen):keyOf prog 9 (.string x)=some (Qda x):=Go.WideMaps.keyOf_string_mk underlying9 h
structure HoldsS (D:DataW Value) (L:List Sd):Prop where
 ap:L.Pairwise (fun s t=>s.nm≠t.nm)
 val:∀ s∈L,∀ z,D.atKey (Qda s.nm) z=Qoo s
 only:∀ u:ByteArray,Maps.has D (Qda u)=true->∃ s∈L,s.nm=u
 sz:Maps.size D=L.length
theorem HoldsS.nil:HoldsS (.map []) []:=⟨.nil,by simp,(fun n h=>by simp [Maps.has] at h),rfl⟩
variable {A L M R S:List Sd}
variable {D:DataW Value}
theorem HoldsS.perm (h:HoldsS D L) (p:L.Perm M):HoldsS D M:=
 ⟨(p.pairwise_iff (fun {a b} (q:a.nm≠b.nm)=>fun e=>q e.symm)).1 h.ap,fun c hc=>h.val c (p.mem_iff.2 hc),fun n q=>by
  obtain ⟨c,hc,e⟩:=h.only n q;exact ⟨c,p.mem_iff.1 hc,e⟩,h.sz.trans p.length_eq⟩
theorem HoldsS.none (h:HoldsS D L) (hn:∀ d∈L,d.nm≠u):Maps.has D (Qda u)=false:=by
 cases q:Maps.has D (Qda u)
 ·rfl
 ·obtain ⟨c,hc,e⟩:=h.only u q
  exact absurd e (hn c hc)
variable {s t:Sd}
theorem HoldsS.some (h:HoldsS D L) (hs:s∈L):Maps.has D (Qda s.nm)=true:=Maps.has_true_of_atKey (h.val s hs)
theorem HoldsS.put_new (h:HoldsS D L) (t:Tidy D) (hn:∀ d∈L,d.nm≠s.nm):HoldsS (D.put (Qda s.nm) (Qoo s)) (L ++ [s]):=by
 have hh:=h.none hn;refine ⟨List.pairwise_append.2 ⟨h.ap,List.pairwise_singleton _ _,fun a ha b hb=>by simp at hb;subst hb;exact hn a ha⟩,fun d hd z=>?_,fun u q=>?_,?_⟩
 ·rcases List.mem_append.1 hd with hd | hd
  ·rw [atKey_put_other (fun e=>hn d hd (Qfd e))];exact h.val d hd z
  ·simp at hd
   subst hd;exact atKey_put_same t.isMap (Qlq _) _ z
 ·by_cases e:Qda u=Qda s.nm
  ·exact ⟨s,by simp,(Qfd e).symm⟩
  ·rw [has_put_other e] at q
   obtain ⟨d,hd,e2⟩:=h.only u q;exact ⟨d,List.mem_append_left _ hd,e2⟩
 ·rw [size_put t,hh,List.length_append];simp [h.sz]
def MpS (w:World) (b n:Nat) (L:List Sd):Prop:=∃ D:DataW Value,w.ownsMap prog 9 rS b n D/\HoldsS D L
theorem MpS.kept (h:MpS w b n L) {row:Option Nat} (hg:w.grownBy w' row) (hne:Option.some b≠row):MpS w' b n L:=by
 obtain ⟨D,h1,h2⟩:=h;exact ⟨D,h1.kept hg hne,h2⟩
theorem MpS.lt (h:MpS w b n L):b<w.heap.size:=by
 obtain ⟨D,h1,h2⟩:=h;exact h1.lt
theorem MpS.past (h:MpS w b n L) (hb:Bw w w'):MpS w' b n L:=h.kept (row:=Option.none) ⟨hb.os,hb.tape,hb.output,hb.size,fun i hi _=>hb.block i hi⟩ oE
theorem MpS.made (w:World):MpS (w.alloc (.map #[] 0)) w.heap.size 0 []:=⟨_,World.ownsMap_made _ _ _ _,HoldsS.nil⟩
structure RgS (D:DataW Value) (left:Lit->Bool) (L M R:List Sd):Prop where
 p:(M ++ R).Perm L
 no:∀ c∈M,left (Qda c.nm)=false
 yes:∀ c∈R,left (Qda c.nm)=true
theorem RgS.start (h:HoldsS D L):RgS D (Maps.has D) L [] L:=⟨by simp,by simp,fun c hc=>h.some hc⟩
variable {left:Lit->Bool}
theorem RgS.next (h:RgS D left L M R) (ho:HoldsS D L) (hl:left (Qda u)=true) {d:DataW Value} (hat:∀ z,D.atKey (Qda u) z=d) :
  ∃ c,c.nm=u/\d=Qoo c/\∃ R',R.Perm (c :: R')/\RgS D (fun z=>left z && !z.sameKey (Qda u)) L (M ++ [c]) R':=by
 obtain ⟨c,hc,e1⟩:=ho.only u (Maps.has_true_of_atKey hat);subst e1
 have ab:c∈R:=by
  rcases List.mem_append.1 (h.p.mem_iff.2 hc) with q | q
  ·rw [h.no c q] at hl;cases hl
  ·exact q
 obtain ⟨A,B,rfl⟩:=List.append_of_mem ab;have pr:(A ++ c :: B).Perm (c :: (A ++ B)):=List.perm_middle;refine ⟨c,rfl,(hat .nil).symm.trans (ho.val c hc .nil),A ++ B,pr,?_,fun x hx=>?_,fun x hx=>?_⟩
 ·refine List.Perm.trans ?_ h.p
  rw [List.append_assoc];exact List.Perm.append_left M pr.symm
 ·rcases List.mem_append.1 hx with q | q
  ·simp [h.no x q]
  ·obtain rfl:x=c:=by simpa using q
   simp [WideAt.sameKey_self (Qlq _)]
 ·have ac:x∈A ++ c :: B:=by
   rcases List.mem_append.1 hx with q | q <;> simp [q]
  have aa:x.nm≠c.nm:=by
   have ap:=(ho.perm ((h.p.symm).trans (List.Perm.append_left M pr))).ap;have ad:=(List.pairwise_append.1 ap).2.1;exact fun q=>(List.pairwise_cons.1 ad).1 x hx q.symm
  simp [h.yes x ac,sameKey_ne (fun q=>aa (Qfd q))]
theorem RgS.done (h:RgS D left L M R) (hl:∀ z,left z=false):M.Perm L:=by
 have:R=[]:=by
  cases R with
  | nil=>rfl
  | cons c R=>have:=h.yes c oE;rw [hl] at this;cases this
 have p:=h.p;rw [this,List.append_nil] at p;exact p
abbrev slS (s:Sd):Value:=.slice s.ao s.L.length s.cp
structure LvO (w:World) (B:Nat) (M:List Sd):Prop where
 r:∀ s∈M,OwnC w B (slS s) s.L
 rap:M.Pairwise (fun s t=>ApV (slS s) (slS t))
 o:CesO w B (QaK M)
theorem Qct (A B:List Sd):QaK (A ++ B)=QaK A ++ QaK B:=by simp [QaK]
theorem Qgl (s:Sd):QaK [s]=s.L:=by simp [QaK]
theorem LvO.nil (w:World) (B:Nat):LvO w B []:=⟨by simp,.nil,CesO.nil _ _⟩
theorem LvO.past (h:LvO w B M) (hb:Bw w w'):LvO w' B M:=⟨fun s hs=>(h.r s hs).past hb,h.rap,h.o.past hb⟩
theorem QqG {L:List Ce} (h:OwnC w B v L) (hj:j<B):v.ownBlock=none∨v.ownBlock≠some j:=by
 cases q:v.ownBlock with
 | none=>exact .inl rfl
 | some k=>exact .inr (fun e=>by have:=(World.ownsRow.lt h k q).1;injection e with e;omega)
theorem LvO.grown (h:LvO w B M) (hg:w.grownBy w' (some j)) (hj:j<B):LvO w' B M:=
 ⟨fun s hs=>World.ownsRow.kept (h.r s hs) hg (QqG (h.r s hs) hj),h.rap,h.o.grown hg hj⟩
theorem LvO.add (h:LvO w B M) (hb:Bw w w') (hB:B<=w.heap.size) (hr:OwnC w' w.heap.size (slS t) t.L) (ho:CesO w' w.heap.size t.L):LvO w' B (M ++ [t]):=by
 refine ⟨fun s hs=>?_,List.pairwise_append.2 ⟨h.rap,List.pairwise_singleton _ _,fun a ha b hb'=>?_⟩,?_⟩
 ·rcases List.mem_append.1 hs with hs | hs
  ·exact (h.r s hs).past hb
  ·simp at hs
   subst hs;exact hr.le hB
 ·simp at hb'
  subst hb';intro k h1 h2;have l1:=(World.ownsRow.lt (h.r a ha) k h1).2;have l2:=(World.ownsRow.lt hr k h2).1;omega
 ·rw [Qct,Qgl]
  exact h.o.app hb hB ho
theorem Qsx (w:World):(Instr.makeMap 60 none).run prog w=.ok (.map (some w.heap.size)) (w.alloc (.map #[] 0)):=by
 have h:=underlying60;simp [Instr.makeMap,h]
structure LvP (w w':World) (S:List Sd) (k mb Bm:Nat) (M:List Sd):Prop where
 mp:MpS w' mb k M
 o:LvO w' Bm M
 ky:M.map Sd.key=(S.take k).map Sd.key
 lt:mb<Bm
 le:w.heap.size<=mb
 bm:Bm<=w'.heap.size
 b:Bw w w'
theorem LvP.past {Bm:Nat} (h:LvP w wr S k mb Bm M) (hb:Bw wr w'):LvP w w' S k mb Bm M:=
 ⟨h.mp.past hb,h.o.past hb,h.ky,h.lt,h.le,Nat.le_trans h.bm hb.size,Qac h.b hb⟩
theorem Qny (h:M.map Sd.key=(S.take k).map Sd.key) (hs:S[k]?=some s) (e:t.key=s.key):(M ++ [t]).map Sd.key=(S.take (k+1)).map Sd.key:=by
 rw [List.take_add_one,hs,List.map_append,List.map_append,h];simp [e]
theorem Qjw (p:Pi) (hN:S.length=N) (lN:N<=1000) (lL:∀ s∈S,s.L.length<=1048576) (sm:∀ s∈S,∀ c∈s.L,AgSm c.g) (pl:∀ s∈S,∀ c∈s.L,PlG c.g c.p) (nz:∀ s∈S,s.nm.size<=maxLen) (ap:S.Pairwise (fun s t=>s.nm≠t.nm)) (hA:Qf0 w ao S) :
  Calls prog 20 #[.agg (Qae (.slice ao N ca) p)] w fun e w'=>∃ mb,e=.returned (.agg #[.int .i64 p.a,.int .i64 p.b,.int .i64 p.c,.int .i64 p.d,.map (some mb)])/\∃ Bm M,LvP w w' S N mb Bm M:=by
 have HN:=Qaa hN;have LL:=Qaa lL;have SM:=Qaa sm;have PL:=Qaa pl;have NZ:=Qaa nz;have AP:=Qaa ap;have HA:=Qaa hA;have a1:∀ (X:World) o,Bw X (X.alloc o):=fun X o=>bAA;have hz:(w.alloc (.cells (Qae (.slice ao N ca) p) 25)).heap.size=w.heap.size+1:=oE
 have ad:=Qaa (Qag (ZZk w (.cells (Qae (.slice ao N ca) p) 25)) (a1 _ (.cells zAf 62)));have ak:=ZZk (w.alloc (.cells (Qae (.slice ao N ca) p) 25)) (.cells zAf 62);rw [hz] at ak;have am:=Qaa ak;have an:=Qaa (Qac (a1 w (.cells (Qae (.slice ao N ca) p) 25)) (a1 _ (.cells zAf 62)));have aj:Hid (((w.alloc (.cells (Qae (.slice ao N ca) p) 25)).alloc (.cells zAf 62)).heap.size=w.heap.size+2):=Qaa oE;clear hN lL sm pl nz ap hA a1 hz ak;go_enter func20,ntmps20;go_upto_region 1 with fail;generalize (w.alloc _).alloc _=W0 at ad am an aj ⊢;have r0:=Qar ad 0 rfl;have r1:=Qar ad 1 rfl;have r2:=Qar ad 2 rfl;have r3:=Qar ad 3 rfl;have r4:=Qar ad 4 rfl;go_wp2_with fail;clear r0 r1 r2 r3 r4;refine (Qla _ ao N ca rfl p.a p.b p.c p.d _).mono ?_;rintro e w1 ⟨rfl,ag⟩;have Y0:=Qaa (Qag ad ag);have Y1:=Qaa (Qag am ag);have aE:=Qaa (Qac an ag);have av:Hid (w.heap.size+2<=w1.heap.size):=Qaa (by have:=ag.size;have:=aj.out;omega);clear ag ad am an aj;have aO:=Qsx;go_upto_region 2 with fail;clear aO;have a1:∀ (X:World) o,Bw X (X.alloc o):=fun X o=>bAA;have b2:∀ o,Bw w1 ((w1.alloc (.map #[] 0)).alloc o):=fun o=>Qac (a1 _ _) (a1 _ _);obtain ⟨mb,ai⟩:∃ mb,w1.heap.size=mb:=⟨_,rfl⟩;have az:(w1.alloc (.map #[] 0)).heap.size=mb+1:=by rw [<- ai];simp
 rw [ai]
 have X3:Hid (((w1.alloc (.map #[] 0)).alloc (.cells #[.int .i64 p.a,.int .i64 p.b,.int .i64 p.c,.int .i64 p.d,.map (some mb)] 62)).heap[mb+1]?=some (.cells #[.int .i64 p.a,.int .i64 p.b,.int .i64 p.c,.int .i64 p.d,.map (some mb)] 62 (0,0))):=by
  have q:=ZZk (w1.alloc (.map #[] 0)) (.cells #[.int .i64 p.a,.int .i64 p.b,.int .i64 p.c,.int .i64 p.d,.map (some mb)] 62);rw [az] at q;exact q
 have aw:=Qaa (Qag Y0 (b2 (.cells #[.int .i64 p.a,.int .i64 p.b,.int .i64 p.c,.int .i64 p.d,.map (some mb)] 62)));have ax:=Qaa (Qag Y1 (b2 (.cells #[.int .i64 p.a,.int .i64 p.b,.int .i64 p.c,.int .i64 p.d,.map (some mb)] 62)))
 have ar:Hid (LvP w ((w1.alloc (.map #[] 0)).alloc (.cells #[.int .i64 p.a,.int .i64 p.b,.int .i64 p.c,.int .i64 p.d,.map (some mb)] 62)) S 0 mb (mb+2) []):=by
  have m0:=(MpS.made w1).past (a1 _ (.cells #[.int .i64 p.a,.int .i64 p.b,.int .i64 p.c,.int .i64 p.d,.map (some mb)] 62));rw [ai] at m0;exact Qaa ⟨m0,LvO.nil _ _,by simp,by omega,by have:=av.out;omega,by rw [World.size_alloc,az];omega,Qac aE (b2 _)⟩
 have aT:w.heap.size+2<=mb:=by have:=av.out;omega
 generalize (w1.alloc _).alloc _=W3 at X3 aw ax ar ⊢;clear Y0 Y1 aE av a1 b2 az ai w1;have r0:W3.cell? ⟨w.heap.size,0,none⟩=some (.slice ao N ca):=Qar aw 0 rfl;go_upto_region 3 with fail;clear r0 aw
 go_loopw [13] (fun i wr=>∃ (k:Nat) (M:List Sd),k<=N/\i=.int .i64 k/\Hid (LvP w wr S k mb (mb+2) M)/\Hid (wr.heap[mb+1]?=some (.cells #[.int .i64 p.a,.int .i64 p.b,.int .i64 p.c,.int .i64 p.d,.map (some mb)] 62 (0,0)))/\Hid (wr.heap[w.heap.size+1]?=some (.cells zAf 62 (0,0)))) (fun i wr=>N - (Go.RowKit.intOf i).toNat)
 case atStart=>exact ⟨0,[],ZZj _,rfl,ar,X3,ax⟩
 case round=>
  clear ar X3 ax;obtain ⟨k,M,hk,rfl,HI,X3,Y1⟩:=hrel;by_cases aR:k<N
  ·have aq:(k:Int)<(N:Int):=by omega
   obtain ⟨b,aV,e,ac⟩:=HA.1 (oA HN.out);subst e;obtain ⟨s,hs⟩:∃ s,S[k]?=some s:=⟨S[k]'(oA HN.out),ZZe _⟩;obtain ⟨x0,x1⟩:=QbJ (ac k s hs) HI.b;have HS:=Qaa hs;have af:=Qaa (ZZn hs);have aU:IntKind.i64.wrap ((k:Int)+1)=((k+1:Nat):Int):=by rw [show (k:Int)+1=((k+1:Nat):Int) by omega];exact ZZi _ ⟨by omega,by omega⟩
   clear ac hs;go_upto_region 5 with fail;clear x0 x1;have al:Bw wr (wr.alloc (.cells (QaS s) 71)):=bAA;have ah:Hid ((wr.alloc (.cells (QaS s) 71)).cell? ⟨wr.heap.size,0,none⟩=some (.string s.nm)):=Qaa (Qar (ZZk wr (.cells (QaS s) 71)) 0 rfl);have ay:Hid ((wr.alloc (.cells (QaS s) 71)).cell? ⟨wr.heap.size,1,none⟩=some (.slice s.ao s.L.length s.cp)):=Qaa (Qar (ZZk wr (.cells (QaS s) 71)) 1 rfl);have aa:=Qaa (HI.past al);have X4:=Qaa (Qag X3 al);have Y4:=Qaa (Qag Y1 al);clear al HI X3 Y1;generalize wr.alloc _=W4 at ah ay aa X4 Y4 ⊢;generalize wr.heap.size=sb at ah ay ⊢;clear wr
   have aS:Hid (M.length=k):=by
    have:=congrArg List.length aa.ky;simp only [yA,List.length_take] at this;have:=HN.out;exact Qaa oB
   have ae:(fun W=>Bw W4 W) W4.drew:=(ZZb _ _).drew;refine Qal (fun W=>Bw W4 W) 6 oG ?_;refine tkS 0 (.pointer (some ⟨mb+1,4,none⟩)) ae ?_;refine tkL 1 (.map (some mb)) ae (fun W hW=>?_) ?_
   ·have z:=Qab hW (show W4.cell? ⟨mb+1,4,none⟩=some (.map (some mb)) from Qar X4 4 rfl)
    exact mAo
   refine tkS 2 (.pointer (some ⟨sb,0,none⟩)) ae ?_;simp only [sX];refine tkL 3 (.string s.nm) ae (fun W hW=>?_) ?_
   ·have z:=Qab hW ah
    exact mAo
   refine tkL 4 (.agg (QaS s)) ae (fun W hW=>?_) ?_
   ·have z0:=Qab hW ah
    have z1:=Qab hW ay;exact mAo
   simp only [sX];refine onE 5 fun K hK=>?_;go_simp;refine (QlZ s (LL.out s af) (SM.out s af) (PL.out s af) (QaL (HA.2 s af) (Qac aa.b (ae:Bw W4 W4.drew)))).mono ?_;rintro e w6 ⟨bo,cp,M6,rfl,aG,aD,aA,aF⟩;have ab:Hid (Bw W4 w6):=(ae:Bw W4 W4.drew).trans (aF.mono (ZZa _));have aI:M6.length=s.L.length:=Qg7 aA;have aN:Hid (OwnC w6 W4.heap.size (.slice bo s.L.length cp) M6):=aG;have aQ:Hid (CesO w6 W4.heap.size M6):=aD;have aJ:=Qaa aA;have aK:=Qaa aI;clear aG aD aA aF aI;dsimp only;refine gK hK ab.out ?_
   try simp only [sX]
   obtain ⟨D,hD,aB⟩:=aa.mp.past ab;have aH:=Qaa aB;have HD:=Qaa hD;obtain ⟨w9,au,r1,r2⟩:=hD.update Qkp underlying60 oC (Qum (NZ.out s af)) (show rS (.agg #[.string s.nm,.slice bo s.L.length cp])=some (.held (.agg #[.string s.nm,.slice bo s.L.length cp]),[]) from rfl);have RO:=Qaa r1;have RG:=Qaa r2;clear hD aB r1 r2;refine onE 6 fun K hK=>?_;go_simp;refine hK.out _ _ (fun h=>absurd rfl h) ?_;clear au
   try simp only [sX]
   refine dnE ?_ _
   have NN:∀ d∈M,d.nm≠s.nm:=fun d hd e=>by
    obtain ⟨q,hq,e1,_⟩:=Qey aa.ky hd;obtain ⟨j,hj,rfl⟩:=List.mem_iff_getElem.1 hq;rw [List.length_take] at hj;have h1:S[j]?=some (S.take k)[j]:=by rw [List.getElem_take,List.getElem?_eq_getElem]
    have pw:=List.pairwise_iff_getElem.1 AP j k oB (ZZd.1 HS).1 oB;rw [(List.getElem?_eq_some_iff.1 HS.out).2] at pw;rw [List.getElem_take] at e1;exact pw (e1.symm.trans e)
   have aL:Hid (LvP w w9 S (k+1) mb (mb+2) (M ++ [⟨s.nm,M6,bo,cp⟩])):=by
    have e6:=aK.out;have aP:(QaS ⟨s.nm,M6,bo,cp⟩:Array Value)=#[.string s.nm,.slice bo s.L.length cp]:=by show #[_,_]=_;rw [<- e6]
    have hp:=aH.put_new (HD.tidy Qkp) (s:=⟨s.nm,M6,bo,cp⟩) NN;have ro:=RO.out;have aM:OwnC w6 W4.heap.size (slS ⟨s.nm,M6,bo,cp⟩) M6:=by show OwnC _ _ (.slice bo M6.length cp) _;rw [e6];exact aN.out
    have lo:=(aa.o.add (t:=⟨s.nm,M6,bo,cp⟩) ab aa.bm aM aQ).grown RG oB;refine Qaa ⟨⟨_,ro,?_⟩,lo,Qny aa.ky HS ?_,aa.lt,aa.le,Nat.le_trans (Nat.le_trans aa.bm ab.size) RG.size,(Qac aa.b ab).grown RG (Qac aa.b ab).size (fun j hj=>by cases hj;exact aa.le)⟩
    ·have aC:HoldsS (D.put (Qda s.nm) (.held (.agg (QaS ⟨s.nm,M6,bo,cp⟩)))) (M ++ [⟨s.nm,M6,bo,cp⟩]):=hp
     rw [aP] at aC;exact aC
    ·show (s.nm,M6.map Ce.key)=s.key
     rw [aJ.out];rfl
   have X9:=Qaa ((RG.block (mb+1) (by have:=aa.bm;have:=ab.size;omega) (fun e=>by injection e with e;omega)).trans (Qag X4 ab));have Y9:=Qaa ((RG.block (w.heap.size+1) (by have:=aa.bm;have:=ab.size;omega) (fun e=>by injection e with e;omega)).trans (Qag Y4 ab));clear NN aH HD RO RG aa X4 Y4;go_wp2;go_roundw
   case rel=>exact ⟨k+1,_,by omega,by first | rfl | go_num,aL,X9,Y9⟩
   case measure=>simp [zI];omega
  ·have aq:¬ (k:Int)<(N:Int):=by omega
   obtain rfl:k=N:=oB
   have x0:=Qar X3 0 rfl;have y0:=Qar Y1 0 rfl;have f0:=fzR 0 Y1;have x1:=Qar X3 1 rfl;have y1:=Qar Y1 1 rfl;have f1:=fzR 1 Y1;have x2:=Qar X3 2 rfl;have y2:=Qar Y1 2 rfl;have f2:=fzR 2 Y1;have x3:=Qar X3 3 rfl;have y3:=Qar Y1 3 rfl;have f3:=fzR 3 Y1;have x4:=Qar X3 4 rfl;have y4:=Qar Y1 4 rfl;have f4:=fzR 4 Y1;go_wp2_with fail;clear x0 y0 f0 x1 y1 f1 x2 y2 f2 x3 y3 f3 x4 y4 f4;have h0:=ZZl wr (w.heap.size+1) 0 _ _ (.int .i64 p.a) Y1;have h1:=ZZl _ (w.heap.size+1) 1 _ _ (.int .i64 p.b) h0;have h2:=ZZl _ (w.heap.size+1) 2 _ _ (.int .i64 p.c) h1;have h3:=ZZl _ (w.heap.size+1) 3 _ _ (.int .i64 p.d) h2;have h4:=ZZl _ (w.heap.size+1) 4 _ _ (.map (some mb)) h3;have q0:(((((wr.setCell ⟨w.heap.size+1,0,none⟩ (.int .i64 p.a)).setCell ⟨w.heap.size+1,1,none⟩ (.int .i64 p.b)).setCell ⟨w.heap.size+1,2,none⟩ (.int .i64 p.c)).setCell ⟨w.heap.size+1,3,none⟩ (.int .i64 p.d)).setCell ⟨w.heap.size+1,4,none⟩ (.map (some mb))).cell? ⟨w.heap.size+1,0,none⟩=some (.int .i64 p.a):=Qar h4 0 rfl;have q1:(((((wr.setCell ⟨w.heap.size+1,0,none⟩ (.int .i64 p.a)).setCell ⟨w.heap.size+1,1,none⟩ (.int .i64 p.b)).setCell ⟨w.heap.size+1,2,none⟩ (.int .i64 p.c)).setCell ⟨w.heap.size+1,3,none⟩ (.int .i64 p.d)).setCell ⟨w.heap.size+1,4,none⟩ (.map (some mb))).cell? ⟨w.heap.size+1,1,none⟩=some (.int .i64 p.b):=Qar h4 1 rfl;have q2:(((((wr.setCell ⟨w.heap.size+1,0,none⟩ (.int .i64 p.a)).setCell ⟨w.heap.size+1,1,none⟩ (.int .i64 p.b)).setCell ⟨w.heap.size+1,2,none⟩ (.int .i64 p.c)).setCell ⟨w.heap.size+1,3,none⟩ (.int .i64 p.d)).setCell ⟨w.heap.size+1,4,none⟩ (.map (some mb))).cell? ⟨w.heap.size+1,2,none⟩=some (.int .i64 p.c):=Qar h4 2 rfl;have q3:(((((wr.setCell ⟨w.heap.size+1,0,none⟩ (.int .i64 p.a)).setCell ⟨w.heap.size+1,1,none⟩ (.int .i64 p.b)).setCell ⟨w.heap.size+1,2,none⟩ (.int .i64 p.c)).setCell ⟨w.heap.size+1,3,none⟩ (.int .i64 p.d)).setCell ⟨w.heap.size+1,4,none⟩ (.map (some mb))).cell? ⟨w.heap.size+1,3,none⟩=some (.int .i64 p.d):=Qar h4 3 rfl;have q4:(((((wr.setCell ⟨w.heap.size+1,0,none⟩ (.int .i64 p.a)).setCell ⟨w.heap.size+1,1,none⟩ (.int .i64 p.b)).setCell ⟨w.heap.size+1,2,none⟩ (.int .i64 p.c)).setCell ⟨w.heap.size+1,3,none⟩ (.int .i64 p.d)).setCell ⟨w.heap.size+1,4,none⟩ (.map (some mb))).cell? ⟨w.heap.size+1,4,none⟩=some (.map (some mb)):=Qar h4 4 rfl;have G5:wr.grownBy (((((wr.setCell ⟨w.heap.size+1,0,none⟩ (.int .i64 p.a)).setCell ⟨w.heap.size+1,1,none⟩ (.int .i64 p.b)).setCell ⟨w.heap.size+1,2,none⟩ (.int .i64 p.c)).setCell ⟨w.heap.size+1,3,none⟩ (.int .i64 p.d)).setCell ⟨w.heap.size+1,4,none⟩ (.map (some mb))) (some (w.heap.size+1)):=((((Qah _ _ _ _).trans (Qah _ _ _ _)).trans (Qah _ _ _ _)).trans (Qah _ _ _ _)).trans (Qah _ _ _ _);have HF:LvP w (((((wr.setCell ⟨w.heap.size+1,0,none⟩ (.int .i64 p.a)).setCell ⟨w.heap.size+1,1,none⟩ (.int .i64 p.b)).setCell ⟨w.heap.size+1,2,none⟩ (.int .i64 p.c)).setCell ⟨w.heap.size+1,3,none⟩ (.int .i64 p.d)).setCell ⟨w.heap.size+1,4,none⟩ (.map (some mb))) S k mb (mb+2) M:=⟨HI.mp.kept G5 (fun e=>by injection e with e;omega),HI.o.grown G5 oB,HI.ky,HI.lt,HI.le,Nat.le_trans HI.bm G5.size,HI.b.grown G5 HI.b.size (fun j hj=>by injection hj with hj;omega)⟩;exact bodyPost_ret (v:=.agg #[.int .i64 p.a,.int .i64 p.b,.int .i64 p.c,.int .i64 p.d,.map (some mb)]) (by simp [results,results20,go_sem,q0,q1,q2,q3,q4]) rfl ⟨mb,rfl,mb+2,M,HF⟩
theorem QuS (key:Value) (kl:Lit) (h:keyOf prog 9 key=some kl):∃ x:ByteArray,key=.string x:=by
 obtain ⟨x,e,_⟩:=Go.Maps.keyOf_str underlying9 h;exact ⟨_,e⟩
theorem QvT {kl:Lit} (h:keyOf prog 9 (.string x)=some kl):kl=Qda x:=by
 obtain ⟨y,e,e2,_⟩:=Go.Maps.keyOf_str underlying9 h;unfold encStr at e;injection e with e;rw [e2,e];unfold Qda;rw [QaQ]
theorem QjB {cs:Array Value} (h:(DataW.held (Value.agg cs):DataW Value)=Qoo s):cs=QaS s:=by
 injection h with q;injection q
def LiS (w:World) (b:Nat) (L:List Sd) (v:Value) (wr:World):Prop:=
 ∃ (D:DataW Value) (left:Lit->Bool) (cnt n:Nat) (A R:List Sd),wr.ranges prog 9 rS b w.heap.size n D left cnt/\HoldsS D L/\RgS D left L A R/\OwnC wr (w.heap.size+1) v (QaK A)/\Bw w wr
theorem QkA {B:List Sd} (h:A.Perm B):(QaK A).Perm (QaK B):=h.flatMap_right _
theorem QnJ {w2:World} {cnt cnt2:Nat} {left':Lit->Bool} {R':List Sd} {u:Value} {c:Sd} (hrg:wr.ranges prog 9 rS b w.heap.size n D left cnt) (hho:HoldsS D L) (hbs:b<w.heap.size) (how:OwnC wr (w.heap.size+1) u (QaK A)) (hbl:Bw w wr) (lL:(QaK L).length<=1048576)
  (hrc:RgS D left L A R) (hrc':RgS D left' L (A ++ [c]) R') (hrg2:w2.ranges prog 9 rS b w.heap.size n D left' cnt2) (hlt:cnt2<cnt) (hg2:wr.grownBy w2 (some w.heap.size)) (W3:World) (hb3:Bw w2 W3) :
  OwnC W3 (w.heap.size+1) u (QaK A)/\(QaK A).length+c.L.length<=1048576/\w.heap.size+1<=W3.heap.size/\Bw w W3/\∀ v' w1 T,T=46->w1.ownsRow (w.heap.size+1) T 15 v' ((QaK A).length+c.L.length) (flC (QaK A) ++ flC c.L)->W3.grownBy w1 u.ownBlock->LiS w b L v' w1/\w1.rangeLeft b w.heap.size<wr.rangeLeft b w.heap.size:=by
 have o2:OwnC w2 (w.heap.size+1) u (QaK A):=World.ownsRow.kept how hg2 (QqG how oB);have o3:=o2.past hb3
 have lM:(QaK A).length+c.L.length<=1048576:=by
  have:=(QkA hrc'.p).length_eq;rw [Qct,Qct,Qgl,List.length_append,List.length_append] at this;omega
 have hr:=hrg2.lt;have z3:=hb3.size;have ab:Bw w w2:=hbl.grown hg2 hbl.size (fun j hj=>by cases hj;exact ZZa _);have aa:Bw w W3:=ab.trans (hb3.mono ab.size);refine ⟨o3,lM,by omega,aa,fun v' w1 T hT hown hgr=>?_⟩;subst hT;have ac:w2.grownBy W3 none:=⟨hb3.os,hb3.tape,hb3.output,hb3.size,fun i hi _=>hb3.block i hi⟩;have ub:∀ j,u.ownBlock=some j->w.heap.size+1<=j:=fun j q=>(World.ownsRow.lt how j q).1;have r1:=(hrg2.kept ac oE oE).kept hgr (fun e=>by have:=ub b e.symm;omega) (fun e=>by have:=ub _ e.symm;omega);refine ⟨⟨D,left',cnt2,n,A ++ [c],R',r1,hho,hrc',?_,aa.grown hgr aa.size (fun j hj=>Nat.le_of_succ_le (ub j hj))⟩,?_⟩
 ·show w1.ownsRow _ _ _ _ _ _
  rw [Qct,Qgl,List.length_append,Qc1];exact hown
 ·rw [r1.left_eq,hrg.left_eq];exact hlt
theorem Qrr {c:Sd} (h:OwnC w B (slS c) c.L):(c.ao=none->c.L.length=0/\c.cp=0)/\∀ ad,c.ao=some ad->∀ j u,(flC c.L)[j]?=some u->w.cell? (ad.add j)=some u:=by
 rcases h.2 with ⟨e,h0⟩ | ⟨g,ab,aa,e,_,hg,_⟩
 ·injection e with e1 e2 e3
  exact ⟨fun _=>⟨h0,e3⟩,fun ad q=>by rw [e1] at q;cases q⟩
 ·have h':=h
  unfold slS at h';injection e with e1 e2 e3;refine ⟨(fun q=>by rw [e1] at q;cases q),fun ad q j u hu=>?_⟩;rw [e1] at q;injection q with q;subst q;have hj:=(ZZd.1 hu).1;rw [Qbn] at hj;rw [e1] at h';rw [Addr.add_lit,Nat.zero_add,World.ownsRow.cellAt h' j hj];exact hu
theorem Quo {L:List Ce} (p:Pi) (hM:MpS w mb n M) (hR:∀ s∈M,OwnC w 0 (slS s) s.L) (hL:AscC L) (hp:(QaK M).Perm L) (lL:(QaK M).length<=1048576) :
  Calls prog 42 #[.agg #[.int .i64 p.a,.int .i64 p.b,.int .i64 p.c,.int .i64 p.d,.map (some mb)]] w fun e w'=>∃ v,e=.returned v/\OwnC w' w.heap.size v L/\Bw w w':=by
 obtain ⟨i0,hi,aW,aY,aV⟩:=Qeb;have al:Bw w (w.alloc (.cells #[.int .i64 p.a,.int .i64 p.b,.int .i64 p.c,.int .i64 p.d,.map (some mb)] 62)):=bAA;obtain ⟨D,ag,af⟩:=hM.past al;have HR:=Qaa (fun s hs=>(hR s hs).past al);have ar:=Qaa al;have r4:(w.alloc (.cells #[.int .i64 p.a,.int .i64 p.b,.int .i64 p.c,.int .i64 p.d,.map (some mb)] 62)).cell? ⟨w.heap.size,4,none⟩=some (.map (some mb)):=Qar (ZZk w (.cells #[.int .i64 p.a,.int .i64 p.b,.int .i64 p.c,.int .i64 p.d,.map (some mb)] 62)) 4 rfl;have HD:=Qaa ag;have ae:=Qaa af;have HL:=Qaa hL;have HP:=Qaa hp;have LL:=Qaa lL;clear hM hR hL hp lL al ag af;go_enter func42,ntmps42;go_upto_region 2 with fail;generalize w.alloc _=W0 at HD HR ar r4 ⊢
 have H0:Hid (∀ w0:World,w0.ranges prog 9 rS mb W0.heap.size n D (Maps.has D) (Maps.size D)->W0.grownBy w0 none->LiS W0 mb M (.slice none 0 0) w0):=fun w0 q1 q2=>
  ⟨D,_,_,n,[],M,q1,ae,RgS.start ae,OwnC.nil _ _,(ZZb _ W0).grown q2 (ZZa _) (fun j hj=>by cases hj)⟩
 have ay:=HD.lt;have aT:=Qaa ay;clear ay;go_wp2_with (at_range;refine wpList_range_own _ rfl _ 60 rfl 9 71 Qkp underlying60 _ mb n _ rfl HD ?_;intro w0 am aE aZ;have HI:=Qaa (H0.out w0 am aE);clear am aE aZ);clear r4
 go_frame
 go_loopw [3] (fun v wr=>Hid (LiS W0 mb M v wr)) (fun _ wr=>wr.rangeLeft mb W0.heap.size)
 case atStart=>exact HI
 case round=>
  clear HI H0 HD ae;obtain ⟨D,aO,a2,n,A,R,az,aI,aG,aN,aj⟩:=hrel.out;have aH:=Qaa az;have ae:=Qaa aI;have ap:=Qaa aG;have an:=Qaa aN;have aq:=Qaa aj;clear hrel az aI aG aN aj;go_wp2_with (at_next;refine wpList_next_ranges _ rfl _ rfl 9 Qkp rS Value.string Value.agg QuS (fun v y hv=>Qtq hv) mb W0.heap.size n _ _ _ rfl aH ?_ ?_)
  ·intro aS aL
   have av:=(QkA (ap.done aL)).trans HP;have aD:(QaK A).length<=1048576:=by rw [av.length_eq,<- HP.length_eq];exact LL.out
   have ak:=Qez HL av aD an;have HC:=Qaa ak;clear aS aL av aD ak;go_wp2_with (go_at_call 59;refine HC.mono ?_;rintro e w1 ⟨rfl,aM,a0,aJ⟩;have HF:=Qaa (And.intro aM (aq.grown aJ (Nat.le_trans (ZZa _) aq.size) (fun j hj=>Nat.le_of_succ_le (World.ownsRow.lt an j hj).1)));clear aM a0 aJ);go_ret;exact ⟨_,rfl,HF.1.le (Nat.le_trans ar.size (Nat.le_succ _)),Qac ar HF.2⟩
  ·intro x cs kl y1 y2 w2 aP ah aF hv ax ai aB aK aR aQ
   obtain rfl:=QvT ah;have hy:y1=.held (.agg cs):=by cases hv;rfl
   obtain ⟨c,q1,q3,R',a1,ad⟩:=ap.next ae aF ax;rw [hy] at q3;obtain rfl:=QjB q3;subst q1;have aA:c∈M:=ad.p.mem_iff.1 (List.mem_append_left _ oE);have aC:=Qaa (HR.out c aA);have HN:=Qaa (QnJ aH ae aT an aq LL ap ad ai aB aK);have aw:Bw w2 (w2.alloc (.cells (QaS c) 71)):=bAA;have K1:=Qaa aw;have x1:(w2.alloc (.cells (QaS c) 71)).cell? ⟨w2.heap.size,1,none⟩=some (.slice c.ao c.L.length c.cp):=Qar (ZZk w2 (.cells (QaS c) 71)) 1 rfl;clear ah aF hv ax ai aB aK aR hy q3 a1 ad ap ae an aw aA;go_upto_region 5 with fail;clear aQ;have aa:=Qaa (HN.out _ K1);clear HN K1;generalize w2.alloc _=W3 at aa x1 ⊢;have au:=Qaa (Qrr (aC.past aa.2.2.2.1));clear aC;go_wp2_with (at_builtin;refine QbS _ rfl _ _ 27 rfl (W0.heap.size+1) 46 i0 (.agg Qbo) 15 192 underlying27 hi aW aY aV rfl oF _ _ _ rfl aa.1 c.ao c.L.length c.cp (flC c.L) rfl ?c0 au.1 au.2 (Qc3 _) ?c3 ?c4 ?c5 ?_)
   case c0=>rw [Qbn]
   case c3=>have:=aa.2.1;unfold maxLen;omega
   case c4=>have:=aa.2.1;omega
   case c5=>exact aa.2.2.1
   intro v' w1 ab ac _;obtain ⟨f1,f2⟩:=aa.2.2.2.2 _ _ _ rfl ab ac;have aX:=Qaa f1;have aU:=Qaa f2;clear ab ac f1 f2 aa x1 au;go_wp2;go_roundw
   case rel=>exact aX
   case measure=>exact aU.out
theorem piBox (w:World) (v:Value) (p:Pi) (T:TypeId):∀ W,Below (w.alloc (.cells (Qae v p) T)).heap.size (w.alloc (.cells (Qae v p) T)) W->W.cell? ⟨w.heap.size,0,none⟩=some v/\W.cell? ⟨w.heap.size,1,none⟩=some (.int .i64 p.a)/\W.cell? ⟨w.heap.size,2,none⟩=some (.int .i64 p.b)/\W.cell? ⟨w.heap.size,3,none⟩=some (.int .i64 p.c)/\W.cell? ⟨w.heap.size,4,none⟩=some (.int .i64 p.d):=fun W hW=>
 ⟨Qab hW (Qar (ZZk w (.cells (Qae v p) T)) 0 rfl),Qab hW (Qar (ZZk w (.cells (Qae v p) T)) 1 rfl),Qab hW (Qar (ZZk w (.cells (Qae v p) T)) 2 rfl),Qab hW (Qar (ZZk w (.cells (Qae v p) T)) 3 rfl),Qab hW (Qar (ZZk w (.cells (Qae v p) T)) 4 rfl)⟩
theorem Qqb {L:List Ce} {n:Int} {s:ByteArray} (h:¬ Qoc L n s):L.Perm (L.filter (loF n s) ++ L.filter (hiF n s)):=by
 have e:L.filter (fun c=>!loF n s c)=L.filter (hiF n s):=List.filter_congr (fun c hc=>by
  cases q:loF n s c
  ·cases q2:hiF n s c
   ·exact absurd (Qlz q q2) (fun e=>h ⟨c,hc,e⟩)
   ·rfl
  ·rw [show hiF n s c=false from Qfk q];rfl)
 have p:=List.filter_append_perm (loF n s) L;rw [e] at p;exact p.symm
theorem Qnj:∀ {X:List Ce},(X.map (fun c=>(c.n,c.s))).Nodup->∃ L,AscC L/\X.Perm L
 | [],_=>⟨[],.nil,.nil⟩
 | c :: X,h=>by
  rw [List.map_cons,List.nodup_cons] at h;obtain ⟨L,hL,hp⟩:=Qnj h.2;have hno:¬ Qoc L c.n c.s:=fun ⟨d,hd,e1,e2⟩=>h.1 (List.mem_map.2 ⟨d,hp.mem_iff.2 hd,by rw [e1,e2]⟩);refine ⟨_,Qlu (c:=c) hL,(List.Perm.cons c hp).trans ?_⟩;refine (List.Perm.cons c (Qqb hno)).trans ?_;exact List.perm_middle.symm
theorem Qq5 {L:List Ce} (h:AscC L):(L.map (fun c=>(c.n,c.s))).Nodup:=by
 refine List.pairwise_map.2 (h.ap.imp (fun {a b} q e=>q ?_));injection e with e1 e2;exact ⟨e1,e2⟩
theorem QeR {S:List Sd} (q:QS S):∀ k,((QaK (S.take k)).map (fun c=>(c.n,c.s))).Nodup
 | 0=>by simp [QaK]
 | k+1=>by
  cases hs:S[k]? with
  | none=>rw [List.take_add_one,hs];simpa using QeR q k
  | some s=>
   rw [Qg5 hs,List.map_append];refine List.nodup_append.2 ⟨QeR q k,Qq5 (q.asc s (ZZn hs)),fun a ha b hb e=>?_⟩;obtain ⟨d,hd,rfl⟩:=List.mem_map.1 ha;obtain ⟨c,hc,rfl⟩:=List.mem_map.1 hb;injection e with e1 e2;exact q.dj k s hs c hc ⟨d,hd,e1,e2⟩
theorem QcE (h:M.map Sd.key=S.map Sd.key):(QaK M).map Ce.key=(QaK S).map Ce.key:=by
 have e:∀ L:List Sd,(QaK L).map Ce.key=(L.map Sd.key).flatMap Prod.snd:=fun L=>by
  unfold QaK;rw [List.map_flatMap,List.flatMap_map]
  rfl
 rw [e,e,h]
theorem QmG {A B:List Ce} (h:A.map Ce.key=B.map Ce.key):A.map (fun c=>(c.n,c.s))=B.map (fun c=>(c.n,c.s)):=by
 have e:∀ L:List Ce,L.map (fun c=>(c.n,c.s))=(L.map Ce.key).map (fun x=>(x.1,x.2.1)):=fun L=>by rw [List.map_map];rfl
 rw [e,e,h]
theorem QiO:∀ {L M:List Ce},AscC L->AscC M->(L.map Ce.key).Perm (M.map Ce.key)->L.map Ce.key=M.map Ce.key
 | [],M,_,_,p=>by
  have:=p.length_eq
  cases M with
  | nil=>rfl
  | cons _ _=>simp at this
 | c :: L,M,h,k,p=>by
  cases M with
  | nil=>have:=p.length_eq;simp at this
  | cons d M=>
   obtain ⟨h1,h2⟩:=List.pairwise_cons.1 h;obtain ⟨k1,k2⟩:=List.pairwise_cons.1 k
   have lt:∀ {a b:Ce} {x y:Ce},a.key=x.key->b.key=y.key->cAh a b=true->cAh x y=true:=fun {a b x y} e1 e2 q=>by
    obtain ⟨a1,a2,_⟩:=QnG e1;obtain ⟨b1,b2,_⟩:=QnG e2;unfold cAh at q ⊢;rw [<- a1,<- a2,<- b1,<- b2];exact q
   have e:c.key=d.key:=by
    have m1:c.key∈(d :: M).map Ce.key:=p.mem_iff.1 oE;have m2:d.key∈(c :: L).map Ce.key:=p.mem_iff.2 oE;rw [List.map_cons,List.mem_cons] at m1 m2;rcases m1 with m1 | m1
    ·exact m1
    ·rcases m2 with m2 | m2
     ·exact m2.symm
     ·obtain ⟨x,hx,ex⟩:=List.mem_map.1 m1
      obtain ⟨y,hy,ey⟩:=List.mem_map.1 m2;have q1:=lt (a:=d) (b:=x) rfl ex (k1 x hx);have q2:=lt (a:=c) (b:=y) rfl ey (h1 y hy);rw [Qfk q1] at q2
      cases q2
   rw [List.map_cons,List.map_cons,e] at p ⊢;rw [QiO h2 k2 (List.Perm.cons_inv p)]
structure PcA (w w':World) (S:List Sd) (p:Pi) (v:Value) (R:List Ce):Prop where
 r:OwnC w' w.heap.size v R
 o:CesO w' w.heap.size R
 y:Qbq S p=true->AscC R/\(R.map Ce.key).Perm ((QaK S).map Ce.key)
 n:Qbq S p=false->R=[]
 b:Bw w w'
variable {p:Pi}
theorem QaP (h:Qbq S p=true):Qev S=true/\PlP (fcS S) p.d (Qa2 (S.map Sd.nm)):=by
 unfold Qbq at h;simp only [yB] at h;refine ⟨h.2.1,?_⟩;by_cases q:PlP (fcS S) p.d (Qa2 (S.map Sd.nm))
 ·exact q
 ·rw [QfU q] at h;cases h.2.2
structure PpI (w:World) (ao:Option Addr) (N:Nat) (S:List Sd):Prop where
 n:S.length=N
 sm:SdsSm S
 ok:∀ s∈S,∀ c∈s.L,AgOk c.g/\c.s.size<=maxLen/\PlG c.g c.p
 at':Qf0 w ao S
theorem PpI.past (h:PpI w ao N S) (hb:Bw w w'):PpI w' ao N S:=⟨h.n,h.sm,h.ok,QaM h.at' hb⟩
theorem PpI.qs (h:PpI w ao N S) (hp:Qbq S p=true):QS S:=
 qs_of (QaP hp).1 (fun s hs c hc=>⟨(h.ok s hs c hc).1,h.sm.sm s hs c hc,(h.ok s hs c hc).2.1,(h.ok s hs c hc).2.2⟩) (fun x hx=>((QaP hp).2.p x hx).2)
theorem Qpg (h:Qev S=true):S.Pairwise (fun s t=>s.nm≠t.nm):=by
 have aa:Qaj (S.map Sd.nm)=true:=(Bool.and_eq_true_iff.1 (by unfold Qev at h;exact h)).1;refine List.pairwise_iff_getElem.2 (fun i j hi hj hij e=>?_);have n1:(S.map Sd.nm)[i]?=some S[i].nm:=by rw [List.getElem?_map,List.getElem?_eq_getElem hi];rfl
 have n2:(S.map Sd.nm)[i+(j - i - 1)+1]?=some S[j].nm:=by rw [show i+(j - i - 1)+1=j by omega,List.getElem?_map,List.getElem?_eq_getElem hj];rfl
 have lt:=Qdj aa n1 (j - i - 1) n2;rw [e,Qcf] at lt
 cases lt
theorem QiP (p:Pi) (hI:PpI w ao N S) :
  Calls prog 14 #[.agg (Qae (.slice ao N ca) p)] w fun e w'=>∃ v,e=.returned v/\∃ R,PcA w w' S p v R:=by
 have HI:=Qaa hI;have ac:=Qaa (((ZZb _ _).alloc (ZZa _) _:Bw w (w.alloc (.cells (Qae (.slice ao N ca) p) 25))));have HC:=Qaa (piBox w (.slice ao N ca) p 25);clear hI;go_enter func14,ntmps14;go_upto_region 1 with fail;generalize w.alloc _=W0 at ac HC ⊢;obtain ⟨r0,r1,r2,r3,r4⟩:=HC.out _ (ZZb _ _);go_wp2_with fail;clear r0 r1 r2 r3 r4;refine (Qbr p HI.n HI.sm HI.ok (QaM HI.at' ac)).mono ?_;rintro e w1 ⟨rfl,ad⟩;have ae:=Qaa ad;have aa:=Qaa (Qac ac ad);clear ad
 cases hp:Qbq S p with
 | false=>
  have HP:=Qaa hp;have m:=OwnC.made w1 #[] rfl;have HF:Hid (PcA w (w1.alloc (.cells #[] 46)) S p (.slice (some ⟨w1.heap.size,0,none⟩) 0 0) []):=Qaa ⟨m.le aa.size,CesO.nil _ _,(fun h=>by rw [HP.out] at h;cases h),fun _=>rfl,aa.alloc aa.size _⟩;clear m hp;go_wp2;go_ret;exact ⟨_,rfl,[],HF⟩
 | true=>
  have HP:=Qaa hp;clear hp;obtain ⟨r0,r1,r2,r3,r4⟩:=HC.out _ ae;go_wp2_with fail;clear r0 r1 r2 r3 r4;refine (Qgq p HI.n (HI.qs HP) (QaM HI.at' aa)).mono ?_;rintro e w2 ⟨v,R,rfl,ab⟩;have HF:Hid (PcA w w2 S p v R):=Qaa ⟨ab.r.le aa.size,ab.o.le aa.size,(fun _=>⟨ab.asc,by have h:=ab.pm;rw [List.take_of_length_le (oA HI.n)] at h;exact h⟩),(fun h=>by rw [HP.out] at h;cases h),Qac aa ab.b⟩;clear ab;go_wp2;go_ret;exact ⟨_,rfl,R,HF⟩
theorem Qiv (p:Pi) (hm:MX w) (hI:PpI w ao N S) :
  Calls prog 13 #[.agg (Qae (.slice ao N ca) p)] w fun e w'=>∃ v,e=.returned v/\∃ R,PcA w w' S p v R:=by
 have HI:=Qaa hI;have HM:=Qaa hm;have ac:=Qaa (((ZZb _ _).alloc (ZZa _) _:Bw w (w.alloc (.cells (Qae (.slice ao N ca) p) 25))));have HC:=Qaa (piBox w (.slice ao N ca) p 25);clear hI hm;go_enter func13,ntmps13;go_upto_region 1 with fail;generalize w.alloc _=W0 at ac HC ⊢;obtain ⟨r0,r1,r2,r3,r4⟩:=HC.out _ (ZZb _ _);go_wp2_with fail;clear r0 r1 r2 r3 r4;refine (QcS p HI.n HI.sm (fun s hs c hc=>⟨(HI.ok s hs c hc).1,(HI.ok s hs c hc).2.1⟩) (HM.past ac) (QaM HI.at' ac)).mono ?_;rintro e w1 ⟨rfl,ae⟩;have ak:=Qaa ae;have aa:=Qaa (Qac ac ae);clear ae
 cases hp:Qbq S p with
 | false=>
  have HP:=Qaa hp;have HF:Hid (PcA w w1 S p (.slice none 0 0) []):=Qaa ⟨OwnC.nil _ _,CesO.nil _ _,(fun h=>by rw [HP.out] at h;cases h),fun _=>rfl,aa⟩;clear hp;go_wp2;go_ret;exact ⟨_,rfl,[],HF⟩
 | true=>
  have HP:=Qaa hp;have HQ:=Qaa (HI.qs hp);clear hp;obtain ⟨r0,r1,r2,r3,r4⟩:=HC.out _ ak;go_wp2_with fail;clear r0 r1 r2 r3 r4;refine (Qjw p HI.n xD HI.sm.l HI.sm.sm (fun s hs c hc=>(HI.ok s hs c hc).2.2) (fun s hs=>by have:=HI.sm.nz s hs;unfold maxLen;omega) (Qpg (QaP HP).1) (QaM HI.at' aa)).mono ?_;rintro e w2 ⟨mb,rfl,Bm,M,hl⟩;have ad:M.map Sd.key=S.map Sd.key:=by have:=hl.ky;rw [List.take_of_length_le (oA HI.n)] at this;exact this
  have aj:((QaK M).map (fun c=>(c.n,c.s))).Nodup:=by
   rw [QmG (QcE ad)];have:=QeR HQ S.length;rw [List.take_length] at this;exact this
  obtain ⟨L,hL,ai⟩:=Qnj aj
  have ab:(QaK M).length<=1048576:=by
   have h1:=congrArg List.length (QcE ad);rw [yA,yA] at h1;have h2:=Qgh (S:=S) 60 HQ.l;have h3:=HQ.n;have:S.length*60<=12*60:=Nat.mul_le_mul_right _ h3;omega
  have HL:=Qaa hl;have ah:=Qaa hL;have af:=Qaa ai;have al:=Qaa ab;have am:=Qaa ad;clear hl ad aj hL ai ab;go_wp2_with fail;refine (Quo p HL.mp (fun s hs=>(HL.o.r s hs).le (ZZj _)) ah af al).mono ?_;rintro e w3 ⟨v,rfl,ho,ag⟩;have HF:Hid (PcA w w3 S p v L):=Qaa ⟨ho.le (Nat.le_trans aa.size HL.b.size),((HL.o.o.perm af).past ag).le (Nat.le_trans aa.size (Nat.le_trans HL.le (Nat.le_of_lt HL.lt))),(fun _=>⟨ah,by rw [<- QcE am.out];exact (af.map _).symm⟩),(fun h=>by rw [HP.out] at h;cases h),Qac (Qac aa HL.b) ag⟩;clear ho ag;go_wp2;go_ret;exact ⟨_,rfl,L,HF⟩
end Go.Proofs.YtioohanfodmddaaGreatDoor
