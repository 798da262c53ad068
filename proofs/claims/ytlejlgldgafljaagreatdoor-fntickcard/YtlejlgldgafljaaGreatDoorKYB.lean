/-
 Parts.
-/
import Derived.Test.YtlejlgldgafljaaGreatDoorKYA
set_option maxRecDepth 10000
set_option maxHeartbeats 16000000
set_option linter.all false
namespace Go.Proofs.YtlejlgldgafljaaGreatDoor
open Go.ChangeShapes Go.WideShapes Go.ChangeAt Go.RowKit Go.PlainAid Go.Lib Go.Maps Go.Shelf Tryz
open Go.Sort hiding Below
variable {w w' wr:World}
variable {B N b j k n:Nat}
variable {c:Ce}
theorem cec_at {o:Nat} (h:QbT w b o c):∀ j z,j<15->(ceL c)[j]?=some z->w.cell? ⟨b,o+j,none⟩=some z:=fun j z hj hz=>by
 obtain ⟨x0,x1,x2,x3,x4,x5,x6,x7,x8,x9,x10,x11,x12,x13,x14⟩:=h;have e:(ceL c)[j]?=(Qap c).toList[j]?:=rfl;rw [e] at hz
 match j,hj with
 | 0,_=>exact x0.trans hz
 | 1,_=>exact x1.trans hz
 | 2,_=>exact x2.trans hz
 | 3,_=>exact x3.trans hz
 | 4,_=>exact x4.trans hz
 | 5,_=>exact x5.trans hz
 | 6,_=>exact x6.trans hz
 | 7,_=>exact x7.trans hz
 | 8,_=>exact x8.trans hz
 | 9,_=>exact x9.trans hz
 | 10,_=>exact x10.trans hz
 | 11,_=>exact x11.trans hz
 | 12,_=>exact x12.trans hz
 | 13,_=>exact x13.trans hz
 | 14,_=>exact x14.trans hz
 | n+15,h=>omega
variable {L:List Ce}
theorem Qp0 {A:Addr} (hA:QbC w (some A) L):∀ j z,(flC L)[j]?=some z->w.cell? (A.add j)=some z:=fun j z hz=>by
 have hj:=(ZZd.1 hz).1;rw [QbE] at hj;obtain ⟨b,off,e,hcell⟩:=hA.1 (by omega)
 cases e
 obtain ⟨x,hx⟩:∃ x,L[j / 15]?=some x:=⟨L[j / 15]'(by omega),ZZe (by omega)⟩;have h1:=QpR L (j / 15) x (j % 15) (by omega) hx;rw [show j / 15*15+j % 15=j by omega,hz] at h1;rw [Addr.add_lit,show off+j=off+j / 15*15+j % 15 by omega];exact cec_at (hcell (j / 15) x hx) (j % 15) z (by omega) h1.symm
variable {ao:Option Addr}
theorem QqY (c n:Nat) (hn:L.length=n) (hl:n<=1048576) (hA:QbC w ao L) :
  Calls prog 95 #[.slice ao n c] w fun e w'=>∃ v,e=.returned v/\OwnC w' w.heap.size v L/\Below w.heap.size w w':=by
 obtain ⟨i0,hi,ae,af,ad⟩:=Qf8
 cases ao with
 | none=>
  have h0:n=0:=by
   rcases Nat.eq_zero_or_pos n with h | h
   ·exact h
   ·obtain ⟨b,ah,e,_⟩:=hA.1 (by omega);cases e
  subst h0;have hq:=fun W=>Lib.run_eql_slice_nil (P:=prog) W 35 75 none 0 c 0 0 underlying35;have HN:Hid (L=[]):=Qaa (List.eq_nil_of_length_eq_zero hn);clear hA hn;go_enter func95,ntmps95;go_wp2;go_ret;exact ⟨_,rfl,by rw [HN.out];exact OwnC.nil _ _,Below.refl _ _⟩
 | some A=>
  have ag:=Qaa (Qp0 hA);have hq:=fun W=>Lib.run_eql_slice_nil (P:=prog) W 35 75 (some A) n c 0 0 underlying35;have HN:=Qaa hn;clear hA hn;go_enter func95,ntmps95;go_wp2_with (at_builtin;refine wpList_append_own _ rfl (.tmp 5) (.tmp 6) 35 rfl w.heap.size 75 i0 (.agg QbN) 15 192 underlying35 hi ae af ad rfl (by decide) _ _ _ rfl (World.ownsRow_made _ #[] 0 (Nat.le_refl _) (Nat.zero_le _) rfl) A n c (flC L) rfl (by rw [QbE,HN.out]) (fun j z hz=>by have:=ag.out j z hz;exact Qcc this _) (Qct _) (by unfold maxLen;omega) (by omega) (by simp) ?_;intro v1 w1 ab aa ac;simp only [Nat.zero_add,List.nil_append] at ab;have O1:=Qaa ab;have B1:=Qaa (((Below.refl _ _).alloc (Nat.le_refl _) _).grown aa (by simp) (fun j hj=>by cases hj;exact Nat.le_refl _));clear ab aa ac);go_ret;exact ⟨_,rfl,by unfold OwnC;rw [HN.out];exact O1.out,B1⟩
structure CsI (w wr:World) (L:List Ce) (k:Nat) (v:Value) (M:List Ce):Prop where
 r:OwnC wr (w.heap.size+2) v M
 o:CesO wr (w.heap.size+2) (M.take k)
 dr:M.drop k=L.drop k
 ky:M.map Ce.key=L.map Ce.key
 b:Below w.heap.size w wr
variable {v:Value}
theorem CsI.len {M:List Ce} (h:CsI w wr L k v M):M.length=L.length:=Qdm h.ky
theorem CsI.at {M:List Ce} (h:CsI w wr L k v M) (hc:L[k]?=some c):M[k]?=some c:=by
 have e:=congrArg List.head? h.dr;rw [List.head?_drop,List.head?_drop] at e;rw [e];exact hc
theorem CsI.set {w6:World} {M:List Ce} {g cp:Nat} {q:Pl} (h:CsI w wr L k (.slice (some ⟨g,0,none⟩) n cp) M) (hn:M.length=n) (hc:L[k]?=some c) (hz:w.heap.size+2<=wr.heap.size) (hb6:Below wr.heap.size wr w6) (ho:AgO w6 wr.heap.size c.g q) :
  CsI w ((((((((((((((w6.setCell ⟨g,k*15+2,none⟩ (.int .i64 c.g.k)).setCell ⟨g,k*15+3,none⟩ (.int .u64 c.g.s)).setCell ⟨g,k*15+4,none⟩ (.int .i64 c.g.h)).setCell ⟨g,k*15+5,none⟩ (.int .u64 c.g.l)).setCell ⟨g,k*15+6,none⟩ (.int .i64 c.g.a)).setCell ⟨g,k*15+7,none⟩ (.int .i64 c.g.t)).setCell ⟨g,k*15+8,none⟩ (.int .u64 c.g.z)).setCell ⟨g,k*15+9,none⟩ (.slice q.pa c.g.P.length q.pc)).setCell ⟨g,k*15+10,none⟩ (.slice q.na c.g.N.length q.nc)).setCell ⟨g,k*15+11,none⟩ (.int .i64 c.g.x)).setCell ⟨g,k*15+12,none⟩ (.int .u64 c.g.y)).setCell ⟨g,k*15+13,none⟩ (.slice q.ea c.g.E.length q.ec)).setCell ⟨g,k*15+14,none⟩ (.slice q.ra c.g.R.length q.rc))) L (k+1) (.slice (some ⟨g,0,none⟩) n cp) (M.set k ⟨c.n,c.s,c.g,q⟩):=by
 have hd:=h.at hc;obtain ⟨s1,s2⟩:=QnE (c':=⟨c.n,c.s,c.g,q⟩) hd;have hk:=(ZZd.1 hd).1;have r6:=h.r.past hb6
 have tk:(M.set k ⟨c.n,c.s,c.g,q⟩).take (k+1)=M.take k ++ [⟨c.n,c.s,c.g,q⟩]:=by
  have l:(M.take k).length=k:=by rw [List.length_take];omega
  rw [s1,List.take_append,List.take_of_length_le (by omega),l,Nat.add_sub_cancel_left]
  rfl
 have hO:CesO w6 (w.heap.size+2) (M.take k ++ [⟨c.n,c.s,c.g,q⟩]):=(h.o.add (c:=⟨c.n,c.s,c.g,q⟩) hb6 hz ho).perm (List.perm_append_singleton _ _).symm;have bw:Below w.heap.size w w6:=Qac h.b hb6;have gl:=fun j (hj:(Value.slice (some ⟨g,0,none⟩) n cp).ownBlock=some j)=>(World.ownsRow.lt h.r j hj).1;refine ⟨r6.putAg hn hd,?_,?_,?_,bw.grown (QkA (g:=g)) bw.size (fun j hj=>Nat.le_trans (Nat.le_add_right _ 2) (gl j hj))⟩
 ·rw [tk];exact hO.row r6 QkA
 ·rw [List.drop_set_of_lt (by omega)]
  have e:=congrArg (List.drop 1) h.dr;rw [List.drop_drop,List.drop_drop] at e
  simpa [Nat.add_comm] using e
 ·rw [<- h.ky,s1]
  conv=>rhs;rw [s2]
  simp only [List.map_append,List.map_cons]
  rfl
theorem Qam {r:Nat} {o:Obj} (h:w.heap[r]?=some o) (hb:Below w.heap.size w w'):w'.heap[r]?=some o:=(hb.block r (ZZc.1 h).1).trans h
theorem QgP (s:Sd) (lN:s.L.length<=1048576) (sm:∀ c∈s.L,AgSm c.g) (pl:∀ c∈s.L,PlG c.g c.p) (hA:QbC w s.ao s.L) :
  Calls prog 63 #[.agg (QaU s)] w fun e w'=>∃ ao cp M,e=.returned (.agg #[.string s.nm,.slice ao s.L.length cp])/\OwnC w' w.heap.size (.slice ao s.L.length cp) M/\CesO w' w.heap.size M/\M.map Ce.key=s.L.map Ce.key/\Below w.heap.size w w':=by
 have SM:=Qaa sm;have PL:=Qaa pl;have HA:=Qaa hA;have a1:∀ (X:World) o,Below X.heap.size X (X.alloc o):=fun X o=>(ZZb _ _).alloc (ZZa _) _;have hz:(w.alloc (.cells (QaU s) 56)).heap.size=w.heap.size+1:=by simp
 have ah:=Qaa (Qam (ZZk w (.cells (QaU s) 56)) (a1 _ (.cells #[.string ⟨#[]⟩,.slice none 0 0] 56)));have aq:=ZZk (w.alloc (.cells (QaU s) 56)) (.cells #[.string ⟨#[]⟩,.slice none 0 0] 56);rw [hz] at aq;have az:=Qaa aq;have an:=Qaa (Qac (a1 w (.cells (QaU s) 56)) (a1 _ (.cells #[.string ⟨#[]⟩,.slice none 0 0] 56)));have al:Hid (((w.alloc (.cells (QaU s) 56)).alloc (.cells #[.string ⟨#[]⟩,.slice none 0 0] 56)).heap.size=w.heap.size+2):=Qaa (by simp);clear sm pl hA a1 hz aq;go_enter func63,ntmps63;go_upto_region 1 with fail;generalize (w.alloc (.cells (QaU s) 56)).alloc (.cells #[.string ⟨#[]⟩,.slice none 0 0] 56)=W0 at ah az an al ⊢;have x1:W0.cell? ⟨w.heap.size,1,none⟩=some (.slice s.ao s.L.length s.cp):=Qat ah 1 rfl;go_wp2_with fail;clear x1;refine (QqY s.cp _ rfl lN (QaD HA an)).mono ?_;rintro e w1 ⟨v1,rfl,ax,ag⟩;obtain ⟨ao,cp,ev,_⟩:=ax.form;subst ev;have Y0:=Qaa (Qam ah ag);have Y1:=Qaa (Qam az ag);have aA:=Qaa (Qac an ag);have ar:Hid (w.heap.size+2<=w1.heap.size):=Qaa (by have:=ag.size;have:=al.out;omega);have af:OwnC w1 (w.heap.size+2) (.slice ao s.L.length cp) s.L:=by have:=al.out;rw [<- this];exact ax
 have av:=Qaa af;have x1:w1.cell? ⟨w.heap.size,1,none⟩=some (.slice s.ao s.L.length s.cp):=Qat Y0 1 rfl;have f1:w1.frozen? ⟨w.heap.size,1,none⟩=false:=frozen_of_row w1 _ 1 _ _ Y0;clear ax af ag ah az an al;go_upto_region 2 with fail;clear x1 f1;have ak:=Qah w1 w.heap.size 1 (.slice ao s.L.length cp)
 have ne:(Value.slice ao s.L.length cp).ownBlock=none∨(Value.slice ao s.L.length cp).ownBlock≠some w.heap.size:=by
  cases q:(Value.slice ao s.L.length cp).ownBlock with
  | none=>exact .inl rfl
  | some j=>exact .inr (fun e=>by have:=(World.ownsRow.lt av j q).1;injection e with e;omega)
 have ai:Hid (CsI w (w1.setCell ⟨w.heap.size,1,none⟩ (.slice ao s.L.length cp)) s.L 0 (.slice ao s.L.length cp) s.L):=Qaa ⟨World.ownsRow.kept av ak ne,by rw [List.take_zero];exact CesO.nil _ _,rfl,rfl,aA.out.setCell (Nat.le_refl _) _⟩;have Z0:Hid ((w1.setCell ⟨w.heap.size,1,none⟩ (.slice ao s.L.length cp)).heap[w.heap.size]?=some (.cells #[.string s.nm,.slice ao s.L.length cp] 56 (0,0))):=Qaa (ZZl w1 w.heap.size 1 _ _ _ Y0);have Z1:Hid ((w1.setCell ⟨w.heap.size,1,none⟩ (.slice ao s.L.length cp)).heap[w.heap.size+1]?=some (.cells #[.string ⟨#[]⟩,.slice none 0 0] 56 (0,0))):=Qaa ((ak.block (w.heap.size+1) (by have:=ar.out;omega) (fun e=>by injection e with e;omega)).trans Y1);have aw:Hid (w.heap.size+2<=(w1.setCell ⟨w.heap.size,1,none⟩ (.slice ao s.L.length cp)).heap.size):=Qaa (Nat.le_trans ar ak.size);generalize w1.setCell ⟨w.heap.size,1,none⟩ (.slice ao s.L.length cp)=W2 at ai Z0 Z1 aw ⊢;clear Y0 Y1 aA ar av ak ne w1;obtain ⟨n,hn⟩:∃ n,s.L.length=n:=⟨_,rfl⟩;rw [hn] at ai Z0 lN ⊢;have HN:=Qaa hn;clear hn;have x1:W2.cell? ⟨w.heap.size,1,none⟩=some (.slice ao n cp):=Qat Z0 1 rfl;go_upto_region 3 with fail;clear x1
 go_loopw [11] (fun i wr=>∃ (k:Nat) (M:List Ce),k<=n/\i=.int .i64 k/\Hid (CsI w wr s.L k (.slice ao n cp) M)/\Hid (wr.heap[w.heap.size]?=some (.cells #[.string s.nm,.slice ao n cp] 56 (0,0)))/\Hid (wr.heap[w.heap.size+1]?=some (.cells #[.string ⟨#[]⟩,.slice none 0 0] 56 (0,0)))/\Hid (w.heap.size+2<=wr.heap.size)) (fun i wr=>n - (Go.RowKit.intOf i).toNat)
 case atStart=>exact ⟨0,s.L,ZZj _,rfl,ai,Z0,Z1,aw⟩
 case round=>
  clear ai Z0 Z1 aw;obtain ⟨k,M,hk,rfl,HI,Z0,Z1,HZ⟩:=hrel;by_cases a5:k<n
  ·have ay:(k:Int)<(n:Int):=by omega
   obtain ⟨c,hc⟩:∃ c,s.L[k]?=some c:=⟨s.L[k]'(by have:=HN.out;omega),ZZe _⟩;have aj:M.length=n:=HI.out.len.trans HN;have aF:=Qaa aj;have ad:OwnC wr (w.heap.size+2) (.slice ao n cp) M:=HI.out.r;obtain ⟨g,cc,ev⟩:=Qb1 ad (by omega);injection ev with ev1 ev2 ev3;subst ev1;have hr:=ad;rw [<- aj] at hr;have au:=Qeo hr (HI.out.at hc);rw [Nat.zero_add] at au;have aC:=Qaa au;have HC:=Qaa hc;have ap:=Qaa (ZZn hc);have aD:=Qaa (World.ownsRow.lt ad g rfl);have aZ:IntKind.i64.wrap ((k:Int)+1)=((k+1:Nat):Int):=by rw [show (k:Int)+1=((k+1:Nat):Int) by omega];exact ZZi _ ⟨by omega,by omega⟩
   have aT:¬ n<=k:=by omega
   have a2:n<=cp:=by unfold OwnC at ad;rw [aj] at ad;exact Qie ad
   clear hc aj ad hr au ev2 ev3;go_upto_region 5 with fail;have ab:(fun W=>Below wr.heap.size wr W) wr.drew:=(ZZb _ _).drew;refine Qal (fun W=>Below wr.heap.size wr W) 12 (by kernel_rfl) ?_;refine tkS 0 (.pointer (some ⟨w.heap.size,1,none⟩)) ab ?_;refine tkL 1 (.slice (some ⟨g,0,none⟩) n cp) ab (fun W hW=>?_) ?_
   ·have z:=Qab hW (show wr.cell? ⟨w.heap.size,1,none⟩=some (.slice (some ⟨g,0,none⟩) n cp) from Qat Z0 1 rfl)
    clear hW;go_simp
   refine tkS 2 (.int .i64 (k:Int)) ab ?_;simp only [sX];refine tkS 3 (.pointer (some ⟨w.heap.size,1,none⟩)) ab ?_;refine tkL 4 (.slice (some ⟨g,0,none⟩) n cp) ab (fun W hW=>?_) ?_
   ·have z:=Qab hW (show wr.cell? ⟨w.heap.size,1,none⟩=some (.slice (some ⟨g,0,none⟩) n cp) from Qat Z0 1 rfl)
    clear hW;go_simp
   refine tkS 5 (.int .i64 (k:Int)) ab ?_;simp only [sX];refine tkL 6 (.pointer (some ⟨g,k*15,none⟩)) ab (fun W hW=>?_) ?_
   ·have aT:¬ n<=k:=by omega
    clear hW;go_simp
   refine tkS 7 (.pointer (some ⟨g,k*15+2,none⟩)) ab ?_;refine tkL 8 (.agg (Qav c.g c.p)) ab (fun W hW=>?_) ?_
   ·obtain ⟨y0,y1,y2,y3,y4,y5,y6,y7,y8,y9,aY,a3,a0,aX,a4⟩:=Qag aC hW
    clear hW;go_simp
   simp only [sX];refine onE 9 fun K hK=>?_;go_simp;refine (Qpt (SM.out c ap) (PL.out c ap) (Qaz (HA.out.2 c ap) (Qac HI.out.b (ab:Below wr.heap.size wr wr.drew)))).mono ?_;rintro e w6 ⟨v,o,rfl,aO,⟨q,rfl,ho⟩,aE⟩;subst aO;have ac:Hid (Below wr.heap.size wr w6):=(ab:Below wr.heap.size wr wr.drew).trans (aE.mono (ZZa _));have aP:Hid (AgO w6 wr.heap.size c.g q):=ho;clear ho aE;dsimp only;refine gK hK ac.out ?_
   try simp only [sX]
   refine onE 10 fun K hK=>?_;go_simp;refine gK hK ac.out ?_
   try simp only [sX]
   refine tkS 11 (.pointer (some ⟨g,k*15+2,none⟩)) ac ?_;simp only [sX];have ae:=HI.out.r.past ac;have ae:w6.ownsRow (w.heap.size+2) 75 15 (.slice (some ⟨g,0,none⟩) n cp) n (flC M):=by unfold OwnC at ae;rw [aF.out] at ae;exact ae
   have aa:=Qaa ae;have HF:=Qaa (HI.out.set aF HC HZ ac aP);have am:=Qaa (QkA (w:=w6) (g:=g) (i:=k) (o:=c.g) (q:=q));have V0:=Qaa (Qam Z0 ac);have V1:=Qaa (Qam Z1 ac);have VZ:=Qaa (Nat.le_trans HZ ac.out.size);obtain ⟨u0,u1,u2,u3,u4,u5,u6,u7,u8,u9,aM,aU,aR,aK,aN⟩:=Qag aC ac;clear ae u0 u1;have f2:=World.ownsRow.frozenAt aa (k*15+2);have f3:=World.ownsRow.frozenAt aa (k*15+3);have f4:=World.ownsRow.frozenAt aa (k*15+4);have f5:=World.ownsRow.frozenAt aa (k*15+5);have f6:=World.ownsRow.frozenAt aa (k*15+6);have f7:=World.ownsRow.frozenAt aa (k*15+7);have f8:=World.ownsRow.frozenAt aa (k*15+8);have f9:=World.ownsRow.frozenAt aa (k*15+9);have aW:=World.ownsRow.frozenAt aa (k*15+10);have aI:=World.ownsRow.frozenAt aa (k*15+11);have aH:=World.ownsRow.frozenAt aa (k*15+12);have aG:=World.ownsRow.frozenAt aa (k*15+13);have aV:=World.ownsRow.frozenAt aa (k*15+14);refine onE 12 fun K hK=>?_;go_simp;clear u2 f2 u3 f3 u4 f4 u5 f5 u6 f6 u7 f7 u8 f8 u9 f9 aM aW aU aI aR aH aK aG aN aV;refine hK.out _ _ (fun h=>absurd rfl h) ?_
   try simp only [sX]
   refine dnE ?_ _;have U0:=Qaa ((am.out.block w.heap.size (ZZc.1 V0).1 (fun e=>by injection e with e;have:=aD.out.1;omega)).trans V0);have U1:=Qaa ((am.out.block (w.heap.size+1) (ZZc.1 V1).1 (fun e=>by injection e with e;have:=aD.out.1;omega)).trans V1);have UZ:=Qaa (Nat.le_trans VZ am.out.size);clear am V0 V1 VZ aa;go_wp2;go_roundw
   case rel=>exact ⟨k+1,_,by omega,by first | rfl | go_num,HF,U0,U1,UZ⟩
   case measure=>simp [zI];omega
  ·have ay:¬ (k:Int)<(n:Int):=by omega
   obtain rfl:k=n:=by omega
   have x0:wr.cell? ⟨w.heap.size,0,none⟩=some (.string s.nm):=Qat Z0 0 rfl;have x1:wr.cell? ⟨w.heap.size,1,none⟩=some (.slice ao k cp):=Qat Z0 1 rfl;have y0:wr.cell? ⟨w.heap.size+1,0,none⟩=some (.string ⟨#[]⟩):=Qat Z1 0 rfl;have y1:wr.cell? ⟨w.heap.size+1,1,none⟩=some (.slice none 0 0):=Qat Z1 1 rfl;have f0:=fzR 0 Z1;have f1:=fzR 1 Z1;go_wp2_with fail;clear x0 x1 y0 y1 f0 f1;have aQ:=ZZl wr (w.heap.size+1) 0 _ _ (.string s.nm) Z1;have aB:=ZZl _ (w.heap.size+1) 1 _ _ (.slice ao k cp) aQ;have q0:((wr.setCell ⟨w.heap.size+1,0,none⟩ (.string s.nm)).setCell ⟨w.heap.size+1,1,none⟩ (.slice ao k cp)).cell? ⟨w.heap.size+1,0,none⟩=some (.string s.nm):=Qat aB 0 rfl;have q1:((wr.setCell ⟨w.heap.size+1,0,none⟩ (.string s.nm)).setCell ⟨w.heap.size+1,1,none⟩ (.slice ao k cp)).cell? ⟨w.heap.size+1,1,none⟩=some (.slice ao k cp):=Qat aB 1 rfl;have G2:wr.grownBy ((wr.setCell ⟨w.heap.size+1,0,none⟩ (.string s.nm)).setCell ⟨w.heap.size+1,1,none⟩ (.slice ao k cp)) (some (w.heap.size+1)):=(Qah _ _ _ _).trans (Qah _ _ _ _);have hO:OwnC wr (w.heap.size+2) (.slice ao k cp) M:=HI.out.r;have hC:=HI.out.o;rw [List.take_of_length_le (by rw [HI.out.len,HN.out];omega)] at hC
   have ne:(Value.slice ao k cp).ownBlock=none∨(Value.slice ao k cp).ownBlock≠some (w.heap.size+1):=by
    cases q:(Value.slice ao k cp).ownBlock with
    | none=>exact .inl rfl
    | some j=>exact .inr (fun e=>by have:=(World.ownsRow.lt hO j q).1;injection e with e;omega)
   have aL:=(World.ownsRow.kept hO G2 ne);have aJ:=hC.grown G2 (by omega);have aS:=HI.out.b.grown G2 HI.out.b.size (fun j hj=>by injection hj with hj;omega);exact bodyPost_ret (v:=.agg #[.string s.nm,.slice ao k cp]) (by simp [results,results63,go_sem,q0,q1]) rfl ⟨ao,cp,by rw [HN.out],M,by rw [HN.out];exact OwnC.le (B:=w.heap.size+2) aL (Nat.le_add_right _ _),aJ.le (Nat.le_add_right _ _),HI.out.ky,aS⟩
def rS:Value->Option (DataW Value×List MemPlace)
 | .agg cs=>some (.held (.agg cs),[])
 | _=>none
theorem rS_inv {y:DataW Value×List MemPlace} (h:rS v=some y):∃ cs,v=.agg cs:=by
 cases v <;> simp [rS] at h
 exact ⟨_,rfl⟩
abbrev Qrr (s:Sd):DataW Value:=.held (.agg (QaU s))
theorem QlJ {a b:ByteArray} (h:Qey a=Qey b):a=b:=by
 unfold Qey at h;injection h with h;exact Qa5 h
theorem Qs9 (a:ByteArray):WideAt.IsKeyLit (Qey a):=trivial
theorem QqK:Keyed prog 9:=string_keyed underlying9
theorem keySh {x:ByteArray} (h:x.size<=maxLen):keyOf prog 9 (.string x)=some (Qey x):=Go.WideMaps.keyOf_string_mk underlying9 h
structure HoldsS (D:DataW Value) (L:List Sd):Prop where
 ap:L.Pairwise (fun s t=>s.nm≠t.nm)
 val:∀ s∈L,∀ z,D.atKey (Qey s.nm) z=Qrr s
 only:∀ u:ByteArray,Maps.has D (Qey u)=true->∃ s∈L,s.nm=u
 sz:Maps.size D=L.length
theorem HoldsS.nil:HoldsS (.map []) []:=⟨.nil,by simp,(fun n h=>by simp [Maps.has] at h),rfl⟩
variable {D:DataW Value}
theorem HoldsS.none {L:List Sd} (h:HoldsS D L) {u:ByteArray} (hn:∀ d∈L,d.nm≠u):Maps.has D (Qey u)=false:=by
 cases q:Maps.has D (Qey u)
 ·rfl
 ·obtain ⟨c,hc,e⟩:=h.only u q
  exact absurd e (hn c hc)
variable {s t:Sd}
theorem HoldsS.some {L:List Sd} (h:HoldsS D L) (hs:s∈L):Maps.has D (Qey s.nm)=true:=Maps.has_true_of_atKey (h.val s hs)
theorem HoldsS.put_new {L:List Sd} (h:HoldsS D L) (t:Tidy D) (hn:∀ d∈L,d.nm≠s.nm):HoldsS (D.put (Qey s.nm) (Qrr s)) (L ++ [s]):=by
 have hh:=h.none hn;refine ⟨List.pairwise_append.2 ⟨h.ap,List.pairwise_singleton _ _,fun a ha b hb=>by simp at hb;subst hb;exact hn a ha⟩,fun d hd z=>?_,fun u q=>?_,?_⟩
 ·rcases List.mem_append.1 hd with hd | hd
  ·rw [atKey_put_other (fun e=>hn d hd (QlJ e))];exact h.val d hd z
  ·simp at hd
   subst hd;exact atKey_put_same t.isMap (Qs9 _) _ z
 ·by_cases e:Qey u=Qey s.nm
  ·exact ⟨s,by simp,(QlJ e).symm⟩
  ·rw [has_put_other e] at q
   obtain ⟨d,hd,e2⟩:=h.only u q;exact ⟨d,List.mem_append_left _ hd,e2⟩
 ·rw [size_put t,hh,List.length_append];simp [h.sz]
def MpS (w:World) (b n:Nat) (L:List Sd):Prop:=∃ D:DataW Value,w.ownsMap prog 9 rS b n D/\HoldsS D L
theorem MpS.kept {L:List Sd} (h:MpS w b n L) {row:Option Nat} (hg:w.grownBy w' row) (hne:Option.some b≠row):MpS w' b n L:=by
 obtain ⟨D,h1,h2⟩:=h;exact ⟨D,h1.kept hg hne,h2⟩
theorem MpS.lt {L:List Sd} (h:MpS w b n L):b<w.heap.size:=by
 obtain ⟨D,h1,h2⟩:=h;exact h1.lt
theorem MpS.past {L:List Sd} (h:MpS w b n L) (hb:Below w.heap.size w w'):MpS w' b n L:=h.kept (row:=Option.none) ⟨hb.os,hb.tape,hb.output,hb.size,fun i hi _=>hb.block i hi⟩ (by simp)
theorem MpS.made (w:World):MpS (w.alloc (.map #[] 0)) w.heap.size 0 []:=⟨_,World.ownsMap_made _ _ _ _,HoldsS.nil⟩
structure RgS (D:DataW Value) (left:Lit->Bool) (L M R:List Sd):Prop where
 p:(M ++ R).Perm L
 no:∀ c∈M,left (Qey c.nm)=false
 yes:∀ c∈R,left (Qey c.nm)=true
abbrev slS (s:Sd):Value:=.slice s.ao s.L.length s.cp
structure LvO (w:World) (B:Nat) (M:List Sd):Prop where
 r:∀ s∈M,OwnC w B (slS s) s.L
 rap:M.Pairwise (fun s t=>ApV (slS s) (slS t))
 o:CesO w B (Qbi M)
theorem QlQ (A B:List Sd):Qbi (A ++ B)=Qbi A ++ Qbi B:=by simp [Qbi]
theorem Qqh (s:Sd):Qbi [s]=s.L:=by simp [Qbi]
theorem LvO.nil (w:World) (B:Nat):LvO w B []:=⟨by simp,.nil,CesO.nil _ _⟩
variable {M S:List Sd}
theorem LvO.past (h:LvO w B M) (hb:Below w.heap.size w w'):LvO w' B M:=⟨fun s hs=>(h.r s hs).past hb,h.rap,h.o.past hb⟩
theorem QsH (h:OwnC w B v L) (hj:j<B):v.ownBlock=none∨v.ownBlock≠some j:=by
 cases q:v.ownBlock with
 | none=>exact .inl rfl
 | some k=>exact .inr (fun e=>by have:=(World.ownsRow.lt h k q).1;injection e with e;omega)
theorem LvO.grown (h:LvO w B M) (hg:w.grownBy w' (some j)) (hj:j<B):LvO w' B M:=
 ⟨fun s hs=>World.ownsRow.kept (h.r s hs) hg (QsH (h.r s hs) hj),h.rap,h.o.grown hg hj⟩
theorem LvO.add (h:LvO w B M) (hb:Below w.heap.size w w') (hB:B<=w.heap.size) (hr:OwnC w' w.heap.size (slS t) t.L) (ho:CesO w' w.heap.size t.L):LvO w' B (M ++ [t]):=by
 refine ⟨fun s hs=>?_,List.pairwise_append.2 ⟨h.rap,List.pairwise_singleton _ _,fun a ha b hb'=>?_⟩,?_⟩
 ·rcases List.mem_append.1 hs with hs | hs
  ·exact (h.r s hs).past hb
  ·simp at hs
   subst hs;exact hr.le hB
 ·simp at hb'
  subst hb';intro k h1 h2;have l1:=(World.ownsRow.lt (h.r a ha) k h1).2;have l2:=(World.ownsRow.lt hr k h2).1;omega
 ·rw [QlQ,Qqh]
  exact h.o.app hb hB ho
theorem Qp4 (w:World):(Instr.makeMap 50 none).run prog w=.ok (.map (some w.heap.size)) (w.alloc (.map #[] 0)):=by
 have h:=underlying50;simp [Instr.makeMap,h]
structure LvP (w w':World) (S:List Sd) (k mb Bm:Nat) (M:List Sd):Prop where
 mp:MpS w' mb k M
 o:LvO w' Bm M
 ky:M.map Sd.key=(S.take k).map Sd.key
 lt:mb<Bm
 le:w.heap.size<=mb
 bm:Bm<=w'.heap.size
 b:Below w.heap.size w w'
theorem LvP.past {mb Bm:Nat} (h:LvP w wr S k mb Bm M) (hb:Below wr.heap.size wr w'):LvP w w' S k mb Bm M:=
 ⟨h.mp.past hb,h.o.past hb,h.ky,h.lt,h.le,Nat.le_trans h.bm hb.size,Qac h.b hb⟩
theorem Ql8 (h:M.map Sd.key=(S.take k).map Sd.key) (hs:S[k]?=some s) (e:t.key=s.key):(M ++ [t]).map Sd.key=(S.take (k+1)).map Sd.key:=by
 rw [List.take_add_one,hs,List.map_append,List.map_append,h];simp [e]
theorem Qqe {ca:Nat} (p:Pi) (hN:S.length=N) (lN:N<=1000) (lL:∀ s∈S,s.L.length<=1048576) (sm:∀ s∈S,∀ c∈s.L,AgSm c.g) (pl:∀ s∈S,∀ c∈s.L,PlG c.g c.p) (nz:∀ s∈S,s.nm.size<=maxLen) (ap:S.Pairwise (fun s t=>s.nm≠t.nm)) (hA:QeQ w ao S) :
  Calls prog 27 #[.agg (Qaf (.slice ao N ca) p)] w fun e w'=>∃ mb,e=.returned (.agg #[.int .i64 p.a,.int .i64 p.b,.int .i64 p.c,.int .i64 p.d,.map (some mb)])/\∃ Bm M,LvP w w' S N mb Bm M:=by
 have HN:=Qaa hN;have LL:=Qaa lL;have SM:=Qaa sm;have PL:=Qaa pl;have NZ:=Qaa nz;have AP:=Qaa ap;have HA:=Qaa hA;have a1:∀ (X:World) o,Below X.heap.size X (X.alloc o):=fun X o=>(ZZb _ _).alloc (ZZa _) _;have hz:(w.alloc (.cells (Qaf (.slice ao N ca) p) 25)).heap.size=w.heap.size+1:=by simp
 have ad:=Qaa (Qam (ZZk w (.cells (Qaf (.slice ao N ca) p) 25)) (a1 _ (.cells #[.int .i64 0,.int .i64 0,.int .i64 0,.int .i64 0,.map none] 52)));have ar:=ZZk (w.alloc (.cells (Qaf (.slice ao N ca) p) 25)) (.cells #[.int .i64 0,.int .i64 0,.int .i64 0,.int .i64 0,.map none] 52);rw [hz] at ar;have an:=Qaa ar;have aA:=Qaa (Qac (a1 w (.cells (Qaf (.slice ao N ca) p) 25)) (a1 _ (.cells #[.int .i64 0,.int .i64 0,.int .i64 0,.int .i64 0,.map none] 52)));have av:Hid (((w.alloc (.cells (Qaf (.slice ao N ca) p) 25)).alloc (.cells #[.int .i64 0,.int .i64 0,.int .i64 0,.int .i64 0,.map none] 52)).heap.size=w.heap.size+2):=Qaa (by simp);clear hN lL sm pl nz ap hA a1 hz ar;go_enter func27,ntmps27;go_upto_region 1 with fail;generalize (w.alloc (.cells (Qaf (.slice ao N ca) p) 25)).alloc (.cells #[.int .i64 0,.int .i64 0,.int .i64 0,.int .i64 0,.map none] 52)=W0 at ad an aA av ⊢;have r0:=Qat ad 0 rfl;have r1:=Qat ad 1 rfl;have r2:=Qat ad 2 rfl;have r3:=Qat ad 3 rfl;have r4:=Qat ad 4 rfl;go_wp2_with fail;clear r0 r1 r2 r3 r4;refine (QjV _ ao N ca rfl p.a p.b p.c p.d _).mono ?_;rintro e w1 ⟨rfl,ag⟩;have Y0:=Qaa (Qam ad ag);have Y1:=Qaa (Qam an ag);have aB:=Qaa (Qac aA ag);have au:Hid (w.heap.size+2<=w1.heap.size):=Qaa (by have:=ag.size;have:=av.out;omega);clear ag ad an aA av;have aL:=Qp4;go_upto_region 2 with fail;clear aL;have a1:∀ (X:World) o,Below X.heap.size X (X.alloc o):=fun X o=>(ZZb _ _).alloc (ZZa _) _;have b2:∀ o,Below w1.heap.size w1 ((w1.alloc (.map #[] 0)).alloc o):=fun o=>Qac (a1 _ _) (a1 _ _);obtain ⟨mb,ah⟩:∃ mb,w1.heap.size=mb:=⟨_,rfl⟩;have aq:(w1.alloc (.map #[] 0)).heap.size=mb+1:=by rw [<- ah];simp
 rw [ah]
 have X3:Hid (((w1.alloc (.map #[] 0)).alloc (.cells #[.int .i64 p.a,.int .i64 p.b,.int .i64 p.c,.int .i64 p.d,.map (some mb)] 52)).heap[mb+1]?=some (.cells #[.int .i64 p.a,.int .i64 p.b,.int .i64 p.c,.int .i64 p.d,.map (some mb)] 52 (0,0))):=by
  have q:=ZZk (w1.alloc (.map #[] 0)) (.cells #[.int .i64 p.a,.int .i64 p.b,.int .i64 p.c,.int .i64 p.d,.map (some mb)] 52);rw [aq] at q;exact q
 have az:=Qaa (Qam Y0 (b2 (.cells #[.int .i64 p.a,.int .i64 p.b,.int .i64 p.c,.int .i64 p.d,.map (some mb)] 52)));have ax:=Qaa (Qam Y1 (b2 (.cells #[.int .i64 p.a,.int .i64 p.b,.int .i64 p.c,.int .i64 p.d,.map (some mb)] 52)))
 have aj:Hid (LvP w ((w1.alloc (.map #[] 0)).alloc (.cells #[.int .i64 p.a,.int .i64 p.b,.int .i64 p.c,.int .i64 p.d,.map (some mb)] 52)) S 0 mb (mb+2) []):=by
  have m0:=(MpS.made w1).past (a1 _ (.cells #[.int .i64 p.a,.int .i64 p.b,.int .i64 p.c,.int .i64 p.d,.map (some mb)] 52));rw [ah] at m0;exact Qaa ⟨m0,LvO.nil _ _,by simp,by omega,by have:=au.out;omega,by rw [World.size_alloc,aq];omega,Qac aB (b2 _)⟩
 have aT:w.heap.size+2<=mb:=by have:=au.out;omega
 generalize (w1.alloc (.map #[] 0)).alloc (.cells #[.int .i64 p.a,.int .i64 p.b,.int .i64 p.c,.int .i64 p.d,.map (some mb)] 52)=W3 at X3 az ax aj ⊢;clear Y0 Y1 aB au a1 b2 aq ah w1;have r0:W3.cell? ⟨w.heap.size,0,none⟩=some (.slice ao N ca):=Qat az 0 rfl;go_upto_region 3 with fail;clear r0 az
 go_loopw [13] (fun i wr=>∃ (k:Nat) (M:List Sd),k<=N/\i=.int .i64 k/\Hid (LvP w wr S k mb (mb+2) M)/\Hid (wr.heap[mb+1]?=some (.cells #[.int .i64 p.a,.int .i64 p.b,.int .i64 p.c,.int .i64 p.d,.map (some mb)] 52 (0,0)))/\Hid (wr.heap[w.heap.size+1]?=some (.cells #[.int .i64 0,.int .i64 0,.int .i64 0,.int .i64 0,.map none] 52 (0,0)))) (fun i wr=>N - (Go.RowKit.intOf i).toNat)
 case atStart=>exact ⟨0,[],ZZj _,rfl,aj,X3,ax⟩
 case round=>
  clear aj X3 ax;obtain ⟨k,M,hk,rfl,HI,X3,Y1⟩:=hrel;by_cases aV:k<N
  ·have aw:(k:Int)<(N:Int):=by omega
   obtain ⟨b,aS,e,ac⟩:=HA.out.1 (by have:=HN.out;omega);subst e;obtain ⟨s,hs⟩:∃ s,S[k]?=some s:=⟨S[k]'(by have:=HN.out;omega),ZZe _⟩;obtain ⟨x0,x1⟩:=Qbt (ac k s hs) HI.out.b;have HS:=Qaa hs;have af:=Qaa (ZZn hs);have aU:IntKind.i64.wrap ((k:Int)+1)=((k+1:Nat):Int):=by rw [show (k:Int)+1=((k+1:Nat):Int) by omega];exact ZZi _ ⟨by omega,by omega⟩
   clear ac hs;go_upto_region 5 with fail;clear x0 x1;have al:Below wr.heap.size wr (wr.alloc (.cells (QaU s) 56)):=(ZZb _ _).alloc (ZZa _) _;have ai:Hid ((wr.alloc (.cells (QaU s) 56)).cell? ⟨wr.heap.size,0,none⟩=some (.string s.nm)):=Qaa (Qat (ZZk wr (.cells (QaU s) 56)) 0 rfl);have ay:Hid ((wr.alloc (.cells (QaU s) 56)).cell? ⟨wr.heap.size,1,none⟩=some (.slice s.ao s.L.length s.cp)):=Qaa (Qat (ZZk wr (.cells (QaU s) 56)) 1 rfl);have aa:=Qaa (HI.out.past al);have X4:=Qaa (Qam X3 al);have Y4:=Qaa (Qam Y1 al);clear al HI X3 Y1;generalize wr.alloc (.cells (QaU s) 56)=W4 at ai ay aa X4 Y4 ⊢;generalize wr.heap.size=sb at ai ay ⊢;clear wr
   have aR:Hid (M.length=k):=by
    have:=congrArg List.length aa.out.ky;simp only [List.length_map,List.length_take] at this;have:=HN.out;exact Qaa (by omega)
   have ae:(fun W=>Below W4.heap.size W4 W) W4.drew:=(ZZb _ _).drew;refine Qal (fun W=>Below W4.heap.size W4 W) 6 (by kernel_rfl) ?_;refine tkS 0 (.pointer (some ⟨mb+1,4,none⟩)) ae ?_;refine tkL 1 (.map (some mb)) ae (fun W hW=>?_) ?_
   ·have z:=Qab hW (show W4.cell? ⟨mb+1,4,none⟩=some (.map (some mb)) from Qat X4 4 rfl)
    clear hW;go_simp
   refine tkS 2 (.pointer (some ⟨sb,0,none⟩)) ae ?_;simp only [sX];refine tkL 3 (.string s.nm) ae (fun W hW=>?_) ?_
   ·have z:=Qab hW ai
    clear hW;go_simp
   refine tkL 4 (.agg (QaU s)) ae (fun W hW=>?_) ?_
   ·have z0:=Qab hW ai
    have z1:=Qab hW ay;clear hW;go_simp
   simp only [sX];refine onE 5 fun K hK=>?_;go_simp;refine (QgP s (LL.out s af) (SM.out s af) (PL.out s af) (QaD (HA.out.2 s af) (Qac aa.out.b (ae:Below W4.heap.size W4 W4.drew)))).mono ?_;rintro e w6 ⟨bo,cp,M6,rfl,aC,aF,ak,aE⟩;have ab:Hid (Below W4.heap.size W4 w6):=(ae:Below W4.heap.size W4 W4.drew).trans (aE.mono (ZZa _));have aH:M6.length=s.L.length:=Qdm ak;have aQ:Hid (OwnC w6 W4.heap.size (.slice bo s.L.length cp) M6):=aC;have aN:Hid (CesO w6 W4.heap.size M6):=aF;have aK:=Qaa ak;have aM:=Qaa aH;clear aC aF ak aE aH;dsimp only;refine gK hK ab.out ?_
   try simp only [sX]
   obtain ⟨D,hD,aG⟩:=aa.out.mp.past ab;have aD:=Qaa aG;have HD:=Qaa hD;obtain ⟨w9,am,r1,r2⟩:=hD.update QqK underlying50 (by unfold maxLen;omega) (keySh (NZ.out s af)) (show rS (.agg #[.string s.nm,.slice bo s.L.length cp])=some (.held (.agg #[.string s.nm,.slice bo s.L.length cp]),[]) from rfl);have RO:=Qaa r1;have RG:=Qaa r2;clear hD aG r1 r2;refine onE 6 fun K hK=>?_;go_simp;refine hK.out _ _ (fun h=>absurd rfl h) ?_;clear am
   try simp only [sX]
   refine dnE ?_ _
   have NN:∀ d∈M,d.nm≠s.nm:=fun d hd e=>by
    obtain ⟨q,hq,e1,_⟩:=Qfh aa.out.ky hd;obtain ⟨j,hj,rfl⟩:=List.mem_iff_getElem.1 hq;rw [List.length_take] at hj;have h1:S[j]?=some (S.take k)[j]:=by rw [List.getElem_take,List.getElem?_eq_getElem]
    have pw:=List.pairwise_iff_getElem.1 AP j k (by omega) (ZZd.1 HS).1 (by omega);rw [(List.getElem?_eq_some_iff.1 HS.out).2] at pw;rw [List.getElem_take] at e1;exact pw (e1.symm.trans e)
   have aP:Hid (LvP w w9 S (k+1) mb (mb+2) (M ++ [⟨s.nm,M6,bo,cp⟩])):=by
    have e6:=aM.out;have aJ:(QaU ⟨s.nm,M6,bo,cp⟩:Array Value)=#[.string s.nm,.slice bo s.L.length cp]:=by show #[_,_]=_;rw [<- e6]
    have hp:=aD.out.put_new (HD.out.tidy QqK) (s:=⟨s.nm,M6,bo,cp⟩) NN;have ro:=RO.out;have aO:OwnC w6 W4.heap.size (slS ⟨s.nm,M6,bo,cp⟩) M6:=by show OwnC _ _ (.slice bo M6.length cp) _;rw [e6];exact aQ.out
    have lo:=(aa.out.o.add (t:=⟨s.nm,M6,bo,cp⟩) ab aa.out.bm aO aN).grown RG (by omega);refine Qaa ⟨⟨_,ro,?_⟩,lo,Ql8 aa.out.ky HS ?_,aa.out.lt,aa.out.le,Nat.le_trans (Nat.le_trans aa.out.bm ab.out.size) RG.out.size,(Qac aa.out.b ab).grown RG (Qac aa.out.b ab).size (fun j hj=>by cases hj;exact aa.out.le)⟩
    ·have aI:HoldsS (D.put (Qey s.nm) (.held (.agg (QaU ⟨s.nm,M6,bo,cp⟩)))) (M ++ [⟨s.nm,M6,bo,cp⟩]):=hp
     rw [aJ] at aI;exact aI
    ·show (s.nm,M6.map Ce.key)=s.key
     rw [aK.out];rfl
   have X9:=Qaa ((RG.out.block (mb+1) (by have:=aa.out.bm;have:=ab.out.size;omega) (fun e=>by injection e with e;omega)).trans (Qam X4 ab));have Y9:=Qaa ((RG.out.block (w.heap.size+1) (by have:=aa.out.bm;have:=ab.out.size;omega) (fun e=>by injection e with e;omega)).trans (Qam Y4 ab));clear NN aD HD RO RG aa X4 Y4;go_wp2;go_roundw
   case rel=>exact ⟨k+1,_,by omega,by first | rfl | go_num,aP,X9,Y9⟩
   case measure=>simp [zI];omega
  ·have aw:¬ (k:Int)<(N:Int):=by omega
   obtain rfl:k=N:=by omega
   have x0:=Qat X3 0 rfl;have y0:=Qat Y1 0 rfl;have f0:=fzR 0 Y1;have x1:=Qat X3 1 rfl;have y1:=Qat Y1 1 rfl;have f1:=fzR 1 Y1;have x2:=Qat X3 2 rfl;have y2:=Qat Y1 2 rfl;have f2:=fzR 2 Y1;have x3:=Qat X3 3 rfl;have y3:=Qat Y1 3 rfl;have f3:=fzR 3 Y1;have x4:=Qat X3 4 rfl;have y4:=Qat Y1 4 rfl;have f4:=fzR 4 Y1;go_wp2_with fail;clear x0 y0 f0 x1 y1 f1 x2 y2 f2 x3 y3 f3 x4 y4 f4;have h0:=ZZl wr (w.heap.size+1) 0 _ _ (.int .i64 p.a) Y1;have h1:=ZZl _ (w.heap.size+1) 1 _ _ (.int .i64 p.b) h0;have h2:=ZZl _ (w.heap.size+1) 2 _ _ (.int .i64 p.c) h1;have h3:=ZZl _ (w.heap.size+1) 3 _ _ (.int .i64 p.d) h2;have h4:=ZZl _ (w.heap.size+1) 4 _ _ (.map (some mb)) h3;have q0:(((((wr.setCell ⟨w.heap.size+1,0,none⟩ (.int .i64 p.a)).setCell ⟨w.heap.size+1,1,none⟩ (.int .i64 p.b)).setCell ⟨w.heap.size+1,2,none⟩ (.int .i64 p.c)).setCell ⟨w.heap.size+1,3,none⟩ (.int .i64 p.d)).setCell ⟨w.heap.size+1,4,none⟩ (.map (some mb))).cell? ⟨w.heap.size+1,0,none⟩=some (.int .i64 p.a):=Qat h4 0 rfl;have q1:(((((wr.setCell ⟨w.heap.size+1,0,none⟩ (.int .i64 p.a)).setCell ⟨w.heap.size+1,1,none⟩ (.int .i64 p.b)).setCell ⟨w.heap.size+1,2,none⟩ (.int .i64 p.c)).setCell ⟨w.heap.size+1,3,none⟩ (.int .i64 p.d)).setCell ⟨w.heap.size+1,4,none⟩ (.map (some mb))).cell? ⟨w.heap.size+1,1,none⟩=some (.int .i64 p.b):=Qat h4 1 rfl;have q2:(((((wr.setCell ⟨w.heap.size+1,0,none⟩ (.int .i64 p.a)).setCell ⟨w.heap.size+1,1,none⟩ (.int .i64 p.b)).setCell ⟨w.heap.size+1,2,none⟩ (.int .i64 p.c)).setCell ⟨w.heap.size+1,3,none⟩ (.int .i64 p.d)).setCell ⟨w.heap.size+1,4,none⟩ (.map (some mb))).cell? ⟨w.heap.size+1,2,none⟩=some (.int .i64 p.c):=Qat h4 2 rfl;have q3:(((((wr.setCell ⟨w.heap.size+1,0,none⟩ (.int .i64 p.a)).setCell ⟨w.heap.size+1,1,none⟩ (.int .i64 p.b)).setCell ⟨w.heap.size+1,2,none⟩ (.int .i64 p.c)).setCell ⟨w.heap.size+1,3,none⟩ (.int .i64 p.d)).setCell ⟨w.heap.size+1,4,none⟩ (.map (some mb))).cell? ⟨w.heap.size+1,3,none⟩=some (.int .i64 p.d):=Qat h4 3 rfl;have q4:(((((wr.setCell ⟨w.heap.size+1,0,none⟩ (.int .i64 p.a)).setCell ⟨w.heap.size+1,1,none⟩ (.int .i64 p.b)).setCell ⟨w.heap.size+1,2,none⟩ (.int .i64 p.c)).setCell ⟨w.heap.size+1,3,none⟩ (.int .i64 p.d)).setCell ⟨w.heap.size+1,4,none⟩ (.map (some mb))).cell? ⟨w.heap.size+1,4,none⟩=some (.map (some mb)):=Qat h4 4 rfl;have G5:wr.grownBy (((((wr.setCell ⟨w.heap.size+1,0,none⟩ (.int .i64 p.a)).setCell ⟨w.heap.size+1,1,none⟩ (.int .i64 p.b)).setCell ⟨w.heap.size+1,2,none⟩ (.int .i64 p.c)).setCell ⟨w.heap.size+1,3,none⟩ (.int .i64 p.d)).setCell ⟨w.heap.size+1,4,none⟩ (.map (some mb))) (some (w.heap.size+1)):=((((Qah _ _ _ _).trans (Qah _ _ _ _)).trans (Qah _ _ _ _)).trans (Qah _ _ _ _)).trans (Qah _ _ _ _);have HF:LvP w (((((wr.setCell ⟨w.heap.size+1,0,none⟩ (.int .i64 p.a)).setCell ⟨w.heap.size+1,1,none⟩ (.int .i64 p.b)).setCell ⟨w.heap.size+1,2,none⟩ (.int .i64 p.c)).setCell ⟨w.heap.size+1,3,none⟩ (.int .i64 p.d)).setCell ⟨w.heap.size+1,4,none⟩ (.map (some mb))) S k mb (mb+2) M:=⟨HI.out.mp.kept G5 (fun e=>by injection e with e;omega),HI.out.o.grown G5 (by omega),HI.out.ky,HI.out.lt,HI.out.le,Nat.le_trans HI.out.bm G5.size,HI.out.b.grown G5 HI.out.b.size (fun j hj=>by injection hj with hj;omega)⟩;exact bodyPost_ret (v:=.agg #[.int .i64 p.a,.int .i64 p.b,.int .i64 p.c,.int .i64 p.d,.map (some mb)]) (by simp [results,results27,go_sem,q0,q1,q2,q3,q4]) rfl ⟨mb,rfl,mb+2,M,HF⟩
theorem QoN {cs:Array Value} (h:(DataW.held (Value.agg cs):DataW Value)=Qrr s):cs=QaU s:=by
 injection h with q;injection q
def LiS (w:World) (b:Nat) (L:List Sd) (v:Value) (wr:World):Prop:=
 ∃ (D:DataW Value) (left:Lit->Bool) (cnt n:Nat) (A R:List Sd),wr.ranges prog 9 rS b w.heap.size n D left cnt/\HoldsS D L/\RgS D left L A R/\OwnC wr (w.heap.size+1) v (Qbi A)/\Below w.heap.size w wr
theorem QtR {n:Int} {s:ByteArray} (h:¬ QpT L n s):L.Perm (L.filter (loF n s) ++ L.filter (hiF n s)):=by
 have e:L.filter (fun c=>!loF n s c)=L.filter (hiF n s):=List.filter_congr (fun c hc=>by
  cases q:loF n s c
  ·cases q2:hiF n s c
   ·exact absurd (QnD q q2) (fun e=>h ⟨c,hc,e⟩)
   ·rfl
  ·rw [show hiF n s c=false from Qh2 q];rfl)
 have p:=List.filter_append_perm (loF n s) L;rw [e] at p;exact p.symm
theorem QsV (h:M.map Sd.key=S.map Sd.key):(Qbi M).map Ce.key=(Qbi S).map Ce.key:=by
 have e:∀ L:List Sd,(Qbi L).map Ce.key=(L.map Sd.key).flatMap Prod.snd:=fun L=>by
  unfold Qbi;rw [List.map_flatMap,List.flatMap_map]
  rfl
 rw [e,e,h]
structure PcA (w w':World) (S:List Sd) (p:Pi) (v:Value) (R:List Ce):Prop where
 r:OwnC w' w.heap.size v R
 o:CesO w' w.heap.size R
 y:QbD S p=true->Qc3 R/\(R.map Ce.key).Perm ((Qbi S).map Ce.key)
 n:QbD S p=false->R=[]
 b:Below w.heap.size w w'
variable {p:Pi}
theorem Qbr (h:QbD S p=true):QdU S=true/\PlP (fcS S) p.d (QaX (S.map Sd.nm)):=by
 unfold QbD at h;simp only [Bool.and_eq_true] at h;refine ⟨h.2.1,?_⟩;by_cases q:PlP (fcS S) p.d (QaX (S.map Sd.nm))
 ·exact q
 ·rw [Qfr q] at h;cases h.2.2
structure PpI (w:World) (ao:Option Addr) (N:Nat) (S:List Sd):Prop where
 n:S.length=N
 sm:SdsSm S
 ok:∀ s∈S,∀ c∈s.L,AgOk c.g/\c.s.size<=maxLen/\PlG c.g c.p
 at':QeQ w ao S
theorem PpI.past (h:PpI w ao N S) (hb:Below w.heap.size w w'):PpI w' ao N S:=⟨h.n,h.sm,h.ok,QaR h.at' hb⟩
theorem PpI.qs (h:PpI w ao N S) (hp:QbD S p=true):QS S:=
 qs_of (Qbr hp).1 (fun s hs c hc=>⟨(h.ok s hs c hc).1,h.sm.sm s hs c hc,(h.ok s hs c hc).2.1,(h.ok s hs c hc).2.2⟩) (fun x hx=>((Qbr hp).2.p x hx).2)
theorem sds_ap (h:QdU S=true):S.Pairwise (fun s t=>s.nm≠t.nm):=by
 have aa:Qaj (S.map Sd.nm)=true:=(Bool.and_eq_true_iff.1 (by unfold QdU at h;exact h)).1;refine List.pairwise_iff_getElem.2 (fun i j hi hj hij e=>?_);have n1:(S.map Sd.nm)[i]?=some S[i].nm:=by rw [List.getElem?_map,List.getElem?_eq_getElem hi];rfl
 have n2:(S.map Sd.nm)[i+(j - i - 1)+1]?=some S[j].nm:=by rw [show i+(j - i - 1)+1=j by omega,List.getElem?_map,List.getElem?_eq_getElem hj];rfl
 have lt:=QcD aa n1 (j - i - 1) n2;rw [e,Qb9] at lt
 cases lt
end Go.Proofs.YtlejlgldgafljaaGreatDoor
