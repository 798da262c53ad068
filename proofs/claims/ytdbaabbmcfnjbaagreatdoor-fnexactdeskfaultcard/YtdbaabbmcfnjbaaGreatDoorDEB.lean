/-
 Parts.
-/
import Derived.Test.YtdbaabbmcfnjbaaGreatDoorDEZ
import Derived.Test.YtdbaabbmcfnjbaaGreatDoorDEO
import Derived.Test.YtdbaabbmcfnjbaaGreatDoorDFN
import Derived.Lib.AppendStr
set_option maxRecDepth 10000
set_option maxHeartbeats 8000000
set_option linter.all false
namespace Go.Proofs.YtdbaabbmcfnjbaaGreatDoor
open Go.ChangeShapes Go.WideShapes Go.ChangeAt Go.RowKit Go.PlainAid Go.Lib Go.Maps Tryz
variable {t u wd:ByteArray}
theorem Qe4 {l:List UInt8} (h:(wd.toList == l)=true) (hu:u.toList=l):wd=u:=by
 subst hu;exact QbV h
variable {B b k r:Nat}
variable {W1 w wr:World}
theorem c_line {nm:Int} {wh:ByteArray} (hD:DkS B w b) (hw:wh.size<=20000) (hn:0<=nm/\nm<=999999999999) :
  Calls prog 12 #[.pointer (some ⟨b,0,none⟩),.agg #[.string wd,.int .i64 nm,.string wh]] w fun e w'=>LnA B b w e w':=by
 cases n0:(wd.toList == [112,117,116]) with
 | true=>
  obtain rfl:wd=⟨#[112,117,116]⟩:=Qe4 n0 (by first | rfl | decide | simp);exact Quw hD hw hn
 | false=>
 cases n1:(wd.toList == [106,111,105,110]) with
 | true=>
  obtain rfl:wd=⟨#[106,111,105,110]⟩:=Qe4 n1 (by first | rfl | decide | simp);exact QqU hD hw hn
 | false=>
 cases n2:(wd.toList == [108,101,97,118,101]) with
 | true=>
  obtain rfl:wd=⟨#[108,101,97,118,101]⟩:=Qe4 n2 (by first | rfl | decide | simp);exact QpE hD hw hn
 | false=>
 cases n3:(wd.toList == [116,105,99,107]) with
 | true=>
  obtain rfl:wd=⟨#[116,105,99,107]⟩:=Qe4 n3 (by first | rfl | decide | simp);exact QqK hD hw hn
 | false=>
 cases n4:(wd.toList == [99,108,111,115,101]) with
 | true=>
  obtain rfl:wd=⟨#[99,108,111,115,101]⟩:=Qe4 n4 (by first | rfl | decide | simp);exact QnK hD hw hn
 | false=>
 cases n5:(wd.toList == [119,104,101,114,101]) with
 | true=>
  obtain rfl:wd=⟨#[119,104,101,114,101]⟩:=Qe4 n5 (by first | rfl | decide | simp);exact QnG hD hw hn
 | false=>
 cases n6:(wd.toList == [114,97,110,107]) with
 | true=>
  obtain rfl:wd=⟨#[114,97,110,107]⟩:=Qe4 n6 (by first | rfl | decide | simp);exact Qqn hD hw hn
 | false=>
 cases n7:(wd.toList == [109,97,110,121]) with
 | true=>
  obtain rfl:wd=⟨#[109,97,110,121]⟩:=Qe4 n7 (by first | rfl | decide | simp);exact QrJ hD hw hn
 | false=>
 exact Qtd n0 n1 n2 n3 n4 n5 n6 n7 hD hw hn
def QpM (w:World) (B:Nat) (v:Value) (xs:List Int):Prop:=w.ownsRow B 5 1 v xs.length (xs.map (Value.int .u8))
def Qi5 (s:ByteArray):List Int:=s.data.toList.map (fun b=>(b.toNat:Int))
theorem Qg2 (s:ByteArray):(Qi5 s).length=s.size:=by unfold Qi5;rw [List.length_map];rfl
theorem QiG (s:ByteArray):strCells s=(Qi5 s).map (Value.int .u8):=by
 unfold Qi5;rw [List.map_map]
 rfl
def QpQ (u:ByteArray):Sd:=⟨u,[],none,0⟩
theorem QqJ (R:List ByteArray):flS (R.map QpQ)=fl Qsy R:=by
 unfold flS fl;rw [List.flatMap_map]
 rfl
theorem QoY (R:List ByteArray):QaN (R.map QpQ)=[]:=by
 unfold QaN;rw [List.flatMap_map];exact List.flatMap_eq_nil_iff.2 (fun u _=>rfl)
theorem QqG:QaZ ([(⟨#[97]⟩:ByteArray)].map QpQ) ⟨10,5,0,0⟩=true:=by
 unfold QaZ QeB;rw [Bool.and_eq_true,Bool.and_eq_true,Bool.and_eq_true];refine ⟨by decide,⟨by decide,?_⟩,QdY ?_⟩
 ·simp only [List.map_cons,List.map_nil,List.all_cons,List.all_nil,Bool.and_true]
  unfold shB;rw [Bool.and_eq_true];exact ⟨by decide,csR_iff.2 ⟨by simp [QpQ],by simp [QpQ],List.Pairwise.nil⟩⟩
 ·exact PlP.nil
theorem QuQ:GdK 0 (([(⟨#[97]⟩:ByteArray)].map QpQ).map Sd.key):=by
 refine ⟨by simp,fun x hx=>?_⟩;simp only [List.map_cons,List.map_nil,List.mem_singleton] at hx;subst hx;exact ⟨by decide,by simp [QpQ,Sd.key],by simp [QpQ,Sd.key]⟩
variable {v:Value}
variable {xs:List Int}
theorem DkS.row {B':Nat} {w':World} (h:DkS B w b) (hu:QpM w B' v xs) (hg:w.grownBy w' v.ownBlock):DkS B w' b:=by
 obtain ⟨ax,n,cp,p,M,pa,pn,pc,P,d,t,hR⟩:=h;have ty:=QbO hu
 have nr:v.ownBlock≠some b:=fun e=>by
  obtain ⟨c,f,q⟩:=ty b e;rw [hR.row] at q
  cases q
 refine DkR.s (ax:=ax) (n:=n) (cp:=cp) (p:=p) (M:=M) (pa:=pa) (pn:=pn) (pc:=pc) (P:=P) (d:=d) (t:=t) ⟨(hg.block b hR.lt (fun e=>nr e.symm)).trans hR.row,hR.lb,?_,?_,hR.nb,hR.gd,hR.ok,?_,hR.tp⟩
 ·exact hR.r.keptS (grS hg) (fun k q e=>Ty.ne ty (QbO hR.r) (by decide) k e q)
 ·refine hR.o.keptS (grS hg) (fun s hs k q e=>?_)
  rcases q with q | ⟨c,hc,q⟩
  ·exact Ty.ne ty (QbO (hR.o.r s hs)) (by decide) k e q
  ·have ha:=hR.o.o.o c (by unfold QaN;exact List.mem_flatMap.2 ⟨s,hs,hc⟩)
   rcases q with (q | q) | (q | q)
   ·exact Ty.ne ty ha.P.ty (by decide) k e q
   ·exact Ty.ne ty ha.N.ty (by decide) k e q
   ·exact Ty.ne ty (QbO ha.E.2) (by decide) k e q
   ·exact Ty.ne ty (QbO ha.R.2) (by decide) k e q
 ·refine World.ownsRow.kept hR.h hg ?_
  cases q:(Value.slice pa pn pc).ownBlock with
  | none=>exact .inl rfl
  | some j=>exact .inr (fun e=>Ty.ne ty (QbO hR.h) (by decide) j e.symm q)
theorem Qlx (h:QpM w B v xs):∃ u,(convert 42 9 v).run prog w=.ok (.string u) w:=by
 have hc:=fun g hg=>World.ownsRow.cells h (g:=g) hg;rcases h.2 with ⟨rfl,_⟩ | ⟨g,aa,ab,rfl,_⟩
 ·exact ⟨_,run_convert_bytes_nil (P:=prog) w 42 5 underlying42 underlying5 0 0 9 underlying9⟩
 ·refine ⟨_,run_convert_bytes_arg (P:=prog) w 42 5 underlying42 underlying5 g 0 xs.length aa xs rfl (fun i hi=>?_) 9 underlying9⟩
  have:=hc g rfl i (.int .u8 (xs.getD i 0)) (by rw [List.getElem?_map,List.getElem?_eq_getElem hi];simp [List.getD,List.getElem?_eq_getElem hi])
  simpa [Addr.add_lit] using this
theorem Quj:(prog.info? 5).map (fun i=>(i.zero,i.size,i.bytes))=some (some (.int .u8 0),1,1):=by kernel_rfl
def RnA (t:ByteArray) (e:Ending):Prop:=∃ u,e=.returned (.agg #[.string u,.int .i64 (dkL t),.int .i64 (dkC t)])
theorem Qj6 (h0:¬ 20000<t.size) (h:dkF 0 (QaG t 10)=some k):dkL t=(k:Int)/\dkC t=3:=by unfold dkL dkC;rw [if_neg h0,if_neg h0,h];exact ⟨rfl,rfl⟩
theorem Qn9 (h0:¬ 20000<t.size) (h:dkF 0 (QaG t 10)=none):dkL t=0/\dkC t=0:=by unfold dkL dkC;rw [if_neg h0,if_neg h0,h];exact ⟨rfl,rfl⟩
structure RnI (W1 wr:World) (B:Nat) (L:List ByteArray) (k:Nat) (v:Value):Prop where
 bel:Below W1.heap.size W1 wr
 ds:DkS B wr W1.heap.size
 y:∃ xs,QpM wr (W1.heap.size+1) v xs/\xs.length<=800001*k
 f:dkF 0 L=dkF k (L.drop k)
variable {L:List ByteArray}
theorem RnI.lt (h:RnI W1 wr B L k v):W1.heap.size<wr.heap.size:=by
 obtain ⟨ax,n,cp,p,M,pa,pn,pc,P,d,t,hR⟩:=h.ds;exact hR.lt
theorem RnI.step {w1 w2:World} {v':Value} {x s:ByteArray} {ys:List Int} (h:RnI W1 wr B L k v) (hk:k<60) (hd:L.drop k=u :: x :: L.drop (k+1+1)) (hd1:L.drop (k+1)=x :: L.drop (k+1+1)) (ok:okM (QaG u 32)=true) (hg:wr.grownBy w1 (some W1.heap.size)) (ds:DkS B w1 W1.heap.size) (hx:QpM w1 (W1.heap.size+1) v xs) (hl:xs.length<=800001*k) (hy:QpM w2 (W1.heap.size+1) v' ys) (hyl:ys.length=xs.length+s.size) (hs:s.size<=800001) (hg2:w1.grownBy w2 v.ownBlock):RnI W1 w2 B L (k+1) v':=by
 have hz:=h.lt;refine ⟨?_,ds.row hx hg2,⟨ys,hy,by omega⟩,?_⟩
 ·have b1:=QsC h.bel hg (ZZa _)
  refine ⟨?_,?_,?_,?_,?_⟩
  ·first | exact b1.os.trans hg2.os | exact hg2.os.trans b1.os
  ·first | exact b1.tape.trans hg2.tape | exact hg2.tape.trans b1.tape
  ·first | exact b1.output.trans hg2.output | exact hg2.output.trans b1.output
  ·exact Nat.le_trans b1.size hg2.size
  ·intro j hj
   refine (hg2.block j (Nat.lt_of_lt_of_le hj b1.size) (fun e=>?_)).trans (b1.block j hj);have:=(World.ownsRow.lt hx j e.symm).1;omega
 ·rw [h.f,hd,hd1]
  show (if k<60/\okM (QaG u 32)=true then dkF (k+1) (x :: L.drop (k+1+1)) else some k)=_
  rw [if_pos ⟨hk,ok⟩]
theorem QsU:ByteArray.empty.toList=[]:=by rw [ByteArray.toList_eq];rfl
theorem Qmp {a b c a' b' c':Value} {T:TypeId} (h:w.heap[r]?=some (.cells #[a,b,c] T (0,0))):(((w.setCell ⟨r,0,none⟩ a').setCell ⟨r,1,none⟩ b').setCell ⟨r,2,none⟩ c').heap[r]?=some (.cells #[a',b',c'] T (0,0)):=
 ZZl _ r 2 _ _ _ (ZZl _ r 1 _ _ _ (ZZl _ r 0 _ _ _ h))
theorem Qmn {X:World} (h:Below w.heap.size w X) (hr:w.heap.size<=r) (a b c:Value):Below w.heap.size w (((X.setCell ⟨r,0,none⟩ a).setCell ⟨r,1,none⟩ b).setCell ⟨r,2,none⟩ c):=by
 repeat (refine Below.setCell ?_ (by exact hr) _)
 exact h
theorem QoB {R:List ByteArray} (h:OwnS w B v R):OwnD w B v (R.map QpQ)/\LvO w B (R.map QpQ):=by
 refine ⟨?_,fun s hs=>?_,?_,by rw [QoY];exact CesO.nil _ _⟩
 ·unfold OwnD
  rw [QqJ,List.length_map];exact h
 ·obtain ⟨u,_,rfl⟩:=List.mem_map.1 hs
  exact OwnC.nil _ _
 ·refine List.pairwise_map.2 ((List.pairwise_of_forall (fun a b k q=>?_)))
  cases q
theorem DkS.new {w3:World} {cx:Nat} {ax:Option Addr} (hO:OwnS w3 B (.slice ax 1 cx) [⟨#[97]⟩]) (hB:B<=w3.heap.size):DkS B (w3.alloc (.cells (QeR (.slice ax 1 cx) ⟨10,5,0,0⟩ (.slice none 0 0) 0 0) 41)) w3.heap.size:=by
 obtain ⟨hD,hL⟩:=QoB hO;have a:=Qbb w3 (.cells (QeR (.slice ax 1 cx) ⟨10,5,0,0⟩ (.slice none 0 0) 0 0) 41);have hp:=PpB.of hD hL;exact DkR.s (P:=[]) ⟨ZZk _ _,hB,hD.past a,hL.past a,fun j q e=>by have:=(hp.hi j q).2;omega,QuQ,QqG,World.ownsRow_nil _ _ _ _,TpI.nil⟩
theorem QnY (t:ByteArray) (ht:t.size<=1048576) (w:World) :
  Calls prog 7 #[.string t] w fun e w'=>RnA t e/\Below w.heap.size w w':=by
 have Z0:=ZZk w (.cells (dkV 0 0) 23);by_cases af:20000<t.size
 ·have HL:Hid (dkL t=0):=by unfold dkL;exact Qaa (if_pos af)
  have HC:Hid (dkC t=2):=by unfold dkC;exact Qaa (if_pos af)
  obtain ⟨y0,y1,y2⟩:=QbJ Z0;have f0:=fzR 0 Z0;have f1:=fzR 1 Z0;have f2:=fzR 2 Z0;have aE:(20000:Int)<(t.size:Int):=by omega
  go_enter func7,ntmps7;go_wp2;obtain ⟨z0,z1,z2⟩:=QbJ (ZZk w (.cells (dkV 0 2) 23));refine bodyPost_ret (v:=.agg (dkV 0 2)) (by simp [results,results7,go_sem,z0,z1,z2]) rfl ⟨⟨⟨#[]⟩,by rw [HL.out,HC.out]⟩,Qbb _ _⟩
 ·have aE:¬ (20000:Int)<(t.size:Int):=by omega
  have ah:=Qaa af;have K0:=Qaa Z0;clear Z0 af;go_enter func7,ntmps7;go_wp2_with fail;refine (Qey t 10 ht (by omega) _).mono ?_;rintro e w1 ⟨g,a3,rfl,hg,aA,ae,hb⟩;have K1:=Qaa (Qae K0 hb);have aD:Hid (Below w.heap.size w w1):=Qac (Qbb w (.cells (dkV 0 0) 23)) hb;have ay:=Qjl t 10;have aq:=Qaa ae;have aI:Hid (∀ u∈QaG t 10,u.size<=20000):=fun u hu=>by have:=ay.1 u hu;have:=ah.out;omega
  have ar:(QaG t 10).length<=20001:=by have:=ay.2.2;have:=ah.out;omega
  generalize hLL:QaG t 10=L at aq aI ar ⊢;have ak:=Qaa hLL;clear hg aA ae hb ay K0 hLL aE;go_wp2_with fail;have KA:=ZZk w1 (.cells #[.string ⟨#[97]⟩] 9)
  refine (Qkv (L:=[⟨#[97]⟩]) 1 10 5 (by simp) (by decide) (fun _=>⟨_,0,rfl,fun i x hx=>by
   cases i with
   | zero=>simp only [List.getElem?_cons_zero,Option.some.injEq] at hx;subst hx;exact Qai KA 0 rfl
   | succ j=>simp at hx⟩)).mono ?_
  rintro e w3 ⟨v,R,a',b',rfl,hR,hO,ap⟩;rw [show pnB [(⟨#[97]⟩:ByteArray)] 10 5=true by decide,if_pos rfl] at hR;injection hR with e1 e2;injection e2 with e2 e3;subst e1 e2 e3;obtain ⟨ax,cx,rfl⟩:=QqQ hO;have ag:Below w1.heap.size w1 w3:=Qac (Qbb w1 _) ap;have aV:Hid (Below w.heap.size w w3):=Qac aD ag;have K3:=Qaa (Qae K1 ag);have a1:Hid (∀ (j:Nat) (u:ByteArray),L[j]?=some u->w3.cell? ⟨g,j,none⟩=some (.string u)):=fun j u hu=>Qab ag (aq.out j u hu);have aB:=Qaa (DkS.new hO ap.size);generalize (w1.alloc (.cells #[.string ⟨#[97]⟩] 9)).heap.size=B at aB;have a6:Hid (w.heap.size<w3.heap.size):=(ZZc.1 K3).1
  have aY:Hid (RnI w3 ((w3.alloc (.cells (QeR (.slice ax 1 cx) ⟨10,5,0,0⟩ (.slice none 0 0) 0 0) 41)).alloc (.cells #[] 5)) B L 0 (.slice (some ⟨w3.heap.size+1,0,none⟩) 0 0)):=by
   refine ⟨Qac (Qbb _ _) (Qbb _ _),aB.out.past (Qbb _ _),⟨[],?_,by simp⟩,rfl⟩;have h:=World.ownsRow_made (base:=w3.heap.size+1) (e:=5) (size:=1) (w3.alloc (.cells (QeR (.slice ax 1 cx) ⟨10,5,0,0⟩ (.slice none 0 0) 0 0) 41)) #[] 0 (by simp) (Nat.zero_le _) rfl
   simpa [QpM] using h
  clear hO ap ag KA K1 aD aq aB;go_wp2
  go_loopw [5,6] (fun v i wr=>∃ (k:Nat) (bv:Value),bv=v/\i=.int .i64 k/\k<=L.length/\Hid (RnI w3 wr B L k bv)) (fun v i wr=>L.length - (Go.RowKit.intOf i).toNat)
  case atStart=>exact ⟨0,_,rfl,rfl,ZZj _,aY⟩
  case round=>
   obtain ⟨k,v,rfl,rfl,hk,HI⟩:=hrel;have ab:=Qaa (Qae K3 HI.out.bel);have ai:Hid (Below w.heap.size w wr):=Qac aV HI.out.bel;by_cases aN:k<L.length
   ·have aZ:(k:Int)<(L.length:Int):=by omega
    obtain ⟨u,hu⟩:∃ u,L[k]?=some u:=⟨L[k],ZZe aN⟩;have hc:=Qab HI.out.bel (a1.out k u hu);have ao:=Qaa (aI.out u (ZZn hu));have aU:IntKind.i64.wrap ((k:Int)+1)=(k:Int)+1:=ZZi _ ⟨by omega,by omega⟩;have a4:IntKind.i64.wrap ((L.length:Int) - 1)=(L.length:Int) - 1:=ZZi _ ⟨by omega,by omega⟩
    have aj:Hid (L.drop k=u :: L.drop (k+1)):=by
     have h:=List.drop_eq_getElem_cons aN;rw [h,(List.getElem?_eq_some_iff.1 hu).2];exact rfl
    clear hu
    cases ql:((k:Int) == (L.length:Int) - 1) with
    | true=>
     have HN:Hid (L.drop (k+1)=[]):=Qaa (List.drop_eq_nil_of_le (by have:=beq_iff_eq.1 ql;omega))
     cases he:u.toList.isEmpty with
     | true=>
      have HV:Hid (dkL t=0/\dkC t=0):=by
       refine Qn9 ah ?_;rw [ak.out,HI.out.f,aj.out,HN.out]
       show (if u=ByteArray.empty then none else some k)=none
       rw [if_pos];have h2:u.toList=[]:=List.isEmpty_iff.1 he;exact QbV (by rw [h2,QsU];rfl)
      clear aU;obtain ⟨xs,hx,_⟩:=HI.out.y;obtain ⟨uu,a0⟩:=Qlx hx;obtain ⟨y0,y1,y2⟩:=QbJ ab;have f0:=fzR 0 ab;have f1:=fzR 1 ab;have f2:=fzR 2 ab;clear hx;go_wp2;obtain ⟨z0,z1,z2⟩:=QbJ (Qmp (a':=.string uu) (b':=.int .i64 0) (c':=.int .i64 0) ab);refine bodyPost_ret (v:=.agg #[.string uu,.int .i64 0,.int .i64 0]) (by simp [results,results7,go_sem,z0,z1,z2]) rfl ⟨⟨uu,by rw [HV.out.1,HV.out.2]⟩,Qmn ai (Nat.le_refl _) _ _ _⟩
     | false=>
      have HV:Hid (dkL t=(k:Int)/\dkC t=3):=by
       refine Qj6 ah ?_;rw [ak.out,HI.out.f,aj.out,HN.out]
       show (if u=ByteArray.empty then none else some k)=some k
       rw [if_neg];intro h;rw [h,QsU] at he
       cases he
      go_wp2_with fail;refine (QiL u (by have:=ao.out;omega) wr).mono ?_;rintro e w4 ⟨⟨wd,nm,wh,rfl,h1,h2,h3,h4⟩,al⟩;have ac:Hid (Below wr.heap.size wr (w4.alloc (.cells #[.string wd,.int .i64 nm,.string wh] 44))):=Qac al (Qbb _ _);have au:Hid (wh.size<=20000/\0<=nm/\nm<=999999999999):=⟨by have:=ao.out;omega,h3,h4⟩;clear al h1 h2 h3 h4 hc;have aa:=Qaa (Qae ab ac);obtain ⟨y0,y1,y2⟩:=QbJ aa;have f0:=fzR 0 aa;have f1:=fzR 1 aa;have f2:=fzR 2 aa;go_wp2;obtain ⟨z0,z1,z2⟩:=QbJ (Qmp (a':=.string ⟨#[]⟩) (b':=.int .i64 k) (c':=.int .i64 3) aa);refine bodyPost_ret (v:=.agg #[.string ⟨#[]⟩,.int .i64 k,.int .i64 3]) (by simp [results,results7,go_sem,z0,z1,z2]) rfl ⟨⟨⟨#[]⟩,by rw [HV.out.1,HV.out.2]⟩,Qmn (Qac ai ac) (Nat.le_refl _) _ _ _⟩
    | false=>
     obtain ⟨x,HX⟩:∃ x,Hid (L.drop (k+1)=x :: L.drop (k+1+1)):=by
      have aS:k+1<L.length:=by
       have h:¬ ((k:Int)=(L.length:Int) - 1):=by simpa using ql
       omega
      exact ⟨L[k+1],List.drop_eq_getElem_cons aS⟩
     go_wp2_with fail;refine (QiL u (by have:=ao.out;omega) wr).mono ?_;rintro e w4 ⟨⟨wd,nm,wh,rfl,h1,h2,h3,h4⟩,al⟩;have ac:Hid (Below wr.heap.size wr (w4.alloc (.cells #[.string wd,.int .i64 nm,.string wh] 44))):=Qac al (Qbb _ _);have au:Hid (wh.size<=20000/\0<=nm/\nm<=999999999999):=⟨by have:=ao.out;omega,h3,h4⟩;clear al h1 h2 h3 h4 hc;generalize hok:okM (QaG u 32)=ok;have aL:=Qaa hok;clear hok;by_cases a5:60<=k
     ·have aP:(60:Int)<=(k:Int):=by omega
      have HV:Hid (dkL t=(k:Int)/\dkC t=3):=by
       refine Qj6 ah ?_;rw [ak.out,HI.out.f,aj.out,HX.out]
       show (if k<60/\okM (QaG u 32)=true then dkF (k+1) (x :: L.drop (k+1+1)) else some k)=some k
       rw [if_neg (fun h=>by omega)]
      have aa:=Qaa (Qae ab ac);obtain ⟨y0,y1,y2⟩:=QbJ aa;have f0:=fzR 0 aa;have f1:=fzR 1 aa;have f2:=fzR 2 aa;go_wp2;obtain ⟨z0,z1,z2⟩:=QbJ (Qmp (a':=.string ⟨#[]⟩) (b':=.int .i64 k) (c':=.int .i64 3) aa);refine bodyPost_ret (v:=.agg #[.string ⟨#[]⟩,.int .i64 k,.int .i64 3]) (by simp [results,results7,go_sem,z0,z1,z2]) rfl ⟨⟨⟨#[]⟩,by rw [HV.out.1,HV.out.2]⟩,Qmn (Qac ai ac) (Nat.le_refl _) _ _ _⟩
     ·have aP:¬ (60:Int)<=(k:Int):=by omega
      cases ok with
      | false=>
       have HV:Hid (dkL t=(k:Int)/\dkC t=3):=by
        refine Qj6 ah ?_;rw [ak.out,HI.out.f,aj.out,HX.out]
        show (if k<60/\okM (QaG u 32)=true then dkF (k+1) (x :: L.drop (k+1+1)) else some k)=some k
        rw [aL.out,if_neg (fun h=>by cases h.2)]
       have aa:=Qaa (Qae ab ac);obtain ⟨y0,y1,y2⟩:=QbJ aa;have f0:=fzR 0 aa;have f1:=fzR 1 aa;have f2:=fzR 2 aa;go_wp2;obtain ⟨z0,z1,z2⟩:=QbJ (Qmp (a':=.string ⟨#[]⟩) (b':=.int .i64 k) (c':=.int .i64 3) aa);refine bodyPost_ret (v:=.agg #[.string ⟨#[]⟩,.int .i64 k,.int .i64 3]) (by simp [results,results7,go_sem,z0,z1,z2]) rfl ⟨⟨⟨#[]⟩,by rw [HV.out.1,HV.out.2]⟩,Qmn (Qac ai ac) (Nat.le_refl _) _ _ _⟩
      | true=>
       have aT:=Qaa (HI.out.ds.past ac);obtain ⟨xs,hx,aJ⟩:=HI.out.y;have aC:QpM (w4.alloc (.cells #[.string wd,.int .i64 nm,.string wh] 44)) (w3.heap.size+1) v xs:=Qat hx ac;have KX:=ZZk w4 (.cells #[.string wd,.int .i64 nm,.string wh] 44);have aQ:=HI.out.lt;obtain ⟨x0,x1,x2⟩:=QbJ KX;go_wp2_with fail;refine (c_line aT au.out.1 au.out.2).mono ?_;rintro e w6 ⟨⟨s,rfl,hs⟩,an,am⟩
       have aF:QpM w6 (w3.heap.size+1) v xs:=World.ownsRow.kept aC an (by
        cases q:v.ownBlock with
        | none=>exact .inl rfl
        | some j=>exact .inr (fun e=>by injection e with e;have:=(World.ownsRow.lt aC j q).1;omega))
       have ad:Op.stringOp .add s ⟨#[10]⟩=pure (.string (s ++ ⟨#[10]⟩)):=Qaf (by show s.size+1<=_;omega);have aG:(s ++ (⟨#[10]⟩:ByteArray)).size<=800001:=by rw [ByteArray.size_append];show s.size+1<=_;omega
       have aK:w3.heap.size+1<=w6.heap.size:=by have h1:=ac.out.size;have h2:=an.size;omega
       obtain ⟨i0,hi,aX,a2,aW⟩:=info_parts Quj;have aH:=Qaa aF;have aR:=Qaa an;have av:=Qaa am;have aw:=Qaa aG;have az:=Qaa aJ;clear hx aJ aC aF an am hs aG aQ x0 x1 x2 KX;go_wp2_with (at_builtin;refine wpList_append_own_string w6 rfl _ _ 42 9 rfl (w3.heap.size+1) 5 i0 underlying42 underlying9 hi aX a2 aW v xs.length _ rfl aH (s ++ ⟨#[10]⟩) rfl (by have:=az.out;have:=aw.out;unfold maxLen;omega) (by have:=az.out;have:=aw.out;omega) aK ?_;intro v' w7 hy aO _)
       have aM:QpM w7 (w3.heap.size+1) v' (xs ++ Qi5 (s ++ ⟨#[10]⟩)):=by
        unfold QpM;rw [List.map_append,<- QiG,List.length_append,Qg2];exact hy
       have HF:=Qaa (HI.out.step (by omega) (aj.out.trans (by rw [HX.out])) HX aL ((grB ac _).trans aR) av aH az aM (by rw [List.length_append,Qg2]) aw aO);clear hy aM aO aK;go_wp2;go_roundw
       case rel=>exact ⟨k+1,_,rfl,by go_num,by omega,HF⟩
       case measure=>simp [zI];omega
   ·have aZ:¬ (k:Int)<(L.length:Int):=by omega
    have HV:Hid (dkL t=0/\dkC t=0):=by
     refine Qn9 ah ?_;rw [ak.out,HI.out.f,List.drop_eq_nil_of_le (by omega)]
     rfl
    obtain ⟨xs,hx,_⟩:=HI.out.y;obtain ⟨uu,a0⟩:=Qlx hx;obtain ⟨y0,y1,y2⟩:=QbJ ab;have f0:=fzR 0 ab;have f1:=fzR 1 ab;have f2:=fzR 2 ab;clear hx;go_wp2;obtain ⟨z0,z1,z2⟩:=QbJ (Qmp (a':=.string uu) (b':=.int .i64 0) (c':=.int .i64 0) ab);refine bodyPost_ret (v:=.agg #[.string uu,.int .i64 0,.int .i64 0]) (by simp [results,results7,go_sem,z0,z1,z2]) rfl ⟨⟨uu,by rw [HV.out.1,HV.out.2]⟩,Qmn ai (Nat.le_refl _) _ _ _⟩
theorem QhI (t:ByteArray) (ht:t.size<=1048576) (w:World) :
  Calls prog 4 #[.string t] w fun e w'=>e=.returned (.agg (dkV (dkL t) (dkC t)))/\Below w.heap.size w w':=by
 have K0:=Qaa (ZZk w (.cells (dkV 0 0) 23));have ac:=Qaa (Qbb w (.cells (dkV 0 0) 23));have HR:=Qaa (QnY t ht (w.alloc (.cells (dkV 0 0) 23)));go_enter func4,ntmps4;go_wp2_with fail;refine HR.out.mono ?_;rintro e w1 ⟨⟨u,rfl⟩,aa⟩;have ad:=Qaa (Qac ac aa);have K1:=Qaa (Qae K0 aa);generalize hl:dkL t=l;generalize hc:dkC t=c;have Hl:=Qaa hl;have Hc:=Qaa hc;clear hl hc;clear aa HR K0 ac;go_upto_region 2 with fail;have ab:=Qaa (Qac ad (Qbb w1 (.cells #[.string u,.int .i64 l,.int .i64 c] 23)));have K2:=Qaa (Qae K1 (Qbb w1 (.cells #[.string u,.int .i64 l,.int .i64 c] 23)));have KO:=Qaa (ZZk w1 (.cells #[.string u,.int .i64 l,.int .i64 c] 23));generalize w1.alloc (.cells #[.string u,.int .i64 l,.int .i64 c] 23)=W2 at ab K2 KO ⊢;generalize w1.heap.size=O at KO ⊢;obtain ⟨y0,y1,y2⟩:=QbJ K2;obtain ⟨o0,o1,o2⟩:=QbJ KO;have f0:=fzR 0 K2;have f1:=fzR 1 K2;have f2:=fzR 2 K2;go_wp2;obtain ⟨z0,z1,z2⟩:=QbJ (Qmp (a':=.string ⟨#[]⟩) (b':=.int .i64 l) (c':=.int .i64 c) K2);refine bodyPost_ret (v:=.agg (dkV l c)) (by simp [results,results4,go_sem,z0,z1,z2]) rfl ⟨by rw [Hl.out,Hc.out],Qmn ab (Nat.le_refl _) _ _ _⟩
theorem c_eqDk (l c:Int) (w:World):Calls prog 6 #[.agg (dkV l c),.agg (dkV l c)] w fun e w'=>e=.returned (.bool true)/\Below w.heap.size w w':=by
 have HT:=Qaa (Qac (Qbb w (.cells (dkV l c) 23)) (Qbb _ (.cells (dkV l c) 23)));obtain ⟨x0,x1,x2⟩:=QbJ (Qae (ZZk w (.cells (dkV l c) 23)) (Qbb _ (.cells (dkV l c) 23)));have k:=ZZk (w.alloc (.cells (dkV l c) 23)) (.cells (dkV l c) 23);simp only [World.size_alloc] at k;obtain ⟨y0,y1,y2⟩:=QbJ k;go_enter func6,ntmps6;go_wp2;go_ret;exact ⟨rfl,HT⟩
theorem Qhv (t:ByteArray) (w:World) (hG:LnG w) :
  Calls prog 3 #[.string t] w fun e w'=>e=.returned (.bool true)/\Below w.heap.size w w':=by
 by_cases ac:1048576<t.size
 ·have ah:(1048576:Int)<(t.size:Int):=by omega
  go_enter func3,ntmps3;go_wp2;go_ret;exact ⟨rfl,ZZb _ _⟩
 ·have ah:¬ (1048576:Int)<(t.size:Int):=by omega
  have H1:=Qaa (QhI t (by omega));have H2:=Qaa (fun W=>Qh3 t (by omega) W);have HG:=Qaa hG;clear ac hG;generalize dkL t=l at H1 H2;generalize dkC t=c at H1 H2;go_enter func3,ntmps3;go_wp2_with fail;refine (H1.out _).mono ?_;rintro e w1 ⟨rfl,aa⟩;have ae:Hid (Below w.heap.size w (w1.alloc (.cells (dkV l c) 23))):=aa.trans ((Qbb w1 _).mono aa.size);have K1:=Qaa (ZZk w1 (.cells (dkV l c) 23));clear aa;go_wp2_with fail;refine (H2.out _ (HG.out.past ae)).mono ?_;rintro e w2 ⟨rfl,ab⟩;have af:Hid (Below w.heap.size w (w2.alloc (.cells (dkV l c) 23))):=Qac (Qac ae ab) (Qbb w2 _);obtain ⟨x0,x1,x2⟩:=QbJ (Qae (Qae K1 ab) (Qbb w2 (.cells (dkV l c) 23)));obtain ⟨y0,y1,y2⟩:=QbJ (ZZk w2 (.cells (dkV l c) 23));clear ab;go_wp2_with fail;refine (c_eqDk l c _).mono ?_;rintro e w3 ⟨rfl,ad⟩;have ag:=Qaa (Qac af ad);clear ad x0 x1 x2 y0 y1 y2;go_wp2;go_ret;exact ⟨rfl,ag⟩
end Go.Proofs.YtdbaabbmcfnjbaaGreatDoor
