/-
 mergeRightHlls of the program. (Written by tools/gen_hly.py.)
-/
import Derived.Test.YthchmdmncmioiaaGreatDoorZJK
import Derived.Laws.CopyOwn
set_option maxHeartbeats 4000000
namespace Go.Proofs.YthchmdmncmioiaaGreatDoor
set_option linter.unusedVariables false
set_option linter.unusedSimpArgs false
open Go.ChangeShapes Go.WideShapes Go.ChangeAt Go.RowKit Go.PlainAid Go.Maps
set_option maxRecDepth 10000
def zer64:List Value:=(List.replicate 64 (0:Int)).map (Value.int .i64)
theorem Qhp:zer64.length=64:=by simp [zer64]
theorem QdC {R:List Int} (h:R.length=0∨R.length=64):splice zer64 0 (R.map (Value.int .i64))=(Qcq R).map (Value.int .i64):=by
 unfold Qcq splice zer64;rcases h with h | h
 ·obtain rfl:=List.eq_nil_of_length_eq_zero h
  simp
 ·rw [if_neg (by omega)]
  simp [h]
theorem Qj9:(Tryz.prog.info? 2).map (·.size)=some 1:=by kernel_rfl
theorem RowI.full {w:World} {B g:Nat} {R:List Int} (h:RowI w B g R):w.heap[g]?=some (.cells (R.map (Value.int .i64)).toArray 2 (0,0)):=by
 rcases h.2.2 with ⟨e,_⟩ | ⟨g',cap,cur,e,h1,h2,_,_,h5,h6⟩
 ·cases e
 ·cases e
  rw [h2]
  have hc:cur.toList=R.map (Value.int .i64):=by
   rw [<- h6,List.take_of_length_le (by simp [h5])]
  rw [<- hc]
theorem RowI.of {w:World} {B g:Nat} {R:List Int} (h:R.length=64) (hB:B<=g) (hg:w.heap[g]?=some (.cells (R.map (Value.int .i64)).toArray 2 (0,0))):RowI w B g R:=
 ⟨h,by simp [h],.inr ⟨g,64,_,rfl,hB,hg,Nat.le_refl _,by unfold maxLen;omega,by simp [h],List.take_of_length_le (by simp [h])⟩⟩
theorem RowI.le {w:World} {B B' g:Nat} {R:List Int} (h:RowI w B g R) (hB:B'<=B):RowI w B' g R:=⟨h.1,QaI h.2 hB⟩
theorem QfH {w w2:World} {ao:Option Addr} {L:List Int} {K:Nat} (h:Qas .i64 w ao L) (hb:Below w.heap.size w w2):0<(L.map (Value.int .i64)).length->∃ ad,ao=some ad/\∀ j v,(L.map (Value.int .i64))[j]?=some v->w2.cell? (ad.add j)=some v:=fun h0=>by
 obtain ⟨b,off,rfl,hc⟩:=h (by simpa using h0);refine ⟨_,rfl,fun j v hv=>?_⟩;rw [List.getElem?_map] at hv;obtain ⟨x,hx,rfl⟩:=Option.map_eq_some_iff.1 hv;have:=Qab hb (hc j x hx);by_cases e:j=0
 ·subst e;simpa [Addr.add] using this
 ·simpa [Addr.add,e] using this
theorem Qkt {L:List Int} {k:Nat} (h:k<L.length):L[k]?=some (L.getD k 0):=by
 rw [List.getD_eq_getElem?_getD,List.getElem?_eq_getElem h];rfl
theorem Qf3 (w:World) (v:Value) (T:TypeId):(w.alloc (.cells #[v] T)).cell? ⟨w.heap.size,0,none⟩=some v:=by
 rw [cell_of_row _ w.heap.size 0 _ _ (0,0) (heap_alloc_new w (.cells #[v] T))];rfl
theorem Qho {H:Type} {w:World} {k:TypeId} {R:Value->Option (DataW H×List MemPlace)} {b n:Nat} {D:DataW H} (h:w.ownsMap Tryz.prog k R b n D) (o:Obj):(w.alloc o).ownsMap Tryz.prog k R b n D:=
 h.kept (row:=none) (World.grownBy_alloc w o none) (by simp)
theorem Qnr {D:DataW Unit} {ss U:List Int} (h:Qlq D ss) (hp:U.Pairwise (· < ·)) (h1:∀ x,has D (.int .u64 x)=true↔x∈U):ss.length=U.length:=
 ((List.perm_ext_iff_of_nodup h.1 (hp.imp (fun h=>by omega))).2 (fun x=>(h.2 x).trans (h1 x))).length_eq
theorem Qb0 {w:World} {B s n:Nat} {e:TypeId} {v:Value} {xs:List Value} (h:w.ownsRow B e s v n xs):∃ ao c,v=.slice ao n c:=by
 rcases h.2 with ⟨rfl,rfl⟩ | ⟨g,c,_,rfl,_⟩
 ·exact ⟨none,0,rfl⟩
 ·exact ⟨_,c,rfl⟩
theorem QkT (w:World) (T1 T2 T3:TypeId) (p n p' n' x y:Value) (w1:World) (hb:Below (((w.alloc (.cells #[p,n] T1)).alloc (.cells #[p',n'] T2)).alloc (.cells #[x,y] T3)).heap.size (((w.alloc (.cells #[p,n] T1)).alloc (.cells #[p',n'] T2)).alloc (.cells #[x,y] T3)) w1):QbQ w1 w.heap.size p n/\QbQ w1 (w.heap.size+1) p' n'/\w1.heap[w.heap.size+1+1]?=some (.cells #[x,y] T3 (0,0)):=by
 have k0:=Qgz w T1 p n;have k1:=Qgz (w.alloc (.cells #[p,n] T1)) T2 p' n';rw [World.size_alloc] at k1;have a1:∀ (W:World) o,Below W.heap.size W (W.alloc o):=fun W o=>(ZZb _ _).alloc (ZZa _) _;have h2:=ZZk ((w.alloc (.cells #[p,n] T1)).alloc (.cells #[p',n'] T2)) (.cells #[x,y] T3);simp only [World.size_alloc] at h2;exact ⟨QbY (QbY (QbY k0 (a1 _ _)) (a1 _ _)) hb,QbY (QbY k1 (a1 _ _)) hb,(hb.block _ (by simp)).trans h2⟩
theorem Qfp {w:World} {ea ra eb rb:Option Addr} {n1 c1 m1 d1 n2 c2 m2 d2:Nat} {E1 R1 E2 R2:List Int} (h1:E1.length=n1) (h2:R1.length=m1) (h3:E2.length=n2) (h4:R2.length=m2) (l1:n1<=40) (l2:m1=0∨m1=64) (l3:n2<=40) (l4:m2=0∨m2=64)
  (hE1:Qas .u64 w ea E1) (hR1:Qas .i64 w ra R1) (hE2:Qas .u64 w eb E2) (hR2:Qas .i64 w rb R2) (u1:∀ x∈E1,U64 x) (u2:∀ x∈E2,U64 x) :
  Calls Tryz.prog 313 #[.agg #[.slice ea n1 c1,.slice ra m1 d1],.agg #[.slice eb n2 c2,.slice rb m2 d2]] w fun e w'=>∃ v E R,e=.returned v/\Mg E1 R1 E2 R2 E R/\Qh9 w' w.heap.size v E R/\Below w.heap.size w w':=by
 have HE1:=Qaa hE1;have HR1:=Qaa hR1;have HE2:=Qaa hE2;have HR2:=Qaa hR2;have H1:=Qaa h1;have H2:=Qaa h2;have H3:=Qaa h3;have H4:=Qaa h4;have U1:=Qaa u1;have U2:=Qaa u2;have L2:=Qaa l2;have L4:=Qaa l4;have HBa:Hid (∀ o1 o2 o3,Below w.heap.size w (((w.alloc o1).alloc o2).alloc o3)):=fun o1 o2 o3=>(((Below.refl _ _).alloc (Nat.le_refl _) _).alloc (by simp) _).alloc (by simp;omega) _;clear hE1 hR1 hE2 hR2 h1 h2 h3 h4 u1 u2;obtain ⟨i0,hi,hi0,hi1,hi2⟩:=info_parts QdI;go_enter Tryz.func313,Tryz.ntmps313;go_wp2_with fail;refine (QoZ _ _ _ _ H1.out H3.out (by omega) (by omega) (Qag HE1.out (HBa.out _ _ _)) (Qag HE2.out (HBa.out _ _ _)) U1.out U2.out).mono ?_;rintro e w1 ⟨rfl,hM,hb1⟩;obtain ⟨⟨x0,x1⟩,⟨y0,y1⟩,hres⟩:=QkT w _ _ _ _ _ _ _ _ _ w1 hb1;have hz1:=hb1.size;have hT1:Below w.heap.size w w1:=(HBa.out _ _ _).trans (hb1.mono (by simp;omega));simp only [World.size_alloc] at hz1 hM ⊢;have HM:=Qaa hM;have HT1:=Qaa hT1
 have hbl:w.heap.size+1+1+1<w1.heap.size:=by
  obtain ⟨_,D,⟨es,clock,q,_⟩,_⟩:=hM;exact (ZZc.1 q).1
 obtain ⟨U,hU⟩:∃ U,U=Qif E1 E2:=⟨_,rfl⟩;rw [show Qda (Qda [] E1) E2=U from hU.symm] at HM;have HU:=Qaa hU;have HRs:=Qaa hres;obtain ⟨u,eu⟩:∃ u,U.length=u:=⟨_,rfl⟩
 have hlen:(Builtin.len_ #[320] 3 #[.map (some (w.heap.size+1+1+1))]).run Tryz.prog w1=.ok (.int .i64 u) w1:=by
  obtain ⟨_,D,q,_,q2,_⟩:=HM.out;have:=q.len Tryz.underlying320 3;rw [q2,eu] at this;exact this
 have HEu:=Qaa eu
 have hu:u<=80:=by
  have:=H1.out;have:=H3.out;have q:=Qol E1 E2;rw [<- HU.out,eu] at q;omega
 clear hb1 hM hT1 hU hres eu;by_cases q1:m1=0
 ·subst q1
  by_cases q2:m2=0
  ·subst q2
   by_cases q3:u<=40
   ·have q3i:(u:Int)<=40:=by omega
    have q3d:decide ((u:Int)<=40)=true:=ZZh q3i;have HMg:Hid (Mg E1 R1 E2 R2 U []):=(.inl ⟨H2.out,H4.out,by rw [<- HU.out,HEu.out];exact q3,HU.out,rfl⟩:Mg E1 R1 E2 R2 U []);obtain ⟨hp,D,hown,k1,k2,k3⟩:=HM.out;have HP:=Qaa hp;have HK1:=Qaa k1;have HK2:=Qaa k2;have HD:=Qaa hown;clear hp hown k1 k2 k3;go_wp2_with fail;refine (Qp4 _ _).mono ?_;rintro e w2 ⟨rfl,rfl⟩;go_wp2_with fail;refine (Ql0 w1.heap.size (w.heap.size+1+1+1) (n1+n2) D _ (by simp) (Qf3 _ _ _) (Qho HD.out _) (by rw [HK2.out,HEu.out];exact q3) (fun ss hs=>by rw [Qnr hs HP.out HK1.out,HEu.out];exact q3)).mono ?_;rintro e w3 ⟨v3,L,rfl,hrise,hrow,hb3⟩;obtain rfl:L=U:=QhP _ _ hrise.1 HP.out (fun x=>(hrise.2 x).trans (HK1.out x));have hT3:Below w1.heap.size w1 w3:=((Below.refl _ _).alloc (Nat.le_refl _) _).trans (hb3.mono (by simp));have hres3:=(hT3.block _ (by omega)).trans HRs.out;have z0:w3.cell? ⟨w.heap.size+1+1,0,none⟩=some (.slice none 0 0):=by rw [cell_of_row _ _ 0 _ _ (0,0) hres3];rfl
    have z1:w3.cell? ⟨w.heap.size+1+1,1,none⟩=some (.slice none 0 0):=by rw [cell_of_row _ _ 1 _ _ (0,0) hres3];rfl
    have zf:∀ o,w3.frozen? ⟨w.heap.size+1+1,o,none⟩=false:=fun o=>frozen_of_row w3 _ o _ _ hres3;have HT3:Hid (Below w.heap.size w w3):=HT1.out.trans (hT3.mono (by omega));have HRow:=Qaa hrow;clear hrise hrow hb3 hT3 hres3;obtain ⟨ao,c3,rfl⟩:=Qb0 HRow.out;go_wp2;refine bodyPost_ret (v:=.agg #[.slice ao L.length c3,.slice none 0 0]) (by simp [results,Tryz.results313,go_sem,z0,z1]) rfl ⟨_,_,_,rfl,HMg.out,⟨_,_,rfl,?_,World.ownsRow_nil _ _ _ _⟩,?_⟩
    ·refine QaI (B:=w1.heap.size) ?_ (by omega)
     repeat (refine ownsRow_setCell_below ?_ (by simp;omega) _)
     exact QaI HRow.out (by simp)
    ·exact (HT3.out.setCell (by simp;omega) _).setCell (by simp;omega) _
   ·have q3i:¬ (u:Int)<=40:=by omega
    have q3d:decide ((u:Int)<=40)=false:=ZZg q3i;have HMg:Hid (∀ R,Laid (mxL (Qcq R1) R2 R2.length) (·∈U) R->Mg E1 R1 E2 R2 [] R):=(fun R hR=>.inr ⟨by rw [H2.out,H4.out,<- HU.out,HEu.out];omega,rfl,by rw [<- HU.out];exact hR⟩:∀ R,Laid (mxL (Qcq R1) R2 R2.length) (·∈U) R->Mg E1 R1 E2 R2 [] R);have HPl:Hid ((Qcq R1).length=64):=QfD (by rw [H2.out];exact L2.out)
    go_wp2_with (first
     | (at_make;refine wpList_make_full _ rfl _ _ 45 rfl w1.heap.size 2 i0 (.int .i64 0) 1 Tryz.underlying45 hi hi0 hi1 .i64 .i64 _ _ 64 rfl rfl rfl rfl (by rw [hi2];omega) (by unfold maxLen;omega) (Nat.le_refl _) ?_;intro w2 hown2 hgrow2;have HRw:Hid (w2.heap[w1.heap.size]?=some (.cells zer64.toArray 2 (0,0))):=RowI.full (R:=List.replicate 64 0) ⟨by simp,by rw [<- QeI];exact hown2⟩;have HB2:Hid (Below w1.heap.size w1 w2):=(Below.refl _ _).grown hgrow2 (Nat.le_refl _) (fun k e=>by cases e);have x12:=Qab HB2.out x1;have y12:=Qab HB2.out y1;clear hown2 hgrow2)
     | (refine wpList_copy_splice rfl _ _ 45 45 rfl 2 Tryz.underlying45 Qj9 _ _ _ _ _ _ rfl rfl w1.heap.size 0 _ 2 HRw.out (R1.map (Value.int .i64)) (by rw [List.length_map,H2.out];rfl) (fun h0=>⟨rfl,QfH (K:=0) HR1.out (HT1.out.trans (HB2.out.mono HT1.out.size)) h0⟩) (by rw [List.length_map,H2.out,Qhp];omega) (by intro v hv;simp at hv;obtain ⟨x,_,rfl⟩:=hv;rfl) w1.heap.size w1 HB2.out (Nat.le_refl _) ?_;intro w3 hrow3 hb3;have HB3:=Qaa hb3;have HR3:Hid (RowI w3 w1.heap.size w1.heap.size (Qcq R1)):=RowI.of HPl.out (Nat.le_refl _) (by rw [<- QdC (by rw [H2.out];exact L2.out)];exact hrow3.out);have y13:=Qab hb3 y1;clear hrow3 hb3 HRw HB2 x12 y12))
    go_loopw [41] (fun i wr=>∃ (k:Nat),k<=0/\i=.int .i64 k/\Hid (RowI wr w1.heap.size w1.heap.size (mxL (Qcq R1) R2 k))/\Hid (Below w1.heap.size w1 wr)) (fun i wr=>0 - (Go.RowKit.intOf i).toNat)
    case atStart=>exact ⟨0,Nat.zero_le _,rfl,by rw [QdB];exact HR3,HB3⟩
    case round=>
     clear HR3 HB3 y13;obtain ⟨k,hk,rfl,HO,HBl⟩:=hrel;have HTr:=Qaa (HT1.out.trans (HBl.out.mono HT1.out.size));by_cases hkm:k<0
     ·omega
     ·obtain rfl:k=0:=by omega
      have HMr:=Qaa (HM.out.below hbl HBl.out);have HOr:=Qaa (HO.out.le (B':=w.heap.size+1+1+1) (by omega));have HRr:Hid (wr.heap[w.heap.size+1+1]?=some (.cells #[.slice none 0 0,.slice none 0 0] 47 (0,0))):=(HBl.out.block _ (by omega)).trans HRs.out;clear hkm hk;go_wp2_with fail;refine (Qd2 HOr.out HMr.out (ZZa _) (by omega)).mono ?_;rintro e w4 ⟨⟨r4,rfl⟩,R,hL,hR4,hb4⟩;have HF:Hid (Mg E1 R1 E2 R2 [] R):=HMg.out R (by rw [H4.out];exact hL);have hres4:=(hb4.block _ (by omega)).trans HRr.out;have HT4:Hid (Below w.heap.size w w4):=HTr.out.trans (hb4.mono (by omega));have HR4:=Qaa hR4;have z0:w4.cell? ⟨w.heap.size+1+1,0,none⟩=some (.slice none 0 0):=by rw [cell_of_row _ _ 0 _ _ (0,0) hres4];rfl
      have z1:w4.cell? ⟨w.heap.size+1+1,1,none⟩=some (.slice none 0 0):=by rw [cell_of_row _ _ 1 _ _ (0,0) hres4];rfl
      have zf:∀ o,w4.frozen? ⟨w.heap.size+1+1,o,none⟩=false:=fun o=>frozen_of_row w4 _ o _ _ hres4;clear hL hR4 hb4 hres4;go_wp2;refine bodyPost_ret (v:=.agg #[.slice none 0 0,.slice (some ⟨w1.heap.size,0,none⟩) 64 64]) (by simp [results,Tryz.results313,go_sem,z0,z1]) rfl ⟨_,[],R,rfl,HF.out,⟨_,_,rfl,World.ownsRow_nil _ _ _ _,?_⟩,?_⟩
      ·refine QaI (B:=w.heap.size+1+1+1) ?_ (by omega)
       repeat (refine ownsRow_setCell_below ?_ (by simp) _)
       rw [HR4.out.1];exact HR4.out.2
      ·exact (HT4.out.setCell (by simp;omega) _).setCell (by simp;omega) _
  ·obtain rfl:m2=64:=by omega
   have HMg:Hid (∀ R,Laid (mxL (Qcq R1) R2 R2.length) (·∈U) R->Mg E1 R1 E2 R2 [] R):=(fun R hR=>.inr ⟨by rw [H2.out,H4.out,<- HU.out,HEu.out];omega,rfl,by rw [<- HU.out];exact hR⟩:∀ R,Laid (mxL (Qcq R1) R2 R2.length) (·∈U) R->Mg E1 R1 E2 R2 [] R);have HPl:Hid ((Qcq R1).length=64):=QfD (by rw [H2.out];exact L2.out)
   go_wp2_with (first
    | (at_make;refine wpList_make_full _ rfl _ _ 45 rfl w1.heap.size 2 i0 (.int .i64 0) 1 Tryz.underlying45 hi hi0 hi1 .i64 .i64 _ _ 64 rfl rfl rfl rfl (by rw [hi2];omega) (by unfold maxLen;omega) (Nat.le_refl _) ?_;intro w2 hown2 hgrow2;have HRw:Hid (w2.heap[w1.heap.size]?=some (.cells zer64.toArray 2 (0,0))):=RowI.full (R:=List.replicate 64 0) ⟨by simp,by rw [<- QeI];exact hown2⟩;have HB2:Hid (Below w1.heap.size w1 w2):=(Below.refl _ _).grown hgrow2 (Nat.le_refl _) (fun k e=>by cases e);have x12:=Qab HB2.out x1;have y12:=Qab HB2.out y1;clear hown2 hgrow2)
    | (refine wpList_copy_splice rfl _ _ 45 45 rfl 2 Tryz.underlying45 Qj9 _ _ _ _ _ _ rfl rfl w1.heap.size 0 _ 2 HRw.out (R1.map (Value.int .i64)) (by rw [List.length_map,H2.out];rfl) (fun h0=>⟨rfl,QfH (K:=0) HR1.out (HT1.out.trans (HB2.out.mono HT1.out.size)) h0⟩) (by rw [List.length_map,H2.out,Qhp];omega) (by intro v hv;simp at hv;obtain ⟨x,_,rfl⟩:=hv;rfl) w1.heap.size w1 HB2.out (Nat.le_refl _) ?_;intro w3 hrow3 hb3;have HB3:=Qaa hb3;have HR3:Hid (RowI w3 w1.heap.size w1.heap.size (Qcq R1)):=RowI.of HPl.out (Nat.le_refl _) (by rw [<- QdC (by rw [H2.out];exact L2.out)];exact hrow3.out);have y13:=Qab hb3 y1;clear hrow3 hb3 HRw HB2 x12 y12))
   go_loopw [41] (fun i wr=>∃ (k:Nat),k<=64/\i=.int .i64 k/\Hid (RowI wr w1.heap.size w1.heap.size (mxL (Qcq R1) R2 k))/\Hid (Below w1.heap.size w1 wr)) (fun i wr=>64 - (Go.RowKit.intOf i).toNat)
   case atStart=>exact ⟨0,Nat.zero_le _,rfl,by rw [QdB];exact HR3,HB3⟩
   case round=>
    clear HR3 HB3 y13;obtain ⟨k,hk,rfl,HO,HBl⟩:=hrel;have HTr:=Qaa (HT1.out.trans (HBl.out.mono HT1.out.size));by_cases hkm:k<64
    ·have hk64:k<64:=by have:=L4.out;omega
     obtain ⟨b,off,e,hcell⟩:=HR2.out (by have:=H4.out;omega);subst e;obtain ⟨y,hy⟩:∃ y,y=R2.getD k 0:=⟨_,rfl⟩;obtain ⟨v,hv⟩:∃ v,v=(mxL (Qcq R1) R2 k).getD k 0:=⟨_,rfl⟩;have hc0:=Qab HTr.out (hcell k y (by rw [hy];exact Qkt (by rw [H4.out];exact hkm)));have hc1:=HO.out.cell hk64 hv;have hf1:=HO.out.froz k
     have HO2:Hid (∀ W:World,RowI W w1.heap.size w1.heap.size ((mxL (Qcq R1) R2 k).set k (max v y))->RowI W w1.heap.size w1.heap.size (mxL (Qcq R1) R2 (k+1))):=(fun W q=>by
      rw [hv,hy,Qjm _ _ _ _ (by rw [HPl.out];exact hk64),if_neg (Nat.lt_irrefl _),QnQ _ _ _ (by rw [HPl.out];exact hk64)] at q;exact q)
     clear hcell hy hv;go_wp2;go_roundw
     case rel=>exact ⟨k+1,by omega,by go_num,HO2.out _ (HO.out.set k _),HBl.out.setCell (ZZa _) _⟩
     case measure=>simp [Go.RowKit.intOf];omega
    ·obtain rfl:k=64:=by omega
     have HMr:=Qaa (HM.out.below hbl HBl.out);have HOr:=Qaa (HO.out.le (B':=w.heap.size+1+1+1) (by omega));have HRr:Hid (wr.heap[w.heap.size+1+1]?=some (.cells #[.slice none 0 0,.slice none 0 0] 47 (0,0))):=(HBl.out.block _ (by omega)).trans HRs.out;clear hkm hk;go_wp2_with fail;refine (Qd2 HOr.out HMr.out (ZZa _) (by omega)).mono ?_;rintro e w4 ⟨⟨r4,rfl⟩,R,hL,hR4,hb4⟩;have HF:Hid (Mg E1 R1 E2 R2 [] R):=HMg.out R (by rw [H4.out];exact hL);have hres4:=(hb4.block _ (by omega)).trans HRr.out;have HT4:Hid (Below w.heap.size w w4):=HTr.out.trans (hb4.mono (by omega));have HR4:=Qaa hR4;have z0:w4.cell? ⟨w.heap.size+1+1,0,none⟩=some (.slice none 0 0):=by rw [cell_of_row _ _ 0 _ _ (0,0) hres4];rfl
     have z1:w4.cell? ⟨w.heap.size+1+1,1,none⟩=some (.slice none 0 0):=by rw [cell_of_row _ _ 1 _ _ (0,0) hres4];rfl
     have zf:∀ o,w4.frozen? ⟨w.heap.size+1+1,o,none⟩=false:=fun o=>frozen_of_row w4 _ o _ _ hres4;clear hL hR4 hb4 hres4;go_wp2;refine bodyPost_ret (v:=.agg #[.slice none 0 0,.slice (some ⟨w1.heap.size,0,none⟩) 64 64]) (by simp [results,Tryz.results313,go_sem,z0,z1]) rfl ⟨_,[],R,rfl,HF.out,⟨_,_,rfl,World.ownsRow_nil _ _ _ _,?_⟩,?_⟩
     ·refine QaI (B:=w.heap.size+1+1+1) ?_ (by omega)
      repeat (refine ownsRow_setCell_below ?_ (by simp) _)
      rw [HR4.out.1];exact HR4.out.2
     ·exact (HT4.out.setCell (by simp;omega) _).setCell (by simp;omega) _
 ·obtain rfl:m1=64:=by omega
  have HMg:Hid (∀ R,Laid (mxL (Qcq R1) R2 R2.length) (·∈U) R->Mg E1 R1 E2 R2 [] R):=(fun R hR=>.inr ⟨by rw [H2.out,H4.out,<- HU.out,HEu.out];omega,rfl,by rw [<- HU.out];exact hR⟩:∀ R,Laid (mxL (Qcq R1) R2 R2.length) (·∈U) R->Mg E1 R1 E2 R2 [] R);have HPl:Hid ((Qcq R1).length=64):=QfD (by rw [H2.out];exact L2.out)
  go_wp2_with (first
   | (at_make;refine wpList_make_full _ rfl _ _ 45 rfl w1.heap.size 2 i0 (.int .i64 0) 1 Tryz.underlying45 hi hi0 hi1 .i64 .i64 _ _ 64 rfl rfl rfl rfl (by rw [hi2];omega) (by unfold maxLen;omega) (Nat.le_refl _) ?_;intro w2 hown2 hgrow2;have HRw:Hid (w2.heap[w1.heap.size]?=some (.cells zer64.toArray 2 (0,0))):=RowI.full (R:=List.replicate 64 0) ⟨by simp,by rw [<- QeI];exact hown2⟩;have HB2:Hid (Below w1.heap.size w1 w2):=(Below.refl _ _).grown hgrow2 (Nat.le_refl _) (fun k e=>by cases e);have x12:=Qab HB2.out x1;have y12:=Qab HB2.out y1;clear hown2 hgrow2)
   | (refine wpList_copy_splice rfl _ _ 45 45 rfl 2 Tryz.underlying45 Qj9 _ _ _ _ _ _ rfl rfl w1.heap.size 0 _ 2 HRw.out (R1.map (Value.int .i64)) (by rw [List.length_map,H2.out];rfl) (fun h0=>⟨rfl,QfH (K:=0) HR1.out (HT1.out.trans (HB2.out.mono HT1.out.size)) h0⟩) (by rw [List.length_map,H2.out,Qhp];omega) (by intro v hv;simp at hv;obtain ⟨x,_,rfl⟩:=hv;rfl) w1.heap.size w1 HB2.out (Nat.le_refl _) ?_;intro w3 hrow3 hb3;have HB3:=Qaa hb3;have HR3:Hid (RowI w3 w1.heap.size w1.heap.size (Qcq R1)):=RowI.of HPl.out (Nat.le_refl _) (by rw [<- QdC (by rw [H2.out];exact L2.out)];exact hrow3.out);have y13:=Qab hb3 y1;clear hrow3 hb3 HRw HB2 x12 y12))
  go_loopw [41] (fun i wr=>∃ (k:Nat),k<=m2/\i=.int .i64 k/\Hid (RowI wr w1.heap.size w1.heap.size (mxL (Qcq R1) R2 k))/\Hid (Below w1.heap.size w1 wr)) (fun i wr=>m2 - (Go.RowKit.intOf i).toNat)
  case atStart=>exact ⟨0,Nat.zero_le _,rfl,by rw [QdB];exact HR3,HB3⟩
  case round=>
   clear HR3 HB3 y13;obtain ⟨k,hk,rfl,HO,HBl⟩:=hrel;have HTr:=Qaa (HT1.out.trans (HBl.out.mono HT1.out.size));by_cases hkm:k<m2
   ·have hk64:k<64:=by have:=L4.out;omega
    obtain ⟨b,off,e,hcell⟩:=HR2.out (by have:=H4.out;omega);subst e;obtain ⟨y,hy⟩:∃ y,y=R2.getD k 0:=⟨_,rfl⟩;obtain ⟨v,hv⟩:∃ v,v=(mxL (Qcq R1) R2 k).getD k 0:=⟨_,rfl⟩;have hc0:=Qab HTr.out (hcell k y (by rw [hy];exact Qkt (by rw [H4.out];exact hkm)));have hc1:=HO.out.cell hk64 hv;have hf1:=HO.out.froz k
    have HO2:Hid (∀ W:World,RowI W w1.heap.size w1.heap.size ((mxL (Qcq R1) R2 k).set k (max v y))->RowI W w1.heap.size w1.heap.size (mxL (Qcq R1) R2 (k+1))):=(fun W q=>by
     rw [hv,hy,Qjm _ _ _ _ (by rw [HPl.out];exact hk64),if_neg (Nat.lt_irrefl _),QnQ _ _ _ (by rw [HPl.out];exact hk64)] at q;exact q)
    clear hcell hy hv;go_wp2;go_roundw
    case rel=>exact ⟨k+1,by omega,by go_num,HO2.out _ (HO.out.set k _),HBl.out.setCell (ZZa _) _⟩
    case measure=>simp [Go.RowKit.intOf];omega
   ·obtain rfl:k=m2:=by omega
    have HMr:=Qaa (HM.out.below hbl HBl.out);have HOr:=Qaa (HO.out.le (B':=w.heap.size+1+1+1) (by omega));have HRr:Hid (wr.heap[w.heap.size+1+1]?=some (.cells #[.slice none 0 0,.slice none 0 0] 47 (0,0))):=(HBl.out.block _ (by omega)).trans HRs.out;clear hkm hk;go_wp2_with fail;refine (Qd2 HOr.out HMr.out (ZZa _) (by omega)).mono ?_;rintro e w4 ⟨⟨r4,rfl⟩,R,hL,hR4,hb4⟩;have HF:Hid (Mg E1 R1 E2 R2 [] R):=HMg.out R (by rw [H4.out];exact hL);have hres4:=(hb4.block _ (by omega)).trans HRr.out;have HT4:Hid (Below w.heap.size w w4):=HTr.out.trans (hb4.mono (by omega));have HR4:=Qaa hR4;have z0:w4.cell? ⟨w.heap.size+1+1,0,none⟩=some (.slice none 0 0):=by rw [cell_of_row _ _ 0 _ _ (0,0) hres4];rfl
    have z1:w4.cell? ⟨w.heap.size+1+1,1,none⟩=some (.slice none 0 0):=by rw [cell_of_row _ _ 1 _ _ (0,0) hres4];rfl
    have zf:∀ o,w4.frozen? ⟨w.heap.size+1+1,o,none⟩=false:=fun o=>frozen_of_row w4 _ o _ _ hres4;clear hL hR4 hb4 hres4;go_wp2;refine bodyPost_ret (v:=.agg #[.slice none 0 0,.slice (some ⟨w1.heap.size,0,none⟩) 64 64]) (by simp [results,Tryz.results313,go_sem,z0,z1]) rfl ⟨_,[],R,rfl,HF.out,⟨_,_,rfl,World.ownsRow_nil _ _ _ _,?_⟩,?_⟩
    ·refine QaI (B:=w.heap.size+1+1+1) ?_ (by omega)
     repeat (refine ownsRow_setCell_below ?_ (by simp) _)
     rw [HR4.out.1];exact HR4.out.2
    ·exact (HT4.out.setCell (by simp;omega) _).setCell (by simp;omega) _
def Qlz (ao:Option Addr):Prop:=ao=none∨∃ b off,ao=some ⟨b,off,none⟩
theorem QhS {kd:IntKind} {w:World} {L:List Int} (h:Qas kd w none L):L=[]:=by
 cases L with
 | nil=>rfl
 | cons x r=>obtain ⟨b,off,e,_⟩:=h (by simp);cases e
theorem QiM {kd:IntKind} {w:World} {b off:Nat} {L:List Int} (h:Qas kd w (some ⟨b,off,none⟩) L):∀ j u,(L.map (Value.int kd))[j]?=some u->w.cell? ⟨b,off+j,none⟩=some u:=fun j u hu=>by
 rw [List.getElem?_map] at hu;obtain ⟨x,hx,rfl⟩:=Option.map_eq_some_iff.1 hu;obtain ⟨b',off',e,hc⟩:=h (by have:=(ZZd.1 hx).1;omega)
 cases e
 exact hc j x hx
theorem sizeU (w:World):(Go.sizeOf 26).run Tryz.prog w=.ok 1 w:=Tryz.sizeOf26 w
theorem sizeI (w:World):(Go.sizeOf 2).run Tryz.prog w=.ok 1 w:=Tryz.sizeOf2 w
theorem Qob {w:World} {ao:Option Addr} {n c:Nat} {L:List Int} (hn:L.length=n) (hl:n<=1048576) (hf:Qlz ao) (hA:Qas .u64 w ao L) :
  Calls Tryz.prog 162 #[.slice ao n c] w fun e w'=>∃ v,e=.returned v/\w'.ownsRow w.heap.size 26 1 v L.length (L.map (Value.int .u64))/\Below w.heap.size w w':=by
 obtain ⟨i0,hi,hz0,hz1,hz2⟩:=info_parts Qd5;rcases hf with rfl | ⟨b,off,rfl⟩
 ·obtain rfl:=QhS hA
  refine (Tryz.slices_Clone_nil_f162 _ _ _).mono ?_;rintro e w' ⟨rfl,rfl⟩;exact ⟨_,rfl,World.ownsRow_nil _ _ _ _,ZZb _ _⟩
 ·refine (Tryz.slices_Clone_f162 i0 _ 1 8 hi hz0 hz1 hz2 rfl (by omega) sizeU b off n c (L.map (Value.int .u64)) w (by simp [hn]) (by unfold maxLen;omega) (by omega) (QiM hA) (by intro v hv;simp at hv;obtain ⟨x,_,rfl⟩:=hv;rfl)).mono ?_
  rintro e w' ⟨v,rfl,ho,_,hb⟩;exact ⟨v,rfl,by rw [hn];exact ho,hb⟩
theorem Qoq {w:World} {ao:Option Addr} {n c:Nat} {L:List Int} (hn:L.length=n) (hl:n<=1048576) (hf:Qlz ao) (hA:Qas .i64 w ao L) :
  Calls Tryz.prog 163 #[.slice ao n c] w fun e w'=>∃ v,e=.returned v/\w'.ownsRow w.heap.size 2 1 v L.length (L.map (Value.int .i64))/\Below w.heap.size w w':=by
 obtain ⟨i0,hi,hz0,hz1,hz2⟩:=info_parts QdI;rcases hf with rfl | ⟨b,off,rfl⟩
 ·obtain rfl:=QhS hA
  refine (Tryz.slices_Clone_nil_f163 _ _ _).mono ?_;rintro e w' ⟨rfl,rfl⟩;exact ⟨_,rfl,World.ownsRow_nil _ _ _ _,ZZb _ _⟩
 ·refine (Tryz.slices_Clone_f163 i0 _ 1 8 hi hz0 hz1 hz2 rfl (by omega) sizeI b off n c (L.map (Value.int .i64)) w (by simp [hn]) (by unfold maxLen;omega) (by omega) (QiM hA) (by intro v hv;simp at hv;obtain ⟨x,_,rfl⟩:=hv;rfl)).mono ?_
  rintro e w' ⟨v,rfl,ho,_,hb⟩;exact ⟨v,rfl,by rw [hn];exact ho,hb⟩
theorem QfF (w:World) (T1 T3:TypeId) (p n x y:Value) (w1:World) (hb:Below ((w.alloc (.cells #[p,n] T1)).alloc (.cells #[x,y] T3)).heap.size ((w.alloc (.cells #[p,n] T1)).alloc (.cells #[x,y] T3)) w1):QbQ w1 w.heap.size p n/\w1.heap[w.heap.size+1]?=some (.cells #[x,y] T3 (0,0)):=by
 have k0:=Qgz w T1 p n;have a1:∀ (W:World) o,Below W.heap.size W (W.alloc o):=fun W o=>(ZZb _ _).alloc (ZZa _) _;have h2:=ZZk (w.alloc (.cells #[p,n] T1)) (.cells #[x,y] T3);simp only [World.size_alloc] at h2;exact ⟨QbY (QbY k0 (a1 _ _)) hb,(hb.block _ (by simp)).trans h2⟩
theorem Qi1 {w:World} {ea ra:Option Addr} {n c m d:Nat} {E R:List Int} (h1:E.length=n) (h2:R.length=m) (l1:n<=1048576) (l2:m<=1048576) (f1:Qlz ea) (f2:Qlz ra) (hE:Qas .u64 w ea E) (hR:Qas .i64 w ra R) :
  Calls Tryz.prog 127 #[.agg #[.slice ea n c,.slice ra m d]] w fun e w'=>∃ v,e=.returned v/\Qh9 w' w.heap.size v E R/\Below w.heap.size w w':=by
 have HE:=Qaa hE;have HR:=Qaa hR;have F1:=Qaa f1;have F2:=Qaa f2;have H1:=Qaa h1;have H2:=Qaa h2;have HBa:Hid (∀ o1 o2,Below w.heap.size w ((w.alloc o1).alloc o2)):=fun o1 o2=>((Below.refl _ _).alloc (Nat.le_refl _) _).alloc (by simp) _;clear hE hR f1 f2 h1 h2;go_enter Tryz.func127,Tryz.ntmps127;go_wp2_with fail;generalize hW0:(w.alloc (Obj.cells #[.slice ea n c,.slice ra m d] 47)).alloc (Obj.cells #[.slice none 0 0,.slice none 0 0] 47)=W0;have T0:Below w.heap.size w W0:=by rw [<- hW0];exact HBa.out _ _
 have KR:=QfF w 47 47 (.slice ea n c) (.slice ra m d) (.slice none 0 0) (.slice none 0 0) W0 (by rw [hW0];exact Below.refl _ _);have hsz0:W0.heap.size=w.heap.size+2:=by rw [<- hW0];simp
 clear hW0;have HT0:=Qaa T0;have hC:∀ W,Below W0.heap.size W0 W->QbQ W w.heap.size (.slice ea n c) (.slice ra m d)/\W.heap[w.heap.size+1]?=some (.cells #[.slice none 0 0,.slice none 0 0] 47 (0,0)):=fun W hW=>⟨QbY KR.1 hW,by rw [hW.block _ (by omega)];exact KR.2⟩;have HC:=Qaa hC;clear T0 hC KR;have HS0:(fun W=>Below W0.heap.size W0 W) W0.drew:=(ZZb _ _).drew;refine Qaj (fun W=>Below W0.heap.size W0 W) 7 (by kernel_rfl) ?_;refine tkL (i:=0) (v:=.pointer (some ⟨w.heap.size,0,none⟩)) rfl rfl HS0 (fun W hW=>?_) ?_
 ·obtain ⟨⟨x0,x1⟩,_⟩:=HC.out W hW
  go_simp
 refine tkL (i:=1) (v:=.slice ea n c) rfl rfl HS0 (fun W hW=>?_) ?_
 ·obtain ⟨⟨x0,x1⟩,_⟩:=HC.out W hW
  go_simp
 refine tkL (i:=3) (v:=.pointer (some ⟨w.heap.size,1,none⟩)) rfl rfl HS0 (fun W hW=>?_) ?_
 ·obtain ⟨⟨x0,x1⟩,_⟩:=HC.out W hW
  go_simp
 simp only [sA,sB,sC];refine tkL (i:=4) (v:=.slice ra m d) rfl rfl HS0 (fun W hW=>?_) ?_
 ·obtain ⟨⟨x0,x1⟩,_⟩:=HC.out W hW
  go_simp
 simp only [sA,sB,sC];refine onE (i:=2) rfl (fun K hK=>?_);go_simp;refine (Qob H1.out l1 F1.out (Qag HE.out (HT0.out.trans ((ZZb _ _).drew.mono HT0.out.size)))).mono ?_;rintro e w1 ⟨v1,rfl,ho1,hb1⟩;dsimp only;have HB1:=Qaa ((HS0:Below W0.heap.size W0 W0.drew).trans hb1);have HO1:=Qaa (QaI (B':=W0.heap.size) ho1 (by show W0.heap.size<=W0.heap.size;omega));obtain ⟨ao1,c1,rfl⟩:=Qb0 ho1;clear ho1 hb1;refine hK.out _ _ (fun _=>HB1.out) ?_;clear hK K
 try simp only [Act.put,sA,sB,sC]
 refine onE (i:=5) rfl (fun K hK=>?_);go_simp;refine (Qoq H2.out l2 F2.out (Qag HR.out (Qad HT0.out HB1.out))).mono ?_;rintro e w2 ⟨v2,rfl,ho2,hb2⟩;dsimp only;have HB2:=Qaa (Qad HB1.out hb2);have HO2:=Qaa (QaI (B':=W0.heap.size) ho2 HB1.out.size);have HO12:=Qaa (QaP HO1.out hb2);obtain ⟨ao2,c2,rfl⟩:=Qb0 ho2;clear ho2 hb2;refine hK.out _ _ (fun _=>HB2.out) ?_;clear hK K
 try simp only [Act.put,sA,sB,sC]
 refine tkS (i:=6) (v:=.agg #[.slice ao1 E.length c1,.slice ao2 R.length c2]) rfl rfl HB2.out ?_;simp only [sA,sB,sC];have R2:=(HC.out _ HB2.out).2;have q0:w2.cell? ⟨w.heap.size+1,0,none⟩=some (.slice none 0 0):=by rw [cell_of_row _ _ 0 _ _ (0,0) R2];rfl
 have q1:w2.cell? ⟨w.heap.size+1,1,none⟩=some (.slice none 0 0):=by rw [cell_of_row _ _ 1 _ _ (0,0) R2];rfl
 have f0:=fzR 0 R2;have f1:=fzR 1 R2;refine onE (i:=7) rfl (fun K hK=>?_);go_simp;refine hK.out _ _ (fun h=>absurd rfl h) ?_;clear hK K
 try simp only [Act.put,sA,sB,sC]
 refine Qar (by kernel_rfl) ?_ _;go_wp2;refine bodyPost_ret (v:=.agg #[.slice ao1 E.length c1,.slice ao2 R.length c2]) (by simp [results,Tryz.results127,go_sem,q0,q1]) rfl ⟨_,rfl,⟨_,_,rfl,?_,?_⟩,?_⟩
 ·refine QaI (B:=W0.heap.size) ?_ (by omega)
  repeat (refine ownsRow_setCell_below ?_ (by simp;omega) _)
  exact HO12.out
 ·refine QaI (B:=W0.heap.size) ?_ (by omega)
  repeat (refine ownsRow_setCell_below ?_ (by simp;omega) _)
  exact HO2.out
 ·repeat (refine Below.setCell ?_ (by simp <;> omega) _)
  exact Qad HT0.out HB2.out
def QnR (E R:List Int) (x:Int) (E' R':List Int):Prop:=if hlB E R=true then Mg E R [x] [] E' R' else E'=E/\R'=R
theorem Qd3 {E R:List Int} (h:hlB E R=true):E.length<=40/\(R.length=0∨R.length=64):=by
 unfold hlB at h
 split at h
 ·rename_i h0
  unfold exB at h;simp only [Bool.and_eq_true,decide_eq_true_eq] at h;exact ⟨h.1,.inl h0⟩
 ·unfold QgB at h
  simp only [Bool.and_eq_true,decide_eq_true_eq] at h;exact ⟨by omega,.inr h.2.1⟩
theorem Qlu {w:World} {ea ra:Option Addr} {n c m d:Nat} {E R:List Int} (x:Int) (h1:E.length=n) (h2:R.length=m) (l1:n<=1048576) (l2:m<=1048576) (f1:Qlz ea) (f2:Qlz ra) (hE:Qas .u64 w ea E) (hR:Qas .i64 w ra R) (u1:∀ y∈E,U64 y) (ux:U64 x) :
  Calls Tryz.prog 310 #[.agg #[.slice ea n c,.slice ra m d],.int .u64 x] w fun e w'=>∃ v E' R',e=.returned v/\QnR E R x E' R'/\Qh9 w' w.heap.size v E' R'/\Below w.heap.size w w':=by
 have HE:=Qaa hE;have HR:=Qaa hR;have F1:=Qaa f1;have F2:=Qaa f2;have H1:=Qaa h1;have H2:=Qaa h2;have U1:=Qaa u1;have UX:=Qaa ux;have HBa:Hid (∀ o1 o2,Below w.heap.size w ((w.alloc o1).alloc o2)):=fun o1 o2=>((Below.refl _ _).alloc (Nat.le_refl _) _).alloc (by simp) _;clear hE hR f1 f2 h1 h2 u1 ux;go_enter Tryz.func310,Tryz.ntmps310;go_wp2_with fail;refine (Qcl H1.out H2.out l1 l2 (Qag HE.out (HBa.out _ _)) (Qag HR.out (HBa.out _ _))).mono ?_;rintro e w1 ⟨rfl,hb1⟩;obtain ⟨⟨x0,x1⟩,hres⟩:=QfF w _ _ _ _ _ _ w1 hb1;have hz1:=hb1.size;have hT1:Below w.heap.size w w1:=(HBa.out _ _).trans (hb1.mono (by simp;omega));simp only [World.size_alloc] at hz1;have HT1:=Qaa hT1;have HRs:=Qaa hres;clear hb1 hT1 hres
 cases hq:hlB E R with
 | false=>
  have HQ:Hid (QnR E R x E R):=(by unfold QnR;rw [if_neg (by rw [hq];simp)];exact ⟨rfl,rfl⟩:QnR E R x E R);go_wp2_with fail;refine (Qi1 H1.out H2.out l1 l2 F1.out F2.out (Qag HE.out HT1.out) (Qag HR.out HT1.out)).mono ?_;rintro e w2 ⟨v2,rfl,⟨p,q,rfl,o1,o2⟩,hb2⟩;have R2:=(hb2.block _ (by omega)).trans HRs.out;have HT2:=Qaa (Qad HT1.out hb2);have HO1:=Qaa o1;have HO2:=Qaa o2;obtain ⟨a1,c1,rfl⟩:=Qb0 o1;obtain ⟨a2,c2,rfl⟩:=Qb0 o2;have q0:w2.cell? ⟨w.heap.size+1,0,none⟩=some (.slice none 0 0):=by rw [cell_of_row _ _ 0 _ _ (0,0) R2];rfl
  have q1:w2.cell? ⟨w.heap.size+1,1,none⟩=some (.slice none 0 0):=by rw [cell_of_row _ _ 1 _ _ (0,0) R2];rfl
  have f0:=fzR 0 R2;have f1:=fzR 1 R2;clear hb2 o1 o2 R2;go_wp2;refine bodyPost_ret (v:=.agg #[.slice a1 E.length c1,.slice a2 R.length c2]) (by simp [results,Tryz.results310,go_sem,q0,q1]) rfl ⟨_,E,R,rfl,HQ.out,⟨_,_,rfl,?_,?_⟩,?_⟩
  ·refine QaI (B:=w1.heap.size) ?_ (by omega)
   repeat (refine ownsRow_setCell_below ?_ (by simp;omega) _)
   exact HO1.out
  ·refine QaI (B:=w1.heap.size) ?_ (by omega)
   repeat (refine ownsRow_setCell_below ?_ (by simp;omega) _)
   exact HO2.out
  ·exact (HT2.out.setCell (by simp) _).setCell (by simp) _
 | true=>
  obtain ⟨k1,k2⟩:=Qd3 hq;rw [H1.out] at k1;rw [H2.out] at k2;have HQ:Hid (∀ E' R',Mg E R [x] [] E' R'->QnR E R x E' R'):=(fun E' R' h=>by unfold QnR;rw [if_pos hq];exact h);have hA1:Below w1.heap.size w1 (w1.alloc (.cells #[.int .u64 x] 26)):=(ZZb _ _).alloc (ZZa _) _;have HA1:=Qaa hA1
  have HN1:Hid (Qas .u64 (w1.alloc (.cells #[.int .u64 x] 26)) (some ⟨w1.heap.size,0,none⟩) [x]):=(fun _=>⟨w1.heap.size,0,rfl,fun i y hy=>by
   cases i with
   | zero=>simp at hy;subst hy;exact Qf3 _ _ _
   | succ i=>simp at hy⟩)
  clear hA1;go_wp2_with fail;refine (Qfp (R2:=[]) H1.out H2.out (E2:=[x]) rfl rfl k1 k2 (by simp) (.inl rfl) (Qag HE.out (HT1.out.trans (HA1.out.mono HT1.out.size))) (Qag HR.out (HT1.out.trans (HA1.out.mono HT1.out.size))) HN1.out (fun h=>by simp at h) U1.out (by intro y hy;simp at hy;subst hy;exact UX.out)).mono ?_;rintro e w2 ⟨v2,E',R',rfl,hM,⟨p,q,rfl,o1,o2⟩,hb2⟩;have R2:=((HA1.out.trans (hb2.mono (by simp))).block _ (by omega)).trans HRs.out;have HT2:=Qaa (HT1.out.trans ((HA1.out.trans (hb2.mono (by simp))).mono HT1.out.size));have HO1:=Qaa o1;have HO2:=Qaa o2;have HF:=Qaa (HQ.out _ _ hM);obtain ⟨a1,c1,rfl⟩:=Qb0 o1;obtain ⟨a2,c2,rfl⟩:=Qb0 o2;have q0:w2.cell? ⟨w.heap.size+1,0,none⟩=some (.slice none 0 0):=by rw [cell_of_row _ _ 0 _ _ (0,0) R2];rfl
  have q1:w2.cell? ⟨w.heap.size+1,1,none⟩=some (.slice none 0 0):=by rw [cell_of_row _ _ 1 _ _ (0,0) R2];rfl
  have f0:=fzR 0 R2;have f1:=fzR 1 R2;clear hb2 o1 o2 R2 hM;go_wp2;refine bodyPost_ret (v:=.agg #[.slice a1 E'.length c1,.slice a2 R'.length c2]) (by simp [results,Tryz.results310,go_sem,q0,q1]) rfl ⟨_,E',R',rfl,HF.out,⟨_,_,rfl,?_,?_⟩,?_⟩
  ·refine QaI (B:=w1.heap.size) ?_ (by omega)
   repeat (refine ownsRow_setCell_below ?_ (by simp;omega) _)
   exact QaI HO1.out (by simp)
  ·refine QaI (B:=w1.heap.size) ?_ (by omega)
   repeat (refine ownsRow_setCell_below ?_ (by simp;omega) _)
   exact QaI HO2.out (by simp)
  ·exact (HT2.out.setCell (by simp <;> omega) _).setCell (by simp <;> omega) _
def QfR (E1 R1 E2 R2 E R:List Int):Prop:=if hlB E1 R1=true/\hlB E2 R2=true then Mg E1 R1 E2 R2 E R else E=[]/\R=[]
theorem QiH {w:World} {ea ra eb rb:Option Addr} {n1 c1 m1 d1 n2 c2 m2 d2:Nat} {E1 R1 E2 R2:List Int} (h1:E1.length=n1) (h2:R1.length=m1) (h3:E2.length=n2) (h4:R2.length=m2) (l1:n1<=1048576) (l2:m1<=1048576) (l3:n2<=1048576) (l4:m2<=1048576)
  (hE1:Qas .u64 w ea E1) (hR1:Qas .i64 w ra R1) (hE2:Qas .u64 w eb E2) (hR2:Qas .i64 w rb R2) (u1:∀ x∈E1,U64 x) (u2:∀ x∈E2,U64 x) :
  Calls Tryz.prog 309 #[.agg #[.slice ea n1 c1,.slice ra m1 d1],.agg #[.slice eb n2 c2,.slice rb m2 d2]] w fun e w'=>∃ v E R,e=.returned v/\QfR E1 R1 E2 R2 E R/\Qh9 w' w.heap.size v E R/\Below w.heap.size w w':=by
 have HE1:=Qaa hE1;have HR1:=Qaa hR1;have HE2:=Qaa hE2;have HR2:=Qaa hR2;have H1:=Qaa h1;have H2:=Qaa h2;have H3:=Qaa h3;have H4:=Qaa h4;have U1:=Qaa u1;have U2:=Qaa u2;have HBa:Hid (∀ o1 o2 o3,Below w.heap.size w (((w.alloc o1).alloc o2).alloc o3)):=fun o1 o2 o3=>(((Below.refl _ _).alloc (Nat.le_refl _) _).alloc (by simp) _).alloc (by simp;omega) _;clear hE1 hR1 hE2 hR2 h1 h2 h3 h4 u1 u2;go_enter Tryz.func309,Tryz.ntmps309;go_wp2_with fail;refine (Qcl H1.out H2.out l1 l2 (Qag HE1.out (HBa.out _ _ _)) (Qag HR1.out (HBa.out _ _ _))).mono ?_;rintro e w1 ⟨rfl,hb1⟩;obtain ⟨K1,K2,hres⟩:=QkT w _ _ _ _ _ _ _ _ _ w1 hb1;have hz1:=hb1.size;have hT1:Below w.heap.size w w1:=(HBa.out _ _ _).trans (hb1.mono (by simp;omega));simp only [World.size_alloc] at hz1;have HT1:=Qaa hT1;have HRs:=Qaa hres;have HK1:=Qaa K1;have HK2:=Qaa K2;obtain ⟨x0,x1⟩:=K1;obtain ⟨y0,y1⟩:=K2;clear hb1 hT1 hres
 cases hq:hlB E1 R1 with
 | false=>
  have HQ:Hid (QfR E1 R1 E2 R2 [] []):=(by unfold QfR;rw [if_neg (by rw [hq];simp)];exact ⟨rfl,rfl⟩:QfR E1 R1 E2 R2 [] []);have q0:w1.cell? ⟨w.heap.size+1+1,0,none⟩=some (.slice none 0 0):=by rw [cell_of_row _ _ 0 _ _ (0,0) HRs.out];rfl
  have q1:w1.cell? ⟨w.heap.size+1+1,1,none⟩=some (.slice none 0 0):=by rw [cell_of_row _ _ 1 _ _ (0,0) HRs.out];rfl
  have f0:=fzR 0 HRs.out;have f1:=fzR 1 HRs.out;go_wp2;refine bodyPost_ret (v:=.agg #[.slice none 0 0,.slice none 0 0]) (by simp [results,Tryz.results309,go_sem,q0,q1]) rfl ⟨_,[],[],rfl,HQ.out,⟨_,_,rfl,World.ownsRow_nil _ _ _ _,World.ownsRow_nil _ _ _ _⟩,?_⟩;exact (HT1.out.setCell (by simp <;> omega) _).setCell (by simp <;> omega) _
 | true=>
  go_wp2_with fail;refine (Qcl H3.out H4.out l3 l4 (Qag HE2.out HT1.out) (Qag HR2.out HT1.out)).mono ?_;rintro e w2 ⟨rfl,hb2⟩;clear x0 x1 y0 y1;obtain ⟨x0,x1⟩:=QbY HK1.out hb2;obtain ⟨y0,y1⟩:=QbY HK2.out hb2;have HT2:=Qaa (Qad HT1.out hb2);have HRs2:=Qaa ((hb2.block _ (by omega)).trans HRs.out);have hz2:=hb2.size;clear hb2
  cases hq2:hlB E2 R2 with
  | false=>
   have HQ:Hid (QfR E1 R1 E2 R2 [] []):=(by unfold QfR;rw [if_neg (by rw [hq2];simp)];exact ⟨rfl,rfl⟩:QfR E1 R1 E2 R2 [] []);have q0:w2.cell? ⟨w.heap.size+1+1,0,none⟩=some (.slice none 0 0):=by rw [cell_of_row _ _ 0 _ _ (0,0) HRs2.out];rfl
   have q1:w2.cell? ⟨w.heap.size+1+1,1,none⟩=some (.slice none 0 0):=by rw [cell_of_row _ _ 1 _ _ (0,0) HRs2.out];rfl
   have f0:=fzR 0 HRs2.out;have f1:=fzR 1 HRs2.out;go_wp2;refine bodyPost_ret (v:=.agg #[.slice none 0 0,.slice none 0 0]) (by simp [results,Tryz.results309,go_sem,q0,q1]) rfl ⟨_,[],[],rfl,HQ.out,⟨_,_,rfl,World.ownsRow_nil _ _ _ _,World.ownsRow_nil _ _ _ _⟩,?_⟩;exact (HT2.out.setCell (by simp <;> omega) _).setCell (by simp <;> omega) _
  | true=>
   obtain ⟨k1,k2⟩:=Qd3 hq;obtain ⟨k3,k4⟩:=Qd3 hq2;rw [H1.out] at k1;rw [H2.out] at k2;rw [H3.out] at k3;rw [H4.out] at k4;have HQ:Hid (∀ E' R',Mg E1 R1 E2 R2 E' R'->QfR E1 R1 E2 R2 E' R'):=(fun E' R' h=>by unfold QfR;rw [if_pos ⟨hq,hq2⟩];exact h);have K2':=Qaa k2;have K4':=Qaa k4;clear k2 k4;go_wp2_with fail;refine (Qfp H1.out H2.out H3.out H4.out k1 K2'.out k3 K4'.out (Qag HE1.out HT2.out) (Qag HR1.out HT2.out) (Qag HE2.out HT2.out) (Qag HR2.out HT2.out) U1.out U2.out).mono ?_;rintro e w3 ⟨v3,E',R',rfl,hM,⟨p,q,rfl,o1,o2⟩,hb3⟩;have R3:=(hb3.block _ (by omega)).trans HRs2.out;have HT3:=Qaa (HT2.out.trans (hb3.mono HT2.out.size));have HO1:=Qaa o1;have HO2:=Qaa o2;have HF:=Qaa (HQ.out _ _ hM);obtain ⟨a1,k1,rfl⟩:=Qb0 o1;obtain ⟨a2,k2,rfl⟩:=Qb0 o2;have q0:w3.cell? ⟨w.heap.size+1+1,0,none⟩=some (.slice none 0 0):=by rw [cell_of_row _ _ 0 _ _ (0,0) R3];rfl
   have q1:w3.cell? ⟨w.heap.size+1+1,1,none⟩=some (.slice none 0 0):=by rw [cell_of_row _ _ 1 _ _ (0,0) R3];rfl
   have f0:=fzR 0 R3;have f1:=fzR 1 R3;clear hb3 o1 o2 R3 hM;go_wp2;refine bodyPost_ret (v:=.agg #[.slice a1 E'.length k1,.slice a2 R'.length k2]) (by simp [results,Tryz.results309,go_sem,q0,q1]) rfl ⟨_,E',R',rfl,HF.out,⟨_,_,rfl,?_,?_⟩,?_⟩
   ·refine QaI (B:=w2.heap.size) ?_ (by omega)
    repeat (refine ownsRow_setCell_below ?_ (by simp;omega) _)
    exact HO1.out
   ·refine QaI (B:=w2.heap.size) ?_ (by omega)
    repeat (refine ownsRow_setCell_below ?_ (by simp;omega) _)
    exact HO2.out
   ·exact (HT3.out.setCell (by simp <;> omega) _).setCell (by simp <;> omega) _
end Go.Proofs.YthchmdmncmioiaaGreatDoor
namespace Go.Proofs.YthchmdmncmioiaaGreatDoor
set_option linter.unusedVariables false
set_option linter.unusedSimpArgs false
open Go.ChangeShapes Go.WideShapes Go.ChangeAt Go.RowKit Go.PlainAid Go.Lib
set_option maxRecDepth 10000
def cS:List Int->Int
 | []=>0
 | r :: t=>2 ^ (55 - r).toNat+cS t
def cntH (E R:List Int):Int:=if hlB E R=true then (if R.length=0 then (E.length:Int) else Int.tdiv (Int.tdiv 3193052135805681664 (max (Int.tdiv (cS R) 32768) 1)) 1000) else 0
theorem ret_n {a b:Int} (h:a=b):Ending.returned (.int .i64 a)=.returned (.int .i64 b):=by rw [h]
theorem Qhn (a b:Int) (w:World) :
  Calls Tryz.prog 182 #[.int .i64 a,.int .i64 b] w fun e w'=>e=.returned (.int .i64 (max a b))/\w'=w:=by
 by_cases h:b<a
 ·have HE:Hid (a=max a b):=(by omega:a=max a b)
  go_enter Tryz.func182,Tryz.ntmps182;go_wp2;go_ret;exact ⟨ret_n HE.out,rfl⟩
 ·have HE:Hid (b=max a b):=(by omega:b=max a b)
  go_enter Tryz.func182,Tryz.ntmps182;go_wp2;go_ret;exact ⟨ret_n HE.out,rfl⟩
end Go.Proofs.YthchmdmncmioiaaGreatDoor
