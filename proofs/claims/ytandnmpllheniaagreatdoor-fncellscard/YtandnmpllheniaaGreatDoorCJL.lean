/-
 Parts.
-/
import Derived.Test.YtandnmpllheniaaGreatDoorCJK
import Derived.Laws.CopyOwn
set_option linter.all false
set_option maxHeartbeats 4000000
set_option maxRecDepth 10000
namespace Go.Proofs.YtandnmpllheniaaGreatDoor
open Go.ChangeShapes Go.WideShapes Go.ChangeAt Go.RowKit Go.PlainAid Go.Maps
def zer64:List Value:=(List.replicate 64 (0:Int)).map (Value.int .i64)
theorem QiN:zer64.length=64:=by simp [zer64]
theorem Qd5 {R:List Int} (h:R.length=0∨R.length=64):splice zer64 0 (R.map (Value.int .i64))=(Qcc R).map (Value.int .i64):=by
 unfold Qcc splice zer64;rcases h with h | h
 ·obtain rfl:=List.eq_nil_of_length_eq_zero h
  simp
 ·rw [if_neg (by omega)]
  simp [h]
theorem QkR:(Tryz.prog.info? 2).map (·.size)=some 1:=by kernel_rfl
theorem RowI.full {w:World} {B g:Nat} {R:List Int} (h:RowI w B g R):w.heap[g]?=some (.cells (R.map (Value.int .i64)).toArray 2 (0,0)):=by
 rcases h.2.2 with ⟨e,_⟩ | ⟨g',ab,aa,e,h1,h2,_,_,h5,h6⟩
 ·cases e
 ·cases e
  rw [h2]
  have hc:aa.toList=R.map (Value.int .i64):=by
   rw [<- h6,List.take_of_length_le (by simp [h5])]
  rw [<- hc]
theorem RowI.of {w:World} {B g:Nat} {R:List Int} (h:R.length=64) (hB:B<=g) (hg:w.heap[g]?=some (.cells (R.map (Value.int .i64)).toArray 2 (0,0))):RowI w B g R:=
 ⟨h,by simp [h],.inr ⟨g,64,_,rfl,hB,hg,Nat.le_refl _,by unfold maxLen;omega,by simp [h],List.take_of_length_le (by simp [h])⟩⟩
theorem RowI.le {w:World} {B B' g:Nat} {R:List Int} (h:RowI w B g R) (hB:B'<=B):RowI w B' g R:=⟨h.1,QaE h.2 hB⟩
theorem Qgm {w w2:World} {ao:Option Addr} {L:List Int} {K:Nat} (h:Qaq .i64 w ao L) (hb:Below w.heap.size w w2):0<(L.map (Value.int .i64)).length->∃ ad,ao=some ad/\∀ j v,(L.map (Value.int .i64))[j]?=some v->w2.cell? (ad.add j)=some v:=fun h0=>by
 obtain ⟨b,off,rfl,hc⟩:=h (by simpa using h0);refine ⟨_,rfl,fun j v hv=>?_⟩;rw [List.getElem?_map] at hv;obtain ⟨x,hx,rfl⟩:=Option.map_eq_some_iff.1 hv;have:=Qab hb (hc j x hx);by_cases e:j=0
 ·subst e;simpa [Addr.add] using this
 ·simpa [Addr.add,e] using this
theorem Qll {L:List Int} {k:Nat} (h:k<L.length):L[k]?=some (L.getD k 0):=by
 rw [List.getD_eq_getElem?_getD,List.getElem?_eq_getElem h];rfl
theorem QgP (w:World) (v:Value) (T:TypeId):(w.alloc (.cells #[v] T)).cell? ⟨w.heap.size,0,none⟩=some v:=by
 rw [cell_of_row _ w.heap.size 0 _ _ (0,0) (heap_alloc_new w (.cells #[v] T))];rfl
theorem QiI {H:Type} {w:World} {k:TypeId} {R:Value->Option (DataW H×List MemPlace)} {b n:Nat} {D:DataW H} (h:w.ownsMap Tryz.prog k R b n D) (o:Obj):(w.alloc o).ownsMap Tryz.prog k R b n D:=
 h.kept (row:=none) (World.grownBy_alloc w o none) (by simp)
theorem Qou {D:DataW Unit} {ss U:List Int} (h:Qmi D ss) (hp:U.Pairwise (· < ·)) (h1:∀ x,has D (.int .u64 x)=true↔x∈U):ss.length=U.length:=
 ((List.perm_ext_iff_of_nodup h.1 (hp.imp (fun h=>by omega))).2 (fun x=>(h.2 x).trans (h1 x))).length_eq
theorem Qck {w:World} {B s n:Nat} {e:TypeId} {v:Value} {xs:List Value} (h:w.ownsRow B e s v n xs):∃ ao c,v=.slice ao n c:=by
 rcases h.2 with ⟨rfl,rfl⟩ | ⟨g,c,_,rfl,_⟩
 ·exact ⟨none,0,rfl⟩
 ·exact ⟨_,c,rfl⟩
theorem Qfl (w:World) (T1 T2 T3:TypeId) (p n p' n' x y:Value) (w1:World) (hb:Below (((w.alloc (.cells #[p,n] T1)).alloc (.cells #[p',n'] T2)).alloc (.cells #[x,y] T3)).heap.size (((w.alloc (.cells #[p,n] T1)).alloc (.cells #[p',n'] T2)).alloc (.cells #[x,y] T3)) w1):Qbm w1 w.heap.size p n/\Qbm w1 (w.heap.size+1) p' n'/\w1.heap[w.heap.size+1+1]?=some (.cells #[x,y] T3 (0,0)):=by
 have k0:=QgI w T1 p n;have k1:=QgI (w.alloc (.cells #[p,n] T1)) T2 p' n';rw [World.size_alloc] at k1;have a1:∀ (W:World) o,Below W.heap.size W (W.alloc o):=fun W o=>(ZZb _ _).alloc (ZZa _) _;have h2:=ZZk ((w.alloc (.cells #[p,n] T1)).alloc (.cells #[p',n'] T2)) (.cells #[x,y] T3);simp only [World.size_alloc] at h2;exact ⟨Qbq (Qbq (Qbq k0 (a1 _ _)) (a1 _ _)) hb,Qbq (Qbq k1 (a1 _ _)) hb,(hb.block _ (by simp)).trans h2⟩
theorem Qf1 {w:World} {ea ra eb rb:Option Addr} {n1 c1 m1 d1 n2 c2 m2 d2:Nat} {E1 R1 E2 R2:List Int} (h1:E1.length=n1) (h2:R1.length=m1) (h3:E2.length=n2) (h4:R2.length=m2) (l1:n1<=40) (l2:m1=0∨m1=64) (l3:n2<=40) (l4:m2=0∨m2=64)
  (hE1:Qaq .u64 w ea E1) (hR1:Qaq .i64 w ra R1) (hE2:Qaq .u64 w eb E2) (hR2:Qaq .i64 w rb R2) (u1:∀ x∈E1,U64 x) (u2:∀ x∈E2,U64 x) :
  Calls Tryz.prog 313 #[.agg #[.slice ea n1 c1,.slice ra m1 d1],.agg #[.slice eb n2 c2,.slice rb m2 d2]] w fun e w'=>∃ v E R,e=.returned v/\Mg E1 R1 E2 R2 E R/\Qhr w' w.heap.size v E R/\Below w.heap.size w w':=by
 have ba:=Qaa hE1;have aQ:=Qaa hR1;have a5:=Qaa hE2;have aX:=Qaa hR2;have H1:=Qaa h1;have H2:=Qaa h2;have H3:=Qaa h3;have H4:=Qaa h4;have U1:=Qaa u1;have U2:=Qaa u2;have L2:=Qaa l2;have L4:=Qaa l4;have aN:Hid (∀ o1 o2 o3,Below w.heap.size w (((w.alloc o1).alloc o2).alloc o3)):=fun o1 o2 o3=>(((Below.refl _ _).alloc (Nat.le_refl _) _).alloc (by simp) _).alloc (by simp;omega) _;clear hE1 hR1 hE2 hR2 h1 h2 h3 h4 u1 u2;obtain ⟨i0,hi,aR,aU,aS⟩:=info_parts QdZ;go_enter Tryz.func313,Tryz.ntmps313;go_wp2_with fail;refine (QoR _ _ _ _ H1 H3 (by omega) (by omega) (Qaf ba (aN.out _ _ _)) (Qaf a5 (aN.out _ _ _)) U1 U2).mono ?_;rintro e w1 ⟨rfl,hM,aM⟩;obtain ⟨⟨x0,x1⟩,⟨y0,y1⟩,aA⟩:=Qfl w _ _ _ _ _ _ _ _ _ w1 aM;have a3:=aM.size;have aW:Below w.heap.size w w1:=(aN.out _ _ _).trans (aM.mono (by simp;omega));simp only [World.size_alloc] at a3 hM ⊢;have HM:=Qaa hM;have ak:=Qaa aW
 have aO:w.heap.size+1+1+1<w1.heap.size:=by
  obtain ⟨_,D,⟨es,aY,q,_⟩,_⟩:=hM;exact (ZZc.1 q).1
 obtain ⟨U,hU⟩:∃ U,U=QiR E1 E2:=⟨_,rfl⟩;rw [show Qce (Qce [] E1) E2=U from hU.symm] at HM;have HU:=Qaa hU;have aL:=Qaa aA;obtain ⟨u,eu⟩:∃ u,U.length=u:=⟨_,rfl⟩
 have a6:(Builtin.len_ #[320] 3 #[.map (some (w.heap.size+1+1+1))]).run Tryz.prog w1=.ok (.int .i64 u) w1:=by
  obtain ⟨_,D,q,_,q2,_⟩:=HM.out;have:=q.len Tryz.underlying320 3;rw [q2,eu] at this;exact this
 have az:=Qaa eu
 have hu:u<=80:=by
  have:=H1.out;have:=H3.out;have q:=QoO E1 E2;rw [<- HU.out,eu] at q;omega
 clear aM hM aW hU aA eu;by_cases q1:m1=0
 ·subst q1
  by_cases q2:m2=0
  ·subst q2
   by_cases q3:u<=40
   ·have aV:(u:Int)<=40:=by omega
    have a2:decide ((u:Int)<=40)=true:=ZZh aV;have ay:Hid (Mg E1 R1 E2 R2 U []):=(.inl ⟨H2,H4,by rw [<- HU.out,az.out];exact q3,HU,rfl⟩:Mg E1 R1 E2 R2 U []);obtain ⟨hp,D,aD,k1,k2,k3⟩:=HM.out;have HP:=Qaa hp;have aZ:=Qaa k1;have a0:=Qaa k2;have HD:=Qaa aD;clear hp aD k1 k2 k3;go_wp2_with fail;refine (Qru _ _).mono ?_;rintro e w2 ⟨rfl,rfl⟩;go_wp2_with fail;refine (Qoi w1.heap.size (w.heap.size+1+1+1) (n1+n2) D _ (by simp) (QgP _ _ _) (QiI HD _) (by rw [a0.out,az.out];exact q3) (fun ss hs=>by rw [Qou hs HP.out aZ.out,az.out];exact q3)).mono ?_;rintro e w3 ⟨v3,L,rfl,al,aC,ai⟩;obtain rfl:L=U:=Qix _ _ al.1 HP (fun x=>(al.2 x).trans (aZ.out x));have aP:Below w1.heap.size w1 w3:=((Below.refl _ _).alloc (Nat.le_refl _) _).trans (ai.mono (by simp));have ah:=(aP.block _ (by omega)).trans aL;have z0:w3.cell? ⟨w.heap.size+1+1,0,none⟩=some (.slice none 0 0):=by rw [cell_of_row _ _ 0 _ _ (0,0) ah];rfl
    have z1:w3.cell? ⟨w.heap.size+1+1,1,none⟩=some (.slice none 0 0):=by rw [cell_of_row _ _ 1 _ _ (0,0) ah];rfl
    have zf:∀ o,w3.frozen? ⟨w.heap.size+1+1,o,none⟩=false:=fun o=>frozen_of_row w3 _ o _ _ ah;have a8:Hid (Below w.heap.size w w3):=ak.out.trans (aP.mono (by omega));have aB:=Qaa aC;clear al aC ai aP ah;obtain ⟨ao,c3,rfl⟩:=Qck aB;go_wp2;refine bodyPost_ret (v:=.agg #[.slice ao L.length c3,.slice none 0 0]) (by simp [results,Tryz.results313,go_sem,z0,z1]) rfl ⟨_,_,_,rfl,ay,⟨_,_,rfl,?_,World.ownsRow_nil _ _ _ _⟩,?_⟩
    ·refine QaE (B:=w1.heap.size) ?_ (by omega)
     repeat (refine ownsRow_setCell_below ?_ (by simp;omega) _)
     exact QaE aB (by simp)
    ·exact (a8.out.setCell (by simp;omega) _).setCell (by simp;omega) _
   ·have aV:¬ (u:Int)<=40:=by omega
    have a2:decide ((u:Int)<=40)=false:=ZZg aV;have ay:Hid (∀ R,Laid (mxL (Qcc R1) R2 R2.length) (·∈U) R->Mg E1 R1 E2 R2 [] R):=(fun R hR=>.inr ⟨by rw [H2.out,H4.out,<- HU.out,az.out];omega,rfl,by rw [<- HU.out];exact hR⟩:∀ R,Laid (mxL (Qcc R1) R2 R2.length) (·∈U) R->Mg E1 R1 E2 R2 [] R);have an:Hid ((Qcc R1).length=64):=Qec (by rw [H2.out];exact L2.out)
    go_wp2_with (first
     | (at_make;refine wpList_make_full _ rfl _ _ 45 rfl w1.heap.size 2 i0 (.int .i64 0) 1 Tryz.underlying45 hi aR aU .i64 .i64 _ _ 64 rfl rfl rfl rfl (by rw [aS];omega) (by unfold maxLen;omega) (Nat.le_refl _) ?_;intro w2 ad ab;have av:Hid (w2.heap[w1.heap.size]?=some (.cells zer64.toArray 2 (0,0))):=RowI.full (R:=List.replicate 64 0) ⟨by simp,by rw [<- Qfj];exact ad⟩;have ae:Hid (Below w1.heap.size w1 w2):=(Below.refl _ _).grown ab (Nat.le_refl _) (fun k e=>by cases e);have aI:=Qab ae x1;have aF:=Qab ae y1;clear ad ab)
     | (refine wpList_copy_splice rfl _ _ 45 45 rfl 2 Tryz.underlying45 QkR _ _ _ _ _ _ rfl rfl w1.heap.size 0 _ 2 av (R1.map (Value.int .i64)) (by rw [List.length_map,H2.out];rfl) (fun h0=>⟨rfl,Qgm (K:=0) aQ (ak.out.trans (ae.out.mono ak.out.size)) h0⟩) (by rw [List.length_map,H2.out,QiN];omega) (by intro v hv;simp at hv;obtain ⟨x,_,rfl⟩:=hv;rfl) w1.heap.size w1 ae (Nat.le_refl _) ?_;intro w3 ac ai;have ap:=Qaa ai;have au:Hid (RowI w3 w1.heap.size w1.heap.size (Qcc R1)):=RowI.of an (Nat.le_refl _) (by rw [<- Qd5 (by rw [H2.out];exact L2.out)];exact ac.out);have aG:=Qab ai y1;clear ac ai av ae aI aF))
    go_loopw [41] (fun i wr=>∃ (k:Nat),k<=0/\i=.int .i64 k/\Hid (RowI wr w1.heap.size w1.heap.size (mxL (Qcc R1) R2 k))/\Hid (Below w1.heap.size w1 wr)) (fun i wr=>0 - (Go.RowKit.intOf i).toNat)
    case atStart=>exact ⟨0,Nat.zero_le _,rfl,by rw [Qci];exact au,ap⟩
    case round=>
     clear au ap aG;obtain ⟨k,hk,rfl,HO,aj⟩:=hrel;have ax:=Qaa (ak.out.trans (aj.out.mono ak.out.size));by_cases aw:k<0
     ·omega
     ·obtain rfl:k=0:=by omega
      have aK:=Qaa (HM.out.below aO aj);have aJ:=Qaa (HO.out.le (B':=w.heap.size+1+1+1) (by omega));have aH:Hid (wr.heap[w.heap.size+1+1]?=some (.cells #[.slice none 0 0,.slice none 0 0] 47 (0,0))):=(aj.out.block _ (by omega)).trans aL;clear aw hk;go_wp2_with fail;refine (QeD aJ aK (ZZa _) (by omega)).mono ?_;rintro e w4 ⟨⟨r4,rfl⟩,R,hL,ar,am⟩;have HF:Hid (Mg E1 R1 E2 R2 [] R):=ay.out R (by rw [H4.out];exact hL);have aa:=(am.block _ (by omega)).trans aH;have aE:Hid (Below w.heap.size w w4):=ax.out.trans (am.mono (by omega));have aq:=Qaa ar;have z0:w4.cell? ⟨w.heap.size+1+1,0,none⟩=some (.slice none 0 0):=by rw [cell_of_row _ _ 0 _ _ (0,0) aa];rfl
      have z1:w4.cell? ⟨w.heap.size+1+1,1,none⟩=some (.slice none 0 0):=by rw [cell_of_row _ _ 1 _ _ (0,0) aa];rfl
      have zf:∀ o,w4.frozen? ⟨w.heap.size+1+1,o,none⟩=false:=fun o=>frozen_of_row w4 _ o _ _ aa;clear hL ar am aa;go_wp2;refine bodyPost_ret (v:=.agg #[.slice none 0 0,.slice (some ⟨w1.heap.size,0,none⟩) 64 64]) (by simp [results,Tryz.results313,go_sem,z0,z1]) rfl ⟨_,[],R,rfl,HF,⟨_,_,rfl,World.ownsRow_nil _ _ _ _,?_⟩,?_⟩
      ·refine QaE (B:=w.heap.size+1+1+1) ?_ (by omega)
       repeat (refine ownsRow_setCell_below ?_ (by simp) _)
       rw [aq.out.1];exact aq.out.2
      ·exact (aE.out.setCell (by simp;omega) _).setCell (by simp;omega) _
  ·obtain rfl:m2=64:=by omega
   have ay:Hid (∀ R,Laid (mxL (Qcc R1) R2 R2.length) (·∈U) R->Mg E1 R1 E2 R2 [] R):=(fun R hR=>.inr ⟨by rw [H2.out,H4.out,<- HU.out,az.out];omega,rfl,by rw [<- HU.out];exact hR⟩:∀ R,Laid (mxL (Qcc R1) R2 R2.length) (·∈U) R->Mg E1 R1 E2 R2 [] R);have an:Hid ((Qcc R1).length=64):=Qec (by rw [H2.out];exact L2.out)
   go_wp2_with (first
    | (at_make;refine wpList_make_full _ rfl _ _ 45 rfl w1.heap.size 2 i0 (.int .i64 0) 1 Tryz.underlying45 hi aR aU .i64 .i64 _ _ 64 rfl rfl rfl rfl (by rw [aS];omega) (by unfold maxLen;omega) (Nat.le_refl _) ?_;intro w2 ad ab;have av:Hid (w2.heap[w1.heap.size]?=some (.cells zer64.toArray 2 (0,0))):=RowI.full (R:=List.replicate 64 0) ⟨by simp,by rw [<- Qfj];exact ad⟩;have ae:Hid (Below w1.heap.size w1 w2):=(Below.refl _ _).grown ab (Nat.le_refl _) (fun k e=>by cases e);have aI:=Qab ae x1;have aF:=Qab ae y1;clear ad ab)
    | (refine wpList_copy_splice rfl _ _ 45 45 rfl 2 Tryz.underlying45 QkR _ _ _ _ _ _ rfl rfl w1.heap.size 0 _ 2 av (R1.map (Value.int .i64)) (by rw [List.length_map,H2.out];rfl) (fun h0=>⟨rfl,Qgm (K:=0) aQ (ak.out.trans (ae.out.mono ak.out.size)) h0⟩) (by rw [List.length_map,H2.out,QiN];omega) (by intro v hv;simp at hv;obtain ⟨x,_,rfl⟩:=hv;rfl) w1.heap.size w1 ae (Nat.le_refl _) ?_;intro w3 ac ai;have ap:=Qaa ai;have au:Hid (RowI w3 w1.heap.size w1.heap.size (Qcc R1)):=RowI.of an (Nat.le_refl _) (by rw [<- Qd5 (by rw [H2.out];exact L2.out)];exact ac.out);have aG:=Qab ai y1;clear ac ai av ae aI aF))
   go_loopw [41] (fun i wr=>∃ (k:Nat),k<=64/\i=.int .i64 k/\Hid (RowI wr w1.heap.size w1.heap.size (mxL (Qcc R1) R2 k))/\Hid (Below w1.heap.size w1 wr)) (fun i wr=>64 - (Go.RowKit.intOf i).toNat)
   case atStart=>exact ⟨0,Nat.zero_le _,rfl,by rw [Qci];exact au,ap⟩
   case round=>
    clear au ap aG;obtain ⟨k,hk,rfl,HO,aj⟩:=hrel;have ax:=Qaa (ak.out.trans (aj.out.mono ak.out.size));by_cases aw:k<64
    ·have ag:k<64:=by have:=L4.out;omega
     obtain ⟨b,a1,e,af⟩:=aX.out (by have:=H4.out;omega);subst e;obtain ⟨y,hy⟩:∃ y,y=R2.getD k 0:=⟨_,rfl⟩;obtain ⟨v,hv⟩:∃ v,v=(mxL (Qcc R1) R2 k).getD k 0:=⟨_,rfl⟩;have a9:=Qab ax (af k y (by rw [hy];exact Qll (by rw [H4.out];exact aw)));have a4:=HO.out.cell ag hv;have a7:=HO.out.froz k
     have aT:Hid (∀ W:World,RowI W w1.heap.size w1.heap.size ((mxL (Qcc R1) R2 k).set k (max v y))->RowI W w1.heap.size w1.heap.size (mxL (Qcc R1) R2 (k+1))):=(fun W q=>by
      rw [hv,hy,Qex _ _ _ _ (by rw [an.out];exact ag),if_neg (Nat.lt_irrefl _),Qh7 _ _ _ (by rw [an.out];exact ag)] at q;exact q)
     clear af hy hv;go_wp2;go_roundw
     case rel=>exact ⟨k+1,by omega,by go_num,aT.out _ (HO.out.set k _),aj.out.setCell (ZZa _) _⟩
     case measure=>simp [zI];omega
    ·obtain rfl:k=64:=by omega
     have aK:=Qaa (HM.out.below aO aj);have aJ:=Qaa (HO.out.le (B':=w.heap.size+1+1+1) (by omega));have aH:Hid (wr.heap[w.heap.size+1+1]?=some (.cells #[.slice none 0 0,.slice none 0 0] 47 (0,0))):=(aj.out.block _ (by omega)).trans aL;clear aw hk;go_wp2_with fail;refine (QeD aJ aK (ZZa _) (by omega)).mono ?_;rintro e w4 ⟨⟨r4,rfl⟩,R,hL,ar,am⟩;have HF:Hid (Mg E1 R1 E2 R2 [] R):=ay.out R (by rw [H4.out];exact hL);have aa:=(am.block _ (by omega)).trans aH;have aE:Hid (Below w.heap.size w w4):=ax.out.trans (am.mono (by omega));have aq:=Qaa ar;have z0:w4.cell? ⟨w.heap.size+1+1,0,none⟩=some (.slice none 0 0):=by rw [cell_of_row _ _ 0 _ _ (0,0) aa];rfl
     have z1:w4.cell? ⟨w.heap.size+1+1,1,none⟩=some (.slice none 0 0):=by rw [cell_of_row _ _ 1 _ _ (0,0) aa];rfl
     have zf:∀ o,w4.frozen? ⟨w.heap.size+1+1,o,none⟩=false:=fun o=>frozen_of_row w4 _ o _ _ aa;clear hL ar am aa;go_wp2;refine bodyPost_ret (v:=.agg #[.slice none 0 0,.slice (some ⟨w1.heap.size,0,none⟩) 64 64]) (by simp [results,Tryz.results313,go_sem,z0,z1]) rfl ⟨_,[],R,rfl,HF,⟨_,_,rfl,World.ownsRow_nil _ _ _ _,?_⟩,?_⟩
     ·refine QaE (B:=w.heap.size+1+1+1) ?_ (by omega)
      repeat (refine ownsRow_setCell_below ?_ (by simp) _)
      rw [aq.out.1];exact aq.out.2
     ·exact (aE.out.setCell (by simp;omega) _).setCell (by simp;omega) _
 ·obtain rfl:m1=64:=by omega
  have ay:Hid (∀ R,Laid (mxL (Qcc R1) R2 R2.length) (·∈U) R->Mg E1 R1 E2 R2 [] R):=(fun R hR=>.inr ⟨by rw [H2.out,H4.out,<- HU.out,az.out];omega,rfl,by rw [<- HU.out];exact hR⟩:∀ R,Laid (mxL (Qcc R1) R2 R2.length) (·∈U) R->Mg E1 R1 E2 R2 [] R);have an:Hid ((Qcc R1).length=64):=Qec (by rw [H2.out];exact L2.out)
  go_wp2_with (first
   | (at_make;refine wpList_make_full _ rfl _ _ 45 rfl w1.heap.size 2 i0 (.int .i64 0) 1 Tryz.underlying45 hi aR aU .i64 .i64 _ _ 64 rfl rfl rfl rfl (by rw [aS];omega) (by unfold maxLen;omega) (Nat.le_refl _) ?_;intro w2 ad ab;have av:Hid (w2.heap[w1.heap.size]?=some (.cells zer64.toArray 2 (0,0))):=RowI.full (R:=List.replicate 64 0) ⟨by simp,by rw [<- Qfj];exact ad⟩;have ae:Hid (Below w1.heap.size w1 w2):=(Below.refl _ _).grown ab (Nat.le_refl _) (fun k e=>by cases e);have aI:=Qab ae x1;have aF:=Qab ae y1;clear ad ab)
   | (refine wpList_copy_splice rfl _ _ 45 45 rfl 2 Tryz.underlying45 QkR _ _ _ _ _ _ rfl rfl w1.heap.size 0 _ 2 av (R1.map (Value.int .i64)) (by rw [List.length_map,H2.out];rfl) (fun h0=>⟨rfl,Qgm (K:=0) aQ (ak.out.trans (ae.out.mono ak.out.size)) h0⟩) (by rw [List.length_map,H2.out,QiN];omega) (by intro v hv;simp at hv;obtain ⟨x,_,rfl⟩:=hv;rfl) w1.heap.size w1 ae (Nat.le_refl _) ?_;intro w3 ac ai;have ap:=Qaa ai;have au:Hid (RowI w3 w1.heap.size w1.heap.size (Qcc R1)):=RowI.of an (Nat.le_refl _) (by rw [<- Qd5 (by rw [H2.out];exact L2.out)];exact ac.out);have aG:=Qab ai y1;clear ac ai av ae aI aF))
  go_loopw [41] (fun i wr=>∃ (k:Nat),k<=m2/\i=.int .i64 k/\Hid (RowI wr w1.heap.size w1.heap.size (mxL (Qcc R1) R2 k))/\Hid (Below w1.heap.size w1 wr)) (fun i wr=>m2 - (Go.RowKit.intOf i).toNat)
  case atStart=>exact ⟨0,Nat.zero_le _,rfl,by rw [Qci];exact au,ap⟩
  case round=>
   clear au ap aG;obtain ⟨k,hk,rfl,HO,aj⟩:=hrel;have ax:=Qaa (ak.out.trans (aj.out.mono ak.out.size));by_cases aw:k<m2
   ·have ag:k<64:=by have:=L4.out;omega
    obtain ⟨b,a1,e,af⟩:=aX.out (by have:=H4.out;omega);subst e;obtain ⟨y,hy⟩:∃ y,y=R2.getD k 0:=⟨_,rfl⟩;obtain ⟨v,hv⟩:∃ v,v=(mxL (Qcc R1) R2 k).getD k 0:=⟨_,rfl⟩;have a9:=Qab ax (af k y (by rw [hy];exact Qll (by rw [H4.out];exact aw)));have a4:=HO.out.cell ag hv;have a7:=HO.out.froz k
    have aT:Hid (∀ W:World,RowI W w1.heap.size w1.heap.size ((mxL (Qcc R1) R2 k).set k (max v y))->RowI W w1.heap.size w1.heap.size (mxL (Qcc R1) R2 (k+1))):=(fun W q=>by
     rw [hv,hy,Qex _ _ _ _ (by rw [an.out];exact ag),if_neg (Nat.lt_irrefl _),Qh7 _ _ _ (by rw [an.out];exact ag)] at q;exact q)
    clear af hy hv;go_wp2;go_roundw
    case rel=>exact ⟨k+1,by omega,by go_num,aT.out _ (HO.out.set k _),aj.out.setCell (ZZa _) _⟩
    case measure=>simp [zI];omega
   ·obtain rfl:k=m2:=by omega
    have aK:=Qaa (HM.out.below aO aj);have aJ:=Qaa (HO.out.le (B':=w.heap.size+1+1+1) (by omega));have aH:Hid (wr.heap[w.heap.size+1+1]?=some (.cells #[.slice none 0 0,.slice none 0 0] 47 (0,0))):=(aj.out.block _ (by omega)).trans aL;clear aw hk;go_wp2_with fail;refine (QeD aJ aK (ZZa _) (by omega)).mono ?_;rintro e w4 ⟨⟨r4,rfl⟩,R,hL,ar,am⟩;have HF:Hid (Mg E1 R1 E2 R2 [] R):=ay.out R (by rw [H4.out];exact hL);have aa:=(am.block _ (by omega)).trans aH;have aE:Hid (Below w.heap.size w w4):=ax.out.trans (am.mono (by omega));have aq:=Qaa ar;have z0:w4.cell? ⟨w.heap.size+1+1,0,none⟩=some (.slice none 0 0):=by rw [cell_of_row _ _ 0 _ _ (0,0) aa];rfl
    have z1:w4.cell? ⟨w.heap.size+1+1,1,none⟩=some (.slice none 0 0):=by rw [cell_of_row _ _ 1 _ _ (0,0) aa];rfl
    have zf:∀ o,w4.frozen? ⟨w.heap.size+1+1,o,none⟩=false:=fun o=>frozen_of_row w4 _ o _ _ aa;clear hL ar am aa;go_wp2;refine bodyPost_ret (v:=.agg #[.slice none 0 0,.slice (some ⟨w1.heap.size,0,none⟩) 64 64]) (by simp [results,Tryz.results313,go_sem,z0,z1]) rfl ⟨_,[],R,rfl,HF,⟨_,_,rfl,World.ownsRow_nil _ _ _ _,?_⟩,?_⟩
    ·refine QaE (B:=w.heap.size+1+1+1) ?_ (by omega)
     repeat (refine ownsRow_setCell_below ?_ (by simp) _)
     rw [aq.out.1];exact aq.out.2
    ·exact (aE.out.setCell (by simp;omega) _).setCell (by simp;omega) _
def Qmw (ao:Option Addr):Prop:=ao=none∨∃ b off,ao=some ⟨b,off,none⟩
theorem Qig {kd:IntKind} {w:World} {L:List Int} (h:Qaq kd w none L):L=[]:=by
 cases L with
 | nil=>rfl
 | cons x r=>obtain ⟨b,off,e,_⟩:=h (by simp);cases e
theorem Qjx {kd:IntKind} {w:World} {b off:Nat} {L:List Int} (h:Qaq kd w (some ⟨b,off,none⟩) L):∀ j u,(L.map (Value.int kd))[j]?=some u->w.cell? ⟨b,off+j,none⟩=some u:=fun j u hu=>by
 rw [List.getElem?_map] at hu;obtain ⟨x,hx,rfl⟩:=Option.map_eq_some_iff.1 hu;obtain ⟨b',off',e,hc⟩:=h (by have:=(ZZd.1 hx).1;omega)
 cases e
 exact hc j x hx
theorem sizeU (w:World):(Go.sizeOf 26).run Tryz.prog w=.ok 1 w:=Tryz.sizeOf26 w
theorem sizeI (w:World):(Go.sizeOf 2).run Tryz.prog w=.ok 1 w:=Tryz.sizeOf2 w
theorem QpA {w:World} {ao:Option Addr} {n c:Nat} {L:List Int} (hn:L.length=n) (hl:n<=1048576) (hf:Qmw ao) (hA:Qaq .u64 w ao L) :
  Calls Tryz.prog 162 #[.slice ao n c] w fun e w'=>∃ v,e=.returned v/\w'.ownsRow w.heap.size 26 1 v L.length (L.map (Value.int .u64))/\Below w.heap.size w w':=by
 obtain ⟨i0,hi,aa,ab,ac⟩:=info_parts Qdo;rcases hf with rfl | ⟨b,ad,rfl⟩
 ·obtain rfl:=Qig hA
  refine (Tryz.slices_Clone_nil_f162 _ _ _).mono ?_;rintro e w' ⟨rfl,rfl⟩;exact ⟨_,rfl,World.ownsRow_nil _ _ _ _,ZZb _ _⟩
 ·refine (Tryz.slices_Clone_f162 i0 _ 1 8 hi aa ab ac rfl (by omega) sizeU b ad n c (L.map (Value.int .u64)) w (by simp [hn]) (by unfold maxLen;omega) (by omega) (Qjx hA) (by intro v hv;simp at hv;obtain ⟨x,_,rfl⟩:=hv;rfl)).mono ?_
  rintro e w' ⟨v,rfl,ho,_,hb⟩;exact ⟨v,rfl,by rw [hn];exact ho,hb⟩
theorem Qo5 {w:World} {ao:Option Addr} {n c:Nat} {L:List Int} (hn:L.length=n) (hl:n<=1048576) (hf:Qmw ao) (hA:Qaq .i64 w ao L) :
  Calls Tryz.prog 163 #[.slice ao n c] w fun e w'=>∃ v,e=.returned v/\w'.ownsRow w.heap.size 2 1 v L.length (L.map (Value.int .i64))/\Below w.heap.size w w':=by
 obtain ⟨i0,hi,aa,ab,ac⟩:=info_parts QdZ;rcases hf with rfl | ⟨b,ad,rfl⟩
 ·obtain rfl:=Qig hA
  refine (Tryz.slices_Clone_nil_f163 _ _ _).mono ?_;rintro e w' ⟨rfl,rfl⟩;exact ⟨_,rfl,World.ownsRow_nil _ _ _ _,ZZb _ _⟩
 ·refine (Tryz.slices_Clone_f163 i0 _ 1 8 hi aa ab ac rfl (by omega) sizeI b ad n c (L.map (Value.int .i64)) w (by simp [hn]) (by unfold maxLen;omega) (by omega) (Qjx hA) (by intro v hv;simp at hv;obtain ⟨x,_,rfl⟩:=hv;rfl)).mono ?_
  rintro e w' ⟨v,rfl,ho,_,hb⟩;exact ⟨v,rfl,by rw [hn];exact ho,hb⟩
theorem Qgg (w:World) (T1 T3:TypeId) (p n x y:Value) (w1:World) (hb:Below ((w.alloc (.cells #[p,n] T1)).alloc (.cells #[x,y] T3)).heap.size ((w.alloc (.cells #[p,n] T1)).alloc (.cells #[x,y] T3)) w1):Qbm w1 w.heap.size p n/\w1.heap[w.heap.size+1]?=some (.cells #[x,y] T3 (0,0)):=by
 have k0:=QgI w T1 p n;have a1:∀ (W:World) o,Below W.heap.size W (W.alloc o):=fun W o=>(ZZb _ _).alloc (ZZa _) _;have h2:=ZZk (w.alloc (.cells #[p,n] T1)) (.cells #[x,y] T3);simp only [World.size_alloc] at h2;exact ⟨Qbq (Qbq k0 (a1 _ _)) hb,(hb.block _ (by simp)).trans h2⟩
theorem QjE {w:World} {ea ra:Option Addr} {n c m d:Nat} {E R:List Int} (h1:E.length=n) (h2:R.length=m) (l1:n<=1048576) (l2:m<=1048576) (f1:Qmw ea) (f2:Qmw ra) (hE:Qaq .u64 w ea E) (hR:Qaq .i64 w ra R) :
  Calls Tryz.prog 127 #[.agg #[.slice ea n c,.slice ra m d]] w fun e w'=>∃ v,e=.returned v/\Qhr w' w.heap.size v E R/\Below w.heap.size w w':=by
 have HE:=Qaa hE;have HR:=Qaa hR;have F1:=Qaa f1;have F2:=Qaa f2;have H1:=Qaa h1;have H2:=Qaa h2;have al:Hid (∀ o1 o2,Below w.heap.size w ((w.alloc o1).alloc o2)):=fun o1 o2=>((Below.refl _ _).alloc (Nat.le_refl _) _).alloc (by simp) _;clear hE hR f1 f2 h1 h2;go_enter Tryz.func127,Tryz.ntmps127;go_wp2_with fail;generalize hW0:(w.alloc (Obj.cells #[.slice ea n c,.slice ra m d] 47)).alloc (Obj.cells #[.slice none 0 0,.slice none 0 0] 47)=W0;have T0:Below w.heap.size w W0:=by rw [<- hW0];exact al.out _ _
 have KR:=Qgg w 47 47 (.slice ea n c) (.slice ra m d) (.slice none 0 0) (.slice none 0 0) W0 (by rw [hW0];exact Below.refl _ _);have an:W0.heap.size=w.heap.size+2:=by rw [<- hW0];simp
 clear hW0;have ac:=Qaa T0;have hC:∀ W,Below W0.heap.size W0 W->Qbm W w.heap.size (.slice ea n c) (.slice ra m d)/\W.heap[w.heap.size+1]?=some (.cells #[.slice none 0 0,.slice none 0 0] 47 (0,0)):=fun W hW=>⟨Qbq KR.1 hW,by rw [hW.block _ (by omega)];exact KR.2⟩;have HC:=Qaa hC;clear T0 hC KR;have aa:(fun W=>Below W0.heap.size W0 W) W0.drew:=(ZZb _ _).drew;refine Qaj (fun W=>Below W0.heap.size W0 W) 7 (by kernel_rfl) ?_;refine tkL 0 (.pointer (some ⟨w.heap.size,0,none⟩)) aa (fun W hW=>?_) ?_
 ·obtain ⟨⟨x0,x1⟩,_⟩:=HC.out W hW
  go_simp
 refine tkL 1 (.slice ea n c) aa (fun W hW=>?_) ?_
 ·obtain ⟨⟨x0,x1⟩,_⟩:=HC.out W hW
  go_simp
 refine tkL 3 (.pointer (some ⟨w.heap.size,1,none⟩)) aa (fun W hW=>?_) ?_
 ·obtain ⟨⟨x0,x1⟩,_⟩:=HC.out W hW
  go_simp
 simp only [sX];refine tkL 4 (.slice ra m d) aa (fun W hW=>?_) ?_
 ·obtain ⟨⟨x0,x1⟩,_⟩:=HC.out W hW
  go_simp
 simp only [sX];refine onE 2 fun K hK=>?_;go_simp;refine (QpA H1 l1 F1 (Qaf HE (ac.out.trans ((ZZb _ _).drew.mono ac.out.size)))).mono ?_;rintro e w1 ⟨v1,rfl,af,aj⟩;dsimp only;have ad:=Qaa ((aa:Below W0.heap.size W0 W0.drew).trans aj);have ao:=Qaa (QaE (B':=W0.heap.size) af (by show W0.heap.size<=W0.heap.size;omega));obtain ⟨ak,c1,rfl⟩:=Qck af;clear af aj;refine gK hK ad.out ?_
 try simp only [sX]
 refine onE 5 fun K hK=>?_;go_simp;refine (Qo5 H2 l2 F2 (Qaf HR (Qac ac ad))).mono ?_;rintro e w2 ⟨v2,rfl,ah,ag⟩;dsimp only;have ab:=Qaa (Qac ad ag);have am:=Qaa (QaE (B':=W0.heap.size) ah ad.out.size);have ae:=Qaa (QaU ao ag);obtain ⟨ai,c2,rfl⟩:=Qck ah;clear ah ag;refine gK hK ab.out ?_
 try simp only [sX]
 refine tkS 6 (.agg #[.slice ak E.length c1,.slice ai R.length c2]) ab ?_;simp only [sX];have R2:=(HC.out _ ab).2;have q0:w2.cell? ⟨w.heap.size+1,0,none⟩=some (.slice none 0 0):=by rw [cell_of_row _ _ 0 _ _ (0,0) R2];rfl
 have q1:w2.cell? ⟨w.heap.size+1,1,none⟩=some (.slice none 0 0):=by rw [cell_of_row _ _ 1 _ _ (0,0) R2];rfl
 have f0:=fzR 0 R2;have f1:=fzR 1 R2;refine onE 7 fun K hK=>?_;go_simp;refine hK.out _ _ (fun h=>absurd rfl h) ?_
 try simp only [sX]
 refine dnE ?_ _;go_wp2;refine bodyPost_ret (v:=.agg #[.slice ak E.length c1,.slice ai R.length c2]) (by simp [results,Tryz.results127,go_sem,q0,q1]) rfl ⟨_,rfl,⟨_,_,rfl,?_,?_⟩,?_⟩
 ·refine QaE (B:=W0.heap.size) ?_ (by omega)
  repeat (refine ownsRow_setCell_below ?_ (by simp;omega) _)
  exact ae.out
 ·refine QaE (B:=W0.heap.size) ?_ (by omega)
  repeat (refine ownsRow_setCell_below ?_ (by simp;omega) _)
  exact am.out
 ·repeat (refine Below.setCell ?_ (by simp <;> omega) _)
  exact Qac ac ab
def QoA (E R:List Int) (x:Int) (E' R':List Int):Prop:=if hlB E R=true then Mg E R [x] [] E' R' else E'=E/\R'=R
theorem Qdk {E R:List Int} (h:hlB E R=true):E.length<=40/\(R.length=0∨R.length=64):=by
 unfold hlB at h
 split at h
 ·rename_i h0
  unfold exB at h;simp only [Bool.and_eq_true,decide_eq_true_eq] at h;exact ⟨h.1,.inl h0⟩
 ·unfold Qhj at h
  simp only [Bool.and_eq_true,decide_eq_true_eq] at h;exact ⟨by omega,.inr h.2.1⟩
theorem Ql3 {w:World} {ea ra:Option Addr} {n c m d:Nat} {E R:List Int} (x:Int) (h1:E.length=n) (h2:R.length=m) (l1:n<=1048576) (l2:m<=1048576) (f1:Qmw ea) (f2:Qmw ra) (hE:Qaq .u64 w ea E) (hR:Qaq .i64 w ra R) (u1:∀ y∈E,U64 y) (ux:U64 x) :
  Calls Tryz.prog 310 #[.agg #[.slice ea n c,.slice ra m d],.int .u64 x] w fun e w'=>∃ v E' R',e=.returned v/\QoA E R x E' R'/\Qhr w' w.heap.size v E' R'/\Below w.heap.size w w':=by
 have HE:=Qaa hE;have HR:=Qaa hR;have F1:=Qaa f1;have F2:=Qaa f2;have H1:=Qaa h1;have H2:=Qaa h2;have U1:=Qaa u1;have UX:=Qaa ux;have af:Hid (∀ o1 o2,Below w.heap.size w ((w.alloc o1).alloc o2)):=fun o1 o2=>((Below.refl _ _).alloc (Nat.le_refl _) _).alloc (by simp) _;clear hE hR f1 f2 h1 h2 u1 ux;go_enter Tryz.func310,Tryz.ntmps310;go_wp2_with fail;refine (QcI H1 H2 l1 l2 (Qaf HE (af.out _ _)) (Qaf HR (af.out _ _))).mono ?_;rintro e w1 ⟨rfl,ad⟩;obtain ⟨⟨x0,x1⟩,ac⟩:=Qgg w _ _ _ _ _ _ w1 ad;have an:=ad.size;have aj:Below w.heap.size w w1:=(af.out _ _).trans (ad.mono (by simp;omega));simp only [World.size_alloc] at an;have aa:=Qaa aj;have ak:=Qaa ac;clear ad aj ac
 cases hq:hlB E R with
 | false=>
  have HQ:Hid (QoA E R x E R):=(by unfold QoA;rw [if_neg (by rw [hq];simp)];exact ⟨rfl,rfl⟩:QoA E R x E R);go_wp2_with fail;refine (QjE H1 H2 l1 l2 F1 F2 (Qaf HE aa) (Qaf HR aa)).mono ?_;rintro e w2 ⟨v2,rfl,⟨p,q,rfl,o1,o2⟩,ab⟩;have R2:=(ab.block _ (by omega)).trans ak;have ah:=Qaa (Qac aa ab);have ai:=Qaa o1;have ag:=Qaa o2;obtain ⟨a1,c1,rfl⟩:=Qck o1;obtain ⟨a2,c2,rfl⟩:=Qck o2;have q0:w2.cell? ⟨w.heap.size+1,0,none⟩=some (.slice none 0 0):=by rw [cell_of_row _ _ 0 _ _ (0,0) R2];rfl
  have q1:w2.cell? ⟨w.heap.size+1,1,none⟩=some (.slice none 0 0):=by rw [cell_of_row _ _ 1 _ _ (0,0) R2];rfl
  have f0:=fzR 0 R2;have f1:=fzR 1 R2;clear ab o1 o2 R2;go_wp2;refine bodyPost_ret (v:=.agg #[.slice a1 E.length c1,.slice a2 R.length c2]) (by simp [results,Tryz.results310,go_sem,q0,q1]) rfl ⟨_,E,R,rfl,HQ,⟨_,_,rfl,?_,?_⟩,?_⟩
  ·refine QaE (B:=w1.heap.size) ?_ (by omega)
   repeat (refine ownsRow_setCell_below ?_ (by simp;omega) _)
   exact ai.out
  ·refine QaE (B:=w1.heap.size) ?_ (by omega)
   repeat (refine ownsRow_setCell_below ?_ (by simp;omega) _)
   exact ag.out
  ·exact (ah.out.setCell (by simp) _).setCell (by simp) _
 | true=>
  obtain ⟨k1,k2⟩:=Qdk hq;rw [H1.out] at k1;rw [H2.out] at k2;have HQ:Hid (∀ E' R',Mg E R [x] [] E' R'->QoA E R x E' R'):=(fun E' R' h=>by unfold QoA;rw [if_pos hq];exact h);have al:Below w1.heap.size w1 (w1.alloc (.cells #[.int .u64 x] 26)):=(ZZb _ _).alloc (ZZa _) _;have ae:=Qaa al
  have am:Hid (Qaq .u64 (w1.alloc (.cells #[.int .u64 x] 26)) (some ⟨w1.heap.size,0,none⟩) [x]):=(fun _=>⟨w1.heap.size,0,rfl,fun i y hy=>by
   cases i with
   | zero=>simp at hy;subst hy;exact QgP _ _ _
   | succ i=>simp at hy⟩)
  clear al;go_wp2_with fail;refine (Qf1 (R2:=[]) H1 H2 (E2:=[x]) rfl rfl k1 k2 (by simp) (.inl rfl) (Qaf HE (aa.out.trans (ae.out.mono aa.out.size))) (Qaf HR (aa.out.trans (ae.out.mono aa.out.size))) am (fun h=>by simp at h) U1 (by intro y hy;simp at hy;subst hy;exact UX.out)).mono ?_;rintro e w2 ⟨v2,E',R',rfl,hM,⟨p,q,rfl,o1,o2⟩,ab⟩;have R2:=((ae.out.trans (ab.mono (by simp))).block _ (by omega)).trans ak;have ah:=Qaa (aa.out.trans ((ae.out.trans (ab.mono (by simp))).mono aa.out.size));have ai:=Qaa o1;have ag:=Qaa o2;have HF:=Qaa (HQ.out _ _ hM);obtain ⟨a1,c1,rfl⟩:=Qck o1;obtain ⟨a2,c2,rfl⟩:=Qck o2;have q0:w2.cell? ⟨w.heap.size+1,0,none⟩=some (.slice none 0 0):=by rw [cell_of_row _ _ 0 _ _ (0,0) R2];rfl
  have q1:w2.cell? ⟨w.heap.size+1,1,none⟩=some (.slice none 0 0):=by rw [cell_of_row _ _ 1 _ _ (0,0) R2];rfl
  have f0:=fzR 0 R2;have f1:=fzR 1 R2;clear ab o1 o2 R2 hM;go_wp2;refine bodyPost_ret (v:=.agg #[.slice a1 E'.length c1,.slice a2 R'.length c2]) (by simp [results,Tryz.results310,go_sem,q0,q1]) rfl ⟨_,E',R',rfl,HF,⟨_,_,rfl,?_,?_⟩,?_⟩
  ·refine QaE (B:=w1.heap.size) ?_ (by omega)
   repeat (refine ownsRow_setCell_below ?_ (by simp;omega) _)
   exact QaE ai (by simp)
  ·refine QaE (B:=w1.heap.size) ?_ (by omega)
   repeat (refine ownsRow_setCell_below ?_ (by simp;omega) _)
   exact QaE ag (by simp)
  ·exact (ah.out.setCell (by simp <;> omega) _).setCell (by simp <;> omega) _
def QeP (E1 R1 E2 R2 E R:List Int):Prop:=if hlB E1 R1=true/\hlB E2 R2=true then Mg E1 R1 E2 R2 E R else E=[]/\R=[]
theorem Qjm {w:World} {ea ra eb rb:Option Addr} {n1 c1 m1 d1 n2 c2 m2 d2:Nat} {E1 R1 E2 R2:List Int} (h1:E1.length=n1) (h2:R1.length=m1) (h3:E2.length=n2) (h4:R2.length=m2) (l1:n1<=1048576) (l2:m1<=1048576) (l3:n2<=1048576) (l4:m2<=1048576)
  (hE1:Qaq .u64 w ea E1) (hR1:Qaq .i64 w ra R1) (hE2:Qaq .u64 w eb E2) (hR2:Qaq .i64 w rb R2) (u1:∀ x∈E1,U64 x) (u2:∀ x∈E2,U64 x) :
  Calls Tryz.prog 309 #[.agg #[.slice ea n1 c1,.slice ra m1 d1],.agg #[.slice eb n2 c2,.slice rb m2 d2]] w fun e w'=>∃ v E R,e=.returned v/\QeP E1 R1 E2 R2 E R/\Qhr w' w.heap.size v E R/\Below w.heap.size w w':=by
 have an:=Qaa hE1;have al:=Qaa hR1;have am:=Qaa hE2;have ak:=Qaa hR2;have H1:=Qaa h1;have H2:=Qaa h2;have H3:=Qaa h3;have H4:=Qaa h4;have U1:=Qaa u1;have U2:=Qaa u2;have ah:Hid (∀ o1 o2 o3,Below w.heap.size w (((w.alloc o1).alloc o2).alloc o3)):=fun o1 o2 o3=>(((Below.refl _ _).alloc (Nat.le_refl _) _).alloc (by simp) _).alloc (by simp;omega) _;clear hE1 hR1 hE2 hR2 h1 h2 h3 h4 u1 u2;go_enter Tryz.func309,Tryz.ntmps309;go_wp2_with fail;refine (QcI H1 H2 l1 l2 (Qaf an (ah.out _ _ _)) (Qaf al (ah.out _ _ _))).mono ?_;rintro e w1 ⟨rfl,af⟩;obtain ⟨K1,K2,ae⟩:=Qfl w _ _ _ _ _ _ _ _ _ w1 af;have aw:=af.size;have aj:Below w.heap.size w w1:=(ah.out _ _ _).trans (af.mono (by simp;omega));simp only [World.size_alloc] at aw;have ag:=Qaa aj;have ad:=Qaa ae;have au:=Qaa K1;have aq:=Qaa K2;obtain ⟨x0,x1⟩:=K1;obtain ⟨y0,y1⟩:=K2;clear af aj ae
 cases hq:hlB E1 R1 with
 | false=>
  have HQ:Hid (QeP E1 R1 E2 R2 [] []):=(by unfold QeP;rw [if_neg (by rw [hq];simp)];exact ⟨rfl,rfl⟩:QeP E1 R1 E2 R2 [] []);have q0:w1.cell? ⟨w.heap.size+1+1,0,none⟩=some (.slice none 0 0):=by rw [cell_of_row _ _ 0 _ _ (0,0) ad.out];rfl
  have q1:w1.cell? ⟨w.heap.size+1+1,1,none⟩=some (.slice none 0 0):=by rw [cell_of_row _ _ 1 _ _ (0,0) ad.out];rfl
  have f0:=fzR 0 ad;have f1:=fzR 1 ad;go_wp2;refine bodyPost_ret (v:=.agg #[.slice none 0 0,.slice none 0 0]) (by simp [results,Tryz.results309,go_sem,q0,q1]) rfl ⟨_,[],[],rfl,HQ,⟨_,_,rfl,World.ownsRow_nil _ _ _ _,World.ownsRow_nil _ _ _ _⟩,?_⟩;exact (ag.out.setCell (by simp <;> omega) _).setCell (by simp <;> omega) _
 | true=>
  go_wp2_with fail;refine (QcI H3 H4 l3 l4 (Qaf am ag) (Qaf ak ag)).mono ?_;rintro e w2 ⟨rfl,ac⟩;clear x0 x1 y0 y1;obtain ⟨x0,x1⟩:=Qbq au ac;obtain ⟨y0,y1⟩:=Qbq aq ac;have ab:=Qaa (Qac ag ac);have aa:=Qaa ((ac.block _ (by omega)).trans ad);have ay:=ac.size;clear ac
  cases hq2:hlB E2 R2 with
  | false=>
   have HQ:Hid (QeP E1 R1 E2 R2 [] []):=(by unfold QeP;rw [if_neg (by rw [hq2];simp)];exact ⟨rfl,rfl⟩:QeP E1 R1 E2 R2 [] []);have q0:w2.cell? ⟨w.heap.size+1+1,0,none⟩=some (.slice none 0 0):=by rw [cell_of_row _ _ 0 _ _ (0,0) aa.out];rfl
   have q1:w2.cell? ⟨w.heap.size+1+1,1,none⟩=some (.slice none 0 0):=by rw [cell_of_row _ _ 1 _ _ (0,0) aa.out];rfl
   have f0:=fzR 0 aa;have f1:=fzR 1 aa;go_wp2;refine bodyPost_ret (v:=.agg #[.slice none 0 0,.slice none 0 0]) (by simp [results,Tryz.results309,go_sem,q0,q1]) rfl ⟨_,[],[],rfl,HQ,⟨_,_,rfl,World.ownsRow_nil _ _ _ _,World.ownsRow_nil _ _ _ _⟩,?_⟩;exact (ab.out.setCell (by simp <;> omega) _).setCell (by simp <;> omega) _
  | true=>
   obtain ⟨k1,k2⟩:=Qdk hq;obtain ⟨k3,k4⟩:=Qdk hq2;rw [H1.out] at k1;rw [H2.out] at k2;rw [H3.out] at k3;rw [H4.out] at k4;have HQ:Hid (∀ E' R',Mg E1 R1 E2 R2 E' R'->QeP E1 R1 E2 R2 E' R'):=(fun E' R' h=>by unfold QeP;rw [if_pos ⟨hq,hq2⟩];exact h);have ao:=Qaa k2;have ar:=Qaa k4;clear k2 k4;go_wp2_with fail;refine (Qf1 H1 H2 H3 H4 k1 ao k3 ar (Qaf an ab) (Qaf al ab) (Qaf am ab) (Qaf ak ab) U1 U2).mono ?_;rintro e w3 ⟨v3,E',R',rfl,hM,⟨p,q,rfl,o1,o2⟩,ai⟩;have R3:=(ai.block _ (by omega)).trans aa;have ax:=Qaa (ab.out.trans (ai.mono ab.out.size));have av:=Qaa o1;have ap:=Qaa o2;have HF:=Qaa (HQ.out _ _ hM);obtain ⟨a1,k1,rfl⟩:=Qck o1;obtain ⟨a2,k2,rfl⟩:=Qck o2;have q0:w3.cell? ⟨w.heap.size+1+1,0,none⟩=some (.slice none 0 0):=by rw [cell_of_row _ _ 0 _ _ (0,0) R3];rfl
   have q1:w3.cell? ⟨w.heap.size+1+1,1,none⟩=some (.slice none 0 0):=by rw [cell_of_row _ _ 1 _ _ (0,0) R3];rfl
   have f0:=fzR 0 R3;have f1:=fzR 1 R3;clear ai o1 o2 R3 hM;go_wp2;refine bodyPost_ret (v:=.agg #[.slice a1 E'.length k1,.slice a2 R'.length k2]) (by simp [results,Tryz.results309,go_sem,q0,q1]) rfl ⟨_,E',R',rfl,HF,⟨_,_,rfl,?_,?_⟩,?_⟩
   ·refine QaE (B:=w2.heap.size) ?_ (by omega)
    repeat (refine ownsRow_setCell_below ?_ (by simp;omega) _)
    exact av.out
   ·refine QaE (B:=w2.heap.size) ?_ (by omega)
    repeat (refine ownsRow_setCell_below ?_ (by simp;omega) _)
    exact ap.out
   ·exact (ax.out.setCell (by simp <;> omega) _).setCell (by simp <;> omega) _
end Go.Proofs.YtandnmpllheniaaGreatDoor
namespace Go.Proofs.YtandnmpllheniaaGreatDoor
open Go.ChangeShapes Go.WideShapes Go.ChangeAt Go.RowKit Go.PlainAid Go.Lib
def cS:List Int->Int
 | []=>0
 | r :: t=>2 ^ (55 - r).toNat+cS t
def cntH (E R:List Int):Int:=if hlB E R=true then (if R.length=0 then (E.length:Int) else Int.tdiv (Int.tdiv 3193052135805681664 (max (Int.tdiv (cS R) 32768) 1)) 1000) else 0
theorem ret_n {a b:Int} (h:a=b):Ending.returned (.int .i64 a)=.returned (.int .i64 b):=by rw [h]
theorem Qd4 (a b:Int) (w:World) :
  Calls Tryz.prog 182 #[.int .i64 a,.int .i64 b] w fun e w'=>e=.returned (.int .i64 (max a b))/\w'=w:=by
 by_cases h:b<a
 ·have HE:Hid (a=max a b):=(by omega:a=max a b)
  go_enter Tryz.func182,Tryz.ntmps182;go_wp2;go_ret;exact ⟨ret_n HE,rfl⟩
 ·have HE:Hid (b=max a b):=(by omega:b=max a b)
  go_enter Tryz.func182,Tryz.ntmps182;go_wp2;go_ret;exact ⟨ret_n HE,rfl⟩
end Go.Proofs.YtandnmpllheniaaGreatDoor
