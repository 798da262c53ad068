/-
 l10Share of the model: the walk.
-/
import Derived.Test.YtmjogablacnlgaaGreatDoorVZD
namespace Go.Proofs.YtmjogablacnlgaaGreatDoor
set_option linter.unusedVariables false
set_option linter.unusedSimpArgs false
open Go.ChangeShapes Go.WideShapes Go.ChangeAt Go.RowKit Go.PlainAid Go.Lib Go.Maps
set_option maxRecDepth 10000
theorem box2P {w:World} {r:Nat} {a b:Value} {T:TypeId} (h:w.heap[r]?=some (.cells #[a,b] T (0,0))):w.cell? ⟨r,0,none⟩=some a∧w.cell? ⟨r,1,none⟩=some b:=⟨cellP h 0 rfl,cellP h 1 rfl⟩
def ShA (w:World) (S:List Sd) (p:Pi) (Kn:List ByteArray) (e:Ending) (w':World):Prop:=∃ v X L,e=.returned (.agg (piArr v p))∧AscC L∧(L.map Ce.key).Perm ((allC S).map Ce.key)∧ShrL Kn L X∧OwnD w' w.heap.size v X∧LvO w' w.heap.size X∧Below w.heap.size w w'
theorem SmO.start {w w1:World} {ao:Option Addr} {N ca:Nat} {S:List Sd} {p:Pi} {W0:World} {Kn:List ByteArray} {L:List Ce} {va:Value} (h:LcI w W0 ao N ca S p 0 (.slice none 0 0) []) (hz:W0.heap.size=w.heap.size+1+1+1) (hr:OwnC w1 W0.heap.size va L) (ho:CesO w1 W0.heap.size L) (hb:Below W0.heap.size W0 w1):SmO w w1 p Kn L va 0 [] (.slice none 0 0):=by
 rw [hz] at hr ho;exact ⟨hpast h.x1 hb,hpast h.x2 hb,OwnD.nil _ _,by simp,.nil,hr,ho,by simp,by simp,by simp,chain h.b hb⟩
theorem own_bool {Kn:List ByteArray} {u o:ByteArray} {c:Ce} (h:OwnAns Kn c.s o):(o.toList == u.toList)=ownB Kn u c:=by
 by_cases e:o=u
 ·subst e
  rw [ownB_iff.2 h];simp
 ·rw [ownB_ne h (fun q=>e q.symm)]
  cases q:(o.toList == u.toList)
  ·rfl
  ·exact absurd (str_ext q) e
set_option maxHeartbeats 16000000 in
theorem c_l10Share {w:World} {ao an:Option Addr} {N ca cn:Nat} {S:List Sd} {Kn:List ByteArray} (p:Pi) (hI:PpI w ao N S) (hq:QS S) (hs:∀ s∈S,∀ c∈s.L,c.s.size≤100) (hKm:membersB Kn=true) (hA:StrsAt w an Kn) :
  Calls Tryz.prog 66 #[.agg (piArr (.slice ao N ca) p),.slice an Kn.length cn] w fun e w'=>ShA w S p Kn e w':=by
 obtain ⟨i0,hi,hz0,hz1,hz2⟩:=infoSh;obtain ⟨j0,hj,hy0,hy1,hy2⟩:=infoCe;have HI:=hide hI;have HQ:=hide hq;have HSs:=hide hs;have HKm:=hide hKm;have HK:=hide (memb_pair hKm);have HA:=hide hA;have hkl:Kn.length≤12:=(memb_len hKm).2;have HL0:=hide (LcI.start (w:=w) (ao:=ao) (N:=N) (ca:=ca) (S:=S) (p:=p) trivial);have HZ0:Hid ((((w.alloc (.cells (piArr (.slice ao N ca) p) 29)).alloc (.cells zeroPi 29)).alloc (.cells (piArr (.slice none 0 0) p) 29)).heap.size=w.heap.size+1+1+1):=hide (by simp);clear hI hq hs hKm hA;go_enter Tryz.func66,Tryz.ntmps66;go_upto_region 3 with fail;generalize ((w.alloc (.cells (piArr (.slice ao N ca) p) 29)).alloc (.cells zeroPi 29)).alloc (.cells (piArr (.slice none 0 0) p) 29)=W0 at HL0 HZ0 ⊢;obtain ⟨r0,r1,r2,r3,r4⟩:=box5 HL0.out.x0;go_wp2_with fail;clear r0 r1 r2 r3 r4;refine (c_l10All p HI.out.n HQ.out (sds_past HI.out.at' HL0.out.b)).mono ?_;rintro e w1 ⟨va,L,rfl,hla⟩;have HO0:=hide (SmO.start (Kn:=Kn) HL0.out HZ0.out hla.r hla.o hla.b);have HAs:=hide hla.asc
 have HPm:Hid ((L.map Ce.key).Perm ((allC S).map Ce.key)):=by
  have h:=hla.pm;rw [List.take_of_length_le (by have:=HI.out.n;omega)] at h;exact hide h
 have HSz:Hid (∀ c∈L,c.s.size≤100):=fun c hc=>by
  obtain ⟨s,hs,d,hd,_,e,_⟩:=hla.mem hc;rw [← e];exact HSs.out s hs d hd
 have hLl:=hla.len HQ.out;have HLl:=hide hLl;obtain ⟨aa,cc,rfl,_⟩:=hla.r.form;clear hla HL0 HZ0 hLl W0;obtain ⟨na,hna⟩:∃ n,L.length=n:=⟨_,rfl⟩;rw [hna] at HO0 HLl ⊢;have HNa:=hide hna;have hnl:=HLl.out;clear hna;go_wp2
 go_loopw [7] (fun i wr=>∃ (k:Nat) (X:List Sd) (vo:Value),k≤Kn.length∧i=.int .i64 k∧Hid (SmO w wr p Kn L (.slice aa na cc) k X vo)) (fun i wr=>Kn.length - (Go.RowKit.intOf i).toNat)
 case atStart=>exact ⟨0,[],_,Nat.zero_le _,rfl,HO0⟩
 case round=>
  clear HO0;obtain ⟨i,X,vo,hik,rfl,HO⟩:=hrel;by_cases hin:i<Kn.length
  ·have hini:(i:Int)<(Kn.length:Int):=by omega
   obtain ⟨u,hu⟩:∃ u,Kn[i]?=some u:=⟨Kn[i],List.getElem?_eq_getElem hin⟩;obtain ⟨bn,on,e,hcell⟩:=HA.out (by omega);subst e;have HU:=hide hu;have HNm:Hid (∀ W,Below w.heap.size w W→W.cell? ⟨bn,on+i,none⟩=some (.string u)):=fun W hW=>cell_past hW (hcell i u hu);have HAn:Hid (∀ W,Below w.heap.size w W→StrsAt W (some ⟨bn,on,none⟩) Kn):=fun W hW=>strs_past HA.out hW;have n0:=HNm.out wr HO.out.b;have HI0:=hide (SmI.start (u:=u) HO.out);clear hu hcell;go_upto_region 8 with fail;clear n0;obtain ⟨bx,hbx⟩:∃ b,wr.heap.size=b:=⟨_,rfl⟩;rw [hbx] at HI0 ⊢;clear hbx;generalize wr.alloc (.cells #[.string u,.slice none 0 0] 55)=W1 at HI0 ⊢;clear HO wr;go_wp2
   go_loopw [9] (fun i2 wr=>∃ (k:Nat) (vs:Value),k≤na∧i2=.int .i64 k∧Hid (SmI w wr p Kn L (.slice aa na cc) i X vo bx u k vs)) (fun i2 wr=>na - (Go.RowKit.intOf i2).toNat)
   case atStart=>exact ⟨0,_,Nat.zero_le _,rfl,HI0⟩
   case round=>
    clear HI0;obtain ⟨k,vs,hk,rfl,HI1⟩:=hrel;by_cases hkn:k<na
    ·have hkni:(k:Int)<(na:Int):=by omega
     obtain ⟨c,hc⟩:∃ c,L[k]?=some c:=⟨L[k]'(by have:=HNa.out;omega),List.getElem?_eq_getElem _⟩;obtain ⟨ga,rfl⟩:=own_addr HI1.out.o.a (by have:=HNa.out;omega);have HC:=hide hc;have HCz:=hide (HSz.out c (List.mem_of_getElem? hc));have HCc:Hid (∀ W,Below wr.heap.size wr W→CeCell W ga (k*15) c):=fun W hW=>(row_cells (HI1.out.o.a.past hW) HNa.out hc).1;clear hc;go_upto_region 11 with fail
     go_cut [42] (fun v w'=>∃ B,v=.bool B∧Hid (B=ownB Kn u c)∧Hid (Below wr.heap.size wr w'))
     case first=>
      have HS0:(fun W=>Below wr.heap.size wr W) wr.drew:=(Below.refl _ _).drew;refine regionK (fun W=>Below wr.heap.size wr W) 99 (by kernel_rfl) ?_;refine tkS (i:=0) (v:=.slice (some ⟨bn,on,none⟩) Kn.length cn) rfl rfl HS0 ?_;refine tkS (i:=1) (v:=.slice (some ⟨ga,0,none⟩) na cc) rfl rfl HS0 ?_;refine tkS (i:=2) (v:=.int .i64 (k:Int)) rfl rfl HS0 ?_;simp only [sA,sB,sC];refine tkS (i:=3) (v:=.pointer (some ⟨ga,k*15,none⟩)) rfl rfl HS0 ?_;refine tkS (i:=4) (v:=.pointer (some ⟨ga,k*15+1,none⟩)) rfl rfl HS0 ?_;refine tkL (i:=5) (v:=.string c.s) rfl rfl HS0 (fun W hW=>?_) ?_
      ·obtain ⟨x0,x1,x2,x3,x4,x5,x6,x7,x8,x9,x10,x11,x12,x13,x14⟩:=HCc.out W hW
       clear hW;go_simp
      simp only [sA,sB,sC];refine tkS (i:=7) (v:=.slice (some ⟨bn,on,none⟩) Kn.length cn) rfl rfl HS0 ?_;refine tkS (i:=8) (v:=.int .i64 (i:Int)) rfl rfl HS0 ?_;refine tkS (i:=9) (v:=.pointer (some ⟨bn,on+i,none⟩)) rfl rfl HS0 ?_;simp only [sA,sB,sC];refine tkL (i:=10) (v:=.string u) rfl rfl HS0 (fun W hW=>?_) ?_
      ·have n0:=HNm.out W (chain HI1.out.o.b hW)
       clear hW;go_simp
      simp only [sA,sB,sC];refine onE (i:=6) rfl (fun K hK=>?_);go_simp;refine (c_s_l02Owner cn c.s (by have:=HCz.out;omega) HKm.out (HAn.out _ (chain HI1.out.o.b HS0))).mono ?_;rintro e w2 ⟨uo,rfl,huo,hb2⟩;have HB2:Hid (Below wr.heap.size wr w2):=(HS0:Below wr.heap.size wr wr.drew).trans (hb2.mono (Nat.le_refl _));obtain ⟨B,hB⟩:∃ B,(uo.toList == u.toList)=B:=⟨_,rfl⟩;have HBb:Hid (B=ownB Kn u c):=by rw [← hB];exact hide (own_bool huo)
      clear hb2 huo;dsimp only;refine hK.out _ _ (fun _=>HB2.out) ?_;clear hK K
      try simp only [Act.put,sA,sB,sC]
      refine tkS (i:=11) (v:=.bool B) rfl rfl HB2.out ?_;simp only [sA,sB,sC];refine doneK (by kernel_rfl) ?_ _;go_wp2;go_meet;exact ⟨B,rfl,HBb,HB2⟩
     case rest=>
     obtain ⟨B,rfl,HBb,HB2⟩:=hcut;obtain ⟨w3,hw3⟩:∃ X,wc=X:=⟨_,rfl⟩;rw [hw3] at HB2 ⊢;clear hw3;have HI3:=hide (HI1.out.past HB2.out);have HC3:=hide (HCc.out w3 HB2.out);clear HI1 HCc HB2
     cases B with
     | false=>
      have HF:=hide (HI3.out.skip HC.out HBb.out.symm);clear HI3;go_wp2;go_roundw
      case rel=>exact ⟨k+1,vs,by omega,by first | rfl | go_num,HF⟩
      case measure=>simp [Go.RowKit.intOf];omega
     | true=>
      obtain ⟨az,cz,rfl,_⟩:=HI3.out.s.form;obtain ⟨F,hF⟩:∃ F,(L.take k).filter (ownB Kn u)=F:=⟨_,rfl⟩;rw [hF] at HI3;have HFe:=hide hF
      have hlF:F.length≤720:=by
       rw [← hF];have h1:=List.length_filter_le (ownB Kn u) (L.take k);have h2:(L.take k).length≤L.length:=by rw [List.length_take];omega
       have:=HNa.out;omega
      clear hF;go_upto_region 12 with fail;have HSt:Hid ((fun W1:World=>W1.heap[bx]?=some (.cells #[.string u,.slice az F.length cz] 55 (0,0))∧CeCell W1 ga (k*15) c) w3.drew):=⟨HI3.out.y,HC3.out⟩;have HBr:Hid (Below w3.heap.size w3 w3.drew):=(Below.refl _ _).drew;have HX0:Hid (Below w3.heap.size w3 w3.drew):=HBr;refine regionK (fun W1:World=>W1.heap[bx]?=some (.cells #[.string u,.slice az F.length cz] 55 (0,0))∧CeCell W1 ga (k*15) c) 9 (by kernel_rfl) ?_;generalize w3.drew=X0 at HSt HBr HX0 ⊢;refine tkS (i:=0) (v:=.pointer (some ⟨bx,1,none⟩)) rfl rfl HSt.out ?_;refine tkL (i:=1) (v:=.slice az F.length cz) rfl rfl HSt.out (fun W hW=>?_) ?_
      ·have q1:=cellP hW.1 1 rfl
       clear hW;go_simp
      refine tkS (i:=2) (v:=.slice (some ⟨ga,0,none⟩) na cc) rfl rfl HSt.out ?_;simp only [sA,sB,sC];refine tkS (i:=3) (v:=.int .i64 (k:Int)) rfl rfl HSt.out ?_;refine tkS (i:=4) (v:=.pointer (some ⟨ga,k*15,none⟩)) rfl rfl HSt.out ?_;refine tkL (i:=5) (v:=.agg (ceArr c)) rfl rfl HSt.out (fun W hW=>?_) ?_
      ·obtain ⟨x0,x1,x2,x3,x4,x5,x6,x7,x8,x9,x10,x11,x12,x13,x14⟩:=hW.2
       clear hW;go_simp
      simp only [sA,sB,sC];refine onE (i:=6) rfl (fun K hK=>?_);go_simp;have hal:Below X0.heap.size X0 (X0.alloc (.cells (ceArr c) 69)):=(Below.refl _ _).alloc (Nat.le_refl _) _;have HAl:=hide hal;have HI5:=hide ((HI3.out.past HBr.out).past hal);have HS2:Hid ((fun W1:World=>W1.heap[bx]?=some (.cells #[.string u,.slice az F.length cz] 55 (0,0))∧CeCell W1 ga (k*15) c) (X0.alloc (.cells (ceArr c) 69))):=⟨HI5.out.y,cec_past HSt.out.2 hal⟩;refine hK.out _ _ (fun _=>HS2.out) ?_;clear hK K hal
      try simp only [Act.put,sA,sB,sC]
      refine onE (i:=7) rfl (fun K hK=>?_);rw [if_pos (by rfl)];have ow:=HI5.out.s;rw [HFe.out] at ow;unfold OwnC at ow;have hzX:w.heap.size+1+1+1≤(X0.alloc (.cells (ceArr c) 69)).heap.size:=(Array.getElem?_eq_some_iff.1 HI5.out.o.x2).1;refine wp_append_at _ (.tmp 44) (.tmp 49) 36 rfl (w.heap.size+1+1+1) 69 j0 (.agg zeroCe) 15 192 Tryz.underlying36 hj hy0 hy1 hy2 rfl (by decide) _ _ _ rfl ow ⟨X0.heap.size,0,none⟩ 1 1 (ceL c) rfl rfl new_cellsC (ceL_one _) (by unfold maxLen;omega) (by omega) hzX ?_;intro v8 w8 hown hgrow hloc;obtain ⟨a8,c8,rfl⟩:∃ ar cr,v8=.slice ar (F.length+1) cr:=own_any hown;have y8:w8.heap[bx]?=some (.cells #[.string u,.slice az F.length cz] 55 (0,0)):=(hgrow.block bx (Array.getElem?_eq_some_iff.1 HI5.out.y).1 (fun e=>ownC_ne HI5.out.s HI5.out.y bx e.symm rfl)).trans HI5.out.y;have o8:=HI5.out.o.cells HI5.out.s HI5.out.sa HI5.out.sr hgrow;have HS8:Hid ((fun W1:World=>W1.heap[bx]?=some (.cells #[.string u,.slice az F.length cz] 55 (0,0))∧CeCell W1 ga (k*15) c) w8):=⟨y8,(row_cells o8.a HNa.out HC.out).1⟩;have HF:Hid (SmI w (w8.setCell ⟨bx,1,none⟩ (.slice a8 (F.length+1) c8)) p Kn L (.slice (some ⟨ga,0,none⟩) na cc) i X vo bx u (k+1) (.slice a8 (F.length+1) c8)):=hide ((HI3.out.past HBr.out).add HC.out HBb.out.symm HAl.out (by rw [HFe.out];exact hown) hgrow hloc);have ROW8:=hide y8;clear hown hgrow hloc ow hzX y8 o8;refine hK.out _ _ (fun _=>HS8.out) ?_;clear hK K
      try simp only [Act.put,sA,sB,sC]
      refine tkS (i:=8) (v:=.pointer (some ⟨bx,1,none⟩)) rfl rfl HS8.out ?_;simp only [sA,sB,sC];have q1:=cellP ROW8.out 1 rfl;have f1:=fzR 1 ROW8.out;refine onE (i:=9) rfl (fun K hK=>?_);go_simp;clear q1 f1;refine hK.out _ _ (fun h=>absurd rfl h) ?_;clear hK K
      try simp only [Act.put,sA,sB,sC]
      refine doneK (by kernel_rfl) ?_ _;go_wp2;go_roundw
      case rel=>exact ⟨k+1,_,by omega,by first | rfl | go_num,HF⟩
      case measure=>simp [Go.RowKit.intOf];omega
    ·have hkni:¬ (k:Int)<(na:Int):=by omega
     obtain rfl:k=na:=by omega
     have HI2:=HI1.out;rw [← HNa.out] at HI2;obtain ⟨az,cz,rfl,_⟩:=HI2.s.form;obtain ⟨ns,hns⟩:∃ n,((L.take L.length).filter (ownB Kn u)).length=n:=⟨_,rfl⟩;rw [hns] at HI2;have hsl:sdL ⟨u,L.filter (ownB Kn u),az,cz⟩=[.string u,.slice az ns cz]:=by show [_,Value.slice _ _ _]=_;rw [← hns,List.take_length]
     have HI4:=hide HI2;rw [HNa.out] at HI4;have HSl:=hide hsl
     have hXl:X.length≤12:=by
      have h1:=congrArg List.length HI2.o.nm;rw [List.length_map,List.length_take] at h1;omega
     rw [hns] at HI1;have p0:=(box5 HI2.o.x2).1;obtain ⟨b0,b1⟩:=box2P HI2.y;have OW:Hid (wr.ownsRow (w.heap.size+1+1+1) 55 2 vo X.length (flS X)):=hide HI2.o.d;have hw3:w.heap.size+1+1+1≤wr.heap.size:=(Array.getElem?_eq_some_iff.1 HI2.o.x2).1;clear hns hsl HI2;go_wp2_with (at_builtin;refine wpList_append_own _ rfl _ _ 27 rfl (w.heap.size+1+1+1) 55 i0 (.agg #[.string ByteArray.empty,.slice none 0 0]) 2 40 Tryz.underlying27 hi hz0 hz1 hz2 rfl (by decide) _ _ _ rfl (World.ownsRow.alloc OW.out _) ⟨wr.heap.size,0,none⟩ 1 1 [.string u,.slice az ns cz] rfl rfl ?c1 ?c2 ?c3 ?c4 ?c5 ?_)
     case c2=>first | exact ⟨rfl,rfl⟩ | (intro x hx;simp only [List.mem_cons,List.not_mem_nil,or_false] at hx;rcases hx with rfl | rfl <;> rfl)
     case c3=>unfold maxLen;omega
     case c4=>omega
     case c5=>first | omega | (simp;omega)
     intro v' w5 hown hgrow _;obtain ⟨av,cv,rfl⟩:∃ ar cr,v'=.slice ar (X.length+1) cr:=own_any hown;have hbA:Below wr.heap.size wr (wr.alloc (.cells #[.string u,.slice az ns cz] 55)):=(Below.refl _ _).alloc (Nat.le_refl _) _
     have HF:Hid (SmO w (w5.setCell ⟨w.heap.size+1+1,0,none⟩ (.slice av (X.length+1) cv)) p Kn L (.slice aa k cc) (i+1) (X ++ [⟨u,L.filter (ownB Kn u),az,cz⟩]) (.slice av (X.length+1) cv)):=by
      have h:=HI4.out;rw [← HNa.out] at h ⊢;exact hide (h.fin HU.out hbA (by rw [HSl.out];exact hown) hgrow)
     have z2:w5.heap[w.heap.size+1+1]?=some (.cells (piArr vo p) 29 (0,0)):=(hgrow.block _ (by simp;omega) (fun e=>by have:=(World.ownsRow.lt OW.out _ e.symm).1;omega)).trans (hpast HI4.out.o.x2 hbA);have y0:=cellP z2 0 rfl;have f0:=fzR 0 z2;clear hown hgrow z2 hbA p0 b0 b1 OW HI4 HI1;go_wp2;go_roundw
     case rel=>exact ⟨i+1,_,_,by omega,by first | rfl | go_num,HF⟩
     case measure=>simp [Go.RowKit.intOf];omega
  ·have hini:¬ (i:Int)<(Kn.length:Int):=by omega
   obtain ⟨av,cv,rfl,_⟩:=HO.out.d.form;have hX:ShrL Kn L X:=⟨by have h:=HO.out.nm;rw [List.take_of_length_le (by omega)] at h;exact h,HO.out.l⟩;have hLv:LvO wr (w.heap.size+1+1+1) X:=hX.own HK.out HO.out.r HO.out.rap HO.out.c;have HX:=hide hX;have HLv:=hide hLv;have HFin:Hid (CpP w wr X (.slice av X.length cv) X):=hide ⟨HO.out.d.le (by omega),hLv.le (by omega),rfl,HO.out.b⟩;have HFar:Hid (∀ j,(Value.slice av X.length cv).ownBlock=some j→w.heap.size+1+1+1≤j):=fun j q=>(World.ownsRow.lt HO.out.d j q).1;obtain ⟨z0,z1,z2,z3,z4⟩:=box5 HO.out.x2;obtain ⟨y0,y1,y2,y3,y4⟩:=box5 HO.out.x1;have f0:=fzR 0 HO.out.x1;have f1:=fzR 1 HO.out.x1;have f2:=fzR 2 HO.out.x1;have f3:=fzR 3 HO.out.x1;have f4:=fzR 4 HO.out.x1;clear hX hLv HO;go_wp2;refine bodyPost_ret (v:=.agg (piArr (.slice av X.length cv) p)) (by simp [results,Tryz.results66,go_sem,y0,y1,y2,y3,y4]) rfl ?_;have hC:=CpP.sets (v0:=.slice av X.length cv) (v1:=.int .i64 p.a) (v2:=.int .i64 p.b) (v3:=.int .i64 p.c) (v4:=.int .i64 p.d) HFar.out HLv.out HFin.out;exact ⟨_,X,L,rfl,HAs.out,HPm.out,HX.out,hC.r,hC.o,hC.b⟩
end Go.Proofs.YtmjogablacnlgaaGreatDoor
