/-
 Parts.
-/
import Derived.Test.YtlejlgldgafljaaGreatDoorVWG
set_option maxHeartbeats 8000000
set_option linter.all false
namespace Go.Proofs.YtlejlgldgafljaaGreatDoor
open Go.ChangeShapes Go.WideShapes Go.ChangeAt Go.RowKit Go.PlainAid Go.Lib Go.Maps Tryz
set_option maxRecDepth 10000
variable {w:World}
theorem Qsq {w':World} (hb:Bw w w') {g j m:Nat} (h:∃ u,w.cell? ⟨g,j,none⟩=some (.string u)/\u.size<=m):∃ u,w'.cell? ⟨g,j,none⟩=some (.string u)/\u.size<=m:=by
 obtain ⟨u,h1,h2⟩:=h;exact ⟨u,by rw [hb.cell (QhN h1)];exact h1,h2⟩
theorem put_sm {g o:Ag} {x:Sx} (h:QbD g x o) (sm:AgSm g):AgSm o:=by
 unfold QbD at h
 split at h
 ·exact (QmR h).sm
 ·rw [h];exact sm
theorem zzSz:(⟨#[122,122,123,125]⟩:ByteArray).size<=maxLen:=by decide
theorem xzOk:(⟨1,⟨#[122,122,123,125]⟩,0,⟨#[]⟩,1,false,0⟩:Sx).Ok:=⟨by show I64 1;unfold I64;omega,by show I64 0;unfold I64;omega,by show U64 1;unfold U64;omega,by show I64 0;unfold I64;omega,by decide,by decide⟩
theorem Qky {W:World} {B ln cap s:Nat} {ao:Option Addr} (hc:Qbq W B ao ln) (h:Src W B ao ln cap s w) :
  Calls prog 21 #[.pointer (some ⟨s,0,none⟩)] w fun e w'=>DrawnP W B ao ln cap s w e w':=by
 obtain ⟨j0,hj,cO,cQ,cz⟩:=Qe8;have HC:=Qaa hc;have hs:=QcF h;have a0:Bw w (w.alloc (.cells (Qad (.slice none 0 0) q0) 25)):=bA;have aM:=Qaa (QaJ h a0);have bB:=Qaa (ZZk w (.cells (Qad (.slice none 0 0) q0) 25));have be:Hid (w.grownBy (w.alloc (.cells (Qad (.slice none 0 0) q0) 25)) (some s)):=(⟨a0.os,a0.tape,a0.output,a0.size,fun j hj _=>a0.block j hj⟩:w.grownBy _ (some s));have HZ:Hid ((w.alloc (.cells (Qad (.slice none 0 0) q0) 25)).heap.size=w.heap.size+1):=Qaa (by simp);clear hc h a0;go_enter func21,ntmps21;go_wp2_with fail;generalize w.alloc _=W0 at aM bB be HZ ⊢;have bo:s<W0.heap.size:=by have:=HZ.out;omega
 refine (QkB HC aM).mono ?_;rintro e w1 ⟨v,L,rfl,hl,hM⟩;obtain ⟨al,cl,rfl⟩:=QeJ hM.own;have HM:=Qaa hM;clear hM aM;go_wp2_with fail;refine (c_n HC HM.src 10 (by omega)).mono ?_;rintro e w2 ⟨v2,rfl,a2,b2,_,bY,b8⟩;have b2:=b2 (by omega);have bF:=Qaa (HM.call bo bY b8);have cw:IntKind.i64.wrap (1+v2)=1+v2:=ZZi _ ⟨by omega,by omega⟩;clear bY b8 HM;go_wp2_with fail;refine (c_n HC bF.src 6 (by omega)).mono ?_;rintro e w3 ⟨v3,rfl,a3,b3,_,ca,cm⟩;have an:=Qaa (bF.call bo ca cm);clear ca cm bF;go_wp2_with fail;refine (Qlt cl (1+v2) v3 (by omega) (fun u hu=>by have:=an.sz u hu;omega) (Qqp an.own)).mono ?_;rintro e w4 ⟨v4,R,a',b',rfl,hR,hO,a1⟩;obtain ⟨ax,cx,rfl⟩:=QeJ hO;have a4:Bw w4 (w4.alloc (.cells (Qad (.slice ax R.length cx) ⟨a',b',0,0⟩) 25)):=bA
 have HD:Hid (DP 0 W B ao ln cap s w (w4.alloc (.cells (Qad (.slice ax R.length cx) ⟨a',b',0,0⟩) 25)) w4.heap.size ax R.length cx ⟨a',b',0,0⟩ (R.map mk0)):=by
  have z3:=an.gr.size;have z4:=a1.size;have z0:=HZ.out;obtain ⟨r,o⟩:=Qq6 hO
  have cn:R.length<=14/\∀ u∈R,u.size<=10:=by
   split at hR
   ·injection hR with h1 _
    subst h1;exact ⟨hl,an.sz⟩
   ·injection hR with h1 _
    subst h1;exact ⟨by simp,by simp⟩
  have hg:w.grownBy w4 (some s):=QaE (be.trans an.gr) (a1.mono (by omega));refine Qaa ⟨QaJ (QaJ an.src a1) a4,QaE hg (a4.mono (by omega)),hs,?_,ZZk w4 _,by omega,(r.le (by omega)).past a4,(o.le (by omega)).past a4,fun j q e=>?_,gd_new cn.1 cn.2,⟨by show (-1:Int)<=0;omega,by show (0:Int)<=1000000001;omega,by show (0:Int)<=0;omega,by show (0:Int)<=1000000001+0;omega⟩⟩
  ·exact (a4.block _ (by omega)).trans ((a1.block _ (by omega)).trans ((an.gr.block _ (by omega) (fun e=>by cases e;omega)).trans bB))
  ·have:=((PpB.of r o).hi j q).2
   omega
 clear hR hO a1 a4 an bB be HZ bo a2 b2 a3 b3 cw;go_upto_region 2 with fail;generalize w4.alloc _=W5 at HD ⊢;generalize w4.heap.size=b at HD ⊢;obtain ⟨c4,cW,sz,a6,_,_,z0,z1⟩:=HD.src.blk;have cy:W5.cell? ⟨s,3,none⟩=some (.int .i64 sz):=by rw [cell_of_row W5 s 3 _ _ (0,0) a6];rfl
 have hw:IntKind.i64.wrap (6+sz)=6+sz:=ZZi _ ⟨by omega,by omega⟩;clear a6;go_wp2_with fail;clear cy;refine (c_n HC HD.src (6+sz) (by omega)).mono ?_;rintro e w6 ⟨k,rfl,k0,k1,_,bO,bT⟩;have k1:=k1 (by omega);have bE:=Qaa (HD.step bO bT);obtain ⟨k,rfl⟩:=Int.eq_ofNat_of_zero_le k0;have aQ:k<=17:=by omega
 clear HD bO bT k1 k0 hw z0 z1;go_upto_block 0 with fail
 go_cut [3] (fun p' w'=>p'=.pointer (some ⟨b,0,none⟩)/\∃ (ax:Option Addr) (n cp:Nat) (p:Pi) (M:List Sd),Hid (DP 0 W B ao ln cap s w w' b ax n cp p M))
 case first=>
  go_wp2_with fail
  go_loopw [4] (fun kv wr=>∃ (j:Nat),kv=.int .i64 j/\j<=17/\∃ (ax:Option Addr) (n cp:Nat) (p:Pi) (M:List Sd),Hid (DP 0 W B ao ln cap s w wr b ax n cp p M)) (fun kv wr=>(Go.RowKit.intOf kv).toNat)
  case atStart=>exact ⟨k,rfl,aQ,_,_,_,_,_,bE⟩
  case round=>
   clear bE aQ;obtain ⟨j,rfl,hj,ax,n,cp,p,M,HD⟩:=hrel;rcases Nat.eq_zero_or_pos j with h0 | h0
   ·subst h0
    go_wp2;go_meet;exact ⟨rfl,_,_,_,_,_,HD⟩
   ·have cU:(0:Int)<(j:Int):=by omega
    have cZ:IntKind.i64.wrap ((j:Int) - 1)=((j - 1:Nat):Int):=by rw [show (j:Int) - 1=((j - 1:Nat):Int) by omega];exact ZZi _ ⟨by omega,by omega⟩
    go_upto_block 1 with fail
    go_cut [] (fun w'=>∃ (ax:Option Addr) (n cp:Nat) (p:Pi) (M:List Sd),Hid (DP 0 W B ao ln cap s w w' b ax n cp p M))
    case first=>
     go_wp2_with fail;refine (c_n HC HD.src 7 (by omega)).mono ?_;rintro e w8 ⟨v,rfl,v0,v1,_,hS,hg⟩;have aa:=Qaa (HD.step hS hg);clear hS hg HD;by_cases h0:v=0
     ·subst h0
      go_upto_region 10 with fail;have D0:Hid (DP 0 W B ao ln cap s w w8.drew b ax n cp p M):=aa.past (ZZb _ _).drew;refine Qal (fun X=>X.heap[b]?=some (.cells (Qad (.slice ax n cp) p) 25 (0,0))) 4 (by kernel_rfl) ?_;generalize w8.drew=X0 at D0 ⊢;refine tkL 0 (.agg (Qad (.slice ax n cp) p)) D0.row (fun W hW=>?_) ?_
      ·obtain ⟨x0,x1,x2,x3,x4⟩:=Qa2 hW
       clear hW;go_simp
      refine tkS 1 (.pointer (some ⟨s,0,none⟩)) D0.row ?_;simp only [sX];refine onE 2 fun K hK=>?_;go_simp;refine (c_n HC D0.src 12 (by omega)).mono ?_;rintro e W1 ⟨v,rfl,v0,v1,_,cc,cb⟩;have D1:=Qaa (D0.step cc cb);clear cc cb
      try dsimp only
      refine gK hK D1.row ?_
      try simp only [sX]
      refine onE 3 fun K hK=>?_;go_simp;refine (QjU p v D1.pp).mono ?_;rintro e W2 ⟨vv,M',rfl,hC⟩;obtain ⟨a',c',rfl,_⟩:=hC.r.form;have D2:=Qaa (D1.past hC.b);have bk:=Qaa hC;have aE:=Qaa D1.bl;clear hC
      try dsimp only
      refine gK hK D2.row ?_
      try simp only [sX]
      obtain ⟨x0,x1,x2,x3,x4⟩:=Qa2 D2.row;obtain ⟨f0,f1,f2,f3,f4⟩:=fA5 D2.row;refine onE 4 fun K hK=>?_;go_simp;clear x0 x1 x2 x3 x4 f0 f1 f2 f3 f4;refine hK.out _ _ (fun h=>absurd rfl h) ?_
      try simp only [sX]
      refine dnE ?_ _;go_wp2;go_meet;exact ⟨_,_,_,_,M',Qaa (D2.put bk.r bk.o aE (by rw [bk.ky];exact D2.gd) (QoM D2.pc))⟩
     ·have b0:(v == 0)=false:=ZZf.2 h0
      by_cases h1:v=1
      ·subst h1
       go_upto_region 12 with fail
       go_cut [5] (fun v w'=>∃ (G:Nat) (a':Option Addr) (n' c':Nat) (q:Pi) (d:Option Addr) (m f:Nat) (cd:Int),v=.pointer (some ⟨G,0,none⟩)/\Hid (DY 0 W B ao ln cap s w w' b ax n cp p M G a' n' c' q d m f cd))
       case first=>
        have D0:Hid (DP 0 W B ao ln cap s w w8.drew b ax n cp p M):=aa.past (ZZb _ _).drew;refine Qal (fun X=>X.heap[b]?=some (.cells (Qad (.slice ax n cp) p) 25 (0,0))) 6 (by kernel_rfl) ?_;generalize w8.drew=X0 at D0 ⊢;refine tkL 0 (.agg (Qad (.slice ax n cp) p)) D0.row (fun W hW=>?_) ?_
        ·obtain ⟨x0,x1,x2,x3,x4⟩:=Qa2 hW
         clear hW;go_simp
        refine tkS 1 (.pointer (some ⟨s,0,none⟩)) D0.row ?_;simp only [sX];refine QqX (i:=2) (j:=5) (by kernel_rfl) rfl rfl (fun K hK=>?_) (fun K hK=>?_)
        ·go_simp
         have aP:Bw X0 (X0.alloc (.cells zAh 9)):=bA;have D3:=Qaa (D0.past aP);have L3:Hid (∀ j,j<3->∃ u,(X0.alloc (.cells zAh 9)).cell? ⟨X0.heap.size,j,none⟩=some (.string u)/\u.size<=2):=Qaa (fun j h=>QeB (by decide) j h);have Q3:Hid (s<X0.heap.size):=Qaa (by have:=D0.bl;have:=D0.lb;have:=D0.hs;omega);clear aP
         try dsimp only
         refine gK hK D3.row ?_
         try simp only [sX]
         generalize X0.alloc _=W3 at D3 L3 ⊢;generalize X0.heap.size=gl at L3 Q3 ⊢;refine QqX (i:=3) (j:=5) (by kernel_rfl) rfl rfl (fun K hK=>?_) (fun K hK=>?_)
         ·go_simp
          refine (QjK HC D3.src gl 3 2 (by have:=Q3.out;omega) (by omega) (by omega) L3).mono ?_;rintro e W4 ⟨u,rfl,hu,bQ,ck⟩;have D4:=Qaa (D3.step bQ ck);clear bQ ck
          try dsimp only
          refine gK hK D4.row ?_
          try simp only [sX]
          refine QqX (i:=4) (j:=5) (by kernel_rfl) rfl rfl (fun K hK=>?_) (fun K hK=>?_)
          ·go_simp
           refine (Qb8 p u (by unfold maxLen;omega) D4.pp).mono ?_;rintro e W5 hJ;obtain ⟨a',n',c',q,M',d,m,f,C',cd,rfl,hR,hB,hb⟩:=Qq0 rfl hJ;have D5:=Qaa (D4.past hb);have R5:=Qaa hB.p.r;have O5:=Qaa hB.p.o;have cR:Hid (cd=0->GdK 0 (M'.map Sd.key)/\PcB 0 q):=Qaa (fun e=>JnR.good D4.gd D4.pc (by omega) (e ▸ hR));have cE:=Qaa D4.bl;clear hR hB hb hJ
           try dsimp only
           refine gK hK D5.row ?_
           try simp only [sX]
           refine onE 5 fun K hK=>?_;go_simp;have am:Bw W5 (W5.alloc (.cells (Qap (.slice none 0 0) q0 (.slice none 0 0) 0) 37)):=bA;have D6:=Qaa (D5.past am);have Y6:=Qaa (ZZk W5 (.cells (Qap (.slice none 0 0) q0 (.slice none 0 0) 0) 37));have N6:=Qaa D5.lt;have B6:=Qaa D5.bl;have R6:=Qaa (R5.past am);have O6:=Qaa (O5.past am);have E6:Hid (∀ j,Qhs (.slice a' n' c') M' j->j≠W5.heap.size):=Qaa (fun j q e=>by have:=((PpB.of R5 O5).hi j q).2;omega);clear am
           try dsimp only
           refine gK hK D6.row ?_
           try simp only [sX]
           generalize W5.alloc _=W6 at D6 Y6 R6 O6 ⊢;generalize W5.heap.size=G6 at Y6 N6 B6 E6 ⊢;obtain ⟨x0,x1,x2,x3,x4,x5,x6⟩:=Qbv Y6;obtain ⟨f0,f1,f2,f3,f4,f5,f6⟩:=fA7 Y6;refine onE 6 fun K hK=>?_;go_simp;clear x0 x1 x2 x3 x4 x5 x6 f0 f1 f2 f3 f4 f5 f6;refine hK.out _ _ (fun h=>absurd rfl h) ?_
           try simp only [sX]
           refine dnE ?_ _;go_wp2;go_meet;exact ⟨_,_,_,_,_,_,_,_,_,rfl,Qaa (DY.of D6 B6 N6 Y6 cE R6 O6 E6 cR)⟩
          ·go_simp
           have aU:Bw W4 (W4.alloc (.cells (Qap (.slice none 0 0) q0 (.slice none 0 0) 0) 37)):=bA;have D7:=Qaa (D4.past aU);have Y7:=Qaa (ZZk W4 (.cells (Qap (.slice none 0 0) q0 (.slice none 0 0) 0) 37));have N7:=Qaa D4.lt;have B7:=Qaa D4.bl;clear aU
           try dsimp only
           refine gK hK D7.row ?_
           try simp only [sX]
           generalize W4.alloc _=W7 at D7 Y7 ⊢;generalize W4.heap.size=G7 at Y7 N7 B7 ⊢;refine onE 4 fun K hK=>?_;go_simp;refine (Qb8 p u (by unfold maxLen;omega) D7.pp).mono ?_;rintro e W8 hJ;obtain ⟨a',n',c',q,M',d,m,f,C',cd,rfl,hR,hB,hb⟩:=Qq0 rfl hJ;have D8:=Qaa (D7.past hb);have R8:=Qaa hB.p.r;have O8:=Qaa hB.p.o;have cP:Hid (cd=0->GdK 0 (M'.map Sd.key)/\PcB 0 q):=Qaa (fun e=>JnR.good D7.gd D7.pc (by omega) (e ▸ hR));have cF:=Qaa D7.bl;have E8:Hid (∀ j,Qhs (.slice a' n' c') M' j->j≠G7):=Qaa (fun j q e=>by have:=(hB.p.hi j q).1;have:=(ZZc.1 Y7).1;omega);have Y8:=Qaa (Qaf Y7 hb);clear hR hB hb hJ
           try dsimp only
           refine gK hK D8.row ?_
           try simp only [sX]
           obtain ⟨x0,x1,x2,x3,x4,x5,x6⟩:=Qbv Y8;obtain ⟨f0,f1,f2,f3,f4,f5,f6⟩:=fA7 Y8;refine onE 6 fun K hK=>?_;go_simp;clear x0 x1 x2 x3 x4 x5 x6 f0 f1 f2 f3 f4 f5 f6;refine hK.out _ _ (fun h=>absurd rfl h) ?_
           try simp only [sX]
           refine dnE ?_ _;go_wp2;go_meet;exact ⟨_,_,_,_,_,_,_,_,_,rfl,Qaa (DY.of D8 B7 N7 Y8 cF R8 O8 E8 cP)⟩
         ·go_simp
          have aB:Bw W3 (W3.alloc (.cells (Qap (.slice none 0 0) q0 (.slice none 0 0) 0) 37)):=bA;have D9:=Qaa (D3.past aB);have Y9:=Qaa (ZZk W3 (.cells (Qap (.slice none 0 0) q0 (.slice none 0 0) 0) 37));have N9:=Qaa D3.lt;have B9:=Qaa D3.bl;have L9:=Qaa (fun j (h:j<3)=>Qsq aB (L3.out j h));clear aB
          try dsimp only
          refine gK hK D9.row ?_
          try simp only [sX]
          generalize W3.alloc _=W9 at D9 Y9 L9 ⊢;generalize W3.heap.size=G9 at Y9 N9 B9 ⊢;refine onE 3 fun K hK=>?_;go_simp;refine (QjK HC D9.src gl 3 2 (by have:=Q3.out;omega) (by omega) (by omega) L9).mono ?_;rintro e c0 ⟨u,rfl,hu,aY,aF⟩;have aI:=Qaa (D9.step aY aF);have bZ:=Qaa (D9.rowS aF B9 Y9);clear aY aF
          try dsimp only
          refine gK hK aI.row ?_
          try simp only [sX]
          refine onE 4 fun K hK=>?_;go_simp;refine (Qb8 p u (by unfold maxLen;omega) aI.pp).mono ?_;rintro e cT hJ;obtain ⟨a',n',c',q,M',d,m,f,C',cd,rfl,hR,hB,hb⟩:=Qq0 rfl hJ;have bU:=Qaa (aI.past hb);have cK:=Qaa hB.p.r;have cJ:=Qaa hB.p.o;have bC:Hid (cd=0->GdK 0 (M'.map Sd.key)/\PcB 0 q):=Qaa (fun e=>JnR.good aI.gd aI.pc (by omega) (e ▸ hR));have bm:=Qaa aI.bl;have cG:Hid (∀ j,Qhs (.slice a' n' c') M' j->j≠G9):=Qaa (fun j q e=>by have:=(hB.p.hi j q).1;have:=(ZZc.1 bZ).1;omega);have bD:=Qaa (Qaf bZ hb);clear hR hB hb hJ
          try dsimp only
          refine gK hK bU.row ?_
          try simp only [sX]
          obtain ⟨x0,x1,x2,x3,x4,x5,x6⟩:=Qbv bD;obtain ⟨f0,f1,f2,f3,f4,f5,f6⟩:=fA7 bD;refine onE 6 fun K hK=>?_;go_simp;clear x0 x1 x2 x3 x4 x5 x6 f0 f1 f2 f3 f4 f5 f6;refine hK.out _ _ (fun h=>absurd rfl h) ?_
          try simp only [sX]
          refine dnE ?_ _;go_wp2;go_meet;exact ⟨_,_,_,_,_,_,_,_,_,rfl,Qaa (DY.of bU B9 N9 bD bm cK cJ cG bC)⟩
        ·go_simp
         have ap:Bw X0 (X0.alloc (.cells (Qap (.slice none 0 0) q0 (.slice none 0 0) 0) 37)):=bA;have aN:=Qaa (D0.past ap);have bn:=Qaa (ZZk X0 (.cells (Qap (.slice none 0 0) q0 (.slice none 0 0) 0) 37));have bJ:=Qaa D0.lt;have bv:=Qaa D0.bl;clear ap
         try dsimp only
         refine gK hK aN.row ?_
         try simp only [sX]
         generalize X0.alloc _=W12 at aN bn ⊢;generalize X0.heap.size=G12 at bn bJ bv ⊢;refine onE 2 fun K hK=>?_;go_simp;have af:Bw W12 (W12.alloc (.cells zAh 9)):=bA;have aO:=Qaa (aN.past af);have bq:Hid (∀ j,j<3->∃ u,(W12.alloc (.cells zAh 9)).cell? ⟨W12.heap.size,j,none⟩=some (.string u)/\u.size<=2):=Qaa (fun j h=>QeB (by decide) j h);have ci:Hid (s<W12.heap.size):=Qaa (by have:=aN.bl;have:=aN.lb;have:=aN.hs;omega);have bI:=Qaa (Qaf bn af);clear af
         try dsimp only
         refine gK hK aO.row ?_
         try simp only [sX]
         generalize W12.alloc _=W13 at aO bq bI ⊢;generalize W12.heap.size=gl at bq ci ⊢;refine onE 3 fun K hK=>?_;go_simp;refine (QjK HC aO.src gl 3 2 (by have:=ci.out;omega) (by omega) (by omega) bq).mono ?_;rintro e c2 ⟨u,rfl,hu,a5,aA⟩;have aL:=Qaa (aO.step a5 aA);have b4:=Qaa (aO.rowS aA bv bI);clear a5 aA
         try dsimp only
         refine gK hK aL.row ?_
         try simp only [sX]
         refine onE 4 fun K hK=>?_;go_simp;refine (Qb8 p u (by unfold maxLen;omega) aL.pp).mono ?_;rintro e cY hJ;obtain ⟨a',n',c',q,M',d,m,f,C',cd,rfl,hR,hB,hb⟩:=Qq0 rfl hJ;have cf:=Qaa (aL.past hb);have cB:=Qaa hB.p.r;have cH:=Qaa hB.p.o;have bf:Hid (cd=0->GdK 0 (M'.map Sd.key)/\PcB 0 q):=Qaa (fun e=>JnR.good aL.gd aL.pc (by omega) (e ▸ hR));have bAq:=Qaa aL.bl;have cv:Hid (∀ j,Qhs (.slice a' n' c') M' j->j≠G12):=Qaa (fun j q e=>by have:=(hB.p.hi j q).1;have:=(ZZc.1 b4).1;omega);have bw:=Qaa (Qaf b4 hb);clear hR hB hb hJ
         try dsimp only
         refine gK hK cf.row ?_
         try simp only [sX]
         obtain ⟨x0,x1,x2,x3,x4,x5,x6⟩:=Qbv bw;obtain ⟨f0,f1,f2,f3,f4,f5,f6⟩:=fA7 bw;refine onE 6 fun K hK=>?_;go_simp;clear x0 x1 x2 x3 x4 x5 x6 f0 f1 f2 f3 f4 f5 f6;refine hK.out _ _ (fun h=>absurd rfl h) ?_
         try simp only [sX]
         refine dnE ?_ _;go_wp2;go_meet;exact ⟨_,_,_,_,_,_,_,_,_,rfl,Qaa (DY.of cf bv bJ bw bAq cB cH cv bf)⟩
       case rest=>
        obtain ⟨G,a',n',c',q,d,m,f,cd,rfl,HY⟩:=hcut;by_cases ae:cd=0
        ·have aT:(cd == 0)=true:=by simpa using ae
         obtain ⟨y0,y1,y2,y3,y4,y5,y6⟩:=Qbv HY.y;obtain ⟨x0,x1,x2,x3,x4⟩:=Qa2 HY.d.row;obtain ⟨f0,f1,f2,f3,f4⟩:=fA5 HY.d.row;obtain ⟨M2,hN⟩:=HY.put ae;have HN:=Qaa hN;clear hN;go_wp2;go_meet;exact ⟨_,_,_,_,M2,HN⟩
        ·have aT:(cd == 0)=false:=by simpa using ae
         have y6:=Qaz HY.y 6 rfl;go_wp2;go_meet;exact ⟨_,_,_,_,_,Qaa HY.d⟩
      ·have b1:(v == 1)=false:=ZZf.2 h1
       by_cases h2:v=2
       ·subst h2
        obtain ⟨x0,x1,x2,x3,x4⟩:=Qa2 aa.row;go_wp2_with fail;clear x0 x1 x2 x3 x4;refine (QiH p aa.pp).mono ?_;rintro e w7 ⟨a',n',c',q,M',d,m,f,C',cd,rfl,hR,hB,hb⟩;have al:Bw w7 (w7.alloc (.cells (Qap (.slice a' n' c') q (.slice d m f) cd) 37)):=bA;have HY:Hid (DY 0 W B ao ln cap s w (w7.alloc (.cells (Qap (.slice a' n' c') q (.slice d m f) cd) 37)) b ax n cp p M w7.heap.size a' n' c' q d m f cd):=Qaa ⟨(aa.past hb).past al,ZZk w7 _,_,M',aa.bl,hB.p.r.past al,hB.p.o.past al,fun e=>ClR.good aa.gd aa.pc (e ▸ hR)⟩;clear hR hB hb al aa;go_upto_region 17 with fail;generalize w7.alloc _=wc at HY ⊢;generalize w7.heap.size=G at HY ⊢;by_cases ae:cd=0
        ·have aT:(cd == 0)=true:=by simpa using ae
         obtain ⟨y0,y1,y2,y3,y4,y5,y6⟩:=Qbv HY.y;obtain ⟨x0,x1,x2,x3,x4⟩:=Qa2 HY.d.row;obtain ⟨f0,f1,f2,f3,f4⟩:=fA5 HY.d.row;obtain ⟨M2,hN⟩:=HY.put ae;have HN:=Qaa hN;clear hN;go_wp2;go_meet;exact ⟨_,_,_,_,M2,HN⟩
        ·have aT:(cd == 0)=false:=by simpa using ae
         have y6:=Qaz HY.y 6 rfl;go_wp2;go_meet;exact ⟨_,_,_,_,_,Qaa HY.d⟩
       ·have b2:(v == 2)=false:=ZZf.2 h2
        go_upto_region 6 with fail
        go_cut [7] (fun v w'=>∃ (G:Nat) (a':Option Addr) (n' c':Nat) (q:Pi) (d:Option Addr) (m f:Nat) (cd:Int),v=.pointer (some ⟨G,0,none⟩)/\Hid (DY 0 W B ao ln cap s w w' b ax n cp p M G a' n' c' q d m f cd))
        case first=>
         have D0:Hid (DP 0 W B ao ln cap s w w8.drew b ax n cp p M):=aa.past (ZZb _ _).drew;refine Qal (fun X=>X.heap[b]?=some (.cells (Qad (.slice ax n cp) p) 25 (0,0))) 6 (by kernel_rfl) ?_;generalize w8.drew=X0 at D0 ⊢;refine tkL 0 (.agg (Qad (.slice ax n cp) p)) D0.row (fun W hW=>?_) ?_
         ·obtain ⟨x0,x1,x2,x3,x4⟩:=Qa2 hW
          clear hW;go_simp
         refine tkS 1 (.pointer (some ⟨s,0,none⟩)) D0.row ?_;refine tkL 2 (.agg (Qad (.slice ax n cp) p)) D0.row (fun W hW=>?_) ?_
         ·obtain ⟨x0,x1,x2,x3,x4⟩:=Qa2 hW
          clear hW;go_simp
         simp only [sX];refine QqX (i:=3) (j:=5) (by kernel_rfl) rfl rfl (fun K hK=>?_) (fun K hK=>?_)
         ·go_simp
          refine (QkJ p (by have:=D0.pc.1;omega) (by have:=D0.pc.2.1;omega) HC D0.src).mono ?_;rintro e aJ ⟨u,rfl,hu,aV,aW⟩;have ai:=Qaa (D0.step aV aW);clear aV aW
          try dsimp only
          refine gK hK ai.row ?_
          try simp only [sX]
          refine QqX (i:=4) (j:=5) (by kernel_rfl) rfl rfl (fun K hK=>?_) (fun K hK=>?_)
          ·go_simp
           refine (Qdr p u (by unfold maxLen;omega) ai.pp).mono ?_;rintro e ay ⟨a',n',c',q,M',d,m,f,C',cd,rfl,hR,hB,hb⟩;have ba:=Qaa (ai.past hb);have ct:=Qaa hB.p.r;have bV:=Qaa hB.p.o;have bg:Hid (cd=0->GdK 0 (M'.map Sd.key)/\PcB 0 q):=Qaa (fun e=>LiR.good ai.gd ai.pc (e ▸ hR));have bG:=Qaa ai.bl;clear hR hB hb
           try dsimp only
           refine gK hK ba.row ?_
           try simp only [sX]
           refine onE 5 fun K hK=>?_;go_simp;have ac:Bw ay (ay.alloc (.cells (Qap (.slice none 0 0) q0 (.slice none 0 0) 0) 37)):=bA;have bb:=Qaa (ba.past ac);have a7:=Qaa (ZZk ay (.cells (Qap (.slice none 0 0) q0 (.slice none 0 0) 0) 37));have co:=Qaa ba.lt;have ce:=Qaa ba.bl;have bR:=Qaa (ct.past ac);have bH:=Qaa (bV.past ac);have bW:Hid (∀ j,Qhs (.slice a' n' c') M' j->j≠ay.heap.size):=Qaa (fun j q e=>by have:=((PpB.of ct bV).hi j q).2;omega);clear ac
           try dsimp only
           refine gK hK bb.row ?_
           try simp only [sX]
           generalize ay.alloc _=W18 at bb a7 bR bH ⊢;generalize ay.heap.size=G18 at a7 co ce bW ⊢;obtain ⟨x0,x1,x2,x3,x4,x5,x6⟩:=Qbv a7;obtain ⟨f0,f1,f2,f3,f4,f5,f6⟩:=fA7 a7;refine onE 6 fun K hK=>?_;go_simp;clear x0 x1 x2 x3 x4 x5 x6 f0 f1 f2 f3 f4 f5 f6;refine hK.out _ _ (fun h=>absurd rfl h) ?_
           try simp only [sX]
           refine dnE ?_ _;go_wp2;go_meet;exact ⟨_,_,_,_,_,_,_,_,_,rfl,Qaa (DY.of bb ce co a7 bG bR bH bW bg)⟩
          ·go_simp
           have aq:Bw aJ (aJ.alloc (.cells (Qap (.slice none 0 0) q0 (.slice none 0 0) 0) 37)):=bA;have aD:=Qaa (ai.past aq);have a9:=Qaa (ZZk aJ (.cells (Qap (.slice none 0 0) q0 (.slice none 0 0) 0) 37));have ch:=Qaa ai.lt;have cj:=Qaa ai.bl;clear aq
           try dsimp only
           refine gK hK aD.row ?_
           try simp only [sX]
           generalize aJ.alloc _=W19 at aD a9 ⊢;generalize aJ.heap.size=G19 at a9 ch cj ⊢;refine onE 4 fun K hK=>?_;go_simp;refine (Qdr p u (by unfold maxLen;omega) aD.pp).mono ?_;rintro e c6 ⟨a',n',c',q,M',d,m,f,C',cd,rfl,hR,hB,hb⟩;have bK:=Qaa (aD.past hb);have cu:=Qaa hB.p.r;have cM:=Qaa hB.p.o;have bt:Hid (cd=0->GdK 0 (M'.map Sd.key)/\PcB 0 q):=Qaa (fun e=>LiR.good aD.gd aD.pc (e ▸ hR));have bz:=Qaa aD.bl;have cL:Hid (∀ j,Qhs (.slice a' n' c') M' j->j≠G19):=Qaa (fun j q e=>by have:=(hB.p.hi j q).1;have:=(ZZc.1 a9).1;omega);have bs:=Qaa (Qaf a9 hb);clear hR hB hb
           try dsimp only
           refine gK hK bK.row ?_
           try simp only [sX]
           obtain ⟨x0,x1,x2,x3,x4,x5,x6⟩:=Qbv bs;obtain ⟨f0,f1,f2,f3,f4,f5,f6⟩:=fA7 bs;refine onE 6 fun K hK=>?_;go_simp;clear x0 x1 x2 x3 x4 x5 x6 f0 f1 f2 f3 f4 f5 f6;refine hK.out _ _ (fun h=>absurd rfl h) ?_
           try simp only [sX]
           refine dnE ?_ _;go_wp2;go_meet;exact ⟨_,_,_,_,_,_,_,_,_,rfl,Qaa (DY.of bK cj ch bs bz cu cM cL bt)⟩
         ·go_simp
          have au:Bw X0 (X0.alloc (.cells (Qap (.slice none 0 0) q0 (.slice none 0 0) 0) 37)):=bA;have aC:=Qaa (D0.past au);have bc:=Qaa (ZZk X0 (.cells (Qap (.slice none 0 0) q0 (.slice none 0 0) 0) 37));have bS:=Qaa D0.lt;have bu:=Qaa D0.bl;clear au
          try dsimp only
          refine gK hK aC.row ?_
          try simp only [sX]
          generalize X0.alloc _=W21 at aC bc ⊢;generalize X0.heap.size=G21 at bc bS bu ⊢;refine onE 3 fun K hK=>?_;go_simp;refine (QkJ p (by have:=aC.pc.1;omega) (by have:=aC.pc.2.1;omega) HC aC.src).mono ?_;rintro e c5 ⟨u,rfl,hu,aR,az⟩;have aK:=Qaa (aC.step aR az);have bL:=Qaa (aC.rowS az bu bc);clear aR az
          try dsimp only
          refine gK hK aK.row ?_
          try simp only [sX]
          refine onE 4 fun K hK=>?_;go_simp;refine (Qdr p u (by unfold maxLen;omega) aK.pp).mono ?_;rintro e c1 ⟨a',n',c',q,M',d,m,f,C',cd,rfl,hR,hB,hb⟩;have b9:=Qaa (aK.past hb);have cA:=Qaa hB.p.r;have cD:=Qaa hB.p.o;have bd:Hid (cd=0->GdK 0 (M'.map Sd.key)/\PcB 0 q):=Qaa (fun e=>LiR.good aK.gd aK.pc (e ▸ hR));have bj:=Qaa aK.bl;have cI:Hid (∀ j,Qhs (.slice a' n' c') M' j->j≠G21):=Qaa (fun j q e=>by have:=(hB.p.hi j q).1;have:=(ZZc.1 bL).1;omega);have bi:=Qaa (Qaf bL hb);clear hR hB hb
          try dsimp only
          refine gK hK b9.row ?_
          try simp only [sX]
          obtain ⟨x0,x1,x2,x3,x4,x5,x6⟩:=Qbv bi;obtain ⟨f0,f1,f2,f3,f4,f5,f6⟩:=fA7 bi;refine onE 6 fun K hK=>?_;go_simp;clear x0 x1 x2 x3 x4 x5 x6 f0 f1 f2 f3 f4 f5 f6;refine hK.out _ _ (fun h=>absurd rfl h) ?_
          try simp only [sX]
          refine dnE ?_ _;go_wp2;go_meet;exact ⟨_,_,_,_,_,_,_,_,_,rfl,Qaa (DY.of b9 bu bS bi bj cA cD cI bd)⟩
        case rest=>
         obtain ⟨G,a',n',c',q,d,m,f,cd,rfl,HY⟩:=hcut;by_cases ae:cd=0
         ·have aT:(cd == 0)=true:=by simpa using ae
          obtain ⟨y0,y1,y2,y3,y4,y5,y6⟩:=Qbv HY.y;obtain ⟨x0,x1,x2,x3,x4⟩:=Qa2 HY.d.row;obtain ⟨f0,f1,f2,f3,f4⟩:=fA5 HY.d.row;obtain ⟨M2,hN⟩:=HY.put ae;have HN:=Qaa hN;clear hN;go_wp2;go_meet;exact ⟨_,_,_,_,M2,HN⟩
         ·have aT:(cd == 0)=false:=by simpa using ae
          have y6:=Qaz HY.y 6 rfl;go_wp2;go_meet;exact ⟨_,_,_,_,_,Qaa HY.d⟩
    case rest=>
     obtain ⟨ax,n,cp,p,M,HD⟩:=hcut;go_wp2;go_roundw
     case rel=>exact ⟨j - 1,by first | rfl | go_num,by omega,_,_,_,_,_,HD⟩
     case measure=>simp [Go.RowKit.intOf];omega
 case rest=>
  obtain ⟨rfl,ax,n,cp,p,M,HD⟩:=hcut;clear bE;go_upto_region 19 with fail
  go_cut [74] (fun v w'=>∃ b':Bool,v=.bool b'/\(b'=true->0<n)/\Hid (DP 0 W B ao ln cap s w w' b ax n cp p M))
  case first=>
   go_wp2_with fail;refine (QfR HC HD.src 20 (by omega)).mono ?_;rintro e w7 ⟨b7,rfl,hS,hg⟩;have aw:=Qaa (HD.step hS hg);clear hS hg HD
   cases b7 with
   | false=>
    go_wp2;go_meet;exact ⟨false,rfl,by simp,aw⟩
   | true=>
    have x0:=Qaz aw.row 0 rfl;go_wp2;go_meet;exact ⟨_,rfl,fun h=>by simpa using h,aw⟩
  case rest=>
   clear HD;obtain ⟨b',rfl,bM,HD⟩:=hcut;go_upto_if 74 with fail
   go_cut [] (fun w'=>∃ (ax:Option Addr) (n cp:Nat) (p:Pi) (M:List Sd),Hid (DP 1 W B ao ln cap s w w' b ax n cp p M))
   case first=>
    cases b' with
    | false=>
     go_wp2;go_meet;exact ⟨_,_,_,_,_,Qaa HD.weak⟩
    | true=>
     have bM:=bM rfl;have bX:M.length=n:=QbI HD.r;have cC:n<=14:=by have:=HD.gd.1;rw [yA] at this;omega
     obtain ⟨gs,cs,e⟩:=Qhb HD.r (by omega);injection e with e1 e2 e3;subst e1;subst e3;have cN:=Qaa bX;clear e2 bX;have x0:=Qaz HD.row 0 rfl;go_wp2_with fail;clear x0;refine (c_n HC HD.src n (by omega)).mono ?_;rintro e w7 ⟨i,rfl,i0,i1,_,hS,hg⟩;have i1:=i1 (by omega);obtain ⟨i,rfl⟩:=Int.eq_ofNat_of_zero_le i0;have aw:=Qaa (HD.step hS hg);clear hS hg HD;go_wp2_with fail;refine (c_n HC aw.src 5 (by omega)).mono ?_;rintro e w8 ⟨v,rfl,v0,v1,_,hS,hg⟩;have aa:=Qaa (aw.step hS hg);clear hS hg aw;obtain ⟨t,ht⟩:∃ t,M[i]?=some t:=⟨M[i]'(by have:=cN.out;omega),ZZe _⟩;have aH:=Qaa ht;obtain ⟨x0,x1,x2,x3,x4⟩:=Qa2 aa.row;clear ht;by_cases h0:v=0
     ·subst h0
      have q0:=Qh7 aa.r aa.o aH;obtain ⟨cg,ab⟩:=Qge aa.r;have fz:=fzR (i*2) ab;obtain ⟨M2,hN⟩:=aa.name aH (u:=⟨#[97]⟩) (by decide);have HN:=Qaa hN;clear ab hN;go_wp2;go_meet;exact ⟨_,_,_,_,M2,HN⟩
     ·have b0:(v == 0)=false:=ZZf.2 h0
      by_cases h1:v=1
      ·subst h1
       have f4:=fzR 4 aa.row;have hd:=aa.pc;have cX:IntKind.i64.wrap (p.d+1)=p.d+1:=ZZi _ ⟨by have:=hd.2.2.1;omega,by have:=hd.2.2.2;omega⟩;have HN:=Qaa (aa.setb 4 (.int .i64 (p.d+1)) (q:=⟨p.a,p.b,p.c,p.d+1⟩) rfl ⟨hd.1,hd.2.1,by show 0<=p.d+1;have:=hd.2.2.1;omega,by show p.d+1<=1000000001+1;have:=hd.2.2.2;omega⟩);clear hd;go_wp2;go_meet;exact ⟨_,_,_,_,_,HN⟩
      ·have b1:(v == 1)=false:=ZZf.2 h1
       by_cases h2:v=2
       ·subst h2
        clear x0 x1 x2 x3 x4;have a3:Bw w8 (w8.alloc (.cells #[.int .i64 0,.int .i64 1000,.int .i64 1001] 2)):=bA;have ah:=Qaa (aa.past a3);have aj:=Qaa (ZZk w8 (.cells #[.int .i64 0,.int .i64 1000,.int .i64 1001] 2));have aE:=Qaa aa.bl;clear a3;go_wp2_with fail;generalize w8.alloc _=w9 at ah aj ⊢;generalize w8.heap.size=gl at aj aE ⊢;refine (c_n HC ah.src 3 (by omega)).mono ?_;rintro e wA ⟨y,rfl,y0,y1,_,hS,hg⟩;have y1:=y1 (by omega);have ak:=Qaa (ah.step hS hg);have av:=Qaa (ah.rowS hg aE aj);clear hS hg aj ah;have f1:=fzR 1 ak.row;have x1:=Qaz ak.row 1 rfl;have l0:=Qaz av 0 rfl;have l1:=Qaz av 1 rfl;have l2:=Qaz av 2 rfl;have hd:=ak.pc.weak1;have HN:=Qaa (fun z:Int=>ak.setb 1 (.int .i64 z) (q:=⟨z,p.b,p.c,p.d⟩) rfl hd);clear hd;rcases (by omega:y=0∨y=1∨y=2) with rfl | rfl | rfl
        all_goals
         go_wp2;go_meet;exact ⟨_,_,_,_,_,Qaa (HN.out _)⟩
       ·have b2:(v == 2)=false:=ZZf.2 h2
        by_cases h3:v=3
        ·subst h3
         clear x0 x1 x2 x3 x4;have a3:Bw w8 (w8.alloc (.cells zAe 2)):=bA;have ah:=Qaa (aa.past a3);have aj:=Qaa (ZZk w8 (.cells zAe 2));have aE:=Qaa aa.bl;clear a3;go_wp2_with fail;generalize w8.alloc _=w9 at ah aj ⊢;generalize w8.heap.size=gl at aj aE ⊢;refine (c_n HC ah.src 3 (by omega)).mono ?_;rintro e wA ⟨y,rfl,y0,y1,_,hS,hg⟩;have y1:=y1 (by omega);have ak:=Qaa (ah.step hS hg);have av:=Qaa (ah.rowS hg aE aj);clear hS hg aj ah;have f3:=fzR 3 ak.row;have x3:=Qaz ak.row 3 rfl;have l0:=Qaz av 0 rfl;have l1:=Qaz av 1 rfl;have l2:=Qaz av 2 rfl;have hd:=ak.pc.weak1;have HN:=Qaa (fun (z:Int) (hz:-1<=z) (hz2:z<=1000000001)=>ak.setb 3 (.int .i64 z) (q:=⟨p.a,p.b,z,p.d⟩) rfl ⟨hz,hz2,hd.2.2⟩);clear hd;rcases (by omega:y=0∨y=1∨y=2) with rfl | rfl | rfl
         all_goals
          go_wp2;go_meet;exact ⟨_,_,_,_,_,Qaa (HN.out _ (by omega) (by omega))⟩
        ·have b3:(v == 3)=false:=ZZf.2 h3
         clear x0 x1 x2 x3 x4;go_upto_region 22 with fail;have aM:Bw w8 w8.drew:=(ZZb _ _).drew;have SF:Hid (∀ X,Bw w8 X->X.heap[b]?=some (.cells (Qad (.slice (some ⟨gs,0,none⟩) n cp) p) 25 (0,0))/\X.cell? ⟨gs,i*2+1,none⟩=some (.slice t.ao t.L.length t.cp)):=Qaa (fun X hb=>⟨(aa.past hb).row,QcR (aa.past hb).r (aa.past hb).o aH⟩);have S0:=SF.out _ aM;have bx:=aa.pc;have cV:IntKind.i64.wrap (p.d+3)=p.d+3:=ZZi _ ⟨by have:=bx.2.2.1;omega,by have:=bx.2.2.2;omega⟩;clear bx;refine Qal (fun X=>X.heap[b]?=some (.cells (Qad (.slice (some ⟨gs,0,none⟩) n cp) p) 25 (0,0))/\X.cell? ⟨gs,i*2+1,none⟩=some (.slice t.ao t.L.length t.cp)) 20 (by kernel_rfl) ?_;refine tkS 0 (.pointer (some ⟨b,0,none⟩)) S0 ?_;refine tkL 1 (.slice (some ⟨gs,0,none⟩) n cp) S0 (fun W hW=>?_) ?_
         ·have q0:=Qaz hW.1 0 rfl
          clear hW;go_simp
         refine tkS 2 (.int .i64 i) S0 ?_;simp only [sX];refine tkS 3 (.pointer (some ⟨b,0,none⟩)) S0 ?_;refine tkL 4 (.slice (some ⟨gs,0,none⟩) n cp) S0 (fun W hW=>?_) ?_
         ·have q0:=Qaz hW.1 0 rfl
          clear hW;go_simp
         refine tkS 5 (.int .i64 i) S0 ?_;simp only [sX];refine tkS 6 (.pointer (some ⟨gs,i*2,none⟩)) S0 ?_;refine tkS 7 (.pointer (some ⟨gs,i*2+1,none⟩)) S0 ?_;refine tkL 8 (.slice t.ao t.L.length t.cp) S0 (fun W hW=>?_) ?_
         ·have q0:=hW.2
          clear hW;go_simp
         simp only [sX];refine tkS 9 (.pointer (some ⟨b,4,none⟩)) S0 ?_;refine tkL 10 (.int .i64 p.d) S0 (fun W hW=>?_) ?_
         ·have q0:=Qaz hW.1 4 rfl
          clear hW;go_simp
         refine tkS 11 (.int .i64 (p.d+3)) S0 ?_;simp only [sX];refine tkS 13 (.agg (Qa3 ⟨1,⟨#[122,122,123,125]⟩,0,⟨#[]⟩,1,false,0⟩)) S0 ?_;simp only [sX];refine onE 12 fun K hK=>?_;go_simp;refine (QlL (k:=1) (by omega) (by omega)).mono ?_;rintro e w9 ⟨rfl,bP⟩;have bp:Bw w8 w9:=Qac aM bP;have S9:=SF.out _ bp;clear bP;dsimp only;refine gK hK S9 ?_
         try simp only [sX]
         refine onE 14 fun K hK=>?_;go_simp;obtain ⟨_,n2,n3,n4,n5⟩:=Qgv (k:=1) (by omega) (by omega);refine (QnQ ⟨1,⟨#[122,122,123,125]⟩,0,⟨#[]⟩,1,false,0⟩ n2 xzOk n3 (n5 w9 0).plgX (n5 w9 0).at).mono ?_;rintro e wA ⟨vA,o,rfl,hP,⟨pl,rfl,hO⟩,bh⟩;have cq:=Qaa (⟨(Qgw xzOk n2 hP).1,put_sm hP n3⟩:AgOk o/\AgSm o);have HO:=Qaa hO;have cS:=Qaa bh;have aX:Bw w8 wA:=Qac bp bh;have bN:=SF.out _ aX;clear hP hO bh n2 n3 n4 n5;dsimp only;refine gK hK bN ?_
         try simp only [sX]
         refine tkS 15 (.agg (Qan ⟨p.d+3,⟨#[122,122,123,125]⟩,o,pl⟩)) bN ?_;simp only [sX];refine onE 16 fun K hK=>?_;go_simp;have br:Bw wA (wA.alloc (.cells (Qan ⟨p.d+3,⟨#[122,122,123,125]⟩,o,pl⟩) 75)):=bA;have c3:=Qaa br;have aZ:Bw w8 (wA.alloc (.cells (Qan ⟨p.d+3,⟨#[122,122,123,125]⟩,o,pl⟩) 75)):=Qac aX br;have DA:=Qaa (aa.past aZ);refine hK.out _ _ (fun _=>SF.out _ aZ) ?_;clear br
         try simp only [sX]
         refine onE 17 fun K hK=>?_;rw [if_pos (by rfl)];have hm:=ZZn aH;have ow:=DA.o.r t hm;unfold OwnC at ow;have b5:w.heap.size+1<=(wA.alloc (.cells (Qan ⟨p.d+3,⟨#[122,122,123,125]⟩,o,pl⟩) 75)).heap.size:=by have:=DA.bl;have:=DA.lb;omega
         have hl:=(DA.gd.sh hm).2.1;refine QfP _ (.tmp 90) (.tmp 98) 35 rfl (w.heap.size+1) 75 j0 (.agg QbC) 15 192 underlying35 hj cO cQ cz rfl (by decide) _ _ _ rfl ow ⟨wA.heap.size,0,none⟩ 1 1 (ceL ⟨p.d+3,⟨#[122,122,123,125]⟩,o,pl⟩) rfl rfl QbO (QcK _) (by unfold maxLen;omega) (by omega) b5 ?_;intro v8 wE aG ad aS;obtain ⟨a8,c8,rfl⟩:∃ ar cr,v8=.slice ar (t.L.length+1) cr:=QeJ aG;obtain ⟨M2,hN⟩:=(aa.past bp).app cS HO.out aH ⟨cq.1,cq.2,zzSz⟩ aG ad aS;have HN:=Qaa hN;obtain ⟨cg,ab⟩:=Qge DA.r;have ag:wE.heap[gs]?=some (.cells cg 56 (0,0)):=(ad.block gs (ZZc.1 ab).1 (fun e=>DA.r.neB DA.o hm gs (.inl e.symm) rfl)).trans ab;have q1:wE.cell? ⟨gs,i*2+1,none⟩=some (.slice t.ao t.L.length t.cp):=by rw [cell_of_row wE gs _ _ _ _ ag,<- cell_of_row _ gs _ _ _ _ ab];exact QcR DA.r DA.o aH
         have fz:=fzR (i*2+1) ag;have b6:wE.heap[b]?=some (.cells (Qad (.slice (some ⟨gs,0,none⟩) n cp) p) 25 (0,0)):=(ad.block b DA.bl (fun e=>DA.nb b (.inr ⟨t,hm,.inl e.symm⟩) rfl)).trans DA.row;have SE:wE.heap[b]?=some (.cells (Qad (.slice (some ⟨gs,0,none⟩) n cp) p) 25 (0,0))/\wE.cell? ⟨gs,i*2+1,none⟩=some (.slice t.ao t.L.length t.cp):=⟨b6,q1⟩;clear hN aG ad aS ow b5 ab ag b6;refine gK hK SE ?_
         try simp only [sX]
         refine onE 18 fun K hK=>?_;go_simp;refine gK hK SE ?_
         try simp only [sX]
         refine onE 19 fun K hK=>?_;go_simp;refine gK hK SE ?_
         try simp only [sX]
         refine onE 20 fun K hK=>?_;go_simp;clear q1 fz;refine hK.out _ _ (fun h=>absurd rfl h) ?_
         try simp only [sX]
         refine dnE ?_ _;go_wp2;go_meet;exact ⟨_,_,_,_,M2,HN⟩
   case rest=>
    clear HD;obtain ⟨ax,n,cp,p,M,HD⟩:=hcut;obtain ⟨x0,x1,x2,x3,x4⟩:=Qa2 HD.row;obtain ⟨y0,y1,y2,y3,y4⟩:=Qa2 HD.res;obtain ⟨f0,f1,f2,f3,f4⟩:=fA5 HD.res;go_wp2;refine bodyPost_ret (v:=.agg (Qad (.slice ax n cp) p)) (by simp [results,results21,go_sem,y0,y1,y2,y3,y4]) rfl ?_;obtain ⟨g1,g2,g3,g4⟩:=HD.fin (.slice ax n cp) (.int .i64 p.a) (.int .i64 p.b) (.int .i64 p.c) (.int .i64 p.d) rfl;exact ⟨ax,n,cp,p,M,rfl,g1,g2,g3,g4,HD.gd,HD.pc⟩
end Go.Proofs.YtlejlgldgafljaaGreatDoor
