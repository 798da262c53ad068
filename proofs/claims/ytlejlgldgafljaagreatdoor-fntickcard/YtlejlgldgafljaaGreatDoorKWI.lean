/-
 Parts.
-/
import Derived.Test.YtlejlgldgafljaaGreatDoorKWG
set_option maxHeartbeats 8000000
set_option linter.all false
namespace Go.Proofs.YtlejlgldgafljaaGreatDoor
open Go.ChangeShapes Go.WideShapes Go.ChangeAt Go.RowKit Go.PlainAid Go.Lib Go.Maps Tryz
set_option maxRecDepth 10000
variable {w:World}
theorem Qqn {w':World} (hb:Below w.heap.size w w') {g j m:Nat} (h:∃ u,w.cell? ⟨g,j,none⟩=some (.string u)/\u.size<=m):∃ u,w'.cell? ⟨g,j,none⟩=some (.string u)/\u.size<=m:=by
 obtain ⟨u,h1,h2⟩:=h;exact ⟨u,by rw [hb.cell (Qhy h1)];exact h1,h2⟩
theorem put_sm {g o:Ag} {x:Sx} (h:QbF g x o) (sm:AgSm g):AgSm o:=by
 unfold QbF at h
 split at h
 ·exact (Qlw h).sm
 ·rw [h];exact sm
theorem zzSz:(⟨#[122,122,123,125]⟩:ByteArray).size<=maxLen:=by decide
theorem xzOk:(⟨1,⟨#[122,122,123,125]⟩,0,⟨#[]⟩,1,false,0⟩:Sx).Ok:=⟨by show I64 1;unfold I64;omega,by show I64 0;unfold I64;omega,by show U64 1;unfold U64;omega,by show I64 0;unfold I64;omega,by decide,by decide⟩
theorem Qn6 {W:World} {B ln cap s:Nat} {ao:Option Addr} (hc:Qbd W B ao ln) (h:Src W B ao ln cap s w) :
  Calls prog 21 #[.pointer (some ⟨s,0,none⟩)] w fun e w'=>DrawnP W B ao ln cap s w e w':=by
 obtain ⟨j0,hj,cB,cM,cS⟩:=Qf8;have HC:=Qaa hc;have hs:=Qcs h;have a0:Below w.heap.size w (w.alloc (.cells (Qaf (.slice none 0 0) q0) 25)):=(ZZb _ _).alloc (ZZa _) _;have aM:=Qaa (QaK h a0);have bx:=Qaa (ZZk w (.cells (Qaf (.slice none 0 0) q0) 25));have bp:Hid (w.grownBy (w.alloc (.cells (Qaf (.slice none 0 0) q0) 25)) (some s)):=(⟨a0.os,a0.tape,a0.output,a0.size,fun j hj _=>a0.block j hj⟩:w.grownBy _ (some s));have HZ:Hid ((w.alloc (.cells (Qaf (.slice none 0 0) q0) 25)).heap.size=w.heap.size+1):=Qaa (by simp);clear hc h a0;go_enter func21,ntmps21;go_wp2_with fail;generalize w.alloc (.cells (Qaf (.slice none 0 0) q0) 25)=W0 at aM bx bp HZ ⊢;have bq:s<W0.heap.size:=by have:=HZ.out;omega
 refine (Qj2 HC aM).mono ?_;rintro e w1 ⟨v,L,rfl,hl,hM⟩;obtain ⟨al,cl,rfl⟩:=Qew hM.own;have HM:=Qaa hM;clear hM aM;go_wp2_with fail;refine (c_n HC HM.out.src 10 (by omega)).mono ?_;rintro e w2 ⟨v2,rfl,a2,b2,_,ci,cb⟩;have b2:=b2 (by omega);have bC:=Qaa (HM.out.call bq ci cb);have cD:IntKind.i64.wrap (1+v2)=1+v2:=ZZi _ ⟨by omega,by omega⟩;clear ci cb HM;go_wp2_with fail;refine (c_n HC bC.out.src 6 (by omega)).mono ?_;rintro e w3 ⟨v3,rfl,a3,b3,_,co,b5⟩;have aq:=Qaa (bC.out.call bq co b5);clear co b5 bC;go_wp2_with fail;refine (Qks cl (1+v2) v3 (by omega) (fun u hu=>by have:=aq.out.sz u hu;omega) (Qnv aq.out.own)).mono ?_;rintro e w4 ⟨v4,R,a',b',rfl,hR,hO,aW⟩;obtain ⟨ax,cx,rfl⟩:=Qew hO;have a4:Below w4.heap.size w4 (w4.alloc (.cells (Qaf (.slice ax R.length cx) ⟨a',b',0,0⟩) 25)):=(ZZb _ _).alloc (ZZa _) _
 have HD:Hid (DP 0 W B ao ln cap s w (w4.alloc (.cells (Qaf (.slice ax R.length cx) ⟨a',b',0,0⟩) 25)) w4.heap.size ax R.length cx ⟨a',b',0,0⟩ (R.map mk0)):=by
  have z3:=aq.out.gr.size;have z4:=aW.size;have z0:=HZ.out;obtain ⟨r,o⟩:=Qq7 hO
  have bM:R.length<=14/\∀ u∈R,u.size<=10:=by
   split at hR
   ·injection hR with h1 _
    subst h1;exact ⟨hl,aq.out.sz⟩
   ·injection hR with h1 _
    subst h1;exact ⟨by simp,by simp⟩
  have hg:w.grownBy w4 (some s):=QaB (bp.out.trans aq.out.gr) (aW.mono (by omega));refine Qaa ⟨QaK (QaK aq.out.src aW) a4,QaB hg (a4.mono (by omega)),hs,?_,ZZk w4 _,by omega,(r.le (by omega)).past a4,(o.le (by omega)).past a4,fun j q e=>?_,gd_new bM.1 bM.2,⟨by show (-1:Int)<=0;omega,by show (0:Int)<=1000000001;omega,by show (0:Int)<=0;omega,by show (0:Int)<=1000000001+0;omega⟩⟩
  ·exact (a4.block _ (by omega)).trans ((aW.block _ (by omega)).trans ((aq.out.gr.block _ (by omega) (fun e=>by cases e;omega)).trans bx))
  ·have:=((PpB.of r o).hi j q).2
   omega
 clear hR hO aW a4 aq bx bp HZ bq a2 b2 a3 b3 cD;go_upto_region 2 with fail;generalize w4.alloc (.cells (Qaf (.slice ax R.length cx) ⟨a',b',0,0⟩) 25)=W5 at HD ⊢;generalize w4.heap.size=b at HD ⊢;obtain ⟨cT,c1,sz,aZ,_,_,z0,z1⟩:=HD.out.src.blk;have cz:W5.cell? ⟨s,3,none⟩=some (.int .i64 sz):=by rw [cell_of_row W5 s 3 _ _ (0,0) aZ];rfl
 have hw:IntKind.i64.wrap (6+sz)=6+sz:=ZZi _ ⟨by omega,by omega⟩;clear aZ;go_wp2_with fail;clear cz;refine (c_n HC HD.out.src (6+sz) (by omega)).mono ?_;rintro e w6 ⟨k,rfl,k0,k1,_,bX,bT⟩;have k1:=k1 (by omega);have bD:=Qaa (HD.out.step bX bT);obtain ⟨k,rfl⟩:=Int.eq_ofNat_of_zero_le k0;have aP:k<=17:=by omega
 clear HD bX bT k1 k0 hw z0 z1;go_upto_block 0 with fail
 go_cut [3] (fun p' w'=>p'=.pointer (some ⟨b,0,none⟩)/\∃ (ax:Option Addr) (n cp:Nat) (p:Pi) (M:List Sd),Hid (DP 0 W B ao ln cap s w w' b ax n cp p M))
 case first=>
  go_wp2_with fail
  go_loopw [4] (fun kv wr=>∃ (j:Nat),kv=.int .i64 j/\j<=17/\∃ (ax:Option Addr) (n cp:Nat) (p:Pi) (M:List Sd),Hid (DP 0 W B ao ln cap s w wr b ax n cp p M)) (fun kv wr=>(RowKit.intOf kv).toNat)
  case atStart=>exact ⟨k,rfl,aP,_,_,_,_,_,bD⟩
  case round=>
   clear bD aP;obtain ⟨j,rfl,hj,ax,n,cp,p,M,HD⟩:=hrel;rcases Nat.eq_zero_or_pos j with h0 | h0
   ·subst h0
    go_wp2;go_meet;exact ⟨rfl,_,_,_,_,_,HD⟩
   ·have c3:(0:Int)<(j:Int):=by omega
    have cW:IntKind.i64.wrap ((j:Int) - 1)=((j - 1:Nat):Int):=by rw [show (j:Int) - 1=((j - 1:Nat):Int) by omega];exact ZZi _ ⟨by omega,by omega⟩
    go_upto_block 1 with fail
    go_cut [] (fun w'=>∃ (ax:Option Addr) (n cp:Nat) (p:Pi) (M:List Sd),Hid (DP 0 W B ao ln cap s w w' b ax n cp p M))
    case first=>
     go_wp2_with fail;refine (c_n HC HD.out.src 7 (by omega)).mono ?_;rintro e w8 ⟨v,rfl,v0,v1,_,hS,hg⟩;have aa:=Qaa (HD.out.step hS hg);clear hS hg HD;by_cases h0:v=0
     ·subst h0
      go_upto_region 10 with fail;have D0:Hid (DP 0 W B ao ln cap s w w8.drew b ax n cp p M):=aa.out.past (ZZb _ _).drew;refine Qal (fun X=>X.heap[b]?=some (.cells (Qaf (.slice ax n cp) p) 25 (0,0))) 4 (by kernel_rfl) ?_;generalize w8.drew=X0 at D0 ⊢;refine tkL 0 (.agg (Qaf (.slice ax n cp) p)) D0.out.row (fun W hW=>?_) ?_
      ·obtain ⟨x0,x1,x2,x3,x4⟩:=Qa0 hW
       clear hW;go_simp
      refine tkS 1 (.pointer (some ⟨s,0,none⟩)) D0.out.row ?_;simp only [sX];refine onE 2 fun K hK=>?_;go_simp;refine (c_n HC D0.out.src 12 (by omega)).mono ?_;rintro e W1 ⟨v,rfl,v0,v1,_,bR,cm⟩;have D1:=Qaa (D0.out.step bR cm);clear bR cm
      try dsimp only
      refine gK hK D1.out.row ?_
      try simp only [sX]
      refine onE 3 fun K hK=>?_;go_simp;refine (Qfk p v D1.out.pp).mono ?_;rintro e W2 ⟨vv,M',rfl,hC⟩;obtain ⟨a',c',rfl,_⟩:=hC.r.form;have D2:=Qaa (D1.out.past hC.b);have bB:=Qaa hC;have ay:=Qaa D1.out.bl;clear hC
      try dsimp only
      refine gK hK D2.out.row ?_
      try simp only [sX]
      obtain ⟨x0,x1,x2,x3,x4⟩:=Qa0 D2.out.row;obtain ⟨f0,f1,f2,f3,f4⟩:=fA5 D2.out.row;refine onE 4 fun K hK=>?_;go_simp;clear x0 x1 x2 x3 x4 f0 f1 f2 f3 f4;refine hK.out _ _ (fun h=>absurd rfl h) ?_
      try simp only [sX]
      refine dnE ?_ _;go_wp2;go_meet;exact ⟨_,_,_,_,M',Qaa (D2.out.put bB.out.r bB.out.o ay (by rw [bB.out.ky];exact D2.out.gd) (QoR D2.out.pc))⟩
     ·have b0:(v == 0)=false:=ZZf.2 h0
      by_cases h1:v=1
      ·subst h1
       go_upto_region 12 with fail
       go_cut [5] (fun v w'=>∃ (G:Nat) (a':Option Addr) (n' c':Nat) (q:Pi) (d:Option Addr) (m f:Nat) (cd:Int),v=.pointer (some ⟨G,0,none⟩)/\Hid (DY 0 W B ao ln cap s w w' b ax n cp p M G a' n' c' q d m f cd))
       case first=>
        have D0:Hid (DP 0 W B ao ln cap s w w8.drew b ax n cp p M):=aa.out.past (ZZb _ _).drew;refine Qal (fun X=>X.heap[b]?=some (.cells (Qaf (.slice ax n cp) p) 25 (0,0))) 6 (by kernel_rfl) ?_;generalize w8.drew=X0 at D0 ⊢;refine tkL 0 (.agg (Qaf (.slice ax n cp) p)) D0.out.row (fun W hW=>?_) ?_
        ·obtain ⟨x0,x1,x2,x3,x4⟩:=Qa0 hW
         clear hW;go_simp
        refine tkS 1 (.pointer (some ⟨s,0,none⟩)) D0.out.row ?_;simp only [sX];refine Qos (i:=2) (j:=5) (by kernel_rfl) rfl rfl (fun K hK=>?_) (fun K hK=>?_)
        ·go_simp
         have aS:Below X0.heap.size X0 (X0.alloc (.cells #[.string ⟨#[109]⟩,.string ⟨#[110,51]⟩,.string ⟨#[113]⟩] 9)):=(ZZb _ _).alloc (ZZa _) _;have D3:=Qaa (D0.out.past aS);have L3:Hid (∀ j,j<3->∃ u,(X0.alloc (.cells #[.string ⟨#[109]⟩,.string ⟨#[110,51]⟩,.string ⟨#[113]⟩] 9)).cell? ⟨X0.heap.size,j,none⟩=some (.string u)/\u.size<=2):=Qaa (fun j h=>QfG (by decide) j h);have Q3:Hid (s<X0.heap.size):=Qaa (by have:=D0.out.bl;have:=D0.out.lb;have:=D0.out.hs;omega);clear aS
         try dsimp only
         refine gK hK D3.out.row ?_
         try simp only [sX]
         generalize X0.alloc (.cells #[.string ⟨#[109]⟩,.string ⟨#[110,51]⟩,.string ⟨#[113]⟩] 9)=W3 at D3 L3 ⊢;generalize X0.heap.size=gl at L3 Q3 ⊢;refine Qos (i:=3) (j:=5) (by kernel_rfl) rfl rfl (fun K hK=>?_) (fun K hK=>?_)
         ·go_simp
          refine (Ql7 HC D3.out.src gl 3 2 (by have:=Q3.out;omega) (by omega) (by omega) L3).mono ?_;rintro e W4 ⟨u,rfl,hu,bN,bQ⟩;have D4:=Qaa (D3.out.step bN bQ);clear bN bQ
          try dsimp only
          refine gK hK D4.out.row ?_
          try simp only [sX]
          refine Qos (i:=4) (j:=5) (by kernel_rfl) rfl rfl (fun K hK=>?_) (fun K hK=>?_)
          ·go_simp
           refine (Qcw p u (by unfold maxLen;omega) D4.out.pp).mono ?_;rintro e W5 hJ;obtain ⟨a',n',c',q,M',d,m,f,C',cd,rfl,hR,hB,hb⟩:=QqO rfl hJ;have D5:=Qaa (D4.out.past hb);have R5:=Qaa hB.p.r;have O5:=Qaa hB.p.o;have cA:Hid (cd=0->GdK 0 (M'.map Sd.key)/\PcB 0 q):=Qaa (fun e=>JnR.good D4.out.gd D4.out.pc (by omega) (e ▸ hR));have cQ:=Qaa D4.out.bl;clear hR hB hb hJ
           try dsimp only
           refine gK hK D5.out.row ?_
           try simp only [sX]
           refine onE 5 fun K hK=>?_;go_simp;have ak:Below W5.heap.size W5 (W5.alloc (.cells (QaL (.slice none 0 0) q0 (.slice none 0 0) 0) 37)):=(ZZb _ _).alloc (ZZa _) _;have D6:=Qaa (D5.out.past ak);have Y6:=Qaa (ZZk W5 (.cells (QaL (.slice none 0 0) q0 (.slice none 0 0) 0) 37));have N6:=Qaa D5.out.lt;have B6:=Qaa D5.out.bl;have R6:=Qaa (R5.out.past ak);have O6:=Qaa (O5.out.past ak);have E6:Hid (∀ j,Qg0 (.slice a' n' c') M' j->j≠W5.heap.size):=Qaa (fun j q e=>by have:=((PpB.of R5 O5).hi j q).2;omega);clear ak
           try dsimp only
           refine gK hK D6.out.row ?_
           try simp only [sX]
           generalize W5.alloc (.cells (QaL (.slice none 0 0) q0 (.slice none 0 0) 0) 37)=W6 at D6 Y6 R6 O6 ⊢;generalize W5.heap.size=G6 at Y6 N6 B6 E6 ⊢;obtain ⟨x0,x1,x2,x3,x4,x5,x6⟩:=Qet Y6;obtain ⟨f0,f1,f2,f3,f4,f5,f6⟩:=fA7 Y6;refine onE 6 fun K hK=>?_;go_simp;clear x0 x1 x2 x3 x4 x5 x6 f0 f1 f2 f3 f4 f5 f6;refine hK.out _ _ (fun h=>absurd rfl h) ?_
           try simp only [sX]
           refine dnE ?_ _;go_wp2;go_meet;exact ⟨_,_,_,_,_,_,_,_,_,rfl,Qaa (DY.of D6 B6 N6 Y6 cQ R6 O6 E6 cA)⟩
          ·go_simp
           have aY:Below W4.heap.size W4 (W4.alloc (.cells (QaL (.slice none 0 0) q0 (.slice none 0 0) 0) 37)):=(ZZb _ _).alloc (ZZa _) _;have D7:=Qaa (D4.out.past aY);have Y7:=Qaa (ZZk W4 (.cells (QaL (.slice none 0 0) q0 (.slice none 0 0) 0) 37));have N7:=Qaa D4.out.lt;have B7:=Qaa D4.out.bl;clear aY
           try dsimp only
           refine gK hK D7.out.row ?_
           try simp only [sX]
           generalize W4.alloc (.cells (QaL (.slice none 0 0) q0 (.slice none 0 0) 0) 37)=W7 at D7 Y7 ⊢;generalize W4.heap.size=G7 at Y7 N7 B7 ⊢;refine onE 4 fun K hK=>?_;go_simp;refine (Qcw p u (by unfold maxLen;omega) D7.out.pp).mono ?_;rintro e W8 hJ;obtain ⟨a',n',c',q,M',d,m,f,C',cd,rfl,hR,hB,hb⟩:=QqO rfl hJ;have D8:=Qaa (D7.out.past hb);have R8:=Qaa hB.p.r;have O8:=Qaa hB.p.o;have cL:Hid (cd=0->GdK 0 (M'.map Sd.key)/\PcB 0 q):=Qaa (fun e=>JnR.good D7.out.gd D7.out.pc (by omega) (e ▸ hR));have cR:=Qaa D7.out.bl;have E8:Hid (∀ j,Qg0 (.slice a' n' c') M' j->j≠G7):=Qaa (fun j q e=>by have:=(hB.p.hi j q).1;have:=(ZZc.1 Y7).1;omega);have Y8:=Qaa (Qam Y7 hb);clear hR hB hb hJ
           try dsimp only
           refine gK hK D8.out.row ?_
           try simp only [sX]
           obtain ⟨x0,x1,x2,x3,x4,x5,x6⟩:=Qet Y8;obtain ⟨f0,f1,f2,f3,f4,f5,f6⟩:=fA7 Y8;refine onE 6 fun K hK=>?_;go_simp;clear x0 x1 x2 x3 x4 x5 x6 f0 f1 f2 f3 f4 f5 f6;refine hK.out _ _ (fun h=>absurd rfl h) ?_
           try simp only [sX]
           refine dnE ?_ _;go_wp2;go_meet;exact ⟨_,_,_,_,_,_,_,_,_,rfl,Qaa (DY.of D8 B7 N7 Y8 cR R8 O8 E8 cL)⟩
         ·go_simp
          have aD:Below W3.heap.size W3 (W3.alloc (.cells (QaL (.slice none 0 0) q0 (.slice none 0 0) 0) 37)):=(ZZb _ _).alloc (ZZa _) _;have D9:=Qaa (D3.out.past aD);have Y9:=Qaa (ZZk W3 (.cells (QaL (.slice none 0 0) q0 (.slice none 0 0) 0) 37));have N9:=Qaa D3.out.lt;have B9:=Qaa D3.out.bl;have L9:=Qaa (fun j (h:j<3)=>Qqn aD (L3.out j h));clear aD
          try dsimp only
          refine gK hK D9.out.row ?_
          try simp only [sX]
          generalize W3.alloc (.cells (QaL (.slice none 0 0) q0 (.slice none 0 0) 0) 37)=W9 at D9 Y9 L9 ⊢;generalize W3.heap.size=G9 at Y9 N9 B9 ⊢;refine onE 3 fun K hK=>?_;go_simp;refine (Ql7 HC D9.out.src gl 3 2 (by have:=Q3.out;omega) (by omega) (by omega) L9).mono ?_;rintro e cV ⟨u,rfl,hu,aX,av⟩;have aH:=Qaa (D9.out.step aX av);have bL:=Qaa (D9.out.rowS av B9 Y9);clear aX av
          try dsimp only
          refine gK hK aH.out.row ?_
          try simp only [sX]
          refine onE 4 fun K hK=>?_;go_simp;refine (Qcw p u (by unfold maxLen;omega) aH.out.pp).mono ?_;rintro e c6 hJ;obtain ⟨a',n',c',q,M',d,m,f,C',cd,rfl,hR,hB,hb⟩:=QqO rfl hJ;have cn:=Qaa (aH.out.past hb);have cE:=Qaa hB.p.r;have cy:=Qaa hB.p.o;have bc:Hid (cd=0->GdK 0 (M'.map Sd.key)/\PcB 0 q):=Qaa (fun e=>JnR.good aH.out.gd aH.out.pc (by omega) (e ▸ hR));have bj:=Qaa aH.out.bl;have cP:Hid (∀ j,Qg0 (.slice a' n' c') M' j->j≠G9):=Qaa (fun j q e=>by have:=(hB.p.hi j q).1;have:=(ZZc.1 bL).1;omega);have bE:=Qaa (Qam bL hb);clear hR hB hb hJ
          try dsimp only
          refine gK hK cn.out.row ?_
          try simp only [sX]
          obtain ⟨x0,x1,x2,x3,x4,x5,x6⟩:=Qet bE;obtain ⟨f0,f1,f2,f3,f4,f5,f6⟩:=fA7 bE;refine onE 6 fun K hK=>?_;go_simp;clear x0 x1 x2 x3 x4 x5 x6 f0 f1 f2 f3 f4 f5 f6;refine hK.out _ _ (fun h=>absurd rfl h) ?_
          try simp only [sX]
          refine dnE ?_ _;go_wp2;go_meet;exact ⟨_,_,_,_,_,_,_,_,_,rfl,Qaa (DY.of cn B9 N9 bE bj cE cy cP bc)⟩
        ·go_simp
         have au:Below X0.heap.size X0 (X0.alloc (.cells (QaL (.slice none 0 0) q0 (.slice none 0 0) 0) 37)):=(ZZb _ _).alloc (ZZa _) _;have aN:=Qaa (D0.out.past au);have bd:=Qaa (ZZk X0 (.cells (QaL (.slice none 0 0) q0 (.slice none 0 0) 0) 37));have bP:=Qaa D0.out.lt;have bz:=Qaa D0.out.bl;clear au
         try dsimp only
         refine gK hK aN.out.row ?_
         try simp only [sX]
         generalize X0.alloc (.cells (QaL (.slice none 0 0) q0 (.slice none 0 0) 0) 37)=W12 at aN bd ⊢;generalize X0.heap.size=G12 at bd bP bz ⊢;refine onE 2 fun K hK=>?_;go_simp;have ag:Below W12.heap.size W12 (W12.alloc (.cells #[.string ⟨#[109]⟩,.string ⟨#[110,51]⟩,.string ⟨#[113]⟩] 9)):=(ZZb _ _).alloc (ZZa _) _;have a1:=Qaa (aN.out.past ag);have bt:Hid (∀ j,j<3->∃ u,(W12.alloc (.cells #[.string ⟨#[109]⟩,.string ⟨#[110,51]⟩,.string ⟨#[113]⟩] 9)).cell? ⟨W12.heap.size,j,none⟩=some (.string u)/\u.size<=2):=Qaa (fun j h=>QfG (by decide) j h);have ck:Hid (s<W12.heap.size):=Qaa (by have:=aN.out.bl;have:=aN.out.lb;have:=aN.out.hs;omega);have bO:=Qaa (Qam bd ag);clear ag
         try dsimp only
         refine gK hK a1.out.row ?_
         try simp only [sX]
         generalize W12.alloc (.cells #[.string ⟨#[109]⟩,.string ⟨#[110,51]⟩,.string ⟨#[113]⟩] 9)=W13 at a1 bt bO ⊢;generalize W12.heap.size=gl at bt ck ⊢;refine onE 3 fun K hK=>?_;go_simp;refine (Ql7 HC a1.out.src gl 3 2 (by have:=ck.out;omega) (by omega) (by omega) bt).mono ?_;rintro e c4 ⟨u,rfl,hu,a7,aA⟩;have aI:=Qaa (a1.out.step a7 aA);have cc:=Qaa (a1.out.rowS aA bz bO);clear a7 aA
         try dsimp only
         refine gK hK aI.out.row ?_
         try simp only [sX]
         refine onE 4 fun K hK=>?_;go_simp;refine (Qcw p u (by unfold maxLen;omega) aI.out.pp).mono ?_;rintro e c0 hJ;obtain ⟨a',n',c',q,M',d,m,f,C',cd,rfl,hR,hB,hb⟩:=QqO rfl hJ;have bV:=Qaa (aI.out.past hb);have cC:=Qaa hB.p.r;have cI:=Qaa hB.p.o;have bF:Hid (cd=0->GdK 0 (M'.map Sd.key)/\PcB 0 q):=Qaa (fun e=>JnR.good aI.out.gd aI.out.pc (by omega) (e ▸ hR));have bA:=Qaa aI.out.bl;have cw:Hid (∀ j,Qg0 (.slice a' n' c') M' j->j≠G12):=Qaa (fun j q e=>by have:=(hB.p.hi j q).1;have:=(ZZc.1 cc).1;omega);have be:=Qaa (Qam cc hb);clear hR hB hb hJ
         try dsimp only
         refine gK hK bV.out.row ?_
         try simp only [sX]
         obtain ⟨x0,x1,x2,x3,x4,x5,x6⟩:=Qet be;obtain ⟨f0,f1,f2,f3,f4,f5,f6⟩:=fA7 be;refine onE 6 fun K hK=>?_;go_simp;clear x0 x1 x2 x3 x4 x5 x6 f0 f1 f2 f3 f4 f5 f6;refine hK.out _ _ (fun h=>absurd rfl h) ?_
         try simp only [sX]
         refine dnE ?_ _;go_wp2;go_meet;exact ⟨_,_,_,_,_,_,_,_,_,rfl,Qaa (DY.of bV bz bP be bA cC cI cw bF)⟩
       case rest=>
        obtain ⟨G,a',n',c',q,d,m,f,cd,rfl,HY⟩:=hcut;by_cases ah:cd=0
        ·have aU:(cd == 0)=true:=by simpa using ah
         obtain ⟨y0,y1,y2,y3,y4,y5,y6⟩:=Qet HY.out.y;obtain ⟨x0,x1,x2,x3,x4⟩:=Qa0 HY.out.d.row;obtain ⟨f0,f1,f2,f3,f4⟩:=fA5 HY.out.d.row;obtain ⟨M2,hN⟩:=HY.out.put ah;have HN:=Qaa hN;clear hN;go_wp2;go_meet;exact ⟨_,_,_,_,M2,HN⟩
        ·have aU:(cd == 0)=false:=by simpa using ah
         have y6:=QaG HY.out.y 6 rfl;go_wp2;go_meet;exact ⟨_,_,_,_,_,Qaa HY.out.d⟩
      ·have b1:(v == 1)=false:=ZZf.2 h1
       by_cases h2:v=2
       ·subst h2
        obtain ⟨x0,x1,x2,x3,x4⟩:=Qa0 aa.out.row;go_wp2_with fail;clear x0 x1 x2 x3 x4;refine (QiE p aa.out.pp).mono ?_;rintro e w7 ⟨a',n',c',q,M',d,m,f,C',cd,rfl,hR,hB,hb⟩;have al:Below w7.heap.size w7 (w7.alloc (.cells (QaL (.slice a' n' c') q (.slice d m f) cd) 37)):=(ZZb _ _).alloc (ZZa _) _;have HY:Hid (DY 0 W B ao ln cap s w (w7.alloc (.cells (QaL (.slice a' n' c') q (.slice d m f) cd) 37)) b ax n cp p M w7.heap.size a' n' c' q d m f cd):=Qaa ⟨(aa.out.past hb).past al,ZZk w7 _,_,M',aa.out.bl,hB.p.r.past al,hB.p.o.past al,fun e=>ClR.good aa.out.gd aa.out.pc (e ▸ hR)⟩;clear hR hB hb al aa;go_upto_region 17 with fail;generalize w7.alloc (.cells (QaL (.slice a' n' c') q (.slice d m f) cd) 37)=wc at HY ⊢;generalize w7.heap.size=G at HY ⊢;by_cases ah:cd=0
        ·have aU:(cd == 0)=true:=by simpa using ah
         obtain ⟨y0,y1,y2,y3,y4,y5,y6⟩:=Qet HY.out.y;obtain ⟨x0,x1,x2,x3,x4⟩:=Qa0 HY.out.d.row;obtain ⟨f0,f1,f2,f3,f4⟩:=fA5 HY.out.d.row;obtain ⟨M2,hN⟩:=HY.out.put ah;have HN:=Qaa hN;clear hN;go_wp2;go_meet;exact ⟨_,_,_,_,M2,HN⟩
        ·have aU:(cd == 0)=false:=by simpa using ah
         have y6:=QaG HY.out.y 6 rfl;go_wp2;go_meet;exact ⟨_,_,_,_,_,Qaa HY.out.d⟩
       ·have b2:(v == 2)=false:=ZZf.2 h2
        go_upto_region 6 with fail
        go_cut [7] (fun v w'=>∃ (G:Nat) (a':Option Addr) (n' c':Nat) (q:Pi) (d:Option Addr) (m f:Nat) (cd:Int),v=.pointer (some ⟨G,0,none⟩)/\Hid (DY 0 W B ao ln cap s w w' b ax n cp p M G a' n' c' q d m f cd))
        case first=>
         have D0:Hid (DP 0 W B ao ln cap s w w8.drew b ax n cp p M):=aa.out.past (ZZb _ _).drew;refine Qal (fun X=>X.heap[b]?=some (.cells (Qaf (.slice ax n cp) p) 25 (0,0))) 6 (by kernel_rfl) ?_;generalize w8.drew=X0 at D0 ⊢;refine tkL 0 (.agg (Qaf (.slice ax n cp) p)) D0.out.row (fun W hW=>?_) ?_
         ·obtain ⟨x0,x1,x2,x3,x4⟩:=Qa0 hW
          clear hW;go_simp
         refine tkS 1 (.pointer (some ⟨s,0,none⟩)) D0.out.row ?_;refine tkL 2 (.agg (Qaf (.slice ax n cp) p)) D0.out.row (fun W hW=>?_) ?_
         ·obtain ⟨x0,x1,x2,x3,x4⟩:=Qa0 hW
          clear hW;go_simp
         simp only [sX];refine Qos (i:=3) (j:=5) (by kernel_rfl) rfl rfl (fun K hK=>?_) (fun K hK=>?_)
         ·go_simp
          refine (QjF p (by have:=D0.out.pc.1;omega) (by have:=D0.out.pc.2.1;omega) HC D0.out.src).mono ?_;rintro e aK ⟨u,rfl,hu,aV,a5⟩;have aj:=Qaa (D0.out.step aV a5);clear aV a5
          try dsimp only
          refine gK hK aj.out.row ?_
          try simp only [sX]
          refine Qos (i:=4) (j:=5) (by kernel_rfl) rfl rfl (fun K hK=>?_) (fun K hK=>?_)
          ·go_simp
           refine (Qdb p u (by unfold maxLen;omega) aj.out.pp).mono ?_;rintro e aE ⟨a',n',c',q,M',d,m,f,C',cd,rfl,hR,hB,hb⟩;have ba:=Qaa (aj.out.past hb);have ce:=Qaa hB.p.r;have ct:=Qaa hB.p.o;have bg:Hid (cd=0->GdK 0 (M'.map Sd.key)/\PcB 0 q):=Qaa (fun e=>LiR.good aj.out.gd aj.out.pc (e ▸ hR));have bn:=Qaa aj.out.bl;clear hR hB hb
           try dsimp only
           refine gK hK ba.out.row ?_
           try simp only [sX]
           refine onE 5 fun K hK=>?_;go_simp;have ad:Below aE.heap.size aE (aE.alloc (.cells (QaL (.slice none 0 0) q0 (.slice none 0 0) 0) 37)):=(ZZb _ _).alloc (ZZa _) _;have bo:=Qaa (ba.out.past ad);have a6:=Qaa (ZZk aE (.cells (QaL (.slice none 0 0) q0 (.slice none 0 0) 0) 37));have cj:=Qaa ba.out.lt;have bW:=Qaa ba.out.bl;have bH:=Qaa (ce.out.past ad);have cg:=Qaa (ct.out.past ad);have bY:Hid (∀ j,Qg0 (.slice a' n' c') M' j->j≠aE.heap.size):=Qaa (fun j q e=>by have:=((PpB.of ce ct).hi j q).2;omega);clear ad
           try dsimp only
           refine gK hK bo.out.row ?_
           try simp only [sX]
           generalize aE.alloc (.cells (QaL (.slice none 0 0) q0 (.slice none 0 0) 0) 37)=W18 at bo a6 bH cg ⊢;generalize aE.heap.size=G18 at a6 cj bW bY ⊢;obtain ⟨x0,x1,x2,x3,x4,x5,x6⟩:=Qet a6;obtain ⟨f0,f1,f2,f3,f4,f5,f6⟩:=fA7 a6;refine onE 6 fun K hK=>?_;go_simp;clear x0 x1 x2 x3 x4 x5 x6 f0 f1 f2 f3 f4 f5 f6;refine hK.out _ _ (fun h=>absurd rfl h) ?_
           try simp only [sX]
           refine dnE ?_ _;go_wp2;go_meet;exact ⟨_,_,_,_,_,_,_,_,_,rfl,Qaa (DY.of bo bW cj a6 bn bH cg bY bg)⟩
          ·go_simp
           have ap:Below aK.heap.size aK (aK.alloc (.cells (QaL (.slice none 0 0) q0 (.slice none 0 0) 0) 37)):=(ZZb _ _).alloc (ZZa _) _;have aF:=Qaa (aj.out.past ap);have a9:=Qaa (ZZk aK (.cells (QaL (.slice none 0 0) q0 (.slice none 0 0) 0) 37));have bZ:=Qaa aj.out.lt;have ca:=Qaa aj.out.bl;clear ap
           try dsimp only
           refine gK hK aF.out.row ?_
           try simp only [sX]
           generalize aK.alloc (.cells (QaL (.slice none 0 0) q0 (.slice none 0 0) 0) 37)=W19 at aF a9 ⊢;generalize aK.heap.size=G19 at a9 bZ ca ⊢;refine onE 4 fun K hK=>?_;go_simp;refine (Qdb p u (by unfold maxLen;omega) aF.out.pp).mono ?_;rintro e c2 ⟨a',n',c',q,M',d,m,f,C',cd,rfl,hR,hB,hb⟩;have b6:=Qaa (aF.out.past hb);have cv:=Qaa hB.p.r;have cN:=Qaa hB.p.o;have bw:Hid (cd=0->GdK 0 (M'.map Sd.key)/\PcB 0 q):=Qaa (fun e=>LiR.good aF.out.gd aF.out.pc (e ▸ hR));have bs:=Qaa aF.out.bl;have cu:Hid (∀ j,Qg0 (.slice a' n' c') M' j->j≠G19):=Qaa (fun j q e=>by have:=(hB.p.hi j q).1;have:=(ZZc.1 a9).1;omega);have bG:=Qaa (Qam a9 hb);clear hR hB hb
           try dsimp only
           refine gK hK b6.out.row ?_
           try simp only [sX]
           obtain ⟨x0,x1,x2,x3,x4,x5,x6⟩:=Qet bG;obtain ⟨f0,f1,f2,f3,f4,f5,f6⟩:=fA7 bG;refine onE 6 fun K hK=>?_;go_simp;clear x0 x1 x2 x3 x4 x5 x6 f0 f1 f2 f3 f4 f5 f6;refine hK.out _ _ (fun h=>absurd rfl h) ?_
           try simp only [sX]
           refine dnE ?_ _;go_wp2;go_meet;exact ⟨_,_,_,_,_,_,_,_,_,rfl,Qaa (DY.of b6 ca bZ bG bs cv cN cu bw)⟩
         ·go_simp
          have an:Below X0.heap.size X0 (X0.alloc (.cells (QaL (.slice none 0 0) q0 (.slice none 0 0) 0) 37)):=(ZZb _ _).alloc (ZZa _) _;have aC:=Qaa (D0.out.past an);have bh:=Qaa (ZZk X0 (.cells (QaL (.slice none 0 0) q0 (.slice none 0 0) 0) 37));have b9:=Qaa D0.out.lt;have bu:=Qaa D0.out.bl;clear an
          try dsimp only
          refine gK hK aC.out.row ?_
          try simp only [sX]
          generalize X0.alloc (.cells (QaL (.slice none 0 0) q0 (.slice none 0 0) 0) 37)=W21 at aC bh ⊢;generalize X0.heap.size=G21 at bh b9 bu ⊢;refine onE 3 fun K hK=>?_;go_simp;refine (QjF p (by have:=aC.out.pc.1;omega) (by have:=aC.out.pc.2.1;omega) HC aC.out.src).mono ?_;rintro e c5 ⟨u,rfl,hu,aR,aG⟩;have aL:=Qaa (aC.out.step aR aG);have cq:=Qaa (aC.out.rowS aG bu bh);clear aR aG
          try dsimp only
          refine gK hK aL.out.row ?_
          try simp only [sX]
          refine onE 4 fun K hK=>?_;go_simp;refine (Qdb p u (by unfold maxLen;omega) aL.out.pp).mono ?_;rintro e cX ⟨a',n',c',q,M',d,m,f,C',cd,rfl,hR,hB,hb⟩;have ch:=Qaa (aL.out.past hb);have cJ:=Qaa hB.p.r;have cK:=Qaa hB.p.o;have bf:Hid (cd=0->GdK 0 (M'.map Sd.key)/\PcB 0 q):=Qaa (fun e=>LiR.good aL.out.gd aL.out.pc (e ▸ hR));have bb:=Qaa aL.out.bl;have cF:Hid (∀ j,Qg0 (.slice a' n' c') M' j->j≠G21):=Qaa (fun j q e=>by have:=(hB.p.hi j q).1;have:=(ZZc.1 cq).1;omega);have bk:=Qaa (Qam cq hb);clear hR hB hb
          try dsimp only
          refine gK hK ch.out.row ?_
          try simp only [sX]
          obtain ⟨x0,x1,x2,x3,x4,x5,x6⟩:=Qet bk;obtain ⟨f0,f1,f2,f3,f4,f5,f6⟩:=fA7 bk;refine onE 6 fun K hK=>?_;go_simp;clear x0 x1 x2 x3 x4 x5 x6 f0 f1 f2 f3 f4 f5 f6;refine hK.out _ _ (fun h=>absurd rfl h) ?_
          try simp only [sX]
          refine dnE ?_ _;go_wp2;go_meet;exact ⟨_,_,_,_,_,_,_,_,_,rfl,Qaa (DY.of ch bu b9 bk bb cJ cK cF bf)⟩
        case rest=>
         obtain ⟨G,a',n',c',q,d,m,f,cd,rfl,HY⟩:=hcut;by_cases ah:cd=0
         ·have aU:(cd == 0)=true:=by simpa using ah
          obtain ⟨y0,y1,y2,y3,y4,y5,y6⟩:=Qet HY.out.y;obtain ⟨x0,x1,x2,x3,x4⟩:=Qa0 HY.out.d.row;obtain ⟨f0,f1,f2,f3,f4⟩:=fA5 HY.out.d.row;obtain ⟨M2,hN⟩:=HY.out.put ah;have HN:=Qaa hN;clear hN;go_wp2;go_meet;exact ⟨_,_,_,_,M2,HN⟩
         ·have aU:(cd == 0)=false:=by simpa using ah
          have y6:=QaG HY.out.y 6 rfl;go_wp2;go_meet;exact ⟨_,_,_,_,_,Qaa HY.out.d⟩
    case rest=>
     obtain ⟨ax,n,cp,p,M,HD⟩:=hcut;go_wp2;go_roundw
     case rel=>exact ⟨j - 1,by first | rfl | go_num,by omega,_,_,_,_,_,HD⟩
     case measure=>simp [RowKit.intOf];omega
 case rest=>
  obtain ⟨rfl,ax,n,cp,p,M,HD⟩:=hcut;clear bD;go_upto_region 19 with fail
  go_cut [74] (fun v w'=>∃ b':Bool,v=.bool b'/\(b'=true->0<n)/\Hid (DP 0 W B ao ln cap s w w' b ax n cp p M))
  case first=>
   go_wp2_with fail;refine (QeX HC HD.out.src 20 (by omega)).mono ?_;rintro e w7 ⟨b7,rfl,hS,hg⟩;have aB:=Qaa (HD.out.step hS hg);clear hS hg HD
   cases b7 with
   | false=>
    go_wp2;go_meet;exact ⟨false,rfl,by simp,aB⟩
   | true=>
    have x0:=QaG aB.out.row 0 rfl;go_wp2;go_meet;exact ⟨_,rfl,fun h=>by simpa using h,aB⟩
  case rest=>
   clear HD;obtain ⟨b',rfl,b4,HD⟩:=hcut;go_upto_if 74 with fail
   go_cut [] (fun w'=>∃ (ax:Option Addr) (n cp:Nat) (p:Pi) (M:List Sd),Hid (DP 1 W B ao ln cap s w w' b ax n cp p M))
   case first=>
    cases b' with
    | false=>
     go_wp2;go_meet;exact ⟨_,_,_,_,_,Qaa HD.out.weak⟩
    | true=>
     have b4:=b4 rfl;have bS:M.length=n:=Qc0 HD.out.r;have cH:n<=14:=by have:=HD.out.gd.1;rw [List.length_map] at this;omega
     obtain ⟨gs,cs,e⟩:=Qgp HD.out.r (by omega);injection e with e1 e2 e3;subst e1;subst e3;have cG:=Qaa bS;clear e2 bS;have x0:=QaG HD.out.row 0 rfl;go_wp2_with fail;clear x0;refine (c_n HC HD.out.src n (by omega)).mono ?_;rintro e w7 ⟨i,rfl,i0,i1,_,hS,hg⟩;have i1:=i1 (by omega);obtain ⟨i,rfl⟩:=Int.eq_ofNat_of_zero_le i0;have aB:=Qaa (HD.out.step hS hg);clear hS hg HD;go_wp2_with fail;refine (c_n HC aB.out.src 5 (by omega)).mono ?_;rintro e w8 ⟨v,rfl,v0,v1,_,hS,hg⟩;have aa:=Qaa (aB.out.step hS hg);clear hS hg aB;obtain ⟨t,ht⟩:∃ t,M[i]?=some t:=⟨M[i]'(by have:=cG.out;omega),ZZe _⟩;have aJ:=Qaa ht;obtain ⟨x0,x1,x2,x3,x4⟩:=Qa0 aa.out.row;clear ht;by_cases h0:v=0
     ·subst h0
      have q0:=QhH aa.out.r aa.out.o aJ;obtain ⟨bK,ab⟩:=QfN aa.out.r;have fz:=fzR (i*2) ab;obtain ⟨M2,hN⟩:=aa.out.name aJ (u:=⟨#[97]⟩) (by decide);have HN:=Qaa hN;clear ab hN;go_wp2;go_meet;exact ⟨_,_,_,_,M2,HN⟩
     ·have b0:(v == 0)=false:=ZZf.2 h0
      by_cases h1:v=1
      ·subst h1
       have f4:=fzR 4 aa.out.row;have hd:=aa.out.pc;have cY:IntKind.i64.wrap (p.d+1)=p.d+1:=ZZi _ ⟨by have:=hd.2.2.1;omega,by have:=hd.2.2.2;omega⟩;have HN:=Qaa (aa.out.setb 4 (.int .i64 (p.d+1)) (q:=⟨p.a,p.b,p.c,p.d+1⟩) rfl ⟨hd.1,hd.2.1,by show 0<=p.d+1;have:=hd.2.2.1;omega,by show p.d+1<=1000000001+1;have:=hd.2.2.2;omega⟩);clear hd;go_wp2;go_meet;exact ⟨_,_,_,_,_,HN⟩
      ·have b1:(v == 1)=false:=ZZf.2 h1
       by_cases h2:v=2
       ·subst h2
        clear x0 x1 x2 x3 x4;have a3:Below w8.heap.size w8 (w8.alloc (.cells #[.int .i64 0,.int .i64 1000,.int .i64 1001] 2)):=(ZZb _ _).alloc (ZZa _) _;have ae:=Qaa (aa.out.past a3);have am:=Qaa (ZZk w8 (.cells #[.int .i64 0,.int .i64 1000,.int .i64 1001] 2));have ay:=Qaa aa.out.bl;clear a3;go_wp2_with fail;generalize w8.alloc (.cells #[.int .i64 0,.int .i64 1000,.int .i64 1001] 2)=w9 at ae am ⊢;generalize w8.heap.size=gl at am ay ⊢;refine (c_n HC ae.out.src 3 (by omega)).mono ?_;rintro e wA ⟨y,rfl,y0,y1,_,hS,hg⟩;have y1:=y1 (by omega);have ai:=Qaa (ae.out.step hS hg);have az:=Qaa (ae.out.rowS hg ay am);clear hS hg am ae;have f1:=fzR 1 ai.out.row;have x1:=QaG ai.out.row 1 rfl;have l0:=QaG az 0 rfl;have l1:=QaG az 1 rfl;have l2:=QaG az 2 rfl;have hd:=ai.out.pc.weak1;have HN:=Qaa (fun z:Int=>ai.out.setb 1 (.int .i64 z) (q:=⟨z,p.b,p.c,p.d⟩) rfl hd);clear hd;rcases (by omega:y=0∨y=1∨y=2) with rfl | rfl | rfl
        all_goals
         go_wp2;go_meet;exact ⟨_,_,_,_,_,Qaa (HN.out _)⟩
       ·have b2:(v == 2)=false:=ZZf.2 h2
        by_cases h3:v=3
        ·subst h3
         clear x0 x1 x2 x3 x4;have a3:Below w8.heap.size w8 (w8.alloc (.cells #[.int .i64 (-1),.int .i64 1000000000,.int .i64 1000000001] 2)):=(ZZb _ _).alloc (ZZa _) _;have ae:=Qaa (aa.out.past a3);have am:=Qaa (ZZk w8 (.cells #[.int .i64 (-1),.int .i64 1000000000,.int .i64 1000000001] 2));have ay:=Qaa aa.out.bl;clear a3;go_wp2_with fail;generalize w8.alloc (.cells #[.int .i64 (-1),.int .i64 1000000000,.int .i64 1000000001] 2)=w9 at ae am ⊢;generalize w8.heap.size=gl at am ay ⊢;refine (c_n HC ae.out.src 3 (by omega)).mono ?_;rintro e wA ⟨y,rfl,y0,y1,_,hS,hg⟩;have y1:=y1 (by omega);have ai:=Qaa (ae.out.step hS hg);have az:=Qaa (ae.out.rowS hg ay am);clear hS hg am ae;have f3:=fzR 3 ai.out.row;have x3:=QaG ai.out.row 3 rfl;have l0:=QaG az 0 rfl;have l1:=QaG az 1 rfl;have l2:=QaG az 2 rfl;have hd:=ai.out.pc.weak1;have HN:=Qaa (fun (z:Int) (hz:-1<=z) (hz2:z<=1000000001)=>ai.out.setb 3 (.int .i64 z) (q:=⟨p.a,p.b,z,p.d⟩) rfl ⟨hz,hz2,hd.2.2⟩);clear hd;rcases (by omega:y=0∨y=1∨y=2) with rfl | rfl | rfl
         all_goals
          go_wp2;go_meet;exact ⟨_,_,_,_,_,Qaa (HN.out _ (by omega) (by omega))⟩
        ·have b3:(v == 3)=false:=ZZf.2 h3
         clear x0 x1 x2 x3 x4;go_upto_region 22 with fail;have aM:Below w8.heap.size w8 w8.drew:=(ZZb _ _).drew;have SF:Hid (∀ X,Below w8.heap.size w8 X->X.heap[b]?=some (.cells (Qaf (.slice (some ⟨gs,0,none⟩) n cp) p) 25 (0,0))/\X.cell? ⟨gs,i*2+1,none⟩=some (.slice t.ao t.L.length t.cp)):=Qaa (fun X hb=>⟨(aa.out.past hb).row,QcI (aa.out.past hb).r (aa.out.past hb).o aJ⟩);have S0:=SF.out _ aM;have bm:=aa.out.pc;have cZ:IntKind.i64.wrap (p.d+3)=p.d+3:=ZZi _ ⟨by have:=bm.2.2.1;omega,by have:=bm.2.2.2;omega⟩;clear bm;refine Qal (fun X=>X.heap[b]?=some (.cells (Qaf (.slice (some ⟨gs,0,none⟩) n cp) p) 25 (0,0))/\X.cell? ⟨gs,i*2+1,none⟩=some (.slice t.ao t.L.length t.cp)) 20 (by kernel_rfl) ?_;refine tkS 0 (.pointer (some ⟨b,0,none⟩)) S0 ?_;refine tkL 1 (.slice (some ⟨gs,0,none⟩) n cp) S0 (fun W hW=>?_) ?_
         ·have q0:=QaG hW.1 0 rfl
          clear hW;go_simp
         refine tkS 2 (.int .i64 i) S0 ?_;simp only [sX];refine tkS 3 (.pointer (some ⟨b,0,none⟩)) S0 ?_;refine tkL 4 (.slice (some ⟨gs,0,none⟩) n cp) S0 (fun W hW=>?_) ?_
         ·have q0:=QaG hW.1 0 rfl
          clear hW;go_simp
         refine tkS 5 (.int .i64 i) S0 ?_;simp only [sX];refine tkS 6 (.pointer (some ⟨gs,i*2,none⟩)) S0 ?_;refine tkS 7 (.pointer (some ⟨gs,i*2+1,none⟩)) S0 ?_;refine tkL 8 (.slice t.ao t.L.length t.cp) S0 (fun W hW=>?_) ?_
         ·have q0:=hW.2
          clear hW;go_simp
         simp only [sX];refine tkS 9 (.pointer (some ⟨b,4,none⟩)) S0 ?_;refine tkL 10 (.int .i64 p.d) S0 (fun W hW=>?_) ?_
         ·have q0:=QaG hW.1 4 rfl
          clear hW;go_simp
         refine tkS 11 (.int .i64 (p.d+3)) S0 ?_;simp only [sX];refine tkS 13 (.agg (QaV ⟨1,⟨#[122,122,123,125]⟩,0,⟨#[]⟩,1,false,0⟩)) S0 ?_;simp only [sX];refine onE 12 fun K hK=>?_;go_simp;refine (Qgk (k:=1) (by omega) (by omega)).mono ?_;rintro e w9 ⟨rfl,cf⟩;have bi:Below w8.heap.size w8 w9:=Qac aM cf;have S9:=SF.out _ bi;clear cf;dsimp only;refine gK hK S9 ?_
         try simp only [sX]
         refine onE 14 fun K hK=>?_;go_simp;obtain ⟨_,n2,n3,n4,n5⟩:=Qgx (k:=1) (by omega) (by omega);refine (QmR ⟨1,⟨#[122,122,123,125]⟩,0,⟨#[]⟩,1,false,0⟩ n2 xzOk n3 (n5 w9 0).plgX (n5 w9 0).at).mono ?_;rintro e wA ⟨vA,o,rfl,hP,⟨pl,rfl,hO⟩,bv⟩;have b8:=Qaa (⟨(Qgd xzOk n2 hP).1,put_sm hP n3⟩:AgOk o/\AgSm o);have HO:=Qaa hO;have cO:=Qaa bv;have aO:Below w8.heap.size w8 wA:=Qac bi bv;have bJ:=SF.out _ aO;clear hP hO bv n2 n3 n4 n5;dsimp only;refine gK hK bJ ?_
         try simp only [sX]
         refine tkS 15 (.agg (Qap ⟨p.d+3,⟨#[122,122,123,125]⟩,o,pl⟩)) bJ ?_;simp only [sX];refine onE 16 fun K hK=>?_;go_simp;have br:Below wA.heap.size wA (wA.alloc (.cells (Qap ⟨p.d+3,⟨#[122,122,123,125]⟩,o,pl⟩) 75)):=(ZZb _ _).alloc (ZZa _) _;have cU:=Qaa br;have aQ:Below w8.heap.size w8 (wA.alloc (.cells (Qap ⟨p.d+3,⟨#[122,122,123,125]⟩,o,pl⟩) 75)):=Qac aO br;have DA:=Qaa (aa.out.past aQ);refine hK.out _ _ (fun _=>SF.out _ aQ) ?_;clear br
         try simp only [sX]
         refine onE 17 fun K hK=>?_;rw [if_pos (by rfl)];have hm:=ZZn aJ;have ow:=DA.out.o.r t hm;unfold OwnC at ow;have bI:w.heap.size+1<=(wA.alloc (.cells (Qap ⟨p.d+3,⟨#[122,122,123,125]⟩,o,pl⟩) 75)).heap.size:=by have:=DA.out.bl;have:=DA.out.lb;omega
         have hl:=(DA.out.gd.sh hm).2.1;refine Qfq _ (.tmp 90) (.tmp 98) 35 rfl (w.heap.size+1) 75 j0 (.agg QbN) 15 192 underlying35 hj cB cM cS rfl (by decide) _ _ _ rfl ow ⟨wA.heap.size,0,none⟩ 1 1 (ceL ⟨p.d+3,⟨#[122,122,123,125]⟩,o,pl⟩) rfl rfl QbG (Qc1 _) (by unfold maxLen;omega) (by omega) bI ?_;intro v8 wE aw ac aT;obtain ⟨a8,c8,rfl⟩:∃ ar cr,v8=.slice ar (t.L.length+1) cr:=Qew aw;obtain ⟨M2,hN⟩:=(aa.out.past bi).app cO HO.out aJ ⟨b8.out.1,b8.out.2,zzSz⟩ aw ac aT;have HN:=Qaa hN;obtain ⟨bK,ab⟩:=QfN DA.out.r;have af:wE.heap[gs]?=some (.cells bK 56 (0,0)):=(ac.block gs (ZZc.1 ab).1 (fun e=>DA.out.r.neB DA.out.o hm gs (.inl e.symm) rfl)).trans ab;have q1:wE.cell? ⟨gs,i*2+1,none⟩=some (.slice t.ao t.L.length t.cp):=by rw [cell_of_row wE gs _ _ _ _ af,<- cell_of_row _ gs _ _ _ _ ab];exact QcI DA.out.r DA.out.o aJ
         have fz:=fzR (i*2+1) af;have bU:wE.heap[b]?=some (.cells (Qaf (.slice (some ⟨gs,0,none⟩) n cp) p) 25 (0,0)):=(ac.block b DA.out.bl (fun e=>DA.out.nb b (.inr ⟨t,hm,.inl e.symm⟩) rfl)).trans DA.out.row;have SE:wE.heap[b]?=some (.cells (Qaf (.slice (some ⟨gs,0,none⟩) n cp) p) 25 (0,0))/\wE.cell? ⟨gs,i*2+1,none⟩=some (.slice t.ao t.L.length t.cp):=⟨bU,q1⟩;clear hN aw ac aT ow bI ab af bU;refine gK hK SE ?_
         try simp only [sX]
         refine onE 18 fun K hK=>?_;go_simp;refine gK hK SE ?_
         try simp only [sX]
         refine onE 19 fun K hK=>?_;go_simp;refine gK hK SE ?_
         try simp only [sX]
         refine onE 20 fun K hK=>?_;go_simp;clear q1 fz;refine hK.out _ _ (fun h=>absurd rfl h) ?_
         try simp only [sX]
         refine dnE ?_ _;go_wp2;go_meet;exact ⟨_,_,_,_,M2,HN⟩
   case rest=>
    clear HD;obtain ⟨ax,n,cp,p,M,HD⟩:=hcut;obtain ⟨x0,x1,x2,x3,x4⟩:=Qa0 HD.out.row;obtain ⟨y0,y1,y2,y3,y4⟩:=Qa0 HD.out.res;obtain ⟨f0,f1,f2,f3,f4⟩:=fA5 HD.out.res;go_wp2;refine bodyPost_ret (v:=.agg (Qaf (.slice ax n cp) p)) (by simp [results,results21,go_sem,y0,y1,y2,y3,y4]) rfl ?_;obtain ⟨g1,g2,g3,g4⟩:=HD.out.fin (.slice ax n cp) (.int .i64 p.a) (.int .i64 p.b) (.int .i64 p.c) (.int .i64 p.d) rfl;exact ⟨ax,n,cp,p,M,rfl,g1,g2,g3,g4,HD.out.gd,HD.out.pc⟩
end Go.Proofs.YtlejlgldgafljaaGreatDoor
