/-
 Parts.
-/
import Derived.Test.YtioohanfodmddaaGreatDoorCWG
set_option maxHeartbeats 8000000
set_option linter.all false
namespace Go.Proofs.YtioohanfodmddaaGreatDoor
open Go.ChangeShapes Go.WideShapes Go.ChangeAt Go.RowKit Go.PlainAid Go.Lib Go.Maps Tryz
set_option maxRecDepth 10000
theorem mAz {p:Prop} (h:p:=by
 have av:(cd == 0)=true:=by simpa using af
 obtain ⟨y0,y1,y2,y3,y4,y5,y6⟩:=QcH HY.y;obtain ⟨x0,x1,x2,x3,x4⟩:=Qbf HY.d.row;obtain ⟨f0,f1,f2,f3,f4⟩:=fA5 HY.d.row;obtain ⟨M2,hN⟩:=HY.put af;have HN:=Qaa hN;clear hN;go_wp2;go_meet;exact ⟨_,_,_,_,M2,HN⟩):p:=h
theorem mBh {p:Prop} (h:p:=by
 obtain ⟨x0,x1,x2,x3,x4,x5,x6⟩:=QcH Y;obtain ⟨f0,f1,f2,f3,f4,f5,f6⟩:=fA7 Y;refine onE 6 fun K hK=>?_;go_simp;clear x0 x1 x2 x3 x4 x5 x6 f0 f1 f2 f3 f4 f5 f6;refine hK.out _ _ (fun h=>absurd rfl h) ?_
 try simp only [sX]
 refine dnE ?_ _;go_wp2;go_meet;exact ⟨_,_,_,_,_,_,_,_,_,rfl,Qaa (DY.of D B N Y BB R O E Gd)⟩):p:=h
theorem mB1 {p:Prop} (h:p:=by
 have av:(cd == 0)=false:=by simpa using af
 have y6:=Qay HY.y 6 rfl;go_wp2;go_meet;exact ⟨_,_,_,_,_,Qaa HY.d⟩):p:=h
variable {w:World}
theorem QrZ {w':World} (hb:Bw w w') {g j m:Nat} (h:∃ u,w.cell? ⟨g,j,none⟩=some (.string u)/\u.size<=m):∃ u,w'.cell? ⟨g,j,none⟩=some (.string u)/\u.size<=m:=by
 obtain ⟨u,h1,h2⟩:=h;exact ⟨u,by rw [hb.cell (Qh5 h1)];exact h1,h2⟩
theorem put_sm {g o:Ag} {x:Sx} (h:Qbv g x o) (sm:AgSm g):AgSm o:=by
 unfold Qbv at h
 split at h
 ·exact (QmC h).sm
 ·rw [h];exact sm
theorem zzSz:(⟨#[122,122,123,125]⟩:ByteArray).size<=maxLen:=oF
theorem xzOk:(⟨1,⟨#[122,122,123,125]⟩,0,⟨#[]⟩,1,false,0⟩:Sx).Ok:=⟨by show I64 1;unfold I64;omega,by show I64 0;unfold I64;omega,by show U64 1;unfold U64;omega,by show I64 0;unfold I64;omega,by decide,by decide⟩
theorem Qpl {W:World} {B ln cap s:Nat} {ao:Option Addr} (hc:Qbi W B ao ln) (h:Src W B ao ln cap s w) :
  Calls prog 17 #[.pointer (some ⟨s,0,none⟩)] w fun e w'=>DrawnP W B ao ln cap s w e w':=by
 obtain ⟨j0,hj,bb,bd,bc⟩:=Qeb;have HC:=Qaa hc;have hs:=Qcv h;have a0:Bw w (w.alloc (.cells (Qae (.slice none 0 0) q0) 25)):=bAA;have au:=Qaa (QaO h a0);have aI:=Qaa (ZZk w (.cells (Qae (.slice none 0 0) q0) 25));have aD:Hid (w.grownBy (w.alloc (.cells (Qae (.slice none 0 0) q0) 25)) (some s)):=(⟨a0.os,a0.tape,a0.output,a0.size,fun j hj _=>a0.block j hj⟩:w.grownBy _ (some s));have HZ:Hid ((w.alloc (.cells (Qae (.slice none 0 0) q0) 25)).heap.size=w.heap.size+1):=Qaa oE;clear hc h a0;go_enter func17,ntmps17;go_wp2_with fail;generalize w.alloc _=W0 at au aI aD HZ ⊢;have aH:s<W0.heap.size:=by have:=HZ.out;omega
 refine (Qk5 HC au).mono ?_;rintro e w1 ⟨v,L,rfl,hl,hM⟩;obtain ⟨al,cl,rfl⟩:=QeP hM.own;have HM:=Qaa hM;clear hM au;go_wp2_with fail;refine (c_n HC HM.src 10 oB).mono ?_;rintro e w2 ⟨v2,rfl,a2,b2,_,aQ,aX⟩;have b2:=b2 oB;have aL:=Qaa (HM.call aH aQ aX);have a6:IntKind.i64.wrap (1+v2)=1+v2:=ZZi _ ⟨by omega,by omega⟩;clear aQ aX HM;go_wp2_with fail;refine (c_n HC aL.src 6 oB).mono ?_;rintro e w3 ⟨v3,rfl,a3,b3,_,aW,aS⟩;have aj:=Qaa (aL.call aH aW aS);clear aW aS aL;go_wp2_with fail;refine (QlX cl (1+v2) v3 oB (fun u hu=>by have:=aj.sz u hu;omega) (QqC aj.own)).mono ?_;rintro e w4 ⟨v4,R,a',b',rfl,hR,hO,aw⟩;obtain ⟨ax,cx,rfl⟩:=QeP hO;have a4:Bw w4 (w4.alloc (.cells (Qae (.slice ax R.length cx) ⟨a',b',0,0⟩) 25)):=bAA
 have HD:Hid (DP 0 W B ao ln cap s w (w4.alloc (.cells (Qae (.slice ax R.length cx) ⟨a',b',0,0⟩) 25)) w4.heap.size ax R.length cx ⟨a',b',0,0⟩ (R.map mk0)):=by
  have z3:=aj.gr.size;have z4:=aw.size;have z0:=HZ.out;obtain ⟨r,o⟩:=QrL hO
  have aY:R.length<=14/\∀ u∈R,u.size<=10:=by
   split at hR
   ·injection hR with h1 _
    subst h1;exact ⟨hl,aj.sz⟩
   ·injection hR with h1 _
    subst h1;exact ⟨by simp,by simp⟩
  have hg:w.grownBy w4 (some s):=QaC (aD.trans aj.gr) (aw.mono oB);refine Qaa ⟨QaO (QaO aj.src aw) a4,QaC hg (a4.mono oB),hs,?_,ZZk w4 _,by omega,(r.le oB).past a4,(o.le oB).past a4,fun j q e=>?_,gd_new aY.1 aY.2,⟨by show (-1:Int)<=0;omega,by show (0:Int)<=1000000001;omega,by show (0:Int)<=0;omega,by show (0:Int)<=1000000001+0;omega⟩⟩
  ·exact (a4.block _ oB).trans ((aw.block _ oB).trans ((aj.gr.block _ oB (fun e=>by cases e;omega)).trans aI))
  ·have:=((PpB.of r o).hi j q).2
   omega
 clear hR hO aw a4 aj aI aD HZ aH a2 b2 a3 b3 a6;go_upto_region 2 with fail;generalize w4.alloc _=W5 at HD ⊢;generalize w4.heap.size=b at HD ⊢;obtain ⟨bh,bi,sz,az,_,_,z0,z1⟩:=HD.src.blk;have a5:W5.cell? ⟨s,3,none⟩=some (.int .i64 sz):=by rw [cell_of_row W5 s 3 _ _ (0,0) az];rfl
 have hw:IntKind.i64.wrap (6+sz)=6+sz:=ZZi _ ⟨by omega,by omega⟩;clear az;go_wp2_with fail;clear a5;refine (c_n HC HD.src (6+sz) oB).mono ?_;rintro e w6 ⟨k,rfl,k0,k1,_,aN,aM⟩;have k1:=k1 oB;have aJ:=Qaa (HD.step aN aM);obtain ⟨k,rfl⟩:=Int.eq_ofNat_of_zero_le k0;have aA:k<=17:=oB
 clear HD aN aM k1 k0 hw z0 z1;go_upto_block 0 with fail
 go_cut [3] (fun p' w'=>p'=.pointer (some ⟨b,0,none⟩)/\∃ (ax:Option Addr) (n cp:Nat) (p:Pi) (M:List Sd),Hid (DP 0 W B ao ln cap s w w' b ax n cp p M))
 case first=>
  go_wp2_with fail
  go_loopw [4] (fun kv wr=>∃ (j:Nat),kv=.int .i64 j/\j<=17/\∃ (ax:Option Addr) (n cp:Nat) (p:Pi) (M:List Sd),Hid (DP 0 W B ao ln cap s w wr b ax n cp p M)) (fun kv wr=>(RowKit.intOf kv).toNat)
  case atStart=>exact ⟨k,rfl,aA,_,_,_,_,_,aJ⟩
  case round=>
   clear aJ aA;obtain ⟨j,rfl,hj,ax,n,cp,p,M,HD⟩:=hrel;rcases Nat.eq_zero_or_pos j with h0 | h0
   ·subst h0
    go_wp2;go_meet;exact ⟨rfl,_,_,_,_,_,HD⟩
   ·have bk:(0:Int)<(j:Int):=by omega
    have be:IntKind.i64.wrap ((j:Int) - 1)=((j - 1:Nat):Int):=by rw [show (j:Int) - 1=((j - 1:Nat):Int) by omega];exact ZZi _ ⟨by omega,by omega⟩
    go_upto_block 1 with fail
    go_cut [] (fun w'=>∃ (ax:Option Addr) (n cp:Nat) (p:Pi) (M:List Sd),Hid (DP 0 W B ao ln cap s w w' b ax n cp p M))
    case first=>
     go_wp2_with fail;refine (c_n HC HD.src 7 oB).mono ?_;rintro e w8 ⟨v,rfl,v0,v1,_,hS,hg⟩;have ab:=Qaa (HD.step hS hg);clear hS hg HD;by_cases h0:v=0
     ·subst h0
      go_upto_region 10 with fail;have D:Hid (DP 0 W B ao ln cap s w w8.drew b ax n cp p M):=ab.past (ZZb _ _).drew;refine Qal (fun X=>X.heap[b]?=some (.cells (Qae (.slice ax n cp) p) 25 (0,0))) 4 oG ?_;generalize w8.drew=X0 at D ⊢;refine tkL 0 (.agg (Qae (.slice ax n cp) p)) D.row (fun W hW=>?_) ?_
      ·obtain ⟨x0,x1,x2,x3,x4⟩:=Qbf hW
       exact mAo
      refine tkS 1 (.pointer (some ⟨s,0,none⟩)) D.row ?_;simp only [sX];refine onE 2 fun K hK=>?_;go_simp;refine (c_n HC D.src 12 oB).mono ?_;rintro e W0 ⟨v,rfl,v0,v1,_,hS,hg⟩;replace D:=Qaa (D.step hS hg);clear hS hg
      try dsimp only
      refine gK hK D.row ?_
      try simp only [sX]
      refine onE 3 fun K hK=>?_;go_simp;refine (QfJ p v D.pp).mono ?_;rintro e W1 ⟨vv,M',rfl,hC⟩;obtain ⟨a',c',rfl,_⟩:=hC.r.form;have aF:=Qaa hC;have ak:=Qaa D.bl;replace D:=Qaa (D.past hC.b);clear hC
      try dsimp only
      refine gK hK D.row ?_
      try simp only [sX]
      obtain ⟨x0,x1,x2,x3,x4⟩:=Qbf D.row;obtain ⟨f0,f1,f2,f3,f4⟩:=fA5 D.row;refine onE 4 fun K hK=>?_;go_simp;clear x0 x1 x2 x3 x4 f0 f1 f2 f3 f4;refine hK.out _ _ (fun h=>absurd rfl h) ?_
      try simp only [sX]
      refine dnE ?_ _;go_wp2;go_meet;exact ⟨_,_,_,_,M',Qaa (D.put aF.r aF.o ak (by rw [aF.ky];exact D.gd) (Qrs D.pc))⟩
     ·have b0:(v == 0)=false:=ZZf.2 h0
      by_cases h1:v=1
      ·subst h1
       go_upto_region 12 with fail
       go_cut [5] (fun v w'=>∃ (G:Nat) (a':Option Addr) (n' c':Nat) (q:Pi) (d:Option Addr) (m f:Nat) (cd:Int),v=.pointer (some ⟨G,0,none⟩)/\Hid (DY 0 W B ao ln cap s w w' b ax n cp p M G a' n' c' q d m f cd))
       case first=>
        have D:Hid (DP 0 W B ao ln cap s w w8.drew b ax n cp p M):=ab.past (ZZb _ _).drew;refine Qal (fun X=>X.heap[b]?=some (.cells (Qae (.slice ax n cp) p) 25 (0,0))) 6 oG ?_;generalize w8.drew=X0 at D ⊢;refine tkL 0 (.agg (Qae (.slice ax n cp) p)) D.row (fun W hW=>?_) ?_
        ·obtain ⟨x0,x1,x2,x3,x4⟩:=Qbf hW
         exact mAo
        refine tkS 1 (.pointer (some ⟨s,0,none⟩)) D.row ?_;simp only [sX];refine Qoj (i:=2) (j:=5) oG rfl rfl (fun K hK=>?_) (fun K hK=>?_)
        focus
         go_simp;have aa:Bw X0 (X0.alloc (.cells zAj 9)):=bAA;have L:Hid (∀ j,j<3->∃ u,(X0.alloc (.cells zAj 9)).cell? ⟨X0.heap.size,j,none⟩=some (.string u)/\u.size<=2):=Qaa (fun j h=>Qgu oF j h);have Q:Hid (s<X0.heap.size):=Qaa xM;replace D:=Qaa (D.past aa);clear aa
         try dsimp only
         refine gK hK D.row ?_
         try simp only [sX]
         generalize X0.alloc _=W0 at D L ⊢;generalize X0.heap.size=gl at L Q ⊢
        rotate_left
        focus
         go_simp;have aa:Bw X0 (X0.alloc (.cells (Qax (.slice none 0 0) q0 (.slice none 0 0) 0) 29)):=bAA;have Y:=Qaa (ZZk X0 (.cells (Qax (.slice none 0 0) q0 (.slice none 0 0) 0) 29));have N:=Qaa D.lt;have B:=Qaa D.bl;replace D:=Qaa (D.past aa);clear aa
         try dsimp only
         refine gK hK D.row ?_
         try simp only [sX]
         generalize X0.alloc _=WA at D Y ⊢;generalize X0.heap.size=G at Y N B ⊢
        iterate 1
         focus
          refine onE 2 fun K hK=>?_;go_simp;have aa:Bw WA (WA.alloc (.cells zAj 9)):=bAA;have L:Hid (∀ j,j<3->∃ u,(WA.alloc (.cells zAj 9)).cell? ⟨WA.heap.size,j,none⟩=some (.string u)/\u.size<=2):=Qaa (fun j h=>Qgu oF j h);have Q:Hid (s<WA.heap.size):=Qaa xM;replace D:=Qaa (D.past aa);replace Y:=Qaa (Qag Y aa);clear aa
          try dsimp only
          refine gK hK D.row ?_
          try simp only [sX]
          generalize WA.alloc _=W0 at D L Y ⊢;generalize WA.heap.size=gl at L Q ⊢
         rotate_left
        refine Qoj (i:=3) (j:=5) oG rfl rfl (fun K hK=>?_) (fun K hK=>?_)
        focus
         go_simp;refine (Qpi HC D.src gl 3 2 (oA Q.out) oB oB L).mono ?_;rintro e W1 ⟨u,rfl,hu,hS,hg⟩;replace D:=Qaa (D.step hS hg);clear hS hg
         try dsimp only
         refine gK hK D.row ?_
         try simp only [sX]
        rotate_left
        focus
         go_simp;have aa:Bw W0 (W0.alloc (.cells (Qax (.slice none 0 0) q0 (.slice none 0 0) 0) 29)):=bAA;have Y:=Qaa (ZZk W0 (.cells (Qax (.slice none 0 0) q0 (.slice none 0 0) 0) 29));have N:=Qaa D.lt;have B:=Qaa D.bl;replace D:=Qaa (D.past aa);replace L:=Qaa (fun j (h:j<3)=>QrZ aa (L.out j h));clear aa
         try dsimp only
         refine gK hK D.row ?_
         try simp only [sX]
         generalize W0.alloc _=WA at D Y L ⊢;generalize W0.heap.size=G at Y N B ⊢
        iterate 2
         focus
          refine onE 3 fun K hK=>?_;go_simp;refine (Qpi HC D.src gl 3 2 (oA Q.out) oB oB L).mono ?_;rintro e W1 ⟨u,rfl,hu,hS,hg⟩;replace Y:=Qaa (D.rowS hg B Y);replace D:=Qaa (D.step hS hg);clear hS hg
          try dsimp only
          refine gK hK D.row ?_
          try simp only [sX]
         rotate_left
        refine Qoj (i:=4) (j:=5) oG rfl rfl (fun K hK=>?_) (fun K hK=>?_)
        focus
         go_simp;refine (QfV p u oC D.pp).mono ?_;rintro e W2 hJ;obtain ⟨a',n',c',q,M',d,m,f,C',cd,rfl,hR,hB,hb⟩:=joinA rfl hJ;have R:=Qaa hB.p.r;have O:=Qaa hB.p.o;have Gd:Hid (cd=0->GdK 0 (M'.map Sd.key)/\PcB 0 q):=Qaa (fun e=>JnR.good D.gd D.pc oB (e ▸ hR));have BB:=Qaa D.bl;replace D:=Qaa (D.past hb);clear hR hB hb hJ
         try dsimp only
         refine gK hK D.row ?_
         try simp only [sX]
        rotate_left
        focus
         go_simp;have aa:Bw W1 (W1.alloc (.cells (Qax (.slice none 0 0) q0 (.slice none 0 0) 0) 29)):=bAA;have Y:=Qaa (ZZk W1 (.cells (Qax (.slice none 0 0) q0 (.slice none 0 0) 0) 29));have N:=Qaa D.lt;have B:=Qaa D.bl;replace D:=Qaa (D.past aa);clear aa
         try dsimp only
         refine gK hK D.row ?_
         try simp only [sX]
         generalize W1.alloc _=WA at D Y ⊢;generalize W1.heap.size=G at Y N B ⊢
        iterate 3
         focus
          refine onE 4 fun K hK=>?_;go_simp;refine (QfV p u oC D.pp).mono ?_;rintro e W2 hJ;obtain ⟨a',n',c',q,M',d,m,f,C',cd,rfl,hR,hB,hb⟩:=joinA rfl hJ;have R:=Qaa hB.p.r;have O:=Qaa hB.p.o;have Gd:Hid (cd=0->GdK 0 (M'.map Sd.key)/\PcB 0 q):=Qaa (fun e=>JnR.good D.gd D.pc oB (e ▸ hR));have BB:=Qaa D.bl;replace D:=Qaa (D.past hb);have E:Hid (∀ j,QjA (.slice a' n' c') M' j->j≠G):=Qaa (fun j q e=>by have:=(hB.p.hi j q).1;have:=(ZZc.1 Y).1;omega);replace Y:=Qaa (Qag Y hb);clear hR hB hb hJ
          try dsimp only
          refine gK hK D.row ?_
          try simp only [sX]
         rotate_left
        focus
         refine onE 5 fun K hK=>?_;go_simp;have aa:Bw W2 (W2.alloc (.cells (Qax (.slice none 0 0) q0 (.slice none 0 0) 0) 29)):=bAA;have Y:=Qaa (ZZk W2 (.cells (Qax (.slice none 0 0) q0 (.slice none 0 0) 0) 29));have N:=Qaa D.lt;have B:=Qaa D.bl;replace D:=Qaa (D.past aa);have E:Hid (∀ j,QjA (.slice a' n' c') M' j->j≠W2.heap.size):=Qaa (fun j q e=>by have:=((PpB.of R O).hi j q).2;omega);replace R:=Qaa (R.past aa);replace O:=Qaa (O.past aa);clear aa
         try dsimp only
         refine gK hK D.row ?_
         try simp only [sX]
         generalize W2.alloc _=WA at D Y R O ⊢;generalize W2.heap.size=G at Y N B E ⊢
        all_goals
         exact mBh
       case rest=>
        obtain ⟨G,a',n',c',q,d,m,f,cd,rfl,HY⟩:=hcut;by_cases af:cd=0
        ·exact mAz
        ·exact mB1
      ·have b1:(v == 1)=false:=ZZf.2 h1
       by_cases h2:v=2
       ·subst h2
        obtain ⟨x0,x1,x2,x3,x4⟩:=Qbf ab.row;go_wp2_with fail;clear x0 x1 x2 x3 x4;refine (QeI p ab.pp).mono ?_;rintro e w7 ⟨a',n',c',q,M',d,m,f,C',cd,rfl,hR,hB,hb⟩;have al:Bw w7 (w7.alloc (.cells (Qax (.slice a' n' c') q (.slice d m f) cd) 29)):=bAA;have HY:Hid (DY 0 W B ao ln cap s w (w7.alloc (.cells (Qax (.slice a' n' c') q (.slice d m f) cd) 29)) b ax n cp p M w7.heap.size a' n' c' q d m f cd):=Qaa ⟨(ab.past hb).past al,ZZk w7 _,_,M',ab.bl,hB.p.r.past al,hB.p.o.past al,fun e=>ClR.good ab.gd ab.pc (e ▸ hR)⟩;clear hR hB hb al ab;go_upto_region 17 with fail;generalize w7.alloc _=wc at HY ⊢;generalize w7.heap.size=G at HY ⊢;by_cases af:cd=0
        ·exact mAz
        ·exact mB1
       ·have b2:(v == 2)=false:=ZZf.2 h2
        go_upto_region 6 with fail
        go_cut [7] (fun v w'=>∃ (G:Nat) (a':Option Addr) (n' c':Nat) (q:Pi) (d:Option Addr) (m f:Nat) (cd:Int),v=.pointer (some ⟨G,0,none⟩)/\Hid (DY 0 W B ao ln cap s w w' b ax n cp p M G a' n' c' q d m f cd))
        case first=>
         have D:Hid (DP 0 W B ao ln cap s w w8.drew b ax n cp p M):=ab.past (ZZb _ _).drew;refine Qal (fun X=>X.heap[b]?=some (.cells (Qae (.slice ax n cp) p) 25 (0,0))) 6 oG ?_;generalize w8.drew=X0 at D ⊢;refine tkL 0 (.agg (Qae (.slice ax n cp) p)) D.row (fun W hW=>?_) ?_
         ·obtain ⟨x0,x1,x2,x3,x4⟩:=Qbf hW
          exact mAo
         refine tkS 1 (.pointer (some ⟨s,0,none⟩)) D.row ?_;refine tkL 2 (.agg (Qae (.slice ax n cp) p)) D.row (fun W hW=>?_) ?_
         ·obtain ⟨x0,x1,x2,x3,x4⟩:=Qbf hW
          exact mAo
         simp only [sX];refine Qoj (i:=3) (j:=5) oG rfl rfl (fun K hK=>?_) (fun K hK=>?_)
         focus
          go_simp;refine (Qk4 p (oA D.pc.1) (oA D.pc.2.1) HC D.src).mono ?_;rintro e W0 ⟨u,rfl,hu,hS,hg⟩;replace D:=Qaa (D.step hS hg);clear hS hg
          try dsimp only
          refine gK hK D.row ?_
          try simp only [sX]
         rotate_left
         focus
          go_simp;have aa:Bw X0 (X0.alloc (.cells (Qax (.slice none 0 0) q0 (.slice none 0 0) 0) 29)):=bAA;have Y:=Qaa (ZZk X0 (.cells (Qax (.slice none 0 0) q0 (.slice none 0 0) 0) 29));have N:=Qaa D.lt;have B:=Qaa D.bl;replace D:=Qaa (D.past aa);clear aa
          try dsimp only
          refine gK hK D.row ?_
          try simp only [sX]
          generalize X0.alloc _=WA at D Y ⊢;generalize X0.heap.size=G at Y N B ⊢
         iterate 1
          focus
           refine onE 3 fun K hK=>?_;go_simp;refine (Qk4 p (oA D.pc.1) (oA D.pc.2.1) HC D.src).mono ?_;rintro e W0 ⟨u,rfl,hu,hS,hg⟩;replace Y:=Qaa (D.rowS hg B Y);replace D:=Qaa (D.step hS hg);clear hS hg
           try dsimp only
           refine gK hK D.row ?_
           try simp only [sX]
          rotate_left
         refine Qoj (i:=4) (j:=5) oG rfl rfl (fun K hK=>?_) (fun K hK=>?_)
         focus
          go_simp;refine (QfI p u oC D.pp).mono ?_;rintro e W1 ⟨a',n',c',q,M',d,m,f,C',cd,rfl,hR,hB,hb⟩;have R:=Qaa hB.p.r;have O:=Qaa hB.p.o;have Gd:Hid (cd=0->GdK 0 (M'.map Sd.key)/\PcB 0 q):=Qaa (fun e=>LiR.good D.gd D.pc (e ▸ hR));have BB:=Qaa D.bl;replace D:=Qaa (D.past hb);clear hR hB hb
          try dsimp only
          refine gK hK D.row ?_
          try simp only [sX]
         rotate_left
         focus
          go_simp;have aa:Bw W0 (W0.alloc (.cells (Qax (.slice none 0 0) q0 (.slice none 0 0) 0) 29)):=bAA;have Y:=Qaa (ZZk W0 (.cells (Qax (.slice none 0 0) q0 (.slice none 0 0) 0) 29));have N:=Qaa D.lt;have B:=Qaa D.bl;replace D:=Qaa (D.past aa);clear aa
          try dsimp only
          refine gK hK D.row ?_
          try simp only [sX]
          generalize W0.alloc _=WA at D Y ⊢;generalize W0.heap.size=G at Y N B ⊢
         iterate 2
          focus
           refine onE 4 fun K hK=>?_;go_simp;refine (QfI p u oC D.pp).mono ?_;rintro e W1 ⟨a',n',c',q,M',d,m,f,C',cd,rfl,hR,hB,hb⟩;have R:=Qaa hB.p.r;have O:=Qaa hB.p.o;have Gd:Hid (cd=0->GdK 0 (M'.map Sd.key)/\PcB 0 q):=Qaa (fun e=>LiR.good D.gd D.pc (e ▸ hR));have BB:=Qaa D.bl;replace D:=Qaa (D.past hb);have E:Hid (∀ j,QjA (.slice a' n' c') M' j->j≠G):=Qaa (fun j q e=>by have:=(hB.p.hi j q).1;have:=(ZZc.1 Y).1;omega);replace Y:=Qaa (Qag Y hb);clear hR hB hb
           try dsimp only
           refine gK hK D.row ?_
           try simp only [sX]
          rotate_left
         focus
          refine onE 5 fun K hK=>?_;go_simp;have aa:Bw W1 (W1.alloc (.cells (Qax (.slice none 0 0) q0 (.slice none 0 0) 0) 29)):=bAA;have Y:=Qaa (ZZk W1 (.cells (Qax (.slice none 0 0) q0 (.slice none 0 0) 0) 29));have N:=Qaa D.lt;have B:=Qaa D.bl;replace D:=Qaa (D.past aa);have E:Hid (∀ j,QjA (.slice a' n' c') M' j->j≠W1.heap.size):=Qaa (fun j q e=>by have:=((PpB.of R O).hi j q).2;omega);replace R:=Qaa (R.past aa);replace O:=Qaa (O.past aa);clear aa
          try dsimp only
          refine gK hK D.row ?_
          try simp only [sX]
          generalize W1.alloc _=WA at D Y R O ⊢;generalize W1.heap.size=G at Y N B E ⊢
         all_goals
          exact mBh
        case rest=>
         obtain ⟨G,a',n',c',q,d,m,f,cd,rfl,HY⟩:=hcut;by_cases af:cd=0
         ·exact mAz
         ·exact mB1
    case rest=>
     obtain ⟨ax,n,cp,p,M,HD⟩:=hcut;go_wp2;go_roundw
     case rel=>exact ⟨j - 1,by first | rfl | go_num,by omega,_,_,_,_,_,HD⟩
     case measure=>simp [RowKit.intOf];omega
 case rest=>
  obtain ⟨rfl,ax,n,cp,p,M,HD⟩:=hcut;clear aJ;go_upto_region 19 with fail
  go_cut [74] (fun v w'=>∃ b':Bool,v=.bool b'/\(b'=true->0<n)/\Hid (DP 0 W B ao ln cap s w w' b ax n cp p M))
  case first=>
   go_wp2_with fail;refine (Qf1 HC HD.src 20 oB).mono ?_;rintro e w7 ⟨b7,rfl,hS,hg⟩;have an:=Qaa (HD.step hS hg);clear hS hg HD
   cases b7 with
   | false=>
    go_wp2;go_meet;exact ⟨false,rfl,by simp,an⟩
   | true=>
    have x0:=Qay an.row 0 rfl;go_wp2;go_meet;exact ⟨_,rfl,fun h=>by simpa using h,an⟩
  case rest=>
   clear HD;obtain ⟨b',rfl,a1,HD⟩:=hcut;go_upto_if 74 with fail
   go_cut [] (fun w'=>∃ (ax:Option Addr) (n cp:Nat) (p:Pi) (M:List Sd),Hid (DP 1 W B ao ln cap s w w' b ax n cp p M))
   case first=>
    cases b' with
    | false=>
     go_wp2;go_meet;exact ⟨_,_,_,_,_,Qaa HD.weak⟩
    | true=>
     have a1:=a1 rfl;have aR:M.length=n:=Qc7 HD.r;have ba:n<=14:=by have:=HD.gd.1;rw [yA] at this;omega
     obtain ⟨gs,cs,e⟩:=QgF HD.r oB;injection e with e1 e2 e3;subst e1;subst e3;have a7:=Qaa aR;clear e2 aR;have x0:=Qay HD.row 0 rfl;go_wp2_with fail;clear x0;refine (c_n HC HD.src n oB).mono ?_;rintro e w7 ⟨i,rfl,i0,i1,_,hS,hg⟩;have i1:=i1 oB;obtain ⟨i,rfl⟩:=Int.eq_ofNat_of_zero_le i0;have an:=Qaa (HD.step hS hg);clear hS hg HD;go_wp2_with fail;refine (c_n HC an.src 5 oB).mono ?_;rintro e w8 ⟨v,rfl,v0,v1,_,hS,hg⟩;have ab:=Qaa (an.step hS hg);clear hS hg an;obtain ⟨t,ht⟩:∃ t,M[i]?=some t:=⟨M[i]'(oA a7.out),ZZe _⟩;have aq:=Qaa ht;obtain ⟨x0,x1,x2,x3,x4⟩:=Qbf ab.row;clear ht;by_cases h0:v=0
     ·subst h0
      have q0:=Qid ab.r ab.o aq;obtain ⟨aU,ac⟩:=Qgt ab.r;have fz:=fzR (i*2) ac;obtain ⟨M2,hN⟩:=ab.name aq (u:=⟨#[97]⟩) oF;have HN:=Qaa hN;clear ac hN;go_wp2;go_meet;exact ⟨_,_,_,_,M2,HN⟩
     ·have b0:(v == 0)=false:=ZZf.2 h0
      by_cases h1:v=1
      ·subst h1
       have f4:=fzR 4 ab.row;have hd:=ab.pc;have bj:IntKind.i64.wrap (p.d+1)=p.d+1:=ZZi _ ⟨by have:=hd.2.2.1;omega,by have:=hd.2.2.2;omega⟩;have HN:=Qaa (ab.setb 4 (.int .i64 (p.d+1)) (q:=⟨p.a,p.b,p.c,p.d+1⟩) rfl ⟨hd.1,hd.2.1,by show 0<=p.d+1;have:=hd.2.2.1;omega,by show p.d+1<=1000000001+1;have:=hd.2.2.2;omega⟩);clear hd;go_wp2;go_meet;exact ⟨_,_,_,_,_,HN⟩
      ·have b1:(v == 1)=false:=ZZf.2 h1
       by_cases h2:v=2
       ·subst h2
        clear x0 x1 x2 x3 x4;have a3:Bw w8 (w8.alloc (.cells #[.int .i64 0,.int .i64 1000,.int .i64 1001] 2)):=bAA;have ag:=Qaa (ab.past a3);have ai:=Qaa (ZZk w8 (.cells #[.int .i64 0,.int .i64 1000,.int .i64 1001] 2));have ak:=Qaa ab.bl;clear a3;go_wp2_with fail;generalize w8.alloc _=w9 at ag ai ⊢;generalize w8.heap.size=gl at ai ak ⊢;refine (c_n HC ag.src 3 oB).mono ?_;rintro e wA ⟨y,rfl,y0,y1,_,hS,hg⟩;have y1:=y1 oB;have ah:=Qaa (ag.step hS hg);have ap:=Qaa (ag.rowS hg ak ai);clear hS hg ai ag;have f1:=fzR 1 ah.row;have x1:=Qay ah.row 1 rfl;have l0:=Qay ap 0 rfl;have l1:=Qay ap 1 rfl;have l2:=Qay ap 2 rfl;have hd:=ah.pc.weak1;have HN:=Qaa (fun z:Int=>ah.setb 1 (.int .i64 z) (q:=⟨z,p.b,p.c,p.d⟩) rfl hd);clear hd;rcases (by omega:y=0∨y=1∨y=2) with rfl | rfl | rfl
        all_goals
         go_wp2;go_meet;exact ⟨_,_,_,_,_,Qaa (HN.out _)⟩
       ·have b2:(v == 2)=false:=ZZf.2 h2
        by_cases h3:v=3
        ·subst h3
         clear x0 x1 x2 x3 x4;have a3:Bw w8 (w8.alloc (.cells zAg 2)):=bAA;have ag:=Qaa (ab.past a3);have ai:=Qaa (ZZk w8 (.cells zAg 2));have ak:=Qaa ab.bl;clear a3;go_wp2_with fail;generalize w8.alloc _=w9 at ag ai ⊢;generalize w8.heap.size=gl at ai ak ⊢;refine (c_n HC ag.src 3 oB).mono ?_;rintro e wA ⟨y,rfl,y0,y1,_,hS,hg⟩;have y1:=y1 oB;have ah:=Qaa (ag.step hS hg);have ap:=Qaa (ag.rowS hg ak ai);clear hS hg ai ag;have f3:=fzR 3 ah.row;have x3:=Qay ah.row 3 rfl;have l0:=Qay ap 0 rfl;have l1:=Qay ap 1 rfl;have l2:=Qay ap 2 rfl;have hd:=ah.pc.weak1;have HN:=Qaa (fun (z:Int) (hz:-1<=z) (hz2:z<=1000000001)=>ah.setb 3 (.int .i64 z) (q:=⟨p.a,p.b,z,p.d⟩) rfl ⟨hz,hz2,hd.2.2⟩);clear hd;rcases (by omega:y=0∨y=1∨y=2) with rfl | rfl | rfl
         all_goals
          go_wp2;go_meet;exact ⟨_,_,_,_,_,Qaa (HN.out _ oB oB)⟩
        ·have b3:(v == 3)=false:=ZZf.2 h3
         clear x0 x1 x2 x3 x4;go_upto_region 22 with fail;have au:Bw w8 w8.drew:=(ZZb _ _).drew;have SF:Hid (∀ X,Bw w8 X->X.heap[b]?=some (.cells (Qae (.slice (some ⟨gs,0,none⟩) n cp) p) 25 (0,0))/\X.cell? ⟨gs,i*2+1,none⟩=some (.slice t.ao t.L.length t.cp)):=Qaa (fun X hb=>⟨(ab.past hb).row,QcL (ab.past hb).r (ab.past hb).o aq⟩);have S0:=SF.out _ au;have aE:=ab.pc;have bf:IntKind.i64.wrap (p.d+3)=p.d+3:=ZZi _ ⟨by have:=aE.2.2.1;omega,by have:=aE.2.2.2;omega⟩;clear aE;refine Qal (fun X=>X.heap[b]?=some (.cells (Qae (.slice (some ⟨gs,0,none⟩) n cp) p) 25 (0,0))/\X.cell? ⟨gs,i*2+1,none⟩=some (.slice t.ao t.L.length t.cp)) 20 oG ?_;refine tkS 0 (.pointer (some ⟨b,0,none⟩)) S0 ?_;refine tkL 1 (.slice (some ⟨gs,0,none⟩) n cp) S0 (fun W hW=>?_) ?_
         ·have q0:=Qay hW.1 0 rfl
          exact mAo
         refine tkS 2 (.int .i64 i) S0 ?_;simp only [sX];refine tkS 3 (.pointer (some ⟨b,0,none⟩)) S0 ?_;refine tkL 4 (.slice (some ⟨gs,0,none⟩) n cp) S0 (fun W hW=>?_) ?_
         ·have q0:=Qay hW.1 0 rfl
          exact mAo
         refine tkS 5 (.int .i64 i) S0 ?_;simp only [sX];refine tkS 6 (.pointer (some ⟨gs,i*2,none⟩)) S0 ?_;refine tkS 7 (.pointer (some ⟨gs,i*2+1,none⟩)) S0 ?_;refine tkL 8 (.slice t.ao t.L.length t.cp) S0 (fun W hW=>?_) ?_
         ·have q0:=hW.2
          exact mAo
         simp only [sX];refine tkS 9 (.pointer (some ⟨b,4,none⟩)) S0 ?_;refine tkL 10 (.int .i64 p.d) S0 (fun W hW=>?_) ?_
         ·have q0:=Qay hW.1 4 rfl
          exact mAo
         refine tkS 11 (.int .i64 (p.d+3)) S0 ?_;simp only [sX];refine tkS 13 (.agg (Qa0 ⟨1,⟨#[122,122,123,125]⟩,0,⟨#[]⟩,1,false,0⟩)) S0 ?_;simp only [sX];refine onE 12 fun K hK=>?_;go_simp;refine (Qlo (k:=1) oB oB).mono ?_;rintro e w9 ⟨rfl,aV⟩;have aK:Bw w8 w9:=Qac au aV;have S9:=SF.out _ aK;clear aV;dsimp only;refine gK hK S9 ?_
         try simp only [sX]
         refine onE 14 fun K hK=>?_;go_simp;obtain ⟨_,n2,n3,n4,n5⟩:=QgQ (k:=1) oB oB;refine (Qot ⟨1,⟨#[122,122,123,125]⟩,0,⟨#[]⟩,1,false,0⟩ n2 xzOk n3 (n5 w9 0).plgX (n5 w9 0).at).mono ?_;rintro e wA ⟨vA,o,rfl,hP,⟨pl,rfl,hO⟩,aG⟩;have aZ:=Qaa (⟨(QgZ xzOk n2 hP).1,put_sm hP n3⟩:AgOk o/\AgSm o);have HO:=Qaa hO;have a9:=Qaa aG;have ay:Bw w8 wA:=Qac aK aG;have aT:=SF.out _ ay;clear hP hO aG n2 n3 n4 n5;dsimp only;refine gK hK aT ?_
         try simp only [sX]
         refine tkS 15 (.agg (Qao ⟨p.d+3,⟨#[122,122,123,125]⟩,o,pl⟩)) aT ?_;simp only [sX];refine onE 16 fun K hK=>?_;go_simp;have aa:Bw wA (wA.alloc (.cells (Qao ⟨p.d+3,⟨#[122,122,123,125]⟩,o,pl⟩) 46)):=bAA;have bg:=Qaa aa;have aC:Bw w8 (wA.alloc (.cells (Qao ⟨p.d+3,⟨#[122,122,123,125]⟩,o,pl⟩) 46)):=Qac ay aa;have DA:=Qaa (ab.past aC);refine hK.out _ _ (fun _=>SF.out _ aC) ?_;clear aa
         try simp only [sX]
         refine onE 17 fun K hK=>?_;rw [if_pos oR];have hm:=ZZn aq;have ow:=DA.o.r t hm;unfold OwnC at ow;have aP:w.heap.size+1<=(wA.alloc (.cells (Qao ⟨p.d+3,⟨#[122,122,123,125]⟩,o,pl⟩) 46)).heap.size:=by have:=DA.bl;have:=DA.lb;omega
         have hl:=(DA.gd.sh hm).2.1;refine QfN _ (.tmp 90) (.tmp 98) 27 rfl (w.heap.size+1) 46 j0 (.agg Qbo) 15 192 underlying27 hj bb bd bc rfl oF _ _ _ rfl ow ⟨wA.heap.size,0,none⟩ 1 1 (ceL ⟨p.d+3,⟨#[122,122,123,125]⟩,o,pl⟩) rfl rfl QbD (QcG _) oC oB aP ?_;intro v8 wE am ad aB;obtain ⟨a8,c8,rfl⟩:∃ ar cr,v8=.slice ar (t.L.length+1) cr:=QeP am;obtain ⟨M2,hN⟩:=(ab.past aK).app a9 HO.out aq ⟨aZ.1,aZ.2,zzSz⟩ am ad aB;have HN:=Qaa hN;obtain ⟨aU,ac⟩:=Qgt DA.r;have ae:wE.heap[gs]?=some (.cells aU 71 (0,0)):=(ad.block gs (ZZc.1 ac).1 (fun e=>DA.r.neB DA.o hm gs (.inl e.symm) rfl)).trans ac;have q1:wE.cell? ⟨gs,i*2+1,none⟩=some (.slice t.ao t.L.length t.cp):=by rw [cell_of_row wE gs _ _ _ _ ae,<- cell_of_row _ gs _ _ _ _ ac];exact QcL DA.r DA.o aq
         have fz:=fzR (i*2+1) ae;have aO:wE.heap[b]?=some (.cells (Qae (.slice (some ⟨gs,0,none⟩) n cp) p) 25 (0,0)):=(ad.block b DA.bl (fun e=>DA.nb b (.inr ⟨t,hm,.inl e.symm⟩) rfl)).trans DA.row;have SE:wE.heap[b]?=some (.cells (Qae (.slice (some ⟨gs,0,none⟩) n cp) p) 25 (0,0))/\wE.cell? ⟨gs,i*2+1,none⟩=some (.slice t.ao t.L.length t.cp):=⟨aO,q1⟩;clear hN am ad aB ow aP ac ae aO;refine gK hK SE ?_
         try simp only [sX]
         refine onE 18 fun K hK=>?_;go_simp;refine gK hK SE ?_
         try simp only [sX]
         refine onE 19 fun K hK=>?_;go_simp;refine gK hK SE ?_
         try simp only [sX]
         refine onE 20 fun K hK=>?_;go_simp;clear q1 fz;refine hK.out _ _ (fun h=>absurd rfl h) ?_
         try simp only [sX]
         refine dnE ?_ _;go_wp2;go_meet;exact ⟨_,_,_,_,M2,HN⟩
   case rest=>
    clear HD;obtain ⟨ax,n,cp,p,M,HD⟩:=hcut;obtain ⟨x0,x1,x2,x3,x4⟩:=Qbf HD.row;obtain ⟨y0,y1,y2,y3,y4⟩:=Qbf HD.res;obtain ⟨f0,f1,f2,f3,f4⟩:=fA5 HD.res;go_wp2;refine bodyPost_ret (v:=.agg (Qae (.slice ax n cp) p)) (by simp [results,results17,go_sem,y0,y1,y2,y3,y4]) rfl ?_;obtain ⟨g1,g2,g3,g4⟩:=HD.fin (.slice ax n cp) (.int .i64 p.a) (.int .i64 p.b) (.int .i64 p.c) (.int .i64 p.d) rfl;exact ⟨ax,n,cp,p,M,rfl,g1,g2,g3,g4,HD.gd,HD.pc⟩
end Go.Proofs.YtioohanfodmddaaGreatDoor
