/-
 Parts.
-/
import Derived.Test.YtdbaabbmcfnjbaaGreatDoorDWG
set_option maxHeartbeats 4000000
set_option linter.all false
namespace Go.Proofs.YtdbaabbmcfnjbaaGreatDoor
open Go.ChangeShapes Go.WideShapes Go.ChangeAt Go.RowKit Go.PlainAid Go.Lib Go.Maps Tryz
set_option maxRecDepth 10000
theorem Qeq {w:World} {ao:Option Addr} {N ca:Nat} {S:List Sd} (p:Pi) (tx:ByteArray) (hzt:tx.size<=maxLen) (hI:PpI w ao N S) :
  Calls prog 21 #[.agg (Qam (.slice ao N ca) p),.string tx] w fun e w'=>PoA w (LiX S p tx) e w':=by
 have HI:=Qaa hI;have a1:∀ (X:World) o,Below X.heap.size X (X.alloc o):=fun X o=>(ZZb _ _).alloc (ZZa _) _;have k0:=ZZk w (.cells (Qam (.slice ao N ca) p) 35);have k1:=ZZk (w.alloc (.cells (Qam (.slice ao N ca) p) 35)) (.cells (QaI (.slice none 0 0) q0 (.slice none 0 0) 0) 66);simp only [World.size_alloc] at k1;have aX:=Qaa (QaA k0 (a1 _ (.cells (QaI (.slice none 0 0) q0 (.slice none 0 0) 0) 66)));have aI:=Qaa k1;have aR:=Qaa (Qac (a1 w (.cells (Qam (.slice ao N ca) p) 35)) (a1 _ (.cells (QaI (.slice none 0 0) q0 (.slice none 0 0) 0) 66)));have aq:=Qaa a1;clear hI a1 k0 k1;go_enter func21,ntmps21;go_upto_region 1 with fail;generalize (w.alloc (.cells (Qam (.slice ao N ca) p) 35)).alloc (.cells (QaI (.slice none 0 0) q0 (.slice none 0 0) 0) 66)=W0 at aX aI aR ⊢;have bK:w.heap.size+1+1<=W0.heap.size:=(ZZc.1 aI).1;have b7:=Qaa bK;clear bK;by_cases ah:20000<tx.size
 ·have cm:decide ((20000:Int)<(tx.size:Int))=true:=ZZh (by omega)
  have b5:(20000:Int)<(tx.size:Int):=by omega
  have HF:Hid (LiX S p tx q0 (([]:List Sd).map Sd.key) (([]:List Ce).map Ce.key) 2):=Qaa (LiX.big ah);go_wp2_with fail;refine (QaT 2 _).mono ?_;rintro e wz ⟨rfl,aa⟩;have R1:=QaA aI aa;have ae:=Qaa (Qac aR aa);clear aa;obtain ⟨y0,y1,y2,y3,y4,y5,y6⟩:=Qd4 R1;obtain ⟨f0,f1,f2,f3,f4,f5,f6⟩:=fA7 R1;clear R1;go_wp2;refine bodyPost_ret (v:=.agg (QaI (.slice none 0 0) q0 (.slice none 0 0) 2)) (by simp [results,results21,go_sem,y0,y1,y2,y3,y4,y5,y6]) rfl ?_;have hC:=CpP.sets7 (v0:=.slice none 0 0) (v1:=.int .i64 0) (v2:=.int .i64 0) (v3:=.int .i64 0) (v4:=.int .i64 0) (v5:=.slice none 0 0) (v6:=.int .i64 2) (fun j q=>by cases q) (LvO.nil _ _) (QpO ae);exact ⟨none,0,0,q0,[],none,0,0,[],2,rfl,HF,PoB.none hC.r hC.o,hC.b⟩
 have b5:¬ (20000:Int)<(tx.size:Int):=by omega
 obtain ⟨x0,x1,x2,x3,x4⟩:=QdF aX;go_wp2_with fail;clear x0 x1 x2 x3 x4;refine (Qbz p HI.out.n HI.out.sm HI.out.ok (Qbd HI.out.at' aR)).mono ?_;rintro e w1 ⟨rfl,aK⟩;have au:=Qaa (QaA aX aK);have ap:=Qaa (QaA aI aK);have bb:=Qaa (Qac aR aK);have aY:=Qaa (Nat.le_trans b7 aK.size);clear aK aX aI
 cases hp:QaZ S p with
 | false=>
  have ci:=Qaa hp;have al:=Qaa ah;clear hp ah au;have HF:Hid (LiX S p tx q0 (([]:List Sd).map Sd.key) (([]:List Ce).map Ce.key) 1):=Qaa (LiX.no al ci);go_wp2_with fail;refine (QaT 1 _).mono ?_;rintro e wz ⟨rfl,aa⟩;have R1:=QaA ap aa;have ae:=Qaa (Qac bb aa);clear aa;obtain ⟨y0,y1,y2,y3,y4,y5,y6⟩:=Qd4 R1;obtain ⟨f0,f1,f2,f3,f4,f5,f6⟩:=fA7 R1;clear R1;go_wp2;refine bodyPost_ret (v:=.agg (QaI (.slice none 0 0) q0 (.slice none 0 0) 1)) (by simp [results,results21,go_sem,y0,y1,y2,y3,y4,y5,y6]) rfl ?_;have hC:=CpP.sets7 (v0:=.slice none 0 0) (v1:=.int .i64 0) (v2:=.int .i64 0) (v3:=.int .i64 0) (v4:=.int .i64 0) (v5:=.slice none 0 0) (v6:=.int .i64 1) (fun j q=>by cases q) (LvO.nil _ _) (QpO ae);exact ⟨none,0,0,q0,[],none,0,0,[],1,rfl,HF,PoB.none hC.r hC.o,hC.b⟩
 | true=>
  have HP:=Qaa hp;have al:=Qaa ah;clear hp ah;have HQ:=Qaa (HI.out.qs HP);go_wp2_with fail;refine (QeZ tx hzt).mono ?_;rintro e w2 ⟨s,rfl,hL,aD⟩;have HL:=Qaa hL;have an:=Qaa (QaA (QaA au aD) (aq.out w2 (.cells #[.int .i64 s.k,.string s.se,.int .i64 s.va,.string s.wd,.int .u64 s.wt,.bool s.td,.int .i64 s.ti,.int .i64 s.c] 73)));have aj:=Qaa (QaA (QaA ap aD) (aq.out w2 (.cells #[.int .i64 s.k,.string s.se,.int .i64 s.va,.string s.wd,.int .u64 s.wt,.bool s.td,.int .i64 s.ti,.int .i64 s.c] 73)));have aP:=Qaa (Qac (Qac bb aD) (aq.out w2 (.cells #[.int .i64 s.k,.string s.se,.int .i64 s.va,.string s.wd,.int .u64 s.wt,.bool s.td,.int .i64 s.ti,.int .i64 s.c] 73)));have ag:=Qaa (ZZk w2 (.cells #[.int .i64 s.k,.string s.se,.int .i64 s.va,.string s.wd,.int .u64 s.wt,.bool s.td,.int .i64 s.ti,.int .i64 s.c] 73));have ax:=Qaa (Nat.le_trans aY aD.size);clear hL aD au ap bb;unfold Qvb;go_upto_region 6 with fail;generalize w2.alloc (.cells #[.int .i64 s.k,.string s.se,.int .i64 s.va,.string s.wd,.int .u64 s.wt,.bool s.td,.int .i64 s.ti,.int .i64 s.c] 73)=W2 at an aj aP ag ⊢;obtain ⟨bL,bC⟩:∃ b,w2.heap.size=b:=⟨_,rfl⟩;rw [bC] at ag ax ⊢;clear bC;have z7:=QaO ag 7 rfl;by_cases hc:s.c=0
  ·have aQ:=Qaa (HL.out.right hc).1
   have af:=Qaa (And.intro HL hc);have aW:(s.c == 0)=true:=by simpa using hc
   have z0:=QaO ag 0 rfl;have z1:=QaO ag 1 rfl;have z2:=QaO ag 2 rfl;have z3:=QaO ag 3 rfl;have z4:=QaO ag 4 rfl;have z5:=QaO ag 5 rfl;have z6:=QaO ag 6 rfl
   have ab:Hid (LnB w (W2.alloc (.cells #[.int .i64 s.k,.string s.se,.int .i64 s.va,.string s.wd,.int .u64 s.wt,.bool s.td,.int .i64 s.ti] 71)) (Qam (.slice ao N ca) p) W2.heap.size ⟨s.k,s.se,s.va,s.wd,s.wt,s.td,(s.ti:Int)⟩):=by
    have z:=(ZZc.1 ag).1;have l:=ax.out;exact Qaa ⟨QaA an (aq.out W2 (.cells #[.int .i64 s.k,.string s.se,.int .i64 s.va,.string s.wd,.int .u64 s.wt,.bool s.td,.int .i64 s.ti] 71)),QaA aj (aq.out W2 (.cells #[.int .i64 s.k,.string s.se,.int .i64 s.va,.string s.wd,.int .u64 s.wt,.bool s.td,.int .i64 s.ti] 71)),ZZk W2 _,by omega,Qac aP (aq.out W2 (.cells #[.int .i64 s.k,.string s.se,.int .i64 s.va,.string s.wd,.int .u64 s.wt,.bool s.td,.int .i64 s.ti] 71))⟩
   clear HL an aj aP ax;go_upto_region 9 with fail;clear z0 z1 z2 z3 z4 z5 z6 z7 aW ag;generalize W2.alloc (.cells #[.int .i64 s.k,.string s.se,.int .i64 s.va,.string s.wd,.int .u64 s.wt,.bool s.td,.int .i64 s.ti] 71)=W3 at ab ⊢;generalize W2.heap.size=bX at ab ⊢;obtain ⟨a1,a2,b1,b2,c1,c2,d1,d2⟩:=Qcj HP;have x5:=QaO ab.out.x 5 rfl;go_upto_if 36 with fail;clear x5
   go_cut [] (fun w'=>∃ tm:Int,tm=(if s.td=true then (s.ti:Int) else p.c)/\0<=tm/\tm<=1000000000/\Hid (LnB w w' (Qam (.slice ao N ca) p) bX ⟨s.k,s.se,s.va,s.wd,s.wt,true,tm⟩))
   case first=>
    cases htd:s.td with
    | false=>
     rw [htd] at ab;have f5:=fzR 5 ab.out.x;have q5:=QaO ab.out.x 5 rfl;have aH:=Qaa (ab.out.set 5 (.bool true) (x':=⟨s.k,s.se,s.va,s.wd,s.wt,true,(s.ti:Int)⟩) rfl);go_upto_region 11 with fail;clear f5 q5;generalize W3.setCell ⟨bX,5,none⟩ (.bool true)=W4 at aH ⊢;have f6:=fzR 6 aH.out.x;have q6:=QaO aH.out.x 6 rfl;have q3:=QaO aH.out.p 3 rfl;go_wp2;go_meet;exact ⟨p.c,by first | rfl | simp [htd],c1,c2,Qaa (aH.out.set 6 (.int .i64 p.c) rfl)⟩
    | true=>
     rw [htd] at ab aQ;obtain ⟨t1,t2⟩:=Qm3 aQ;go_wp2;go_meet;exact ⟨s.ti,by first | rfl | simp [htd],t1,t2,ab⟩
   case rest=>
    clear ab;obtain ⟨tm,bN,t1,t2,ab⟩:=hcut;obtain ⟨XB,XO⟩:=QiJ aQ t1 t2;have XB:=Qaa XB;have XO:=Qaa XO;clear aQ;obtain ⟨x,hx⟩:∃ x:Sx,x=⟨s.k,s.se,s.va,s.wd,s.wt,true,tm⟩:=⟨_,rfl⟩;have e6:x.ti=tm:=by rw [hx]
    have aM:Hid (x=stS s p.c):=Qaa (by rw [hx,bN];rfl);have e1:x.se=s.se:=by rw [hx]
    rw [<- hx] at ab XB XO;obtain ⟨ac,aG⟩:∃ n,tm / p.a=n:=⟨_,rfl⟩;have w0:0<=ac:=by rw [<- aG];exact Int.ediv_nonneg t1 (by omega)
    have bU:ac<=tm:=by rw [<- aG];exact Int.ediv_le_self _ t1
    have am:Hid (x.ti / p.a=ac):=Qaa (by rw [e6];exact aG);have WB:Hid (Qjm ac=true):=Qaa (by unfold Qjm;simp only [Bool.and_eq_true,decide_eq_true_eq];omega);have hq:Int.tdiv tm p.a=ac:=by rw [<- aG];exact Int.tdiv_eq_ediv_of_nonneg t1
    have cc:IntKind.i64.wrap ac=ac:=ZZi _ ⟨by omega,by omega⟩;have b6:(p.a == 0)=false:=by simpa using (by omega:¬ p.a=0)
    have bS:¬ p.a=0:=by omega
    have b9:IntKind.i64.wrap (p.c+p.a)=p.c+p.a:=ZZi _ ⟨by omega,by omega⟩;obtain ⟨x0,x1,x2,x3,x4⟩:=QdF ab.out.p;have q6:wc.cell? ⟨bX,6,none⟩=some (.int .i64 tm):=by rw [<- e6];exact QaO ab.out.x 6 rfl
    have q1:=QaO ab.out.x 1 rfl;have e6:=Qaa e6;clear hx e1 aG bN w0 bU t1 t2 a1 a2 b1 b2 c1 c2 d1 d2;go_upto_region 13 with fail;clear q6;by_cases a4:ac<p.d
    ·have av:=Qaa ab.out.b
     have aw:=Qaa ab.out.z;have HF:Hid (LiX S p tx q0 (([]:List Sd).map Sd.key) (([]:List Ce).map Ce.key) 11):=Qaa (LiX.ill al HP af.out.1 af.out.2 (aM.out ▸ LvX.late (by rw [am.out];exact a4)) (by decide));go_wp2_with fail;refine (QaT 11 _).mono ?_;rintro e wz ⟨rfl,aa⟩;have R1:=QaA aw aa;have ae:=Qaa (Qac av aa);clear aa;obtain ⟨y0,y1,y2,y3,y4,y5,y6⟩:=Qd4 R1;obtain ⟨f0,f1,f2,f3,f4,f5,f6⟩:=fA7 R1;clear R1;go_wp2;refine bodyPost_ret (v:=.agg (QaI (.slice none 0 0) q0 (.slice none 0 0) 11)) (by simp [results,results21,go_sem,y0,y1,y2,y3,y4,y5,y6]) rfl ?_;have hC:=CpP.sets7 (v0:=.slice none 0 0) (v1:=.int .i64 0) (v2:=.int .i64 0) (v3:=.int .i64 0) (v4:=.int .i64 0) (v5:=.slice none 0 0) (v6:=.int .i64 11) (fun j q=>by cases q) (LvO.nil _ _) (QpO ae);exact ⟨none,0,0,q0,[],none,0,0,[],11,rfl,HF,PoB.none hC.r hC.o,hC.b⟩
    by_cases bH:p.c+p.a<tm
    ·have av:=Qaa ab.out.b
     have aw:=Qaa ab.out.z;have q6:wc.cell? ⟨bX,6,none⟩=some (.int .i64 tm):=by rw [<- e6.out];exact QaO ab.out.x 6 rfl
     have HF:Hid (LiX S p tx q0 (([]:List Sd).map Sd.key) (([]:List Ce).map Ce.key) 5):=Qaa (LiX.ill al HP af.out.1 af.out.2 (aM.out ▸ LvX.far (by rw [am.out];exact a4) (by rw [e6.out];exact bH)) (by decide));go_wp2_with fail;refine (QaT 5 _).mono ?_;rintro e wz ⟨rfl,aa⟩;have R1:=QaA aw aa;have ae:=Qaa (Qac av aa);clear aa;obtain ⟨y0,y1,y2,y3,y4,y5,y6⟩:=Qd4 R1;obtain ⟨f0,f1,f2,f3,f4,f5,f6⟩:=fA7 R1;clear R1;go_wp2;refine bodyPost_ret (v:=.agg (QaI (.slice none 0 0) q0 (.slice none 0 0) 5)) (by simp [results,results21,go_sem,y0,y1,y2,y3,y4,y5,y6]) rfl ?_;have hC:=CpP.sets7 (v0:=.slice none 0 0) (v1:=.int .i64 0) (v2:=.int .i64 0) (v3:=.int .i64 0) (v4:=.int .i64 0) (v5:=.slice none 0 0) (v6:=.int .i64 5) (fun j q=>by cases q) (LvO.nil _ _) (QpO ae);exact ⟨none,0,0,q0,[],none,0,0,[],5,rfl,HF,PoB.none hC.r hC.o,hC.b⟩
    have bh:Hid (p.d<=x.ti / p.a):=Qaa (by rw [am.out];omega);have a9:Hid (x.ti<=p.c+p.a):=Qaa (by rw [e6.out];omega);have q6:wc.cell? ⟨bX,6,none⟩=some (.int .i64 tm):=by rw [<- e6.out];exact QaO ab.out.x 6 rfl
    go_wp2_with fail;clear q6 a4 bH b9 cc b6 bS hq;refine (Qfv p HI.out.n HQ (Qbd HI.out.at' ab.out.b)).mono ?_;rintro e w4 ⟨v4,R,rfl,hA⟩;obtain ⟨ar,cr,rfl,_⟩:=hA.r.form;have hR:=hA.len HQ;have aS:Hid ((R.map Ce.key).Perm ((QaN S).map Ce.key)):=Qaa (by have h:=hA.pm;rw [List.take_of_length_le (by have:=HI.out.n;omega)] at h;exact h);have bY:=Qaa hA.asc;have aZ:=Qaa (ab.out.past hA.b);have bi:=Qaa (OwnC.at hA.r hA.o.at);clear hA ab x0 x1 x2 x3 x4 q1;have q1:=QaO aZ.out.x 1 rfl;go_wp2_with fail;clear q1;refine (QeP ac x.se rfl (by omega) bi).mono ?_;rintro e w5 ⟨k5,is,rfl,bB,bg⟩;have bP:=Qaa bB;have az:=Qaa (aZ.out.past bg);have bw:=Qaa (Qa6 bi bg);clear bg aZ bi bB;go_upto_region 19 with fail
    go_cut [82] (fun v w'=>∃ b:Bool,v=.bool b/\w'=w5/\Hid (b=true↔QbX S ac x.se))
    case first=>
     cases is with
     | true=>
      have ay:Hid (¬ QbX S ac x.se):=Qaa (fun h=>by
       obtain ⟨c,hc,e1,e2⟩:=bP.out.yes rfl;exact ((Qhn aS).1 h).1 ⟨c,ZZn hc,e1,e2⟩)
      go_wp2;go_meet;exact ⟨false,rfl,rfl,Qaa ⟨(fun h=>by cases h),fun h=>absurd h ay⟩⟩
     | false=>
      have bs:=Qaa (QlJ bY bP).2;go_wp2_with fail;refine (Qgs ac rfl (by omega) bw).mono ?_;rintro e w6 ⟨rfl,cg⟩;obtain rfl:=cg.symm;by_cases b0:(20:Int)<=(Qe1 R ac:Int)
      ·have bf:Hid (QbX S ac x.se):=Qaa ((Qhn aS).2 ⟨bs,.inl (by omega)⟩)
       go_wp2;go_meet;exact ⟨true,by first | rfl | simp [b0],rfl,Qaa ⟨fun _=>bf.out,fun _=>rfl⟩⟩
      ·by_cases a6:(60:Int)<=(R.length:Int)
       ·have bf:Hid (QbX S ac x.se):=Qaa ((Qhn aS).2 ⟨bs,.inr (by omega)⟩)
        go_wp2;go_meet;exact ⟨true,by first | rfl | simp [a6],rfl,Qaa ⟨fun _=>bf.out,fun _=>rfl⟩⟩
       ·have ay:Hid (¬ QbX S ac x.se):=Qaa (fun h=>by rcases ((Qhn aS).1 h).2 with q | q <;> omega)
        go_wp2;go_meet;exact ⟨false,by first | rfl | (simp [a6];done) | (simp [a6];omega),rfl,Qaa ⟨(fun h=>by cases h),fun h=>absurd h ay⟩⟩
    case rest=>
     obtain ⟨b,rfl,hw,ay⟩:=hcut;obtain rfl:=hw.symm;clear bw
     cases b with
     | true=>
      have av:=Qaa az.out.b;have aw:=Qaa az.out.z;have HF:Hid (LiX S p tx q0 (([]:List Sd).map Sd.key) (([]:List Ce).map Ce.key) 8):=Qaa (LiX.ill al HP af.out.1 af.out.2 (aM.out ▸ LvX.full (Int.not_lt.2 bh) (Int.not_lt.2 a9) (by rw [am.out];exact ay.out.1 rfl)) (by decide));go_wp2_with fail;refine (QaT 8 _).mono ?_;rintro e wz ⟨rfl,aa⟩;have R1:=QaA aw aa;have ae:=Qaa (Qac av aa);clear aa;obtain ⟨y0,y1,y2,y3,y4,y5,y6⟩:=Qd4 R1;obtain ⟨f0,f1,f2,f3,f4,f5,f6⟩:=fA7 R1;clear R1;go_wp2;refine bodyPost_ret (v:=.agg (QaI (.slice none 0 0) q0 (.slice none 0 0) 8)) (by simp [results,results21,go_sem,y0,y1,y2,y3,y4,y5,y6]) rfl ?_;have hC:=CpP.sets7 (v0:=.slice none 0 0) (v1:=.int .i64 0) (v2:=.int .i64 0) (v3:=.int .i64 0) (v4:=.int .i64 0) (v5:=.slice none 0 0) (v6:=.int .i64 8) (fun j q=>by cases q) (LvO.nil _ _) (QpO ae);exact ⟨none,0,0,q0,[],none,0,0,[],8,rfl,HF,PoB.none hC.r hC.o,hC.b⟩
     | false=>
      have bA:Hid (¬ QbX S (x.ti / p.a) x.se):=Qaa (fun h=>by rw [am.out] at h;cases ay.out.2 h);obtain ⟨x0,x1,x2,x3,x4⟩:=QdF az.out.p;go_wp2_with fail;clear x0 x1 x2 x3 x4;refine (Qgp p (HI.out.past az.out.b)).mono ?_;rintro e w6 ⟨v,M,rfl,hC⟩;have ce:M.length=N:=by have h:=congrArg List.length hC.ky;rw [List.length_map,List.length_map] at h;rw [h];exact HI.out.n
      have cl:1<=N:=by have h:=(Qbp (Qb2 (QaE HP).1)).1;rw [List.length_map] at h;have:=HI.out.n;omega
      have bT:N<=12:=by have:=HQ.out.n;have:=HI.out.n;omega
      obtain ⟨gs,cs,rfl⟩:=Qjn hC.r (by omega);rw [ce] at hC ⊢;have bQ:=Qaa hC.ky;have aL:=aq.out w6 (.cells (Qam (.slice (some ⟨gs,0,none⟩) N cs) p) 35)
      have aT:Hid (SmL w5 (w6.alloc (.cells (Qam (.slice (some ⟨gs,0,none⟩) N cs) p) 35)) w6.heap.size p (.slice (some ⟨gs,0,none⟩) N cs) M 0 []):=by
       have lp:∀ j,QpU (.slice (some ⟨gs,0,none⟩) N cs) M j->j<w6.heap.size:=fun j q=>((PpB.of hC.r hC.o).hi j q).2;exact Qaa ⟨heap_alloc_new w6 _,fun j q e=>by have:=lp j q;omega,hC.r.past aL,hC.o.past aL,rfl,by simp,Qac hC.b aL⟩
      have aC:=Qaa ((az.out.past hC.b).past aL);have bV:Hid (w5.heap.size<=w6.heap.size):=hC.b.size;have aE:Hid (bX<w5.heap.size):=(ZZc.1 az.out.x).1;clear hC aL;go_upto_region 22 with fail;generalize w6.alloc (.cells (Qam (.slice (some ⟨gs,0,none⟩) N cs) p) 35)=W7 at aT aC ⊢;obtain ⟨bx,bM⟩:∃ b,w6.heap.size=b:=⟨_,rfl⟩;rw [bM] at aT bV ⊢;clear bM;have LM:Hid ((S.map Sd.nm).length=N):=Qaa (by rw [List.length_map];exact HI.out.n);have bt:=Qaa (Qb2 (QaE HP).1);have bv:Hid (x.se.size<=20000):=Qaa (by have:=QeA (Qip XB);omega);have ad:Below W7.heap.size W7 W7.drew:=(ZZb _ _).drew;refine Qao (fun W=>Below W7.heap.size W7 W) 5 (by kernel_rfl) ?_;refine tkL 0 (.agg (Qam (.slice ao N ca) p)) ad (fun W hW=>?_) ?_
      ·obtain ⟨x0,x1,x2,x3,x4⟩:=QdF (aC.out.past hW).p
       clear hW;go_simp
      refine tkS 2 (.pointer (some ⟨bX,1,none⟩)) ad ?_;refine tkL 3 (.string x.se) ad (fun W hW=>?_) ?_
      ·have q0:=QaO (aC.out.past hW).x 1 rfl
       clear hW;go_simp
      simp only [sX];refine onE 1 fun K hK=>?_;go_simp;refine (QbR (ca:=ca) p HI.out.n (by omega) (Qbd HI.out.at' (Qac aC.out.b ad))).mono ?_;rintro e w8 ⟨bo,cn,rfl,ho,bp⟩;have ba:Below W7.heap.size W7 w8:=Qac ad bp;have bI:=Qaa ho.at
      clear ho bp;dsimp only;refine gK hK ba ?_
      try simp only [sX]
      refine onE 4 fun K hK=>?_;go_simp;have a5:=Qcq (w:=w8) (L:=S.map Sd.nm) (ao:=bo) cn x.se bv bt bI;rw [LM.out] at a5;refine a5.mono ?_;rintro e w9 ⟨ow,rfl,bD,bF⟩;have bR:=Qaa bD;have aU:Below W7.heap.size W7 w9:=Qac ba bF;clear a5 bF bD;dsimp only;refine gK hK aU ?_
      try simp only [sX]
      refine onE 5 fun K hK=>?_;go_simp;refine hK.out _ _ (fun h=>absurd rfl h) ?_
      try simp only [sX]
      refine dnE ?_ _;have bk:=Qaa (aT.out.past aU);have bn:=Qaa (aC.out.past aU);clear aT aC ba aU bI ad;go_wp2_with fail
      go_loopw [13] (fun i wr=>∃ (k:Nat) (X:List Sd),k<=N/\i=.int .i64 k/\X.length=k/\Hid (UpX S ow ac x k X)/\Hid (SmL w5 wr bx p (.slice (some ⟨gs,0,none⟩) N cs) M k X)/\Hid (LnB w wr (Qam (.slice ao N ca) p) bX x)) (fun i wr=>N - (Go.RowKit.intOf i).toNat)
      case atStart=>exact ⟨0,[],ZZj _,rfl,rfl,Qaa .nil,bk,bn⟩
      case round=>
       clear bk bn;obtain ⟨k,X,hk,rfl,bl,bd,HJ,ak⟩:=hrel;by_cases ck:k<N
       ·have a8:(k:Int)<(N:Int):=by omega
        have cq:(0:Int)<=(k:Int):=by omega
        obtain ⟨t,ht⟩:∃ t,M[k]?=some t:=⟨M[k]'(by omega),ZZe _⟩;obtain ⟨bj,bO,bz,aN⟩:=HJ.out.sh bQ HQ (QaE HP).1 ht bl;have bZ:=Qaa (QqS (HJ.out.o.r t (ZZn aN)) rfl);have co:IntKind.i64.wrap ((k:Int)+1)=((k+1:Nat):Int):=by rw [show (k:Int)+1=((k+1:Nat):Int) by omega];exact ZZi _ ⟨by omega,by omega⟩
        have r0:=QaO HJ.out.xb 0 rfl;have q0:=Qmz HJ.out.r HJ.out.o aN;have br:=Qaa ht;obtain ⟨sk,a7⟩:∃ s,S[k]?=some s:=⟨S[k]'(by have:=HI.out.n;omega),ZZe _⟩;have aA:=Qaa (Qr9 bQ ht a7);have bc:=Qaa a7;clear a7;have bq:=Qaa bj;have aO:=Qaa bO;have bW:=Qaa bz;have bu:=Qaa aN;clear ht bj bO bz aN;by_cases aV:(t.nm.toList == ow.toList)=true
        ·have a0:=Qaa (nm_is.1 aV)
         go_upto_region 27 with fail;clear r0 q0;have ad:Below wr.heap.size wr wr.drew:=(ZZb _ _).drew;refine Qao (fun W=>Below wr.heap.size wr W) 13 (by kernel_rfl) ?_;refine tkS 0 (.pointer (some ⟨bx,0,none⟩)) ad ?_;refine tkL 1 (.slice (some ⟨gs,0,none⟩) N cs) ad (fun W hW=>?_) ?_
         ·have q0:=QaO (QaA HJ.out.xb hW) 0 rfl
          clear hW;go_simp
         refine tkS 2 (.int .i64 k) ad ?_;simp only [sX];refine tkS 3 (.pointer (some ⟨gs,k*2,none⟩)) ad ?_;refine tkS 4 (.pointer (some ⟨gs,k*2+1,none⟩)) ad ?_;refine tkL 5 (.slice t.ao t.L.length t.cp) ad (fun W hW=>?_) ?_
         ·have q0:=Qer (HJ.out.past hW).r (HJ.out.past hW).o bu
          clear hW;go_simp
         simp only [sX];refine tkS 6 (.int .i64 ac) ad ?_;refine tkL 7 (.agg (QcA x)) ad (fun W hW=>?_) ?_
         ·obtain ⟨x0,x1,x2,x3,x4,x5,x6⟩:=Qd4 (QaA ak.out.x hW)
          clear hW;go_simp
         simp only [sX];refine onE 8 fun K hK=>?_;go_simp;refine (QqI ac x XB XO (bq.out.past ad) bZ (csR_iff.1 aO).2.2 (fun c hc=>Qi3 ((csR_iff.1 aO).2.1 c hc))).mono ?_;rintro e w4 ⟨v4,R4,cd,rfl,bG,be,bE,bm⟩;obtain ⟨ar,cr,rfl,_⟩:=be.form;have ai:Below wr.heap.size wr w4:=Qac ad bm;have a3:=Qaa bG;have ch:=Qaa (be.le ad.size);have cf:=Qaa (bE.le ad.size);clear bG be bE bm;dsimp only;refine gK hK ai ?_
         try simp only [sX]
         refine tkS 9 (.tuple #[.slice ar R4.length cr,.int .i64 cd]) ai ?_;refine tkS 10 (.slice ar R4.length cr) ai ?_;refine tkS 11 (.int .i64 cd) ai ?_;simp only [sX];refine onE 12 fun K hK=>?_;go_simp;refine gK hK ai ?_
         try simp only [sX]
         refine onE 13 fun K hK=>?_;go_simp;refine hK.out _ _ (fun h=>absurd rfl h) ?_
         try simp only [sX]
         refine dnE ?_ _;by_cases aB:cd=0
         ·have aW:(cd == 0)=true:=by simpa using aB
          have bJ:=pua_bd aO (cnq_of bq aO) XO XB WB (aB ▸ a3.out);have cb:Hid (UpX S ow ac x (k+1) (X ++ [⟨t.nm,R4,ar,cr⟩])):=Qaa (bd.out.step (Qot (QaE HP).1) bc ((Qcx aA).1.symm.trans a0) a0 ((aB ▸ a3.out:PuA t.L ac x R4 0).keyX (Qcx aA).2.1.symm) rfl);have HN:=Qaa (HJ.out.step bl br ai ch cf bJ);have b3:=(World.ownsRow.lt HJ.out.r gs rfl).1;have af:=Qaa ((ak.out.past ai).far (g:=gs) (by have:=aE.out;omega) (k*2+1) (.slice ar R4.length cr));have aJ:=Qaa (HJ.out.past ai);have r0:=QaO aJ.out.xb 0 rfl;have q1:=Qer aJ.out.r aJ.out.o bu;obtain ⟨cj,aF⟩:=Qmd aJ.out.r;have fz:=fzR (k*2+1) aF;clear aF bJ b3 aJ HJ ak;go_wp2;go_roundw
          case rel=>exact ⟨k+1,_,by omega,by first | rfl | go_num,by simp;omega,cb,HN,af⟩
          case measure=>simp [zI];omega
         ·have av:=Qaa (ak.out.past ai).b
          have aw:=Qaa (ak.out.past ai).z;have aW:(cd == 0)=false:=by simpa using aB
          have HF:Hid (LiX S p tx q0 (([]:List Sd).map Sd.key) (([]:List Ce).map Ce.key) cd):=Qaa (LiX.ill al HP af.out.1 af.out.2 (aM.out ▸ LvX.bad (Int.not_lt.2 bh) (Int.not_lt.2 a9) bA bR (List.mem_of_getElem? bc) ((Qcx aA).1.symm.trans a0) (by rw [am.out];exact a3.out.keyX (Qcx aA).2.1.symm) aB) aB);go_wp2_with fail;refine (QaT cd _).mono ?_;rintro e wz ⟨rfl,aa⟩;have R1:=QaA aw aa;have ae:=Qaa (Qac av aa);clear aa;obtain ⟨y0,y1,y2,y3,y4,y5,y6⟩:=Qd4 R1;obtain ⟨f0,f1,f2,f3,f4,f5,f6⟩:=fA7 R1;clear R1;go_wp2;refine bodyPost_ret (v:=.agg (QaI (.slice none 0 0) q0 (.slice none 0 0) cd)) (by simp [results,results21,go_sem,y0,y1,y2,y3,y4,y5,y6]) rfl ?_;have hC:=CpP.sets7 (v0:=.slice none 0 0) (v1:=.int .i64 0) (v2:=.int .i64 0) (v3:=.int .i64 0) (v4:=.int .i64 0) (v5:=.slice none 0 0) (v6:=.int .i64 cd) (fun j q=>by cases q) (LvO.nil _ _) (QpO ae);exact ⟨none,0,0,q0,[],none,0,0,[],cd,rfl,HF,PoB.none hC.r hC.o,hC.b⟩
        ·have b4:Hid (sk.nm≠ow):=Qaa (fun e=>aV (nm_is.2 ((Qcx aA).1.trans e)))
         have aV:(t.nm.toList == ow.toList)=false:=Bool.not_eq_true _ ▸ aV;go_wp2;go_roundw
         case rel=>exact ⟨k+1,X ++ [t],by omega,by first | rfl | go_num,by simp;omega,Qaa (bd.out.skip bc aA b4),Qaa (HJ.out.skip br bW),ak⟩
         case measure=>simp [zI];omega
       ·have a8:¬ (k:Int)<(N:Int):=by omega
        obtain rfl:k=N:=by omega
        obtain ⟨x0,x1,x2,x3,x4⟩:=QdF HJ.out.xb;have R1:=ak.out.z;obtain ⟨y0,y1,y2,y3,y4,y5,y6⟩:=Qd4 R1;obtain ⟨f0,f1,f2,f3,f4,f5,f6⟩:=fA7 R1;clear R1;go_wp2;refine bodyPost_ret (v:=.agg (QaI (.slice (some ⟨gs,0,none⟩) k cs) p (.slice none 0 0) 0)) (by simp [results,results21,go_sem,y0,y1,y2,y3,y4,y5,y6]) rfl ?_;have b8:M.drop k=[]:=List.drop_eq_nil_of_le (by omega);have hr:=HJ.out.r;have ho:=HJ.out.o;have hn:=HJ.out.nm;rw [b8,List.append_nil] at hr ho;rw [List.take_of_length_le (by omega)] at hn;have hz:=aE.out;have hl:=ak.out.lb;have hC:=CpP.sets7 (w:=w) (S:=X) (v0:=.slice (some ⟨gs,0,none⟩) k cs) (v1:=.int .i64 p.a) (v2:=.int .i64 p.b) (v3:=.int .i64 p.c) (v4:=.int .i64 p.d) (v5:=.slice none 0 0) (v6:=.int .i64 0) (fun j q=>by have:=(World.ownsRow.lt hr j q).1;omega) (ho.le (by omega)) ⟨hr.le (by omega),ho.le (by omega),rfl,ak.out.b⟩;exact ⟨_,_,_,_,X,none,0,0,[],0,rfl,LiX.good al HP af.out.1 af.out.2 (aM.out ▸ bd.out.fin HI.out.n am.out.symm (Int.not_lt.2 bh) (Int.not_lt.2 a9) bA bt bv bR),PoB.none hC.r hC.o,hC.b⟩
  ·have aW:(s.c == 0)=false:=by simpa using hc
   have HF:Hid (LiX S p tx q0 (([]:List Sd).map Sd.key) (([]:List Ce).map Ce.key) s.c):=Qaa (LiX.code al HP HL hc);go_wp2_with fail;refine (QaT s.c _).mono ?_;rintro e wz ⟨rfl,aa⟩;have R1:=QaA aj aa;have ae:=Qaa (Qac aP aa);clear aa;obtain ⟨y0,y1,y2,y3,y4,y5,y6⟩:=Qd4 R1;obtain ⟨f0,f1,f2,f3,f4,f5,f6⟩:=fA7 R1;clear R1;go_wp2;refine bodyPost_ret (v:=.agg (QaI (.slice none 0 0) q0 (.slice none 0 0) s.c)) (by simp [results,results21,go_sem,y0,y1,y2,y3,y4,y5,y6]) rfl ?_;have hC:=CpP.sets7 (v0:=.slice none 0 0) (v1:=.int .i64 0) (v2:=.int .i64 0) (v3:=.int .i64 0) (v4:=.int .i64 0) (v5:=.slice none 0 0) (v6:=.int .i64 s.c) (fun j q=>by cases q) (LvO.nil _ _) (QpO ae);exact ⟨none,0,0,q0,[],none,0,0,[],s.c,rfl,HF,PoB.none hC.r hC.o,hC.b⟩
end Go.Proofs.YtdbaabbmcfnjbaaGreatDoor
