/-
 heldCellS: cells that hold what was written.
-/
import Derived.Test.YtiiclgcpagdekaaGreatDoorFCP
namespace Go.Proofs.YtiiclgcpagdekaaGreatDoor
set_option linter.unusedVariables false
set_option linter.unusedSimpArgs false
open Go.ChangeShapes Go.WideShapes Go.ChangeAt Go.RowKit Go.PlainAid Go.Lib
set_option maxRecDepth 10000
theorem AgO.past' {w w':World} {B:Nat} {o:Ag} {p:Pl} (h:AgO w B o p) (hb:Below w.heap.size w w'):AgO w' B o p:=h.past hb
theorem mkCs_at:∀ {L:List Ce} {k0 i:Nat} {c:Ce},L[i]?=some c→(mkCs k0 L)[i]?=some (mkC (k0+totC (L.take i)) c)
 | [],_,_,_,h=>by simp at h
 | d :: L,k0,0,c,h=>by
  obtain rfl:d=c:=by simpa using h
  simp [mkCs,totC]
 | d :: L,k0,i+1,c,h=>by
  have:=mkCs_at (L:=L) (k0:=k0+cst d) (i:=i) (c:=c) (by simpa using h)
  rw [mkCs,List.getElem?_cons_succ,this,List.take_succ_cons,totC,show k0+cst d+totC (L.take i)=k0+(cst d+totC (L.take i)) by omega]
set_option maxHeartbeats 8000000 in
theorem c_heldCellS {w:World} {B N:Nat} {v:Value} {L:List Ce} (k0:Nat) (h0:1≤k0) (hk:k0+totC L≤50000000) (hN:L.length=N) (lN:N≤1048576) (sm:∀ c∈L,AgSm c.g) (hR:OwnC w B v (mkCs k0 L)) (hO:CesO w B (mkCs k0 L)) :
  Calls Tryz.prog 26 #[v,.int .i64 k0] w fun e w'=>e=.returned (.int .i64 ((k0+totC L:Nat):Int))∧Below w.heap.size w w':=by
 obtain ⟨ao,cp,rfl,_⟩:=hR.form
 have hml:(mkCs k0 L).length=N:=by rw [mkCs_len];exact hN
 rw [hml] at hR ⊢
 have HR:=hide hR
 have HO:=hide hO
 have HN:=hide hN
 have HML:=hide hml
 have SM:=hide sm
 have HK:=hide hk
 clear hR hO hN sm hk hml
 go_enter Tryz.func26,Tryz.ntmps26
 go_wp2
 go_loopw [1,5] (fun m i wr=>∃ (k:Nat),k≤N∧i=.int .i64 k∧m=.int .i64 ((k0+totC (L.take k):Nat):Int)∧Hid (Below w.heap.size w wr)) (fun m i wr=>N - (Go.RowKit.intOf i).toNat)
 case atStart=>exact ⟨0,Nat.zero_le _,rfl,by simp [totC],Below.refl _ _⟩
 case round=>
  obtain ⟨k,hk,rfl,rfl,HB⟩:=hrel
  by_cases hkn:k<N
  ·obtain ⟨c,hc⟩:∃ c,L[k]?=some c:=⟨L[k]'(by have:=HN.out;omega),List.getElem?_eq_getElem _⟩
   have hat:=mkCs_at (k0:=k0) hc
   obtain ⟨gg,rfl⟩:=own_addr HR.out (by have:=HML.out;omega)
   obtain ⟨Zk,hK⟩:∃ Zk,k0+totC (L.take k)=Zk:=⟨_,rfl⟩
   have hKb:Zk+cst c≤50000000:=by
    have h1:=totC_take hc
    have h2:=totC_mono L (k+1)
    have:=HK.out
    omega
   have hT:Zk+cst c=k0+totC (L.take (k+1)):=by rw [totC_take hc];omega
   have HT:=hide hT
   rw [hK] at hat ⊢
   have SC:=hide (SM.out c (List.mem_of_getElem? hc))
   have AG:=hide (HO.out.o _ (List.mem_of_getElem? hat))
   have hK1:1≤Zk:=by omega
   have hkni:(k:Int)<(N:Int):=by omega
   have HX:=hide (row_cells HR.out HML.out hat).1
   unfold cst at hKb
   clear hc hat hK hT
   obtain ⟨x0,x1,x2,x3,x4,x5,x6,x7,x8,x9,x10,x11,x12,x13,x14⟩:=cec_past HX.out HB.out
   have y0:wr.cell? ⟨gg,k*15,none⟩=some (.int .i64 (Zk:Int)):=x0
   clear x0 x1 x2 x3 x4 x5 x6 x7 x8 x9 x10 x11 x12 x13 x14
   go_upto_region 7 with fail
   clear y0
   go_cut [28] (fun v w'=>v=.bool false∧Hid (Below w.heap.size w w'))
   case first=>
    have HS0:(fun W=>Below wr.heap.size wr W) wr.drew:=(Below.refl _ _).drew
    refine regionK (fun W=>Below wr.heap.size wr W) 99 (by kernel_rfl) ?_
    refine tkS (i:=0) (v:=.slice (some ⟨gg,0,none⟩) N cp) rfl rfl HS0 ?_
    refine tkS (i:=1) (v:=.int .i64 (k:Int)) rfl rfl HS0 ?_
    refine tkS (i:=2) (v:=.pointer (some ⟨gg,k*15,none⟩)) rfl rfl HS0 ?_
    simp only [sA,sB,sC]
    refine tkS (i:=3) (v:=.pointer (some ⟨gg,k*15+1,none⟩)) rfl rfl HS0 ?_
    refine tkL (i:=4) (v:=.string (mtx (Zk+1))) rfl rfl HS0 (fun W hW=>?_) ?_
    ·obtain ⟨x0,x1,x2,x3,x4,x5,x6,x7,x8,x9,x10,x11,x12,x13,x14⟩:=cec_past HX.out (chain HB.out hW)
     change _=some (Value.string (mtx (Zk+1))) at x1
     clear hW
     go_simp
    refine tkS (i:=5) (v:=.int .i64 ((Zk:Int)+1)) rfl rfl HS0 ?_
    simp only [sA,sB,sC]
    refine onE (i:=6) rfl (fun K hK=>?_)
    go_simp
    rw [show (Zk:Int)+1=((Zk+1:Nat):Int) from rfl]
    refine (c_markText (Zk+1) (by omega) (by omega) _).mono ?_
    rintro e w1 ⟨rfl,hb1⟩
    have HB1:Hid (Below wr.heap.size wr w1):=(HS0:Below wr.heap.size wr wr.drew).trans (hb1.mono (Nat.le_refl _))
    clear hb1
    dsimp only
    refine hK.out _ _ (fun _=>HB1.out) ?_
    clear hK K
    try simp only [Act.put,sA,sB,sC]
    have hss:((mtx (Zk+1)).toList != (mtx (Zk+1)).toList)=false:=by simp
    refine tkS (i:=7) (v:=.bool false) rfl rfl HB1.out ?_
    simp only [sA,sB,sC]
    refine doneK (by kernel_rfl) ?_ _
    go_wp2
    go_meet
    exact ⟨rfl,chain HB.out HB1.out⟩
   case rest=>
   obtain ⟨rfl,HB2⟩:=hcut
   obtain ⟨W2,hW2⟩:∃ X,wc=X:=⟨_,rfl⟩
   rw [hW2] at HB2 ⊢
   clear hW2
   obtain ⟨x0,x1,x2,x3,x4,x5,x6,x7,x8,x9,x10,x11,x12,x13,x14⟩:=cec_past HX.out HB2.out
   have y2:W2.cell? ⟨gg,k*15+2,none⟩=some (.int .i64 ((Zk:Int)+1+1)):=x2
   have y3:W2.cell? ⟨gg,k*15+3,none⟩=some (.int .u64 ((Zk:Int)+1+1+1)):=x3
   have y4:W2.cell? ⟨gg,k*15+4,none⟩=some (.int .i64 ((Zk:Int)+1+1+1+1)):=x4
   have y5:W2.cell? ⟨gg,k*15+5,none⟩=some (.int .u64 ((Zk:Int)+1+1+1+1+1)):=x5
   have y6:W2.cell? ⟨gg,k*15+6,none⟩=some (.int .i64 ((Zk:Int)+1+1+1+1+1+1)):=x6
   have y7:W2.cell? ⟨gg,k*15+7,none⟩=some (.int .i64 ((Zk:Int)+1+1+1+1+1+1+1)):=x7
   have y8:W2.cell? ⟨gg,k*15+8,none⟩=some (.int .u64 ((Zk:Int)+1+1+1+1+1+1+1+1)):=x8
   have y9:W2.cell? ⟨gg,k*15+9,none⟩=some (.slice c.p.pa c.g.P.length c.p.pc):=by have:=x9;simp only [mkC,mkbs_len] at this;exact this
   clear x0 x1 x2 x3 x4 x5 x6 x7 x8 x9 x10 x11 x12 x13 x14
   go_wp2_with fail
   clear y2 y3 y4 y5 y6 y7 y8 y9
   rw [show (Zk:Int)+1+1+1+1+1+1+1+1+1=((Zk+9:Nat):Int) by omega]
   have hP:OwnB W2 B (.slice c.p.pa c.g.P.length c.p.pc) c.g.P.length (mkbs (Zk+9) c.g.P.length):=by have:=(AG.out.past' HB2.out).P;simp only [mkC,mkbs_len] at this;exact this
   have HP:=hide hP
   clear hP
   refine (c_heldBinS (Zk+9) (by omega) (by omega) SC.out.P HP.out).mono ?_
   rintro e w3 ⟨rfl,hb3⟩
   have HB3:=hide (chain HB2.out hb3)
   clear hb3 HP HB2
   have hn1:¬ (((Zk+9+2*c.g.P.length:Nat):Int)<0):=by omega
   obtain ⟨x0,x1,x2,x3,x4,x5,x6,x7,x8,x9,x10,x11,x12,x13,x14⟩:=cec_past HX.out HB3.out
   have y10:w3.cell? ⟨gg,k*15+10,none⟩=some (.slice c.p.na c.g.N.length c.p.nc):=by have:=x10;simp only [mkC,mkbs_len] at this;exact this
   clear x0 x1 x2 x3 x4 x5 x6 x7 x8 x9 x10 x11 x12 x13 x14
   go_wp2_with fail
   clear y10
   have hN3:OwnB w3 B (.slice c.p.na c.g.N.length c.p.nc) c.g.N.length (mkbs (Zk+9+2*c.g.P.length) c.g.N.length):=by have:=(AG.out.past' HB3.out).N;simp only [mkC,mkbs_len] at this;exact this
   have HN3:=hide hN3
   clear hN3
   refine (c_heldBinS (Zk+9+2*c.g.P.length) (by omega) (by omega) SC.out.N HN3.out).mono ?_
   rintro e w4 ⟨rfl,hb4⟩
   have HB4:=hide (chain HB3.out hb4)
   clear hb4 HN3 HB3 hn1
   obtain ⟨Q,hQ⟩:∃ Q,Zk+9+2*c.g.P.length+2*c.g.N.length=Q:=⟨_,rfl⟩
   rw [hQ]
   have HQ:=hide hQ
   have hQb:Q+2+c.g.E.length+c.g.R.length≤50000000:=by omega
   have hn2:¬ ((Q:Int)<0):=by omega
   obtain ⟨x0,x1,x2,x3,x4,x5,x6,x7,x8,x9,x10,x11,x12,x13,x14⟩:=cec_past HX.out HB4.out
   have y11:w4.cell? ⟨gg,k*15+11,none⟩=some (.int .i64 (Q:Int)):=by rw [← hQ];exact x11
   have y12:w4.cell? ⟨gg,k*15+12,none⟩=some (.int .u64 ((Q:Int)+1)):=by have:=x12;simp only [mkC] at this;rw [this];congr 2;omega
   have y13:w4.cell? ⟨gg,k*15+13,none⟩=some (.slice c.p.ea c.g.E.length c.p.ec):=by have:=x13;simp only [mkC,mkn_len] at this;exact this
   clear hQ x0 x1 x2 x3 x4 x5 x6 x7 x8 x9 x10 x11 x12 x13 x14
   go_wp2_with fail
   clear y11 y12 y13
   rw [show (Q:Int)+1+1=((Q+2:Nat):Int) by omega]
   have hE:OwnN .u64 25 w4 B (.slice c.p.ea c.g.E.length c.p.ec) c.g.E.length (mkn (Q+2) c.g.E.length):=by
    have:=(AG.out.past' HB4.out).E
    simp only [mkC,mkn_len] at this
    rw [show Zk+11+2*c.g.P.length+2*c.g.N.length=Q+2 by have:=HQ.out;omega] at this
    exact this
   have HE:=hide hE
   clear hE
   refine (c_heldUint64S (Q+2) (by omega) (by omega) SC.out.E HE.out).mono ?_
   rintro e w5 ⟨rfl,hb5⟩
   have HB5:=hide (chain HB4.out hb5)
   clear hb5 HE HB4
   have hn3:¬ (((Q+2+c.g.E.length:Nat):Int)<0):=by omega
   obtain ⟨x0,x1,x2,x3,x4,x5,x6,x7,x8,x9,x10,x11,x12,x13,x14⟩:=cec_past HX.out HB5.out
   have y14:w5.cell? ⟨gg,k*15+14,none⟩=some (.slice c.p.ra c.g.R.length c.p.rc):=by have:=x14;simp only [mkC,mkn_len] at this;exact this
   clear x0 x1 x2 x3 x4 x5 x6 x7 x8 x9 x10 x11 x12 x13 x14
   go_wp2_with fail
   clear y14
   have hR5:OwnN .i64 2 w5 B (.slice c.p.ra c.g.R.length c.p.rc) c.g.R.length (mkn (Q+2+c.g.E.length) c.g.R.length):=by
    have:=(AG.out.past' HB5.out).R
    simp only [mkC,mkn_len] at this
    rw [show Zk+11+2*c.g.P.length+2*c.g.N.length=Q+2 by have:=HQ.out;omega] at this
    exact this
   have HR5:=hide hR5
   clear hR5
   refine (c_heldInt64S (Q+2+c.g.E.length) (by omega) (by omega) SC.out.R HR5.out).mono ?_
   rintro e w6 ⟨rfl,hb6⟩
   have HB6:=hide (chain HB5.out hb6)
   have hn4:¬ (((Q+2+c.g.E.length+c.g.R.length:Nat):Int)<0):=by omega
   have HTT:Hid (Q+2+c.g.E.length+c.g.R.length=k0+totC (L.take (k+1))):=by
    show _=_
    rw [← HT.out]
    have:=HQ.out
    unfold cst;omega
   clear hb6 HR5 HB5 hn3
   go_wp2
   go_roundw
   case rel=>exact ⟨k+1,by omega,by go_num,by rw [← HTT.out];go_num,HB6⟩
   case measure=>simp [Go.RowKit.intOf];omega
  ·obtain rfl:k=N:=by omega
   have HF:Hid (totC (L.take k)=totC L):=by show _=_;rw [List.take_of_length_le (by have:=HN.out;omega)]
   go_wp2
   go_ret
   exact ⟨by rw [HF.out];rfl,HB.out⟩
end Go.Proofs.YtiiclgcpagdekaaGreatDoor
