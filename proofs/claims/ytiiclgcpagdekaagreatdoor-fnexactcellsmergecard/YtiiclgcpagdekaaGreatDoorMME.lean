/-
 The walk of the law FnExactCellsMerge.
-/
import Derived.Test.YtiiclgcpagdekaaGreatDoorMMD
namespace Go.Proofs.YtiiclgcpagdekaaGreatDoor
set_option linter.unusedVariables false
set_option linter.unusedSimpArgs false
open Go.ChangeShapes Go.WideShapes Go.ChangeAt Go.RowKit Go.PlainAid Go.Lib
set_option maxRecDepth 10000
structure CmQ (w:World) (lo hi:Nat) (v:Value) (R:List Ce):Prop where
 r:OwnC w lo v R
 o:CesO w lo R
 hi:∀ k,CBlk v R k→lo≤k∧k<hi
theorem CmQ.past {w w':World} {lo hi:Nat} {v:Value} {R:List Ce} (h:CmQ w lo hi v R) (hb:Below w.heap.size w w'):CmQ w' lo hi v R:=⟨h.r.past hb,h.o.past hb,h.hi⟩
theorem CmQ.keptS {w w':World} {lo hi:Nat} {v:Value} {R:List Ce} {S:Nat→Prop} (h:CmQ w lo hi v R) (hg:GrownS w w' S) (hS:∀ k,lo≤k→k<hi→¬ S k):CmQ w' lo hi v R:=
 ⟨h.r.keptS hg (fun k q=>by obtain ⟨a,b⟩:=h.hi k (.inl q);exact hS k a b),h.o.keptS hg (fun c m k q=>by obtain ⟨a,b⟩:=h.hi k (.inr ⟨c,m,q⟩);exact hS k a b),h.hi⟩
theorem CmQ.of {w:World} {lo:Nat} {v:Value} {R:List Ce} (r:OwnC w lo v R) (o:CesO w lo R):CmQ w lo w.heap.size v R:=⟨r,o,fun k q=>by
 rcases q with q | ⟨c,m,q⟩
 ·exact World.ownsRow.lt r k q
 ·exact (o.o c m).lt q⟩
theorem CmQ.at {w:World} {lo hi n cp:Nat} {ao:Option Addr} {R:List Ce} (h:CmQ w lo hi (.slice ao n cp) R):CesAt w ao R:=OwnC.at h.r h.o.at
theorem CmQ.shi {w:World} {lo hi g N:Nat} {L M:List Ce} (h:CmQ w lo hi (.slice (some ⟨g,0,none⟩) N N) M) (q:CeQ L) (k:M.map Ce.key=L.map Ce.key) (hN:M.length=N) (lN:N≤1048576):ShI w (some ⟨g,0,none⟩) N M:=by
 have q2:=q.key k
 exact ⟨hN,lN,q2.ok,q2.sm,q2.ss,fun c hc=>(h.o.o c hc).plgX,h.at⟩
theorem c_eqCm {w:World} {lo hi lo' hi' n m cp cp':Nat} {ao bo:Option Addr} {R R':List Ce} (h:CmQ w lo hi (.slice ao n cp) R) (k:CmQ w lo' hi' (.slice bo m cp') R') (hn:R.length=n) (hm:R'.length=m) (e:R.map Ce.key=R'.map Ce.key) (b:MnB R) :
  Calls Tryz.prog 24 #[.slice ao n cp,.slice bo m cp'] w fun e w'=>e=.returned (.bool true)∧Below w.heap.size w w':=by
 obtain rfl:n=m:=by rw [← hn,← hm];exact map_len e
 exact c_eqCellS hn hm e (by rw [← hn];exact b.l) b.sm h.at k.at
set_option maxHeartbeats 3000000 in
theorem walkCellsMerge (ao:Option Addr) (ca:Nat) (L:List Ce) (bo:Option Addr) (cb:Nat) (Q:List Ce) (w:World) (hl:CesLen L) (hA:CesAt w ao L) (ok:∀ c∈L,AgOk c.g) (hl':CesLen Q) (hB:CesAt w bo Q) (ok':∀ c∈Q,AgOk c.g) (hm:MX w) :
  Calls Tryz.prog 4 #[.slice ao L.length ca,.slice bo Q.length cb] w fun e w'=>e=.returned (.bool true)∧Below w.heap.size w w':=by
 obtain ⟨N,hN⟩:∃ N,L.length=N:=⟨_,rfl⟩
 obtain ⟨K,hK⟩:∃ K,Q.length=K:=⟨_,rfl⟩
 rw [hN,hK]
 have HN:=hide hN
 have HK:=hide hK
 have HA:=hide hA
 have HB:=hide hB
 have HL:=hide hl
 have HL':=hide hl'
 have OK:=hide ok
 have OK':=hide ok'
 have HMx:=hide hm
 clear hN hK hA hB hl hl' ok ok' hm
 go_enter Tryz.func4,Tryz.ntmps4
 go_wp2_with fail
 refine (c_szCellST ca _ (by omega) (by omega) HN.out HL.out HA.out).mono ?_
 rintro e w1 ⟨v,rfl,hv,hsm,hb1⟩
 have HT1:=hide hb1
 clear hb1
 by_cases hv0:v<0
 ·clear hsm
  go_wp2
  go_ret
  exact ⟨rfl,HT1.out⟩
 obtain ⟨v0,hTot⟩:=hsm hv0
 have HTa:Hid (L.length+ceTot L≤1048576):=by show _≤_;have:=HN.out;omega
 have lN:N≤1048576:=by omega
 clear hsm
 go_wp2_with fail
 refine (c_szCellST cb v (by omega) (by omega) HK.out HL'.out (ces_past HB.out HT1.out)).mono ?_
 rintro e w2 ⟨v',rfl,hv',hsm,hb2⟩
 have HT2:=hide (chain HT1.out hb2)
 clear hb2 HT1
 by_cases hv1:v'<0
 ·clear hsm
  go_wp2
  go_ret
  exact ⟨rfl,HT2.out⟩
 obtain ⟨v1,hTot'⟩:=hsm hv1
 have HTb:Hid (Q.length+ceTot Q≤1048576):=by show _≤_;have:=HK.out;omega
 have lK:K≤1048576:=by omega
 have HQ:Hid (CeQ L):=⟨OK.out,fun c hc=>agTot_sm (by have:=ceTot_mem hc;have:=HTa.out;omega),HL.out.s⟩
 have HR:Hid (CeQ Q):=⟨OK'.out,fun c hc=>agTot_sm (by have:=ceTot_mem hc;have:=HTb.out;omega),HL'.out.s⟩
 have CA:Hid (csR L=true→CnQ L):=fun r=>⟨HQ.out.ok,HQ.out.sm,fun c hc=>cRi_ag ((csR_iff.1 r).2.1 c hc),fun c hc=>⟨win_i64 (cRi_win ((csR_iff.1 r).2.1 c hc)),HQ.out.ss c hc⟩⟩
 have CB:Hid (csR Q=true→CnQ Q):=fun r=>⟨HR.out.ok,HR.out.sm,fun c hc=>cRi_ag ((csR_iff.1 r).2.1 c hc),fun c hc=>⟨win_i64 (cRi_win ((csR_iff.1 r).2.1 c hc)),HR.out.ss c hc⟩⟩
 have HT2s:Hid (w.heap.size≤w2.heap.size):=HT2.out.size
 clear hsm hTot hTot' hv hv'
 go_wp2_with fail
 refine (c_toCellSX ca HN.out lN HQ.out.sm (ces_past HA.out HT2.out)).mono ?_
 rintro e w3 ⟨M3,rfl,l3,k3,r3,hb3⟩
 obtain ⟨ra3,rb3⟩:=r3.own_all l3 lN
 have XA0:=hide (CmQ.of ra3 rb3)
 have K3:=hide k3
 have L3:=hide l3
 have Z3:=hide hb3.size
 have HT3:=hide (chain HT2.out hb3)
 clear ra3 rb3 r3 l3 k3 hb3 HT2
 go_wp2_with fail
 refine (c_toCellSX cb HK.out lK HR.out.sm (ces_past HB.out HT3.out)).mono ?_
 rintro e w4 ⟨M4,rfl,l4,k4,r4,hb4⟩
 obtain ⟨ra4,rb4⟩:=r4.own_all l4 lK
 have XA1:=hide (XA0.out.past hb4)
 have XB0:=hide (CmQ.of ra4 rb4)
 have K4:=hide k4
 have L4:=hide l4
 have Z4:=hide hb4.size
 have HT4:=hide (chain HT3.out hb4)
 clear ra4 rb4 r4 l4 k4 hb4 XA0 HT3
 go_wp2_with fail
 refine (c_s_CellsMerge (XA1.out.shi HQ.out K3.out L3.out lN) (XB0.out.shi HR.out K4.out L4.out lK)).mono ?_
 rintro e w5 ⟨v5,R5,rfl,ha5,hr5,ho5,hb5⟩
 obtain ⟨ar5,c5,rfl,_⟩:=hr5.form
 have XA2:=hide (XA1.out.past hb5)
 have XB1:=hide (XB0.out.past hb5)
 have W0:=hide (CmQ.of hr5 ho5)
 have A5:=hide (ha5.keys K3.out K4.out)
 have Z5:=hide hb5.size
 have HT5:=hide (chain HT4.out hb5)
 have B5:=hide (A5.out.bounds HTa.out HTb.out CA.out CB.out)
 clear ha5 hr5 ho5 hb5 XA1 XB0 HT4
 obtain ⟨n5,hn5⟩:∃ n,R5.length=n:=⟨_,rfl⟩
 rw [hn5] at W0 ⊢
 have N5:=hide hn5
 clear hn5
 go_wp2_with fail
 refine (c_toCellSX ca HN.out lN HQ.out.sm (ces_past HA.out HT5.out)).mono ?_
 rintro e w6 ⟨M6,rfl,l6,k6,r6,hb6⟩
 obtain ⟨ra6,rb6⟩:=r6.own_all l6 lN
 have W1:=hide (W0.out.past hb6)
 have X0:=hide (CmQ.of ra6 rb6)
 have K6:=hide k6
 have L6:=hide l6
 have Z6:=hide hb6.size
 have HT6:=hide (chain HT5.out hb6)
 clear ra6 rb6 r6 l6 k6 hb6 W0 HT5
 go_wp2_with fail
 refine (c_toCellSX cb HK.out lK HR.out.sm (ces_past HB.out HT6.out)).mono ?_
 rintro e w7 ⟨M7,rfl,l7,k7,r7,hb7⟩
 obtain ⟨ra7,rb7⟩:=r7.own_all l7 lK
 have W2:=hide (W1.out.past hb7)
 have X1:=hide (X0.out.past hb7)
 have Y0:=hide (CmQ.of ra7 rb7)
 have K7:=hide k7
 have L7:=hide l7
 have Z7:=hide hb7.size
 have HT7:=hide (chain HT6.out hb7)
 clear ra7 rb7 r7 l7 k7 hb7 W1 X0 HT6
 go_wp2_with fail
 refine (c_i_CellsMerge (HMx.out.past HT7.out) (X1.out.shi HQ.out K6.out L6.out lN) (Y0.out.shi HR.out K7.out L7.out lK)).mono ?_
 rintro e w8 ⟨v8,R8,rfl,ha8,hr8,ho8,hb8⟩
 obtain ⟨ar8,c8,rfl,_⟩:=hr8.form
 have W3:=hide (W2.out.past hb8)
 have X2:=hide (X1.out.past hb8)
 have Y1:=hide (Y0.out.past hb8)
 have G0:=hide (CmQ.of hr8 ho8)
 have A8:=hide (ha8.keys K6.out K7.out)
 have Z8:=hide hb8.size
 have HT8:=hide (chain HT7.out hb8)
 have B8:=hide (A8.out.bounds HTa.out HTb.out CA.out CB.out)
 clear ha8 hr8 ho8 hb8 W2 X1 Y0 HT7
 obtain ⟨n8,hn8⟩:∃ n,R8.length=n:=⟨_,rfl⟩
 rw [hn8] at G0 ⊢
 have N8:=hide hn8
 clear hn8
 have EQ:=hide (A8.out.same A5.out)
 go_wp2_with fail
 refine (c_eqCm G0.out W3.out N8.out N5.out EQ.out B8.out).mono ?_
 rintro e w9 ⟨rfl,hb9⟩
 have W4:=hide (W3.out.past hb9)
 have X3:=hide (X2.out.past hb9)
 have Y2:=hide (Y1.out.past hb9)
 have G1:=hide (G0.out.past hb9)
 have HT9:=hide (chain HT8.out hb9)
 have Z9:=hide hb9.size
 clear hb9 W3 X2 Y1 G0 HT8
 go_wp2_with fail
 refine (c_toCellSX ca HN.out lN HQ.out.sm (ces_past HA.out HT9.out)).mono ?_
 rintro e w10 ⟨M10,rfl,l10,k10,r10,hb10⟩
 obtain ⟨ra10,rb10⟩:=r10.own_all l10 lN
 have W5:=hide (W4.out.past hb10)
 have X4:=hide (X3.out.past hb10)
 have Y3:=hide (Y2.out.past hb10)
 have G2:=hide (G1.out.past hb10)
 have XA0:=hide (CmQ.of ra10 rb10)
 have K10:=hide k10
 have L10:=hide l10
 have Z10:=hide hb10.size
 have HT10:=hide (chain HT9.out hb10)
 clear ra10 rb10 r10 l10 k10 hb10 W4 X3 Y2 G1 HT9
 go_wp2_with fail
 refine (c_eqCm X4.out XA0.out L6.out L10.out (K6.out.trans K10.out.symm) ⟨by rw [L6.out];exact lN,(HQ.out.key K6.out).sm,by rw [totC_key K6.out];have:=totC_le HTa.out;have:=HTa.out;omega⟩).mono ?_
 rintro e w11 ⟨rfl,hb11⟩
 have W6:=hide (W5.out.past hb11)
 have X5:=hide (X4.out.past hb11)
 have Y4:=hide (Y3.out.past hb11)
 have G3:=hide (G2.out.past hb11)
 have XA1:=hide (XA0.out.past hb11)
 have HT11:=hide (chain HT10.out hb11)
 have Z11:=hide hb11.size
 clear hb11 W5 X4 Y3 G2 XA0 HT10
 go_wp2_with fail
 refine (c_toCellSX cb HK.out lK HR.out.sm (ces_past HB.out HT11.out)).mono ?_
 rintro e w12 ⟨M12,rfl,l12,k12,r12,hb12⟩
 obtain ⟨ra12,rb12⟩:=r12.own_all l12 lK
 have W7:=hide (W6.out.past hb12)
 have X6:=hide (X5.out.past hb12)
 have Y5:=hide (Y4.out.past hb12)
 have G4:=hide (G3.out.past hb12)
 have XB0:=hide (CmQ.of ra12 rb12)
 have K12:=hide k12
 have L12:=hide l12
 have Z12:=hide hb12.size
 have HT12:=hide (chain HT11.out hb12)
 clear ra12 rb12 r12 l12 k12 hb12 W6 X5 Y4 G3 HT11
 go_wp2_with fail
 refine (c_eqCm Y5.out XB0.out L7.out L12.out (K7.out.trans K12.out.symm) ⟨by rw [L7.out];exact lK,(HR.out.key K7.out).sm,by rw [totC_key K7.out];have:=totC_le HTb.out;have:=HTb.out;omega⟩).mono ?_
 rintro e w13 ⟨rfl,hb13⟩
 have W8:=hide (W7.out.past hb13)
 have X7:=hide (X6.out.past hb13)
 have Y6:=hide (Y5.out.past hb13)
 have G5:=hide (G4.out.past hb13)
 have XB1:=hide (XB0.out.past hb13)
 have HT13:=hide (chain HT12.out hb13)
 have Z13:=hide hb13.size
 clear hb13 W7 X6 Y5 G4 XB0 HT12
 have hTa:1+totC M6≤20000000:=by rw [totC_key K6.out];have:=totC_le HTa.out;have:=HTa.out;omega
 have hTb:totC M7≤20000000:=by rw [totC_key K7.out];have:=totC_le HTb.out;have:=HTb.out;omega
 have szW:Hid (w.heap.size≤w2.heap.size):=HT2s.out
 go_wp2_with fail
 refine (c_markCellS 1 (Nat.le_refl _) (by omega) L6.out lN (HQ.out.key K6.out).sm X7.out.r X7.out.o).mono ?_
 rintro e w14 ⟨rfl,hM14⟩
 have hS14:=X7.out.hi
 have z3:=Z3.out
 have z4:=Z4.out
 have z5:=Z5.out
 have z6:=Z6.out
 have z7:=Z7.out
 have z8:=Z8.out
 have Y7:=hide (Y6.out.keptS hM14.g (fun k a b q=>by have:=hS14 _ q;omega))
 have W9:=hide (W8.out.keptS hM14.g (fun k a b q=>by have:=hS14 _ q;omega))
 have G6:=hide (G5.out.keptS hM14.g (fun k a b q=>by have:=hS14 _ q;omega))
 have HT14:Hid (Below w.heap.size w w14):=hM14.g.below HT13.out HT13.out.size (fun k q=>by have:=hS14 _ q;have:=szW.out;omega)
 clear hM14 hS14 z3 z4 z5 z6 z7 z8 X7 Y6 W8 G5 HT13
 go_wp2_with fail
 refine (c_markCellS (1+totC M6) (by omega) (by omega) L7.out lK (HR.out.key K7.out).sm Y7.out.r Y7.out.o).mono ?_
 rintro e w15 ⟨rfl,hM15⟩
 have hS15:=Y7.out.hi
 have z3:=Z3.out
 have z4:=Z4.out
 have z5:=Z5.out
 have z6:=Z6.out
 have z7:=Z7.out
 have z8:=Z8.out
 have W10:=hide (W9.out.keptS hM15.g (fun k a b q=>by have:=hS15 _ q;omega))
 have G7:=hide (G6.out.keptS hM15.g (fun k a b q=>by have:=hS15 _ q;omega))
 have HT15:Hid (Below w.heap.size w w15):=hM15.g.below HT14.out HT14.out.size (fun k q=>by have:=hS15 _ q;have:=szW.out;omega)
 have hn15:¬ (((1+totC M6+totC M7:Nat):Int)<0):=by omega
 clear hM15 hS15 z3 z4 z5 z6 z7 z8 Y7 W9 G6 HT14
 go_wp2_with fail
 refine (c_eqCm G7.out W10.out N8.out N5.out EQ.out B8.out).mono ?_
 rintro e w16 ⟨rfl,hb16⟩
 have W11:=hide (W10.out.past hb16)
 have G8:=hide (G7.out.past hb16)
 have HT16:=hide (chain HT15.out hb16)
 have Z16:=hide hb16.size
 clear hb16 W10 G7 HT15
 go_wp2_with fail
 refine (c_markCellS 1 (Nat.le_refl _) B8.out.t N8.out (by rw [← N8.out];exact B8.out.l) B8.out.sm G8.out.r G8.out.o).mono ?_
 rintro e w17 ⟨rfl,hM17⟩
 have hS17:=G8.out.hi
 have z3:=Z3.out
 have z4:=Z4.out
 have z5:=Z5.out
 have z6:=Z6.out
 have z7:=Z7.out
 have z8:=Z8.out
 have W12:=hide (W11.out.keptS hM17.g (fun k a b q=>by have:=hS17 _ q;omega))
 have HT17:Hid (Below w.heap.size w w17):=hM17.g.below HT16.out HT16.out.size (fun k q=>by have:=hS17 _ q;have:=szW.out;omega)
 obtain ⟨TT,hTT⟩:∃ T,1+totC R8=T:=⟨_,rfl⟩
 have HTT:=hide hTT
 rw [hTT]
 clear hTT
 have MG0:Hid (OwnC w17 w7.heap.size (.slice ar8 n8 c8) (mkCs 1 R8)∧CesO w17 w7.heap.size (mkCs 1 R8)):=⟨hM17.r,hM17.o⟩
 clear hM17 hS17 z3 z4 z5 z6 z7 z8 G8 W11 HT16
 go_wp2_with fail
 refine (c_heldCellS 1 (Nat.le_refl _) B8.out.t N8.out (by rw [← N8.out];exact B8.out.l) B8.out.sm MG0.out.1 MG0.out.2).mono ?_
 rintro e w18 ⟨rfl,hb18⟩
 rw [HTT.out]
 have W13:=hide (W12.out.past hb18)
 have HT18:=hide (chain HT17.out hb18)
 have MG1:=hide (And.intro (MG0.out.1.past hb18) (MG0.out.2.past hb18))
 have hnT:¬ ((TT:Int)<0):=by omega
 clear hb18 MG0 W12 HT17
 go_wp2_with fail
 refine (c_toCellSX ca HN.out lN HQ.out.sm (ces_past HA.out HT18.out)).mono ?_
 rintro e w19 ⟨M19,rfl,l19,k19,r19,hb19⟩
 obtain ⟨ra19,rb19⟩:=r19.own_all l19 lN
 have W14:=hide (W13.out.past hb19)
 have XA0:=hide (CmQ.of ra19 rb19)
 have K19:=hide k19
 have L19:=hide l19
 have Z19:=hide hb19.size
 have HT19:=hide (chain HT18.out hb19)
 have MG2:=hide (And.intro (MG1.out.1.past hb19) (MG1.out.2.past hb19))
 clear ra19 rb19 r19 l19 k19 hb19 W13 HT18 MG1
 go_wp2_with fail
 refine (c_toCellSX cb HK.out lK HR.out.sm (ces_past HB.out HT19.out)).mono ?_
 rintro e w20 ⟨M20,rfl,l20,k20,r20,hb20⟩
 obtain ⟨ra20,rb20⟩:=r20.own_all l20 lK
 have W15:=hide (W14.out.past hb20)
 have XA1:=hide (XA0.out.past hb20)
 have XB0:=hide (CmQ.of ra20 rb20)
 have K20:=hide k20
 have L20:=hide l20
 have Z20:=hide hb20.size
 have HT20:=hide (chain HT19.out hb20)
 have MG3:=hide (And.intro (MG2.out.1.past hb20) (MG2.out.2.past hb20))
 clear ra20 rb20 r20 l20 k20 hb20 W14 XA0 HT19 MG2
 go_wp2_with fail
 refine (c_i_CellsMerge (HMx.out.past HT20.out) (XA1.out.shi HQ.out K19.out L19.out lN) (XB0.out.shi HR.out K20.out L20.out lK)).mono ?_
 rintro e w21 ⟨v21,R21,rfl,ha21,hr21,ho21,hb21⟩
 obtain ⟨ar21,c21,rfl,_⟩:=hr21.form
 have W16:=hide (W15.out.past hb21)
 have XA2:=hide (XA1.out.past hb21)
 have XB1:=hide (XB0.out.past hb21)
 have H0:=hide (CmQ.of hr21 ho21)
 have A21:=hide (ha21.keys K19.out K20.out)
 have Z21:=hide hb21.size
 have HT21:=hide (chain HT20.out hb21)
 have MG4:=hide (And.intro (MG3.out.1.past hb21) (MG3.out.2.past hb21))
 have B21:=hide (A21.out.bounds HTa.out HTb.out CA.out CB.out)
 clear ha21 hr21 ho21 hb21 W15 XA1 XB0 HT20 MG3
 obtain ⟨n21,hn21⟩:∃ n,R21.length=n:=⟨_,rfl⟩
 rw [hn21] at H0 ⊢
 have N21:=hide hn21
 clear hn21
 have EQ21:=hide (A21.out.same A5.out)
 go_wp2_with fail
 refine (c_eqCm H0.out W16.out N21.out N5.out EQ21.out B21.out).mono ?_
 rintro e w22 ⟨rfl,hb22⟩
 have W17:=hide (W16.out.past hb22)
 have H1:=hide (H0.out.past hb22)
 have HT22:=hide (chain HT21.out hb22)
 have Z22:=hide hb22.size
 have MG5:=hide (And.intro (MG4.out.1.past hb22) (MG4.out.2.past hb22))
 clear hb22 W16 H0 HT21 MG4
 go_wp2_with fail
 refine (c_heldCellS 1 (Nat.le_refl _) B8.out.t N8.out (by rw [← N8.out];exact B8.out.l) B8.out.sm MG5.out.1 MG5.out.2).mono ?_
 rintro e w23 ⟨rfl,hb23⟩
 rw [HTT.out]
 have HT23:=hide (chain HT22.out hb23)
 clear hb23
 go_wp2
 go_ret
 exact ⟨rfl,HT23.out⟩
end Go.Proofs.YtiiclgcpagdekaaGreatDoor
