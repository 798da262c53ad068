/-
 markCellS: cells written over.
-/
import Derived.Test.YtiiclgcpagdekaaGreatDoorFCO
namespace Go.Proofs.YtiiclgcpagdekaaGreatDoor
set_option linter.unusedVariables false
set_option linter.unusedSimpArgs false
open Go.ChangeShapes Go.WideShapes Go.ChangeAt Go.RowKit Go.PlainAid Go.Lib
set_option maxRecDepth 10000
theorem own_addr {w:World} {B n cp:Nat} {ao:Option Addr} {M:List Ce} (h:OwnC w B (.slice ao n cp) M) (h0:0<M.length):∃ g,ao=some ⟨g,0,none⟩:=by
 rcases h.2 with ⟨e,q⟩ | ⟨g,cap,cur,e,q1,q2⟩
 ·omega
 ·injection e with e1 e2 e3
  exact ⟨g,e1⟩
theorem row_cells {w:World} {B g cp n i:Nat} {M:List Ce} {c:Ce} (h:OwnC w B (.slice (some ⟨g,0,none⟩) n cp) M) (hn:M.length=n) (hc:M[i]?=some c):CeCell w g (i*15) c∧∀ j,w.frozen? ⟨g,j,none⟩=false:=by
 subst hn
 have q:=own_cells h hc
 rw [Nat.zero_add] at q
 exact ⟨q,fun j=>World.ownsRow.frozenAt h j⟩
theorem MkS.pt {w W:World} {B gg cp n i j:Nat} {L0 M:List Ce} {c c':Ce} {u:Value} (h:MkS w W B (.slice (some ⟨gg,0,none⟩) n cp) L0 (M.set i c)) (hn:M.length=n) (hi:i<n) (hj:j<15) (e:ceL c'=(ceL c).set j u) (hp:c'.p=c.p) (h1:c'.g.P=c.g.P) (h2:c'.g.N=c.g.N) (h3:c'.g.E=c.g.E) (h4:c'.g.R=c.g.R):MkS w (W.setCell ⟨gg,i*15+j,none⟩ u) B (.slice (some ⟨gg,0,none⟩) n cp) L0 (M.set i c'):=by
 have q:=h.put1 (i:=i) (c:=c) (c':=c') (by rw [List.length_set];exact hn) (by simp [hn,hi]) hj e hp h1 h2 h3 h4
 rw [List.set_set] at q
 exact q
theorem MkS.ls {w W W':World} {B i n:Nat} {v:Value} {L0 M:List Ce} {c d:Ce} {g':Ag} {r:Option Nat} (h:MkS w W B v L0 (M.set i c)) (hn:M.length=n) (hi:i<n) (hg:W.grownBy W' r) (hr:∀ k,r=some k→AgBlk c.g c.p k) (hd:d∈L0) (hp:c.p=d.p) (e:ceL ⟨c.n,c.s,g',c.p⟩=ceL c) (ho:AgO W' B g' c.p):MkS w W' B v L0 (M.set i ⟨c.n,c.s,g',c.p⟩):=by
 have q:=h.lst (i:=i) (c:=c) (by simp [hn,hi]) hg hr (fun k q=>⟨d,hd,by rw [← hp];exact blk_same k q⟩) e ho
 rw [List.set_set] at q
 exact q
theorem MkS.ag {w W:World} {B i n:Nat} {v:Value} {L0 M:List Ce} {c:Ce} (h:MkS w W B v L0 (M.set i c)) (hn:M.length=n) (hi:i<n):AgO W B c.g c.p:=
 h.o.o c (List.mem_of_getElem? (show (M.set i c)[i]?=some c by simp [hn,hi]))
theorem MkS.cells {w W:World} {B gg cp n i:Nat} {L0 M:List Ce} {c:Ce} (h:MkS w W B (.slice (some ⟨gg,0,none⟩) n cp) L0 (M.set i c)) (hn:M.length=n) (hi:i<n):CeCell W gg (i*15) c∧∀ j,W.frozen? ⟨gg,j,none⟩=false:=
 row_cells h.r (by rw [List.length_set];exact hn) (by simp [hn,hi])
theorem set_at {M:List Ce} {i:Nat} {c d:Ce} (h:M[i]?=some c):(M.set i d)[i]?=some d:=by
 have:=(List.getElem?_eq_some_iff.1 h).1
 simp [this]
set_option maxHeartbeats 8000000 in
theorem c_markCellS {w:World} {B N:Nat} {v:Value} {L:List Ce} (k0:Nat) (h0:1≤k0) (hk:k0+totC L≤50000000) (hN:L.length=N) (lN:N≤1048576) (sm:∀ c∈L,AgSm c.g) (hR:OwnC w B v L) (hO:CesO w B L) :
  Calls Tryz.prog 25 #[v,.int .i64 k0] w fun e w'=>e=.returned (.int .i64 ((k0+totC L:Nat):Int))∧MkS w w' B v L (mkCs k0 L):=by
 obtain ⟨ao,cp,rfl,_⟩:=hR.form
 rw [hN] at hR ⊢
 have I0:Hid (MkS w w B (.slice ao N cp) L (ovC k0 L 0)):=by rw [ovC_zero];exact ⟨hR,hO,(GrownS.ofBelow (Below.refl _ _)).weak (fun k q=>q.elim)⟩
 have HN:=hide hN
 have SM:=hide sm
 have HK:=hide hk
 clear hR hO hN sm hk
 go_enter Tryz.func25,Tryz.ntmps25
 go_wp2
 go_loopw [1,5] (fun m i wr=>∃ (k:Nat),k≤N∧i=.int .i64 k∧m=.int .i64 ((k0+totC (L.take k):Nat):Int)∧Hid (MkS w wr B (.slice ao N cp) L (ovC k0 L k))) (fun m i wr=>N - (Go.RowKit.intOf i).toNat)
 case atStart=>exact ⟨0,Nat.zero_le _,rfl,by simp [totC],I0⟩
 case round=>
  clear I0
  obtain ⟨k,hk,rfl,rfl,HI⟩:=hrel
  by_cases hkn:k<N
  ·obtain ⟨c,hc⟩:∃ c,L[k]?=some c:=⟨L[k]'(by have:=HN.out;omega),List.getElem?_eq_getElem _⟩
   have hov:=ovC_at (k0:=k0) hc
   have hol:(ovC k0 L k).length=N:=by rw [ovC_len _ _ _ (by have:=HN.out;omega)];exact HN.out
   obtain ⟨gg,rfl⟩:=own_addr HI.out.r (by omega)
   obtain ⟨K,hK⟩:∃ K,k0+totC (L.take k)=K:=⟨_,rfl⟩
   have hKb:K+cst c≤50000000:=by
    have h1:=totC_take hc
    have h2:=totC_mono L (k+1)
    have:=HK.out
    omega
   rw [hK]
   have HKK:=hide hK
   have HC:=hide hc
   have SC:=hide (SM.out c (List.mem_of_getElem? hc))
   have HM:=hide (List.mem_of_getElem? hc)
   have HON:=hide hol
   have HKB:=hide hKb
   have hK1:1≤K:=by omega
   have hkni:(k:Int)<(N:Int):=by omega
   obtain ⟨⟨x0,x1,x2,x3,x4,x5,x6,x7,x8,x9,x10,x11,x12,x13,x14⟩,hfz⟩:=row_cells HI.out.r hol hov
   have f0:=hfz (k*15)
   have hKc:K+11≤50000000:=by unfold cst at hKb;omega
   have S1:Hid (MkS w (wr.setCell ⟨gg,k*15,none⟩ (.int .i64 (K:Int))) B (.slice (some ⟨gg,0,none⟩) N cp) L ((ovC k0 L k).set k ⟨(K:Int),c.s,c.g,c.p⟩)):=HI.out.put1 (j:=0) hol hov (by omega) rfl rfl rfl rfl rfl rfl
   have A1:Hid (((ovC k0 L k).set k ⟨(K:Int),c.s,c.g,c.p⟩)[k]?=some ⟨(K:Int),c.s,c.g,c.p⟩):=set_at hov
   have L1:Hid (((ovC k0 L k).set k ⟨(K:Int),c.s,c.g,c.p⟩).length=N):=by show _=_;rw [List.length_set];exact hol
   clear hc hov hol hK hKb hfz
   go_wp2_with fail
   clear x0 x1 x2 x3 x4 x5 x6 x7 x8 x9 x10 x11 x12 x13 x14 f0
   generalize wr.setCell ⟨gg,k*15,none⟩ (.int .i64 (K:Int))=W1 at S1 ⊢
   have eK1:(K:Int)+1=((K+1:Nat):Int):=rfl
   rw [eK1]
   refine (c_markText (K+1) (by omega) (by omega) _).mono ?_
   rintro e w1 ⟨rfl,hb1⟩
   replace S1:=hide (S1.out.past hb1)
   clear hb1 eK1
   obtain ⟨⟨x0,x1,x2,x3,x4,x5,x6,x7,x8,x9,x10,x11,x12,x13,x14⟩,hfz⟩:=row_cells S1.out.r L1.out A1.out
   have f1:=hfz (k*15+1)
   have f2:=hfz (k*15+2)
   have f3:=hfz (k*15+3)
   have f4:=hfz (k*15+4)
   have f5:=hfz (k*15+5)
   have f6:=hfz (k*15+6)
   have f7:=hfz (k*15+7)
   have f8:=hfz (k*15+8)
   clear hfz
   have hon:=HON.out
   have T1:Hid (MkS w (w1.setCell ⟨gg,k*15+1,none⟩ (.string (mtx (K+1)))) B (.slice (some ⟨gg,0,none⟩) N cp) L ((ovC k0 L k).set k (⟨(K:Int),mtx (K+1),c.g,c.p⟩:Ce))):=MkS.pt (j:=1) (c':=(⟨(K:Int),mtx (K+1),c.g,c.p⟩:Ce)) S1.out hon hkn (by omega) rfl rfl rfl rfl rfl rfl
   have T2:Hid (MkS w ((w1.setCell ⟨gg,k*15+1,none⟩ (.string (mtx (K+1)))).setCell ⟨gg,k*15+2,none⟩ (.int .i64 ((K:Int)+1+1))) B (.slice (some ⟨gg,0,none⟩) N cp) L ((ovC k0 L k).set k (⟨(K:Int),mtx (K+1),{ c.g with k:=(K:Int)+1+1 },c.p⟩:Ce))):=MkS.pt (j:=2) (c':=(⟨(K:Int),mtx (K+1),{ c.g with k:=(K:Int)+1+1 },c.p⟩:Ce)) T1.out hon hkn (by omega) rfl rfl rfl rfl rfl rfl
   have T3:Hid (MkS w (((w1.setCell ⟨gg,k*15+1,none⟩ (.string (mtx (K+1)))).setCell ⟨gg,k*15+2,none⟩ (.int .i64 ((K:Int)+1+1))).setCell ⟨gg,k*15+2+1,none⟩ (.int .u64 ((K:Int)+1+1+1))) B (.slice (some ⟨gg,0,none⟩) N cp) L ((ovC k0 L k).set k (⟨(K:Int),mtx (K+1),{ c.g with k:=(K:Int)+1+1,s:=(K:Int)+1+1+1 },c.p⟩:Ce))):=MkS.pt (j:=3) (c':=(⟨(K:Int),mtx (K+1),{ c.g with k:=(K:Int)+1+1,s:=(K:Int)+1+1+1 },c.p⟩:Ce)) T2.out hon hkn (by omega) rfl rfl rfl rfl rfl rfl
   have T4:Hid (MkS w ((((w1.setCell ⟨gg,k*15+1,none⟩ (.string (mtx (K+1)))).setCell ⟨gg,k*15+2,none⟩ (.int .i64 ((K:Int)+1+1))).setCell ⟨gg,k*15+2+1,none⟩ (.int .u64 ((K:Int)+1+1+1))).setCell ⟨gg,k*15+4,none⟩ (.int .i64 ((K:Int)+1+1+1+1))) B (.slice (some ⟨gg,0,none⟩) N cp) L ((ovC k0 L k).set k (⟨(K:Int),mtx (K+1),{ c.g with k:=(K:Int)+1+1,s:=(K:Int)+1+1+1,h:=(K:Int)+1+1+1+1 },c.p⟩:Ce))):=MkS.pt (j:=4) (c':=(⟨(K:Int),mtx (K+1),{ c.g with k:=(K:Int)+1+1,s:=(K:Int)+1+1+1,h:=(K:Int)+1+1+1+1 },c.p⟩:Ce)) T3.out hon hkn (by omega) rfl rfl rfl rfl rfl rfl
   have T5:Hid (MkS w (((((w1.setCell ⟨gg,k*15+1,none⟩ (.string (mtx (K+1)))).setCell ⟨gg,k*15+2,none⟩ (.int .i64 ((K:Int)+1+1))).setCell ⟨gg,k*15+2+1,none⟩ (.int .u64 ((K:Int)+1+1+1))).setCell ⟨gg,k*15+4,none⟩ (.int .i64 ((K:Int)+1+1+1+1))).setCell ⟨gg,k*15+2+2+1,none⟩ (.int .u64 ((K:Int)+1+1+1+1+1))) B (.slice (some ⟨gg,0,none⟩) N cp) L ((ovC k0 L k).set k (⟨(K:Int),mtx (K+1),{ c.g with k:=(K:Int)+1+1,s:=(K:Int)+1+1+1,h:=(K:Int)+1+1+1+1,l:=(K:Int)+1+1+1+1+1 },c.p⟩:Ce))):=MkS.pt (j:=5) (c':=(⟨(K:Int),mtx (K+1),{ c.g with k:=(K:Int)+1+1,s:=(K:Int)+1+1+1,h:=(K:Int)+1+1+1+1,l:=(K:Int)+1+1+1+1+1 },c.p⟩:Ce)) T4.out hon hkn (by omega) rfl rfl rfl rfl rfl rfl
   have T6:Hid (MkS w ((((((w1.setCell ⟨gg,k*15+1,none⟩ (.string (mtx (K+1)))).setCell ⟨gg,k*15+2,none⟩ (.int .i64 ((K:Int)+1+1))).setCell ⟨gg,k*15+2+1,none⟩ (.int .u64 ((K:Int)+1+1+1))).setCell ⟨gg,k*15+4,none⟩ (.int .i64 ((K:Int)+1+1+1+1))).setCell ⟨gg,k*15+2+2+1,none⟩ (.int .u64 ((K:Int)+1+1+1+1+1))).setCell ⟨gg,k*15+2+4,none⟩ (.int .i64 ((K:Int)+1+1+1+1+1+1))) B (.slice (some ⟨gg,0,none⟩) N cp) L ((ovC k0 L k).set k (⟨(K:Int),mtx (K+1),{ c.g with k:=(K:Int)+1+1,s:=(K:Int)+1+1+1,h:=(K:Int)+1+1+1+1,l:=(K:Int)+1+1+1+1+1,a:=(K:Int)+1+1+1+1+1+1 },c.p⟩:Ce))):=MkS.pt (j:=6) (c':=(⟨(K:Int),mtx (K+1),{ c.g with k:=(K:Int)+1+1,s:=(K:Int)+1+1+1,h:=(K:Int)+1+1+1+1,l:=(K:Int)+1+1+1+1+1,a:=(K:Int)+1+1+1+1+1+1 },c.p⟩:Ce)) T5.out hon hkn (by omega) rfl rfl rfl rfl rfl rfl
   have T7:Hid (MkS w (((((((w1.setCell ⟨gg,k*15+1,none⟩ (.string (mtx (K+1)))).setCell ⟨gg,k*15+2,none⟩ (.int .i64 ((K:Int)+1+1))).setCell ⟨gg,k*15+2+1,none⟩ (.int .u64 ((K:Int)+1+1+1))).setCell ⟨gg,k*15+4,none⟩ (.int .i64 ((K:Int)+1+1+1+1))).setCell ⟨gg,k*15+2+2+1,none⟩ (.int .u64 ((K:Int)+1+1+1+1+1))).setCell ⟨gg,k*15+2+4,none⟩ (.int .i64 ((K:Int)+1+1+1+1+1+1))).setCell ⟨gg,k*15+2+5,none⟩ (.int .i64 ((K:Int)+1+1+1+1+1+1+1))) B (.slice (some ⟨gg,0,none⟩) N cp) L ((ovC k0 L k).set k (⟨(K:Int),mtx (K+1),{ c.g with k:=(K:Int)+1+1,s:=(K:Int)+1+1+1,h:=(K:Int)+1+1+1+1,l:=(K:Int)+1+1+1+1+1,a:=(K:Int)+1+1+1+1+1+1,t:=(K:Int)+1+1+1+1+1+1+1 },c.p⟩:Ce))):=MkS.pt (j:=7) (c':=(⟨(K:Int),mtx (K+1),{ c.g with k:=(K:Int)+1+1,s:=(K:Int)+1+1+1,h:=(K:Int)+1+1+1+1,l:=(K:Int)+1+1+1+1+1,a:=(K:Int)+1+1+1+1+1+1,t:=(K:Int)+1+1+1+1+1+1+1 },c.p⟩:Ce)) T6.out hon hkn (by omega) rfl rfl rfl rfl rfl rfl
   have T8:Hid (MkS w ((((((((w1.setCell ⟨gg,k*15+1,none⟩ (.string (mtx (K+1)))).setCell ⟨gg,k*15+2,none⟩ (.int .i64 ((K:Int)+1+1))).setCell ⟨gg,k*15+2+1,none⟩ (.int .u64 ((K:Int)+1+1+1))).setCell ⟨gg,k*15+4,none⟩ (.int .i64 ((K:Int)+1+1+1+1))).setCell ⟨gg,k*15+2+2+1,none⟩ (.int .u64 ((K:Int)+1+1+1+1+1))).setCell ⟨gg,k*15+2+4,none⟩ (.int .i64 ((K:Int)+1+1+1+1+1+1))).setCell ⟨gg,k*15+2+5,none⟩ (.int .i64 ((K:Int)+1+1+1+1+1+1+1))).setCell ⟨gg,k*15+8,none⟩ (.int .u64 ((K:Int)+1+1+1+1+1+1+1+1))) B (.slice (some ⟨gg,0,none⟩) N cp) L ((ovC k0 L k).set k (⟨(K:Int),mtx (K+1),{ c.g with k:=(K:Int)+1+1,s:=(K:Int)+1+1+1,h:=(K:Int)+1+1+1+1,l:=(K:Int)+1+1+1+1+1,a:=(K:Int)+1+1+1+1+1+1,t:=(K:Int)+1+1+1+1+1+1+1,z:=(K:Int)+1+1+1+1+1+1+1+1 },c.p⟩:Ce))):=MkS.pt (j:=8) (c':=(⟨(K:Int),mtx (K+1),{ c.g with k:=(K:Int)+1+1,s:=(K:Int)+1+1+1,h:=(K:Int)+1+1+1+1,l:=(K:Int)+1+1+1+1+1,a:=(K:Int)+1+1+1+1+1+1,t:=(K:Int)+1+1+1+1+1+1+1,z:=(K:Int)+1+1+1+1+1+1+1+1 },c.p⟩:Ce)) T7.out hon hkn (by omega) rfl rfl rfl rfl rfl rfl
   clear S1 hon T1 T2 T3 T4 T5 T6 T7
   go_wp2_with fail
   clear x0 x1 x2 x3 x4 x5 x6 x7 x8 x9 x10 x11 x12 x13 x14 f1 f2 f3 f4 f5 f6 f7 f8
   generalize ((((((((w1.setCell ⟨gg,k*15+1,none⟩ (.string (mtx (K+1)))).setCell ⟨gg,k*15+2,none⟩ (.int .i64 ((K:Int)+1+1))).setCell ⟨gg,k*15+2+1,none⟩ (.int .u64 ((K:Int)+1+1+1))).setCell ⟨gg,k*15+4,none⟩ (.int .i64 ((K:Int)+1+1+1+1))).setCell ⟨gg,k*15+2+2+1,none⟩ (.int .u64 ((K:Int)+1+1+1+1+1))).setCell ⟨gg,k*15+2+4,none⟩ (.int .i64 ((K:Int)+1+1+1+1+1+1))).setCell ⟨gg,k*15+2+5,none⟩ (.int .i64 ((K:Int)+1+1+1+1+1+1+1))).setCell ⟨gg,k*15+8,none⟩ (.int .u64 ((K:Int)+1+1+1+1+1+1+1+1)))=W2 at T8 ⊢
   have e9:(K:Int)+1+1+1+1+1+1+1+1+1=((K+9:Nat):Int):=by omega
   rw [e9]
   clear e9
   obtain ⟨c2,hc2⟩:∃ c2:Ce,c2=(⟨(K:Int),mtx (K+1),{ c.g with k:=(K:Int)+1+1,s:=(K:Int)+1+1+1,h:=(K:Int)+1+1+1+1,l:=(K:Int)+1+1+1+1+1,a:=(K:Int)+1+1+1+1+1+1,t:=(K:Int)+1+1+1+1+1+1+1,z:=(K:Int)+1+1+1+1+1+1+1+1 },c.p⟩:Ce):=⟨_,rfl⟩
   rw [← hc2] at T8
   have q1:c2.p=c.p:=by rw [hc2]
   have q2:c2.g.P=c.g.P:=by rw [hc2]
   have q3:c2.g.N=c.g.N:=by rw [hc2]
   have q4:c2.g.E=c.g.E:=by rw [hc2]
   have q5:c2.g.R=c.g.R:=by rw [hc2]
   have AG:=hide (T8.out.ag HON.out hkn)
   have hP2:OwnB W2 B (.slice c.p.pa c.g.P.length c.p.pc) c.g.P.length c.g.P:=by have:=AG.out.P;rw [q1,q2] at this;exact this
   have hcb:K+11+2*c.g.P.length+2*c.g.N.length+c.g.E.length+c.g.R.length≤50000000:=by have:=HKB.out;unfold cst at this;omega
   have HP2:=hide hP2
   have HC2:=hide hc2
   clear hP2 hc2
   refine (c_markBinS (K+9) (by omega) (by omega) SC.out.P HP2.out).mono ?_
   rintro e w2 ⟨rfl,hob,hgb⟩
   have ag3:=AG.out.mP (k0:=K+9) (n:=c.g.P.length) (by rw [q2]) (by rw [q1];exact hob) (by rw [q1];exact hgb)
   have S3:=hide (T8.out.ls (g':={ c2.g with P:=mkbs (K+9) c.g.P.length }) HON.out hkn hgb (fun k q=>.inl (.inl (by rw [q1,q2];exact q))) HM.out q1 (by simp [ceL,mkbs_len,q2]) ag3)
   have AG3:=hide ag3
   clear hob hgb ag3 T8 AG HP2
   obtain ⟨⟨x0,x1,x2,x3,x4,x5,x6,x7,x8,x9,x10,x11,x12,x13,x14⟩,hfz⟩:=S3.out.cells HON.out hkn
   rw [q1,q3] at x10
   clear hfz x0 x1 x2 x3 x4 x5 x6 x7 x8 x9 x11 x12 x13 x14
   go_wp2_with fail
   clear x10
   have hN3:OwnB w2 B (.slice c.p.na c.g.N.length c.p.nc) c.g.N.length c.g.N:=by have:=AG3.out.N;rw [q1,q3] at this;exact this
   have HN3:=hide hN3
   clear hN3
   refine (c_markBinS (K+9+2*c.g.P.length) (by omega) (by omega) SC.out.N HN3.out).mono ?_
   rintro e w3 ⟨rfl,hob,hgb⟩
   have ag4:=AG3.out.mN (k0:=K+9+2*c.g.P.length) (n:=c.g.N.length) (by rw [q3]) (by rw [q1];exact hob) (by rw [q1];exact hgb)
   have S4:=hide (S3.out.ls (g':={ c2.g with P:=mkbs (K+9) c.g.P.length,N:=mkbs (K+9+2*c.g.P.length) c.g.N.length }) HON.out hkn hgb (fun k q=>.inl (.inr (by show (Value.slice c2.p.na c2.g.N.length c2.p.nc).ownBlock=_;rw [q1,q3];exact q))) HM.out q1 (by simp [ceL,mkbs_len,q3]) ag4)
   clear hob hgb ag4 S3 AG3 HN3
   obtain ⟨⟨x0,x1,x2,x3,x4,x5,x6,x7,x8,x9,x10,x11,x12,x13,x14⟩,hfz⟩:=S4.out.cells HON.out hkn
   have f11:=hfz (k*15+11)
   have f12:=hfz (k*15+12)
   rw [q1,q4] at x13
   clear hfz
   obtain ⟨Q,hQ⟩:∃ Q,K+9+2*c.g.P.length+2*c.g.N.length=Q:=⟨_,rfl⟩
   rw [hQ]
   have HQ:=hide hQ
   have hQb:Q+2+c.g.E.length+c.g.R.length≤50000000:=by omega
   clear hQ
   have U1:Hid (MkS w (w3.setCell ⟨gg,k*15+11,none⟩ (.int .i64 (Q:Int))) B (.slice (some ⟨gg,0,none⟩) N cp) L ((ovC k0 L k).set k ⟨c2.n,c2.s,{ c2.g with P:=mkbs (K+9) c.g.P.length,N:=mkbs (K+9+2*c.g.P.length) c.g.N.length,x:=(Q:Int) },c2.p⟩)):=MkS.pt (j:=11) S4.out HON.out hkn (by omega) rfl rfl rfl rfl rfl rfl
   have U2:Hid (MkS w ((w3.setCell ⟨gg,k*15+11,none⟩ (.int .i64 (Q:Int))).setCell ⟨gg,k*15+2+6+3+1,none⟩ (.int .u64 ((Q:Int)+1))) B (.slice (some ⟨gg,0,none⟩) N cp) L ((ovC k0 L k).set k ⟨c2.n,c2.s,{ c2.g with P:=mkbs (K+9) c.g.P.length,N:=mkbs (K+9+2*c.g.P.length) c.g.N.length,x:=(Q:Int),y:=(Q:Int)+1 },c2.p⟩)):=MkS.pt (j:=12) U1.out HON.out hkn (by omega) rfl rfl rfl rfl rfl rfl
   clear S4 U1
   go_wp2_with fail
   clear x0 x1 x2 x3 x4 x5 x6 x7 x8 x9 x10 x11 x12 x13 x14 f11 f12
   generalize (w3.setCell ⟨gg,k*15+11,none⟩ (.int .i64 (Q:Int))).setCell ⟨gg,k*15+2+6+3+1,none⟩ (.int .u64 ((Q:Int)+1))=W4 at U2 ⊢
   have e2:(Q:Int)+1+1=((Q+2:Nat):Int):=by omega
   rw [e2]
   clear e2
   have AG4:=hide (U2.out.ag HON.out hkn)
   have hE4:OwnN .u64 25 W4 B (.slice c.p.ea c.g.E.length c.p.ec) c.g.E.length c.g.E:=by have:=AG4.out.E;simp only [q1,q4] at this;exact this
   have HE4:=hide hE4
   clear hE4
   refine (c_markUint64S (Q+2) (by omega) (by omega) SC.out.E HE4.out).mono ?_
   rintro e w5 ⟨rfl,hob,hgb⟩
   have ag5:=AG4.out.mE (k0:=Q+2) (n:=c.g.E.length) (by simp only [q4]) (by simp only [q1];exact hob) (by simp only [q1];exact hgb)
   have S5:=hide (U2.out.ls (g':={ c2.g with P:=mkbs (K+9) c.g.P.length,N:=mkbs (K+9+2*c.g.P.length) c.g.N.length,x:=(Q:Int),y:=(Q:Int)+1,E:=mkn (Q+2) c.g.E.length }) HON.out hkn hgb (fun k q=>.inr (.inl (by simp only [q1,q4];exact q))) HM.out q1 (by simp [ceL,mkn_len,q4]) ag5)
   have AG5:=hide ag5
   clear hob hgb ag5 U2 AG4 HE4
   obtain ⟨⟨x0,x1,x2,x3,x4,x5,x6,x7,x8,x9,x10,x11,x12,x13,x14⟩,hfz⟩:=S5.out.cells HON.out hkn
   simp only [q1,q5] at x14
   clear hfz x0 x1 x2 x3 x4 x5 x6 x7 x8 x9 x10 x11 x12 x13
   go_wp2_with fail
   clear x14
   have hR5:OwnN .i64 2 w5 B (.slice c.p.ra c.g.R.length c.p.rc) c.g.R.length c.g.R:=by have:=AG5.out.R;simp only [q1,q5] at this;exact this
   have HR5:=hide hR5
   clear hR5
   refine (c_markInt64S (Q+2+c.g.E.length) (by omega) (by omega) SC.out.R HR5.out).mono ?_
   rintro e w6 ⟨rfl,hob,hgb⟩
   have ag6:=AG5.out.mR (k0:=Q+2+c.g.E.length) (n:=c.g.R.length) (by simp only [q5]) (by simp only [q1];exact hob) (by simp only [q1];exact hgb)
   have S6:=S5.out.ls (g':={ c2.g with P:=mkbs (K+9) c.g.P.length,N:=mkbs (K+9+2*c.g.P.length) c.g.N.length,x:=(Q:Int),y:=(Q:Int)+1,E:=mkn (Q+2) c.g.E.length,R:=mkn (Q+2+c.g.E.length) c.g.R.length }) HON.out hkn hgb (fun k q=>.inr (.inr (by simp only [q1,q5];exact q))) HM.out q1 (by simp [ceL,mkn_len,q5]) ag6
   have hQ:=HQ.out
   have ec:(⟨c2.n,c2.s,{ c2.g with P:=mkbs (K+9) c.g.P.length,N:=mkbs (K+9+2*c.g.P.length) c.g.N.length,x:=(Q:Int),y:=(Q:Int)+1,E:=mkn (Q+2) c.g.E.length,R:=mkn (Q+2+c.g.E.length) c.g.R.length },c2.p⟩:Ce)=mkC (k0+totC (L.take k)) c:=by
    rw [HKK.out,HC2.out]
    unfold mkC
    rw [show K+11+2*c.g.P.length+2*c.g.N.length=Q+2 by omega,show K+9+2*c.g.P.length+2*c.g.N.length=Q by omega,show K+10+2*c.g.P.length+2*c.g.N.length=Q+1 by omega]
    rfl
   have S7:Hid (MkS w w6 B (.slice (some ⟨gg,0,none⟩) N cp) L (ovC k0 L (k+1))):=by
    rw [ec] at S6
    rw [← ovC_set HC.out]
    exact S6
   have HT:Hid (Q+2+c.g.E.length+c.g.R.length=k0+totC (L.take (k+1))):=by
    show _=_
    rw [totC_take HC.out]
    have:=HKK.out
    unfold cst;omega
   clear hob hgb ag6 S5 AG5 HR5 S6 ec hQ
   go_wp2
   go_roundw
   case rel=>exact ⟨k+1,by omega,by go_num,by rw [← HT.out];go_num,S7⟩
   case measure=>simp [Go.RowKit.intOf];omega
  ·obtain rfl:k=N:=by omega
   have HF:Hid (MkS w wr B (.slice ao k cp) L (mkCs k0 L)):=by have:=HI.out;rw [← HN.out,ovC_all] at this;rw [← HN.out];exact this
   have HT:Hid (totC (L.take k)=totC L):=by show _=_;rw [List.take_of_length_le (by have:=HN.out;omega)]
   go_wp2
   go_ret
   exact ⟨by rw [HT.out];rfl,HF.out⟩
end Go.Proofs.YtiiclgcpagdekaaGreatDoor
