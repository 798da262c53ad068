/-
  Cells in memory, and what the exact laws do with them: their size, a copy, comparing them.
-/
import Derived.Test.YthchmdmncmioiaaGreatDoorZJE
import Derived.Test.YthchmdmncmioiaaGreatDoorZJN
import Derived.Laws.IdiomCopy
import Derived.Deep.DeepCutAuto
namespace Go.Proofs.YthchmdmncmioiaaGreatDoor
set_option linter.unusedVariables false
set_option linter.unusedSimpArgs false
open Go.ChangeShapes Go.WideShapes Go.ChangeAt Go.RowKit Go.PlainAid Go.Lib
set_option maxRecDepth 10000
structure Ce where
  n:Int
  s:ByteArray
  g:Ag
  p:Pl
abbrev Qao (c:Ce):Array Value:=#[.int .i64 c.n,.string c.s,.int .i64 c.g.k,.int .u64 c.g.s,.int .i64 c.g.h,.int .u64 c.g.l,.int .i64 c.g.a,.int .i64 c.g.t,.int .u64 c.g.z,.slice c.p.pa c.g.P.length c.p.pc,.slice c.p.na c.g.N.length c.p.nc,.int .i64 c.g.x,.int .u64 c.g.y,.slice c.p.ea c.g.E.length c.p.ec,.slice c.p.ra c.g.R.length c.p.rc]
def Ce.key (c:Ce):Int×ByteArray×Ag:=(c.n,c.s,c.g)
abbrev Qcn (w:World) (b o:Nat) (c:Ce):Prop:=w.cell? ⟨b,o,none⟩=some (.int .i64 c.n)/\w.cell? ⟨b,o+1,none⟩=some (.string c.s)/\w.cell? ⟨b,o+2,none⟩=some (.int .i64 c.g.k)/\w.cell? ⟨b,o+3,none⟩=some (.int .u64 c.g.s)/\w.cell? ⟨b,o+4,none⟩=some (.int .i64 c.g.h)/\w.cell? ⟨b,o+5,none⟩=some (.int .u64 c.g.l)/\w.cell? ⟨b,o+6,none⟩=some (.int .i64 c.g.a)/\w.cell? ⟨b,o+7,none⟩=some (.int .i64 c.g.t)/\w.cell? ⟨b,o+8,none⟩=some (.int .u64 c.g.z)/\w.cell? ⟨b,o+9,none⟩=some (.slice c.p.pa c.g.P.length c.p.pc)/\w.cell? ⟨b,o+10,none⟩=some (.slice c.p.na c.g.N.length c.p.nc)/\w.cell? ⟨b,o+11,none⟩=some (.int .i64 c.g.x)/\w.cell? ⟨b,o+12,none⟩=some (.int .u64 c.g.y)/\w.cell? ⟨b,o+13,none⟩=some (.slice c.p.ea c.g.E.length c.p.ec)/\w.cell? ⟨b,o+14,none⟩=some (.slice c.p.ra c.g.R.length c.p.rc)
theorem Qai {w w':World} {b o:Nat} {c:Ce} (k:Qcn w b o c) (hb:Below w.heap.size w w'):Qcn w' b o c:=by
  obtain ⟨x0,x1,x2,x3,x4,x5,x6,x7,x8,x9,x10,x11,x12,x13,x14⟩:=k;exact ⟨Qab hb x0,Qab hb x1,Qab hb x2,Qab hb x3,Qab hb x4,Qab hb x5,Qab hb x6,Qab hb x7,Qab hb x8,Qab hb x9,Qab hb x10,Qab hb x11,Qab hb x12,Qab hb x13,Qab hb x14⟩
theorem Qp8 {w:World} {b o:Nat} {c:Ce} {cur:Array Value} {T:TypeId} (h:w.heap[b]?=some (.cells cur T (0,0))) (hc:∀ j v,(Qao c)[j]?=some v->cur[o+j]?=some v):Qcn w b o c:=by
  have q:∀ j v,(Qao c)[j]?=some v->w.cell? ⟨b,o+j,none⟩=some v:=fun j v e=>by rw [cell_of_row _ _ _ _ _ (0,0) h];exact hc j v e
  exact ⟨q 0 _ rfl,q 1 _ rfl,q 2 _ rfl,q 3 _ rfl,q 4 _ rfl,q 5 _ rfl,q 6 _ rfl,q 7 _ rfl,q 8 _ rfl,q 9 _ rfl,q 10 _ rfl,q 11 _ rfl,q 12 _ rfl,q 13 _ rfl,q 14 _ rfl⟩
theorem Qe0 (w:World) (t:TypeId) (c:Ce):Qcn (w.alloc (.cells (Qao c) t)) w.heap.size 0 c:=Qp8 (heap_alloc_new w _) (fun j v e=>by rw [Nat.zero_add];exact e)
def Qci (w:World) (ao:Option Addr) (L:List Ce):Prop:=(0<L.length->∃ b off,ao=some ⟨b,off,none⟩/\∀ i c,L[i]?=some c->Qcn w b (off+i*15) c)/\∀ c∈L,AgAt w c.g c.p
theorem QaQ {w w':World} {ao:Option Addr} {L:List Ce} (h:Qci w ao L) (hb:Below w.heap.size w w'):Qci w' ao L:=
  ⟨fun h0=>by
    obtain ⟨b,off,e,hc⟩:=h.1 h0;exact ⟨b,off,e,fun i c hx=>Qai (hc i c hx) hb⟩,fun c hc=>Qan (h.2 c hc) hb⟩
structure CesLen (L:List Ce):Prop where
  len:L.length<=maxLen
  s:∀ c∈L,c.s.size<=maxLen
  g:∀ c∈L,AgLen c.g
abbrev Qcs:Array Value:=#[.int .i64 0,.string ⟨#[]⟩,.int .i64 0,.int .u64 0,.int .i64 0,.int .u64 0,.int .i64 0,.int .i64 0,.int .u64 0,.slice none 0 0,.slice none 0 0,.int .i64 0,.int .u64 0,.slice none 0 0,.slice none 0 0]
theorem Qaq {w:World} {r:Nat} {cs:Array Value} {T:TypeId} (h:w.heap[r]?=some (.cells cs T (0,0))) (j:Nat) {v:Value} (e:cs[j]?=some v):w.cell? ⟨r,j,none⟩=some v:=by rw [cell_of_row _ _ j _ _ (0,0) h];exact e
theorem Qoj:(Tryz.prog.info? 51).map (fun i=>(i.zero,i.size,i.bytes))=some (some (.agg Qcs),15,192):=by kernel_rfl
structure CeRow (w:World) (g N:Nat) (M:List Ce):Prop where
  row:∃ cur:Array Value,w.heap[g]?=some (.cells cur 51 (0,0))/\N*15<=cur.size/\∀ i c,M[i]?=some c->∀ j v,(Qao c)[j]?=some v->cur[i*15+j]?=some v
  own:∀ c∈M,AgOwn w (g+1) c.g c.p
theorem Qph (w:World) (t:TypeId) (c d:Ce) (W:World) (hb:Below ((w.alloc (.cells (Qao c) t)).alloc (.cells (Qao d) t)).heap.size ((w.alloc (.cells (Qao c) t)).alloc (.cells (Qao d) t)) W):Qcn W w.heap.size 0 c/\Qcn W (w.heap.size+1) 0 d:=by
  refine ⟨Qai (Qai (Qe0 w t c) ((ZZb _ _).alloc (ZZa _) _)) hb,?_⟩;have:=Qe0 (w.alloc (.cells (Qao c) t)) t d;exact Qai (by simpa using this) hb
theorem QgY {c d:Ce} (h:c.key=d.key):∃ q,d=⟨c.n,c.s,c.g,q⟩:=by
  obtain ⟨n,s,g,p⟩:=c;obtain ⟨n',s',g',p'⟩:=d;simp only [Ce.key,Prod.mk.injEq] at h;obtain ⟨rfl,rfl,rfl⟩:=h;exact ⟨p',rfl⟩
def QgE (c d:Ce):Bool:=((c.n == d.n) && (c.s.toList == d.s.toList)) && QaG c.g d.g
def QbR:List Ce->List Ce->Bool
  | [],[]=>true
  | c :: L,d :: M=>QgE c d && QbR L M
  | _,_=>false
theorem QjB {L M:List Ce} {k:Nat} {c d:Ce} (hc:L[k]?=some c) (hd:M[k]?=some d):QbR (L.drop k) (M.drop k)=(QgE c d && QbR (L.drop (k+1)) (M.drop (k+1))):=by
  have h1:=(ZZd.1 hc).1;have h2:=(ZZd.1 hd).1;rw [List.drop_eq_getElem_cons h1,List.drop_eq_getElem_cons h2,(List.getElem?_eq_some_iff.1 hc).2,(List.getElem?_eq_some_iff.1 hd).2]
  rfl
theorem QgP:∀ {L M:List Ce},¬ L.length=M.length->QbR L M=false
  | [],[],h=>absurd rfl h
  | [],d :: M,_=>rfl
  | c :: L,[],_=>rfl
  | c :: L,d :: M,h=>by
    unfold QbR;rw [QgP (by simpa using h)];simp
def csB (L M:List Ce):Bool:=decide (L.length<=400) && decide (M.length<=400) && QbR L M
theorem Qnv {c d c' d':Ce} (h:c.key=c'.key) (k:d.key=d'.key):QgE c d=QgE c' d':=by
  obtain ⟨q,rfl⟩:=QgY h;obtain ⟨q',rfl⟩:=QgY k
  rfl
theorem Qhh:∀ {L M L' M':List Ce},L.map Ce.key=L'.map Ce.key->M.map Ce.key=M'.map Ce.key->QbR L M=QbR L' M'
  | [],[],[],[],_,_=>rfl
  | [],d :: M,[],d' :: M',_,_=>rfl
  | c :: L,[],c' :: L',[],_,_=>rfl
  | c :: L,d :: M,c' :: L',d' :: M',h,k=>by
    simp only [List.map_cons,List.cons.injEq] at h k;unfold QbR;rw [Qnv h.1 k.1,Qhh h.2 k.2]
  | [],_,_ :: _,_,h,_=>by simp at h
  | _ :: _,_,[],_,h,_=>by simp at h
  | _,[],_,_ :: _,_,k=>by simp at k
  | _,_ :: _,_,[],_,k=>by simp at k
theorem QqA {L M L' M':List Ce} (h:L.map Ce.key=L'.map Ce.key) (k:M.map Ce.key=M'.map Ce.key):csB L M=csB L' M':=by
  have e1:L.length=L'.length:=by have:=congrArg List.length h;simpa using this
  have e2:M.length=M'.length:=by have:=congrArg List.length k;simpa using this
  unfold csB;rw [e1,e2,Qhh h k]
theorem QhJ (c:Ce) (w:World):Calls Tryz.prog 53 #[.agg (Qao c)] w fun e w'=>e=.returned (.agg #[.int .i64 c.n,.string c.s])/\Below w.heap.size w w':=by
  go_enter Tryz.func53,Tryz.ntmps53;go_wp2;refine bodyPost_ret (v:=.agg #[.int .i64 c.n,.string c.s]) (by simp [results,Tryz.results53,go_sem]) rfl ⟨rfl,?_⟩
  first
    | exact ((Below.refl _ _).alloc (Nat.le_refl _) _).alloc (by simp) _
    | (repeat (refine Below.setCell ?_ (by simp) _)
       exact ((Below.refl _ _).alloc (Nat.le_refl _) _).alloc (by simp) _)
theorem QiP {a b:Bool} (h:a=b):Ending.returned (.bool a)=.returned (.bool b):=by rw [h]
set_option maxHeartbeats 8000000 in
theorem Qel {w:World} {ao bo:Option Addr} {N M ca cb:Nat} {L K:List Ce} (hN:L.length=N) (hM:K.length=M) (lN:N<=1048576) (lM:M<=1048576) (sm:∀ c∈L,AgSm c.g) (sm':∀ c∈K,AgSm c.g) (hA:Qci w ao L) (hB:Qci w bo K) :
    Calls Tryz.prog 10 #[.slice ao N ca,.slice bo M cb] w fun e w'=>e=.returned (.bool (csB L K))/\Below w.heap.size w w':=by
  have HE:Hid (csB L K=(decide (N<=400) && decide (M<=400) && QbR L K)):=by unfold csB;rw [hN,hM];exact Qaa rfl
  have HN:=Qaa hN;have HM:=Qaa hM;have SM:=Qaa sm;have SM':=Qaa sm';have HA:=Qaa hA;have HB:=Qaa hB;clear hN hM sm sm' hA hB;by_cases h1:N<=400
  · have d1:decide ((400:Int)<(N:Int))=false:=ZZg (by omega)
    by_cases h2:M<=400
    · have d2:decide ((400:Int)<(M:Int))=false:=ZZg (by omega)
      by_cases hnm:N=M
      · subst hnm
        have HF:Hid (QbR L K=csB L K):=by rw [HE.out,decide_eq_true h1];exact Qaa rfl
        go_enter Tryz.func10,Tryz.ntmps10;go_wp2
        go_loopw [5] (fun i wr=>∃ k:Nat,k<=N/\i=.int .i64 k/\Hid (QbR (L.drop k) (K.drop k)=QbR L K)/\Hid (Below w.heap.size w wr)) (fun i wr=>N - (Go.RowKit.intOf i).toNat)
        case atStart=>exact ⟨0,ZZj _,rfl,Qaa rfl,ZZb _ _⟩
        case round=>
          obtain ⟨k,hk,rfl,HE2,HBl⟩:=hrel;by_cases hkn:k<N
          · have hkni:(k:Int)<(N:Int):=by omega
            obtain ⟨b,off,e,hcell⟩:=HA.out.1 (by have:=HN.out;omega);subst e;obtain ⟨b',off',e,hcell'⟩:=HB.out.1 (by have:=HM.out;omega);subst e;obtain ⟨c,hc⟩:∃ c,L[k]?=some c:=⟨L[k]'(by have:=HN.out;omega),ZZe _⟩;obtain ⟨d,hd⟩:∃ d,K[k]?=some d:=⟨K[k]'(by have:=HM.out;omega),ZZe _⟩;have HS:=Qaa (QjB hc hd);have hm:=ZZn hc;have hm':=ZZn hd;have hC:∀ W,Below wr.heap.size wr W->Qcn W b (off+k*15) c/\Qcn W b' (off'+k*15) d:=fun W hW=>⟨Qai (hcell k c hc) (Qad HBl.out hW),Qai (hcell' k _ hd) (Qad HBl.out hW)⟩;have HC:=Qaa hC;have HMm:=Qaa (And.intro hm hm');clear hcell hcell' hc hd hm hm' hC;go_upto_region 6 with fail
            go_cut [64] (fun v w'=>v=.bool (!QgE c d)/\Hid (Below w.heap.size w w'))
            case first=>
              have HS0:(fun W=>Below wr.heap.size wr W) wr.drew:=(ZZb _ _).drew;refine Qaj (fun W=>Below wr.heap.size wr W) 38 (by kernel_rfl) ?_;refine tkS (i:=0) (v:=.slice (some ⟨b,off,none⟩) N ca) rfl rfl HS0 ?_;refine tkS (i:=1) (v:=.int .i64 (k:Int)) rfl rfl HS0 ?_;refine tkS (i:=2) (v:=.pointer (some ⟨b,off+k*15,none⟩)) rfl rfl HS0 ?_;simp only [sA,sB,sC];refine tkS (i:=3) (v:=.pointer (some ⟨b,off+k*15,none⟩)) rfl rfl HS0 ?_;refine tkL (i:=4) (v:=.int .i64 c.n) rfl rfl HS0 (fun W hW=>?_) ?_
              · obtain ⟨⟨x0,x1,x2,x3,x4,x5,x6,x7,x8,x9,x10,x11,x12,x13,x14⟩,⟨y0,y1,y2,y3,y4,y5,y6,y7,y8,y9,y10,y11,y12,y13,y14⟩⟩:=HC.out W hW
                clear hW;go_simp
              refine tkS (i:=5) (v:=.slice (some ⟨b',off',none⟩) N cb) rfl rfl HS0 ?_;simp only [sA,sB,sC];refine tkS (i:=6) (v:=.int .i64 (k:Int)) rfl rfl HS0 ?_;refine tkS (i:=7) (v:=.pointer (some ⟨b',off'+k*15,none⟩)) rfl rfl HS0 ?_;refine tkS (i:=8) (v:=.pointer (some ⟨b',off'+k*15,none⟩)) rfl rfl HS0 ?_;simp only [sA,sB,sC];refine tkL (i:=9) (v:=.int .i64 d.n) rfl rfl HS0 (fun W hW=>?_) ?_
              · obtain ⟨⟨x0,x1,x2,x3,x4,x5,x6,x7,x8,x9,x10,x11,x12,x13,x14⟩,⟨y0,y1,y2,y3,y4,y5,y6,y7,y8,y9,y10,y11,y12,y13,y14⟩⟩:=HC.out W hW
                clear hW;go_simp
              simp only [sA,sB,sC];by_cases hn:c.n=d.n
              · have b1:(c.n != d.n)=false:=by simp [hn]
                refine tkS (i:=10) (v:=.bool false) rfl rfl HS0 ?_;refine tkS (i:=11) (v:=.bool false) rfl rfl HS0 ?_;refine tkS (i:=12) (v:=.slice (some ⟨b,off,none⟩) N ca) rfl rfl HS0 ?_;simp only [sA,sB,sC];refine tkS (i:=13) (v:=.int .i64 (k:Int)) rfl rfl HS0 ?_;refine tkS (i:=14) (v:=.pointer (some ⟨b,off+k*15,none⟩)) rfl rfl HS0 ?_;refine tkS (i:=15) (v:=.pointer (some ⟨b,off+k*15+1,none⟩)) rfl rfl HS0 ?_;simp only [sA,sB,sC];refine tkL (i:=16) (v:=.string c.s) rfl rfl HS0 (fun W hW=>?_) ?_
                · obtain ⟨⟨x0,x1,x2,x3,x4,x5,x6,x7,x8,x9,x10,x11,x12,x13,x14⟩,⟨y0,y1,y2,y3,y4,y5,y6,y7,y8,y9,y10,y11,y12,y13,y14⟩⟩:=HC.out W hW
                  clear hW;go_simp
                refine tkS (i:=17) (v:=.slice (some ⟨b',off',none⟩) N cb) rfl rfl HS0 ?_;refine tkS (i:=18) (v:=.int .i64 (k:Int)) rfl rfl HS0 ?_;simp only [sA,sB,sC];refine tkS (i:=19) (v:=.pointer (some ⟨b',off'+k*15,none⟩)) rfl rfl HS0 ?_;refine tkS (i:=20) (v:=.pointer (some ⟨b',off'+k*15+1,none⟩)) rfl rfl HS0 ?_;refine tkL (i:=21) (v:=.string d.s) rfl rfl HS0 (fun W hW=>?_) ?_
                · obtain ⟨⟨x0,x1,x2,x3,x4,x5,x6,x7,x8,x9,x10,x11,x12,x13,x14⟩,⟨y0,y1,y2,y3,y4,y5,y6,y7,y8,y9,y10,y11,y12,y13,y14⟩⟩:=HC.out W hW
                  clear hW;go_simp
                simp only [sA,sB,sC]
                cases hs:(c.s.toList == d.s.toList) with
                | true=>
                  have b2:(c.s.toList != d.s.toList)=false:=by simp [bne,hs]
                  have HR:Hid ((!QgE c d)=(!QaG c.g d.g)):=by unfold QgE;rw [hs,show (c.n == d.n)=true by simp [hn]];exact Qaa rfl
                  refine tkS (i:=22) (v:=.bool false) rfl rfl HS0 ?_;refine tkS (i:=23) (v:=.bool false) rfl rfl HS0 ?_;refine tkS (i:=24) (v:=.bool false) rfl rfl HS0 ?_;simp only [sA,sB,sC];refine tkS (i:=25) (v:=.slice (some ⟨b,off,none⟩) N ca) rfl rfl HS0 ?_;refine tkS (i:=26) (v:=.int .i64 (k:Int)) rfl rfl HS0 ?_;refine tkS (i:=27) (v:=.pointer (some ⟨b,off+k*15,none⟩)) rfl rfl HS0 ?_;simp only [sA,sB,sC];refine tkS (i:=28) (v:=.pointer (some ⟨b,off+k*15+2,none⟩)) rfl rfl HS0 ?_;refine tkL (i:=29) (v:=.agg (Qal c.g c.p)) rfl rfl HS0 (fun W hW=>?_) ?_
                  · obtain ⟨⟨x0,x1,x2,x3,x4,x5,x6,x7,x8,x9,x10,x11,x12,x13,x14⟩,⟨y0,y1,y2,y3,y4,y5,y6,y7,y8,y9,y10,y11,y12,y13,y14⟩⟩:=HC.out W hW
                    clear hW;go_simp
                  refine tkS (i:=30) (v:=.slice (some ⟨b',off',none⟩) N cb) rfl rfl HS0 ?_;simp only [sA,sB,sC];refine tkS (i:=31) (v:=.int .i64 (k:Int)) rfl rfl HS0 ?_;refine tkS (i:=32) (v:=.pointer (some ⟨b',off'+k*15,none⟩)) rfl rfl HS0 ?_;refine tkS (i:=33) (v:=.pointer (some ⟨b',off'+k*15+2,none⟩)) rfl rfl HS0 ?_;simp only [sA,sB,sC];refine tkL (i:=34) (v:=.agg (Qal d.g d.p)) rfl rfl HS0 (fun W hW=>?_) ?_
                  · obtain ⟨⟨x0,x1,x2,x3,x4,x5,x6,x7,x8,x9,x10,x11,x12,x13,x14⟩,⟨y0,y1,y2,y3,y4,y5,y6,y7,y8,y9,y10,y11,y12,y13,y14⟩⟩:=HC.out W hW
                    clear hW;go_simp
                  simp only [sA,sB,sC];refine onE (i:=35) rfl (fun K hK=>?_);rw [if_pos (by rfl)];go_simp;refine (Qjv (g:=c.g) (p:=c.p) (g':=d.g) (p':=d.p) (SM.out c HMm.out.1) (SM'.out d HMm.out.2) (Qan (HA.out.2 c HMm.out.1) (Qad HBl.out HS0)) (Qan (HB.out.2 d HMm.out.2) (Qad HBl.out HS0))).mono ?_;rintro e w1 ⟨rfl,hb1⟩;have HB1:Hid (Below wr.heap.size wr w1):=(HS0:Below wr.heap.size wr _).trans (hb1.mono (ZZa _));clear hb1
                  try dsimp only
                  refine hK.out _ _ (fun _=>HB1.out) ?_;clear hK K
                  try simp only [Act.put,sA,sB,sC]
                  refine tkS (i:=36) (v:=.bool (!QaG c.g d.g)) rfl rfl HB1.out ?_;refine tkS (i:=37) (v:=.bool (!QaG c.g d.g)) rfl rfl HB1.out ?_;simp only [sA,sB,sC];refine Qar (by kernel_rfl) ?_ _;go_wp2;go_meet;exact ⟨by rw [HR.out],Qaa (Qad HBl.out HB1.out)⟩
                | false=>
                  have b2:(c.s.toList != d.s.toList)=true:=by simp [bne,hs]
                  have HR:Hid ((!QgE c d)=true):=by unfold QgE;rw [hs];simp;exact Qaa trivial
                  refine tkS (i:=22) (v:=.bool true) rfl rfl HS0 ?_;refine tkS (i:=23) (v:=.bool true) rfl rfl HS0 ?_;refine tkS (i:=24) (v:=.bool true) rfl rfl HS0 ?_;simp only [sA,sB,sC];refine tkU (i:=25) rfl rfl HS0 ?_;refine tkU (i:=26) rfl rfl HS0 ?_;refine tkU (i:=27) rfl rfl HS0 ?_;simp only [sA,sB,sC];refine tkU (i:=28) rfl rfl HS0 ?_;refine tkU (i:=29) rfl rfl HS0 ?_;refine tkU (i:=30) rfl rfl HS0 ?_;simp only [sA,sB,sC];refine tkU (i:=31) rfl rfl HS0 ?_;refine tkU (i:=32) rfl rfl HS0 ?_;refine tkU (i:=33) rfl rfl HS0 ?_;simp only [sA,sB,sC];refine tkU (i:=34) rfl rfl HS0 ?_;simp only [sA,sB,sC];refine onE (i:=35) rfl (fun K hK=>?_);refine Eq.mpr (if_neg (fun h=>Bool.noConfusion (show false=true from h))) ?_;refine hK.out _ _ (fun _=>HS0) ?_;clear hK K
                  try simp only [Act.put,sA,sB,sC]
                  refine tkU (i:=36) rfl rfl HS0 ?_;refine tkS (i:=37) (v:=.bool true) rfl rfl HS0 ?_;simp only [sA,sB,sC];refine Qar (by kernel_rfl) ?_ _;go_wp2;go_meet;exact ⟨by rw [HR.out],Qaa (Qad HBl.out HS0)⟩
              · have b1:(c.n != d.n)=true:=by simp [hn]
                have HR:Hid ((!QgE c d)=true):=by unfold QgE;rw [show (c.n == d.n)=false by simp [hn]];simp;exact Qaa trivial
                refine tkS (i:=10) (v:=.bool true) rfl rfl HS0 ?_;refine tkS (i:=11) (v:=.bool true) rfl rfl HS0 ?_;refine tkU (i:=12) rfl rfl HS0 ?_;simp only [sA,sB,sC];refine tkU (i:=13) rfl rfl HS0 ?_;refine tkU (i:=14) rfl rfl HS0 ?_;refine tkU (i:=15) rfl rfl HS0 ?_;simp only [sA,sB,sC];refine tkU (i:=16) rfl rfl HS0 ?_;refine tkU (i:=17) rfl rfl HS0 ?_;refine tkU (i:=18) rfl rfl HS0 ?_;simp only [sA,sB,sC];refine tkU (i:=19) rfl rfl HS0 ?_;refine tkU (i:=20) rfl rfl HS0 ?_;refine tkU (i:=21) rfl rfl HS0 ?_;simp only [sA,sB,sC];refine tkU (i:=22) rfl rfl HS0 ?_;refine tkS (i:=23) (v:=.bool true) rfl rfl HS0 ?_;refine tkS (i:=24) (v:=.bool true) rfl rfl HS0 ?_;simp only [sA,sB,sC];refine tkU (i:=25) rfl rfl HS0 ?_;refine tkU (i:=26) rfl rfl HS0 ?_;refine tkU (i:=27) rfl rfl HS0 ?_;simp only [sA,sB,sC];refine tkU (i:=28) rfl rfl HS0 ?_;refine tkU (i:=29) rfl rfl HS0 ?_;refine tkU (i:=30) rfl rfl HS0 ?_;simp only [sA,sB,sC];refine tkU (i:=31) rfl rfl HS0 ?_;refine tkU (i:=32) rfl rfl HS0 ?_;refine tkU (i:=33) rfl rfl HS0 ?_;simp only [sA,sB,sC];refine tkU (i:=34) rfl rfl HS0 ?_;simp only [sA,sB,sC];refine onE (i:=35) rfl (fun K hK=>?_);refine Eq.mpr (if_neg (fun h=>Bool.noConfusion (show false=true from h))) ?_;refine hK.out _ _ (fun _=>HS0) ?_;clear hK K
                try simp only [Act.put,sA,sB,sC]
                refine tkU (i:=36) rfl rfl HS0 ?_;refine tkS (i:=37) (v:=.bool true) rfl rfl HS0 ?_;simp only [sA,sB,sC];refine Qar (by kernel_rfl) ?_ _;go_wp2;go_meet;exact ⟨by rw [HR.out],Qaa (Qad HBl.out HS0)⟩
            case rest=>
              obtain ⟨rfl,HT1⟩:=hcut
              cases hq:QgE c d with
              | false=>
                have HF2:Hid (false=csB L K):=by rw [<- HF.out,<- HE2.out,HS.out,hq];exact Qaa rfl
                go_wp2;go_ret;exact ⟨QiP HF2.out,HT1.out⟩
              | true=>
                have HE3:Hid (QbR (L.drop (k+1)) (K.drop (k+1))=QbR L K):=by
                  have:=HE2.out;rw [HS.out,hq,Bool.true_and] at this;exact this
                go_wp2;go_roundw
                case rel=>exact ⟨k+1,by omega,by go_num,HE3,HT1⟩
                case measure=>simp [Go.RowKit.intOf];omega
          · obtain rfl:N=k:=by omega
            have HF2:Hid (true=csB L K):=by
              rw [<- HF.out,<- HE2.out,List.drop_eq_nil_of_le (by have:=HN.out;omega),List.drop_eq_nil_of_le (by have:=HM.out;omega)];exact Qaa rfl
            go_wp2;go_ret;exact ⟨QiP HF2.out,HBl.out⟩
      · have HF:Hid (false=csB L K):=by rw [HE.out,QgP (by have:=HN.out;have:=HM.out;omega)];simp;exact Qaa trivial
        have hb:((N:Int) != (M:Int))=true:=by simp;omega
        go_enter Tryz.func10,Tryz.ntmps10;go_wp2;go_ret;exact ⟨QiP HF.out,ZZb _ _⟩
    · have d2:decide ((400:Int)<(M:Int))=true:=ZZh (by omega)
      have HF:Hid (false=csB L K):=by rw [HE.out,decide_eq_false h2];simp;exact Qaa trivial
      go_enter Tryz.func10,Tryz.ntmps10;go_wp2;go_ret;exact ⟨QiP HF.out,ZZb _ _⟩
  · have d1:decide ((400:Int)<(N:Int))=true:=ZZh (by omega)
    have HF:Hid (false=csB L K):=by rw [HE.out,decide_eq_false h1];simp;exact Qaa trivial
    go_enter Tryz.func10,Tryz.ntmps10;go_wp2;go_ret;exact ⟨QiP HF.out,ZZb _ _⟩
end Go.Proofs.YthchmdmncmioiaaGreatDoor
