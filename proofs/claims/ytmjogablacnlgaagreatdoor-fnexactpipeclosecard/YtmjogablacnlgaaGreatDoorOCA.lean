/-
  Cells in memory, and what the exact laws do with them: their size, a copy, comparing them.
-/
import Derived.Test.YtmjogablacnlgaaGreatDoorOJE
import Derived.Test.YtmjogablacnlgaaGreatDoorOJK
import Derived.Laws.IdiomCopy
import Derived.Deep.DeepCutAuto
import Derived.Deep.Slices
import Derived.Deep.Strs
namespace Go.Proofs.YtmjogablacnlgaaGreatDoor
set_option linter.unusedVariables false
set_option linter.unusedSimpArgs false
open Go.ChangeShapes Go.WideShapes Go.ChangeAt Go.RowKit Go.PlainAid Go.Lib
set_option maxRecDepth 10000
structure Ce where
  n:Int
  s:ByteArray
  g:Ag
  p:Pl
abbrev ceArr (c:Ce):Array Value:=#[.int .i64 c.n,.string c.s,.int .i64 c.g.k,.int .u64 c.g.s,.int .i64 c.g.h,.int .u64 c.g.l,.int .i64 c.g.a,.int .i64 c.g.t,.int .u64 c.g.z,.slice c.p.pa c.g.P.length c.p.pc,.slice c.p.na c.g.N.length c.p.nc,.int .i64 c.g.x,.int .u64 c.g.y,.slice c.p.ea c.g.E.length c.p.ec,.slice c.p.ra c.g.R.length c.p.rc]
def Ce.key (c:Ce):Int×ByteArray×Ag:=(c.n,c.s,c.g)
abbrev CeCell (w:World) (b o:Nat) (c:Ce):Prop:=w.cell? ⟨b,o,none⟩=some (.int .i64 c.n)∧w.cell? ⟨b,o+1,none⟩=some (.string c.s)∧w.cell? ⟨b,o+2,none⟩=some (.int .i64 c.g.k)∧w.cell? ⟨b,o+3,none⟩=some (.int .u64 c.g.s)∧w.cell? ⟨b,o+4,none⟩=some (.int .i64 c.g.h)∧w.cell? ⟨b,o+5,none⟩=some (.int .u64 c.g.l)∧w.cell? ⟨b,o+6,none⟩=some (.int .i64 c.g.a)∧w.cell? ⟨b,o+7,none⟩=some (.int .i64 c.g.t)∧w.cell? ⟨b,o+8,none⟩=some (.int .u64 c.g.z)∧w.cell? ⟨b,o+9,none⟩=some (.slice c.p.pa c.g.P.length c.p.pc)∧w.cell? ⟨b,o+10,none⟩=some (.slice c.p.na c.g.N.length c.p.nc)∧w.cell? ⟨b,o+11,none⟩=some (.int .i64 c.g.x)∧w.cell? ⟨b,o+12,none⟩=some (.int .u64 c.g.y)∧w.cell? ⟨b,o+13,none⟩=some (.slice c.p.ea c.g.E.length c.p.ec)∧w.cell? ⟨b,o+14,none⟩=some (.slice c.p.ra c.g.R.length c.p.rc)
theorem cec_past {w w':World} {b o:Nat} {c:Ce} (k:CeCell w b o c) (hb:Below w.heap.size w w'):CeCell w' b o c:=by
  obtain ⟨x0,x1,x2,x3,x4,x5,x6,x7,x8,x9,x10,x11,x12,x13,x14⟩:=k;exact ⟨cell_past hb x0,cell_past hb x1,cell_past hb x2,cell_past hb x3,cell_past hb x4,cell_past hb x5,cell_past hb x6,cell_past hb x7,cell_past hb x8,cell_past hb x9,cell_past hb x10,cell_past hb x11,cell_past hb x12,cell_past hb x13,cell_past hb x14⟩
theorem cec_row {w:World} {b o:Nat} {c:Ce} {cur:Array Value} {T:TypeId} (h:w.heap[b]?=some (.cells cur T (0,0))) (hc:∀ j v,(ceArr c)[j]?=some v→cur[o+j]?=some v):CeCell w b o c:=by
  have q:∀ j v,(ceArr c)[j]?=some v→w.cell? ⟨b,o+j,none⟩=some v:=fun j v e=>by rw [cell_of_row _ _ _ _ _ (0,0) h];exact hc j v e
  exact ⟨q 0 _ rfl,q 1 _ rfl,q 2 _ rfl,q 3 _ rfl,q 4 _ rfl,q 5 _ rfl,q 6 _ rfl,q 7 _ rfl,q 8 _ rfl,q 9 _ rfl,q 10 _ rfl,q 11 _ rfl,q 12 _ rfl,q 13 _ rfl,q 14 _ rfl⟩
theorem cec_new (w:World) (t:TypeId) (c:Ce):CeCell (w.alloc (.cells (ceArr c) t)) w.heap.size 0 c:=cec_row (heap_alloc_new w _) (fun j v e=>by rw [Nat.zero_add];exact e)
def CesAt (w:World) (ao:Option Addr) (L:List Ce):Prop:=(0<L.length→∃ b off,ao=some ⟨b,off,none⟩∧∀ i c,L[i]?=some c→CeCell w b (off+i*15) c)∧∀ c∈L,AgAt w c.g c.p
theorem ces_past {w w':World} {ao:Option Addr} {L:List Ce} (h:CesAt w ao L) (hb:Below w.heap.size w w'):CesAt w' ao L:=
  ⟨fun h0=>by
    obtain ⟨b,off,e,hc⟩:=h.1 h0;exact ⟨b,off,e,fun i c hx=>cec_past (hc i c hx) hb⟩,fun c hc=>ag_past (h.2 c hc) hb⟩
structure CesLen (L:List Ce):Prop where
  len:L.length≤maxLen
  s:∀ c∈L,c.s.size≤maxLen
  g:∀ c∈L,AgLen c.g
theorem heap_setCellsC {g:Nat} {e:TypeId}:∀ (vs:List Value) (o:Nat) (w:World) (cur:Array Value),w.heap[g]?=some (.cells cur e (0,0))→∃ cur':Array Value,(w.setCells g o vs).heap[g]?=some (.cells cur' e (0,0))∧cur'.size=cur.size∧∀ j,cur'[j]?=if o≤j∧j<o+vs.length∧j<cur.size then vs[j - o]? else cur[j]?
  | [],o,w,cur,h=>⟨cur,h,rfl,fun j=>by rw [if_neg (by simp;omega)]⟩
  | v :: r,o,w,cur,h=>by
    have h1:(w.setCell ⟨g,o,none⟩ v).heap[g]?=some (.cells (cur.setIfInBounds o v) e (0,0)):=heap_setCell_same w g o _ _ v h;obtain ⟨cur',h2,h3,h4⟩:=heap_setCellsC r (o+1) _ _ h1;refine ⟨cur',h2,by rw [h3];simp,fun j=>?_⟩;rw [h4 j];simp only [Array.size_setIfInBounds,List.length_cons];by_cases hj:j<cur.size
    · by_cases e1:j=o
      · subst e1
        rw [if_neg (by omega),if_pos (by omega)];simp [hj]
      · by_cases e2:o+1≤j∧j<o+1+r.length
        · rw [if_pos (by omega),if_pos (by omega),show j - o=(j - (o+1))+1 by omega];simp
        · rw [if_neg (by omega),if_neg (by omega)]
          simp [Array.getElem?_setIfInBounds,Ne.symm e1]
    · rw [if_neg (by omega),if_neg (by omega)]
      rw [Array.getElem?_eq_none (by simp;omega),Array.getElem?_eq_none (by omega)]
abbrev zeroCe:Array Value:=#[.int .i64 0,.string ⟨#[]⟩,.int .i64 0,.int .u64 0,.int .i64 0,.int .u64 0,.int .i64 0,.int .i64 0,.int .u64 0,.slice none 0 0,.slice none 0 0,.int .i64 0,.int .u64 0,.slice none 0 0,.slice none 0 0]
theorem cellKC {w:World} {r:Nat} {cs:Array Value} {T:TypeId} (h:w.heap[r]?=some (.cells cs T (0,0))) (j:Nat) {v:Value} (e:cs[j]?=some v):w.cell? ⟨r,j,none⟩=some v:=by rw [cell_of_row _ _ j _ _ (0,0) h];exact e
theorem infoCell:(Tryz.prog.info? 69).map (fun i=>(i.zero,i.size,i.bytes))=some (some (.agg zeroCe),15,192):=by kernel_rfl
structure CeRow (w:World) (g N:Nat) (M:List Ce):Prop where
  row:∃ cur:Array Value,w.heap[g]?=some (.cells cur 69 (0,0))∧N*15≤cur.size∧∀ i c,M[i]?=some c→∀ j v,(ceArr c)[j]?=some v→cur[i*15+j]?=some v
  own:∀ c∈M,AgOwn w (g+1) c.g c.p
theorem two_ce (w:World) (t:TypeId) (c d:Ce) (W:World) (hb:Below ((w.alloc (.cells (ceArr c) t)).alloc (.cells (ceArr d) t)).heap.size ((w.alloc (.cells (ceArr c) t)).alloc (.cells (ceArr d) t)) W):CeCell W w.heap.size 0 c∧CeCell W (w.heap.size+1) 0 d:=by
  refine ⟨cec_past (cec_past (cec_new w t c) ((Below.refl _ _).alloc (Nat.le_refl _) _)) hb,?_⟩;have:=cec_new (w.alloc (.cells (ceArr c) t)) t d;exact cec_past (by simpa using this) hb
theorem str_self (s:ByteArray):(s.toList == s.toList)=true:=by simp
set_option maxHeartbeats 4000000 in
theorem c_eqCell {w:World} (n:Int) (s:ByteArray) (g:Ag) (p q:Pl) (sm:AgSm g) (hA:AgAt w g p) (hB:AgAt w g q) :
    Calls Tryz.prog 55 #[.agg (ceArr ⟨n,s,g,p⟩),.agg (ceArr ⟨n,s,g,q⟩)] w fun e w'=>e=.returned (.bool true)∧Below w.heap.size w w':=by
  have HA:=hide hA;have HB:=hide hB;have SM:=hide sm;have hs:=str_self s;have HBa:Hid (∀ o1 o2,Below w.heap.size w ((w.alloc o1).alloc o2)):=fun o1 o2=>((Below.refl _ _).alloc (Nat.le_refl _) _).alloc (by simp) _;clear hA hB sm;go_enter Tryz.func55,Tryz.ntmps55;go_wp2_with fail;refine (c_eqAgg SM.out (ag_past HA.out (HBa.out _ _)) (ag_past HB.out (HBa.out _ _))).mono ?_;rintro e w1 ⟨rfl,hb1⟩;have HT1:=hide (chain (HBa.out _ _) hb1);clear hb1;go_wp2;go_ret;exact ⟨rfl,HT1.out⟩
theorem key_eq {c d:Ce} (h:c.key=d.key):∃ q,d=⟨c.n,c.s,c.g,q⟩:=by
  obtain ⟨n,s,g,p⟩:=c;obtain ⟨n',s',g',p'⟩:=d;simp only [Ce.key,Prod.mk.injEq] at h;obtain ⟨rfl,rfl,rfl⟩:=h;exact ⟨p',rfl⟩
set_option maxHeartbeats 4000000 in
theorem c_eqCellS {w:World} {ao bo:Option Addr} {N ca cb:Nat} {L M:List Ce} (hN:L.length=N) (hM:M.length=N) (hk:L.map Ce.key=M.map Ce.key) (hl:N≤1048576) (sm:∀ c∈L,AgSm c.g) (hA:CesAt w ao L) (hB:CesAt w bo M) :
    Calls Tryz.prog 20 #[.slice ao N ca,.slice bo N cb] w fun e w'=>e=.returned (.bool true)∧Below w.heap.size w w':=by
  have HN:=hide hN;have HM:=hide hM;have HK:=hide hk;have SM:=hide sm;have HA:=hide hA;have HB:=hide hB;clear hN hM hk sm hA hB;go_enter Tryz.func20,Tryz.ntmps20;go_wp2
  go_loopw [5] (fun i wr=>∃ k:Nat,k≤N∧i=.int .i64 k∧Hid (Below w.heap.size w wr)) (fun i wr=>N - (Go.RowKit.intOf i).toNat)
  case atStart=>exact ⟨0,Nat.zero_le _,rfl,Below.refl _ _⟩
  case round=>
    obtain ⟨k,hk,rfl,HBl⟩:=hrel;by_cases hkn:k<N
    · have hkni:(k:Int)<(N:Int):=by omega
      obtain ⟨b,off,e,hcell⟩:=HA.out.1 (by have:=HN.out;omega);subst e;obtain ⟨b',off',e,hcell'⟩:=HB.out.1 (by have:=HM.out;omega);subst e;obtain ⟨c,hc⟩:∃ c,L[k]?=some c:=⟨L[k]'(by have:=HN.out;omega),List.getElem?_eq_getElem _⟩;obtain ⟨d,hd⟩:∃ d,M[k]?=some d:=⟨M[k]'(by have:=HM.out;omega),List.getElem?_eq_getElem _⟩
      have hkey:c.key=d.key:=by
        have h:=congrArg (fun l=>l[k]?) HK.out;simp only [List.getElem?_map,hc,hd,Option.map_some,Option.some.injEq] at h;exact h
      obtain ⟨q,rfl⟩:=key_eq hkey;have hm:=List.mem_of_getElem? hc;have hm':=List.mem_of_getElem? hd;have hC:∀ W,Below wr.heap.size wr W→CeCell W b (off+k*15) c∧CeCell W b' (off'+k*15) ⟨c.n,c.s,c.g,q⟩:=fun W hW=>⟨cec_past (hcell k c hc) (chain HBl.out hW),cec_past (hcell' k _ hd) (chain HBl.out hW)⟩;have HC:=hide hC;have HMm:=hide (And.intro hm hm');clear hcell hcell' hc hd hm hm' hC hkey;obtain ⟨⟨x0,x1,x2,x3,x4,x5,x6,x7,x8,x9,x10,x11,x12,x13,x14⟩,⟨y0,y1,y2,y3,y4,y5,y6,y7,y8,y9,y10,y11,y12,y13,y14⟩⟩:=HC.out wr (Below.refl _ _);go_wp2_with fail;clear x0 x1 x2 x3 x4 x5 x6 x7 x8 x9 x10 x11 x12 x13 x14 y0 y1 y2 y3 y4 y5 y6 y7 y8 y9 y10 y11 y12 y13 y14
      go_cut [26] (fun v w'=>v=.bool false∧Hid (Below w.heap.size w w'))
      case first=>
        have HS0:(fun W=>Below wr.heap.size wr W) wr.drew:=(Below.refl _ _).drew;refine regionK (fun W=>Below wr.heap.size wr W) 10 (by kernel_rfl) ?_;refine tkS (i:=0) (v:=.slice (some ⟨b,off,none⟩) N ca) rfl rfl HS0 ?_;refine tkS (i:=1) (v:=.int .i64 (k:Int)) rfl rfl HS0 ?_;refine tkS (i:=2) (v:=.pointer (some ⟨b,off+k*15,none⟩)) rfl rfl HS0 ?_;simp only [sA,sB,sC];refine tkL (i:=3) (v:=.agg (ceArr c)) rfl rfl HS0 (fun W hW=>?_) ?_
        · obtain ⟨⟨x0,x1,x2,x3,x4,x5,x6,x7,x8,x9,x10,x11,x12,x13,x14⟩,⟨y0,y1,y2,y3,y4,y5,y6,y7,y8,y9,y10,y11,y12,y13,y14⟩⟩:=HC.out W hW
          clear hW;go_simp
        refine tkS (i:=4) (v:=.slice (some ⟨b',off',none⟩) N cb) rfl rfl HS0 ?_;refine tkS (i:=5) (v:=.int .i64 (k:Int)) rfl rfl HS0 ?_;simp only [sA,sB,sC];refine tkS (i:=6) (v:=.pointer (some ⟨b',off'+k*15,none⟩)) rfl rfl HS0 ?_;refine tkL (i:=7) (v:=.agg (ceArr ⟨c.n,c.s,c.g,q⟩)) rfl rfl HS0 (fun W hW=>?_) ?_
        · obtain ⟨⟨x0,x1,x2,x3,x4,x5,x6,x7,x8,x9,x10,x11,x12,x13,x14⟩,⟨y0,y1,y2,y3,y4,y5,y6,y7,y8,y9,y10,y11,y12,y13,y14⟩⟩:=HC.out W hW
          clear hW;go_simp
        simp only [sA,sB,sC];refine onE (i:=8) rfl (fun K hK=>?_);go_simp;refine (c_eqCell c.n c.s c.g c.p q (SM.out c HMm.out.1) (ag_past (HA.out.2 c HMm.out.1) (chain HBl.out HS0)) (ag_past (HB.out.2 _ HMm.out.2) (chain HBl.out HS0))).mono ?_;rintro e w1 ⟨rfl,hb1⟩;have HB1:Hid (Below wr.heap.size wr w1):=(HS0:Below wr.heap.size wr _).trans (hb1.mono (Nat.le_refl _));clear hb1
        try dsimp only
        refine hK.out _ _ (fun _=>HB1.out) ?_;clear hK K
        try simp only [Act.put,sA,sB,sC]
        refine tkS (i:=9) (v:=.bool false) rfl rfl HB1.out ?_;simp only [sA,sB,sC];refine doneK (by kernel_rfl) ?_ _;go_wp2;go_meet;exact ⟨rfl,hide (chain HBl.out HB1.out)⟩
      case rest=>
        obtain ⟨rfl,HB2⟩:=hcut;go_wp2;go_roundw
        case rel=>exact ⟨k+1,by omega,by go_num,HB2⟩
        case measure=>simp [Go.RowKit.intOf];omega
    · obtain rfl:N=k:=by omega
      go_wp2;go_ret;exact ⟨rfl,HBl.out⟩
def sameC (c d:Ce):Bool:=((c.n == d.n) && (c.s.toList == d.s.toList)) && sameA c.g d.g
def sameCs:List Ce→List Ce→Bool
  | [],[]=>true
  | c :: L,d :: M=>sameC c d && sameCs L M
  | _,_=>false
def csB (L M:List Ce):Bool:=decide (L.length≤400) && decide (M.length≤400) && sameCs L M
theorem c_keyOf (c:Ce) (w:World):Calls Tryz.prog 118 #[.agg (ceArr c)] w fun e w'=>e=.returned (.agg #[.int .i64 c.n,.string c.s])∧Below w.heap.size w w':=by
  go_enter Tryz.func118,Tryz.ntmps118;go_wp2;refine bodyPost_ret (v:=.agg #[.int .i64 c.n,.string c.s]) (by simp [results,Tryz.results118,go_sem]) rfl ⟨rfl,?_⟩
  first
    | exact ((Below.refl _ _).alloc (Nat.le_refl _) _).alloc (by simp) _
    | (repeat (refine Below.setCell ?_ (by simp) _)
       exact ((Below.refl _ _).alloc (Nat.le_refl _) _).alloc (by simp) _)
end Go.Proofs.YtmjogablacnlgaaGreatDoor
namespace Go.Proofs.YtmjogablacnlgaaGreatDoor
set_option linter.unusedVariables false
set_option linter.unusedSimpArgs false
open Go.ChangeShapes Go.WideShapes Go.ChangeAt Go.RowKit Go.PlainAid
instance:Inhabited Ce:=⟨⟨0,ByteArray.empty,⟨0,0,0,0,0,0,0,[],[],0,0,[],[]⟩,⟨none,0,none,0,none,0,none,0⟩⟩⟩
theorem list15 {α:Type} {cs:List α} (h:cs.length=15):∃ c0 c1 c2 c3 c4 c5 c6 c7 c8 c9 c10 c11 c12 c13 c14,cs=[c0,c1,c2,c3,c4,c5,c6,c7,c8,c9,c10,c11,c12,c13,c14]:=by
  match cs,h with
  | [c0,c1,c2,c3,c4,c5,c6,c7,c8,c9,c10,c11,c12,c13,c14],_=>exact ⟨c0,c1,c2,c3,c4,c5,c6,c7,c8,c9,c10,c11,c12,c13,c14,rfl⟩
structure CeOk (W:World) (c:Ce):Prop where
  n:I64 c.n
  s:c.s.size≤maxLen
  g:AgOk c.g
  l:AgLen c.g
  m:AgAt W c.g c.p
set_option maxRecDepth 100000 in
set_option maxHeartbeats 1000000 in
theorem open_ce0 {H:Type} {enc:TypeId×Value→H} {W:World} {base fuel:Nat} {sp:Nat→Bool} {held:Bool} {cs:List Value} {x:DataW H×List MemPlace}
    (hf:DataW.trod enc Tryz.prog W base sp held fuel 177 cs=some x):∃ c:Ce,cs=(ceArr c).toList∧CeOk W c:=by
  obtain ⟨y0,y1,y2,n,_,hl,h0,h1,h2⟩:=Deep.trod_struct3 Tryz.underlying177 hf;obtain ⟨c0,c1,c2,c3,c4,c5,c6,c7,c8,c9,c10,c11,c12,c13,c14,rfl⟩:=list15 (hl.trans (show Tryz.prog.cellsOf 177=15 by kernel_rfl));have eI:Tryz.prog.cellsOf 2=1:=by kernel_rfl
  have eS:Tryz.prog.cellsOf 9=1:=by kernel_rfl
  have eG:Tryz.prog.cellsOf 175=13:=by kernel_rfl
  have k0:DataW.trod enc Tryz.prog W base sp held n 2 [c0]=some y0:=by simpa [eI] using h0
  have k1:DataW.trod enc Tryz.prog W base sp held n 9 [c1]=some y1:=by simpa [eS] using h1
  have k2:DataW.trod enc Tryz.prog W base sp held n 175 [c2,c3,c4,c5,c6,c7,c8,c9,c10,c11,c12,c13,c14]=some y2:=by simpa [eG] using h2
  obtain ⟨i,f0,_,wi⟩:=DataW.trod_int Tryz.underlying2 k0;obtain ⟨s,f1,_,ws⟩:=DataW.trod_string Tryz.underlying9 k1;obtain ⟨g,p,e,ok,ln,m⟩:=open_agg0 k2;simp at f0 f1;subst f0 f1;refine ⟨⟨i,s,g,p⟩,?_,bounds_i64 wi,ws,ok,ln,m⟩;have e':=congrArg Array.toList e
  show [Value.int .i64 i,.string s] ++ [c2,c3,c4,c5,c6,c7,c8,c9,c10,c11,c12,c13,c14]=[Value.int .i64 i,.string s] ++ (agArr g p).toList
  rw [← e']
end Go.Proofs.YtmjogablacnlgaaGreatDoor
