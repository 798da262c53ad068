/-
 An argument that is a sketch, opened.
-/
import Derived.ChangeOld
import Derived.ChangeSlices
import Derived.Deep.SlicePairs
import Derived.Lib.SmallJoins
import Derived.Test.YtmjogablacnlgaaGreatDoorOJD
namespace Go.Proofs.YtmjogablacnlgaaGreatDoor
set_option linter.unusedVariables false
set_option linter.unusedSimpArgs false
open Go.ChangeShapes Go.WideShapes Go.ChangeAt Go.RowKit Go.PlainAid
set_option maxRecDepth 100000 in
theorem open_bins {H:Type} {enc:TypeId×Value→H} {W:World} {base fuel:Nat} {sp:Nat→Bool} {held:Bool} {v:Value} {x:DataW H×List MemPlace}
  (hd:DataW.trod enc Tryz.prog W base sp held fuel 170 [v]=some x) :
  ∃ ao cap,∃ L:List Bn,v=.slice ao L.length cap∧L.length≤maxLen∧(∀ x∈L,BnOk x)∧BinsAt W ao L:=by
 rcases Deep.open_slice_pairs Tryz.underlying170 Tryz.underlying282 (show Tryz.prog.cellsOf 282=2 by kernel_rfl) rfl rfl (show Tryz.prog.cellsOf 2=1 by kernel_rfl) (show Tryz.prog.cellsOf 56=1 by kernel_rfl) hd with ⟨hcs,hx⟩ | ⟨a,len,cap,m,n,V0,V1,D0,D1,P0,P1,hcs,_,hl,hm,hmm,hx,hcell⟩
 ·obtain rfl:v=.slice none 0 0:=by simpa using hcs
  exact ⟨none,0,[],rfl,Nat.zero_le _,(fun u hu=>absurd hu List.not_mem_nil),(fun h=>absurd h (Nat.lt_irrefl 0))⟩
 ·obtain rfl:v=.slice (some a) len cap:=by simpa using hcs
  have hlm:len≤m:=by rw [hmm];split <;> omega
  have each:∀ i,i<len→∃ x:Bn,W.cell? (a.add (i*2))=some (.int .i64 x.1)∧W.cell? (a.add (i*2+1))=some (.int .u64 x.2)∧BnOk x:=fun i hi=>by
   obtain ⟨h0,h1,t0,t1⟩:=hcell i (by omega);obtain ⟨p,f0,e0,w0⟩:=DataW.trod_int Tryz.underlying2 t0;obtain ⟨q,f1,e1,w1⟩:=DataW.trod_int Tryz.underlying56 t1;simp at f0 f1;rw [f0] at h0;rw [f1] at h1;exact ⟨(p,q),h0,h1,bounds_i64 w0,bounds_u64 w1⟩
  obtain ⟨f,hf⟩:=Deep.choose_lt each;have hlen:((List.range len).map f).length=len:=by simp
  refine ⟨some a,cap,(List.range len).map f,by rw [hlen],by rw [hlen];omega,fun x hx=>?_,fun h0=>?_⟩
  ·obtain ⟨i,hi,rfl⟩:=List.mem_map.1 hx
   exact (hf i (List.mem_range.1 hi)).2.2
  ·rw [hlen] at h0
   have g0:=(hf 0 (by omega)).1;obtain ⟨b,off,spot⟩:=a;have hspot:spot=none:=by simpa [Addr.add] using World.cell?_spot g0
   subst hspot;refine ⟨b,off,rfl,fun i x hi=>?_⟩;have hil:=(List.getElem?_eq_some_iff.1 hi).1;rw [hlen] at hil
   have e:x=f i:=by
    have:=(List.getElem?_eq_some_iff.1 hi).2
    simpa using this.symm
   subst e;obtain ⟨h0,h1,_⟩:=hf i hil;rw [Addr.add_lit] at h0 h1;exact ⟨h0,by rw [Nat.add_assoc];exact h1⟩
theorem array5 {α:Type} {cs:Array α} (h:cs.size=5):∃ c0 c1 c2 c3 c4,cs=#[c0,c1,c2,c3,c4]:=by
 obtain ⟨l⟩:=cs
 match l,h with
 | [c0,c1,c2,c3,c4],_=>exact ⟨c0,c1,c2,c3,c4,rfl⟩
set_option maxRecDepth 100000 in
theorem open_numsU {H:Type} {enc:TypeId×Value→H} {W:World} {base fuel:Nat} {sp:Nat→Bool} {held:Bool} {v:Value} {x:DataW H×List MemPlace} {t e:TypeId} {k:IntKind}
  (ht:Tryz.prog.underlying t=some (.slice e)) (he:Tryz.prog.underlying e=some (.int k)) (hc:Tryz.prog.cellsOf e=1)
  (hd:DataW.trod enc Tryz.prog W base sp held fuel t [v]=some x) :
  ∃ ao cap,∃ L:List Int,v=.slice ao L.length cap∧L.length≤maxLen∧(∀ x∈L,(Lit.int k x).wf=true)∧NumsAt k W ao L:=by
 rcases open_ints ht he hc hd with ⟨hcs,hx⟩ | ⟨a,len,cap,zs,hcs,_,hl,hm,hz,hx,hcell,hws⟩
 ·obtain rfl:v=.slice none 0 0:=by simpa using hcs
  exact ⟨none,0,[],rfl,Nat.zero_le _,(fun u hu=>absurd hu List.not_mem_nil),(fun h=>absurd h (Nat.lt_irrefl 0))⟩
 ·obtain rfl:v=.slice (some a) len cap:=by simpa using hcs
  have hzl:len≤zs.length:=by rw [hz];split <;> omega
  have hlen:(zs.take len).length=len:=by simp;omega
  refine ⟨some a,cap,zs.take len,by rw [hlen],by rw [hlen];exact Nat.le_trans hl hm,fun u hu=>hws u (List.mem_of_mem_take hu),fun h0=>?_⟩;rw [hlen] at h0;have g0:=hcell 0 (by omega);obtain ⟨b,off,spot⟩:=a;have hspot:spot=none:=by simpa [Addr.add] using World.cell?_spot g0
  subst hspot;refine ⟨b,off,rfl,fun i u hi=>?_⟩;have hil:=(List.getElem?_eq_some_iff.1 hi).1;rw [hlen] at hil;have:=hcell i (by omega)
  have e:zs.getD i 0=u:=by
   rw [List.getElem?_take,if_pos hil] at hi;simp [List.getD,hi]
  rw [e] at this;by_cases hi0:i=0
  ·subst hi0;simpa [Addr.add] using this
  ·simpa [Addr.add,hi0] using this
structure AgOk (g:Ag):Prop where
 k:I64 g.k
 s:U64 g.s
 h:I64 g.h
 l:U64 g.l
 a:I64 g.a
 t:I64 g.t
 z:U64 g.z
 x:I64 g.x
 y:U64 g.y
 P:∀ b∈g.P,BnOk b
 N:∀ b∈g.N,BnOk b
 E:∀ b∈g.E,U64 b
 R:∀ b∈g.R,I64 b
set_option maxRecDepth 100000 in
set_option maxHeartbeats 1000000 in
theorem open_agg0 {H:Type} {enc:TypeId×Value→H} {W:World} {base fuel:Nat} {sp:Nat→Bool} {held:Bool} {c0 c1 c2 c3 c4 c5 c6 c7 c8 c9 c10 c11 c12:Value} {x:DataW H×List MemPlace}
  (hf:DataW.trod enc Tryz.prog W base sp held fuel 175 [c0,c1,c2,c3,c4,c5,c6,c7,c8,c9,c10,c11,c12]=some x) :
  ∃ (g:Ag) (p:Pl),#[c0,c1,c2,c3,c4,c5,c6,c7,c8,c9,c10,c11,c12]=agArr g p∧AgOk g∧AgLen g∧AgAt W g p:=by
 obtain ⟨xs,n,_,_,_,hlen,hfs⟩:=DataW.trod_struct Tryz.underlying175 hf;have eI:Tryz.prog.cellsOf 2=1:=by kernel_rfl
 have eU:Tryz.prog.cellsOf 56=1:=by kernel_rfl
 have eW:Tryz.prog.cellsOf 169=2:=by kernel_rfl
 have eS:Tryz.prog.cellsOf 172=5:=by kernel_rfl
 have eH:Tryz.prog.cellsOf 173=2:=by kernel_rfl
 have eB:Tryz.prog.cellsOf 170=1:=by kernel_rfl
 have eE:Tryz.prog.cellsOf 62=1:=by kernel_rfl
 have eR:Tryz.prog.cellsOf 63=1:=by kernel_rfl
 match xs,hlen with
 | [y0,y1,y2,y3,y4,y5,y6],_=>
  have k0:DataW.trod enc Tryz.prog W base sp held n 2 [c0]=some y0:=by simpa [Value.cells,eI] using hfs 0 _ rfl
  have k1:DataW.trod enc Tryz.prog W base sp held n 56 [c1]=some y1:=by simpa [Value.cells,eU] using hfs 1 _ rfl
  have k2:DataW.trod enc Tryz.prog W base sp held n 169 [c2,c3]=some y2:=by simpa [Value.cells,eW] using hfs 2 _ rfl
  have k3:DataW.trod enc Tryz.prog W base sp held n 2 [c4]=some y3:=by simpa [Value.cells,eI] using hfs 3 _ rfl
  have k4:DataW.trod enc Tryz.prog W base sp held n 2 [c5]=some y4:=by simpa [Value.cells,eI] using hfs 4 _ rfl
  have k5:DataW.trod enc Tryz.prog W base sp held n 172 [c6,c7,c8,c9,c10]=some y5:=by simpa [Value.cells,eS] using hfs 5 _ rfl
  have k6:DataW.trod enc Tryz.prog W base sp held n 173 [c11,c12]=some y6:=by simpa [Value.cells,eH] using hfs 6 _ rfl
  obtain ⟨k,f0,_,wk⟩:=DataW.trod_int Tryz.underlying2 k0;obtain ⟨s,f1,_,ws⟩:=DataW.trod_int Tryz.underlying56 k1;obtain ⟨a,f4,_,wa⟩:=DataW.trod_int Tryz.underlying2 k3;obtain ⟨t,f5,_,wt⟩:=DataW.trod_int Tryz.underlying2 k4;obtain ⟨x0,x1,m,_,_,g0,g1⟩:=trod_struct2 Tryz.underlying169 k2;have g0:DataW.trod enc Tryz.prog W base sp held m 2 [c2]=some x0:=by simpa [eI] using g0
  have g1:DataW.trod enc Tryz.prog W base sp held m 56 [c3]=some x1:=by simpa [eU] using g1
  obtain ⟨h,f2,_,wh⟩:=DataW.trod_int Tryz.underlying2 g0;obtain ⟨l,f3,_,wl⟩:=DataW.trod_int Tryz.underlying56 g1;obtain ⟨v0,v1,v2,v3,q,_,_,h0,h1,h2,h3⟩:=Joins.trod_struct4 Tryz.underlying172 k5;have h0:DataW.trod enc Tryz.prog W base sp held q 56 [c6]=some v0:=by simpa [eU] using h0
  have h1:DataW.trod enc Tryz.prog W base sp held q 170 [c7]=some v1:=by simpa [eU,eB] using h1
  have h2:DataW.trod enc Tryz.prog W base sp held q 170 [c8]=some v2:=by simpa [eU,eB] using h2
  have h3:DataW.trod enc Tryz.prog W base sp held q 169 [c9,c10]=some v3:=by simpa [eU,eB,eW] using h3
  obtain ⟨z,f6,_,wz⟩:=DataW.trod_int Tryz.underlying56 h0;obtain ⟨pa,pc,P,rfl,lP,kP,hP⟩:=open_bins h1;obtain ⟨na,nc,N,rfl,lN,kN,hN⟩:=open_bins h2;obtain ⟨x2,x3,m2,_,_,g2,g3⟩:=trod_struct2 Tryz.underlying169 h3;have g2:DataW.trod enc Tryz.prog W base sp held m2 2 [c9]=some x2:=by simpa [eI,eW] using g2
  have g3:DataW.trod enc Tryz.prog W base sp held m2 56 [c10]=some x3:=by simpa [eU,eW] using g3
  obtain ⟨x,f9,_,wx⟩:=DataW.trod_int Tryz.underlying2 g2;obtain ⟨y,f10,_,wy⟩:=DataW.trod_int Tryz.underlying56 g3;obtain ⟨u0,u1,m3,_,_,j0,j1⟩:=trod_struct2 Tryz.underlying173 k6;have j0:DataW.trod enc Tryz.prog W base sp held m3 62 [c11]=some u0:=by simpa [eE] using j0
  have j1:DataW.trod enc Tryz.prog W base sp held m3 63 [c12]=some u1:=by simpa [eR] using j1
  obtain ⟨ea,ec,E,rfl,lE,kE,hE⟩:=open_numsU Tryz.underlying62 Tryz.underlying56 (by kernel_rfl) j0;obtain ⟨ra,rc,R,rfl,lR,kR,hR⟩:=open_numsU Tryz.underlying63 Tryz.underlying2 (by kernel_rfl) j1;simp at f0 f1 f2 f3 f4 f5 f6 f9 f10;subst f0 f1 f2 f3 f4 f5 f6 f9 f10;exact ⟨⟨k,s,h,l,a,t,z,P,N,x,y,E,R⟩,⟨pa,pc,na,nc,ea,ec,ra,rc⟩,rfl,⟨bounds_i64 wk,bounds_u64 ws,bounds_i64 wh,bounds_u64 wl,bounds_i64 wa,bounds_i64 wt,bounds_u64 wz,bounds_i64 wx,bounds_u64 wy,kP,kN,fun b hb=>bounds_u64 (kE b hb),fun b hb=>bounds_i64 (kR b hb)⟩,⟨lP,lN,lE,lR⟩,⟨hP,hN,hE,hR⟩⟩
set_option maxRecDepth 10000
open Go.Lib
def noS (g:Ag):Bool:=sameS g.z g.x g.y g.P g.N 0 0 0 [] []
def noH (g:Ag):Bool:=decide (g.E.length=0) && decide (g.R.length=0)
def sumZ (g:Ag):Bool:=(g.h == 0 && g.l == 0)
def tail2 (g:Ag):Bool:=valA g.a && (decide (-1≤g.t) && decide (g.t≤1000000000)) && (decide (0≤g.t) || (g.a == 0))
def agB (g:Ag):Bool:=(decide (1≤g.k) && decide (g.k≤4)) && skB g.P g.N && hlB g.E g.R && ((g.k == 1) || sumZ g) && ((g.k == 3) || noS g) && ((g.k == 4) || noH g) && (if g.k=2 then tail2 g else (g.a == 0) && (g.t == 0))
def agC (g:Ag):Ag:=⟨1,g.s,g.h,g.l,0,0,0,[],[],0,0,[],[]⟩
def agG (g:Ag):Ag:=⟨2,g.s,0,0,g.a,g.t,0,[],[],0,0,[],[]⟩
def agH (g:Ag):Ag:=⟨3,g.s,0,0,0,0,g.z,g.P,g.N,g.x,g.y,[],[]⟩
def agS (g:Ag):Ag:=⟨4,g.s,0,0,0,0,0,[],[],0,0,g.E,g.R⟩
def agI (g:Ag):Bool:=if g.k=1 then sameA g (agC g) else if g.k=2 then gauB g.a g.t && sameA g (agG g) else if g.k=3 then skB g.P g.N && sameA g (agH g) else if g.k=4 then hlB g.E g.R && sameA g (agS g) else false
theorem noS_iff (g:Ag):noS g=true↔g.z=0∧g.x=0∧g.y=0∧g.P=[]∧g.N=[]:=by
 simp [noS,sameS,and_assoc]
theorem noH_iff (g:Ag):noH g=true↔g.E=[]∧g.R=[]:=by simp [noH]
theorem skB_nil:skB [] []=true:=by decide
theorem hlB_nil:hlB [] []=true:=by decide
theorem sameS_self (z h l:Int) (P N:List Bn):sameS z h l P N z h l P N=true:=by simp [sameS]
theorem sameH_self (E R:List Int):sameH E R E R=true:=by simp [sameH]
theorem gau_tail (g:Ag):gauB g.a g.t=tail2 g:=by
 unfold gauB tail2 valA;by_cases h1:g.t=-1
 ·rw [if_pos h1,h1]
  by_cases h2:g.a=0
  ·rw [h2];decide
  ·have:(g.a == 0)=false:=beq_eq_false_iff_ne.2 h2
   rw [this];simp [h2]
 ·rw [if_neg h1]
  by_cases h2:0≤g.t
  ·have e1:decide (-1≤g.t)=true:=decide_eq_true (by omega)
   have e2:decide (0≤g.t)=true:=decide_eq_true h2;rw [e1,e2];simp [Bool.and_comm,Bool.and_left_comm,Bool.and_assoc]
  ·have e1:decide (-1≤g.t)=false:=decide_eq_false (by omega)
   have e2:decide (0≤g.t)=false:=decide_eq_false h2;rw [e1,e2];simp
theorem ag_one (g:Ag):agI g=agB g:=by
 rw [Bool.eq_iff_iff];unfold agI agB;by_cases h1:g.k=1
 ·rw [if_pos h1]
  simp only [sameA,agC,sumZ,h1,Bool.and_eq_true,Bool.or_eq_true,beq_iff_eq,decide_eq_true_eq,noH_iff,noS_iff];constructor
  ·rintro ⟨⟨⟨⟨⟨_,_⟩,ha⟩,ht⟩,hs⟩,hh⟩
   have hs':noS g=true:=hs;have:=(noS_iff g).1 hs';have hh':g.E=[]∧g.R=[]:=by simpa [sameH] using hh
   refine ⟨⟨⟨⟨⟨⟨by omega,?_⟩,?_⟩,.inl trivial⟩,.inr this⟩,.inr hh'⟩,?_⟩
   ·rw [this.2.2.2.1,this.2.2.2.2];exact skB_nil
   ·rw [hh'.1,hh'.2];exact hlB_nil
   ·simp [ha,ht]
  ·rintro ⟨⟨⟨⟨⟨⟨_,_⟩,_⟩,_⟩,hs⟩,hh⟩,hat⟩
   have hat':g.a=0∧g.t=0:=by simpa using hat
   have hs':g.z=0∧g.x=0∧g.y=0∧g.P=[]∧g.N=[]:=by rcases hs with h | h;exact absurd h (by omega);exact h
   have hh':g.E=[]∧g.R=[]:=by rcases hh with h | h;exact absurd h (by omega);exact h
   refine ⟨⟨⟨⟨⟨⟨trivial,trivial⟩,⟨trivial,trivial⟩⟩,hat'.1⟩,hat'.2⟩,(noS_iff g).2 hs'⟩,?_⟩;rw [hh'.1,hh'.2];exact sameH_self [] []
 rw [if_neg h1];by_cases h2:g.k=2
 ·rw [if_pos h2,gau_tail]
  simp only [sameA,agG,sumZ,h2,Bool.and_eq_true,Bool.or_eq_true,beq_iff_eq,decide_eq_true_eq,noH_iff,noS_iff];constructor
  ·rintro ⟨htl,⟨⟨⟨⟨⟨_,_⟩,hsm⟩,_⟩,_⟩,hs⟩,hh⟩
   have hs':noS g=true:=hs;have:=(noS_iff g).1 hs';have hh':g.E=[]∧g.R=[]:=by simpa [sameH] using hh
   refine ⟨⟨⟨⟨⟨⟨by omega,?_⟩,?_⟩,.inr hsm⟩,.inr this⟩,.inr hh'⟩,?_⟩
   ·rw [this.2.2.2.1,this.2.2.2.2];exact skB_nil
   ·rw [hh'.1,hh'.2];exact hlB_nil
   ·simpa using htl
  ·rintro ⟨⟨⟨⟨⟨⟨_,_⟩,_⟩,hsm⟩,hs⟩,hh⟩,htl⟩
   have htl':tail2 g=true:=by simpa using htl
   have hsm':g.h=0∧g.l=0:=by rcases hsm with h | h;exact absurd h (by omega);exact h
   have hs':g.z=0∧g.x=0∧g.y=0∧g.P=[]∧g.N=[]:=by rcases hs with h | h;exact absurd h (by omega);exact h
   have hh':g.E=[]∧g.R=[]:=by rcases hh with h | h;exact absurd h (by omega);exact h
   refine ⟨htl',⟨⟨⟨⟨⟨trivial,trivial⟩,hsm'⟩,trivial⟩,trivial⟩,(noS_iff g).2 hs'⟩,?_⟩;rw [hh'.1,hh'.2];exact sameH_self [] []
 rw [if_neg h2];by_cases h3:g.k=3
 ·rw [if_pos h3]
  simp only [sameA,agH,sumZ,h3,Bool.and_eq_true,Bool.or_eq_true,beq_iff_eq,decide_eq_true_eq,noH_iff,noS_iff];constructor
  ·rintro ⟨hsk,⟨⟨⟨⟨⟨_,_⟩,hsm⟩,ha⟩,ht⟩,_⟩,hh⟩
   have hh':g.E=[]∧g.R=[]:=by simpa [sameH] using hh
   refine ⟨⟨⟨⟨⟨⟨by omega,hsk⟩,?_⟩,.inr hsm⟩,.inl trivial⟩,.inr hh'⟩,?_⟩
   ·rw [hh'.1,hh'.2];exact hlB_nil
   ·simp [ha,ht]
  ·rintro ⟨⟨⟨⟨⟨⟨_,hsk⟩,_⟩,hsm⟩,_⟩,hh⟩,hat⟩
   have hat':g.a=0∧g.t=0:=by simpa using hat
   have hsm':g.h=0∧g.l=0:=by rcases hsm with h | h;exact absurd h (by omega);exact h
   have hh':g.E=[]∧g.R=[]:=by rcases hh with h | h;exact absurd h (by omega);exact h
   refine ⟨hsk,⟨⟨⟨⟨⟨trivial,trivial⟩,hsm'⟩,hat'.1⟩,hat'.2⟩,sameS_self _ _ _ _ _⟩,?_⟩;rw [hh'.1,hh'.2];exact sameH_self [] []
 rw [if_neg h3];by_cases h4:g.k=4
 ·rw [if_pos h4]
  simp only [sameA,agS,sumZ,h4,Bool.and_eq_true,Bool.or_eq_true,beq_iff_eq,decide_eq_true_eq,noH_iff,noS_iff];constructor
  ·rintro ⟨hhl,⟨⟨⟨⟨⟨_,_⟩,hsm⟩,ha⟩,ht⟩,hs⟩,_⟩
   have hs':noS g=true:=hs;have:=(noS_iff g).1 hs';refine ⟨⟨⟨⟨⟨⟨by omega,?_⟩,hhl⟩,.inr hsm⟩,.inr this⟩,.inl trivial⟩,?_⟩
   ·rw [this.2.2.2.1,this.2.2.2.2];exact skB_nil
   ·simp [ha,ht]
  ·rintro ⟨⟨⟨⟨⟨⟨_,_⟩,hhl⟩,hsm⟩,hs⟩,_⟩,hat⟩
   have hat':g.a=0∧g.t=0:=by simpa using hat
   have hsm':g.h=0∧g.l=0:=by rcases hsm with h | h;exact absurd h (by omega);exact h
   have hs':g.z=0∧g.x=0∧g.y=0∧g.P=[]∧g.N=[]:=by rcases hs with h | h;exact absurd h (by omega);exact h
   exact ⟨hhl,⟨⟨⟨⟨⟨trivial,trivial⟩,hsm'⟩,hat'.1⟩,hat'.2⟩,(noS_iff g).2 hs'⟩,sameH_self _ _⟩
 rw [if_neg h4];simp only [Bool.and_eq_true,decide_eq_true_eq];constructor
 ·intro h;exact absurd h (by simp)
 ·rintro ⟨⟨⟨⟨⟨⟨⟨ha,hb⟩,_⟩,_⟩,_⟩,_⟩,_⟩,_⟩
  exfalso;omega
set_option maxHeartbeats 1000000 in
theorem c_hright {w:World} {g:Ag} {p:Pl} (ok:AgOk g) (sm:AgSm g) (hA:AgAt w g p) :
  Calls Tryz.prog 319 #[.agg #[.int .u64 g.z,.slice p.pa g.P.length p.pc,.slice p.na g.N.length p.nc,.int .i64 g.x,.int .u64 g.y]] w fun e w'=>e=.returned (.bool (skB g.P g.N))∧Below w.heap.size w w':=by
 have HB0:Hid (∀ o,Below w.heap.size w (w.alloc o)):=fun o=>(Below.refl _ _).alloc (Nat.le_refl _) o;have HA:=hide hA;have OK:=hide ok;have SM:=hide sm;clear ok sm hA;go_enter Tryz.func319,Tryz.ntmps319;go_wp2_with fail;refine (c_i_SketchRight rfl rfl SM.out.P SM.out.N (bins_past HA.out.P (HB0.out _)) (bins_past HA.out.N (HB0.out _)) OK.out.P OK.out.N).mono ?_;rintro e w1 ⟨rfl,hb1⟩;have HT1:=hide (chain (HB0.out _) hb1);clear hb1;go_wp2;go_ret;exact ⟨rfl,HT1.out⟩
set_option maxHeartbeats 1000000 in
theorem c_sright {w:World} {g:Ag} {p:Pl} (sm:AgSm g) (hA:AgAt w g p) :
  Calls Tryz.prog 325 #[.agg #[.slice p.ea g.E.length p.ec,.slice p.ra g.R.length p.rc]] w fun e w'=>e=.returned (.bool (hlB g.E g.R))∧Below w.heap.size w w':=by
 have HB0:Hid (∀ o,Below w.heap.size w (w.alloc o)):=fun o=>(Below.refl _ _).alloc (Nat.le_refl _) o;have HA:=hide hA;have SM:=hide sm;clear sm hA;go_enter Tryz.func325,Tryz.ntmps325;go_wp2_with fail;refine (c_i_HllRight rfl rfl SM.out.E SM.out.R (nums_past HA.out.E (HB0.out _)) (nums_past HA.out.R (HB0.out _))).mono ?_;rintro e w1 ⟨rfl,hb1⟩;have HT1:=hide (chain (HB0.out _) hb1);clear hb1;go_wp2;go_ret;exact ⟨rfl,HT1.out⟩
theorem nil_bins (w:World) (ao:Option Addr):BinsAt w ao []:=fun h=>absurd h (Nat.lt_irrefl 0)
theorem nil_nums (kd:IntKind) (w:World) (ao:Option Addr):NumsAt kd w ao []:=fun h=>absurd h (Nat.lt_irrefl 0)
set_option maxHeartbeats 8000000 in
theorem c_i_AggRight {w:World} {g:Ag} {p:Pl} (ok:AgOk g) (sm:AgSm g) (hA:AgAt w g p) :
  Calls Tryz.prog 178 #[.agg (agArr g p)] w fun e w'=>e=.returned (.bool (agI g))∧Below w.heap.size w w':=by
 have HA:=hide hA;have OK:=hide ok;have SM:=hide sm;have HB0:Hid (∀ o,Below w.heap.size w (w.alloc o)):=fun o=>(Below.refl _ _).alloc (Nat.le_refl _) o;clear ok sm hA;by_cases h1:g.k=1
 ·have HE0:Hid (agI g=(true && sameA g (agC g))):=by unfold agI;rw [if_pos h1];exact (Bool.true_and _).symm
  have HP:=hide (c_partOfC (g:=g) (p:=p) (h:=h1));clear h1;go_enter Tryz.func178,Tryz.ntmps178;go_wp2_with fail;refine (HP.out _).mono ?_;rintro e w1 ⟨rfl,hb1⟩;have HT1:=hide (chain (HB0.out _) hb1);have K1:=agc_past (agc_new w 67 g p) hb1;clear hb1;go_wp2_with fail;refine (c_cright _ _ _).mono ?_;rintro e w2 ⟨rfl,hb2⟩;have HT2:=hide (chain HT1.out hb2);have K2:=agc_past K1 hb2;clear hb2 K1;have HE:Hid (sameA g (agC g)=agI g):=by have:=HE0.out;rw [Bool.true_and] at this;exact this.symm
  have HK2:Hid (∀ W,Below w2.heap.size w2 W→AgCell W w.heap.size g p):=fun W hW=>agc_past K2 hW
  have HX:Hid (∀ W,Below w2.heap.size w2 W→AgAt W (agC g) ⟨none,0,none,0,none,0,none,0⟩):=fun W hW=>by
   have h:=ag_past HA.out (chain HT2.out hW);exact ⟨nil_bins _ _,nil_bins _ _,nil_nums _ _ _,nil_nums _ _ _⟩
  have SX:Hid (AgSm (agC g)):=⟨by simp [agC],by simp [agC],by simp [agC],by simp [agC]⟩;clear K2;go_wp2_with fail
  go_region_held3 (fun W=>Kept w2.heap.size w2 W∧AgCell W w.heap.size g p)
   (first | exact hS3 | exact ⟨held (Below.refl _ _).drew (by simp),HK2.out _ (Below.refl _ _).drew⟩)
   (first
    | (go_at_call 208;have hS:=(‹Kept _ _ _∧_›).1;refine (c_aggWithC g p _).mono ?_;rintro e w3 ⟨rfl,hb3⟩;have hS1:=(held_call hb3 hS).1;have hS3:Kept w2.heap.size w2 w3∧_:=⟨held hS1 (Nat.le_refl _),HK2.out _ hS1⟩;clear hb3 hS1)
    | (go_at_call 207;have hS:=(‹Kept _ _ _∧_›).1;refine (c_i_AggSame (g:=g) (p:=p) (g':=agC g) (p':=⟨none,0,none,0,none,0,none,0⟩) SM.out SX.out (ag_past HA.out (chain HT2.out hS.1)) (HX.out _ hS.1)).mono ?_;rintro e w4 ⟨rfl,hb4⟩;have hS1:=(held_call hb4 hS).1;have hS3:Kept w2.heap.size w2 w4∧_:=⟨held hS1 (Nat.le_refl _),HK2.out _ hS1⟩;clear hb4 hS1))
  have HT4:=hide (chain HT2.out hS3.1.1);clear hS3;go_wp2;go_ret;exact ⟨ret_bs HE.out,HT4.out⟩
 by_cases h2:g.k=2
 ·have HE0:Hid (agI g=(gauB g.a g.t && sameA g (agG g))):=by unfold agI;rw [if_neg h1];rw [if_pos h2];rfl
  have HP:=hide (c_partOfG (g:=g) (p:=p) (h:=h2));clear h1 h2;go_enter Tryz.func178,Tryz.ntmps178;go_wp2_with fail;refine (HP.out _).mono ?_;rintro e w1 ⟨rfl,hb1⟩;have HT1:=hide (chain (HB0.out _) hb1);have K1:=agc_past (agc_new w 67 g p) hb1;clear hb1;go_wp2_with fail;refine (c_gright _ _ _).mono ?_;rintro e w2 ⟨rfl,hb2⟩;have HT2:=hide (chain HT1.out hb2);have K2:=agc_past K1 hb2;clear hb2 K1
  cases hv:gauB g.a g.t with
  | false=>
   have HE:Hid (false=agI g):=by have:=HE0.out;rw [hv,Bool.false_and] at this;exact this.symm
   go_wp2;go_ret;exact ⟨ret_bs HE.out,HT2.out⟩
  | true=>
   have HE:Hid (sameA g (agG g)=agI g):=by have:=HE0.out;rw [hv,Bool.true_and] at this;exact this.symm
   have HK2:Hid (∀ W,Below w2.heap.size w2 W→AgCell W w.heap.size g p):=fun W hW=>agc_past K2 hW
   have HX:Hid (∀ W,Below w2.heap.size w2 W→AgAt W (agG g) ⟨none,0,none,0,none,0,none,0⟩):=fun W hW=>by
    have h:=ag_past HA.out (chain HT2.out hW);exact ⟨nil_bins _ _,nil_bins _ _,nil_nums _ _ _,nil_nums _ _ _⟩
   have SX:Hid (AgSm (agG g)):=⟨by simp [agG],by simp [agG],by simp [agG],by simp [agG]⟩;clear K2;go_wp2_with fail
   go_region_held3 (fun W=>Kept w2.heap.size w2 W∧AgCell W w.heap.size g p)
    (first | exact hS3 | exact ⟨held (Below.refl _ _).drew (by simp),HK2.out _ (Below.refl _ _).drew⟩)
    (first
     | (go_at_call 208;have hS:=(‹Kept _ _ _∧_›).1;refine (c_aggWithG g p _).mono ?_;rintro e w3 ⟨rfl,hb3⟩;have hS1:=(held_call hb3 hS).1;have hS3:Kept w2.heap.size w2 w3∧_:=⟨held hS1 (Nat.le_refl _),HK2.out _ hS1⟩;clear hb3 hS1)
     | (go_at_call 207;have hS:=(‹Kept _ _ _∧_›).1;refine (c_i_AggSame (g:=g) (p:=p) (g':=agG g) (p':=⟨none,0,none,0,none,0,none,0⟩) SM.out SX.out (ag_past HA.out (chain HT2.out hS.1)) (HX.out _ hS.1)).mono ?_;rintro e w4 ⟨rfl,hb4⟩;have hS1:=(held_call hb4 hS).1;have hS3:Kept w2.heap.size w2 w4∧_:=⟨held hS1 (Nat.le_refl _),HK2.out _ hS1⟩;clear hb4 hS1))
   have HT4:=hide (chain HT2.out hS3.1.1);clear hS3;go_wp2;go_ret;exact ⟨ret_bs HE.out,HT4.out⟩
 by_cases h3:g.k=3
 ·have HE0:Hid (agI g=(skB g.P g.N && sameA g (agH g))):=by unfold agI;rw [if_neg h1];rw [if_neg h2];rw [if_pos h3];rfl
  have HP:=hide (c_partOfH (g:=g) (p:=p) (h:=h3));clear h1 h2 h3;go_enter Tryz.func178,Tryz.ntmps178;go_wp2_with fail;refine (HP.out _).mono ?_;rintro e w1 ⟨rfl,hb1⟩;have HT1:=hide (chain (HB0.out _) hb1);have K1:=agc_past (agc_new w 67 g p) hb1;clear hb1;go_wp2_with fail;refine (c_hright OK.out SM.out (ag_past HA.out HT1.out)).mono ?_;rintro e w2 ⟨rfl,hb2⟩;have HT2:=hide (chain HT1.out hb2);have K2:=agc_past K1 hb2;clear hb2 K1
  cases hv:skB g.P g.N with
  | false=>
   have HE:Hid (false=agI g):=by have:=HE0.out;rw [hv,Bool.false_and] at this;exact this.symm
   go_wp2;go_ret;exact ⟨ret_bs HE.out,HT2.out⟩
  | true=>
   have HE:Hid (sameA g (agH g)=agI g):=by have:=HE0.out;rw [hv,Bool.true_and] at this;exact this.symm
   have HK2:Hid (∀ W,Below w2.heap.size w2 W→AgCell W w.heap.size g p):=fun W hW=>agc_past K2 hW
   have HX:Hid (∀ W,Below w2.heap.size w2 W→AgAt W (agH g) ⟨p.pa,p.pc,p.na,p.nc,none,0,none,0⟩):=fun W hW=>by
    have h:=ag_past HA.out (chain HT2.out hW);exact ⟨h.P,h.N,nil_nums _ _ _,nil_nums _ _ _⟩
   have SX:Hid (AgSm (agH g)):=⟨SM.out.P,SM.out.N,by simp [agH],by simp [agH]⟩;clear K2;go_wp2_with fail
   go_region_held3 (fun W=>Kept w2.heap.size w2 W∧AgCell W w.heap.size g p)
    (first | exact hS3 | exact ⟨held (Below.refl _ _).drew (by simp),HK2.out _ (Below.refl _ _).drew⟩)
    (first
     | (go_at_call 208;have hS:=(‹Kept _ _ _∧_›).1;refine (c_aggWithH g p _).mono ?_;rintro e w3 ⟨rfl,hb3⟩;have hS1:=(held_call hb3 hS).1;have hS3:Kept w2.heap.size w2 w3∧_:=⟨held hS1 (Nat.le_refl _),HK2.out _ hS1⟩;clear hb3 hS1)
     | (go_at_call 207;have hS:=(‹Kept _ _ _∧_›).1;refine (c_i_AggSame (g:=g) (p:=p) (g':=agH g) (p':=⟨p.pa,p.pc,p.na,p.nc,none,0,none,0⟩) SM.out SX.out (ag_past HA.out (chain HT2.out hS.1)) (HX.out _ hS.1)).mono ?_;rintro e w4 ⟨rfl,hb4⟩;have hS1:=(held_call hb4 hS).1;have hS3:Kept w2.heap.size w2 w4∧_:=⟨held hS1 (Nat.le_refl _),HK2.out _ hS1⟩;clear hb4 hS1))
   have HT4:=hide (chain HT2.out hS3.1.1);clear hS3;go_wp2;go_ret;exact ⟨ret_bs HE.out,HT4.out⟩
 by_cases h4:g.k=4
 ·have HE0:Hid (agI g=(hlB g.E g.R && sameA g (agS g))):=by unfold agI;rw [if_neg h1];rw [if_neg h2];rw [if_neg h3];rw [if_pos h4];rfl
  have HP:=hide (c_partOfS (g:=g) (p:=p) (h:=h4));clear h1 h2 h3 h4;go_enter Tryz.func178,Tryz.ntmps178;go_wp2_with fail;refine (HP.out _).mono ?_;rintro e w1 ⟨rfl,hb1⟩;have HT1:=hide (chain (HB0.out _) hb1);have K1:=agc_past (agc_new w 67 g p) hb1;clear hb1;go_wp2_with fail;refine (c_sright SM.out (ag_past HA.out HT1.out)).mono ?_;rintro e w2 ⟨rfl,hb2⟩;have HT2:=hide (chain HT1.out hb2);have K2:=agc_past K1 hb2;clear hb2 K1
  cases hv:hlB g.E g.R with
  | false=>
   have HE:Hid (false=agI g):=by have:=HE0.out;rw [hv,Bool.false_and] at this;exact this.symm
   go_wp2;go_ret;exact ⟨ret_bs HE.out,HT2.out⟩
  | true=>
   have HE:Hid (sameA g (agS g)=agI g):=by have:=HE0.out;rw [hv,Bool.true_and] at this;exact this.symm
   have HK2:Hid (∀ W,Below w2.heap.size w2 W→AgCell W w.heap.size g p):=fun W hW=>agc_past K2 hW
   have HX:Hid (∀ W,Below w2.heap.size w2 W→AgAt W (agS g) ⟨none,0,none,0,p.ea,p.ec,p.ra,p.rc⟩):=fun W hW=>by
    have h:=ag_past HA.out (chain HT2.out hW);exact ⟨nil_bins _ _,nil_bins _ _,h.E,h.R⟩
   have SX:Hid (AgSm (agS g)):=⟨by simp [agS],by simp [agS],SM.out.E,SM.out.R⟩;clear K2;go_wp2_with fail
   go_region_held3 (fun W=>Kept w2.heap.size w2 W∧AgCell W w.heap.size g p)
    (first | exact hS3 | exact ⟨held (Below.refl _ _).drew (by simp),HK2.out _ (Below.refl _ _).drew⟩)
    (first
     | (go_at_call 208;have hS:=(‹Kept _ _ _∧_›).1;refine (c_aggWithS g p _).mono ?_;rintro e w3 ⟨rfl,hb3⟩;have hS1:=(held_call hb3 hS).1;have hS3:Kept w2.heap.size w2 w3∧_:=⟨held hS1 (Nat.le_refl _),HK2.out _ hS1⟩;clear hb3 hS1)
     | (go_at_call 207;have hS:=(‹Kept _ _ _∧_›).1;refine (c_i_AggSame (g:=g) (p:=p) (g':=agS g) (p':=⟨none,0,none,0,p.ea,p.ec,p.ra,p.rc⟩) SM.out SX.out (ag_past HA.out (chain HT2.out hS.1)) (HX.out _ hS.1)).mono ?_;rintro e w4 ⟨rfl,hb4⟩;have hS1:=(held_call hb4 hS).1;have hS3:Kept w2.heap.size w2 w4∧_:=⟨held hS1 (Nat.le_refl _),HK2.out _ hS1⟩;clear hb4 hS1))
   have HT4:=hide (chain HT2.out hS3.1.1);clear hS3;go_wp2;go_ret;exact ⟨ret_bs HE.out,HT4.out⟩
 have HE:Hid (false=agI g):=by unfold agI;rw [if_neg h1,if_neg h2,if_neg h3,if_neg h4];rfl
 have HP:=hide (c_partOf0 (g:=g) (p:=p) (h1:=h1) (h2:=h2) (h3:=h3) (h4:=h4));clear h1 h2 h3 h4;go_enter Tryz.func178,Tryz.ntmps178;go_wp2_with fail;refine (HP.out _).mono ?_;rintro e w1 ⟨rfl,hb1⟩;have HT1:=hide (chain (HB0.out _) hb1);clear hb1;go_wp2;go_ret;exact ⟨ret_bs HE.out,HT1.out⟩
set_option maxHeartbeats 1000000 in
theorem c_noSketch {w:World} {g:Ag} {p:Pl} (sm:AgSm g) (hA:AgAt w g p) :
  Calls Tryz.prog 136 #[.agg #[.int .u64 g.z,.slice p.pa g.P.length p.pc,.slice p.na g.N.length p.nc,.int .i64 g.x,.int .u64 g.y]] w fun e w'=>e=.returned (.bool (noS g))∧Below w.heap.size w w':=by
 have HB0:Hid (∀ o,Below w.heap.size w (w.alloc o)):=fun o=>(Below.refl _ _).alloc (Nat.le_refl _) o;have HA:=hide hA;have SM:=hide sm;clear sm hA;go_enter Tryz.func136,Tryz.ntmps136;go_wp2_with fail;refine (c_s_SketchSame (P':=[]) (N':=[]) rfl rfl rfl rfl SM.out.P SM.out.N (by simp) (by simp) (bins_past HA.out.P (HB0.out _)) (bins_past HA.out.N (HB0.out _)) (nil_bins _ _) (nil_bins _ _)).mono ?_;rintro e w1 ⟨rfl,hb1⟩;have HT1:=hide (chain (HB0.out _) hb1);clear hb1;go_wp2;go_ret;exact ⟨rfl,HT1.out⟩
set_option maxHeartbeats 1000000 in
theorem c_noHll {w:World} {g:Ag} {p:Pl} (sm:AgSm g) :
  Calls Tryz.prog 137 #[.agg #[.slice p.ea g.E.length p.ec,.slice p.ra g.R.length p.rc]] w fun e w'=>e=.returned (.bool (noH g))∧Below w.heap.size w w':=by
 obtain ⟨_,_,gE,gR⟩:=sm;have HN:Hid (noH g=(decide (g.E.length=0) && decide (g.R.length=0))):=(rfl:noH g=(decide (g.E.length=0) && decide (g.R.length=0)));generalize g.E.length=n at gE HN ⊢;generalize g.R.length=m at gR HN ⊢;by_cases h1:n=0
 ·subst h1
  by_cases h2:m=0
  ·subst h2
   go_enter Tryz.func137,Tryz.ntmps137;go_wp2;go_ret;exact ⟨by rw [HN.out];rfl,(Below.refl _ _).alloc (Nat.le_refl _) _⟩
  ·have b2:((m:Int) == 0)=false:=beq_eq_false_iff_ne.2 (by omega)
   go_enter Tryz.func137,Tryz.ntmps137;go_wp2;go_ret;exact ⟨by rw [HN.out];simp [h2],(Below.refl _ _).alloc (Nat.le_refl _) _⟩
 ·have b1:((n:Int) == 0)=false:=beq_eq_false_iff_ne.2 (by omega)
  go_enter Tryz.func137,Tryz.ntmps137;go_wp2;go_ret;exact ⟨by rw [HN.out];simp [h1],(Below.refl _ _).alloc (Nat.le_refl _) _⟩
set_option maxHeartbeats 8000000 in
theorem c_s_AggRight {w:World} {g:Ag} {p:Pl} (ok:AgOk g) (sm:AgSm g) (hA:AgAt w g p) :
  Calls Tryz.prog 103 #[.agg (agArr g p)] w fun e w'=>e=.returned (.bool (agB g))∧Below w.heap.size w w':=by
 have HA:=hide hA;have OK:=hide ok;have SM:=hide sm;have HB0:Hid (∀ o,Below w.heap.size w (w.alloc o)):=fun o=>(Below.refl _ _).alloc (Nat.le_refl _) o;clear ok sm hA;by_cases h14:1≤g.k∧g.k≤4
 rotate_left
 ·have hb:(decide (1≤g.k) && decide (g.k≤4))=false:=by rw [Bool.eq_false_iff];intro hh;simp at hh;exact h14 hh
  have HE:Hid (false=agB g):=(by unfold agB;rw [hb];simp only [Bool.false_and]:false=agB g);clear h14;go_enter Tryz.func103,Tryz.ntmps103;go_wp2_with fail;refine (c_l01IsR _ _ _ _).mono ?_;rintro e w1 ⟨rfl,hw⟩;subst hw;rw [hb];go_wp2;go_ret;exact ⟨ret_bs HE.out,HB0.out _⟩
 have hb:(decide (1≤g.k) && decide (g.k≤4))=true:=by simp [h14.1,h14.2]
 have hk4:g.k=1∨g.k=2∨g.k=3∨g.k=4:=by omega
 have HK4:=hide hk4;have HE0:Hid (agB g=(skB g.P g.N && hlB g.E g.R && ((g.k == 1) || sumZ g) && ((g.k == 3) || noS g) && ((g.k == 4) || noH g) && (if g.k=2 then tail2 g else (g.a == 0) && (g.t == 0)))):=(by unfold agB;rw [hb,Bool.true_and]:_=_)
 clear h14 hk4;go_enter Tryz.func103,Tryz.ntmps103;go_wp2_with fail;refine (c_l01IsR _ _ _ _).mono ?_;rintro e w1 ⟨rfl,hw⟩;subst hw;rw [hb];go_wp2_with fail;refine (c_s_SketchRight rfl rfl SM.out.P SM.out.N (bins_past HA.out.P (HB0.out _)) (bins_past HA.out.N (HB0.out _)) OK.out.P OK.out.N).mono ?_;rintro e w2 ⟨rfl,hb2⟩;have HT2:=hide (chain (HB0.out _) hb2);have K2:=agc_past (agc_new w 67 g p) hb2;clear hb2;by_cases hsk:skB g.P g.N=true
 rotate_left
 ·replace hsk:skB g.P g.N=false:=by simpa using hsk
  rw [hsk];have HE:Hid (false=agB g):=by have:=HE0.out;rw [hsk] at this;simp only [Bool.false_and] at this;exact this.symm
  go_wp2;go_ret;exact ⟨ret_bs HE.out,HT2.out⟩
 rw [hsk];go_wp2_with fail;refine (c_s_HllRight rfl rfl SM.out.E SM.out.R (nums_past HA.out.E HT2.out) (nums_past HA.out.R HT2.out) OK.out.R).mono ?_;rintro e w3 ⟨rfl,hb3⟩;have HT3:=hide (chain HT2.out hb3);have K3:=agc_past K2 hb3;clear hb3 K2;by_cases hhl:hlB g.E g.R=true
 rotate_left
 ·replace hhl:hlB g.E g.R=false:=by simpa using hhl
  rw [hhl];have HE:Hid (false=agB g):=by have:=HE0.out;rw [hsk,hhl] at this;simp only [Bool.false_and,Bool.and_false] at this;exact this.symm
  go_wp2;go_ret;exact ⟨ret_bs HE.out,HT3.out⟩
 rw [hhl];have HE1:Hid (agB g=(((g.k == 1) || sumZ g) && ((g.k == 3) || noS g) && ((g.k == 4) || noH g) && (if g.k=2 then tail2 g else (g.a == 0) && (g.t == 0)))):=by have:=HE0.out;rw [hsk,hhl] at this;simp only [Bool.true_and] at this;exact this
 clear HE0 hsk hhl hb;rcases HK4.out with hk | hk | hk | hk
 ·have b1:(g.k == 1)=true:=by simp [hk]
  have b2:(g.k == 2)=false:=beq_eq_false_iff_ne.2 (by omega);have b3:(g.k == 3)=false:=beq_eq_false_iff_ne.2 (by omega);have b4:(g.k == 4)=false:=beq_eq_false_iff_ne.2 (by omega);have n1:(g.k != 1)=false:=by show (!(g.k == 1))=_;rw [b1];rfl
  have n2:(g.k != 2)=true:=by show (!(g.k == 2))=_;rw [b2];rfl
  have n3:(g.k != 3)=true:=by show (!(g.k == 3))=_;rw [b3];rfl
  have n4:(g.k != 4)=true:=by show (!(g.k == 4))=_;rw [b4];rfl
  have z2:¬ g.k=2:=by omega
  have z3:¬ g.k=3:=by omega
  have z4:¬ g.k=4:=by omega
  have hif:(if g.k=2 then tail2 g else (g.a == 0) && (g.t == 0))=((g.a == 0) && (g.t == 0)):=if_neg (by omega)
  have HIF:=hide hif;clear hk hif;go_wp2_with fail;refine (c_noSketch SM.out (ag_past HA.out HT3.out)).mono ?_;rintro e w4 ⟨rfl,hb4⟩;have HT4:=hide (chain HT3.out hb4);have K4:=agc_past K3 hb4;clear hb4;by_cases hns:noS g=true
  rotate_left
  ·replace hns:noS g=false:=by simpa using hns
   rw [hns];have HE:Hid (false=agB g):=by have:=HE1.out;simp only [b1,b3,b4,hns,Bool.true_or,Bool.false_or,Bool.or_true,Bool.or_false,Bool.true_and,Bool.and_true,Bool.false_and,Bool.and_false] at this;exact this.symm
   go_wp2;go_ret;exact ⟨ret_bs HE.out,HT4.out⟩
  rw [hns];have HNS:=hide hns;clear hns;go_wp2_with fail;refine (c_noHll (p:=p) SM.out).mono ?_;rintro e w5 ⟨rfl,hb5⟩;have HT5:=hide (chain HT4.out hb5);have K5:=agc_past K4 hb5;clear hb5;by_cases hnh:noH g=true
  rotate_left
  ·replace hnh:noH g=false:=by simpa using hnh
   rw [hnh];have HE:Hid (false=agB g):=by have:=HE1.out;simp only [b1,b3,b4,HNS.out,hnh,Bool.true_or,Bool.false_or,Bool.or_true,Bool.or_false,Bool.true_and,Bool.and_true,Bool.false_and,Bool.and_false] at this;exact this.symm
   go_wp2;go_ret;exact ⟨ret_bs HE.out,HT5.out⟩
  rw [hnh];have HNH:=hide hnh;clear hnh;have HE2:=HE1.out;rw [HIF.out] at HE2;simp only [b1,b3,b4,HNS.out,HNH.out,Bool.true_or,Bool.false_or,Bool.or_true,Bool.or_false,Bool.true_and,Bool.and_true] at HE2;have HE3:=hide HE2;clear HE2 HE1;by_cases qa:g.a=0
  ·have ba:(g.a == 0)=true:=by simp [qa]
   by_cases qt:g.t=0
   ·have bt:(g.t == 0)=true:=by simp [qt]
    have HE:Hid (true=agB g):=by have:=HE3.out;rw [ba,bt] at this;exact this.symm
    clear qa qt;go_wp2;go_ret;exact ⟨ret_bs HE.out,HT5.out⟩
   ·have bt:(g.t == 0)=false:=beq_eq_false_iff_ne.2 qt
    have HE:Hid (false=agB g):=by have:=HE3.out;rw [ba,bt] at this;exact this.symm
    clear qa qt;go_wp2;go_ret;exact ⟨ret_bs HE.out,HT5.out⟩
  ·have ba:(g.a == 0)=false:=beq_eq_false_iff_ne.2 qa
   have HE:Hid (false=agB g):=by have:=HE3.out;rw [ba,Bool.false_and] at this;exact this.symm
   clear qa;go_wp2;go_ret;exact ⟨ret_bs HE.out,HT5.out⟩
 ·have b2:(g.k == 2)=true:=by simp [hk]
  have b1:(g.k == 1)=false:=beq_eq_false_iff_ne.2 (by omega);have b3:(g.k == 3)=false:=beq_eq_false_iff_ne.2 (by omega);have b4:(g.k == 4)=false:=beq_eq_false_iff_ne.2 (by omega);have n1:(g.k != 1)=true:=by show (!(g.k == 1))=_;rw [b1];rfl
  have n2:(g.k != 2)=false:=by show (!(g.k == 2))=_;rw [b2];rfl
  have n3:(g.k != 3)=true:=by show (!(g.k == 3))=_;rw [b3];rfl
  have n4:(g.k != 4)=true:=by show (!(g.k == 4))=_;rw [b4];rfl
  have z1:¬ g.k=1:=by omega
  have z3:¬ g.k=3:=by omega
  have z4:¬ g.k=4:=by omega
  have HT2:=hide hk;have hif:(if g.k=2 then tail2 g else (g.a == 0) && (g.t == 0))=tail2 g:=if_pos hk
  have HIF:=hide hif;clear hk hif;have HSZ:Hid (sumZ g=(g.h == 0 && g.l == 0)):=(rfl:sumZ g=(g.h == 0 && g.l == 0));have hq:=neq_wideA g.h g.l 0 0;by_cases hsz:(g.h == 0 && g.l == 0)=true
  rotate_left
  ·replace hsz:(g.h == 0 && g.l == 0)=false:=by simpa using hsz
   rw [hsz] at hq;have hsz2:sumZ g=false:=HSZ.out.trans hsz;have HE:Hid (false=agB g):=by have:=HE1.out;simp only [b1,b3,b4,hsz2,Bool.true_or,Bool.false_or,Bool.or_true,Bool.or_false,Bool.true_and,Bool.and_true,Bool.false_and,Bool.and_false] at this;exact this.symm
   go_wp2;go_ret;exact ⟨ret_bs HE.out,HT3.out⟩
  rw [hsz] at hq;have HS2:=hide (HSZ.out.trans hsz);clear hsz;go_wp2_with fail;refine (c_noSketch SM.out (ag_past HA.out HT3.out)).mono ?_;rintro e w4 ⟨rfl,hb4⟩;have HT4:=hide (chain HT3.out hb4);have K4:=agc_past K3 hb4;clear hb4;by_cases hns:noS g=true
  rotate_left
  ·replace hns:noS g=false:=by simpa using hns
   rw [hns];have HE:Hid (false=agB g):=by have:=HE1.out;simp only [b1,b3,b4,HS2.out,hns,Bool.true_or,Bool.false_or,Bool.or_true,Bool.or_false,Bool.true_and,Bool.and_true,Bool.false_and,Bool.and_false] at this;exact this.symm
   go_wp2;go_ret;exact ⟨ret_bs HE.out,HT4.out⟩
  rw [hns];have HNS:=hide hns;clear hns;go_wp2_with fail;refine (c_noHll (p:=p) SM.out).mono ?_;rintro e w5 ⟨rfl,hb5⟩;have HT5:=hide (chain HT4.out hb5);have K5:=agc_past K4 hb5;clear hb5;by_cases hnh:noH g=true
  rotate_left
  ·replace hnh:noH g=false:=by simpa using hnh
   rw [hnh];have HE:Hid (false=agB g):=by have:=HE1.out;simp only [b1,b3,b4,HS2.out,HNS.out,hnh,Bool.true_or,Bool.false_or,Bool.or_true,Bool.or_false,Bool.true_and,Bool.and_true,Bool.false_and,Bool.and_false] at this;exact this.symm
   go_wp2;go_ret;exact ⟨ret_bs HE.out,HT5.out⟩
  rw [hnh];have HNH:=hide hnh;clear hnh;have HE2:=HE1.out;rw [HIF.out] at HE2;simp only [b1,b3,b4,HS2.out,HNS.out,HNH.out,Bool.true_or,Bool.false_or,Bool.or_true,Bool.or_false,Bool.true_and,Bool.and_true] at HE2;have HE3:=hide HE2;clear HE2 HE1;have HTL:Hid (tail2 g=(valA g.a && (decide (-1≤g.t) && decide (g.t≤1000000000)) && (decide (0≤g.t) || (g.a == 0)))):=(rfl:_=_);go_wp2_with fail;refine (c_l01ValueR _ _).mono ?_;rintro e w6 ⟨rfl,hw⟩;subst hw;by_cases hv:valA g.a=true
  rotate_left
  ·replace hv:valA g.a=false:=by simpa using hv
   rw [hv];have HE:Hid (false=agB g):=by have:=HE3.out;rw [HTL.out,hv] at this;simp only [Bool.false_and] at this;exact this.symm
   go_wp2;go_ret;exact ⟨ret_bs HE.out,HT5.out⟩
  rw [hv];go_wp2_with fail;refine (c_l01IsR _ _ _ _).mono ?_;rintro e w7 ⟨rfl,hw⟩;subst hw;by_cases hi:(decide (-1≤g.t) && decide (g.t≤1000000000))=true
  rotate_left
  ·replace hi:(decide (-1≤g.t) && decide (g.t≤1000000000))=false:=by simpa using hi
   rw [hi];have HE:Hid (false=agB g):=by have:=HE3.out;rw [HTL.out,hv,hi] at this;simp only [Bool.false_and,Bool.and_false] at this;exact this.symm
   go_wp2;go_ret;exact ⟨ret_bs HE.out,HT5.out⟩
  rw [hi];by_cases q0:0≤g.t
  ·have d0:decide (0≤g.t)=true:=decide_eq_true q0
   have HE:Hid (true=agB g):=by have:=HE3.out;rw [HTL.out,hv,hi,d0] at this;simp only [Bool.true_or,Bool.and_true] at this;exact this.symm
   clear hi hv;go_wp2;go_ret;exact ⟨ret_bs HE.out,HT5.out⟩
  ·have d0:decide (0≤g.t)=false:=decide_eq_false q0
   by_cases qa:g.a=0
   ·have ba:(g.a == 0)=true:=by simp [qa]
    have HE:Hid (true=agB g):=by have:=HE3.out;rw [HTL.out,hv,hi,d0,ba] at this;simp only [Bool.false_or,Bool.and_true] at this;exact this.symm
    clear hi hv qa;go_wp2;go_ret;exact ⟨ret_bs HE.out,HT5.out⟩
   ·have ba:(g.a == 0)=false:=beq_eq_false_iff_ne.2 qa
    have HE:Hid (false=agB g):=by have:=HE3.out;rw [HTL.out,hv,hi,d0,ba] at this;simp only [Bool.false_or,Bool.and_false] at this;exact this.symm
    clear hi hv qa;go_wp2;go_ret;exact ⟨ret_bs HE.out,HT5.out⟩
 ·have b3:(g.k == 3)=true:=by simp [hk]
  have b1:(g.k == 1)=false:=beq_eq_false_iff_ne.2 (by omega);have b2:(g.k == 2)=false:=beq_eq_false_iff_ne.2 (by omega);have b4:(g.k == 4)=false:=beq_eq_false_iff_ne.2 (by omega);have n1:(g.k != 1)=true:=by show (!(g.k == 1))=_;rw [b1];rfl
  have n2:(g.k != 2)=true:=by show (!(g.k == 2))=_;rw [b2];rfl
  have n3:(g.k != 3)=false:=by show (!(g.k == 3))=_;rw [b3];rfl
  have n4:(g.k != 4)=true:=by show (!(g.k == 4))=_;rw [b4];rfl
  have z1:¬ g.k=1:=by omega
  have z2:¬ g.k=2:=by omega
  have z4:¬ g.k=4:=by omega
  have hif:(if g.k=2 then tail2 g else (g.a == 0) && (g.t == 0))=((g.a == 0) && (g.t == 0)):=if_neg (by omega)
  have HIF:=hide hif;clear hk hif;have HSZ:Hid (sumZ g=(g.h == 0 && g.l == 0)):=(rfl:sumZ g=(g.h == 0 && g.l == 0));have hq:=neq_wideA g.h g.l 0 0;by_cases hsz:(g.h == 0 && g.l == 0)=true
  rotate_left
  ·replace hsz:(g.h == 0 && g.l == 0)=false:=by simpa using hsz
   rw [hsz] at hq;have hsz2:sumZ g=false:=HSZ.out.trans hsz;have HE:Hid (false=agB g):=by have:=HE1.out;simp only [b1,b3,b4,hsz2,Bool.true_or,Bool.false_or,Bool.or_true,Bool.or_false,Bool.true_and,Bool.and_true,Bool.false_and,Bool.and_false] at this;exact this.symm
   go_wp2;go_ret;exact ⟨ret_bs HE.out,HT3.out⟩
  rw [hsz] at hq;have HS2:=hide (HSZ.out.trans hsz);clear hsz;go_wp2_with fail;refine (c_noHll (p:=p) SM.out).mono ?_;rintro e w5 ⟨rfl,hb5⟩;have HT5:=hide (chain HT3.out hb5);have K5:=agc_past K3 hb5;clear hb5;by_cases hnh:noH g=true
  rotate_left
  ·replace hnh:noH g=false:=by simpa using hnh
   rw [hnh];have HE:Hid (false=agB g):=by have:=HE1.out;simp only [b1,b3,b4,HS2.out,hnh,Bool.true_or,Bool.false_or,Bool.or_true,Bool.or_false,Bool.true_and,Bool.and_true,Bool.false_and,Bool.and_false] at this;exact this.symm
   go_wp2;go_ret;exact ⟨ret_bs HE.out,HT5.out⟩
  rw [hnh];have HNH:=hide hnh;clear hnh;have HE2:=HE1.out;rw [HIF.out] at HE2;simp only [b1,b3,b4,HS2.out,HNH.out,Bool.true_or,Bool.false_or,Bool.or_true,Bool.or_false,Bool.true_and,Bool.and_true] at HE2;have HE3:=hide HE2;clear HE2 HE1;by_cases qa:g.a=0
  ·have ba:(g.a == 0)=true:=by simp [qa]
   by_cases qt:g.t=0
   ·have bt:(g.t == 0)=true:=by simp [qt]
    have HE:Hid (true=agB g):=by have:=HE3.out;rw [ba,bt] at this;exact this.symm
    clear qa qt;go_wp2;go_ret;exact ⟨ret_bs HE.out,HT5.out⟩
   ·have bt:(g.t == 0)=false:=beq_eq_false_iff_ne.2 qt
    have HE:Hid (false=agB g):=by have:=HE3.out;rw [ba,bt] at this;exact this.symm
    clear qa qt;go_wp2;go_ret;exact ⟨ret_bs HE.out,HT5.out⟩
  ·have ba:(g.a == 0)=false:=beq_eq_false_iff_ne.2 qa
   have HE:Hid (false=agB g):=by have:=HE3.out;rw [ba,Bool.false_and] at this;exact this.symm
   clear qa;go_wp2;go_ret;exact ⟨ret_bs HE.out,HT5.out⟩
 ·have b4:(g.k == 4)=true:=by simp [hk]
  have b1:(g.k == 1)=false:=beq_eq_false_iff_ne.2 (by omega);have b2:(g.k == 2)=false:=beq_eq_false_iff_ne.2 (by omega);have b3:(g.k == 3)=false:=beq_eq_false_iff_ne.2 (by omega);have n1:(g.k != 1)=true:=by show (!(g.k == 1))=_;rw [b1];rfl
  have n2:(g.k != 2)=true:=by show (!(g.k == 2))=_;rw [b2];rfl
  have n3:(g.k != 3)=true:=by show (!(g.k == 3))=_;rw [b3];rfl
  have n4:(g.k != 4)=false:=by show (!(g.k == 4))=_;rw [b4];rfl
  have z1:¬ g.k=1:=by omega
  have z2:¬ g.k=2:=by omega
  have z3:¬ g.k=3:=by omega
  have hif:(if g.k=2 then tail2 g else (g.a == 0) && (g.t == 0))=((g.a == 0) && (g.t == 0)):=if_neg (by omega)
  have HIF:=hide hif;clear hk hif;have HSZ:Hid (sumZ g=(g.h == 0 && g.l == 0)):=(rfl:sumZ g=(g.h == 0 && g.l == 0));have hq:=neq_wideA g.h g.l 0 0;by_cases hsz:(g.h == 0 && g.l == 0)=true
  rotate_left
  ·replace hsz:(g.h == 0 && g.l == 0)=false:=by simpa using hsz
   rw [hsz] at hq;have hsz2:sumZ g=false:=HSZ.out.trans hsz;have HE:Hid (false=agB g):=by have:=HE1.out;simp only [b1,b3,b4,hsz2,Bool.true_or,Bool.false_or,Bool.or_true,Bool.or_false,Bool.true_and,Bool.and_true,Bool.false_and,Bool.and_false] at this;exact this.symm
   go_wp2;go_ret;exact ⟨ret_bs HE.out,HT3.out⟩
  rw [hsz] at hq;have HS2:=hide (HSZ.out.trans hsz);clear hsz;go_wp2_with fail;refine (c_noSketch SM.out (ag_past HA.out HT3.out)).mono ?_;rintro e w4 ⟨rfl,hb4⟩;have HT4:=hide (chain HT3.out hb4);have K4:=agc_past K3 hb4;clear hb4;by_cases hns:noS g=true
  rotate_left
  ·replace hns:noS g=false:=by simpa using hns
   rw [hns];have HE:Hid (false=agB g):=by have:=HE1.out;simp only [b1,b3,b4,HS2.out,hns,Bool.true_or,Bool.false_or,Bool.or_true,Bool.or_false,Bool.true_and,Bool.and_true,Bool.false_and,Bool.and_false] at this;exact this.symm
   go_wp2;go_ret;exact ⟨ret_bs HE.out,HT4.out⟩
  rw [hns];have HNS:=hide hns;clear hns;have HE2:=HE1.out;rw [HIF.out] at HE2;simp only [b1,b3,b4,HS2.out,HNS.out,Bool.true_or,Bool.false_or,Bool.or_true,Bool.or_false,Bool.true_and,Bool.and_true] at HE2;have HE3:=hide HE2;clear HE2 HE1;by_cases qa:g.a=0
  ·have ba:(g.a == 0)=true:=by simp [qa]
   by_cases qt:g.t=0
   ·have bt:(g.t == 0)=true:=by simp [qt]
    have HE:Hid (true=agB g):=by have:=HE3.out;rw [ba,bt] at this;exact this.symm
    clear qa qt;go_wp2;go_ret;exact ⟨ret_bs HE.out,HT4.out⟩
   ·have bt:(g.t == 0)=false:=beq_eq_false_iff_ne.2 qt
    have HE:Hid (false=agB g):=by have:=HE3.out;rw [ba,bt] at this;exact this.symm
    clear qa qt;go_wp2;go_ret;exact ⟨ret_bs HE.out,HT4.out⟩
  ·have ba:(g.a == 0)=false:=beq_eq_false_iff_ne.2 qa
   have HE:Hid (false=agB g):=by have:=HE3.out;rw [ba,Bool.false_and] at this;exact this.symm
   clear qa;go_wp2;go_ret;exact ⟨ret_bs HE.out,HT4.out⟩
end Go.Proofs.YtmjogablacnlgaaGreatDoor
