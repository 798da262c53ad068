/-
 An argument that is a sketch, opened.
-/
import Derived.ChangeOld
import Derived.ChangeSlices
import Derived.Deep.SlicePairs
import Derived.Lib.SmallJoins
import Derived.Test.YthchmdmncmioiaaGreatDoorRJD
namespace Go.Proofs.YthchmdmncmioiaaGreatDoor
set_option linter.unusedVariables false
set_option linter.unusedSimpArgs false
open Go.ChangeShapes Go.WideShapes Go.ChangeAt Go.RowKit Go.PlainAid
structure AgOk (g:Ag):Prop where
 k:I64 g.k
 s:U64 g.s
 h:I64 g.h
 l:U64 g.l
 a:I64 g.a
 t:I64 g.t
 z:U64 g.z
 x:I64 g.x
 y:U64 g.y
 P:∀ b∈g.P,BnOk b
 N:∀ b∈g.N,BnOk b
 E:∀ b∈g.E,U64 b
 R:∀ b∈g.R,I64 b
set_option maxRecDepth 10000
open Go.Lib
def noS (g:Ag):Bool:=sameS g.z g.x g.y g.P g.N 0 0 0 [] []
def noH (g:Ag):Bool:=decide (g.E.length=0) && decide (g.R.length=0)
def sumZ (g:Ag):Bool:=(g.h == 0 && g.l == 0)
def tail2 (g:Ag):Bool:=valA g.a && (decide (-1≤g.t) && decide (g.t≤1000000000)) && (decide (0≤g.t) || (g.a == 0))
def agB (g:Ag):Bool:=(decide (1≤g.k) && decide (g.k≤4)) && skB g.P g.N && hlB g.E g.R && ((g.k == 1) || sumZ g) && ((g.k == 3) || noS g) && ((g.k == 4) || noH g) && (if g.k=2 then tail2 g else (g.a == 0) && (g.t == 0))
def agC (g:Ag):Ag:=⟨1,g.s,g.h,g.l,0,0,0,[],[],0,0,[],[]⟩
def agG (g:Ag):Ag:=⟨2,g.s,0,0,g.a,g.t,0,[],[],0,0,[],[]⟩
def agH (g:Ag):Ag:=⟨3,g.s,0,0,0,0,g.z,g.P,g.N,g.x,g.y,[],[]⟩
def agS (g:Ag):Ag:=⟨4,g.s,0,0,0,0,0,[],[],0,0,g.E,g.R⟩
def agI (g:Ag):Bool:=if g.k=1 then sameA g (agC g) else if g.k=2 then gauB g.a g.t && sameA g (agG g) else if g.k=3 then skB g.P g.N && sameA g (agH g) else if g.k=4 then hlB g.E g.R && sameA g (agS g) else false
theorem noS_iff (g:Ag):noS g=true↔g.z=0∧g.x=0∧g.y=0∧g.P=[]∧g.N=[]:=by
 simp [noS,sameS,and_assoc]
theorem noH_iff (g:Ag):noH g=true↔g.E=[]∧g.R=[]:=by simp [noH]
theorem skB_nil:skB [] []=true:=by decide
theorem hlB_nil:hlB [] []=true:=by decide
theorem sameS_self (z h l:Int) (P N:List Bn):sameS z h l P N z h l P N=true:=by simp [sameS]
theorem sameH_self (E R:List Int):sameH E R E R=true:=by simp [sameH]
theorem gau_tail (g:Ag):gauB g.a g.t=tail2 g:=by
 unfold gauB tail2 valA;by_cases h1:g.t=-1
 ·rw [if_pos h1,h1]
  by_cases h2:g.a=0
  ·rw [h2];decide
  ·have:(g.a == 0)=false:=beq_eq_false_iff_ne.2 h2
   rw [this];simp [h2]
 ·rw [if_neg h1]
  by_cases h2:0≤g.t
  ·have e1:decide (-1≤g.t)=true:=decide_eq_true (by omega)
   have e2:decide (0≤g.t)=true:=decide_eq_true h2;rw [e1,e2];simp [Bool.and_comm,Bool.and_left_comm,Bool.and_assoc]
  ·have e1:decide (-1≤g.t)=false:=decide_eq_false (by omega)
   have e2:decide (0≤g.t)=false:=decide_eq_false h2;rw [e1,e2];simp
theorem ag_one (g:Ag):agI g=agB g:=by
 rw [Bool.eq_iff_iff];unfold agI agB;by_cases h1:g.k=1
 ·rw [if_pos h1]
  simp only [sameA,agC,sumZ,h1,Bool.and_eq_true,Bool.or_eq_true,beq_iff_eq,decide_eq_true_eq,noH_iff,noS_iff];constructor
  ·rintro ⟨⟨⟨⟨⟨_,_⟩,ha⟩,ht⟩,hs⟩,hh⟩
   have hs':noS g=true:=hs;have:=(noS_iff g).1 hs';have hh':g.E=[]∧g.R=[]:=by simpa [sameH] using hh
   refine ⟨⟨⟨⟨⟨⟨by omega,?_⟩,?_⟩,.inl trivial⟩,.inr this⟩,.inr hh'⟩,?_⟩
   ·rw [this.2.2.2.1,this.2.2.2.2];exact skB_nil
   ·rw [hh'.1,hh'.2];exact hlB_nil
   ·simp [ha,ht]
  ·rintro ⟨⟨⟨⟨⟨⟨_,_⟩,_⟩,_⟩,hs⟩,hh⟩,hat⟩
   have hat':g.a=0∧g.t=0:=by simpa using hat
   have hs':g.z=0∧g.x=0∧g.y=0∧g.P=[]∧g.N=[]:=by rcases hs with h | h;exact absurd h (by omega);exact h
   have hh':g.E=[]∧g.R=[]:=by rcases hh with h | h;exact absurd h (by omega);exact h
   refine ⟨⟨⟨⟨⟨⟨trivial,trivial⟩,⟨trivial,trivial⟩⟩,hat'.1⟩,hat'.2⟩,(noS_iff g).2 hs'⟩,?_⟩;rw [hh'.1,hh'.2];exact sameH_self [] []
 rw [if_neg h1];by_cases h2:g.k=2
 ·rw [if_pos h2,gau_tail]
  simp only [sameA,agG,sumZ,h2,Bool.and_eq_true,Bool.or_eq_true,beq_iff_eq,decide_eq_true_eq,noH_iff,noS_iff];constructor
  ·rintro ⟨htl,⟨⟨⟨⟨⟨_,_⟩,hsm⟩,_⟩,_⟩,hs⟩,hh⟩
   have hs':noS g=true:=hs;have:=(noS_iff g).1 hs';have hh':g.E=[]∧g.R=[]:=by simpa [sameH] using hh
   refine ⟨⟨⟨⟨⟨⟨by omega,?_⟩,?_⟩,.inr hsm⟩,.inr this⟩,.inr hh'⟩,?_⟩
   ·rw [this.2.2.2.1,this.2.2.2.2];exact skB_nil
   ·rw [hh'.1,hh'.2];exact hlB_nil
   ·simpa using htl
  ·rintro ⟨⟨⟨⟨⟨⟨_,_⟩,_⟩,hsm⟩,hs⟩,hh⟩,htl⟩
   have htl':tail2 g=true:=by simpa using htl
   have hsm':g.h=0∧g.l=0:=by rcases hsm with h | h;exact absurd h (by omega);exact h
   have hs':g.z=0∧g.x=0∧g.y=0∧g.P=[]∧g.N=[]:=by rcases hs with h | h;exact absurd h (by omega);exact h
   have hh':g.E=[]∧g.R=[]:=by rcases hh with h | h;exact absurd h (by omega);exact h
   refine ⟨htl',⟨⟨⟨⟨⟨trivial,trivial⟩,hsm'⟩,trivial⟩,trivial⟩,(noS_iff g).2 hs'⟩,?_⟩;rw [hh'.1,hh'.2];exact sameH_self [] []
 rw [if_neg h2];by_cases h3:g.k=3
 ·rw [if_pos h3]
  simp only [sameA,agH,sumZ,h3,Bool.and_eq_true,Bool.or_eq_true,beq_iff_eq,decide_eq_true_eq,noH_iff,noS_iff];constructor
  ·rintro ⟨hsk,⟨⟨⟨⟨⟨_,_⟩,hsm⟩,ha⟩,ht⟩,_⟩,hh⟩
   have hh':g.E=[]∧g.R=[]:=by simpa [sameH] using hh
   refine ⟨⟨⟨⟨⟨⟨by omega,hsk⟩,?_⟩,.inr hsm⟩,.inl trivial⟩,.inr hh'⟩,?_⟩
   ·rw [hh'.1,hh'.2];exact hlB_nil
   ·simp [ha,ht]
  ·rintro ⟨⟨⟨⟨⟨⟨_,hsk⟩,_⟩,hsm⟩,_⟩,hh⟩,hat⟩
   have hat':g.a=0∧g.t=0:=by simpa using hat
   have hsm':g.h=0∧g.l=0:=by rcases hsm with h | h;exact absurd h (by omega);exact h
   have hh':g.E=[]∧g.R=[]:=by rcases hh with h | h;exact absurd h (by omega);exact h
   refine ⟨hsk,⟨⟨⟨⟨⟨trivial,trivial⟩,hsm'⟩,hat'.1⟩,hat'.2⟩,sameS_self _ _ _ _ _⟩,?_⟩;rw [hh'.1,hh'.2];exact sameH_self [] []
 rw [if_neg h3];by_cases h4:g.k=4
 ·rw [if_pos h4]
  simp only [sameA,agS,sumZ,h4,Bool.and_eq_true,Bool.or_eq_true,beq_iff_eq,decide_eq_true_eq,noH_iff,noS_iff];constructor
  ·rintro ⟨hhl,⟨⟨⟨⟨⟨_,_⟩,hsm⟩,ha⟩,ht⟩,hs⟩,_⟩
   have hs':noS g=true:=hs;have:=(noS_iff g).1 hs';refine ⟨⟨⟨⟨⟨⟨by omega,?_⟩,hhl⟩,.inr hsm⟩,.inr this⟩,.inl trivial⟩,?_⟩
   ·rw [this.2.2.2.1,this.2.2.2.2];exact skB_nil
   ·simp [ha,ht]
  ·rintro ⟨⟨⟨⟨⟨⟨_,_⟩,hhl⟩,hsm⟩,hs⟩,_⟩,hat⟩
   have hat':g.a=0∧g.t=0:=by simpa using hat
   have hsm':g.h=0∧g.l=0:=by rcases hsm with h | h;exact absurd h (by omega);exact h
   have hs':g.z=0∧g.x=0∧g.y=0∧g.P=[]∧g.N=[]:=by rcases hs with h | h;exact absurd h (by omega);exact h
   exact ⟨hhl,⟨⟨⟨⟨⟨trivial,trivial⟩,hsm'⟩,hat'.1⟩,hat'.2⟩,(noS_iff g).2 hs'⟩,sameH_self _ _⟩
 rw [if_neg h4];simp only [Bool.and_eq_true,decide_eq_true_eq];constructor
 ·intro h;exact absurd h (by simp)
 ·rintro ⟨⟨⟨⟨⟨⟨⟨ha,hb⟩,_⟩,_⟩,_⟩,_⟩,_⟩,_⟩
  exfalso;omega
set_option maxHeartbeats 1000000 in
theorem c_hright {w:World} {g:Ag} {p:Pl} (ok:AgOk g) (sm:AgSm g) (hA:AgAt w g p) :
  Calls Tryz.prog 287 #[.agg #[.int .u64 g.z,.slice p.pa g.P.length p.pc,.slice p.na g.N.length p.nc,.int .i64 g.x,.int .u64 g.y]] w fun e w'=>e=.returned (.bool (skB g.P g.N))∧Below w.heap.size w w':=by
 have HB0:Hid (∀ o,Below w.heap.size w (w.alloc o)):=fun o=>(Below.refl _ _).alloc (Nat.le_refl _) o;have HA:=hide hA;have OK:=hide ok;have SM:=hide sm;clear ok sm hA;go_enter Tryz.func287,Tryz.ntmps287;go_wp2_with fail;refine (c_i_SketchRight rfl rfl SM.out.P SM.out.N (bins_past HA.out.P (HB0.out _)) (bins_past HA.out.N (HB0.out _)) OK.out.P OK.out.N).mono ?_;rintro e w1 ⟨rfl,hb1⟩;have HT1:=hide (chain (HB0.out _) hb1);clear hb1;go_wp2;go_ret;exact ⟨rfl,HT1.out⟩
set_option maxHeartbeats 1000000 in
theorem c_sright {w:World} {g:Ag} {p:Pl} (sm:AgSm g) (hA:AgAt w g p) :
  Calls Tryz.prog 308 #[.agg #[.slice p.ea g.E.length p.ec,.slice p.ra g.R.length p.rc]] w fun e w'=>e=.returned (.bool (hlB g.E g.R))∧Below w.heap.size w w':=by
 have HB0:Hid (∀ o,Below w.heap.size w (w.alloc o)):=fun o=>(Below.refl _ _).alloc (Nat.le_refl _) o;have HA:=hide hA;have SM:=hide sm;clear sm hA;go_enter Tryz.func308,Tryz.ntmps308;go_wp2_with fail;refine (c_i_HllRight rfl rfl SM.out.E SM.out.R (nums_past HA.out.E (HB0.out _)) (nums_past HA.out.R (HB0.out _))).mono ?_;rintro e w1 ⟨rfl,hb1⟩;have HT1:=hide (chain (HB0.out _) hb1);clear hb1;go_wp2;go_ret;exact ⟨rfl,HT1.out⟩
theorem nil_bins (w:World) (ao:Option Addr):BinsAt w ao []:=fun h=>absurd h (Nat.lt_irrefl 0)
theorem nil_nums (kd:IntKind) (w:World) (ao:Option Addr):NumsAt kd w ao []:=fun h=>absurd h (Nat.lt_irrefl 0)
set_option maxHeartbeats 8000000 in
theorem c_i_AggRight {w:World} {g:Ag} {p:Pl} (ok:AgOk g) (sm:AgSm g) (hA:AgAt w g p) :
  Calls Tryz.prog 84 #[.agg (agArr g p)] w fun e w'=>e=.returned (.bool (agI g))∧Below w.heap.size w w':=by
 have HA:=hide hA;have OK:=hide ok;have SM:=hide sm;have HB0:Hid (∀ o,Below w.heap.size w (w.alloc o)):=fun o=>(Below.refl _ _).alloc (Nat.le_refl _) o;clear ok sm hA;by_cases h1:g.k=1
 ·have HE0:Hid (agI g=(true && sameA g (agC g))):=by unfold agI;rw [if_pos h1];exact (Bool.true_and _).symm
  have HP:=hide (c_partOfC (g:=g) (p:=p) (h:=h1));clear h1;go_enter Tryz.func84,Tryz.ntmps84;go_wp2_with fail;refine (HP.out _).mono ?_;rintro e w1 ⟨rfl,hb1⟩;have HT1:=hide (chain (HB0.out _) hb1);have K1:=agc_past (agc_new w 49 g p) hb1;clear hb1;go_wp2_with fail;refine (c_cright _ _ _).mono ?_;rintro e w2 ⟨rfl,hb2⟩;have HT2:=hide (chain HT1.out hb2);have K2:=agc_past K1 hb2;clear hb2 K1;have HE:Hid (sameA g (agC g)=agI g):=by have:=HE0.out;rw [Bool.true_and] at this;exact this.symm
  have HK2:Hid (∀ W,Below w2.heap.size w2 W→AgCell W w.heap.size g p):=fun W hW=>agc_past K2 hW
  have HX:Hid (∀ W,Below w2.heap.size w2 W→AgAt W (agC g) ⟨none,0,none,0,none,0,none,0⟩):=fun W hW=>by
   have h:=ag_past HA.out (chain HT2.out hW);exact ⟨nil_bins _ _,nil_bins _ _,nil_nums _ _ _,nil_nums _ _ _⟩
  have SX:Hid (AgSm (agC g)):=⟨by simp [agC],by simp [agC],by simp [agC],by simp [agC]⟩;clear K2;go_wp2_with fail
  go_region_held3 (fun W=>Kept w2.heap.size w2 W∧AgCell W w.heap.size g p)
   (first | exact hS3 | exact ⟨held (Below.refl _ _).drew (by simp),HK2.out _ (Below.refl _ _).drew⟩)
   (first
    | (go_at_call 85;have hS:=(‹Kept _ _ _∧_›).1;refine (c_aggWithC g p _).mono ?_;rintro e w3 ⟨rfl,hb3⟩;have hS1:=(held_call hb3 hS).1;have hS3:Kept w2.heap.size w2 w3∧_:=⟨held hS1 (Nat.le_refl _),HK2.out _ hS1⟩;clear hb3 hS1)
    | (go_at_call 102;have hS:=(‹Kept _ _ _∧_›).1;refine (c_i_AggSame (g:=g) (p:=p) (g':=agC g) (p':=⟨none,0,none,0,none,0,none,0⟩) SM.out SX.out (ag_past HA.out (chain HT2.out hS.1)) (HX.out _ hS.1)).mono ?_;rintro e w4 ⟨rfl,hb4⟩;have hS1:=(held_call hb4 hS).1;have hS3:Kept w2.heap.size w2 w4∧_:=⟨held hS1 (Nat.le_refl _),HK2.out _ hS1⟩;clear hb4 hS1))
  have HT4:=hide (chain HT2.out hS3.1.1);clear hS3;go_wp2;go_ret;exact ⟨ret_bs HE.out,HT4.out⟩
 by_cases h2:g.k=2
 ·have HE0:Hid (agI g=(gauB g.a g.t && sameA g (agG g))):=by unfold agI;rw [if_neg h1];rw [if_pos h2];rfl
  have HP:=hide (c_partOfG (g:=g) (p:=p) (h:=h2));clear h1 h2;go_enter Tryz.func84,Tryz.ntmps84;go_wp2_with fail;refine (HP.out _).mono ?_;rintro e w1 ⟨rfl,hb1⟩;have HT1:=hide (chain (HB0.out _) hb1);have K1:=agc_past (agc_new w 49 g p) hb1;clear hb1;go_wp2_with fail;refine (c_gright _ _ _).mono ?_;rintro e w2 ⟨rfl,hb2⟩;have HT2:=hide (chain HT1.out hb2);have K2:=agc_past K1 hb2;clear hb2 K1
  cases hv:gauB g.a g.t with
  | false=>
   have HE:Hid (false=agI g):=by have:=HE0.out;rw [hv,Bool.false_and] at this;exact this.symm
   go_wp2;go_ret;exact ⟨ret_bs HE.out,HT2.out⟩
  | true=>
   have HE:Hid (sameA g (agG g)=agI g):=by have:=HE0.out;rw [hv,Bool.true_and] at this;exact this.symm
   have HK2:Hid (∀ W,Below w2.heap.size w2 W→AgCell W w.heap.size g p):=fun W hW=>agc_past K2 hW
   have HX:Hid (∀ W,Below w2.heap.size w2 W→AgAt W (agG g) ⟨none,0,none,0,none,0,none,0⟩):=fun W hW=>by
    have h:=ag_past HA.out (chain HT2.out hW);exact ⟨nil_bins _ _,nil_bins _ _,nil_nums _ _ _,nil_nums _ _ _⟩
   have SX:Hid (AgSm (agG g)):=⟨by simp [agG],by simp [agG],by simp [agG],by simp [agG]⟩;clear K2;go_wp2_with fail
   go_region_held3 (fun W=>Kept w2.heap.size w2 W∧AgCell W w.heap.size g p)
    (first | exact hS3 | exact ⟨held (Below.refl _ _).drew (by simp),HK2.out _ (Below.refl _ _).drew⟩)
    (first
     | (go_at_call 85;have hS:=(‹Kept _ _ _∧_›).1;refine (c_aggWithG g p _).mono ?_;rintro e w3 ⟨rfl,hb3⟩;have hS1:=(held_call hb3 hS).1;have hS3:Kept w2.heap.size w2 w3∧_:=⟨held hS1 (Nat.le_refl _),HK2.out _ hS1⟩;clear hb3 hS1)
     | (go_at_call 102;have hS:=(‹Kept _ _ _∧_›).1;refine (c_i_AggSame (g:=g) (p:=p) (g':=agG g) (p':=⟨none,0,none,0,none,0,none,0⟩) SM.out SX.out (ag_past HA.out (chain HT2.out hS.1)) (HX.out _ hS.1)).mono ?_;rintro e w4 ⟨rfl,hb4⟩;have hS1:=(held_call hb4 hS).1;have hS3:Kept w2.heap.size w2 w4∧_:=⟨held hS1 (Nat.le_refl _),HK2.out _ hS1⟩;clear hb4 hS1))
   have HT4:=hide (chain HT2.out hS3.1.1);clear hS3;go_wp2;go_ret;exact ⟨ret_bs HE.out,HT4.out⟩
 by_cases h3:g.k=3
 ·have HE0:Hid (agI g=(skB g.P g.N && sameA g (agH g))):=by unfold agI;rw [if_neg h1];rw [if_neg h2];rw [if_pos h3];rfl
  have HP:=hide (c_partOfH (g:=g) (p:=p) (h:=h3));clear h1 h2 h3;go_enter Tryz.func84,Tryz.ntmps84;go_wp2_with fail;refine (HP.out _).mono ?_;rintro e w1 ⟨rfl,hb1⟩;have HT1:=hide (chain (HB0.out _) hb1);have K1:=agc_past (agc_new w 49 g p) hb1;clear hb1;go_wp2_with fail;refine (c_hright OK.out SM.out (ag_past HA.out HT1.out)).mono ?_;rintro e w2 ⟨rfl,hb2⟩;have HT2:=hide (chain HT1.out hb2);have K2:=agc_past K1 hb2;clear hb2 K1
  cases hv:skB g.P g.N with
  | false=>
   have HE:Hid (false=agI g):=by have:=HE0.out;rw [hv,Bool.false_and] at this;exact this.symm
   go_wp2;go_ret;exact ⟨ret_bs HE.out,HT2.out⟩
  | true=>
   have HE:Hid (sameA g (agH g)=agI g):=by have:=HE0.out;rw [hv,Bool.true_and] at this;exact this.symm
   have HK2:Hid (∀ W,Below w2.heap.size w2 W→AgCell W w.heap.size g p):=fun W hW=>agc_past K2 hW
   have HX:Hid (∀ W,Below w2.heap.size w2 W→AgAt W (agH g) ⟨p.pa,p.pc,p.na,p.nc,none,0,none,0⟩):=fun W hW=>by
    have h:=ag_past HA.out (chain HT2.out hW);exact ⟨h.P,h.N,nil_nums _ _ _,nil_nums _ _ _⟩
   have SX:Hid (AgSm (agH g)):=⟨SM.out.P,SM.out.N,by simp [agH],by simp [agH]⟩;clear K2;go_wp2_with fail
   go_region_held3 (fun W=>Kept w2.heap.size w2 W∧AgCell W w.heap.size g p)
    (first | exact hS3 | exact ⟨held (Below.refl _ _).drew (by simp),HK2.out _ (Below.refl _ _).drew⟩)
    (first
     | (go_at_call 85;have hS:=(‹Kept _ _ _∧_›).1;refine (c_aggWithH g p _).mono ?_;rintro e w3 ⟨rfl,hb3⟩;have hS1:=(held_call hb3 hS).1;have hS3:Kept w2.heap.size w2 w3∧_:=⟨held hS1 (Nat.le_refl _),HK2.out _ hS1⟩;clear hb3 hS1)
     | (go_at_call 102;have hS:=(‹Kept _ _ _∧_›).1;refine (c_i_AggSame (g:=g) (p:=p) (g':=agH g) (p':=⟨p.pa,p.pc,p.na,p.nc,none,0,none,0⟩) SM.out SX.out (ag_past HA.out (chain HT2.out hS.1)) (HX.out _ hS.1)).mono ?_;rintro e w4 ⟨rfl,hb4⟩;have hS1:=(held_call hb4 hS).1;have hS3:Kept w2.heap.size w2 w4∧_:=⟨held hS1 (Nat.le_refl _),HK2.out _ hS1⟩;clear hb4 hS1))
   have HT4:=hide (chain HT2.out hS3.1.1);clear hS3;go_wp2;go_ret;exact ⟨ret_bs HE.out,HT4.out⟩
 by_cases h4:g.k=4
 ·have HE0:Hid (agI g=(hlB g.E g.R && sameA g (agS g))):=by unfold agI;rw [if_neg h1];rw [if_neg h2];rw [if_neg h3];rw [if_pos h4];rfl
  have HP:=hide (c_partOfS (g:=g) (p:=p) (h:=h4));clear h1 h2 h3 h4;go_enter Tryz.func84,Tryz.ntmps84;go_wp2_with fail;refine (HP.out _).mono ?_;rintro e w1 ⟨rfl,hb1⟩;have HT1:=hide (chain (HB0.out _) hb1);have K1:=agc_past (agc_new w 49 g p) hb1;clear hb1;go_wp2_with fail;refine (c_sright SM.out (ag_past HA.out HT1.out)).mono ?_;rintro e w2 ⟨rfl,hb2⟩;have HT2:=hide (chain HT1.out hb2);have K2:=agc_past K1 hb2;clear hb2 K1
  cases hv:hlB g.E g.R with
  | false=>
   have HE:Hid (false=agI g):=by have:=HE0.out;rw [hv,Bool.false_and] at this;exact this.symm
   go_wp2;go_ret;exact ⟨ret_bs HE.out,HT2.out⟩
  | true=>
   have HE:Hid (sameA g (agS g)=agI g):=by have:=HE0.out;rw [hv,Bool.true_and] at this;exact this.symm
   have HK2:Hid (∀ W,Below w2.heap.size w2 W→AgCell W w.heap.size g p):=fun W hW=>agc_past K2 hW
   have HX:Hid (∀ W,Below w2.heap.size w2 W→AgAt W (agS g) ⟨none,0,none,0,p.ea,p.ec,p.ra,p.rc⟩):=fun W hW=>by
    have h:=ag_past HA.out (chain HT2.out hW);exact ⟨nil_bins _ _,nil_bins _ _,h.E,h.R⟩
   have SX:Hid (AgSm (agS g)):=⟨by simp [agS],by simp [agS],SM.out.E,SM.out.R⟩;clear K2;go_wp2_with fail
   go_region_held3 (fun W=>Kept w2.heap.size w2 W∧AgCell W w.heap.size g p)
    (first | exact hS3 | exact ⟨held (Below.refl _ _).drew (by simp),HK2.out _ (Below.refl _ _).drew⟩)
    (first
     | (go_at_call 85;have hS:=(‹Kept _ _ _∧_›).1;refine (c_aggWithS g p _).mono ?_;rintro e w3 ⟨rfl,hb3⟩;have hS1:=(held_call hb3 hS).1;have hS3:Kept w2.heap.size w2 w3∧_:=⟨held hS1 (Nat.le_refl _),HK2.out _ hS1⟩;clear hb3 hS1)
     | (go_at_call 102;have hS:=(‹Kept _ _ _∧_›).1;refine (c_i_AggSame (g:=g) (p:=p) (g':=agS g) (p':=⟨none,0,none,0,p.ea,p.ec,p.ra,p.rc⟩) SM.out SX.out (ag_past HA.out (chain HT2.out hS.1)) (HX.out _ hS.1)).mono ?_;rintro e w4 ⟨rfl,hb4⟩;have hS1:=(held_call hb4 hS).1;have hS3:Kept w2.heap.size w2 w4∧_:=⟨held hS1 (Nat.le_refl _),HK2.out _ hS1⟩;clear hb4 hS1))
   have HT4:=hide (chain HT2.out hS3.1.1);clear hS3;go_wp2;go_ret;exact ⟨ret_bs HE.out,HT4.out⟩
 have HE:Hid (false=agI g):=by unfold agI;rw [if_neg h1,if_neg h2,if_neg h3,if_neg h4];rfl
 have HP:=hide (c_partOf0 (g:=g) (p:=p) (h1:=h1) (h2:=h2) (h3:=h3) (h4:=h4));clear h1 h2 h3 h4;go_enter Tryz.func84,Tryz.ntmps84;go_wp2_with fail;refine (HP.out _).mono ?_;rintro e w1 ⟨rfl,hb1⟩;have HT1:=hide (chain (HB0.out _) hb1);clear hb1;go_wp2;go_ret;exact ⟨ret_bs HE.out,HT1.out⟩
end Go.Proofs.YthchmdmncmioiaaGreatDoor
