/-
 The size of cells as the laws count it: a part of other texts, for the pipes.
-/
import Derived.Test.YtmjogablacnlgaaGreatDoorOYG
namespace Go.Proofs.YtmjogablacnlgaaGreatDoor
set_option linter.unusedVariables false
set_option linter.unusedSimpArgs false
section
open Go.ChangeShapes Go.WideShapes Go.ChangeAt Go.RowKit Go.PlainAid Go.Lib
set_option maxRecDepth 10000
def agTot (g:Ag):Nat:=g.P.length+g.N.length+g.E.length+g.R.length
def ceTot:List Ce→Nat
 | []=>0
 | c :: L=>agTot c.g+ceTot L
theorem ceTot_app:∀ (L M:List Ce),ceTot (L ++ M)=ceTot L+ceTot M
 | [],M=>by simp [ceTot]
 | c :: L,M=>by rw [List.cons_append,ceTot,ceTot_app L M,ceTot];omega
theorem ceTot_take {L:List Ce} {k:Nat} {c:Ce} (h:L[k]?=some c):ceTot (L.take (k+1))=ceTot (L.take k)+agTot c.g:=by
 rw [List.take_add_one,h,ceTot_app];simp [ceTot]
theorem c_szSketchT (z h l left:Int) (pa na:Option Addr) (pn pc nn nc:Nat) (h0:0≤left) (h1:left≤1048576) (hp:pn≤maxLen) (hn:nn≤maxLen) (w:World) :
  Calls Tryz.prog 196 #[.agg #[.int .u64 z,.slice pa pn pc,.slice na nn nc,.int .i64 h,.int .u64 l],.int .i64 left] w fun e w'=>∃ v,e=.returned (.int .i64 v)∧v≤left∧(¬ v<0→0≤v∧v+pn+nn≤left)∧Below w.heap.size w w':=by
 have hB:∀ o,Below w.heap.size w (w.alloc o):=fun o=>(Below.refl _ _).alloc (Nat.le_refl _) o;have HB:=hide hB;clear hB;by_cases k:left - (pn:Int)<0
 ·go_enter Tryz.func196,Tryz.ntmps196
  go_wp2_with (go_at_call 222;refine (c_szBinS_neg _ _ _ _ (by omega) (by omega) (by assumption) (by omega) _).mono ?_;rintro e w1 ⟨rfl,rfl⟩);go_ret;exact ⟨-1,rfl,by omega,fun h=>by omega,HB.out _⟩
 ·by_cases k2:left - (pn:Int) - (nn:Int)<0
  ·go_enter Tryz.func196,Tryz.ntmps196
   go_wp2_with (go_at_call 222;first | (refine (c_szBinS_neg _ _ _ _ (by omega) (by omega) (by assumption) (by omega) _).mono ?_;rintro e w1 ⟨rfl,rfl⟩) | (refine (c_szBinS_pos _ _ _ _ (by omega) (by omega) (by assumption) (by omega) _).mono ?_;rintro e w1 ⟨rfl,rfl⟩));go_ret;exact ⟨-1,rfl,by omega,fun h=>by omega,HB.out _⟩
  ·go_enter Tryz.func196,Tryz.ntmps196
   go_wp2_with (go_at_call 222;refine (c_szBinS_pos _ _ _ _ (by omega) (by omega) (by assumption) (by omega) _).mono ?_;rintro e w1 ⟨rfl,rfl⟩);go_ret;exact ⟨_,rfl,by omega,fun h=>by omega,HB.out _⟩
set_option maxHeartbeats 1000000 in
theorem c_szHllT (left:Int) (pa na:Option Addr) (pn pc nn nc:Nat) (h0:0≤left) (h1:left≤1048576) (hp:pn≤maxLen) (hn:nn≤maxLen) (w:World) :
  Calls Tryz.prog 197 #[.agg #[.slice pa pn pc,.slice na nn nc],.int .i64 left] w fun e w'=>∃ v,e=.returned (.int .i64 v)∧v≤left∧(¬ v<0→0≤v∧v+pn+nn≤left)∧Below w.heap.size w w':=by
 have hB:∀ o,Below w.heap.size w (w.alloc o):=fun o=>(Below.refl _ _).alloc (Nat.le_refl _) o;have HB:=hide hB;clear hB;by_cases k:left - (pn:Int)<0
 ·go_enter Tryz.func197,Tryz.ntmps197
  go_wp2_with (go_at_call 223;refine (c_szUint64S_neg _ _ _ _ (by omega) (by omega) (by assumption) (by omega) _).mono ?_;rintro e w1 ⟨rfl,rfl⟩);go_ret;exact ⟨-1,rfl,by omega,fun h=>by omega,HB.out _⟩
 ·by_cases k2:left - (pn:Int) - (nn:Int)<0
  ·go_enter Tryz.func197,Tryz.ntmps197
   go_wp2_with (first | (go_at_call 224;refine (c_szInt64S_neg _ _ _ _ (by omega) (by omega) (by assumption) (by omega) _).mono ?_;rintro e w1 ⟨rfl,rfl⟩) | (go_at_call 223;refine (c_szUint64S_pos _ _ _ _ (by omega) (by omega) (by assumption) (by omega) _).mono ?_;rintro e w1 ⟨rfl,rfl⟩));go_ret;exact ⟨-1,rfl,by omega,fun h=>by omega,HB.out _⟩
  ·go_enter Tryz.func197,Tryz.ntmps197
   go_wp2_with (first | (go_at_call 224;refine (c_szInt64S_pos _ _ _ _ (by omega) (by omega) (by assumption) (by omega) _).mono ?_;rintro e w1 ⟨rfl,rfl⟩) | (go_at_call 223;refine (c_szUint64S_pos _ _ _ _ (by omega) (by omega) (by assumption) (by omega) _).mono ?_;rintro e w1 ⟨rfl,rfl⟩));go_ret;exact ⟨_,rfl,by omega,fun h=>by omega,HB.out _⟩
set_option maxHeartbeats 1000000 in
theorem c_szAggT (g:Ag) (p:Pl) (left:Int) (h0:0≤left) (h1:left≤1048576) (hg:AgLen g) (w:World) :
  Calls Tryz.prog 170 #[.agg (agArr g p),.int .i64 left] w fun e w'=>∃ v,e=.returned (.int .i64 v)∧v≤left∧(¬ v<0→0≤v∧v+(agTot g:Int)≤left)∧Below w.heap.size w w':=by
 obtain ⟨k,s,h,l,a,t,z,P,N,x,y,E,R⟩:=g;obtain ⟨pa,pc,na,nc,ea,ec,ra,rc⟩:=p;obtain ⟨gP,gN,gE,gR⟩:=hg;simp only at gP gN gE gR;simp only [agArr];obtain ⟨pn,ep⟩:∃ n,P.length=n:=⟨_,rfl⟩;obtain ⟨nn,en⟩:∃ n,N.length=n:=⟨_,rfl⟩;obtain ⟨xn,ex⟩:∃ n,E.length=n:=⟨_,rfl⟩;obtain ⟨rn,er⟩:∃ n,R.length=n:=⟨_,rfl⟩;rw [ep] at gP;rw [en] at gN;rw [ex] at gE;rw [er] at gR;rw [ep,en,ex,er];have EP:=hide ep;have EN:=hide en;have EX:=hide ex;have ER:=hide er;clear ep en ex er;have hB:∀ o,Below w.heap.size w (w.alloc o):=fun o=>(Below.refl _ _).alloc (Nat.le_refl _) o;have HB:=hide hB;clear hB;go_enter Tryz.func170,Tryz.ntmps170;go_wp2_with fail;refine (c_szSketchT _ _ _ _ _ _ _ _ _ _ h0 h1 gP gN _).mono ?_;rintro e w1 ⟨v,rfl,hv,hsm,hb1⟩;have HT1:=hide ((HB.out _).trans (hb1.mono (by simp <;> omega)));obtain ⟨hc1,hf1⟩:=bcell hb1;simp at hc1;clear hb1 hf1;by_cases hv0:v<0
 ·clear hsm
  go_wp2;go_ret;exact ⟨-1,rfl,by omega,fun h=>by omega,HT1.out⟩
 obtain ⟨v0,lp⟩:=hsm hv0;clear hsm;go_wp2_with fail;refine (c_szHllT _ _ _ _ _ _ _ v0 (by omega) gE gR _).mono ?_;rintro e w2 ⟨v',rfl,hv',hsm,hb2⟩;have HT2:=hide (chain HT1.out hb2);clear hb2;by_cases hv0':v'<0
 ·clear hsm
  go_wp2;go_ret;exact ⟨-1,rfl,by omega,fun h=>by omega,HT2.out⟩
 obtain ⟨v0',le⟩:=hsm hv0';clear hsm;go_wp2;go_ret;exact ⟨v',rfl,by omega,fun _=>⟨v0',by unfold agTot;simp only [EP.out,EN.out,EX.out,ER.out];omega⟩,HT2.out⟩
set_option maxHeartbeats 2000000 in
theorem c_szCellT (c:Ce) (left:Int) (h0:0≤left) (h1:left≤1048576) (hs:c.s.size≤maxLen) (hg:AgLen c.g) (w:World) :
  Calls Tryz.prog 132 #[.agg (ceArr c),.int .i64 left] w fun e w'=>∃ v,e=.returned (.int .i64 v)∧v≤left∧(¬ v<0→0≤v∧v+(agTot c.g:Int)≤left)∧Below w.heap.size w w':=by
 have HB:Hid (∀ o,Below w.heap.size w (w.alloc o)):=fun o=>(Below.refl _ _).alloc (Nat.le_refl _) o;have HG:=hide hg;have hsz:c.s.size≤9223372036854775807:=hs;obtain ⟨z,hz⟩:∃ z,c.s.size=z:=⟨_,rfl⟩;rw [hz] at hsz;have HZ:=hide hz;have hw:IntKind.i64.wrap (left - (c.s.size:Int))=left - (z:Int):=by rw [hz,IntKind.wrap_i64];omega
 clear hg hz hs;by_cases hn:left - (z:Int)<0
 ·go_enter Tryz.func132,Tryz.ntmps132
  go_wp2;go_ret;exact ⟨-1,rfl,by omega,fun h=>by omega,HB.out _⟩
 ·go_enter Tryz.func132,Tryz.ntmps132
  go_wp2_with fail;refine (c_szAggT c.g c.p _ (by omega) (by omega) HG.out _).mono ?_;rintro e w1 ⟨v,rfl,hv,hsm,hb1⟩;have HT1:=hide (chain (HB.out _) hb1);have HSm:=hide hsm;clear hb1 hsm;by_cases hv0:v<0
  ·go_wp2
   go_ret;exact ⟨-1,rfl,by omega,fun h=>by omega,HT1.out⟩
  ·go_wp2
   go_ret;exact ⟨v,rfl,by omega,fun h=>⟨(HSm.out h).1,by have:=(HSm.out h).2;omega⟩,HT1.out⟩
set_option maxHeartbeats 2000000 in
theorem c_szCellST {w:World} {ao:Option Addr} {N:Nat} {L:List Ce} (cap:Nat) (left:Int) (h0:0≤left) (h1:left≤1048576) (hN:L.length=N) (hl:CesLen L) (hA:CesAt w ao L) :
  Calls Tryz.prog 101 #[.slice ao N cap,.int .i64 left] w fun e w'=>∃ v,e=.returned (.int .i64 v)∧v≤left∧(¬ v<0→0≤v∧v+(N:Int)+(ceTot L:Int)≤left)∧Below w.heap.size w w':=by
 have HA:=hide hA;have HL:=hide hl;have HN:=hide hN;have hnl:N≤9223372036854775807:=by rw [← hN];exact hl.len
 have hw:IntKind.i64.wrap (left - (N:Int))=left - (N:Int):=by rw [IntKind.wrap_i64];omega
 clear hA hl hN;by_cases hn:left - (N:Int)<0
 ·go_enter Tryz.func101,Tryz.ntmps101
  go_wp2;go_ret;exact ⟨-1,rfl,by omega,fun h=>by omega,Below.refl _ _⟩
 ·go_enter Tryz.func101,Tryz.ntmps101
  go_wp2
  go_loopw [1,5] (fun lv i wr=>∃ (k:Nat) (v:Int),k≤N∧i=.int .i64 k∧lv=.int .i64 v∧0≤v∧v≤left∧v+(N:Int)+(ceTot (L.take k):Int)≤left∧Hid (Below w.heap.size w wr)) (fun lv i wr=>N - (Go.RowKit.intOf i).toNat)
  case atStart=>exact ⟨0,_,Nat.zero_le _,rfl,rfl,by omega,by omega,by simp [ceTot] <;> omega,Below.refl _ _⟩
  case round=>
   obtain ⟨k,v,hk,rfl,rfl,v0,v1,HS,HB⟩:=hrel;by_cases hkn:k<N
   ·have hkni:(k:Int)<(N:Int):=by omega
    obtain ⟨b,off,e,hcell⟩:=HA.out.1 (by have:=HN.out;omega);subst e;obtain ⟨c,hc⟩:∃ c,L[k]?=some c:=⟨L[k]'(by have:=HN.out;omega),List.getElem?_eq_getElem _⟩;have hm:=List.mem_of_getElem? hc;obtain ⟨x0,x1,x2,x3,x4,x5,x6,x7,x8,x9,x10,x11,x12,x13,x14⟩:=cec_past (hcell k c hc) HB.out;have HC:=hide hc;have HM:=hide hm;clear hcell hc hm;go_wp2_with fail;refine (c_szCellT c v v0 (by omega) (HL.out.s c HM.out) (HL.out.g c HM.out) _).mono ?_;rintro e w1 ⟨u,rfl,hu,hsm,hb1⟩;have HT1:=hide (chain HB.out hb1);have HSm:=hide hsm;clear hb1 hsm x0 x1 x2 x3 x4 x5 x6 x7 x8 x9 x10 x11 x12 x13 x14;by_cases hu0:u<0
    ·go_wp2
     go_ret;exact ⟨-1,rfl,by omega,fun h=>by omega,HT1.out⟩
    ·have HS2:u+(N:Int)+(ceTot (L.take (k+1)):Int)≤left:=by
      have q:=(HSm.out hu0).2;rw [ceTot_take HC.out];omega
     have hu1:=(HSm.out hu0).1;go_wp2;go_roundw
     case rel=>exact ⟨k+1,u,by omega,by go_num,rfl,hu1,by omega,HS2,HT1⟩
     case measure=>simp [Go.RowKit.intOf];omega
   ·obtain rfl:N=k:=by omega
    rw [List.take_of_length_le (by have:=HN.out;omega)] at HS;go_wp2;go_ret;exact ⟨v,rfl,by omega,fun _=>⟨v0,HS⟩,HB.out⟩
end
section
open Go.ChangeShapes Go.WideShapes Go.ChangeAt Go.RowKit Go.PlainAid Go.Lib
set_option maxRecDepth 10000
theorem totC_le {L:List Ce} (h:L.length+ceTot L≤1048576):totC L≤11*L.length+2*ceTot L:=by
 clear h
 induction L with
 | nil=>simp [totC,ceTot]
 | cons c L ih=>unfold totC ceTot cst agTot;simp only [List.length_cons];omega
end
end Go.Proofs.YtmjogablacnlgaaGreatDoor
