/-
 Copies that own their memory, cells that are marked and held: a part of other texts, for the pipes.
-/
import Derived.Test.YtmjogablacnlgaaGreatDoorOYE
namespace Go.Proofs.YtmjogablacnlgaaGreatDoor
set_option linter.unusedVariables false
set_option linter.unusedSimpArgs false
section
open Go.ChangeShapes Go.WideShapes Go.ChangeAt Go.RowKit Go.PlainAid Go.Maps
set_option maxRecDepth 10000
theorem grownBy_setC (W:World) (b k:Nat) (v:Value):W.grownBy (W.setCell ⟨b,k,none⟩ v) (some b):=
 ⟨rfl,rfl,rfl,(KeepsWalks.setCell W _ v).size,fun i _ hk=>Below.heap_setCell _ _ _ i (fun e=>hk (by rw [e]))⟩
end
section
open Go.ChangeShapes Go.WideShapes Go.ChangeAt Go.RowKit Go.PlainAid
variable {kd:IntKind} {T:TypeId} {w w':World} {B n:Nat} {v:Value} {L:List Int}
set_option maxRecDepth 10000
theorem mkn_at {k0 n i:Nat} (h:i<n):(mkn k0 n)[i]?=some ((k0+i:Nat):Int):=by simp [mkn,h]
def ovn (k0:Nat) (R:List Int) (k:Nat):List Int:=mkn k0 k ++ R.drop k
theorem ovn_len (k0:Nat) (R:List Int) (k:Nat) (hk:k≤R.length):(ovn k0 R k).length=R.length:=by simp [ovn,mkn_len];omega
theorem ovn_set (k0:Nat) {R:List Int} {k:Nat} (hk:k<R.length):(ovn k0 R k).set k ((k0+k:Nat):Int)=ovn k0 R (k+1):=by
 unfold ovn;rw [List.set_append_right _ _ (by rw [mkn_len];omega),mkn_len,Nat.sub_self];have e:R.drop k=R[k] :: R.drop (k+1):=List.drop_eq_getElem_cons hk;rw [e,List.set_cons_zero];unfold mkn;rw [List.range_succ,List.map_append,List.append_assoc];rfl
theorem ovn_all (k0:Nat) (R:List Int):ovn k0 R R.length=mkn k0 R.length:=by simp [ovn]
set_option maxHeartbeats 1000000 in
theorem c_markUint64S {w:World} {B N:Nat} {v:Value} {R:List Int} (k0:Nat) (h0:1≤k0) (h1:k0≤100000000) (hl:N≤1048576) (h:OwnN .u64 56 w B v N R) :
  Calls Tryz.prog 58 #[v,.int .i64 k0] w fun e w'=>e=.returned (.int .i64 ((k0+N:Nat):Int))∧OwnN .u64 56 w' B v N (mkn k0 N)∧w.grownBy w' v.ownBlock:=by
 obtain ⟨ao,c,rfl⟩:=h.any;have HO:=hide h;have HN:=hide h.1;clear h;go_enter Tryz.func58,Tryz.ntmps58;go_wp2
 go_loopw [1,5] (fun m i wr=>w.grownBy wr (Value.slice ao N c).ownBlock∧∃ (k:Nat),k≤N∧i=.int .i64 k∧m=.int .i64 ((k0+k:Nat):Int)∧OwnN .u64 56 wr B (.slice ao N c) N (ovn k0 R k)) (fun m i wr=>N - (RowKit.intOf i).toNat)
 case atStart=>exact ⟨World.grownBy.refl _ _,0,Nat.zero_le _,rfl,rfl,HO.out⟩
 case round=>
  obtain ⟨hg,k,hk,rfl,rfl,hown⟩:=hrel;have HG:=hide hg;have HW:=hide hown;obtain ⟨K,hK⟩:∃ K,k0+k=K:=⟨_,rfl⟩;rw [hK];have HK:=hide hK;have hKb:K≤200000000:=by omega
  have hK1:1≤K:=by omega
  by_cases hkn:k<N
  ·obtain ⟨a,hRk⟩:∃ a,(ovn k0 R k)[k]?=some a:=⟨(ovn k0 R k)[k]'(by have:=HN.out;rw [ovn_len _ _ _ (by omega)];omega),List.getElem?_eq_getElem _⟩
   obtain ⟨g,cc,e,hc0,hf0⟩:=hown.cells hRk
   cases e
   have ewk:IntKind.u64.wrap (K:Int)=(K:Int):=by rw [IntKind.wrap_u64];omega
   have hs:=hown.put (k:=k) ((k0+k:Nat):Int);rw [ovn_set k0 (by have:=HN.out;omega),hK] at hs;have HS:=hide hs;clear hg hown hK hRk hs;go_wp2;go_roundw
   case rel=>
    have e1:=HK.out;exact ⟨HG.out.trans (grownBy_setC _ _ _ _),k+1,by omega,by go_num,by go_num,HS.out⟩
   case measure=>simp [RowKit.intOf];omega
  ·have e:k=N:=by omega
   have HE:Hid ((K:Int)=((k0+N:Nat):Int)):=(by omega:(K:Int)=((k0+N:Nat):Int))
   have HF:Hid (OwnN .u64 56 wr B (.slice ao N c) N (mkn k0 N)):=by
    rw [e,show ovn k0 R N=mkn k0 N by rw [HN.out];exact ovn_all _ _] at hown;exact hown
   clear hg hown hK e;go_wp2;go_ret;exact ⟨by rw [← HE.out];rfl,HF.out,HG.out⟩
set_option maxHeartbeats 1000000 in
theorem c_heldUint64S {w:World} {B N:Nat} {v:Value} (k0:Nat) (h0:1≤k0) (h1:k0≤100000000) (hl:N≤1048576) (h:OwnN .u64 56 w B v N (mkn k0 N)) :
  Calls Tryz.prog 61 #[v,.int .i64 k0] w fun e w'=>e=.returned (.int .i64 ((k0+N:Nat):Int))∧Below w.heap.size w w':=by
 obtain ⟨ao,c,rfl⟩:=h.any;have HO:=hide h;clear h;go_enter Tryz.func61,Tryz.ntmps61;go_wp2
 go_loopw [1,5] (fun m i wr=>Below w.heap.size w wr∧∃ (k:Nat),k≤N∧i=.int .i64 k∧m=.int .i64 ((k0+k:Nat):Int)) (fun m i wr=>N - (RowKit.intOf i).toNat)
 case atStart=>exact ⟨Below.refl _ _,0,Nat.zero_le _,rfl,rfl⟩
 case round=>
  obtain ⟨hbel,k,hk,rfl,rfl⟩:=hrel;have HB:=hide hbel;obtain ⟨K,hK⟩:∃ K,k0+k=K:=⟨_,rfl⟩;rw [hK];have HK:=hide hK;have hKb:K≤200000000:=by omega
  have hK1:1≤K:=by omega
  by_cases hkn:k<N
  ·have hRk:(mkn k0 N)[k]?=some (K:Int):=by rw [mkn_at hkn,hK]
   obtain ⟨g,cc,e,hc0,hf0⟩:=(HO.out.past hbel).cells hRk
   cases e
   have ewk:IntKind.u64.wrap (K:Int)=(K:Int):=by rw [IntKind.wrap_u64];omega
   clear hbel hK hRk;go_wp2;go_roundw
   case rel=>
    have e1:=HK.out;exact ⟨HB.out,k+1,by omega,by go_num,by go_num⟩
   case measure=>simp [RowKit.intOf];omega
  ·have HE:Hid ((K:Int)=((k0+N:Nat):Int)):=(by omega:(K:Int)=((k0+N:Nat):Int))
   clear hbel hK;go_wp2;go_ret;exact ⟨by rw [← HE.out];rfl,HB.out⟩
set_option maxHeartbeats 1000000 in
theorem c_markInt64S {w:World} {B N:Nat} {v:Value} {R:List Int} (k0:Nat) (h0:1≤k0) (h1:k0≤100000000) (hl:N≤1048576) (h:OwnN .i64 2 w B v N R) :
  Calls Tryz.prog 59 #[v,.int .i64 k0] w fun e w'=>e=.returned (.int .i64 ((k0+N:Nat):Int))∧OwnN .i64 2 w' B v N (mkn k0 N)∧w.grownBy w' v.ownBlock:=by
 obtain ⟨ao,c,rfl⟩:=h.any;have HO:=hide h;have HN:=hide h.1;clear h;go_enter Tryz.func59,Tryz.ntmps59;go_wp2
 go_loopw [1,5] (fun m i wr=>w.grownBy wr (Value.slice ao N c).ownBlock∧∃ (k:Nat),k≤N∧i=.int .i64 k∧m=.int .i64 ((k0+k:Nat):Int)∧OwnN .i64 2 wr B (.slice ao N c) N (ovn k0 R k)) (fun m i wr=>N - (RowKit.intOf i).toNat)
 case atStart=>exact ⟨World.grownBy.refl _ _,0,Nat.zero_le _,rfl,rfl,HO.out⟩
 case round=>
  obtain ⟨hg,k,hk,rfl,rfl,hown⟩:=hrel;have HG:=hide hg;have HW:=hide hown;obtain ⟨K,hK⟩:∃ K,k0+k=K:=⟨_,rfl⟩;rw [hK];have HK:=hide hK;have hKb:K≤200000000:=by omega
  have hK1:1≤K:=by omega
  by_cases hkn:k<N
  ·obtain ⟨a,hRk⟩:∃ a,(ovn k0 R k)[k]?=some a:=⟨(ovn k0 R k)[k]'(by have:=HN.out;rw [ovn_len _ _ _ (by omega)];omega),List.getElem?_eq_getElem _⟩
   obtain ⟨g,cc,e,hc0,hf0⟩:=hown.cells hRk
   cases e
   have ewk:IntKind.u64.wrap (K:Int)=(K:Int):=by rw [IntKind.wrap_u64];omega
   have hs:=hown.put (k:=k) ((k0+k:Nat):Int);rw [ovn_set k0 (by have:=HN.out;omega),hK] at hs;have HS:=hide hs;clear hg hown hK hRk hs;go_wp2;go_roundw
   case rel=>
    have e1:=HK.out;exact ⟨HG.out.trans (grownBy_setC _ _ _ _),k+1,by omega,by go_num,by go_num,HS.out⟩
   case measure=>simp [RowKit.intOf];omega
  ·have e:k=N:=by omega
   have HE:Hid ((K:Int)=((k0+N:Nat):Int)):=(by omega:(K:Int)=((k0+N:Nat):Int))
   have HF:Hid (OwnN .i64 2 wr B (.slice ao N c) N (mkn k0 N)):=by
    rw [e,show ovn k0 R N=mkn k0 N by rw [HN.out];exact ovn_all _ _] at hown;exact hown
   clear hg hown hK e;go_wp2;go_ret;exact ⟨by rw [← HE.out];rfl,HF.out,HG.out⟩
set_option maxHeartbeats 1000000 in
theorem c_heldInt64S {w:World} {B N:Nat} {v:Value} (k0:Nat) (h0:1≤k0) (h1:k0≤100000000) (hl:N≤1048576) (h:OwnN .i64 2 w B v N (mkn k0 N)) :
  Calls Tryz.prog 62 #[v,.int .i64 k0] w fun e w'=>e=.returned (.int .i64 ((k0+N:Nat):Int))∧Below w.heap.size w w':=by
 obtain ⟨ao,c,rfl⟩:=h.any;have HO:=hide h;clear h;go_enter Tryz.func62,Tryz.ntmps62;go_wp2
 go_loopw [1,5] (fun m i wr=>Below w.heap.size w wr∧∃ (k:Nat),k≤N∧i=.int .i64 k∧m=.int .i64 ((k0+k:Nat):Int)) (fun m i wr=>N - (RowKit.intOf i).toNat)
 case atStart=>exact ⟨Below.refl _ _,0,Nat.zero_le _,rfl,rfl⟩
 case round=>
  obtain ⟨hbel,k,hk,rfl,rfl⟩:=hrel;have HB:=hide hbel;obtain ⟨K,hK⟩:∃ K,k0+k=K:=⟨_,rfl⟩;rw [hK];have HK:=hide hK;have hKb:K≤200000000:=by omega
  have hK1:1≤K:=by omega
  by_cases hkn:k<N
  ·have hRk:(mkn k0 N)[k]?=some (K:Int):=by rw [mkn_at hkn,hK]
   obtain ⟨g,cc,e,hc0,hf0⟩:=(HO.out.past hbel).cells hRk
   cases e
   have ewk:IntKind.u64.wrap (K:Int)=(K:Int):=by rw [IntKind.wrap_u64];omega
   clear hbel hK hRk;go_wp2;go_roundw
   case rel=>
    have e1:=HK.out;exact ⟨HB.out,k+1,by omega,by go_num,by go_num⟩
   case measure=>simp [RowKit.intOf];omega
  ·have HE:Hid ((K:Int)=((k0+N:Nat):Int)):=(by omega:(K:Int)=((k0+N:Nat):Int))
   clear hbel hK;go_wp2;go_ret;exact ⟨by rw [← HE.out];rfl,HB.out⟩
end
section
open Go.ChangeShapes Go.WideShapes Go.ChangeAt Go.RowKit Go.PlainAid Go.Lib
set_option maxRecDepth 10000
theorem OwnB.put2 {w:World} {B b off c n k:Nat} {L:List Bn} (h:OwnB w B (.slice (some ⟨b,off,none⟩) n c) n L) (hk:k<n) (x:Bn) :
  OwnB ((w.setCell ⟨b,off+k*2,none⟩ (.int .i64 x.1)).setCell ⟨b,off+k*2+1,none⟩ (.int .u64 x.2)) B (.slice (some ⟨b,off,none⟩) n c) n (L.set k x):=by
 have hl:=h.1;refine ⟨by rw [List.length_set];exact h.1,?_⟩;rcases h.2 with ⟨e,_⟩ | ⟨b',off',c',cur,e,h1,h2,h3⟩
 ·cases e
 ·cases e
  refine .inr ⟨b,off,c,_,rfl,h1,heap_setCell_same _ b _ _ _ _ (heap_setCell_same w b _ _ _ _ h2),fun j q hq=>?_,h3.2.1,h3.2.2.1,by simpa using h3.2.2.2⟩;have hj:=(List.getElem?_eq_some_iff.1 hq).1;rw [fl_len encB2,List.length_set] at hj;obtain ⟨q0,hq0⟩:∃ q0,(fl encB L)[j]?=some q0:=⟨(fl encB L)[j]'(by rw [fl_len encB2];omega),List.getElem?_eq_getElem _⟩;have hc:=h3.1 j q0 hq0;have hsz:=(Array.getElem?_eq_some_iff.1 hc).1;rw [← fl_set encB2 L k x (by omega) (rfl:encB x=[.int .i64 x.1,.int .u64 x.2])] at hq;rw [Array.getElem?_setIfInBounds,Array.getElem?_setIfInBounds];rw [List.getElem?_set,List.getElem?_set] at hq;by_cases c1:k*2+1=j
  ·rw [if_pos c1,if_pos (by simp [fl_len encB2];omega)] at hq
   rw [if_pos (by omega),if_pos (by simp;omega)];exact hq
  ·rw [if_neg c1] at hq
   rw [if_neg (by omega)];by_cases c2:k*2=j
   ·rw [if_pos c2,if_pos (by simp [fl_len encB2];omega)] at hq
    rw [if_pos (by omega),if_pos (by omega)];exact hq
   ·rw [if_neg c2] at hq
    rw [if_neg (by omega)];exact h3.1 j q hq
def mkb (k0:Nat) (i:Nat):Bn:=(((k0+2*i:Nat):Int),((k0+2*i+1:Nat):Int))
def mkbs (k0 n:Nat):List Bn:=(List.range n).map (mkb k0)
theorem mkbs_len (k0 n:Nat):(mkbs k0 n).length=n:=by simp [mkbs]
theorem mkbs_at {k0 n i:Nat} (h:i<n):(mkbs k0 n)[i]?=some (mkb k0 i):=by simp [mkbs,h]
def ovb (k0:Nat) (R:List Bn) (k:Nat):List Bn:=mkbs k0 k ++ R.drop k
theorem ovb_len (k0:Nat) (R:List Bn) (k:Nat) (hk:k≤R.length):(ovb k0 R k).length=R.length:=by simp [ovb,mkbs_len];omega
theorem ovb_set (k0:Nat) {R:List Bn} {k:Nat} (hk:k<R.length):(ovb k0 R k).set k (mkb k0 k)=ovb k0 R (k+1):=by
 unfold ovb;rw [List.set_append_right _ _ (by rw [mkbs_len];omega),mkbs_len,Nat.sub_self];have e:R.drop k=R[k] :: R.drop (k+1):=List.drop_eq_getElem_cons hk;rw [e,List.set_cons_zero]
 show mkbs k0 k ++ mkb k0 k :: R.drop (k+1)=(List.range (k+1)).map (mkb k0) ++ R.drop (k+1)
 rw [List.range_succ,List.map_append,List.append_assoc];rfl
theorem ovb_all (k0:Nat) (R:List Bn):ovb k0 R R.length=mkbs k0 R.length:=by simp [ovb]
set_option maxHeartbeats 1000000 in
theorem c_markBinS {w:World} {B N:Nat} {v:Value} {R:List Bn} (k0:Nat) (h0:1≤k0) (h1:k0≤100000000) (hl:N≤1048576) (h:OwnB w B v N R) :
  Calls Tryz.prog 57 #[v,.int .i64 k0] w fun e w'=>e=.returned (.int .i64 ((k0+2*N:Nat):Int))∧OwnB w' B v N (mkbs k0 N)∧w.grownBy w' v.ownBlock:=by
 obtain ⟨ao,c,rfl⟩:=h.any;have HO:=hide h;have HN:=hide h.1;clear h;go_enter Tryz.func57,Tryz.ntmps57;go_wp2
 go_loopw [1,5] (fun m i wr=>w.grownBy wr (Value.slice ao N c).ownBlock∧∃ (k:Nat),k≤N∧i=.int .i64 k∧m=.int .i64 ((k0+2*k:Nat):Int)∧OwnB wr B (.slice ao N c) N (ovb k0 R k)) (fun m i wr=>N - (RowKit.intOf i).toNat)
 case atStart=>exact ⟨World.grownBy.refl _ _,0,Nat.zero_le _,rfl,rfl,HO.out⟩
 case round=>
  obtain ⟨hg,k,hk,rfl,rfl,hown⟩:=hrel;have HG:=hide hg;have HW:=hide hown;obtain ⟨K,hK⟩:∃ K,k0+2*k=K:=⟨_,rfl⟩;rw [hK];have HK:=hide hK;have hKb:K≤200000000:=by omega
  have hK1:1≤K:=by omega
  by_cases hkn:k<N
  ·obtain ⟨⟨a,u⟩,hRk⟩:∃ a,(ovb k0 R k)[k]?=some a:=⟨(ovb k0 R k)[k]'(by have:=HN.out;rw [ovb_len _ _ _ (by omega)];omega),List.getElem?_eq_getElem _⟩
   obtain ⟨g,off,cc,e,hc0,hc1,hf0,hf1,hgz⟩:=hown.cells hRk
   cases e
   have ewk:IntKind.u64.wrap ((K:Int)+1)=(K:Int)+1:=by rw [IntKind.wrap_u64];omega
   have hs:=hown.put2 hkn (mkb k0 k);rw [ovb_set k0 (by have:=HN.out;omega),show mkb k0 k=((K:Int),((K:Int)+1)) by unfold mkb;rw [hK];rfl] at hs;have HS:=hide hs
   have hf1':(wr.setCell ⟨g,off+k*2,none⟩ (.int .i64 K)).frozen? ⟨g,off+k*2+1,none⟩=false:=by
    rcases hown.2 with ⟨e,_⟩ | ⟨b',off',c',cur,e,h1,h2,h3⟩
    ·cases e
    ·cases e
     exact frozen_of_row _ g _ _ _ (heap_setCell_same wr g _ _ _ _ h2)
   clear hg hown hK hRk hs;go_wp2;go_roundw
   case rel=>
    have e1:=HK.out;exact ⟨(HG.out.trans (grown_one _ _ _ _)).trans (grown_one _ _ _ _),k+1,by omega,by go_num,by go_num,HS.out⟩
   case measure=>simp [RowKit.intOf];omega
  ·have e:k=N:=by omega
   have HE:Hid ((K:Int)=((k0+2*N:Nat):Int)):=(by omega:(K:Int)=((k0+2*N:Nat):Int))
   have HF:Hid (OwnB wr B (.slice ao N c) N (mkbs k0 N)):=by
    rw [e,show ovb k0 R N=mkbs k0 N by rw [HN.out];exact ovb_all _ _] at hown;exact hown
   clear hg hown hK e;go_wp2;go_ret;exact ⟨by rw [← HE.out];rfl,HF.out,HG.out⟩
set_option maxHeartbeats 1000000 in
theorem c_heldBinS {w:World} {B N:Nat} {v:Value} (k0:Nat) (h0:1≤k0) (h1:k0≤100000000) (hl:N≤1048576) (h:OwnB w B v N (mkbs k0 N)) :
  Calls Tryz.prog 60 #[v,.int .i64 k0] w fun e w'=>e=.returned (.int .i64 ((k0+2*N:Nat):Int))∧Below w.heap.size w w':=by
 obtain ⟨ao,c,rfl⟩:=h.any;have HO:=hide h;clear h;go_enter Tryz.func60,Tryz.ntmps60;go_wp2
 go_loopw [1,5] (fun m i wr=>Below w.heap.size w wr∧∃ (k:Nat),k≤N∧i=.int .i64 k∧m=.int .i64 ((k0+2*k:Nat):Int)) (fun m i wr=>N - (RowKit.intOf i).toNat)
 case atStart=>exact ⟨Below.refl _ _,0,Nat.zero_le _,rfl,rfl⟩
 case round=>
  obtain ⟨hbel,k,hk,rfl,rfl⟩:=hrel;have HB:=hide hbel;obtain ⟨K,hK⟩:∃ K,k0+2*k=K:=⟨_,rfl⟩;rw [hK];have HK:=hide hK;have hKb:K≤200000000:=by omega
  have hK1:1≤K:=by omega
  by_cases hkn:k<N
  ·have hRk:(mkbs k0 N)[k]?=some ((K:Int),(K:Int)+1):=by rw [mkbs_at hkn];unfold mkb;rw [hK];rfl
   obtain ⟨g,off,cc,e,hc0,hc1,hf0,hf1,hgz⟩:=(HO.out.past hbel).cells hRk
   cases e
   have ewk:IntKind.u64.wrap ((K:Int)+1)=(K:Int)+1:=by rw [IntKind.wrap_u64];omega
   clear hbel hRk hK;go_wp2;go_roundw
   case rel=>have:=HK.out;exact ⟨HB.out,k+1,by omega,by go_num,by go_num⟩
   case measure=>simp [RowKit.intOf];omega
  ·have e:k=N:=by omega
   have HE:Hid ((K:Int)=((k0+2*N:Nat):Int)):=(by omega:(K:Int)=((k0+2*N:Nat):Int));clear hbel hK e;go_wp2;go_ret;exact ⟨by rw [← HE.out];rfl,HB.out⟩
end
section
open Go.ChangeShapes Go.WideShapes Go.ChangeAt Go.RowKit Go.PlainAid
set_option maxRecDepth 10000
theorem GrownS.ofBelow {w w':World} (h:Below w.heap.size w w'):GrownS w w' (fun _=>False):=⟨h.os,h.tape,h.output,h.size,fun k hk _=>h.block k hk⟩
theorem GrownS.weak {w w':World} {S T:Nat→Prop} (h:GrownS w w' S) (hs:∀ k,S k→T k):GrownS w w' T:=⟨h.os,h.tape,h.output,h.size,fun k hk hn=>h.block k hk (fun e=>hn (hs k e))⟩
end
section
open Go.ChangeShapes Go.WideShapes Go.ChangeAt Go.RowKit Go.PlainAid Go.Lib
set_option maxRecDepth 10000
def cst (c:Ce):Nat:=11+2*c.g.P.length+2*c.g.N.length+c.g.E.length+c.g.R.length
def mkC (k:Nat) (c:Ce):Ce:=
 ⟨((k:Nat):Int),mtx (k+1),⟨((k+2:Nat):Int),((k+3:Nat):Int),((k+4:Nat):Int),((k+5:Nat):Int),((k+6:Nat):Int),((k+7:Nat):Int),((k+8:Nat):Int),mkbs (k+9) c.g.P.length,mkbs (k+9+2*c.g.P.length) c.g.N.length,((k+9+2*c.g.P.length+2*c.g.N.length:Nat):Int),((k+10+2*c.g.P.length+2*c.g.N.length:Nat):Int),mkn (k+11+2*c.g.P.length+2*c.g.N.length) c.g.E.length,mkn (k+11+2*c.g.P.length+2*c.g.N.length+c.g.E.length) c.g.R.length⟩,c.p⟩
def totC:List Ce→Nat
 | []=>0
 | c :: L=>cst c+totC L
def mkCs:Nat→List Ce→List Ce
 | _,[]=>[]
 | k,c :: L=>mkC k c :: mkCs (k+cst c) L
theorem mkCs_len:∀ (k:Nat) (L:List Ce),(mkCs k L).length=L.length
 | _,[]=>rfl
 | k,c :: L=>by rw [mkCs,List.length_cons,mkCs_len,List.length_cons]
theorem totC_app:∀ (L M:List Ce),totC (L ++ M)=totC L+totC M
 | [],M=>by simp [totC]
 | c :: L,M=>by rw [List.cons_append,totC,totC_app L M,totC];omega
theorem totC_take {L:List Ce} {i:Nat} {c:Ce} (h:L[i]?=some c):totC (L.take (i+1))=totC (L.take i)+cst c:=by
 rw [List.take_add_one,h,totC_app];simp [totC]
theorem mkCs_app:∀ (k:Nat) (L M:List Ce),mkCs k (L ++ M)=mkCs k L ++ mkCs (k+totC L) M
 | k,[],M=>by simp [mkCs,totC]
 | k,c :: L,M=>by rw [List.cons_append,mkCs,mkCs_app,mkCs,totC,List.cons_append,show k+cst c+totC L=k+(cst c+totC L) by omega]
theorem totC_mono (L:List Ce) (i:Nat):totC (L.take i)≤totC L:=by
 have:=totC_app (L.take i) (L.drop i);rw [List.take_append_drop] at this;omega
def ovC (k0:Nat) (L:List Ce) (i:Nat):List Ce:=mkCs k0 (L.take i) ++ L.drop i
theorem ovC_len (k0:Nat) (L:List Ce) (i:Nat) (h:i≤L.length):(ovC k0 L i).length=L.length:=by simp [ovC,mkCs_len];omega
theorem ovC_zero (k0:Nat) (L:List Ce):ovC k0 L 0=L:=by simp [ovC,mkCs]
theorem ovC_all (k0:Nat) (L:List Ce):ovC k0 L L.length=mkCs k0 L:=by simp [ovC]
theorem ovC_at {k0:Nat} {L:List Ce} {i:Nat} {c:Ce} (h:L[i]?=some c):(ovC k0 L i)[i]?=some c:=by
 have hi:=(List.getElem?_eq_some_iff.1 h).1;have hl:(mkCs k0 (L.take i)).length=i:=by rw [mkCs_len];simp;omega
 unfold ovC;rw [List.getElem?_append_right (by omega),hl,Nat.sub_self,List.getElem?_drop]
 simpa using h
theorem ovC_set {k0:Nat} {L:List Ce} {i:Nat} {c:Ce} (h:L[i]?=some c):(ovC k0 L i).set i (mkC (k0+totC (L.take i)) c)=ovC k0 L (i+1):=by
 have hi:=(List.getElem?_eq_some_iff.1 h).1;have hl:(mkCs k0 (L.take i)).length=i:=by rw [mkCs_len];simp;omega
 unfold ovC;rw [List.set_append_right _ _ (by omega),hl,Nat.sub_self,List.drop_eq_getElem_cons hi,List.set_cons_zero,List.take_add_one,h,mkCs_app];simp [mkCs]
theorem flC_same:∀ (L:List Ce) (i:Nat) (c c':Ce),L[i]?=some c→ceL c'=ceL c→flC (L.set i c')=flC L
 | [],i,c,c',h,e=>by simp at h
 | x :: xs,0,c,c',h,e=>by
  obtain rfl:x=c:=by simpa using h
  rw [List.set_cons_zero,flC_cons,flC_cons,e]
 | x :: xs,i+1,c,c',h,e=>by
  rw [List.set_cons_succ,flC_cons,flC_cons,flC_same xs i c c' (by simpa using h) e]
theorem OwnC.re {w:World} {B i:Nat} {v:Value} {L:List Ce} {c c':Ce} (h:OwnC w B v L) (hc:L[i]?=some c) (e:ceL c'=ceL c):OwnC w B v (L.set i c'):=by
 show World.ownsRow _ _ _ _ _ _ _
 rw [List.length_set,flC_same L i c c' hc e];exact h
theorem CesO.upd {w w':World} {B i:Nat} {L:List Ce} {c c':Ce} {r:Option Nat} (h:CesO w B L) (hc:L[i]?=some c) (hg:w.grownBy w' r) (hr:∀ k,r=some k→AgBlk c.g c.p k) (hb:∀ k,AgBlk c'.g c'.p k→AgBlk c.g c.p k) (ho:AgO w' B c'.g c'.p):CesO w' B (L.set i c'):=by
 obtain ⟨hi,hci⟩:=List.getElem?_eq_some_iff.1 hc
 have far:∀ j (hj:j<L.length),j≠i→ApC c L[j]:=fun j hj hne=>by
  rcases Nat.lt_or_gt_of_ne hne with q | q
  ·have:=(List.pairwise_iff_getElem.1 h.ap) j i hj hi q
   rw [hci] at this;exact this.symm
  ·have:=(List.pairwise_iff_getElem.1 h.ap) i j hi hj q
   rw [hci] at this;exact this
 have hS:GrownS w w' (fun k=>r=some k):=⟨hg.os,hg.tape,hg.output,hg.size,fun k hk hn=>hg.block k hk (fun e=>hn e.symm)⟩;refine ⟨fun d hd=>?_,List.pairwise_iff_getElem.2 (fun a b ha hb' hab=>?_)⟩
 ·obtain ⟨j,hj,e⟩:=List.getElem_of_mem hd
  have hj':j<L.length:=by simpa using hj
  rw [List.getElem_set] at e;by_cases q:i=j
  ·rw [if_pos q] at e;rw [← e];exact ho
  ·rw [if_neg q] at e
   rw [← e];exact (h.o _ (List.getElem_mem hj')).keptS hS (fun k k1 k2=>far j hj' (fun e=>q e.symm) k (hr k k2) k1)
 ·have ha2:a<L.length:=by simpa using ha
  have hb2:b<L.length:=by simpa using hb'
  rw [List.getElem_set,List.getElem_set];by_cases q1:i=a
  ·rw [if_pos q1,if_neg (by omega)]
   exact fun k k1 k2=>far b hb2 (by omega) k (hb k k1) k2
  ·rw [if_neg q1]
   by_cases q2:i=b
   ·rw [if_pos q2]
    exact fun k k1 k2=>far a ha2 (by omega) k (hb k k2) k1
   ·rw [if_neg q2]
    exact (List.pairwise_iff_getElem.1 h.ap) a b ha2 hb2 hab
theorem AgO.re {w:World} {B:Nat} {g g':Ag} {p:Pl} (h:AgO w B g p) (h1:g'.P=g.P) (h2:g'.N=g.N) (h3:g'.E=g.E) (h4:g'.R=g.R):AgO w B g' p:=by
 obtain ⟨a,b,c,d,e⟩:=h;exact ⟨by rw [h1];exact a,by rw [h2];exact b,by rw [h1,h2];exact c,by rw [h3];exact d,by rw [h4];exact e⟩
theorem blk_same {g g':Ag} {p:Pl}:∀ k,AgBlk g' p k→AgBlk g p k:=fun k h=>by
 obtain ⟨pa,pc,na,nc,ea,ec,ra,rc⟩:=p;unfold AgBlk at h ⊢
 cases pa <;> cases na <;> cases ea <;> cases ra <;> exact h
theorem AgO.mP {w w':World} {B n k0:Nat} {g:Ag} {p:Pl} (h:AgO w B g p) (hn:n=g.P.length) (ho:OwnB w' B (.slice p.pa n p.pc) n (mkbs k0 n)) (hg:w.grownBy w' (Value.slice p.pa n p.pc).ownBlock):AgO w' B { g with P:=mkbs k0 n } p:=by
 subst hn;have e:(mkbs k0 g.P.length).length=g.P.length:=mkbs_len _ _;refine ⟨by show OwnB _ _ (.slice p.pa (mkbs k0 g.P.length).length p.pc) (mkbs k0 g.P.length).length _;rw [e];exact ho,h.N.keptS (gS hg) (fun k q1 q2=>h.ap k q2 q1),by show Apart (.slice p.pa (mkbs k0 g.P.length).length p.pc) _;rw [e];exact h.ap,h.E.keptS (gS hg) (fun k q1 q2=>Ty.ne (own_ty h.E.2) h.P.ty (by decide) k q1 q2),h.R.keptS (gS hg) (fun k q1 q2=>Ty.ne (own_ty h.R.2) h.P.ty (by decide) k q1 q2)⟩
theorem AgO.mN {w w':World} {B n k0:Nat} {g:Ag} {p:Pl} (h:AgO w B g p) (hn:n=g.N.length) (ho:OwnB w' B (.slice p.na n p.nc) n (mkbs k0 n)) (hg:w.grownBy w' (Value.slice p.na n p.nc).ownBlock):AgO w' B { g with N:=mkbs k0 n } p:=by
 subst hn;have e:(mkbs k0 g.N.length).length=g.N.length:=mkbs_len _ _;refine ⟨h.P.keptS (gS hg) (fun k q1 q2=>h.ap k q1 q2),by show OwnB _ _ (.slice p.na (mkbs k0 g.N.length).length p.nc) (mkbs k0 g.N.length).length _;rw [e];exact ho,by show Apart _ (.slice p.na (mkbs k0 g.N.length).length p.nc);rw [e];exact h.ap,h.E.keptS (gS hg) (fun k q1 q2=>Ty.ne (own_ty h.E.2) h.N.ty (by decide) k q1 q2),h.R.keptS (gS hg) (fun k q1 q2=>Ty.ne (own_ty h.R.2) h.N.ty (by decide) k q1 q2)⟩
theorem AgO.mR {w w':World} {B n k0:Nat} {g:Ag} {p:Pl} (h:AgO w B g p) (hn:n=g.R.length) (ho:OwnN .i64 2 w' B (.slice p.ra n p.rc) n (mkn k0 n)) (hg:w.grownBy w' (Value.slice p.ra n p.rc).ownBlock):AgO w' B { g with R:=mkn k0 n } p:=by
 subst hn;have e:(mkn k0 g.R.length).length=g.R.length:=mkn_len _ _;refine ⟨h.P.keptS (gS hg) (fun k q1 q2=>Ty.ne h.P.ty (own_ty h.R.2) (by decide) k q1 q2),h.N.keptS (gS hg) (fun k q1 q2=>Ty.ne h.N.ty (own_ty h.R.2) (by decide) k q1 q2),h.ap,h.E.keptS (gS hg) (fun k q1 q2=>Ty.ne (own_ty h.E.2) (own_ty h.R.2) (by decide) k q1 q2),by show OwnN _ _ _ _ (.slice p.ra (mkn k0 g.R.length).length p.rc) (mkn k0 g.R.length).length _;rw [e];exact ho⟩
def CBlk (v:Value) (L:List Ce) (k:Nat):Prop:=v.ownBlock=some k∨∃ c∈L,AgBlk c.g c.p k
structure MkS (w W:World) (B:Nat) (v:Value) (L0 M:List Ce):Prop where
 r:OwnC W B v M
 o:CesO W B M
 g:GrownS w W (CBlk v L0)
theorem MkS.past {w W W':World} {B:Nat} {v:Value} {L0 M:List Ce} (h:MkS w W B v L0 M) (hb:Below W.heap.size W W'):MkS w W' B v L0 M:=⟨h.r.past hb,h.o.past hb,(h.g.trans (GrownS.ofBelow hb)).weak (fun k q=>q.elim id (fun f=>f.elim))⟩
theorem MkS.put1 {w W:World} {B gg cp n i j:Nat} {L0 M:List Ce} {c c':Ce} {u:Value} (h:MkS w W B (.slice (some ⟨gg,0,none⟩) n cp) L0 M) (hn:M.length=n) (hc:M[i]?=some c) (hj:j<15) (e:ceL c'=(ceL c).set j u) (hp:c'.p=c.p) (h1:c'.g.P=c.g.P) (h2:c'.g.N=c.g.N) (h3:c'.g.E=c.g.E) (h4:c'.g.R=c.g.R):MkS w (W.setCell ⟨gg,i*15+j,none⟩ u) B (.slice (some ⟨gg,0,none⟩) n cp) L0 (M.set i c'):=by
 have hg:W.grownBy (W.setCell ⟨gg,i*15+j,none⟩ u) (some gg):=⟨rfl,rfl,rfl,(KeepsWalks.setCell W _ u).size,fun a _ hk=>Below.heap_setCell _ _ _ a (fun e=>hk (by rw [e]))⟩;have o1:CesO (W.setCell ⟨gg,i*15+j,none⟩ u) B M:=h.o.row h.r hg;have ho:=(o1.o c (List.mem_of_getElem? hc)).re h1 h2 h3 h4;refine ⟨h.r.put1 hn hc hj e,o1.upd hc (World.grownBy.refl _ none) (fun k q=>by cases q) (by rw [hp];exact blk_same) (by rw [hp];exact ho),(h.g.trans (gS hg)).weak (fun k q=>q.elim id (fun f=>.inl f))⟩
theorem MkS.lst {w W W':World} {B i:Nat} {v:Value} {L0 M:List Ce} {c:Ce} {g':Ag} {r:Option Nat} (h:MkS w W B v L0 M) (hc:M[i]?=some c) (hg:W.grownBy W' r) (hr:∀ k,r=some k→AgBlk c.g c.p k) (h0:∀ k,AgBlk c.g c.p k→∃ d∈L0,AgBlk d.g d.p k) (e:ceL ⟨c.n,c.s,g',c.p⟩=ceL c) (ho:AgO W' B g' c.p):MkS w W' B v L0 (M.set i ⟨c.n,c.s,g',c.p⟩):=by
 have hm:=List.mem_of_getElem? hc;refine ⟨OwnC.re (World.ownsRow.kept h.r hg ?_) hc e,h.o.upd hc hg hr blk_same ho,(h.g.trans (gS hg)).weak (fun k q=>q.elim id (fun f=>.inr (h0 k (hr k f))))⟩
 cases q:v.ownBlock with
 | none=>exact .inl rfl
 | some j=>exact .inr (fun e=>h.r.ne (h.o.o c hm) j (hr j e.symm) q)
end
section
open Go.ChangeShapes Go.WideShapes Go.ChangeAt Go.RowKit Go.PlainAid Go.Lib
set_option maxRecDepth 10000
theorem own_addr {w:World} {B n cp:Nat} {ao:Option Addr} {M:List Ce} (h:OwnC w B (.slice ao n cp) M) (h0:0<M.length):∃ g,ao=some ⟨g,0,none⟩:=by
 rcases h.2 with ⟨e,q⟩ | ⟨g,cap,cur,e,q1,q2⟩
 ·omega
 ·injection e with e1 e2 e3
  exact ⟨g,e1⟩
theorem row_cells {w:World} {B g cp n i:Nat} {M:List Ce} {c:Ce} (h:OwnC w B (.slice (some ⟨g,0,none⟩) n cp) M) (hn:M.length=n) (hc:M[i]?=some c):CeCell w g (i*15) c∧∀ j,w.frozen? ⟨g,j,none⟩=false:=by
 subst hn;have q:=own_cells h hc;rw [Nat.zero_add] at q;exact ⟨q,fun j=>World.ownsRow.frozenAt h j⟩
theorem MkS.pt {w W:World} {B gg cp n i j:Nat} {L0 M:List Ce} {c c':Ce} {u:Value} (h:MkS w W B (.slice (some ⟨gg,0,none⟩) n cp) L0 (M.set i c)) (hn:M.length=n) (hi:i<n) (hj:j<15) (e:ceL c'=(ceL c).set j u) (hp:c'.p=c.p) (h1:c'.g.P=c.g.P) (h2:c'.g.N=c.g.N) (h3:c'.g.E=c.g.E) (h4:c'.g.R=c.g.R):MkS w (W.setCell ⟨gg,i*15+j,none⟩ u) B (.slice (some ⟨gg,0,none⟩) n cp) L0 (M.set i c'):=by
 have q:=h.put1 (i:=i) (c:=c) (c':=c') (by rw [List.length_set];exact hn) (by simp [hn,hi]) hj e hp h1 h2 h3 h4;rw [List.set_set] at q;exact q
theorem MkS.ls {w W W':World} {B i n:Nat} {v:Value} {L0 M:List Ce} {c d:Ce} {g':Ag} {r:Option Nat} (h:MkS w W B v L0 (M.set i c)) (hn:M.length=n) (hi:i<n) (hg:W.grownBy W' r) (hr:∀ k,r=some k→AgBlk c.g c.p k) (hd:d∈L0) (hp:c.p=d.p) (e:ceL ⟨c.n,c.s,g',c.p⟩=ceL c) (ho:AgO W' B g' c.p):MkS w W' B v L0 (M.set i ⟨c.n,c.s,g',c.p⟩):=by
 have q:=h.lst (i:=i) (c:=c) (by simp [hn,hi]) hg hr (fun k q=>⟨d,hd,by rw [← hp];exact blk_same k q⟩) e ho;rw [List.set_set] at q;exact q
theorem MkS.ag {w W:World} {B i n:Nat} {v:Value} {L0 M:List Ce} {c:Ce} (h:MkS w W B v L0 (M.set i c)) (hn:M.length=n) (hi:i<n):AgO W B c.g c.p:=
 h.o.o c (List.mem_of_getElem? (show (M.set i c)[i]?=some c by simp [hn,hi]))
theorem MkS.cells {w W:World} {B gg cp n i:Nat} {L0 M:List Ce} {c:Ce} (h:MkS w W B (.slice (some ⟨gg,0,none⟩) n cp) L0 (M.set i c)) (hn:M.length=n) (hi:i<n):CeCell W gg (i*15) c∧∀ j,W.frozen? ⟨gg,j,none⟩=false:=
 row_cells h.r (by rw [List.length_set];exact hn) (by simp [hn,hi])
theorem set_at {M:List Ce} {i:Nat} {c d:Ce} (h:M[i]?=some c):(M.set i d)[i]?=some d:=by
 have:=(List.getElem?_eq_some_iff.1 h).1;simp [this]
set_option maxHeartbeats 8000000 in
theorem c_markCellS {w:World} {B N:Nat} {v:Value} {L:List Ce} (k0:Nat) (h0:1≤k0) (hk:k0+totC L≤50000000) (hN:L.length=N) (lN:N≤1048576) (sm:∀ c∈L,AgSm c.g) (hR:OwnC w B v L) (hO:CesO w B L) :
  Calls Tryz.prog 21 #[v,.int .i64 k0] w fun e w'=>e=.returned (.int .i64 ((k0+totC L:Nat):Int))∧MkS w w' B v L (mkCs k0 L):=by
 obtain ⟨ao,cp,rfl,_⟩:=hR.form;rw [hN] at hR ⊢;have I0:Hid (MkS w w B (.slice ao N cp) L (ovC k0 L 0)):=by rw [ovC_zero];exact ⟨hR,hO,(GrownS.ofBelow (Below.refl _ _)).weak (fun k q=>q.elim)⟩
 have HN:=hide hN;have SM:=hide sm;have HK:=hide hk;clear hR hO hN sm hk;go_enter Tryz.func21,Tryz.ntmps21;go_wp2
 go_loopw [1,5] (fun m i wr=>∃ (k:Nat),k≤N∧i=.int .i64 k∧m=.int .i64 ((k0+totC (L.take k):Nat):Int)∧Hid (MkS w wr B (.slice ao N cp) L (ovC k0 L k))) (fun m i wr=>N - (Go.RowKit.intOf i).toNat)
 case atStart=>exact ⟨0,Nat.zero_le _,rfl,by simp [totC],I0⟩
 case round=>
  clear I0;obtain ⟨k,hk,rfl,rfl,HI⟩:=hrel;by_cases hkn:k<N
  ·obtain ⟨c,hc⟩:∃ c,L[k]?=some c:=⟨L[k]'(by have:=HN.out;omega),List.getElem?_eq_getElem _⟩
   have hov:=ovC_at (k0:=k0) hc;have hol:(ovC k0 L k).length=N:=by rw [ovC_len _ _ _ (by have:=HN.out;omega)];exact HN.out
   obtain ⟨gg,rfl⟩:=own_addr HI.out.r (by omega);obtain ⟨K,hK⟩:∃ K,k0+totC (L.take k)=K:=⟨_,rfl⟩
   have hKb:K+cst c≤50000000:=by
    have h1:=totC_take hc;have h2:=totC_mono L (k+1);have:=HK.out;omega
   rw [hK];have HKK:=hide hK;have HC:=hide hc;have SC:=hide (SM.out c (List.mem_of_getElem? hc));have HM:=hide (List.mem_of_getElem? hc);have HON:=hide hol;have HKB:=hide hKb;have hK1:1≤K:=by omega
   have hkni:(k:Int)<(N:Int):=by omega
   obtain ⟨⟨x0,x1,x2,x3,x4,x5,x6,x7,x8,x9,x10,x11,x12,x13,x14⟩,hfz⟩:=row_cells HI.out.r hol hov;have f0:=hfz (k*15);have hKc:K+11≤50000000:=by unfold cst at hKb;omega
   have S1:Hid (MkS w (wr.setCell ⟨gg,k*15,none⟩ (.int .i64 (K:Int))) B (.slice (some ⟨gg,0,none⟩) N cp) L ((ovC k0 L k).set k ⟨(K:Int),c.s,c.g,c.p⟩)):=HI.out.put1 (j:=0) hol hov (by omega) rfl rfl rfl rfl rfl rfl;have A1:Hid (((ovC k0 L k).set k ⟨(K:Int),c.s,c.g,c.p⟩)[k]?=some ⟨(K:Int),c.s,c.g,c.p⟩):=set_at hov;have L1:Hid (((ovC k0 L k).set k ⟨(K:Int),c.s,c.g,c.p⟩).length=N):=by show _=_;rw [List.length_set];exact hol
   clear hc hov hol hK hKb hfz;go_wp2_with fail;clear x0 x1 x2 x3 x4 x5 x6 x7 x8 x9 x10 x11 x12 x13 x14 f0;generalize wr.setCell ⟨gg,k*15,none⟩ (.int .i64 (K:Int))=W1 at S1 ⊢;have eK1:(K:Int)+1=((K+1:Nat):Int):=rfl;rw [eK1];refine (c_markText (K+1) (by omega) (by omega) _).mono ?_;rintro e w1 ⟨rfl,hb1⟩;replace S1:=hide (S1.out.past hb1);clear hb1 eK1;obtain ⟨⟨x0,x1,x2,x3,x4,x5,x6,x7,x8,x9,x10,x11,x12,x13,x14⟩,hfz⟩:=row_cells S1.out.r L1.out A1.out;have f1:=hfz (k*15+1);have f2:=hfz (k*15+2);have f3:=hfz (k*15+3);have f4:=hfz (k*15+4);have f5:=hfz (k*15+5);have f6:=hfz (k*15+6);have f7:=hfz (k*15+7);have f8:=hfz (k*15+8);clear hfz;have hon:=HON.out;have T1:Hid (MkS w (w1.setCell ⟨gg,k*15+1,none⟩ (.string (mtx (K+1)))) B (.slice (some ⟨gg,0,none⟩) N cp) L ((ovC k0 L k).set k (⟨(K:Int),mtx (K+1),c.g,c.p⟩:Ce))):=MkS.pt (j:=1) (c':=(⟨(K:Int),mtx (K+1),c.g,c.p⟩:Ce)) S1.out hon hkn (by omega) rfl rfl rfl rfl rfl rfl;have T2:Hid (MkS w ((w1.setCell ⟨gg,k*15+1,none⟩ (.string (mtx (K+1)))).setCell ⟨gg,k*15+2,none⟩ (.int .i64 ((K:Int)+1+1))) B (.slice (some ⟨gg,0,none⟩) N cp) L ((ovC k0 L k).set k (⟨(K:Int),mtx (K+1),{ c.g with k:=(K:Int)+1+1 },c.p⟩:Ce))):=MkS.pt (j:=2) (c':=(⟨(K:Int),mtx (K+1),{ c.g with k:=(K:Int)+1+1 },c.p⟩:Ce)) T1.out hon hkn (by omega) rfl rfl rfl rfl rfl rfl;have T3:Hid (MkS w (((w1.setCell ⟨gg,k*15+1,none⟩ (.string (mtx (K+1)))).setCell ⟨gg,k*15+2,none⟩ (.int .i64 ((K:Int)+1+1))).setCell ⟨gg,k*15+2+1,none⟩ (.int .u64 ((K:Int)+1+1+1))) B (.slice (some ⟨gg,0,none⟩) N cp) L ((ovC k0 L k).set k (⟨(K:Int),mtx (K+1),{ c.g with k:=(K:Int)+1+1,s:=(K:Int)+1+1+1 },c.p⟩:Ce))):=MkS.pt (j:=3) (c':=(⟨(K:Int),mtx (K+1),{ c.g with k:=(K:Int)+1+1,s:=(K:Int)+1+1+1 },c.p⟩:Ce)) T2.out hon hkn (by omega) rfl rfl rfl rfl rfl rfl;have T4:Hid (MkS w ((((w1.setCell ⟨gg,k*15+1,none⟩ (.string (mtx (K+1)))).setCell ⟨gg,k*15+2,none⟩ (.int .i64 ((K:Int)+1+1))).setCell ⟨gg,k*15+2+1,none⟩ (.int .u64 ((K:Int)+1+1+1))).setCell ⟨gg,k*15+4,none⟩ (.int .i64 ((K:Int)+1+1+1+1))) B (.slice (some ⟨gg,0,none⟩) N cp) L ((ovC k0 L k).set k (⟨(K:Int),mtx (K+1),{ c.g with k:=(K:Int)+1+1,s:=(K:Int)+1+1+1,h:=(K:Int)+1+1+1+1 },c.p⟩:Ce))):=MkS.pt (j:=4) (c':=(⟨(K:Int),mtx (K+1),{ c.g with k:=(K:Int)+1+1,s:=(K:Int)+1+1+1,h:=(K:Int)+1+1+1+1 },c.p⟩:Ce)) T3.out hon hkn (by omega) rfl rfl rfl rfl rfl rfl;have T5:Hid (MkS w (((((w1.setCell ⟨gg,k*15+1,none⟩ (.string (mtx (K+1)))).setCell ⟨gg,k*15+2,none⟩ (.int .i64 ((K:Int)+1+1))).setCell ⟨gg,k*15+2+1,none⟩ (.int .u64 ((K:Int)+1+1+1))).setCell ⟨gg,k*15+4,none⟩ (.int .i64 ((K:Int)+1+1+1+1))).setCell ⟨gg,k*15+2+2+1,none⟩ (.int .u64 ((K:Int)+1+1+1+1+1))) B (.slice (some ⟨gg,0,none⟩) N cp) L ((ovC k0 L k).set k (⟨(K:Int),mtx (K+1),{ c.g with k:=(K:Int)+1+1,s:=(K:Int)+1+1+1,h:=(K:Int)+1+1+1+1,l:=(K:Int)+1+1+1+1+1 },c.p⟩:Ce))):=MkS.pt (j:=5) (c':=(⟨(K:Int),mtx (K+1),{ c.g with k:=(K:Int)+1+1,s:=(K:Int)+1+1+1,h:=(K:Int)+1+1+1+1,l:=(K:Int)+1+1+1+1+1 },c.p⟩:Ce)) T4.out hon hkn (by omega) rfl rfl rfl rfl rfl rfl;have T6:Hid (MkS w ((((((w1.setCell ⟨gg,k*15+1,none⟩ (.string (mtx (K+1)))).setCell ⟨gg,k*15+2,none⟩ (.int .i64 ((K:Int)+1+1))).setCell ⟨gg,k*15+2+1,none⟩ (.int .u64 ((K:Int)+1+1+1))).setCell ⟨gg,k*15+4,none⟩ (.int .i64 ((K:Int)+1+1+1+1))).setCell ⟨gg,k*15+2+2+1,none⟩ (.int .u64 ((K:Int)+1+1+1+1+1))).setCell ⟨gg,k*15+2+4,none⟩ (.int .i64 ((K:Int)+1+1+1+1+1+1))) B (.slice (some ⟨gg,0,none⟩) N cp) L ((ovC k0 L k).set k (⟨(K:Int),mtx (K+1),{ c.g with k:=(K:Int)+1+1,s:=(K:Int)+1+1+1,h:=(K:Int)+1+1+1+1,l:=(K:Int)+1+1+1+1+1,a:=(K:Int)+1+1+1+1+1+1 },c.p⟩:Ce))):=MkS.pt (j:=6) (c':=(⟨(K:Int),mtx (K+1),{ c.g with k:=(K:Int)+1+1,s:=(K:Int)+1+1+1,h:=(K:Int)+1+1+1+1,l:=(K:Int)+1+1+1+1+1,a:=(K:Int)+1+1+1+1+1+1 },c.p⟩:Ce)) T5.out hon hkn (by omega) rfl rfl rfl rfl rfl rfl;have T7:Hid (MkS w (((((((w1.setCell ⟨gg,k*15+1,none⟩ (.string (mtx (K+1)))).setCell ⟨gg,k*15+2,none⟩ (.int .i64 ((K:Int)+1+1))).setCell ⟨gg,k*15+2+1,none⟩ (.int .u64 ((K:Int)+1+1+1))).setCell ⟨gg,k*15+4,none⟩ (.int .i64 ((K:Int)+1+1+1+1))).setCell ⟨gg,k*15+2+2+1,none⟩ (.int .u64 ((K:Int)+1+1+1+1+1))).setCell ⟨gg,k*15+2+4,none⟩ (.int .i64 ((K:Int)+1+1+1+1+1+1))).setCell ⟨gg,k*15+2+5,none⟩ (.int .i64 ((K:Int)+1+1+1+1+1+1+1))) B (.slice (some ⟨gg,0,none⟩) N cp) L ((ovC k0 L k).set k (⟨(K:Int),mtx (K+1),{ c.g with k:=(K:Int)+1+1,s:=(K:Int)+1+1+1,h:=(K:Int)+1+1+1+1,l:=(K:Int)+1+1+1+1+1,a:=(K:Int)+1+1+1+1+1+1,t:=(K:Int)+1+1+1+1+1+1+1 },c.p⟩:Ce))):=MkS.pt (j:=7) (c':=(⟨(K:Int),mtx (K+1),{ c.g with k:=(K:Int)+1+1,s:=(K:Int)+1+1+1,h:=(K:Int)+1+1+1+1,l:=(K:Int)+1+1+1+1+1,a:=(K:Int)+1+1+1+1+1+1,t:=(K:Int)+1+1+1+1+1+1+1 },c.p⟩:Ce)) T6.out hon hkn (by omega) rfl rfl rfl rfl rfl rfl;have T8:Hid (MkS w ((((((((w1.setCell ⟨gg,k*15+1,none⟩ (.string (mtx (K+1)))).setCell ⟨gg,k*15+2,none⟩ (.int .i64 ((K:Int)+1+1))).setCell ⟨gg,k*15+2+1,none⟩ (.int .u64 ((K:Int)+1+1+1))).setCell ⟨gg,k*15+4,none⟩ (.int .i64 ((K:Int)+1+1+1+1))).setCell ⟨gg,k*15+2+2+1,none⟩ (.int .u64 ((K:Int)+1+1+1+1+1))).setCell ⟨gg,k*15+2+4,none⟩ (.int .i64 ((K:Int)+1+1+1+1+1+1))).setCell ⟨gg,k*15+2+5,none⟩ (.int .i64 ((K:Int)+1+1+1+1+1+1+1))).setCell ⟨gg,k*15+8,none⟩ (.int .u64 ((K:Int)+1+1+1+1+1+1+1+1))) B (.slice (some ⟨gg,0,none⟩) N cp) L ((ovC k0 L k).set k (⟨(K:Int),mtx (K+1),{ c.g with k:=(K:Int)+1+1,s:=(K:Int)+1+1+1,h:=(K:Int)+1+1+1+1,l:=(K:Int)+1+1+1+1+1,a:=(K:Int)+1+1+1+1+1+1,t:=(K:Int)+1+1+1+1+1+1+1,z:=(K:Int)+1+1+1+1+1+1+1+1 },c.p⟩:Ce))):=MkS.pt (j:=8) (c':=(⟨(K:Int),mtx (K+1),{ c.g with k:=(K:Int)+1+1,s:=(K:Int)+1+1+1,h:=(K:Int)+1+1+1+1,l:=(K:Int)+1+1+1+1+1,a:=(K:Int)+1+1+1+1+1+1,t:=(K:Int)+1+1+1+1+1+1+1,z:=(K:Int)+1+1+1+1+1+1+1+1 },c.p⟩:Ce)) T7.out hon hkn (by omega) rfl rfl rfl rfl rfl rfl;clear S1 hon T1 T2 T3 T4 T5 T6 T7;go_wp2_with fail;clear x0 x1 x2 x3 x4 x5 x6 x7 x8 x9 x10 x11 x12 x13 x14 f1 f2 f3 f4 f5 f6 f7 f8;generalize ((((((((w1.setCell ⟨gg,k*15+1,none⟩ (.string (mtx (K+1)))).setCell ⟨gg,k*15+2,none⟩ (.int .i64 ((K:Int)+1+1))).setCell ⟨gg,k*15+2+1,none⟩ (.int .u64 ((K:Int)+1+1+1))).setCell ⟨gg,k*15+4,none⟩ (.int .i64 ((K:Int)+1+1+1+1))).setCell ⟨gg,k*15+2+2+1,none⟩ (.int .u64 ((K:Int)+1+1+1+1+1))).setCell ⟨gg,k*15+2+4,none⟩ (.int .i64 ((K:Int)+1+1+1+1+1+1))).setCell ⟨gg,k*15+2+5,none⟩ (.int .i64 ((K:Int)+1+1+1+1+1+1+1))).setCell ⟨gg,k*15+8,none⟩ (.int .u64 ((K:Int)+1+1+1+1+1+1+1+1)))=W2 at T8 ⊢;have e9:(K:Int)+1+1+1+1+1+1+1+1+1=((K+9:Nat):Int):=by omega
   rw [e9];clear e9;obtain ⟨c2,hc2⟩:∃ c2:Ce,c2=(⟨(K:Int),mtx (K+1),{ c.g with k:=(K:Int)+1+1,s:=(K:Int)+1+1+1,h:=(K:Int)+1+1+1+1,l:=(K:Int)+1+1+1+1+1,a:=(K:Int)+1+1+1+1+1+1,t:=(K:Int)+1+1+1+1+1+1+1,z:=(K:Int)+1+1+1+1+1+1+1+1 },c.p⟩:Ce):=⟨_,rfl⟩;rw [← hc2] at T8;have q1:c2.p=c.p:=by rw [hc2]
   have q2:c2.g.P=c.g.P:=by rw [hc2]
   have q3:c2.g.N=c.g.N:=by rw [hc2]
   have q4:c2.g.E=c.g.E:=by rw [hc2]
   have q5:c2.g.R=c.g.R:=by rw [hc2]
   have AG:=hide (T8.out.ag HON.out hkn);have hP2:OwnB W2 B (.slice c.p.pa c.g.P.length c.p.pc) c.g.P.length c.g.P:=by have:=AG.out.P;rw [q1,q2] at this;exact this
   have hcb:K+11+2*c.g.P.length+2*c.g.N.length+c.g.E.length+c.g.R.length≤50000000:=by have:=HKB.out;unfold cst at this;omega
   have HP2:=hide hP2;have HC2:=hide hc2;clear hP2 hc2;refine (c_markBinS (K+9) (by omega) (by omega) SC.out.P HP2.out).mono ?_;rintro e w2 ⟨rfl,hob,hgb⟩;have ag3:=AG.out.mP (k0:=K+9) (n:=c.g.P.length) (by rw [q2]) (by rw [q1];exact hob) (by rw [q1];exact hgb);have S3:=hide (T8.out.ls (g':={ c2.g with P:=mkbs (K+9) c.g.P.length }) HON.out hkn hgb (fun k q=>.inl (.inl (by rw [q1,q2];exact q))) HM.out q1 (by simp [ceL,mkbs_len,q2]) ag3);have AG3:=hide ag3;clear hob hgb ag3 T8 AG HP2;obtain ⟨⟨x0,x1,x2,x3,x4,x5,x6,x7,x8,x9,x10,x11,x12,x13,x14⟩,hfz⟩:=S3.out.cells HON.out hkn;rw [q1,q3] at x10;clear hfz x0 x1 x2 x3 x4 x5 x6 x7 x8 x9 x11 x12 x13 x14;go_wp2_with fail;clear x10;have hN3:OwnB w2 B (.slice c.p.na c.g.N.length c.p.nc) c.g.N.length c.g.N:=by have:=AG3.out.N;rw [q1,q3] at this;exact this
   have HN3:=hide hN3;clear hN3;refine (c_markBinS (K+9+2*c.g.P.length) (by omega) (by omega) SC.out.N HN3.out).mono ?_;rintro e w3 ⟨rfl,hob,hgb⟩;have ag4:=AG3.out.mN (k0:=K+9+2*c.g.P.length) (n:=c.g.N.length) (by rw [q3]) (by rw [q1];exact hob) (by rw [q1];exact hgb);have S4:=hide (S3.out.ls (g':={ c2.g with P:=mkbs (K+9) c.g.P.length,N:=mkbs (K+9+2*c.g.P.length) c.g.N.length }) HON.out hkn hgb (fun k q=>.inl (.inr (by show (Value.slice c2.p.na c2.g.N.length c2.p.nc).ownBlock=_;rw [q1,q3];exact q))) HM.out q1 (by simp [ceL,mkbs_len,q3]) ag4);clear hob hgb ag4 S3 AG3 HN3;obtain ⟨⟨x0,x1,x2,x3,x4,x5,x6,x7,x8,x9,x10,x11,x12,x13,x14⟩,hfz⟩:=S4.out.cells HON.out hkn;have f11:=hfz (k*15+11);have f12:=hfz (k*15+12);rw [q1,q4] at x13;clear hfz;obtain ⟨Q,hQ⟩:∃ Q,K+9+2*c.g.P.length+2*c.g.N.length=Q:=⟨_,rfl⟩;rw [hQ];have HQ:=hide hQ;have hQb:Q+2+c.g.E.length+c.g.R.length≤50000000:=by omega
   clear hQ;have U1:Hid (MkS w (w3.setCell ⟨gg,k*15+11,none⟩ (.int .i64 (Q:Int))) B (.slice (some ⟨gg,0,none⟩) N cp) L ((ovC k0 L k).set k ⟨c2.n,c2.s,{ c2.g with P:=mkbs (K+9) c.g.P.length,N:=mkbs (K+9+2*c.g.P.length) c.g.N.length,x:=(Q:Int) },c2.p⟩)):=MkS.pt (j:=11) S4.out HON.out hkn (by omega) rfl rfl rfl rfl rfl rfl;have U2:Hid (MkS w ((w3.setCell ⟨gg,k*15+11,none⟩ (.int .i64 (Q:Int))).setCell ⟨gg,k*15+2+6+3+1,none⟩ (.int .u64 ((Q:Int)+1))) B (.slice (some ⟨gg,0,none⟩) N cp) L ((ovC k0 L k).set k ⟨c2.n,c2.s,{ c2.g with P:=mkbs (K+9) c.g.P.length,N:=mkbs (K+9+2*c.g.P.length) c.g.N.length,x:=(Q:Int),y:=(Q:Int)+1 },c2.p⟩)):=MkS.pt (j:=12) U1.out HON.out hkn (by omega) rfl rfl rfl rfl rfl rfl;clear S4 U1;go_wp2_with fail;clear x0 x1 x2 x3 x4 x5 x6 x7 x8 x9 x10 x11 x12 x13 x14 f11 f12;generalize (w3.setCell ⟨gg,k*15+11,none⟩ (.int .i64 (Q:Int))).setCell ⟨gg,k*15+2+6+3+1,none⟩ (.int .u64 ((Q:Int)+1))=W4 at U2 ⊢;have e2:(Q:Int)+1+1=((Q+2:Nat):Int):=by omega
   rw [e2];clear e2;have AG4:=hide (U2.out.ag HON.out hkn);have hE4:OwnN .u64 56 W4 B (.slice c.p.ea c.g.E.length c.p.ec) c.g.E.length c.g.E:=by have:=AG4.out.E;simp only [q1,q4] at this;exact this
   have HE4:=hide hE4;clear hE4;refine (c_markUint64S (Q+2) (by omega) (by omega) SC.out.E HE4.out).mono ?_;rintro e w5 ⟨rfl,hob,hgb⟩;have ag5:=AG4.out.mE (k0:=Q+2) (n:=c.g.E.length) (by simp only [q4]) (by simp only [q1];exact hob) (by simp only [q1];exact hgb);have S5:=hide (U2.out.ls (g':={ c2.g with P:=mkbs (K+9) c.g.P.length,N:=mkbs (K+9+2*c.g.P.length) c.g.N.length,x:=(Q:Int),y:=(Q:Int)+1,E:=mkn (Q+2) c.g.E.length }) HON.out hkn hgb (fun k q=>.inr (.inl (by simp only [q1,q4];exact q))) HM.out q1 (by simp [ceL,mkn_len,q4]) ag5);have AG5:=hide ag5;clear hob hgb ag5 U2 AG4 HE4;obtain ⟨⟨x0,x1,x2,x3,x4,x5,x6,x7,x8,x9,x10,x11,x12,x13,x14⟩,hfz⟩:=S5.out.cells HON.out hkn;simp only [q1,q5] at x14;clear hfz x0 x1 x2 x3 x4 x5 x6 x7 x8 x9 x10 x11 x12 x13;go_wp2_with fail;clear x14;have hR5:OwnN .i64 2 w5 B (.slice c.p.ra c.g.R.length c.p.rc) c.g.R.length c.g.R:=by have:=AG5.out.R;simp only [q1,q5] at this;exact this
   have HR5:=hide hR5;clear hR5;refine (c_markInt64S (Q+2+c.g.E.length) (by omega) (by omega) SC.out.R HR5.out).mono ?_;rintro e w6 ⟨rfl,hob,hgb⟩;have ag6:=AG5.out.mR (k0:=Q+2+c.g.E.length) (n:=c.g.R.length) (by simp only [q5]) (by simp only [q1];exact hob) (by simp only [q1];exact hgb);have S6:=S5.out.ls (g':={ c2.g with P:=mkbs (K+9) c.g.P.length,N:=mkbs (K+9+2*c.g.P.length) c.g.N.length,x:=(Q:Int),y:=(Q:Int)+1,E:=mkn (Q+2) c.g.E.length,R:=mkn (Q+2+c.g.E.length) c.g.R.length }) HON.out hkn hgb (fun k q=>.inr (.inr (by simp only [q1,q5];exact q))) HM.out q1 (by simp [ceL,mkn_len,q5]) ag6;have hQ:=HQ.out
   have ec:(⟨c2.n,c2.s,{ c2.g with P:=mkbs (K+9) c.g.P.length,N:=mkbs (K+9+2*c.g.P.length) c.g.N.length,x:=(Q:Int),y:=(Q:Int)+1,E:=mkn (Q+2) c.g.E.length,R:=mkn (Q+2+c.g.E.length) c.g.R.length },c2.p⟩:Ce)=mkC (k0+totC (L.take k)) c:=by
    rw [HKK.out,HC2.out];unfold mkC;rw [show K+11+2*c.g.P.length+2*c.g.N.length=Q+2 by omega,show K+9+2*c.g.P.length+2*c.g.N.length=Q by omega,show K+10+2*c.g.P.length+2*c.g.N.length=Q+1 by omega]
    rfl
   have S7:Hid (MkS w w6 B (.slice (some ⟨gg,0,none⟩) N cp) L (ovC k0 L (k+1))):=by
    rw [ec] at S6;rw [← ovC_set HC.out];exact S6
   have HT:Hid (Q+2+c.g.E.length+c.g.R.length=k0+totC (L.take (k+1))):=by
    show _=_
    rw [totC_take HC.out];have:=HKK.out;unfold cst;omega
   clear hob hgb ag6 S5 AG5 HR5 S6 ec hQ;go_wp2;go_roundw
   case rel=>exact ⟨k+1,by omega,by go_num,by rw [← HT.out];go_num,S7⟩
   case measure=>simp [Go.RowKit.intOf];omega
  ·obtain rfl:k=N:=by omega
   have HF:Hid (MkS w wr B (.slice ao k cp) L (mkCs k0 L)):=by have:=HI.out;rw [← HN.out,ovC_all] at this;rw [← HN.out];exact this
   have HT:Hid (totC (L.take k)=totC L):=by show _=_;rw [List.take_of_length_le (by have:=HN.out;omega)]
   go_wp2;go_ret;exact ⟨by rw [HT.out];rfl,HF.out⟩
end
section
open Go.ChangeShapes Go.WideShapes Go.ChangeAt Go.RowKit Go.PlainAid Go.Lib
set_option maxRecDepth 10000
theorem AgO.past' {w w':World} {B:Nat} {o:Ag} {p:Pl} (h:AgO w B o p) (hb:Below w.heap.size w w'):AgO w' B o p:=h.past hb
theorem mkCs_at:∀ {L:List Ce} {k0 i:Nat} {c:Ce},L[i]?=some c→(mkCs k0 L)[i]?=some (mkC (k0+totC (L.take i)) c)
 | [],_,_,_,h=>by simp at h
 | d :: L,k0,0,c,h=>by
  obtain rfl:d=c:=by simpa using h
  simp [mkCs,totC]
 | d :: L,k0,i+1,c,h=>by
  have:=mkCs_at (L:=L) (k0:=k0+cst d) (i:=i) (c:=c) (by simpa using h);rw [mkCs,List.getElem?_cons_succ,this,List.take_succ_cons,totC,show k0+cst d+totC (L.take i)=k0+(cst d+totC (L.take i)) by omega]
set_option maxHeartbeats 8000000 in
theorem c_heldCellS {w:World} {B N:Nat} {v:Value} {L:List Ce} (k0:Nat) (h0:1≤k0) (hk:k0+totC L≤50000000) (hN:L.length=N) (lN:N≤1048576) (sm:∀ c∈L,AgSm c.g) (hR:OwnC w B v (mkCs k0 L)) (hO:CesO w B (mkCs k0 L)) :
  Calls Tryz.prog 22 #[v,.int .i64 k0] w fun e w'=>e=.returned (.int .i64 ((k0+totC L:Nat):Int))∧Below w.heap.size w w':=by
 obtain ⟨ao,cp,rfl,_⟩:=hR.form;have hml:(mkCs k0 L).length=N:=by rw [mkCs_len];exact hN
 rw [hml] at hR ⊢;have HR:=hide hR;have HO:=hide hO;have HN:=hide hN;have HML:=hide hml;have SM:=hide sm;have HK:=hide hk;clear hR hO hN sm hk hml;go_enter Tryz.func22,Tryz.ntmps22;go_wp2
 go_loopw [1,5] (fun m i wr=>∃ (k:Nat),k≤N∧i=.int .i64 k∧m=.int .i64 ((k0+totC (L.take k):Nat):Int)∧Hid (Below w.heap.size w wr)) (fun m i wr=>N - (Go.RowKit.intOf i).toNat)
 case atStart=>exact ⟨0,Nat.zero_le _,rfl,by simp [totC],Below.refl _ _⟩
 case round=>
  obtain ⟨k,hk,rfl,rfl,HB⟩:=hrel;by_cases hkn:k<N
  ·obtain ⟨c,hc⟩:∃ c,L[k]?=some c:=⟨L[k]'(by have:=HN.out;omega),List.getElem?_eq_getElem _⟩
   have hat:=mkCs_at (k0:=k0) hc;obtain ⟨gg,rfl⟩:=own_addr HR.out (by have:=HML.out;omega);obtain ⟨Zk,hK⟩:∃ Zk,k0+totC (L.take k)=Zk:=⟨_,rfl⟩
   have hKb:Zk+cst c≤50000000:=by
    have h1:=totC_take hc;have h2:=totC_mono L (k+1);have:=HK.out;omega
   have hT:Zk+cst c=k0+totC (L.take (k+1)):=by rw [totC_take hc];omega
   have HT:=hide hT;rw [hK] at hat ⊢;have SC:=hide (SM.out c (List.mem_of_getElem? hc));have AG:=hide (HO.out.o _ (List.mem_of_getElem? hat));have hK1:1≤Zk:=by omega
   have hkni:(k:Int)<(N:Int):=by omega
   have HX:=hide (row_cells HR.out HML.out hat).1;unfold cst at hKb;clear hc hat hK hT;obtain ⟨x0,x1,x2,x3,x4,x5,x6,x7,x8,x9,x10,x11,x12,x13,x14⟩:=cec_past HX.out HB.out;have y0:wr.cell? ⟨gg,k*15,none⟩=some (.int .i64 (Zk:Int)):=x0;clear x0 x1 x2 x3 x4 x5 x6 x7 x8 x9 x10 x11 x12 x13 x14;go_upto_region 7 with fail;clear y0
   go_cut [28] (fun v w'=>v=.bool false∧Hid (Below w.heap.size w w'))
   case first=>
    have HS0:(fun W=>Below wr.heap.size wr W) wr.drew:=(Below.refl _ _).drew;refine regionK (fun W=>Below wr.heap.size wr W) 99 (by kernel_rfl) ?_;refine tkS (i:=0) (v:=.slice (some ⟨gg,0,none⟩) N cp) rfl rfl HS0 ?_;refine tkS (i:=1) (v:=.int .i64 (k:Int)) rfl rfl HS0 ?_;refine tkS (i:=2) (v:=.pointer (some ⟨gg,k*15,none⟩)) rfl rfl HS0 ?_;simp only [sA,sB,sC];refine tkS (i:=3) (v:=.pointer (some ⟨gg,k*15+1,none⟩)) rfl rfl HS0 ?_;refine tkL (i:=4) (v:=.string (mtx (Zk+1))) rfl rfl HS0 (fun W hW=>?_) ?_
    ·obtain ⟨x0,x1,x2,x3,x4,x5,x6,x7,x8,x9,x10,x11,x12,x13,x14⟩:=cec_past HX.out (chain HB.out hW)
     change _=some (Value.string (mtx (Zk+1))) at x1
     clear hW;go_simp
    refine tkS (i:=5) (v:=.int .i64 ((Zk:Int)+1)) rfl rfl HS0 ?_;simp only [sA,sB,sC];refine onE (i:=6) rfl (fun K hK=>?_);go_simp;rw [show (Zk:Int)+1=((Zk+1:Nat):Int) from rfl];refine (c_markText (Zk+1) (by omega) (by omega) _).mono ?_;rintro e w1 ⟨rfl,hb1⟩;have HB1:Hid (Below wr.heap.size wr w1):=(HS0:Below wr.heap.size wr wr.drew).trans (hb1.mono (Nat.le_refl _));clear hb1;dsimp only;refine hK.out _ _ (fun _=>HB1.out) ?_;clear hK K
    try simp only [Act.put,sA,sB,sC]
    have hss:((mtx (Zk+1)).toList != (mtx (Zk+1)).toList)=false:=by simp
    refine tkS (i:=7) (v:=.bool false) rfl rfl HB1.out ?_;simp only [sA,sB,sC];refine doneK (by kernel_rfl) ?_ _;go_wp2;go_meet;exact ⟨rfl,chain HB.out HB1.out⟩
   case rest=>
   obtain ⟨rfl,HB2⟩:=hcut;obtain ⟨W2,hW2⟩:∃ X,wc=X:=⟨_,rfl⟩;rw [hW2] at HB2 ⊢;clear hW2;obtain ⟨x0,x1,x2,x3,x4,x5,x6,x7,x8,x9,x10,x11,x12,x13,x14⟩:=cec_past HX.out HB2.out;have y2:W2.cell? ⟨gg,k*15+2,none⟩=some (.int .i64 ((Zk:Int)+1+1)):=x2;have y3:W2.cell? ⟨gg,k*15+3,none⟩=some (.int .u64 ((Zk:Int)+1+1+1)):=x3;have y4:W2.cell? ⟨gg,k*15+4,none⟩=some (.int .i64 ((Zk:Int)+1+1+1+1)):=x4;have y5:W2.cell? ⟨gg,k*15+5,none⟩=some (.int .u64 ((Zk:Int)+1+1+1+1+1)):=x5;have y6:W2.cell? ⟨gg,k*15+6,none⟩=some (.int .i64 ((Zk:Int)+1+1+1+1+1+1)):=x6;have y7:W2.cell? ⟨gg,k*15+7,none⟩=some (.int .i64 ((Zk:Int)+1+1+1+1+1+1+1)):=x7;have y8:W2.cell? ⟨gg,k*15+8,none⟩=some (.int .u64 ((Zk:Int)+1+1+1+1+1+1+1+1)):=x8;have y9:W2.cell? ⟨gg,k*15+9,none⟩=some (.slice c.p.pa c.g.P.length c.p.pc):=by have:=x9;simp only [mkC,mkbs_len] at this;exact this
   clear x0 x1 x2 x3 x4 x5 x6 x7 x8 x9 x10 x11 x12 x13 x14;go_wp2_with fail;clear y2 y3 y4 y5 y6 y7 y8 y9;rw [show (Zk:Int)+1+1+1+1+1+1+1+1+1=((Zk+9:Nat):Int) by omega];have hP:OwnB W2 B (.slice c.p.pa c.g.P.length c.p.pc) c.g.P.length (mkbs (Zk+9) c.g.P.length):=by have:=(AG.out.past' HB2.out).P;simp only [mkC,mkbs_len] at this;exact this
   have HP:=hide hP;clear hP;refine (c_heldBinS (Zk+9) (by omega) (by omega) SC.out.P HP.out).mono ?_;rintro e w3 ⟨rfl,hb3⟩;have HB3:=hide (chain HB2.out hb3);clear hb3 HP HB2;have hn1:¬ (((Zk+9+2*c.g.P.length:Nat):Int)<0):=by omega
   obtain ⟨x0,x1,x2,x3,x4,x5,x6,x7,x8,x9,x10,x11,x12,x13,x14⟩:=cec_past HX.out HB3.out;have y10:w3.cell? ⟨gg,k*15+10,none⟩=some (.slice c.p.na c.g.N.length c.p.nc):=by have:=x10;simp only [mkC,mkbs_len] at this;exact this
   clear x0 x1 x2 x3 x4 x5 x6 x7 x8 x9 x10 x11 x12 x13 x14;go_wp2_with fail;clear y10;have hN3:OwnB w3 B (.slice c.p.na c.g.N.length c.p.nc) c.g.N.length (mkbs (Zk+9+2*c.g.P.length) c.g.N.length):=by have:=(AG.out.past' HB3.out).N;simp only [mkC,mkbs_len] at this;exact this
   have HN3:=hide hN3;clear hN3;refine (c_heldBinS (Zk+9+2*c.g.P.length) (by omega) (by omega) SC.out.N HN3.out).mono ?_;rintro e w4 ⟨rfl,hb4⟩;have HB4:=hide (chain HB3.out hb4);clear hb4 HN3 HB3 hn1;obtain ⟨Q,hQ⟩:∃ Q,Zk+9+2*c.g.P.length+2*c.g.N.length=Q:=⟨_,rfl⟩;rw [hQ];have HQ:=hide hQ;have hQb:Q+2+c.g.E.length+c.g.R.length≤50000000:=by omega
   have hn2:¬ ((Q:Int)<0):=by omega
   obtain ⟨x0,x1,x2,x3,x4,x5,x6,x7,x8,x9,x10,x11,x12,x13,x14⟩:=cec_past HX.out HB4.out;have y11:w4.cell? ⟨gg,k*15+11,none⟩=some (.int .i64 (Q:Int)):=by rw [← hQ];exact x11
   have y12:w4.cell? ⟨gg,k*15+12,none⟩=some (.int .u64 ((Q:Int)+1)):=by have:=x12;simp only [mkC] at this;rw [this];congr 2;omega
   have y13:w4.cell? ⟨gg,k*15+13,none⟩=some (.slice c.p.ea c.g.E.length c.p.ec):=by have:=x13;simp only [mkC,mkn_len] at this;exact this
   clear hQ x0 x1 x2 x3 x4 x5 x6 x7 x8 x9 x10 x11 x12 x13 x14;go_wp2_with fail;clear y11 y12 y13;rw [show (Q:Int)+1+1=((Q+2:Nat):Int) by omega]
   have hE:OwnN .u64 56 w4 B (.slice c.p.ea c.g.E.length c.p.ec) c.g.E.length (mkn (Q+2) c.g.E.length):=by
    have:=(AG.out.past' HB4.out).E;simp only [mkC,mkn_len] at this;rw [show Zk+11+2*c.g.P.length+2*c.g.N.length=Q+2 by have:=HQ.out;omega] at this;exact this
   have HE:=hide hE;clear hE;refine (c_heldUint64S (Q+2) (by omega) (by omega) SC.out.E HE.out).mono ?_;rintro e w5 ⟨rfl,hb5⟩;have HB5:=hide (chain HB4.out hb5);clear hb5 HE HB4;have hn3:¬ (((Q+2+c.g.E.length:Nat):Int)<0):=by omega
   obtain ⟨x0,x1,x2,x3,x4,x5,x6,x7,x8,x9,x10,x11,x12,x13,x14⟩:=cec_past HX.out HB5.out;have y14:w5.cell? ⟨gg,k*15+14,none⟩=some (.slice c.p.ra c.g.R.length c.p.rc):=by have:=x14;simp only [mkC,mkn_len] at this;exact this
   clear x0 x1 x2 x3 x4 x5 x6 x7 x8 x9 x10 x11 x12 x13 x14;go_wp2_with fail;clear y14
   have hR5:OwnN .i64 2 w5 B (.slice c.p.ra c.g.R.length c.p.rc) c.g.R.length (mkn (Q+2+c.g.E.length) c.g.R.length):=by
    have:=(AG.out.past' HB5.out).R;simp only [mkC,mkn_len] at this;rw [show Zk+11+2*c.g.P.length+2*c.g.N.length=Q+2 by have:=HQ.out;omega] at this;exact this
   have HR5:=hide hR5;clear hR5;refine (c_heldInt64S (Q+2+c.g.E.length) (by omega) (by omega) SC.out.R HR5.out).mono ?_;rintro e w6 ⟨rfl,hb6⟩;have HB6:=hide (chain HB5.out hb6);have hn4:¬ (((Q+2+c.g.E.length+c.g.R.length:Nat):Int)<0):=by omega
   have HTT:Hid (Q+2+c.g.E.length+c.g.R.length=k0+totC (L.take (k+1))):=by
    show _=_
    rw [← HT.out];have:=HQ.out;unfold cst;omega
   clear hb6 HR5 HB5 hn3;go_wp2;go_roundw
   case rel=>exact ⟨k+1,by omega,by go_num,by rw [← HTT.out];go_num,HB6⟩
   case measure=>simp [Go.RowKit.intOf];omega
  ·obtain rfl:k=N:=by omega
   have HF:Hid (totC (L.take k)=totC L):=by show _=_;rw [List.take_of_length_le (by have:=HN.out;omega)]
   go_wp2;go_ret;exact ⟨by rw [HF.out];rfl,HB.out⟩
end
section
open Go.ChangeShapes Go.WideShapes Go.ChangeAt Go.RowKit Go.PlainAid Go.Lib
set_option maxRecDepth 10000
theorem AgOwn.o {w:World} {B gp gn ge gr:Nat} {g:Ag} (h:AgOwn w B g (plNew g gp gn ge gr)) (hpn:gp<gn):AgO w B g (plNew g gp gn ge gr):=
 ⟨OwnB.of h.P rfl,OwnB.of h.N rfl,fun k e1 e2=>by
  have h1:gp=k:=Option.some.inj e1;have h2:gn=k:=Option.some.inj e2;omega,⟨rfl,h.E⟩,⟨rfl,h.R⟩⟩
structure CeRowX (w:World) (g N:Nat) (M:List Ce):Prop where
 row:∃ cur:Array Value,w.heap[g]?=some (.cells cur 69 (0,0))∧cur.size=N*15∧∀ i c,M[i]?=some c→∀ j v,(ceArr c)[j]?=some v→cur[i*15+j]?=some v
 own:∀ c∈M,AgO w (g+1) c.g c.p
 ap:M.Pairwise ApC
theorem CeRowX.past {w w':World} {g N:Nat} {M:List Ce} (h:CeRowX w g N M) (hb:Below w.heap.size w w'):CeRowX w' g N M:=by
 obtain ⟨cur,h1,h2,h3⟩:=h.row;exact ⟨⟨cur,(hb.block g (Array.getElem?_eq_some_iff.1 h1).1).trans h1,h2,h3⟩,fun c hc=>(h.own c hc).past hb,h.ap⟩
theorem CeRowX.below {w:World} {g N r j:Nat} {M:List Ce} (h:CeRowX w g N M) (hr:r<g) (u:Value):CeRowX (w.setCell ⟨r,j,none⟩ u) g N M:=by
 obtain ⟨cur,h1,h2,h3⟩:=h.row;exact ⟨⟨cur,by rw [heap_setCell_other _ _ _ _ (by simp;omega)];exact h1,h2,h3⟩,fun c hc=>(h.own c hc).below (by omega) u,h.ap⟩
theorem CeRowX.own_all {w:World} {g N:Nat} {M:List Ce} (h:CeRowX w g N M) (hN:M.length=N) (hl:N≤1048576):OwnC w g (.slice (some ⟨g,0,none⟩) N N) M∧CesO w g M:=by
 obtain ⟨cur,h1,h2,h3⟩:=h.row;refine ⟨?_,fun c hc=>(h.own c hc).le (Nat.le_succ _),h.ap⟩;refine ⟨by rw [flC_len],.inr ⟨g,N,cur,by rw [hN],Nat.le_refl _,h1,by omega,by unfold maxLen;omega,h2,?_⟩⟩;apply List.ext_getElem?;intro j;by_cases hj:j<M.length*15
 ·rw [List.getElem?_take_of_lt hj,Array.getElem?_toList]
  have hi:j / 15<M.length:=by omega
  obtain ⟨c,hc⟩:∃ c,M[j / 15]?=some c:=⟨_,List.getElem?_eq_getElem hi⟩;have q1:=flC_at M (j / 15) c (j % 15) (by omega) hc;rw [show j / 15*15+j % 15=j by omega] at q1;obtain ⟨v,hv⟩:∃ v,(ceArr c)[j % 15]?=some v:=⟨(ceArr c)[j % 15]'(by show j % 15<15;omega),Array.getElem?_eq_getElem _⟩;have q2:=h3 (j / 15) c hc (j % 15) v hv;rw [show j / 15*15+j % 15=j by omega] at q2;rw [q2,q1]
  show _=(ceArr c).toList[j % 15]?
  rw [Array.getElem?_toList,hv]
 ·rw [List.getElem?_eq_none (by simp;omega),List.getElem?_eq_none (by rw [flC_len];omega)]
theorem CeRowX.put {w:World} {g N:Nat} {M:List Ce} (h:CeRowX w g N M) {c:Ce} {q:Pl} (hN:M.length<N) (ho:AgO w (g+1) c.g q) (hf:∀ d∈M,ApC d ⟨c.n,c.s,c.g,q⟩) :
  CeRowX (((((((((((((((w.setCell ⟨g,M.length*15,none⟩ (.int .i64 c.n)).setCell ⟨g,M.length*15+1,none⟩ (.string c.s)).setCell ⟨g,M.length*15+2,none⟩ (.int .i64 c.g.k)).setCell ⟨g,M.length*15+3,none⟩ (.int .u64 c.g.s)).setCell ⟨g,M.length*15+4,none⟩ (.int .i64 c.g.h)).setCell ⟨g,M.length*15+5,none⟩ (.int .u64 c.g.l)).setCell ⟨g,M.length*15+6,none⟩ (.int .i64 c.g.a)).setCell ⟨g,M.length*15+7,none⟩ (.int .i64 c.g.t)).setCell ⟨g,M.length*15+8,none⟩ (.int .u64 c.g.z)).setCell ⟨g,M.length*15+9,none⟩ (.slice q.pa c.g.P.length q.pc)).setCell ⟨g,M.length*15+10,none⟩ (.slice q.na c.g.N.length q.nc)).setCell ⟨g,M.length*15+11,none⟩ (.int .i64 c.g.x)).setCell ⟨g,M.length*15+12,none⟩ (.int .u64 c.g.y)).setCell ⟨g,M.length*15+13,none⟩ (.slice q.ea c.g.E.length q.ec)).setCell ⟨g,M.length*15+14,none⟩ (.slice q.ra c.g.R.length q.rc)) g N (M ++ [⟨c.n,c.s,c.g,q⟩]):=by
 obtain ⟨cur,h1,h2,h3⟩:=h.row;obtain ⟨cur',k1,k2,k3⟩:=heap_setCellsC (e:=69) (ceArr ⟨c.n,c.s,c.g,q⟩).toList (M.length*15) w cur h1
 have hap:(M ++ [(⟨c.n,c.s,c.g,q⟩:Ce)]).Pairwise ApC:=List.pairwise_append.2 ⟨h.ap,List.pairwise_singleton _ _,fun a ha b hb=>by
  rw [List.mem_singleton.1 hb];exact hf a ha⟩
 refine ⟨⟨cur',k1,by rw [k2];exact h2,fun i d hd j v e=>?_⟩,fun d hd=>?_,hap⟩
 ·have hj:j<15:=(Array.getElem?_eq_some_iff.1 e).1
  rw [k3];rw [List.getElem?_append] at hd
  split at hd
  ·rename_i hi
   rw [if_neg (by simp;omega)];exact h3 i d hd j v e
  ·rename_i hi
   have hi2:i - M.length=0:=by
    have:=(List.getElem?_eq_some_iff.1 hd).1;simp at this;omega
   rw [hi2] at hd;simp at hd;subst hd;rw [if_pos ⟨by omega,by simp;omega,by omega⟩,show i*15+j - M.length*15=j by omega]
   simpa using e
 ·repeat (refine AgO.below ?_ (Nat.lt_succ_self _) _)
  rcases List.mem_append.1 hd with hd | hd
  ·exact h.own d hd
  ·simp at hd;subst hd;exact ho
set_option maxHeartbeats 4000000 in
theorem c_toCellX {w:World} (c:Ce) (sm:AgSm c.g) (hA:AgAt w c.g c.p) :
  Calls Tryz.prog 139 #[.agg (ceArr c)] w fun e w'=>∃ q,e=.returned (.agg (ceArr ⟨c.n,c.s,c.g,q⟩))∧AgO w' w.heap.size c.g q∧Below w.heap.size w w':=by
 have HA:=hide hA;have SM:=hide sm;have HBa:Hid (∀ o1 o2 o3,Below w.heap.size w (((w.alloc o1).alloc o2).alloc o3)):=fun o1 o2 o3=>(((Below.refl _ _).alloc (Nat.le_refl _) _).alloc (by simp) _).alloc (by simp;omega) _;clear hA sm;go_enter Tryz.func139,Tryz.ntmps139;go_wp2_with fail;refine (c_toAgg SM.out (ag_past HA.out (HBa.out _ _ _))).mono ?_;rintro e w1 ⟨gp,gn,ge,gr,rfl,_,hpn,_,_,_,ow,hb1⟩;replace ow:=ow.o hpn;have hres:=(hb1.block (w.heap.size+1) (by simp)).trans (by rw [heap_alloc_old _ _ (by simp)];simpa using heap_alloc_new (w.alloc (.cells (ceArr c) 177)) (.cells zeroCe 69):_=some (.cells zeroCe 69 (0,0)));have hout:=(hb1.block (w.heap.size+1+1) (by simp)).trans (by simpa using heap_alloc_new ((w.alloc (.cells (ceArr c) 177)).alloc (.cells zeroCe 69)) (.cells #[.int .i64 c.n,.string c.s,.int .i64 0,.int .u64 0,.int .i64 0,.int .u64 0,.int .i64 0,.int .i64 0,.int .u64 0,.slice none 0 0,.slice none 0 0,.int .i64 0,.int .u64 0,.slice none 0 0,.slice none 0 0] 69):_=some (.cells #[.int .i64 c.n,.string c.s,.int .i64 0,.int .u64 0,.int .i64 0,.int .u64 0,.int .i64 0,.int .i64 0,.int .u64 0,.slice none 0 0,.slice none 0 0,.int .i64 0,.int .u64 0,.slice none 0 0,.slice none 0 0] 69 (0,0)));have HT1:=hide ((HBa.out _ _ _).trans (hb1.mono (by simp;omega)));obtain ⟨q,hq⟩:∃ q,plNew c.g gp gn ge gr=q:=⟨_,rfl⟩;have eq0:Value.agg (agArr c.g (plNew c.g gp gn ge gr))=.agg (agArr c.g q):=by rw [hq]
 rw [hq] at ow;rw [eq0];have HO:=hide ow;have hsz:=hb1.size;simp only [World.size_alloc] at HO hsz;have a0:=cellKC hout 0 rfl;have b0:=fzR 0 hout;have c0:=cellKC hres 0 rfl;have d0:=fzR 0 hres;have a1:=cellKC hout 1 rfl;have b1:=fzR 1 hout;have c1:=cellKC hres 1 rfl;have d1:=fzR 1 hres;have a2:=cellKC hout 2 rfl;have b2:=fzR 2 hout;have c2:=cellKC hres 2 rfl;have d2:=fzR 2 hres;have a3:=cellKC hout 3 rfl;have b3:=fzR 3 hout;have c3:=cellKC hres 3 rfl;have d3:=fzR 3 hres;have a4:=cellKC hout 4 rfl;have b4:=fzR 4 hout;have c4:=cellKC hres 4 rfl;have d4:=fzR 4 hres;have a5:=cellKC hout 5 rfl;have b5:=fzR 5 hout;have c5:=cellKC hres 5 rfl;have d5:=fzR 5 hres;have a6:=cellKC hout 6 rfl;have b6:=fzR 6 hout;have c6:=cellKC hres 6 rfl;have d6:=fzR 6 hres;have a7:=cellKC hout 7 rfl;have b7:=fzR 7 hout;have c7:=cellKC hres 7 rfl;have d7:=fzR 7 hres;have a8:=cellKC hout 8 rfl;have b8:=fzR 8 hout;have c8:=cellKC hres 8 rfl;have d8:=fzR 8 hres;have a9:=cellKC hout 9 rfl;have b9:=fzR 9 hout;have c9:=cellKC hres 9 rfl;have d9:=fzR 9 hres;have a10:=cellKC hout 10 rfl;have b10:=fzR 10 hout;have c10:=cellKC hres 10 rfl;have d10:=fzR 10 hres;have a11:=cellKC hout 11 rfl;have b11:=fzR 11 hout;have c11:=cellKC hres 11 rfl;have d11:=fzR 11 hres;have a12:=cellKC hout 12 rfl;have b12:=fzR 12 hout;have c12:=cellKC hres 12 rfl;have d12:=fzR 12 hres;have a13:=cellKC hout 13 rfl;have b13:=fzR 13 hout;have c13:=cellKC hres 13 rfl;have d13:=fzR 13 hres;have a14:=cellKC hout 14 rfl;have b14:=fzR 14 hout;have c14:=cellKC hres 14 rfl;have d14:=fzR 14 hres;clear hres hout hb1 ow hq eq0;go_wp2;refine bodyPost_ret (v:=.agg (ceArr ⟨c.n,c.s,c.g,q⟩)) (by simp [results,Tryz.results139,go_sem,c0,c1,c2,c3,c4,c5,c6,c7,c8,c9,c10,c11,c12,c13,c14]) rfl ⟨q,rfl,?_,?_⟩
 ·refine AgO.le (B:=w.heap.size+1+1+1) ?_ (by omega)
  repeat (refine AgO.below ?_ (by omega) _)
  exact HO.out
 ·repeat (refine Below.setCell ?_ (by simp <;> omega) _)
  exact HT1.out
set_option maxHeartbeats 4000000 in
theorem c_toCellSX {w:World} {ao:Option Addr} {N:Nat} {L:List Ce} (cap:Nat) (hN:L.length=N) (hl:N≤1048576) (sm:∀ c∈L,AgSm c.g) (hA:CesAt w ao L) :
  Calls Tryz.prog 106 #[.slice ao N cap] w fun e w'=>∃ M,e=.returned (.slice (some ⟨w.heap.size,0,none⟩) N N)∧M.length=N∧M.map Ce.key=L.map Ce.key∧CeRowX w' w.heap.size N M∧Below w.heap.size w w':=by
 obtain ⟨i0,hi,hz0,hz1,hz2⟩:=info_parts infoCell;have HN:=hide hN;have SM:=hide sm;have HA:=hide hA;clear hN sm hA;go_enter Tryz.func106,Tryz.ntmps106;go_wp2_with (at_make;refine wpList_make_full _ rfl _ _ 36 rfl w.heap.size 69 i0 (.agg zeroCe) 15 Tryz.underlying36 hi hz0 hz1 .i64 .i64 _ _ N rfl rfl rfl rfl (by rw [hz2];omega) (by unfold maxLen;omega) (Nat.le_refl _) ?_;intro w0 hown0 hgrow0);have hB0:Below w.heap.size w w0:=(Below.refl _ _).grown hgrow0 (Nat.le_refl _) (fun k e=>by cases e)
 have hR0:CeRowX w0 w.heap.size N []:=by
  rcases hown0.2 with ⟨e,_⟩ | ⟨g',cap',cur,e,_,hg',_,_,hcs,htake⟩
  ·cases e
  ·simp only [Value.slice.injEq,Option.some.injEq,Addr.mk.injEq,and_true,true_and] at e
   obtain ⟨rfl,rfl⟩:=e;exact ⟨⟨cur,hg',by omega,fun i c hc=>by simp at hc⟩,(fun c hc=>by simp at hc),.nil⟩
 have HB0:=hide hB0;have HR0:=hide hR0;clear hown0 hgrow0 hB0 hR0;go_wp2
 go_loopw [4] (fun i wr=>∃ (k:Nat) (M:List Ce),k≤N∧i=.int .i64 k∧Hid (M.length=k)∧Hid (M.map Ce.key=(L.take k).map Ce.key)∧Hid (CeRowX wr w.heap.size N M)∧Hid (Below w.heap.size w wr)) (fun i wr=>N - (Go.RowKit.intOf i).toNat)
 case atStart=>exact ⟨0,[],Nat.zero_le _,rfl,hide rfl,hide (by simp),HR0,HB0⟩
 case round=>
  clear HR0 HB0;obtain ⟨k,M,hk,rfl,HMl,HMk,HR,HB⟩:=hrel;by_cases hkn:k<N
  ·have hkni:(k:Int)<(N:Int):=by omega
   obtain ⟨b,off,e,hcell⟩:=HA.out.1 (by have:=HN.out;omega);subst e;obtain ⟨c,hc⟩:∃ c,L[k]?=some c:=⟨L[k]'(by have:=HN.out;omega),List.getElem?_eq_getElem _⟩;have hm:=List.mem_of_getElem? hc;obtain ⟨x0,x1,x2,x3,x4,x5,x6,x7,x8,x9,x10,x11,x12,x13,x14⟩:=cec_past (hcell k c hc) HB.out;have HC:=hide hc;have HM:=hide hm;clear hcell hc hm;go_wp2_with fail;clear x0 x1 x2 x3 x4 x5 x6 x7 x8 x9 x10 x11 x12 x13 x14;refine (c_toCellX c (SM.out c HM.out) (ag_past (HA.out.2 c HM.out) HB.out)).mono ?_;rintro e w1 ⟨q,rfl,ho,hb1⟩;have hR1:=HR.out.past hb1
   have hgs:w.heap.size<wr.heap.size:=by
    obtain ⟨cur,h1,_⟩:=HR.out.row;exact (Array.getElem?_eq_some_iff.1 h1).1
   obtain ⟨cur,r1,r2,r3⟩:=hR1.row
   have hP:=hR1.put (c:=c) (q:=q) (by rw [HMl.out];exact hkn) (ho.le (by omega)) (fun d hd k q1 q2=>by
    have f1:=((HR.out.own d hd).lt q1).2;have f2:=(ho.lt q2).1;omega)
   rw [HMl.out] at hP;have HP:=hide hP;have HT1:=hide (chain HB.out hb1)
   have HK2:Hid ((M ++ [(⟨c.n,c.s,c.g,q⟩:Ce)]).map Ce.key=(L.take (k+1)).map Ce.key):=by
    rw [List.take_add_one,HC.out,List.map_append,List.map_append,HMk.out];exact hide rfl
   have HL2:Hid ((M ++ [(⟨c.n,c.s,c.g,q⟩:Ce)]).length=k+1):=by rw [List.length_append,HMl.out];exact hide rfl
   obtain ⟨z0,hz0'⟩:∃ z,w1.cell? ⟨w.heap.size,k*15,none⟩=some z:=⟨cur[k*15]'(by omega),by rw [cell_of_row _ _ _ _ _ (0,0) r1,Array.getElem?_eq_getElem]⟩;have f0:=fzR (k*15) r1;obtain ⟨z1,hz1'⟩:∃ z,w1.cell? ⟨w.heap.size,k*15+1,none⟩=some z:=⟨cur[k*15+1]'(by omega),by rw [cell_of_row _ _ _ _ _ (0,0) r1,Array.getElem?_eq_getElem]⟩;have f1:=fzR (k*15+1) r1;obtain ⟨z2,hz2'⟩:∃ z,w1.cell? ⟨w.heap.size,k*15+2,none⟩=some z:=⟨cur[k*15+2]'(by omega),by rw [cell_of_row _ _ _ _ _ (0,0) r1,Array.getElem?_eq_getElem]⟩;have f2:=fzR (k*15+2) r1;obtain ⟨z3,hz3'⟩:∃ z,w1.cell? ⟨w.heap.size,k*15+3,none⟩=some z:=⟨cur[k*15+3]'(by omega),by rw [cell_of_row _ _ _ _ _ (0,0) r1,Array.getElem?_eq_getElem]⟩;have f3:=fzR (k*15+3) r1;obtain ⟨z4,hz4'⟩:∃ z,w1.cell? ⟨w.heap.size,k*15+4,none⟩=some z:=⟨cur[k*15+4]'(by omega),by rw [cell_of_row _ _ _ _ _ (0,0) r1,Array.getElem?_eq_getElem]⟩;have f4:=fzR (k*15+4) r1;obtain ⟨z5,hz5'⟩:∃ z,w1.cell? ⟨w.heap.size,k*15+5,none⟩=some z:=⟨cur[k*15+5]'(by omega),by rw [cell_of_row _ _ _ _ _ (0,0) r1,Array.getElem?_eq_getElem]⟩;have f5:=fzR (k*15+5) r1;obtain ⟨z6,hz6'⟩:∃ z,w1.cell? ⟨w.heap.size,k*15+6,none⟩=some z:=⟨cur[k*15+6]'(by omega),by rw [cell_of_row _ _ _ _ _ (0,0) r1,Array.getElem?_eq_getElem]⟩;have f6:=fzR (k*15+6) r1;obtain ⟨z7,hz7'⟩:∃ z,w1.cell? ⟨w.heap.size,k*15+7,none⟩=some z:=⟨cur[k*15+7]'(by omega),by rw [cell_of_row _ _ _ _ _ (0,0) r1,Array.getElem?_eq_getElem]⟩;have f7:=fzR (k*15+7) r1;obtain ⟨z8,hz8'⟩:∃ z,w1.cell? ⟨w.heap.size,k*15+8,none⟩=some z:=⟨cur[k*15+8]'(by omega),by rw [cell_of_row _ _ _ _ _ (0,0) r1,Array.getElem?_eq_getElem]⟩;have f8:=fzR (k*15+8) r1;obtain ⟨z9,hz9'⟩:∃ z,w1.cell? ⟨w.heap.size,k*15+9,none⟩=some z:=⟨cur[k*15+9]'(by omega),by rw [cell_of_row _ _ _ _ _ (0,0) r1,Array.getElem?_eq_getElem]⟩;have f9:=fzR (k*15+9) r1;obtain ⟨z10,hz10'⟩:∃ z,w1.cell? ⟨w.heap.size,k*15+10,none⟩=some z:=⟨cur[k*15+10]'(by omega),by rw [cell_of_row _ _ _ _ _ (0,0) r1,Array.getElem?_eq_getElem]⟩;have f10:=fzR (k*15+10) r1;obtain ⟨z11,hz11'⟩:∃ z,w1.cell? ⟨w.heap.size,k*15+11,none⟩=some z:=⟨cur[k*15+11]'(by omega),by rw [cell_of_row _ _ _ _ _ (0,0) r1,Array.getElem?_eq_getElem]⟩;have f11:=fzR (k*15+11) r1;obtain ⟨z12,hz12'⟩:∃ z,w1.cell? ⟨w.heap.size,k*15+12,none⟩=some z:=⟨cur[k*15+12]'(by omega),by rw [cell_of_row _ _ _ _ _ (0,0) r1,Array.getElem?_eq_getElem]⟩;have f12:=fzR (k*15+12) r1;obtain ⟨z13,hz13'⟩:∃ z,w1.cell? ⟨w.heap.size,k*15+13,none⟩=some z:=⟨cur[k*15+13]'(by omega),by rw [cell_of_row _ _ _ _ _ (0,0) r1,Array.getElem?_eq_getElem]⟩;have f13:=fzR (k*15+13) r1;obtain ⟨z14,hz14'⟩:∃ z,w1.cell? ⟨w.heap.size,k*15+14,none⟩=some z:=⟨cur[k*15+14]'(by omega),by rw [cell_of_row _ _ _ _ _ (0,0) r1,Array.getElem?_eq_getElem]⟩;have f14:=fzR (k*15+14) r1;clear r1 r2 r3 hR1 ho hb1 hP hgs;go_wp2;go_roundw
   case rel=>exact ⟨k+1,_,by omega,by go_num,HL2,HK2,HP,by
    repeat (refine Below.setCell ?_ (by simp) _)
    exact HT1.out⟩
   case measure=>simp [Go.RowKit.intOf];omega
  ·obtain rfl:N=k:=by omega
   have HK2:Hid (M.map Ce.key=L.map Ce.key):=by
    have:=HMk.out;rw [List.take_of_length_le (by have:=HN.out;omega)] at this;exact this
   go_wp2;go_ret;exact ⟨M,rfl,HMl.out,HK2.out,HR.out,HB.out⟩
set_option maxHeartbeats 1000000 in
theorem c_toShardX {w:World} {ao:Option Addr} {N:Nat} {L:List Ce} (nm:ByteArray) (cap:Nat) (hN:L.length=N) (hl:N≤1048576) (sm:∀ c∈L,AgSm c.g) (hA:CesAt w ao L) :
  Calls Tryz.prog 80 #[.agg #[.string nm,.slice ao N cap]] w fun e w'=>∃ M g,e=.returned (.agg #[.string nm,.slice (some ⟨g,0,none⟩) N N])∧w.heap.size<g∧M.length=N∧M.map Ce.key=L.map Ce.key∧CeRowX w' g N M∧Below w.heap.size w w':=by
 have HN:=hide hN;have HA:=hide hA;have SM:=hide sm;clear hN hA sm;go_enter Tryz.func80,Tryz.ntmps80;go_wp2_with fail;obtain ⟨HS,HT0,HR1,HR2⟩:=sh_three w nm (.slice ao N cap);generalize ((w.alloc (.cells #[.string nm,.slice ao N cap] 107)).alloc (.cells #[.string ⟨#[]⟩,.slice none 0 0] 55)).alloc (.cells #[.string nm,.slice none 0 0] 55)=W0 at HS HT0 HR1 HR2 ⊢;refine (c_toCellSX cap HN.out hl SM.out (ces_past HA.out HT0.out)).mono ?_;rintro e w1 ⟨M,rfl,hM,hk,hr,hb1⟩;have hs1:=hb1.size;have R1:=(hb1.block (w.heap.size+1) (by have:=HS.out;omega)).trans HR1.out;have R2:=(hb1.block (w.heap.size+1+1) (by have:=HS.out;omega)).trans HR2.out;have hz1:W0.heap.size=w.heap.size+1+1+1:=HS.out;have HQ:=hide (And.intro hM (And.intro hk hr));have HT1:=hide (chain HT0.out hb1);have x0:=cellKC R1 0 rfl;have x1:=cellKC R1 1 rfl;have y0:=cellKC R2 0 rfl;have y1:=cellKC R2 1 rfl;have f0:=fzR 0 R1;have f1:=fzR 1 R1;have g0:=fzR 0 R2;have g1:=fzR 1 R2;clear hb1 hM hk hr R1 R2;go_wp2;refine bodyPost_ret (v:=.agg #[.string nm,.slice (some ⟨W0.heap.size,0,none⟩) N N]) (by simp [results,Tryz.results80,go_sem,x0,x1,y0,y1]) rfl ⟨M,W0.heap.size,rfl,by omega,HQ.out.1,HQ.out.2.1,?_,?_⟩
 ·repeat (refine CeRowX.below ?_ (by omega) _)
  exact HQ.out.2.2
 ·repeat (refine Below.setCell ?_ (by simp <;> omega) _)
  exact HT1.out
end
end Go.Proofs.YtmjogablacnlgaaGreatDoor
