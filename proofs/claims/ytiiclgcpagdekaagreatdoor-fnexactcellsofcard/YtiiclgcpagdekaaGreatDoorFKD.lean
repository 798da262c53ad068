/-
 The bins of a sketch written over, and held, as the exact laws do to see whose memory an answer is.
-/
import Derived.Test.YtiiclgcpagdekaaGreatDoorFJY
namespace Go.Proofs.YtiiclgcpagdekaaGreatDoor
set_option linter.unusedVariables false
set_option linter.unusedSimpArgs false
open Go.ChangeShapes Go.WideShapes Go.ChangeAt Go.RowKit Go.PlainAid Go.Lib
set_option maxRecDepth 10000
theorem OwnB.put2 {w:World} {B b off c n k:Nat} {L:List Bn} (h:OwnB w B (.slice (some ⟨b,off,none⟩) n c) n L) (hk:k<n) (x:Bn) :
  OwnB ((w.setCell ⟨b,off+k*2,none⟩ (.int .i64 x.1)).setCell ⟨b,off+k*2+1,none⟩ (.int .u64 x.2)) B (.slice (some ⟨b,off,none⟩) n c) n (L.set k x):=by
 have hl:=h.1
 refine ⟨by rw [List.length_set];exact h.1,?_⟩
 rcases h.2 with ⟨e,_⟩ | ⟨b',off',c',cur,e,h1,h2,h3⟩
 ·cases e
 ·cases e
  refine .inr ⟨b,off,c,_,rfl,h1,heap_setCell_same _ b _ _ _ _ (heap_setCell_same w b _ _ _ _ h2),fun j q hq=>?_,h3.2.1,h3.2.2.1,by simpa using h3.2.2.2⟩
  have hj:=(List.getElem?_eq_some_iff.1 hq).1
  rw [fl_len encB2,List.length_set] at hj
  obtain ⟨q0,hq0⟩:∃ q0,(fl encB L)[j]?=some q0:=⟨(fl encB L)[j]'(by rw [fl_len encB2];omega),List.getElem?_eq_getElem _⟩
  have hc:=h3.1 j q0 hq0
  have hsz:=(Array.getElem?_eq_some_iff.1 hc).1
  rw [← fl_set encB2 L k x (by omega) (rfl:encB x=[.int .i64 x.1,.int .u64 x.2])] at hq
  rw [Array.getElem?_setIfInBounds,Array.getElem?_setIfInBounds]
  rw [List.getElem?_set,List.getElem?_set] at hq
  by_cases c1:k*2+1=j
  ·rw [if_pos c1,if_pos (by simp [fl_len encB2];omega)] at hq
   rw [if_pos (by omega),if_pos (by simp;omega)];exact hq
  ·rw [if_neg c1] at hq
   rw [if_neg (by omega)]
   by_cases c2:k*2=j
   ·rw [if_pos c2,if_pos (by simp [fl_len encB2];omega)] at hq
    rw [if_pos (by omega),if_pos (by omega)];exact hq
   ·rw [if_neg c2] at hq
    rw [if_neg (by omega)]
    exact h3.1 j q hq
theorem OwnB.cells {w:World} {B n k:Nat} {v:Value} {L:List Bn} {x:Bn} (h:OwnB w B v n L) (hk:L[k]?=some x) :
  ∃ b off c,v=.slice (some ⟨b,off,none⟩) n c∧w.cell? ⟨b,off+k*2,none⟩=some (.int .i64 x.1)∧w.cell? ⟨b,off+k*2+1,none⟩=some (.int .u64 x.2)∧w.frozen? ⟨b,off+k*2,none⟩=false∧w.frozen? ⟨b,off+k*2+1,none⟩=false∧b<w.heap.size:=by
 have hkl:=(List.getElem?_eq_some_iff.1 hk).1
 have hl:=h.1
 obtain ⟨ao,c,rfl⟩:=h.any
 obtain ⟨b,off,rfl,hc⟩:=h.at (by omega)
 rcases h.2 with ⟨e,_⟩ | ⟨b',off',c',cur,e,h1,h2,h3⟩
 ·cases e
 ·cases e
  exact ⟨b,off,c,rfl,(hc k x hk).1,(hc k x hk).2,frozen_of_row w b _ _ _ h2,frozen_of_row w b _ _ _ h2,(Array.getElem?_eq_some_iff.1 h2).1⟩
def mkb (k0:Nat) (i:Nat):Bn:=(((k0+2*i:Nat):Int),((k0+2*i+1:Nat):Int))
def mkbs (k0 n:Nat):List Bn:=(List.range n).map (mkb k0)
theorem mkbs_len (k0 n:Nat):(mkbs k0 n).length=n:=by simp [mkbs]
theorem mkbs_at {k0 n i:Nat} (h:i<n):(mkbs k0 n)[i]?=some (mkb k0 i):=by simp [mkbs,h]
def ovb (k0:Nat) (R:List Bn) (k:Nat):List Bn:=mkbs k0 k ++ R.drop k
theorem ovb_len (k0:Nat) (R:List Bn) (k:Nat) (hk:k≤R.length):(ovb k0 R k).length=R.length:=by simp [ovb,mkbs_len];omega
theorem ovb_set (k0:Nat) {R:List Bn} {k:Nat} (hk:k<R.length):(ovb k0 R k).set k (mkb k0 k)=ovb k0 R (k+1):=by
 unfold ovb
 rw [List.set_append_right _ _ (by rw [mkbs_len];omega),mkbs_len,Nat.sub_self]
 have e:R.drop k=R[k] :: R.drop (k+1):=List.drop_eq_getElem_cons hk
 rw [e,List.set_cons_zero]
 show mkbs k0 k ++ mkb k0 k :: R.drop (k+1)=(List.range (k+1)).map (mkb k0) ++ R.drop (k+1)
 rw [List.range_succ,List.map_append,List.append_assoc];rfl
theorem ovb_all (k0:Nat) (R:List Bn):ovb k0 R R.length=mkbs k0 R.length:=by simp [ovb]
set_option maxHeartbeats 1000000 in
theorem c_markBinS {w:World} {B N:Nat} {v:Value} {R:List Bn} (k0:Nat) (h0:1≤k0) (h1:k0≤100000000) (hl:N≤1048576) (h:OwnB w B v N R) :
  Calls Tryz.prog 66 #[v,.int .i64 k0] w fun e w'=>e=.returned (.int .i64 ((k0+2*N:Nat):Int))∧OwnB w' B v N (mkbs k0 N)∧w.grownBy w' v.ownBlock:=by
 obtain ⟨ao,c,rfl⟩:=h.any
 have HO:=hide h
 have HN:=hide h.1
 clear h
 go_enter Tryz.func66,Tryz.ntmps66
 go_wp2
 go_loopw [1,5] (fun m i wr=>w.grownBy wr (Value.slice ao N c).ownBlock∧∃ (k:Nat),k≤N∧i=.int .i64 k∧m=.int .i64 ((k0+2*k:Nat):Int)∧OwnB wr B (.slice ao N c) N (ovb k0 R k)) (fun m i wr=>N - (RowKit.intOf i).toNat)
 case atStart=>exact ⟨World.grownBy.refl _ _,0,Nat.zero_le _,rfl,rfl,HO.out⟩
 case round=>
  obtain ⟨hg,k,hk,rfl,rfl,hown⟩:=hrel
  have HG:=hide hg
  have HW:=hide hown
  obtain ⟨K,hK⟩:∃ K,k0+2*k=K:=⟨_,rfl⟩
  rw [hK]
  have HK:=hide hK
  have hKb:K≤200000000:=by omega
  have hK1:1≤K:=by omega
  by_cases hkn:k<N
  ·obtain ⟨⟨a,u⟩,hRk⟩:∃ a,(ovb k0 R k)[k]?=some a:=⟨(ovb k0 R k)[k]'(by have:=HN.out;rw [ovb_len _ _ _ (by omega)];omega),List.getElem?_eq_getElem _⟩
   obtain ⟨g,off,cc,e,hc0,hc1,hf0,hf1,hgz⟩:=hown.cells hRk
   cases e
   have ewk:IntKind.u64.wrap ((K:Int)+1)=(K:Int)+1:=by rw [IntKind.wrap_u64];omega
   have hs:=hown.put2 hkn (mkb k0 k)
   rw [ovb_set k0 (by have:=HN.out;omega),show mkb k0 k=((K:Int),((K:Int)+1)) by unfold mkb;rw [hK];rfl] at hs
   have HS:=hide hs
   have hf1':(wr.setCell ⟨g,off+k*2,none⟩ (.int .i64 K)).frozen? ⟨g,off+k*2+1,none⟩=false:=by
    rcases hown.2 with ⟨e,_⟩ | ⟨b',off',c',cur,e,h1,h2,h3⟩
    ·cases e
    ·cases e
     exact frozen_of_row _ g _ _ _ (heap_setCell_same wr g _ _ _ _ h2)
   clear hg hown hK hRk hs
   go_wp2
   go_roundw
   case rel=>
    have e1:=HK.out
    exact ⟨(HG.out.trans (grown_one _ _ _ _)).trans (grown_one _ _ _ _),k+1,by omega,by go_num,by go_num,HS.out⟩
   case measure=>simp [RowKit.intOf];omega
  ·have e:k=N:=by omega
   have HE:Hid ((K:Int)=((k0+2*N:Nat):Int)):=(by omega:(K:Int)=((k0+2*N:Nat):Int))
   have HF:Hid (OwnB wr B (.slice ao N c) N (mkbs k0 N)):=by
    rw [e,show ovb k0 R N=mkbs k0 N by rw [HN.out];exact ovb_all _ _] at hown;exact hown
   clear hg hown hK e
   go_wp2
   go_ret
   exact ⟨by rw [← HE.out];rfl,HF.out,HG.out⟩
set_option maxHeartbeats 1000000 in
theorem c_heldBinS {w:World} {B N:Nat} {v:Value} (k0:Nat) (h0:1≤k0) (h1:k0≤100000000) (hl:N≤1048576) (h:OwnB w B v N (mkbs k0 N)) :
  Calls Tryz.prog 69 #[v,.int .i64 k0] w fun e w'=>e=.returned (.int .i64 ((k0+2*N:Nat):Int))∧Below w.heap.size w w':=by
 obtain ⟨ao,c,rfl⟩:=h.any
 have HO:=hide h
 clear h
 go_enter Tryz.func69,Tryz.ntmps69
 go_wp2
 go_loopw [1,5] (fun m i wr=>Below w.heap.size w wr∧∃ (k:Nat),k≤N∧i=.int .i64 k∧m=.int .i64 ((k0+2*k:Nat):Int)) (fun m i wr=>N - (RowKit.intOf i).toNat)
 case atStart=>exact ⟨Below.refl _ _,0,Nat.zero_le _,rfl,rfl⟩
 case round=>
  obtain ⟨hbel,k,hk,rfl,rfl⟩:=hrel
  have HB:=hide hbel
  obtain ⟨K,hK⟩:∃ K,k0+2*k=K:=⟨_,rfl⟩
  rw [hK]
  have HK:=hide hK
  have hKb:K≤200000000:=by omega
  have hK1:1≤K:=by omega
  by_cases hkn:k<N
  ·have hRk:(mkbs k0 N)[k]?=some ((K:Int),(K:Int)+1):=by rw [mkbs_at hkn];unfold mkb;rw [hK];rfl
   obtain ⟨g,off,cc,e,hc0,hc1,hf0,hf1,hgz⟩:=(HO.out.past hbel).cells hRk
   cases e
   have ewk:IntKind.u64.wrap ((K:Int)+1)=(K:Int)+1:=by rw [IntKind.wrap_u64];omega
   clear hbel hRk hK
   go_wp2
   go_roundw
   case rel=>have:=HK.out;exact ⟨HB.out,k+1,by omega,by go_num,by go_num⟩
   case measure=>simp [RowKit.intOf];omega
  ·have e:k=N:=by omega
   have HE:Hid ((K:Int)=((k0+2*N:Nat):Int)):=(by omega:(K:Int)=((k0+2*N:Nat):Int))
   clear hbel hK e
   go_wp2
   go_ret
   exact ⟨by rw [← HE.out];rfl,HB.out⟩
end Go.Proofs.YtiiclgcpagdekaaGreatDoor
namespace Go.Proofs.YtiiclgcpagdekaaGreatDoor
set_option linter.unusedVariables false
set_option linter.unusedSimpArgs false
open Go.ChangeShapes Go.WideShapes Go.ChangeAt Go.RowKit Go.PlainAid
set_option maxRecDepth 10000
structure GrownS (w w':World) (S:Nat→Prop):Prop where
 os:w'.os=w.os
 tape:w'.tape=w.tape
 output:w'.output=w.output
 size:w.heap.size≤w'.heap.size
 block:∀ k,k<w.heap.size→¬ S k→w'.heap[k]?=w.heap[k]?
theorem GrownS.trans {w w1 w2:World} {S T:Nat→Prop} (h:GrownS w w1 S) (g:GrownS w1 w2 T):GrownS w w2 (fun k=>S k∨T k):=
 ⟨g.os.trans h.os,g.tape.trans h.tape,g.output.trans h.output,Nat.le_trans h.size g.size,fun k hk hn=>by
  rw [g.block k (Nat.lt_of_lt_of_le hk h.size) (fun e=>hn (.inr e)),h.block k hk (fun e=>hn (.inl e))]⟩
theorem GrownS.ofBelow {w w':World} (h:Below w.heap.size w w'):GrownS w w' (fun _=>False):=⟨h.os,h.tape,h.output,h.size,fun k hk _=>h.block k hk⟩
theorem GrownS.weak {w w':World} {S T:Nat→Prop} (h:GrownS w w' S) (hs:∀ k,S k→T k):GrownS w w' T:=⟨h.os,h.tape,h.output,h.size,fun k hk hn=>h.block k hk (fun e=>hn (hs k e))⟩
theorem GrownS.below {w0 w w':World} {B:Nat} {S:Nat→Prop} (h:Below B w0 w) (hB:B≤w.heap.size) (hg:GrownS w w' S) (h1:∀ k,S k→B≤k):Below B w0 w':=
 ⟨hg.os.trans h.os,hg.tape.trans h.tape,hg.output.trans h.output,Nat.le_trans h.size hg.size,fun k hk=>by
  rw [hg.block k (by omega) (fun e=>by have:=h1 k e;omega)];exact h.block k hk⟩
theorem GrownS.row {w w':World} {S:Nat→Prop} {g:Nat} {o:Obj} (hg:GrownS w w' S) (h:w.heap[g]?=some o) (h1:¬ S g):w'.heap[g]?=some o:=by
 rw [hg.block g (Array.getElem?_eq_some_iff.1 h).1 h1];exact h
theorem OwnB.keptS {w w':World} {B n:Nat} {v:Value} {L:List Bn} {S:Nat→Prop} (h:OwnB w B v n L) (hg:GrownS w w' S) (h1:∀ k,v.ownBlock=some k→¬ S k):OwnB w' B v n L:=by
 refine ⟨h.1,?_⟩
 rcases h.2 with h | ⟨b,off,c,cur,e,h2,h3,h4⟩
 ·exact .inl h
 ·refine .inr ⟨b,off,c,cur,e,h2,?_,h4⟩
  rw [hg.block b (Array.getElem?_eq_some_iff.1 h3).1 (h1 b (by rw [e];rfl))];exact h3
theorem OwnN.keptS {kd:IntKind} {T:TypeId} {w w':World} {B n:Nat} {v:Value} {L:List Int} {S:Nat→Prop} (h:OwnN kd T w B v n L) (hg:GrownS w w' S) (h1:∀ k,v.ownBlock=some k→¬ S k):OwnN kd T w' B v n L:=by
 refine ⟨h.1,h.2.1,?_⟩
 rcases h.2.2 with h | ⟨b,c,cur,e,h2,h3,h4⟩
 ·exact .inl h
 ·refine .inr ⟨b,c,cur,e,h2,?_,h4⟩
  rw [hg.block b (Array.getElem?_eq_some_iff.1 h3).1 (h1 b (by rw [e];rfl))];exact h3
def AgBlk (o:Ag) (p:Pl) (k:Nat):Prop:=((Value.slice p.pa o.P.length p.pc).ownBlock=some k∨(Value.slice p.na o.N.length p.nc).ownBlock=some k)∨((Value.slice p.ea o.E.length p.ec).ownBlock=some k∨(Value.slice p.ra o.R.length p.rc).ownBlock=some k)
theorem AgO.lt {w:World} {B k:Nat} {o:Ag} {p:Pl} (h:AgO w B o p) (hk:AgBlk o p k):B≤k∧k<w.heap.size:=by
 rcases hk with (e | e) | (e | e)
 ·exact h.P.lt k e
 ·exact h.N.lt k e
 ·exact h.E.lt k e
 ·exact h.R.lt k e
theorem AgO.keptS {w w':World} {B:Nat} {o:Ag} {p:Pl} {S:Nat→Prop} (h:AgO w B o p) (hg:GrownS w w' S) (h1:∀ k,AgBlk o p k→¬ S k):AgO w' B o p:=
 ⟨h.P.keptS hg (fun k e=>h1 k (.inl (.inl e))),h.N.keptS hg (fun k e=>h1 k (.inl (.inr e))),h.ap,h.E.keptS hg (fun k e=>h1 k (.inr (.inl e))),h.R.keptS hg (fun k e=>h1 k (.inr (.inr e)))⟩
def mkA (k0:Nat) (o:Ag):Ag:={ o with P:=mkbs k0 o.P.length,N:=mkbs (k0+2*o.P.length) o.N.length,E:=mkn (k0+2*o.P.length+2*o.N.length) o.E.length,R:=mkn (k0+2*o.P.length+2*o.N.length+o.E.length) o.R.length }
def mkL (o:Ag):Nat:=2*o.P.length+2*o.N.length+o.E.length+o.R.length
structure AgM (w:World) (B k0:Nat) (o:Ag) (p:Pl):Prop where
 P:OwnB w B (.slice p.pa o.P.length p.pc) o.P.length (mkbs k0 o.P.length)
 N:OwnB w B (.slice p.na o.N.length p.nc) o.N.length (mkbs (k0+2*o.P.length) o.N.length)
 E:OwnN .u64 25 w B (.slice p.ea o.E.length p.ec) o.E.length (mkn (k0+2*o.P.length+2*o.N.length) o.E.length)
 R:OwnN .i64 2 w B (.slice p.ra o.R.length p.rc) o.R.length (mkn (k0+2*o.P.length+2*o.N.length+o.E.length) o.R.length)
end Go.Proofs.YtiiclgcpagdekaaGreatDoor
