/-
 Worlds where nothing has turned but two blocks.
-/
import Derived.Test.YtiiclgcpagdekaaGreatDoorFJN
namespace Go.Proofs.YtiiclgcpagdekaaGreatDoor
set_option linter.unusedVariables false
set_option linter.unusedSimpArgs false
open Go.RowKit
set_option maxRecDepth 10000
structure Grown2 (w w':World) (r s:Option Nat):Prop where
 os:w'.os=w.os
 tape:w'.tape=w.tape
 output:w'.output=w.output
 size:w.heap.size≤w'.heap.size
 block:∀ k,k<w.heap.size→some k≠r→some k≠s→w'.heap[k]?=w.heap[k]?
open Go.ChangeAt Go.ChangeShapes Go.PlainAid Go.WideShapes
def OwnN (kd:IntKind) (T:TypeId) (w:World) (B:Nat) (v:Value) (n:Nat) (L:List Int):Prop:=n=L.length∧w.ownsRow B T 1 v n (L.map (Value.int kd))
section
variable {kd:IntKind} {T:TypeId} {w w':World} {B n:Nat} {v:Value} {L:List Int}
theorem OwnN.any (h:OwnN kd T w B v n L):∃ ao c,v=.slice ao n c:=own_any h.2
theorem OwnN.past (h:OwnN kd T w B v n L) (hb:Below w.heap.size w w'):OwnN kd T w' B v n L:=⟨h.1,own_past h.2 hb⟩
theorem OwnN.le {B':Nat} (h:OwnN kd T w B v n L) (hb:B'≤B):OwnN kd T w B' v n L:=⟨h.1,own_le h.2 hb⟩
theorem OwnN.at {c:Nat} {ao:Option Addr} (h:OwnN kd T w B (.slice ao n c) n L):NumsAt kd w ao L:=by
 have h2:=h.2
 rw [h.1] at h2
 exact (nums_own h2).1
theorem OwnN.lt (h:OwnN kd T w B v n L):∀ k,v.ownBlock=some k→B≤k∧k<w.heap.size:=fun k e=>by
 rcases h.2.2 with ⟨rfl,_⟩ | ⟨g,c,cur,rfl,h1,h2,_⟩
 ·cases e
 ·have:g=k:=Option.some.inj e
  subst this
  exact ⟨h1,(Array.getElem?_eq_some_iff.1 h2).1⟩
theorem OwnN.cells {k:Nat} {x:Int} (h:OwnN kd T w B v n L) (hk:L[k]?=some x):∃ b c,v=.slice (some ⟨b,0,none⟩) n c∧w.cell? ⟨b,k,none⟩=some (.int kd x)∧w.frozen? ⟨b,k,none⟩=false:=by
 have hkl:=(List.getElem?_eq_some_iff.1 hk).1
 have hn:=h.1
 rcases h.2.2 with ⟨_,h0⟩ | ⟨g,c,cur,rfl,h1,h2,_⟩
 ·omega
 ·exact ⟨g,c,rfl,by rw [h.2.cellAt k (by omega),List.getElem?_map,hk];rfl,frozen_of_row w g _ _ _ h2⟩
theorem OwnN.put {b c k:Nat} (h:OwnN kd T w B (.slice (some ⟨b,0,none⟩) n c) n L) (x:Int):OwnN kd T (w.setCell ⟨b,k,none⟩ (.int kd x)) B (.slice (some ⟨b,0,none⟩) n c) n (L.set k x):=by
 refine ⟨by rw [List.length_set];exact h.1,?_⟩
 rw [List.map_set];exact (h.2.stored k _).1
end
def mkn (k0 n:Nat):List Int:=(List.range n).map fun i=>((k0+i:Nat):Int)
theorem mkn_len (k0 n:Nat):(mkn k0 n).length=n:=by simp [mkn]
theorem mkn_at {k0 n i:Nat} (h:i<n):(mkn k0 n)[i]?=some ((k0+i:Nat):Int):=by simp [mkn,h]
def ovn (k0:Nat) (R:List Int) (k:Nat):List Int:=mkn k0 k ++ R.drop k
theorem ovn_len (k0:Nat) (R:List Int) (k:Nat) (hk:k≤R.length):(ovn k0 R k).length=R.length:=by simp [ovn,mkn_len];omega
theorem ovn_set (k0:Nat) {R:List Int} {k:Nat} (hk:k<R.length):(ovn k0 R k).set k ((k0+k:Nat):Int)=ovn k0 R (k+1):=by
 unfold ovn
 rw [List.set_append_right _ _ (by rw [mkn_len];omega),mkn_len,Nat.sub_self]
 have e:R.drop k=R[k] :: R.drop (k+1):=List.drop_eq_getElem_cons hk
 rw [e,List.set_cons_zero]
 unfold mkn
 rw [List.range_succ,List.map_append,List.append_assoc];rfl
theorem ovn_all (k0:Nat) (R:List Int):ovn k0 R R.length=mkn k0 R.length:=by simp [ovn]
set_option maxHeartbeats 1000000 in
theorem c_markUint64S {w:World} {B N:Nat} {v:Value} {R:List Int} (k0:Nat) (h0:1≤k0) (h1:k0≤100000000) (hl:N≤1048576) (h:OwnN .u64 25 w B v N R) :
  Calls Tryz.prog 67 #[v,.int .i64 k0] w fun e w'=>e=.returned (.int .i64 ((k0+N:Nat):Int))∧OwnN .u64 25 w' B v N (mkn k0 N)∧w.grownBy w' v.ownBlock:=by
 obtain ⟨ao,c,rfl⟩:=h.any
 have HO:=hide h
 have HN:=hide h.1
 clear h
 go_enter Tryz.func67,Tryz.ntmps67
 go_wp2
 go_loopw [1,5] (fun m i wr=>w.grownBy wr (Value.slice ao N c).ownBlock∧∃ (k:Nat),k≤N∧i=.int .i64 k∧m=.int .i64 ((k0+k:Nat):Int)∧OwnN .u64 25 wr B (.slice ao N c) N (ovn k0 R k)) (fun m i wr=>N - (RowKit.intOf i).toNat)
 case atStart=>exact ⟨World.grownBy.refl _ _,0,Nat.zero_le _,rfl,rfl,HO.out⟩
 case round=>
  obtain ⟨hg,k,hk,rfl,rfl,hown⟩:=hrel
  have HG:=hide hg
  have HW:=hide hown
  obtain ⟨K,hK⟩:∃ K,k0+k=K:=⟨_,rfl⟩
  rw [hK]
  have HK:=hide hK
  have hKb:K≤200000000:=by omega
  have hK1:1≤K:=by omega
  by_cases hkn:k<N
  ·obtain ⟨a,hRk⟩:∃ a,(ovn k0 R k)[k]?=some a:=⟨(ovn k0 R k)[k]'(by have:=HN.out;rw [ovn_len _ _ _ (by omega)];omega),List.getElem?_eq_getElem _⟩
   obtain ⟨g,cc,e,hc0,hf0⟩:=hown.cells hRk
   cases e
   have ewk:IntKind.u64.wrap (K:Int)=(K:Int):=by rw [IntKind.wrap_u64];omega
   have hs:=hown.put (k:=k) ((k0+k:Nat):Int)
   rw [ovn_set k0 (by have:=HN.out;omega),hK] at hs
   have HS:=hide hs
   clear hg hown hK hRk hs
   go_wp2
   go_roundw
   case rel=>
    have e1:=HK.out
    exact ⟨HG.out.trans (grownBy_setC _ _ _ _),k+1,by omega,by go_num,by go_num,HS.out⟩
   case measure=>simp [RowKit.intOf];omega
  ·have e:k=N:=by omega
   have HE:Hid ((K:Int)=((k0+N:Nat):Int)):=(by omega:(K:Int)=((k0+N:Nat):Int))
   have HF:Hid (OwnN .u64 25 wr B (.slice ao N c) N (mkn k0 N)):=by
    rw [e,show ovn k0 R N=mkn k0 N by rw [HN.out];exact ovn_all _ _] at hown;exact hown
   clear hg hown hK e
   go_wp2
   go_ret
   exact ⟨by rw [← HE.out];rfl,HF.out,HG.out⟩
set_option maxHeartbeats 1000000 in
theorem c_heldUint64S {w:World} {B N:Nat} {v:Value} (k0:Nat) (h0:1≤k0) (h1:k0≤100000000) (hl:N≤1048576) (h:OwnN .u64 25 w B v N (mkn k0 N)) :
  Calls Tryz.prog 70 #[v,.int .i64 k0] w fun e w'=>e=.returned (.int .i64 ((k0+N:Nat):Int))∧Below w.heap.size w w':=by
 obtain ⟨ao,c,rfl⟩:=h.any
 have HO:=hide h
 clear h
 go_enter Tryz.func70,Tryz.ntmps70
 go_wp2
 go_loopw [1,5] (fun m i wr=>Below w.heap.size w wr∧∃ (k:Nat),k≤N∧i=.int .i64 k∧m=.int .i64 ((k0+k:Nat):Int)) (fun m i wr=>N - (RowKit.intOf i).toNat)
 case atStart=>exact ⟨Below.refl _ _,0,Nat.zero_le _,rfl,rfl⟩
 case round=>
  obtain ⟨hbel,k,hk,rfl,rfl⟩:=hrel
  have HB:=hide hbel
  obtain ⟨K,hK⟩:∃ K,k0+k=K:=⟨_,rfl⟩
  rw [hK]
  have HK:=hide hK
  have hKb:K≤200000000:=by omega
  have hK1:1≤K:=by omega
  by_cases hkn:k<N
  ·have hRk:(mkn k0 N)[k]?=some (K:Int):=by rw [mkn_at hkn,hK]
   obtain ⟨g,cc,e,hc0,hf0⟩:=(HO.out.past hbel).cells hRk
   cases e
   have ewk:IntKind.u64.wrap (K:Int)=(K:Int):=by rw [IntKind.wrap_u64];omega
   clear hbel hK hRk
   go_wp2
   go_roundw
   case rel=>
    have e1:=HK.out
    exact ⟨HB.out,k+1,by omega,by go_num,by go_num⟩
   case measure=>simp [RowKit.intOf];omega
  ·have HE:Hid ((K:Int)=((k0+N:Nat):Int)):=(by omega:(K:Int)=((k0+N:Nat):Int))
   clear hbel hK
   go_wp2
   go_ret
   exact ⟨by rw [← HE.out];rfl,HB.out⟩
set_option maxHeartbeats 1000000 in
theorem c_markInt64S {w:World} {B N:Nat} {v:Value} {R:List Int} (k0:Nat) (h0:1≤k0) (h1:k0≤100000000) (hl:N≤1048576) (h:OwnN .i64 2 w B v N R) :
  Calls Tryz.prog 68 #[v,.int .i64 k0] w fun e w'=>e=.returned (.int .i64 ((k0+N:Nat):Int))∧OwnN .i64 2 w' B v N (mkn k0 N)∧w.grownBy w' v.ownBlock:=by
 obtain ⟨ao,c,rfl⟩:=h.any
 have HO:=hide h
 have HN:=hide h.1
 clear h
 go_enter Tryz.func68,Tryz.ntmps68
 go_wp2
 go_loopw [1,5] (fun m i wr=>w.grownBy wr (Value.slice ao N c).ownBlock∧∃ (k:Nat),k≤N∧i=.int .i64 k∧m=.int .i64 ((k0+k:Nat):Int)∧OwnN .i64 2 wr B (.slice ao N c) N (ovn k0 R k)) (fun m i wr=>N - (RowKit.intOf i).toNat)
 case atStart=>exact ⟨World.grownBy.refl _ _,0,Nat.zero_le _,rfl,rfl,HO.out⟩
 case round=>
  obtain ⟨hg,k,hk,rfl,rfl,hown⟩:=hrel
  have HG:=hide hg
  have HW:=hide hown
  obtain ⟨K,hK⟩:∃ K,k0+k=K:=⟨_,rfl⟩
  rw [hK]
  have HK:=hide hK
  have hKb:K≤200000000:=by omega
  have hK1:1≤K:=by omega
  by_cases hkn:k<N
  ·obtain ⟨a,hRk⟩:∃ a,(ovn k0 R k)[k]?=some a:=⟨(ovn k0 R k)[k]'(by have:=HN.out;rw [ovn_len _ _ _ (by omega)];omega),List.getElem?_eq_getElem _⟩
   obtain ⟨g,cc,e,hc0,hf0⟩:=hown.cells hRk
   cases e
   have ewk:IntKind.u64.wrap (K:Int)=(K:Int):=by rw [IntKind.wrap_u64];omega
   have hs:=hown.put (k:=k) ((k0+k:Nat):Int)
   rw [ovn_set k0 (by have:=HN.out;omega),hK] at hs
   have HS:=hide hs
   clear hg hown hK hRk hs
   go_wp2
   go_roundw
   case rel=>
    have e1:=HK.out
    exact ⟨HG.out.trans (grownBy_setC _ _ _ _),k+1,by omega,by go_num,by go_num,HS.out⟩
   case measure=>simp [RowKit.intOf];omega
  ·have e:k=N:=by omega
   have HE:Hid ((K:Int)=((k0+N:Nat):Int)):=(by omega:(K:Int)=((k0+N:Nat):Int))
   have HF:Hid (OwnN .i64 2 wr B (.slice ao N c) N (mkn k0 N)):=by
    rw [e,show ovn k0 R N=mkn k0 N by rw [HN.out];exact ovn_all _ _] at hown;exact hown
   clear hg hown hK e
   go_wp2
   go_ret
   exact ⟨by rw [← HE.out];rfl,HF.out,HG.out⟩
set_option maxHeartbeats 1000000 in
theorem c_heldInt64S {w:World} {B N:Nat} {v:Value} (k0:Nat) (h0:1≤k0) (h1:k0≤100000000) (hl:N≤1048576) (h:OwnN .i64 2 w B v N (mkn k0 N)) :
  Calls Tryz.prog 71 #[v,.int .i64 k0] w fun e w'=>e=.returned (.int .i64 ((k0+N:Nat):Int))∧Below w.heap.size w w':=by
 obtain ⟨ao,c,rfl⟩:=h.any
 have HO:=hide h
 clear h
 go_enter Tryz.func71,Tryz.ntmps71
 go_wp2
 go_loopw [1,5] (fun m i wr=>Below w.heap.size w wr∧∃ (k:Nat),k≤N∧i=.int .i64 k∧m=.int .i64 ((k0+k:Nat):Int)) (fun m i wr=>N - (RowKit.intOf i).toNat)
 case atStart=>exact ⟨Below.refl _ _,0,Nat.zero_le _,rfl,rfl⟩
 case round=>
  obtain ⟨hbel,k,hk,rfl,rfl⟩:=hrel
  have HB:=hide hbel
  obtain ⟨K,hK⟩:∃ K,k0+k=K:=⟨_,rfl⟩
  rw [hK]
  have HK:=hide hK
  have hKb:K≤200000000:=by omega
  have hK1:1≤K:=by omega
  by_cases hkn:k<N
  ·have hRk:(mkn k0 N)[k]?=some (K:Int):=by rw [mkn_at hkn,hK]
   obtain ⟨g,cc,e,hc0,hf0⟩:=(HO.out.past hbel).cells hRk
   cases e
   have ewk:IntKind.u64.wrap (K:Int)=(K:Int):=by rw [IntKind.wrap_u64];omega
   clear hbel hK hRk
   go_wp2
   go_roundw
   case rel=>
    have e1:=HK.out
    exact ⟨HB.out,k+1,by omega,by go_num,by go_num⟩
   case measure=>simp [RowKit.intOf];omega
  ·have HE:Hid ((K:Int)=((k0+N:Nat):Int)):=(by omega:(K:Int)=((k0+N:Nat):Int))
   clear hbel hK
   go_wp2
   go_ret
   exact ⟨by rw [← HE.out];rfl,HB.out⟩
end Go.Proofs.YtiiclgcpagdekaaGreatDoor
