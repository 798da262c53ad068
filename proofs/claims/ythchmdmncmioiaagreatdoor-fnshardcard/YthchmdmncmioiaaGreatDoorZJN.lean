/-
 A drawn region where one of two may come up.
-/
import Derived.Test.YthchmdmncmioiaaGreatDoorZJM
set_option maxHeartbeats 4000000
namespace Go.Proofs.YthchmdmncmioiaaGreatDoor
set_option linter.unusedVariables false
theorem Qqs {P:Program} {md:Region.Mode} {ops:Array Oper} {Q:Exit->Act->World->Prop} {S:World->Prop} {k i j:Nat} {oi oj:Oper} {fuel:Nat} {listed:Array Bool} {a:Act} {w:World} (hr:Region.ready md ops listed=[i,j]) (hi:ops[i]?=some oi) (hj:ops[j]?=some oj)
  (h:∀ K':Act->World->Prop,Shut (∀ a w,(i≠k->S w)->Qbv P md ops Q S k fuel (listed.setIfInBounds i true) a w->K' a w)->if Region.wanted oi (yielded ops a.tmps)=true then Oper.wp P oi a w K' Q else K' (a.put oi.dst undef) w)
  (h':∀ K':Act->World->Prop,Shut (∀ a w,(j≠k->S w)->Qbv P md ops Q S k fuel (listed.setIfInBounds j true) a w->K' a w)->if Region.wanted oj (yielded ops a.tmps)=true then Oper.wp P oj a w K' Q else K' (a.put oj.dst undef) w) :
  Qbv P md ops Q S k (fuel+1) listed a w:=by
 refine ⟨fun h0=>(by rw [hr] at h0;cases h0),fun q hq=>?_⟩;rw [hr] at hq;have:q=i∨q=j:=by simpa using hq
 rcases this with rfl | rfl
 ·exact wpOp_step hi (fun K' hK=>h K' (fun a w hS hW=>hK a w ⟨hS,hW⟩))
 ·exact wpOp_step hj (fun K' hK=>h' K' (fun a w hS hW=>hK a w ⟨hS,hW⟩))
set_option linter.unusedSimpArgs false
set_option maxRecDepth 10000
open Go.ChangeAt Go.ChangeShapes Go.Maps Go.PlainAid Go.RowKit Go.WideShapes
def Qfj (L:List Int) (p:Int) (k:Nat):Prop:=k<=L.length/\(∀ (t:Nat) (x:Int),L[t]?=some x->t<k->x<p)/\∀ x,L[k]?=some x->¬ x<p
theorem QfX {y:Int} {r:List Int} {p:Int} {k:Nat} (h:Qfj (y :: r) p (k+1)):Qfj r p k:=
 ⟨by have:=h.1;simp at this;exact this,fun t x hx ht=>h.2.1 (t+1) x (by simpa using hx) (by omega),fun x hx=>h.2.2 x (by simpa using hx)⟩
theorem QmI {a:Int}:∀ (L:List Int) (k:Nat),Qfj L a k->L[k]?=some a->QbM L a=L.take k ++ [a] ++ L.drop (k+1)
 | [],k,_,h=>by simp at h
 | y :: r,0,hp,h=>by
  obtain rfl:y=a:=by simpa using h
  simp [QbM]
 | y :: r,k+1,hp,h=>by
  have hy:=hp.2.1 0 y rfl (by omega);rw [QbM,if_pos hy,QmI r k (QfX hp) (by simpa using h)];rfl
theorem Qh3 {a:Int}:∀ (L:List Int) (k:Nat),Qfj L a k->(∀ x,L[k]?=some x->x≠a)->QbM L a=L.take k ++ [a] ++ L.drop k
 | [],k,hp,h=>by have:=hp.1;simp at this;subst this;rfl
 | y :: r,0,hp,h=>by
  have hy:=hp.2.2 y rfl;have hne:y≠a:=h y rfl;rw [QbM,if_neg hy,if_neg hne];rfl
 | y :: r,k+1,hp,h=>by
  have hy:=hp.2.1 0 y rfl (by omega);rw [QbM,if_pos hy,Qh3 r k (QfX hp) (fun x hx=>h x (by simpa using hx))];rfl
theorem Qe1 {kd:IntKind} {w:World} {ao:Option Addr} {L:List Int} (h:Qas kd w ao L) (k:Nat):Qas kd w ao (L.take k):=fun h0=>by
 obtain ⟨b,off,e,hc⟩:=h (by rw [List.length_take] at h0;omega);exact ⟨b,off,e,fun i x hx=>hc i x (by rw [List.getElem?_take] at hx;split at hx;exact hx;cases hx)⟩
theorem QgW {kd:IntKind} {w:World} {b off:Nat} {L:List Int} (h:Qas kd w (some ⟨b,off,none⟩) L) (k:Nat):Qas kd w (some ⟨b,off+k,none⟩) (L.drop k):=fun h0=>by
 rw [List.length_drop] at h0;obtain ⟨b',off',e,hc⟩:=h (by omega)
 cases e
 exact ⟨b,off+k,rfl,fun i x hx=>by rw [List.getElem?_drop] at hx;have:=hc (k+i) x hx;rw [show off+k+i=off+(k+i) by omega];exact this⟩
theorem QbG {kd:IntKind} {w:World} {ao:Option Addr} {L:List Int} (h:Qas kd w ao L):∀ ad,ao=some ad->∀ j u,(L.map (Value.int kd))[j]?=some u->w.cell? (ad.add j)=some u:=fun ad e j u hu=>by
 rw [List.getElem?_map] at hu;obtain ⟨x,hx,rfl⟩:=Option.map_eq_some_iff.1 hu;obtain ⟨b,off,e2,hc⟩:=h (by have:=(ZZd.1 hx).1;omega);rw [e] at e2;cases e2;rw [Addr.add_lit];exact hc j x hx
theorem QaU (kd:IntKind) (L:List Int):∀ u∈L.map (Value.int kd),u.oneCell'=true:=fun u hu=>by
 simp at hu;obtain ⟨x,_,rfl⟩:=hu;rfl
theorem Qa8 {w:World} {B n:Nat} {e:TypeId} {s:Nat} {v:Value} {xs:List Value} (h:w.ownsRow B e s v n xs):∀ k,v.ownBlock=some k->B<=k:=fun k hk=>by
 rcases h.2 with ⟨rfl,_⟩ | ⟨g,c,_,rfl,h1,_⟩
 ·cases hk
 ·have:g=k:=Option.some.inj hk
  omega
theorem Qmp {w:World} {n c:Nat} {ao:Option Addr} {L:List Int} (a:Int) (hn:L.length=n) (hl:n<=1000000) (hcap:n<=c) (hcm:c<=maxLen) (hf:Qlz ao) (hno:ao=none->c=0) (hA:Qas .u64 w ao L) :
  Calls Tryz.prog 181 #[.slice ao n c,.int .u64 a] w fun e w'=>∃ v,e=.returned v/\w'.ownsRow w.heap.size 26 1 v (QbM L a).length ((QbM L a).map (Value.int .u64))/\Below w.heap.size w w':=by
 obtain ⟨i0,hi,hz0,hz1,hz2⟩:=info_parts Qd5;have HA:=Qaa hA;have HN:=Qaa hn;have HNo:=Qaa hno;have HFl:=Qaa hf;unfold maxLen at hcm;clear hA hn hno hf;go_enter Tryz.func181,Tryz.ntmps181;go_wp2
 go_loop [5] (fun i=>∃ k:Nat,k<=n/\i=.int .i64 k/\Hid (∀ (t:Nat) (x:Int),L[t]?=some x->t<k->x<a)) (fun i=>n - (Go.RowKit.intOf i).toNat)
 case atStart=>exact ⟨0,ZZj _,rfl,(fun t x _ h=>absurd h (by omega):∀ (t:Nat) (x:Int),L[t]?=some x->t<0->x<a)⟩
 case round=>
  obtain ⟨k,hk,rfl,HF⟩:=hrel;by_cases hkn:k<n
  ·obtain ⟨b,off,e,hcell⟩:=HA.out (by have:=HN.out;omega)
   subst e;obtain ⟨y,hRk⟩:∃ y,L[k]?=some y:=⟨L[k]'(by have:=HN.out;omega),ZZe _⟩;have hc0:=hcell k y hRk;clear hcell;by_cases hlt:y<a
   ·have HF2:Hid (∀ (t:Nat) (x:Int),L[t]?=some x->t<k+1->x<a):=(fun t z hz ht=>by
     by_cases e:t=k
     ·subst e;rw [hRk] at hz;obtain rfl:=Option.some.inj hz;exact hlt
     ·exact HF.out t z hz (by omega):∀ (t:Nat) (x:Int),L[t]?=some x->t<k+1->x<a)
    have d1:decide (y<a)=true:=ZZh hlt;clear hRk;go_wp2
    go_round
    case rel=>exact ⟨k+1,by omega,by go_num,HF2⟩
    case measure=>simp [Go.RowKit.intOf];omega
   ·have HK:Hid (Qfj L a k):=(⟨by have:=HN.out;omega,HF.out,fun z hz=>by rw [hRk] at hz;obtain rfl:=Option.some.inj hz;exact hlt⟩:Qfj L a k)
    have d1:decide (y<a)=false:=ZZg hlt;have HRk:=Qaa hRk;clear hRk HF;by_cases heq:y=a
    ·subst heq
     have HE:Hid (QbM L y=L.take k ++ [y] ++ L.drop (k+1)):=QmI L k HK.out HRk.out;have hw1:IntKind.i64.wrap ((k:Int)+1)=(k:Int)+1:=by rw [IntKind.wrap_i64];omega
     have htn:((k:Int)+1).toNat=k+1:=by omega
     have hb1:(0:Int)<=(k:Int)+1:=by omega
     have hb3:(k:Int)+1<=(n:Int):=by omega
     by_cases hce:c=k+1
     ·subst hce
      have hn1:n=k+1:=by omega
      have hn0:k+1 - (k+1)=0:=by omega
      subst hn1;have HEz:Hid (QbM L y=L.take k ++ [y] ++ []):=(by rw [HE.out,List.drop_eq_nil_of_le (by have:=HN.out;omega)];exact Qaa rfl)
      go_wp2_with (first
       | (at_builtin;refine Qaf _ rfl (.tmp 21) (.tmp 24) 44 rfl w.heap.size 26 i0 (.int .u64 0) 1 8 Tryz.underlying44 hi hz0 hz1 hz2 rfl (by decide) _ _ _ rfl (World.ownsRow_made _ #[] 0 (Nat.le_refl _) (Nat.zero_le _) rfl) (some ⟨b,off,none⟩) k (k+1) ((L.take k).map (Value.int .u64)) rfl (by rw [List.length_map,List.length_take];have:=HN.out;omega) (fun e=>by cases e) (QbG (Qe1 (Qag HA.out ((Below.refl _ _).alloc (Nat.le_refl _) _)) k)) (QaU _ _) (by unfold maxLen;omega) (by omega) (by simp) ?_;intro v1 w1 hown hgrow hnil;simp only [Nat.zero_add,List.nil_append] at hown;obtain ⟨ao1,c1,rfl⟩:=Qam hown;have O1:=Qaa hown;have B1:=Qaa (((Below.refl w.heap.size w).alloc (Nat.le_refl _) _).grown hgrow (by simp) (fun j hj=>by cases hj;exact Nat.le_refl _));have y0:=Qab B1.out hc0;clear hown hgrow hnil)
       | (at_builtin;refine Qaf _ rfl (.tmp 26) (.tmp 28) 44 rfl w.heap.size 26 i0 (.int .u64 0) 1 8 Tryz.underlying44 hi hz0 hz1 hz2 rfl (by decide) _ _ _ rfl (QaP O1.out ((Below.refl _ _).alloc (Nat.le_refl _) _)) (some ⟨w1.heap.size,0,none⟩) 1 1 [.int .u64 y] rfl rfl (fun e=>by cases e) (fun ad e=>by cases e;exact QaM (cs:=#[.int .u64 y]) rfl) (QaU .u64 [y]) (by unfold maxLen;omega) (by omega) (by simp;have:=B1.out.size;omega) ?_;intro v2 w2 hown hgrow hnil;obtain ⟨ao2,c2,rfl⟩:=Qam hown;have O2:=Qaa hown;have B2:=Qaa ((B1.out.alloc B1.out.size _).grown hgrow (by simp;have:=B1.out.size;omega) (fun j hj=>Qa8 O1.out j hj));have x0:=Qab B2.out hc0;clear hown hgrow hnil)
       | (at_builtin;refine Qaf _ rfl (.tmp 44) (.tmp 47) 44 rfl w.heap.size 26 i0 (.int .u64 0) 1 8 Tryz.underlying44 hi hz0 hz1 hz2 rfl (by decide) _ _ _ rfl O2.out (some ⟨b,off,none⟩) 0 0 (([]:List Int).map (Value.int .u64)) rfl rfl (fun e=>by cases e) (fun A _ j z hz=>by simp at hz) (QaU _ _) (by unfold maxLen;omega) (by omega) (by have:=B2.out.size;omega) ?_;intro v3 w3 hown hgrow hnil;obtain ⟨ao3,c3,rfl⟩:=Qam hown;have O3:=Qaa hown;have B3:=Qaa (B2.out.grown hgrow B2.out.size (fun j hj=>Qa8 O2.out j hj));clear hown hgrow hnil))
      all_goals
       go_ret;refine ⟨_,rfl,?_,B3.out⟩
       have el:(QbM L y).length=k+1+0:=by
        rw [HEz.out];have:=HN.out;simp only [List.length_append,List.length_take,List.length_drop,List.length_cons,List.length_nil];omega
       rw [el,HEz.out,List.map_append,List.map_append];exact O3.out
     ·go_wp2_with (first
       | (at_builtin;refine Qaf _ rfl (.tmp 21) (.tmp 24) 44 rfl w.heap.size 26 i0 (.int .u64 0) 1 8 Tryz.underlying44 hi hz0 hz1 hz2 rfl (by decide) _ _ _ rfl (World.ownsRow_made _ #[] 0 (Nat.le_refl _) (Nat.zero_le _) rfl) (some ⟨b,off,none⟩) k c ((L.take k).map (Value.int .u64)) rfl (by rw [List.length_map,List.length_take];have:=HN.out;omega) (fun e=>by cases e) (QbG (Qe1 (Qag HA.out ((Below.refl _ _).alloc (Nat.le_refl _) _)) k)) (QaU _ _) (by unfold maxLen;omega) (by omega) (by simp) ?_;intro v1 w1 hown hgrow hnil;simp only [Nat.zero_add,List.nil_append] at hown;obtain ⟨ao1,c1,rfl⟩:=Qam hown;have O1:=Qaa hown;have B1:=Qaa (((Below.refl w.heap.size w).alloc (Nat.le_refl _) _).grown hgrow (by simp) (fun j hj=>by cases hj;exact Nat.le_refl _));have y0:=Qab B1.out hc0;clear hown hgrow hnil)
       | (at_builtin;refine Qaf _ rfl (.tmp 26) (.tmp 28) 44 rfl w.heap.size 26 i0 (.int .u64 0) 1 8 Tryz.underlying44 hi hz0 hz1 hz2 rfl (by decide) _ _ _ rfl (QaP O1.out ((Below.refl _ _).alloc (Nat.le_refl _) _)) (some ⟨w1.heap.size,0,none⟩) 1 1 [.int .u64 y] rfl rfl (fun e=>by cases e) (fun ad e=>by cases e;exact QaM (cs:=#[.int .u64 y]) rfl) (QaU .u64 [y]) (by unfold maxLen;omega) (by omega) (by simp;have:=B1.out.size;omega) ?_;intro v2 w2 hown hgrow hnil;obtain ⟨ao2,c2,rfl⟩:=Qam hown;have O2:=Qaa hown;have B2:=Qaa ((B1.out.alloc B1.out.size _).grown hgrow (by simp;have:=B1.out.size;omega) (fun j hj=>Qa8 O1.out j hj));have x0:=Qab B2.out hc0;clear hown hgrow hnil)
       | (at_builtin;refine Qaf _ rfl (.tmp 44) (.tmp 47) 44 rfl w.heap.size 26 i0 (.int .u64 0) 1 8 Tryz.underlying44 hi hz0 hz1 hz2 rfl (by decide) _ _ _ rfl O2.out (some ⟨b,off+(k+1),none⟩) (n - (k+1)) (c - (k+1)) ((L.drop (k+1):List Int).map (Value.int .u64)) rfl (by rw [List.length_map,List.length_drop];have:=HN.out;omega) (fun e=>by cases e) (QbG (QgW (Qag HA.out B2.out) (k+1))) (QaU _ _) (by unfold maxLen;omega) (by omega) (by have:=B2.out.size;omega) ?_;intro v3 w3 hown hgrow hnil;obtain ⟨ao3,c3,rfl⟩:=Qam hown;have O3:=Qaa hown;have B3:=Qaa (B2.out.grown hgrow B2.out.size (fun j hj=>Qa8 O2.out j hj));clear hown hgrow hnil))
      all_goals
       go_ret;refine ⟨_,rfl,?_,B3.out⟩
       have el:(QbM L y).length=k+1+(n - (k+1)):=by
        rw [HE.out];have:=HN.out;simp only [List.length_append,List.length_take,List.length_drop,List.length_cons,List.length_nil];omega
       rw [el,HE.out,List.map_append,List.map_append];exact O3.out
    ·have HE:Hid (QbM L a=L.take k ++ [a] ++ L.drop k):=Qh3 L k HK.out (fun z hz=>by rw [HRk.out] at hz;obtain rfl:=Option.some.inj hz;exact heq)
     have hck:¬ (c=k):=by omega
     have d2:decide (y=a)=false:=ZZg heq
     go_wp2_with (first
      | (at_builtin;refine Qaf _ rfl (.tmp 21) (.tmp 24) 44 rfl w.heap.size 26 i0 (.int .u64 0) 1 8 Tryz.underlying44 hi hz0 hz1 hz2 rfl (by decide) _ _ _ rfl (World.ownsRow_made _ #[] 0 (Nat.le_refl _) (Nat.zero_le _) rfl) (some ⟨b,off,none⟩) k c ((L.take k).map (Value.int .u64)) rfl (by rw [List.length_map,List.length_take];have:=HN.out;omega) (fun e=>by cases e) (QbG (Qe1 (Qag HA.out ((Below.refl _ _).alloc (Nat.le_refl _) _)) k)) (QaU _ _) (by unfold maxLen;omega) (by omega) (by simp) ?_;intro v1 w1 hown hgrow hnil;simp only [Nat.zero_add,List.nil_append] at hown;obtain ⟨ao1,c1,rfl⟩:=Qam hown;have O1:=Qaa hown;have B1:=Qaa (((Below.refl w.heap.size w).alloc (Nat.le_refl _) _).grown hgrow (by simp) (fun j hj=>by cases hj;exact Nat.le_refl _));have y0:=Qab B1.out hc0;clear hown hgrow hnil)
      | (at_builtin;refine Qaf _ rfl (.tmp 26) (.tmp 28) 44 rfl w.heap.size 26 i0 (.int .u64 0) 1 8 Tryz.underlying44 hi hz0 hz1 hz2 rfl (by decide) _ _ _ rfl (QaP O1.out ((Below.refl _ _).alloc (Nat.le_refl _) _)) (some ⟨w1.heap.size,0,none⟩) 1 1 [.int .u64 a] rfl rfl (fun e=>by cases e) (fun ad e=>by cases e;exact QaM (cs:=#[.int .u64 a]) rfl) (QaU .u64 [a]) (by unfold maxLen;omega) (by omega) (by simp;have:=B1.out.size;omega) ?_;intro v2 w2 hown hgrow hnil;obtain ⟨ao2,c2,rfl⟩:=Qam hown;have O2:=Qaa hown;have B2:=Qaa ((B1.out.alloc B1.out.size _).grown hgrow (by simp;have:=B1.out.size;omega) (fun j hj=>Qa8 O1.out j hj));have x0:=Qab B2.out hc0;clear hown hgrow hnil)
      | (at_builtin;refine Qaf _ rfl (.tmp 44) (.tmp 47) 44 rfl w.heap.size 26 i0 (.int .u64 0) 1 8 Tryz.underlying44 hi hz0 hz1 hz2 rfl (by decide) _ _ _ rfl O2.out (some ⟨b,off+k,none⟩) (n - k) (c - k) ((L.drop k:List Int).map (Value.int .u64)) rfl (by rw [List.length_map,List.length_drop];have:=HN.out;omega) (fun e=>by cases e) (QbG (QgW (Qag HA.out B2.out) k)) (QaU _ _) (by unfold maxLen;omega) (by omega) (by have:=B2.out.size;omega) ?_;intro v3 w3 hown hgrow hnil;obtain ⟨ao3,c3,rfl⟩:=Qam hown;have O3:=Qaa hown;have B3:=Qaa (B2.out.grown hgrow B2.out.size (fun j hj=>Qa8 O2.out j hj));clear hown hgrow hnil))
     all_goals
      go_ret;refine ⟨_,rfl,?_,B3.out⟩
      have el:(QbM L a).length=k+1+(n - k):=by
       rw [HE.out];have:=HN.out;simp only [List.length_append,List.length_take,List.length_drop,List.length_cons,List.length_nil];omega
      rw [el,HE.out,List.map_append,List.map_append];exact O3.out
  ·have hkn2:k=n:=by omega
   subst hkn2;have HK:Hid (Qfj L a k):=(⟨by have:=HN.out;omega,HF.out,fun z hz=>absurd (ZZd.1 hz).1 (by have:=HN.out;omega)⟩:Qfj L a k)
   have HE:Hid (QbM L a=L ++ [a] ++ []):=(by
    rw [Qh3 L k HK.out (fun z hz=>absurd (List.getElem?_eq_some_iff.1 hz).1 (by have:=HN.out;omega)),List.take_of_length_le (by have:=HN.out;omega),List.drop_eq_nil_of_le (by have:=HN.out;omega)];exact Qaa rfl)
   clear HK HF;rcases HFl.out with rfl | ⟨b,off,rfl⟩
   ·have h0:c=0:=HNo.out rfl
    subst h0;have hk0:k=0:=by omega
    subst hk0
    go_wp2_with (first
     | (at_builtin;refine Qaf _ rfl (.tmp 21) (.tmp 24) 44 rfl w.heap.size 26 i0 (.int .u64 0) 1 8 Tryz.underlying44 hi hz0 hz1 hz2 rfl (by decide) _ _ _ rfl (World.ownsRow_made _ #[] 0 (Nat.le_refl _) (Nat.zero_le _) rfl) (none) 0 0 ((L).map (Value.int .u64)) rfl (by rw [List.length_map];have:=HN.out;omega) (fun e=>⟨rfl,rfl⟩) (QbG (Qag HA.out ((Below.refl _ _).alloc (Nat.le_refl _) _))) (QaU _ _) (by unfold maxLen;omega) (by omega) (by simp) ?_;intro v1 w1 hown hgrow hnil;simp only [Nat.zero_add,List.nil_append] at hown;obtain ⟨ao1,c1,rfl⟩:=Qam hown;have O1:=Qaa hown;have B1:=Qaa (((Below.refl w.heap.size w).alloc (Nat.le_refl _) _).grown hgrow (by simp) (fun j hj=>by cases hj;exact Nat.le_refl _));clear hown hgrow hnil)
     | (at_builtin;refine Qaf _ rfl (.tmp 26) (.tmp 28) 44 rfl w.heap.size 26 i0 (.int .u64 0) 1 8 Tryz.underlying44 hi hz0 hz1 hz2 rfl (by decide) _ _ _ rfl (QaP O1.out ((Below.refl _ _).alloc (Nat.le_refl _) _)) (some ⟨w1.heap.size,0,none⟩) 1 1 [.int .u64 a] rfl rfl (fun e=>by cases e) (fun ad e=>by cases e;exact QaM (cs:=#[.int .u64 a]) rfl) (QaU .u64 [a]) (by unfold maxLen;omega) (by omega) (by simp;have:=B1.out.size;omega) ?_;intro v2 w2 hown hgrow hnil;obtain ⟨ao2,c2,rfl⟩:=Qam hown;have O2:=Qaa hown;have B2:=Qaa ((B1.out.alloc B1.out.size _).grown hgrow (by simp;have:=B1.out.size;omega) (fun j hj=>Qa8 O1.out j hj));clear hown hgrow hnil)
     | (at_builtin;refine Qaf _ rfl (.tmp 44) (.tmp 47) 44 rfl w.heap.size 26 i0 (.int .u64 0) 1 8 Tryz.underlying44 hi hz0 hz1 hz2 rfl (by decide) _ _ _ rfl O2.out (none) 0 0 (([]:List Int).map (Value.int .u64)) rfl rfl (fun e=>⟨rfl,rfl⟩) (fun A _ j z hz=>by simp at hz) (QaU _ _) (by unfold maxLen;omega) (by omega) (by have:=B2.out.size;omega) ?_;intro v3 w3 hown hgrow hnil;obtain ⟨ao3,c3,rfl⟩:=Qam hown;have O3:=Qaa hown;have B3:=Qaa (B2.out.grown hgrow B2.out.size (fun j hj=>Qa8 O2.out j hj));clear hown hgrow hnil))
    all_goals
     go_ret;refine ⟨_,rfl,?_,B3.out⟩
     have el:(QbM L a).length=0+1+0:=by
      rw [HE.out];have:=HN.out;simp only [List.length_append,List.length_take,List.length_drop,List.length_cons,List.length_nil];omega
     rw [el,HE.out,List.map_append,List.map_append];exact O3.out
   ·by_cases hck:c=k
    ·subst hck
     go_wp2_with (first
      | (at_builtin;refine Qaf _ rfl (.tmp 21) (.tmp 24) 44 rfl w.heap.size 26 i0 (.int .u64 0) 1 8 Tryz.underlying44 hi hz0 hz1 hz2 rfl (by decide) _ _ _ rfl (World.ownsRow_made _ #[] 0 (Nat.le_refl _) (Nat.zero_le _) rfl) (some ⟨b,off,none⟩) c c ((L).map (Value.int .u64)) rfl (by rw [List.length_map];have:=HN.out;omega) (fun e=>by cases e) (QbG (Qag HA.out ((Below.refl _ _).alloc (Nat.le_refl _) _))) (QaU _ _) (by unfold maxLen;omega) (by omega) (by simp) ?_;intro v1 w1 hown hgrow hnil;simp only [Nat.zero_add,List.nil_append] at hown;obtain ⟨ao1,c1,rfl⟩:=Qam hown;have O1:=Qaa hown;have B1:=Qaa (((Below.refl w.heap.size w).alloc (Nat.le_refl _) _).grown hgrow (by simp) (fun j hj=>by cases hj;exact Nat.le_refl _));clear hown hgrow hnil)
      | (at_builtin;refine Qaf _ rfl (.tmp 26) (.tmp 28) 44 rfl w.heap.size 26 i0 (.int .u64 0) 1 8 Tryz.underlying44 hi hz0 hz1 hz2 rfl (by decide) _ _ _ rfl (QaP O1.out ((Below.refl _ _).alloc (Nat.le_refl _) _)) (some ⟨w1.heap.size,0,none⟩) 1 1 [.int .u64 a] rfl rfl (fun e=>by cases e) (fun ad e=>by cases e;exact QaM (cs:=#[.int .u64 a]) rfl) (QaU .u64 [a]) (by unfold maxLen;omega) (by omega) (by simp;have:=B1.out.size;omega) ?_;intro v2 w2 hown hgrow hnil;obtain ⟨ao2,c2,rfl⟩:=Qam hown;have O2:=Qaa hown;have B2:=Qaa ((B1.out.alloc B1.out.size _).grown hgrow (by simp;have:=B1.out.size;omega) (fun j hj=>Qa8 O1.out j hj));clear hown hgrow hnil)
      | (at_builtin;refine Qaf _ rfl (.tmp 44) (.tmp 47) 44 rfl w.heap.size 26 i0 (.int .u64 0) 1 8 Tryz.underlying44 hi hz0 hz1 hz2 rfl (by decide) _ _ _ rfl O2.out (_) 0 _ (([]:List Int).map (Value.int .u64)) rfl rfl (fun e=>by cases e) (fun A _ j z hz=>by simp at hz) (QaU _ _) (by unfold maxLen;omega) (by omega) (by have:=B2.out.size;omega) ?_;intro v3 w3 hown hgrow hnil;obtain ⟨ao3,c3,rfl⟩:=Qam hown;have O3:=Qaa hown;have B3:=Qaa (B2.out.grown hgrow B2.out.size (fun j hj=>Qa8 O2.out j hj));clear hown hgrow hnil))
     all_goals
      go_ret;refine ⟨_,rfl,?_,B3.out⟩
      have el:(QbM L a).length=c+1+0:=by
       rw [HE.out];have:=HN.out;simp only [List.length_append,List.length_take,List.length_drop,List.length_cons,List.length_nil];omega
      rw [el,HE.out,List.map_append,List.map_append];exact O3.out
    ·go_wp2_with (first
      | (at_builtin;refine Qaf _ rfl (.tmp 21) (.tmp 24) 44 rfl w.heap.size 26 i0 (.int .u64 0) 1 8 Tryz.underlying44 hi hz0 hz1 hz2 rfl (by decide) _ _ _ rfl (World.ownsRow_made _ #[] 0 (Nat.le_refl _) (Nat.zero_le _) rfl) (some ⟨b,off,none⟩) k c ((L).map (Value.int .u64)) rfl (by rw [List.length_map];have:=HN.out;omega) (fun e=>by cases e) (QbG (Qag HA.out ((Below.refl _ _).alloc (Nat.le_refl _) _))) (QaU _ _) (by unfold maxLen;omega) (by omega) (by simp) ?_;intro v1 w1 hown hgrow hnil;simp only [Nat.zero_add,List.nil_append] at hown;obtain ⟨ao1,c1,rfl⟩:=Qam hown;have O1:=Qaa hown;have B1:=Qaa (((Below.refl w.heap.size w).alloc (Nat.le_refl _) _).grown hgrow (by simp) (fun j hj=>by cases hj;exact Nat.le_refl _));clear hown hgrow hnil)
      | (at_builtin;refine Qaf _ rfl (.tmp 26) (.tmp 28) 44 rfl w.heap.size 26 i0 (.int .u64 0) 1 8 Tryz.underlying44 hi hz0 hz1 hz2 rfl (by decide) _ _ _ rfl (QaP O1.out ((Below.refl _ _).alloc (Nat.le_refl _) _)) (some ⟨w1.heap.size,0,none⟩) 1 1 [.int .u64 a] rfl rfl (fun e=>by cases e) (fun ad e=>by cases e;exact QaM (cs:=#[.int .u64 a]) rfl) (QaU .u64 [a]) (by unfold maxLen;omega) (by omega) (by simp;have:=B1.out.size;omega) ?_;intro v2 w2 hown hgrow hnil;obtain ⟨ao2,c2,rfl⟩:=Qam hown;have O2:=Qaa hown;have B2:=Qaa ((B1.out.alloc B1.out.size _).grown hgrow (by simp;have:=B1.out.size;omega) (fun j hj=>Qa8 O1.out j hj));clear hown hgrow hnil)
      | (at_builtin;refine Qaf _ rfl (.tmp 44) (.tmp 47) 44 rfl w.heap.size 26 i0 (.int .u64 0) 1 8 Tryz.underlying44 hi hz0 hz1 hz2 rfl (by decide) _ _ _ rfl O2.out (_) 0 _ (([]:List Int).map (Value.int .u64)) rfl rfl (fun e=>by cases e) (fun A _ j z hz=>by simp at hz) (QaU _ _) (by unfold maxLen;omega) (by omega) (by have:=B2.out.size;omega) ?_;intro v3 w3 hown hgrow hnil;obtain ⟨ao3,c3,rfl⟩:=Qam hown;have O3:=Qaa hown;have B3:=Qaa (B2.out.grown hgrow B2.out.size (fun j hj=>Qa8 O2.out j hj));clear hown hgrow hnil))
     all_goals
      go_ret;refine ⟨_,rfl,?_,B3.out⟩
      have el:(QbM L a).length=k+1+0:=by
       rw [HE.out];have:=HN.out;simp only [List.length_append,List.length_take,List.length_drop,List.length_cons,List.length_nil];omega
      rw [el,HE.out,List.map_append,List.map_append];exact O3.out
theorem QeR {kd:IntKind} {w:World} {ao:Option Addr} {L:List Int} {n:Nat} (h:Qas kd w ao L) (hn:L.length=n) (e:ao=none):n=0:=by
 subst e;rw [<- hn,QhS h];rfl
theorem Qbe {P:Program} (w:World) {o:Oper} {a:Act} {K:Act->World->Prop} {Q:Exit->Act->World->Prop} (s x:Operand) (t:TypeId)
  (ho:o.op=.call { callee:=.builtin .append,args:=#[s,x],argTypes:=#[t,t] })
  (base:Nat) (e:TypeId) (i:TypeInfo) (z:Value) (size bytes:Nat) (ht:P.underlying t=some (.slice e)) (hi:P.info? e=some i) (hz:i.zero=some z)
  (hsize:i.size=size) (hby:i.bytes=bytes) (hzs:z.cells.size=size) (hsz:0<size)
  (v:Value) (n:Nat) (xs:List Value) (hs:a.eval s=v) (hown:w.ownsRow base e size v n xs)
  (xo:Option Addr) (m c:Nat) (news:List Value) (hx:a.eval x=.slice xo m c) (hl:news.length=m*size) (hno:xo=none->m=0/\c=0) (hnews:∀ ad,xo=some ad->∀ j u,news[j]?=some u->w.cell? (ad.add j)=some u) (h1:∀ u∈news,u.oneCell'=true)
  (h63:n+m<=maxLen) (hbytes:(n+m)*bytes<=140737488355328) (hbase:base<=w.heap.size)
  (h:∀ v' w',w'.ownsRow base e size v' (n+m) (xs ++ news)->w.grownBy w' v.ownBlock->K (a.put o.dst v') w'):o.wp P a w K Q:=by
 cases xo with
 | some ad=>exact wp_append_own w s x t ho base e i z size bytes ht hi hz hsize hby hzs hsz v n xs hs hown ad m c news hx hl (hnews ad rfl) h1 h63 hbytes hbase (fun v' w' q1 q2 _=>h v' w' q1 q2)
 | none=>
  obtain ⟨rfl,rfl⟩:=hno rfl;obtain rfl:news=[]:=List.eq_nil_of_length_eq_zero (by rw [hl,Nat.zero_mul]);have hr:=run_append_owned_none (P:=P) (w:=w) base t o.type e i size ht hi v n xs hown;unfold Oper.wp execOp;simp only [ho,resolve,invoke,builtin,Sem.run_bind,Sem.run_pure,Result.andThen_ok,List.map_toArray,List.map_cons,List.map_nil,hs,hx,hr];exact h v w (by rw [Nat.add_zero,List.append_nil];exact hown) (World.grownBy.refl _ _)
theorem Qdh {w:World} {B B' s s' n n':Nat} {T T':TypeId} {v v':Value} {xs xs':List Value} (h:w.ownsRow B T s v n xs) (g:w.ownsRow B' T' s' v' n' xs') (hT:T≠T'):v.ownBlock=none∨v.ownBlock≠v'.ownBlock:=by
 rcases h.2 with ⟨rfl,_⟩ | ⟨b,c,cur,rfl,_,h2,_⟩
 ·exact .inl rfl
 ·rcases g.2 with ⟨rfl,_⟩ | ⟨b',c',cur',rfl,_,g2,_⟩
  ·exact .inr (by simp [Value.ownBlock])
  ·refine .inr (fun e=>?_)
   have e:b=b':=Option.some.inj e;subst e;rw [h2] at g2;injection g2 with g2;injection g2 with _ g3 _;exact hT g3
theorem Qna {w:World} {ea ra:Option Addr} {n c m d:Nat} {E R:List Int} (h1:E.length=n) (h2:R.length=m) (l1:n<=1048576) (l2:m<=1048576) (c1:ea=none->c=0) (c2:ra=none->d=0) (hE:Qas .u64 w ea E) (hR:Qas .i64 w ra R) :
  Calls Tryz.prog 175 #[.agg #[.slice ea n c,.slice ra m d]] w fun e w'=>∃ v,e=.returned v/\Qh9 w' w.heap.size v E R/\Below w.heap.size w w':=by
 obtain ⟨i0,hi,hz0,hz1,hz2⟩:=info_parts Qd5;obtain ⟨j0,hj,hy0,hy1,hy2⟩:=info_parts QdI;have HE:=Qaa hE;have HR:=Qaa hR;have H1:=Qaa h1;have H2:=Qaa h2;have C1:=Qaa c1;have C2:=Qaa c2;have HBa:Hid (∀ o1 o2,Below w.heap.size w ((w.alloc o1).alloc o2)):=fun o1 o2=>((Below.refl _ _).alloc (Nat.le_refl _) _).alloc (by simp) _;clear hE hR h1 h2 c1 c2;go_enter Tryz.func175,Tryz.ntmps175;go_wp2_with fail;generalize hW0:(w.alloc (Obj.cells #[.slice ea n c,.slice ra m d] 47)).alloc (Obj.cells #[.slice none 0 0,.slice none 0 0] 47)=W0;have T0:Below w.heap.size w W0:=by rw [<- hW0];exact HBa.out _ _
 have KR:=QfF w 47 47 (.slice ea n c) (.slice ra m d) (.slice none 0 0) (.slice none 0 0) W0 (by rw [hW0];exact Below.refl _ _);have hsz0:W0.heap.size=w.heap.size+2:=by rw [<- hW0];simp
 clear hW0;have HT0:=Qaa T0;have hC:∀ W,Below W0.heap.size W0 W->QbQ W w.heap.size (.slice ea n c) (.slice ra m d)/\W.heap[w.heap.size+1]?=some (.cells #[.slice none 0 0,.slice none 0 0] 47 (0,0)):=fun W hW=>⟨QbY KR.1 hW,by rw [hW.block _ (by omega)];exact KR.2⟩;have HC:=Qaa hC;clear T0 hC KR;have HSd:Hid (Below W0.heap.size W0 W0.drew):=(ZZb _ _).drew;refine Qaj (fun W=>Below W0.heap.size W0 W) 9 (by kernel_rfl) ?_;generalize W0.drew=Wd at HSd ⊢;refine tkL (i:=1) (v:=.pointer (some ⟨w.heap.size,0,none⟩)) rfl rfl HSd.out (fun W hW=>?_) ?_
 ·obtain ⟨⟨x0,x1⟩,_⟩:=HC.out W hW
  clear hW;go_simp
 try simp only [List.setIfInBounds_toArray,List.set_cons_zero,List.set_cons_succ]
 refine tkL (i:=2) (v:=.slice ea n c) rfl rfl HSd.out (fun W hW=>?_) ?_
 ·obtain ⟨⟨x0,x1⟩,_⟩:=HC.out W hW
  clear hW;go_simp
 try simp only [List.setIfInBounds_toArray,List.set_cons_zero,List.set_cons_succ]
 refine tkL (i:=5) (v:=.pointer (some ⟨w.heap.size,1,none⟩)) rfl rfl HSd.out (fun W hW=>?_) ?_
 ·obtain ⟨⟨x0,x1⟩,_⟩:=HC.out W hW
  clear hW;go_simp
 try simp only [List.setIfInBounds_toArray,List.set_cons_zero,List.set_cons_succ]
 refine tkL (i:=6) (v:=.slice ra m d) rfl rfl HSd.out (fun W hW=>?_) ?_
 ·obtain ⟨⟨x0,x1⟩,_⟩:=HC.out W hW
  clear hW;go_simp
 try simp only [List.setIfInBounds_toArray,List.set_cons_zero,List.set_cons_succ]
 refine Qqs (i:=0) (j:=4) (by kernel_rfl) rfl rfl (fun K hK=>?_) (fun K hK=>?_)
 ·go_simp
  refine hK.out _ _ (fun _=>HSd.out.alloc HSd.out.size _) ?_;clear hK K
  try simp only [Act.put,sA,sB,sC]
  obtain ⟨s1,es1⟩:∃ s,s=Wd.heap.size:=⟨_,rfl⟩;have M1:(Wd.alloc (.cells #[] 26)).ownsRow W0.heap.size 26 1 (.slice (some ⟨s1,0,none⟩) 0 0) 0 []:=by rw [es1];exact World.ownsRow_made Wd #[] 0 HSd.out.size (ZZj _) rfl
  have S1:Hid (Below W0.heap.size W0 (Wd.alloc (.cells #[] 26))):=HSd.out.alloc HSd.out.size _;have O1:=Qaa M1;rw [<- es1];generalize Wd.alloc (.cells #[] 26)=Wa1 at *;clear M1 es1;refine Qqs (i:=3) (j:=4) (by kernel_rfl) rfl rfl (fun K hK=>?_) (fun K hK=>?_)
  ·rw [if_pos (by rfl)]
   refine Qbe _ (.tmp 3) (.tmp 5) 44 rfl W0.heap.size 26 i0 (.int .u64 0) 1 8 Tryz.underlying44 hi hz0 hz1 hz2 rfl (by decide) _ _ _ rfl O1.out ea n c (E.map (Value.int .u64)) rfl (by simp [H1.out]) (fun e=>⟨QeR HE.out H1.out e,C1.out e⟩) (QbG (Qag HE.out (Qad HT0.out S1.out))) (QaU _ _) (by unfold maxLen;omega) (by omega) S1.out.size ?_;intro v2 wb2 hown2 hgrow2;simp only [Nat.zero_add,List.nil_append] at hown2;obtain ⟨a2,b2,rfl⟩:=Qam hown2;have O2:=Qaa hown2;have S2:=Qaa (S1.out.grown hgrow2 S1.out.size (fun j hj=>Qa8 O1.out j hj));refine hK.out _ _ (fun _=>S2.out) ?_;clear hK K
   try simp only [Act.put,sA,sB,sC]
   clear hown2 hgrow2;refine onE (i:=4) rfl (fun K hK=>?_);go_simp;refine hK.out _ _ (fun _=>S2.out.alloc S2.out.size _) ?_;clear hK K
   try simp only [Act.put,sA,sB,sC]
   obtain ⟨s3,es3⟩:∃ s,s=wb2.heap.size:=⟨_,rfl⟩;have M3:(wb2.alloc (.cells #[] 2)).ownsRow W0.heap.size 2 1 (.slice (some ⟨s3,0,none⟩) 0 0) 0 []:=by rw [es3];exact World.ownsRow_made wb2 #[] 0 S2.out.size (ZZj _) rfl
   have S3:Hid (Below W0.heap.size W0 (wb2.alloc (.cells #[] 2))):=S2.out.alloc S2.out.size _;have Q3u:=Qaa (O2.out.alloc (.cells #[] 2));have O3:=Qaa M3;rw [<- es3];generalize wb2.alloc (.cells #[] 2)=Wa3 at *;clear M3 es3;refine onE (i:=7) rfl (fun K hK=>?_);rw [if_pos (by rfl)];refine Qbe _ (.tmp 7) (.tmp 9) 45 rfl W0.heap.size 2 j0 (.int .i64 0) 1 8 Tryz.underlying45 hj hy0 hy1 hy2 rfl (by decide) _ _ _ rfl O3.out ra m d (R.map (Value.int .i64)) rfl (by simp [H2.out]) (fun e=>⟨QeR HR.out H2.out e,C2.out e⟩) (QbG (Qag HR.out (Qad HT0.out S3.out))) (QaU _ _) (by unfold maxLen;omega) (by omega) S3.out.size ?_;intro v4 wb4 hown4 hgrow4;simp only [Nat.zero_add,List.nil_append] at hown4;obtain ⟨a4,b4,rfl⟩:=Qam hown4;have O4:=Qaa hown4;have S4:=Qaa (S3.out.grown hgrow4 S3.out.size (fun j hj=>Qa8 O3.out j hj));have Q4u:=Qaa (Q3u.out.kept hgrow4 (Qdh Q3u.out O3.out (by decide)));refine hK.out _ _ (fun _=>S4.out) ?_;clear hK K
   try simp only [Act.put,sA,sB,sC]
   clear hown4 hgrow4;refine tkL (i:=8) (v:=.agg #[.slice a2 n b2,.slice a4 m b4]) rfl rfl S4.out (fun W hW=>?_) ?_
   ·obtain ⟨⟨x0,x1⟩,_⟩:=HC.out W hW
    clear hW;go_simp
   try simp only [List.setIfInBounds_toArray,List.set_cons_zero,List.set_cons_succ]
   have R2:=(HC.out _ S4.out).2;have q0:wb4.cell? ⟨w.heap.size+1,0,none⟩=some (.slice none 0 0):=by rw [cell_of_row _ _ 0 _ _ (0,0) R2];rfl
   have q1:wb4.cell? ⟨w.heap.size+1,1,none⟩=some (.slice none 0 0):=by rw [cell_of_row _ _ 1 _ _ (0,0) R2];rfl
   have f0:=fzR 0 R2;have f1:=fzR 1 R2;refine onE (i:=9) rfl (fun K hK=>?_);go_simp;refine hK.out _ _ (fun h=>absurd rfl h) ?_;clear hK K
   try simp only [Act.put,sA,sB,sC]
   refine Qar (by kernel_rfl) ?_ _;go_wp2;refine bodyPost_ret (v:=.agg #[.slice a2 n b2,.slice a4 m b4]) (by simp [results,Tryz.results175,go_sem,q0,q1]) rfl ⟨_,rfl,⟨_,_,rfl,?_,?_⟩,?_⟩
   ·refine QaI (B:=W0.heap.size) ?_ (by omega)
    repeat (refine ownsRow_setCell_below ?_ (by simp;omega) _)
    rw [H1.out];exact Q4u.out
   ·refine QaI (B:=W0.heap.size) ?_ (by omega)
    repeat (refine ownsRow_setCell_below ?_ (by simp;omega) _)
    rw [H2.out];exact O4.out
   ·repeat (refine Below.setCell ?_ (by simp <;> omega) _)
    exact Qad HT0.out S4.out
  ·go_simp
   refine hK.out _ _ (fun _=>S1.out.alloc S1.out.size _) ?_;clear hK K
   try simp only [Act.put,sA,sB,sC]
   obtain ⟨s2,es2⟩:∃ s,s=Wa1.heap.size:=⟨_,rfl⟩;have M2:(Wa1.alloc (.cells #[] 2)).ownsRow W0.heap.size 2 1 (.slice (some ⟨s2,0,none⟩) 0 0) 0 []:=by rw [es2];exact World.ownsRow_made Wa1 #[] 0 S1.out.size (ZZj _) rfl
   have S2:Hid (Below W0.heap.size W0 (Wa1.alloc (.cells #[] 2))):=S1.out.alloc S1.out.size _;have Q2u:=Qaa (O1.out.alloc (.cells #[] 2));have O2:=Qaa M2;rw [<- es2];generalize Wa1.alloc (.cells #[] 2)=Wa2 at *;clear M2 es2;refine onE (i:=3) rfl (fun K hK=>?_);rw [if_pos (by rfl)];refine Qbe _ (.tmp 3) (.tmp 5) 44 rfl W0.heap.size 26 i0 (.int .u64 0) 1 8 Tryz.underlying44 hi hz0 hz1 hz2 rfl (by decide) _ _ _ rfl Q2u.out ea n c (E.map (Value.int .u64)) rfl (by simp [H1.out]) (fun e=>⟨QeR HE.out H1.out e,C1.out e⟩) (QbG (Qag HE.out (Qad HT0.out S2.out))) (QaU _ _) (by unfold maxLen;omega) (by omega) S2.out.size ?_;intro v3 wb3 hown3 hgrow3;simp only [Nat.zero_add,List.nil_append] at hown3;obtain ⟨a3,b3,rfl⟩:=Qam hown3;have O3:=Qaa hown3;have S3:=Qaa (S2.out.grown hgrow3 S2.out.size (fun j hj=>Qa8 Q2u.out j hj));have Q3i:=Qaa (O2.out.kept hgrow3 (Qdh O2.out Q2u.out (by decide)));refine hK.out _ _ (fun _=>S3.out) ?_;clear hK K
   try simp only [Act.put,sA,sB,sC]
   clear hown3 hgrow3;refine onE (i:=7) rfl (fun K hK=>?_);rw [if_pos (by rfl)];refine Qbe _ (.tmp 7) (.tmp 9) 45 rfl W0.heap.size 2 j0 (.int .i64 0) 1 8 Tryz.underlying45 hj hy0 hy1 hy2 rfl (by decide) _ _ _ rfl Q3i.out ra m d (R.map (Value.int .i64)) rfl (by simp [H2.out]) (fun e=>⟨QeR HR.out H2.out e,C2.out e⟩) (QbG (Qag HR.out (Qad HT0.out S3.out))) (QaU _ _) (by unfold maxLen;omega) (by omega) S3.out.size ?_;intro v4 wb4 hown4 hgrow4;simp only [Nat.zero_add,List.nil_append] at hown4;obtain ⟨a4,b4,rfl⟩:=Qam hown4;have O4:=Qaa hown4;have S4:=Qaa (S3.out.grown hgrow4 S3.out.size (fun j hj=>Qa8 Q3i.out j hj));have Q4u:=Qaa (O3.out.kept hgrow4 (Qdh O3.out Q3i.out (by decide)));refine hK.out _ _ (fun _=>S4.out) ?_;clear hK K
   try simp only [Act.put,sA,sB,sC]
   clear hown4 hgrow4;refine tkL (i:=8) (v:=.agg #[.slice a3 n b3,.slice a4 m b4]) rfl rfl S4.out (fun W hW=>?_) ?_
   ·obtain ⟨⟨x0,x1⟩,_⟩:=HC.out W hW
    clear hW;go_simp
   try simp only [List.setIfInBounds_toArray,List.set_cons_zero,List.set_cons_succ]
   have R2:=(HC.out _ S4.out).2;have q0:wb4.cell? ⟨w.heap.size+1,0,none⟩=some (.slice none 0 0):=by rw [cell_of_row _ _ 0 _ _ (0,0) R2];rfl
   have q1:wb4.cell? ⟨w.heap.size+1,1,none⟩=some (.slice none 0 0):=by rw [cell_of_row _ _ 1 _ _ (0,0) R2];rfl
   have f0:=fzR 0 R2;have f1:=fzR 1 R2;refine onE (i:=9) rfl (fun K hK=>?_);go_simp;refine hK.out _ _ (fun h=>absurd rfl h) ?_;clear hK K
   try simp only [Act.put,sA,sB,sC]
   refine Qar (by kernel_rfl) ?_ _;go_wp2;refine bodyPost_ret (v:=.agg #[.slice a3 n b3,.slice a4 m b4]) (by simp [results,Tryz.results175,go_sem,q0,q1]) rfl ⟨_,rfl,⟨_,_,rfl,?_,?_⟩,?_⟩
   ·refine QaI (B:=W0.heap.size) ?_ (by omega)
    repeat (refine ownsRow_setCell_below ?_ (by simp;omega) _)
    rw [H1.out];exact Q4u.out
   ·refine QaI (B:=W0.heap.size) ?_ (by omega)
    repeat (refine ownsRow_setCell_below ?_ (by simp;omega) _)
    rw [H2.out];exact O4.out
   ·repeat (refine Below.setCell ?_ (by simp <;> omega) _)
    exact Qad HT0.out S4.out
 ·go_simp
  refine hK.out _ _ (fun _=>HSd.out.alloc HSd.out.size _) ?_;clear hK K
  try simp only [Act.put,sA,sB,sC]
  obtain ⟨s1,es1⟩:∃ s,s=Wd.heap.size:=⟨_,rfl⟩;have M1:(Wd.alloc (.cells #[] 2)).ownsRow W0.heap.size 2 1 (.slice (some ⟨s1,0,none⟩) 0 0) 0 []:=by rw [es1];exact World.ownsRow_made Wd #[] 0 HSd.out.size (ZZj _) rfl
  have S1:Hid (Below W0.heap.size W0 (Wd.alloc (.cells #[] 2))):=HSd.out.alloc HSd.out.size _;have O1:=Qaa M1;rw [<- es1];generalize Wd.alloc (.cells #[] 2)=Wa1 at *;clear M1 es1;refine onE (i:=0) rfl (fun K hK=>?_);go_simp;refine hK.out _ _ (fun _=>S1.out.alloc S1.out.size _) ?_;clear hK K
  try simp only [Act.put,sA,sB,sC]
  obtain ⟨s2,es2⟩:∃ s,s=Wa1.heap.size:=⟨_,rfl⟩;have M2:(Wa1.alloc (.cells #[] 26)).ownsRow W0.heap.size 26 1 (.slice (some ⟨s2,0,none⟩) 0 0) 0 []:=by rw [es2];exact World.ownsRow_made Wa1 #[] 0 S1.out.size (ZZj _) rfl
  have S2:Hid (Below W0.heap.size W0 (Wa1.alloc (.cells #[] 26))):=S1.out.alloc S1.out.size _;have Q2i:=Qaa (O1.out.alloc (.cells #[] 26));have O2:=Qaa M2;rw [<- es2];generalize Wa1.alloc (.cells #[] 26)=Wa2 at *;clear M2 es2;refine onE (i:=3) rfl (fun K hK=>?_);rw [if_pos (by rfl)];refine Qbe _ (.tmp 3) (.tmp 5) 44 rfl W0.heap.size 26 i0 (.int .u64 0) 1 8 Tryz.underlying44 hi hz0 hz1 hz2 rfl (by decide) _ _ _ rfl O2.out ea n c (E.map (Value.int .u64)) rfl (by simp [H1.out]) (fun e=>⟨QeR HE.out H1.out e,C1.out e⟩) (QbG (Qag HE.out (Qad HT0.out S2.out))) (QaU _ _) (by unfold maxLen;omega) (by omega) S2.out.size ?_;intro v3 wb3 hown3 hgrow3;simp only [Nat.zero_add,List.nil_append] at hown3;obtain ⟨a3,b3,rfl⟩:=Qam hown3;have O3:=Qaa hown3;have S3:=Qaa (S2.out.grown hgrow3 S2.out.size (fun j hj=>Qa8 O2.out j hj));have Q3i:=Qaa (Q2i.out.kept hgrow3 (Qdh Q2i.out O2.out (by decide)));refine hK.out _ _ (fun _=>S3.out) ?_;clear hK K
  try simp only [Act.put,sA,sB,sC]
  clear hown3 hgrow3;refine onE (i:=7) rfl (fun K hK=>?_);rw [if_pos (by rfl)];refine Qbe _ (.tmp 7) (.tmp 9) 45 rfl W0.heap.size 2 j0 (.int .i64 0) 1 8 Tryz.underlying45 hj hy0 hy1 hy2 rfl (by decide) _ _ _ rfl Q3i.out ra m d (R.map (Value.int .i64)) rfl (by simp [H2.out]) (fun e=>⟨QeR HR.out H2.out e,C2.out e⟩) (QbG (Qag HR.out (Qad HT0.out S3.out))) (QaU _ _) (by unfold maxLen;omega) (by omega) S3.out.size ?_;intro v4 wb4 hown4 hgrow4;simp only [Nat.zero_add,List.nil_append] at hown4;obtain ⟨a4,b4,rfl⟩:=Qam hown4;have O4:=Qaa hown4;have S4:=Qaa (S3.out.grown hgrow4 S3.out.size (fun j hj=>Qa8 Q3i.out j hj));have Q4u:=Qaa (O3.out.kept hgrow4 (Qdh O3.out Q3i.out (by decide)));refine hK.out _ _ (fun _=>S4.out) ?_;clear hK K
  try simp only [Act.put,sA,sB,sC]
  clear hown4 hgrow4;refine tkL (i:=8) (v:=.agg #[.slice a3 n b3,.slice a4 m b4]) rfl rfl S4.out (fun W hW=>?_) ?_
  ·obtain ⟨⟨x0,x1⟩,_⟩:=HC.out W hW
   clear hW;go_simp
  try simp only [List.setIfInBounds_toArray,List.set_cons_zero,List.set_cons_succ]
  have R2:=(HC.out _ S4.out).2;have q0:wb4.cell? ⟨w.heap.size+1,0,none⟩=some (.slice none 0 0):=by rw [cell_of_row _ _ 0 _ _ (0,0) R2];rfl
  have q1:wb4.cell? ⟨w.heap.size+1,1,none⟩=some (.slice none 0 0):=by rw [cell_of_row _ _ 1 _ _ (0,0) R2];rfl
  have f0:=fzR 0 R2;have f1:=fzR 1 R2;refine onE (i:=9) rfl (fun K hK=>?_);go_simp;refine hK.out _ _ (fun h=>absurd rfl h) ?_;clear hK K
  try simp only [Act.put,sA,sB,sC]
  refine Qar (by kernel_rfl) ?_ _;go_wp2;refine bodyPost_ret (v:=.agg #[.slice a3 n b3,.slice a4 m b4]) (by simp [results,Tryz.results175,go_sem,q0,q1]) rfl ⟨_,rfl,⟨_,_,rfl,?_,?_⟩,?_⟩
  ·refine QaI (B:=W0.heap.size) ?_ (by omega)
   repeat (refine ownsRow_setCell_below ?_ (by simp;omega) _)
   rw [H1.out];exact Q4u.out
  ·refine QaI (B:=W0.heap.size) ?_ (by omega)
   repeat (refine ownsRow_setCell_below ?_ (by simp;omega) _)
   rw [H2.out];exact O4.out
  ·repeat (refine Below.setCell ?_ (by simp <;> omega) _)
   exact Qad HT0.out S4.out
theorem Qhy:∀ {m l:List Int},(l ++ m).Pairwise (· < ·)->Qda l m=l ++ m
 | [],l,_=>by simp [Qda]
 | x :: m,l,h=>by
  have hi:QbM l x=l ++ [x]:=by
   have hl:∀ y∈l,y<x:=fun y hy=>(List.pairwise_append.1 h).2.2 y hy x (by simp);clear h
   induction l with
   | nil=>rfl
   | cons y r ih=>rw [QbM,if_pos (hl y (by simp)),ih (fun z hz=>hl z (by simp [hz]))];rfl
  show Qda (QbM l x) m=_
  rw [hi,Qhy (by simpa using h)];simp
theorem QfP:∀ {L:List Int},upN L=true->L.Pairwise (· < ·)
 | [],_=>List.Pairwise.nil
 | [x],_=>by simp
 | x :: y :: r,h=>by
  simp only [upN,Bool.and_eq_true,decide_eq_true_eq] at h;have ih:=QfP h.2;refine List.pairwise_cons.2 ⟨fun z hz=>?_,ih⟩;rcases List.mem_cons.1 hz with rfl | hz
  ·exact h.1
  ·have:=(List.pairwise_cons.1 ih).1 z hz;omega
theorem QhW {E:List Int} (h:upN E=true) (x:Int):Qif E [x]=QbM E x:=by
 unfold Qif;rw [Qhy (l:=[]) (by simpa using QfP h)];rfl
theorem Qqw {E R R':List Int} {x:Int} (hE:E=[]) (h64:R.length=64) (h:Laid (Qcq R) (·∈[x]) R'):Mg E R [x] [] [] R':=by
 subst hE;refine .inr ⟨fun k=>by omega,rfl,?_⟩;rw [List.length_nil,QdB];exact h.iff (fun y=>by simp [Qif,Qda,QbM])
theorem QoY {E R':List Int} {x:Int} (hu:upN E=true) (h40:¬ (QbM E x).length<=40) (h:Laid (Qcq []) (·∈QbM E x) R'):Mg E [] [x] [] [] R':=by
 refine .inr ⟨fun k=>h40 (by rw [<- QhW hu];exact k.2.2),rfl,?_⟩;rw [List.length_nil,QdB,QhW hu];exact h
theorem Qqq {E:List Int} {x:Int} (hu:upN E=true) (h40:(QbM E x).length<=40):Mg E [] [x] [] (QbM E x) []:=
 .inl ⟨rfl,rfl,by rw [QhW hu];exact h40,(QhW hu x).symm,rfl⟩
theorem Qkr {kd:IntKind} {w:World} {B n c:Nat} {ao:Option Addr} {T:TypeId} {L:List Int} (h:w.ownsRow B T 1 (.slice ao n c) L.length (L.map (Value.int kd))):Qas kd w ao L/\Qlz ao/\n=L.length/\n<=c/\c<=maxLen/\(ao=none->c=0):=by
 rcases h.2 with ⟨e,h0⟩ | ⟨g,cap,cur,e,h1,h2,h3,h4,h5,h6⟩
 ·cases e
  exact ⟨fun h=>by omega,.inl rfl,h0.symm,ZZa _,ZZj _,fun _=>rfl⟩
 ·cases e
  refine ⟨fun _=>⟨g,0,rfl,fun i x hx=>?_⟩,.inr ⟨g,0,rfl⟩,rfl,h3,h4,fun e=>by cases e⟩;have hi:=(ZZd.1 hx).1;rw [Nat.zero_add,h.cellAt i (by omega),List.getElem?_map,hx];rfl
theorem Qii {E R:List Int} (h:hlB E R=true):(R=[]/\upN E=true)∨(R.length=64/\E=[]):=by
 unfold hlB at h
 split at h
 ·rename_i h0
  unfold exB at h;simp only [Bool.and_eq_true,decide_eq_true_eq] at h;exact .inl ⟨List.eq_nil_of_length_eq_zero h0,h.2⟩
 ·unfold QgB at h
  simp only [Bool.and_eq_true,decide_eq_true_eq] at h;exact .inr ⟨h.2.1,List.eq_nil_of_length_eq_zero h.1⟩
theorem QoW {w:World} {ea ra:Option Addr} {n c m d:Nat} {E R:List Int} (x:Int) (hb:hlB E R=true) (h1:E.length=n) (h2:R.length=m) (hcap:n<=c) (hcm:c<=maxLen) (f1:Qlz ea) (c1:ea=none->c=0) (hE:Qas .u64 w ea E) (hR:Qas .i64 w ra R) (u1:∀ y∈E,U64 y) (ux:U64 x) :
  Calls Tryz.prog 137 #[.agg #[.slice ea n c,.slice ra m d],.int .u64 x] w fun e w'=>∃ v E' R',e=.returned v/\Mg E R [x] [] E' R'/\Qh9 w' w.heap.size v E' R'/\Below w.heap.size w w':=by
 have HE:=Qaa hE;have HR:=Qaa hR;have F1:=Qaa f1;have C1:=Qaa c1;have H1:=Qaa h1;have H2:=Qaa h2;have U1:=Qaa u1;have UX:=Qaa ux;have HBa:Hid (∀ o1 o2,Below w.heap.size w ((w.alloc o1).alloc o2)):=fun o1 o2=>((Below.refl _ _).alloc (Nat.le_refl _) _).alloc (by simp) _;have HL:=Qaa (Qd3 hb);have HP:=Qaa (Qii hb)
 have HC:Hid (∀ W,Below (w.heap.size+1+1) ((w.alloc (.cells #[.slice ea n c,.slice ra m d] 47)).alloc (.cells #[.slice none 0 0,.slice none 0 0] 47)) W->QbQ W w.heap.size (.slice ea n c) (.slice ra m d)/\W.heap[w.heap.size+1]?=some (.cells #[.slice none 0 0,.slice none 0 0] 47 (0,0))/\Below w.heap.size w W):=fun W h=>by
  obtain ⟨q1,q2⟩:=QfF w _ _ _ _ _ _ W (by simpa using h);exact ⟨q1,q2,(HBa.out _ _).trans (h.mono (by omega))⟩
 have hn40:n<=40:=by have:=HL.out.1;have:=H1.out;omega
 clear hE hR f1 c1 h1 h2 u1 ux hb;rcases HP.out with ⟨hR0,hup⟩ | ⟨h64,hE0⟩
 ·have hm0:m=0:=by rw [<- H2.out,hR0];rfl
  subst hm0;subst hR0;have HUp:=Qaa hup;clear hup HP;go_enter Tryz.func137,Tryz.ntmps137;go_wp2_with fail;refine (Qmp x H1.out (by omega) hcap hcm F1.out C1.out (Qag HE.out (HBa.out _ _))).mono ?_;rintro e w1 ⟨v1,rfl,o1,hb1⟩;obtain ⟨⟨x0,x1⟩,r1,t1⟩:=HC.out w1 (by simpa using hb1);have hz1:=hb1.size;simp only [World.size_alloc] at o1 hz1;obtain ⟨k,hk⟩:∃ k,(QbM E x).length=k:=⟨_,rfl⟩;obtain ⟨ao1,q1,rfl⟩:=Qam o1;obtain ⟨na1,fl1,_,ca1,cb1,_⟩:=Qkr o1;have HO1:=Qaa o1;have HT1:=Qaa t1;have HR1:=Qaa r1;have HNa:=Qaa na1;have hk41:k<=41:=by have:=Qgr E x;have:=H1.out;omega
  have HK:=Qaa hk;rw [hk];clear o1 t1 r1 hb1 na1 fl1 ca1 cb1 hk;have q0:w1.cell? ⟨w.heap.size+1,0,none⟩=some (.slice none 0 0):=by rw [cell_of_row _ _ 0 _ _ (0,0) HR1.out];rfl
  have q1':w1.cell? ⟨w.heap.size+1,1,none⟩=some (.slice none 0 0):=by rw [cell_of_row _ _ 1 _ _ (0,0) HR1.out];rfl
  have f0:=fzR 0 HR1.out;have f1:=fzR 1 HR1.out;by_cases h40:k<=40
  ·have h40i:¬ (40:Int)<(k:Int):=by omega
   have HM:Hid (Mg E [] [x] [] (QbM E x) []):=Qqq HUp.out (by rw [HK.out];exact h40);go_wp2;refine bodyPost_ret (v:=.agg #[.slice ao1 k q1,.slice none 0 0]) (by simp [results,Tryz.results137,go_sem,q0,q1']) rfl ⟨_,_,[],rfl,HM.out,⟨_,_,rfl,?_,World.ownsRow_nil _ _ _ _⟩,?_⟩
   ·refine QaI (B:=w.heap.size+1+1) ?_ (by omega)
    repeat (refine ownsRow_setCell_below ?_ (by simp) _)
    rw [<- HK.out];exact HO1.out
   ·exact (HT1.out.setCell (by simp) _).setCell (by simp) _
  ·have h40i:(40:Int)<(k:Int):=by omega
   have HMs:Hid (∀ R',Laid (Qcq []) (·∈QbM E x) R'->Mg E [] [x] [] [] R'):=fun R' h=>QoY HUp.out (by rw [HK.out];exact h40) h
   have HUi:Hid (∀ y∈QbM E x,U64 y):=fun y hy=>by
    rcases (QcV y E x).1 hy with rfl | h
    ·exact UX.out
    ·exact U1.out y h
   clear q0 q1' f0 f1;go_wp2_with fail;refine (Qim (R:=[]) rfl HK.out (.inl rfl) (by omega) (fun h=>by simp at h) HNa.out HUi.out).mono ?_;rintro e w2 ⟨g,R',rfl,hL,hRow,hb2⟩;have r2:=(hb2.block (w.heap.size+1) (by omega)).trans HR1.out;have q0:w2.cell? ⟨w.heap.size+1,0,none⟩=some (.slice none 0 0):=by rw [cell_of_row _ _ 0 _ _ (0,0) r2];rfl
   have q1':w2.cell? ⟨w.heap.size+1,1,none⟩=some (.slice none 0 0):=by rw [cell_of_row _ _ 1 _ _ (0,0) r2];rfl
   have f0:=fzR 0 r2;have f1:=fzR 1 r2;have HM:=Qaa (HMs.out R' hL);have HT2:=Qaa (Qad HT1.out hb2);have HRow:=Qaa hRow;clear hL hRow hb2 r2;go_wp2;refine bodyPost_ret (v:=.agg #[.slice none 0 0,.slice (some ⟨g,0,none⟩) 64 64]) (by simp [results,Tryz.results137,go_sem,q0,q1']) rfl ⟨_,[],R',rfl,HM.out,⟨_,_,rfl,World.ownsRow_nil _ _ _ _,?_⟩,?_⟩
   ·refine QaI (B:=w1.heap.size) ?_ (by omega)
    repeat (refine ownsRow_setCell_below ?_ (by simp;omega) _)
    rw [HRow.out.1];exact HRow.out.2
   ·exact (HT2.out.setCell (by simp) _).setCell (by simp) _
 ·have hm0:m=64:=by rw [<- H2.out,h64]
  subst hm0;have H64:=Qaa h64;have HE0:=Qaa hE0;clear h64 hE0 HP
  have HN1:Hid (∀ (W:World) (g:Nat),W.heap.size=g->Qas .u64 (W.alloc (.cells #[.int .u64 x] 26)) (some ⟨g,0,none⟩) [x]):=(fun W g e _=>⟨g,0,rfl,fun i y hy=>by
   subst e
   cases i with
   | zero=>simp at hy;subst hy;exact Qf3 _ _ _
   | succ i=>simp at hy⟩)
  go_enter Tryz.func137,Tryz.ntmps137;go_wp2_with fail;refine (Qim (E:=[x]) H2.out rfl (.inr rfl) (by simp) (Qag HR.out ((HBa.out _ _).alloc (by simp;omega) _)) (HN1.out _ _ (by simp)) (by intro y hy;simp at hy;subst hy;exact UX.out)).mono ?_;rintro e w2 ⟨g,R',rfl,hL,hRow,hb2⟩;obtain ⟨_,r2,t2⟩:=HC.out w2 (((Below.refl _ _).alloc (by simp) _).trans (hb2.mono (by simp)));have q0:w2.cell? ⟨w.heap.size+1,0,none⟩=some (.slice none 0 0):=by rw [cell_of_row _ _ 0 _ _ (0,0) r2];rfl
  have q1':w2.cell? ⟨w.heap.size+1,1,none⟩=some (.slice none 0 0):=by rw [cell_of_row _ _ 1 _ _ (0,0) r2];rfl
  have f0:=fzR 0 r2;have f1:=fzR 1 r2;have HM:=Qaa (Qqw HE0.out H64.out hL);have HT2:=Qaa t2;simp only [World.size_alloc] at hRow;have HRow:=Qaa hRow;clear hL hRow hb2 r2 t2;go_wp2;refine bodyPost_ret (v:=.agg #[.slice none 0 0,.slice (some ⟨g,0,none⟩) 64 64]) (by simp [results,Tryz.results137,go_sem,q0,q1']) rfl ⟨_,[],R',rfl,HM.out,⟨_,_,rfl,World.ownsRow_nil _ _ _ _,?_⟩,?_⟩
  ·refine QaI (B:=w.heap.size+1+1) ?_ (by omega)
   repeat (refine ownsRow_setCell_below ?_ (by simp) _)
   rw [HRow.out.1];exact QaI HRow.out.2 (by omega)
  ·exact (HT2.out.setCell (by simp) _).setCell (by simp) _
end Go.Proofs.YthchmdmncmioiaaGreatDoor
