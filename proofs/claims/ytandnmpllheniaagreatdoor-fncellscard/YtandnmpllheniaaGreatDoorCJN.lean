/-
 Parts.
-/
import Derived.Test.YtandnmpllheniaaGreatDoorCJM
set_option linter.all false
set_option maxHeartbeats 4000000
namespace Go.Proofs.YtandnmpllheniaaGreatDoor
theorem Qpr {P:Program} {md:Region.Mode} {ops:Array Oper} {Q:Exit->Act->World->Prop} {S:World->Prop} {k i j:Nat} {oi oj:Oper} {fuel:Nat} {listed:Array Bool} {a:Act} {w:World} (hr:Region.ready md ops listed=[i,j]) (hi:ops[i]?=some oi) (hj:ops[j]?=some oj)
  (h:∀ K':Act->World->Prop,Shut (∀ a w,(i≠k->S w)->QbE P md ops Q S k fuel (listed.setIfInBounds i true) a w->K' a w)->if Region.wanted oi (yielded ops a.tmps)=true then Oper.wp P oi a w K' Q else K' (a.put oi.dst undef) w)
  (h':∀ K':Act->World->Prop,Shut (∀ a w,(j≠k->S w)->QbE P md ops Q S k fuel (listed.setIfInBounds j true) a w->K' a w)->if Region.wanted oj (yielded ops a.tmps)=true then Oper.wp P oj a w K' Q else K' (a.put oj.dst undef) w) :
  QbE P md ops Q S k (fuel+1) listed a w:=by
 refine ⟨fun h0=>(by rw [hr] at h0;cases h0),fun q hq=>?_⟩;rw [hr] at hq;have:q=i∨q=j:=by simpa using hq
 rcases this with rfl | rfl
 ·exact wpOp_step hi (fun K' hK=>h K' (fun a w hS hW=>hK a w ⟨hS,hW⟩))
 ·exact wpOp_step hj (fun K' hK=>h' K' (fun a w hS hW=>hK a w ⟨hS,hW⟩))
set_option maxRecDepth 10000
open Go.ChangeAt Go.ChangeShapes Go.Maps Go.PlainAid Go.RowKit Go.WideShapes
def QfZ (L:List Int) (p:Int) (k:Nat):Prop:=k<=L.length/\(∀ (t:Nat) (x:Int),L[t]?=some x->t<k->x<p)/\∀ x,L[k]?=some x->¬ x<p
theorem Qgy {y:Int} {r:List Int} {p:Int} {k:Nat} (h:QfZ (y :: r) p (k+1)):QfZ r p k:=
 ⟨by have:=h.1;simp at this;exact this,fun t x hx ht=>h.2.1 (t+1) x (by simpa using hx) (by omega),fun x hx=>h.2.2 x (by simpa using hx)⟩
theorem QmO {a:Int}:∀ (L:List Int) (k:Nat),QfZ L a k->L[k]?=some a->QbZ L a=L.take k ++ [a] ++ L.drop (k+1)
 | [],k,_,h=>by simp at h
 | y :: r,0,hp,h=>by
  obtain rfl:y=a:=by simpa using h
  simp [QbZ]
 | y :: r,k+1,hp,h=>by
  have hy:=hp.2.1 0 y rfl (by omega);rw [QbZ,if_pos hy,QmO r k (Qgy hp) (by simpa using h)];rfl
theorem Qif {a:Int}:∀ (L:List Int) (k:Nat),QfZ L a k->(∀ x,L[k]?=some x->x≠a)->QbZ L a=L.take k ++ [a] ++ L.drop k
 | [],k,hp,h=>by have:=hp.1;simp at this;subst this;rfl
 | y :: r,0,hp,h=>by
  have hy:=hp.2.2 y rfl;have hne:y≠a:=h y rfl;rw [QbZ,if_neg hy,if_neg hne];rfl
 | y :: r,k+1,hp,h=>by
  have hy:=hp.2.1 0 y rfl (by omega);rw [QbZ,if_pos hy,Qif r k (Qgy hp) (fun x hx=>h x (by simpa using hx))];rfl
theorem Qfw {kd:IntKind} {w:World} {ao:Option Addr} {L:List Int} (h:Qaq kd w ao L) (k:Nat):Qaq kd w ao (L.take k):=fun h0=>by
 obtain ⟨b,off,e,hc⟩:=h (by rw [List.length_take] at h0;omega);exact ⟨b,off,e,fun i x hx=>hc i x (by rw [List.getElem?_take] at hx;split at hx;exact hx;cases hx)⟩
theorem QhH {kd:IntKind} {w:World} {b off:Nat} {L:List Int} (h:Qaq kd w (some ⟨b,off,none⟩) L) (k:Nat):Qaq kd w (some ⟨b,off+k,none⟩) (L.drop k):=fun h0=>by
 rw [List.length_drop] at h0;obtain ⟨b',off',e,hc⟩:=h (by omega)
 cases e
 exact ⟨b,off+k,rfl,fun i x hx=>by rw [List.getElem?_drop] at hx;have:=hc (k+i) x hx;rw [show off+k+i=off+(k+i) by omega];exact this⟩
theorem QbL {kd:IntKind} {w:World} {ao:Option Addr} {L:List Int} (h:Qaq kd w ao L):∀ ad,ao=some ad->∀ j u,(L.map (Value.int kd))[j]?=some u->w.cell? (ad.add j)=some u:=fun ad e j u hu=>by
 rw [List.getElem?_map] at hu;obtain ⟨x,hx,rfl⟩:=Option.map_eq_some_iff.1 hu;obtain ⟨b,off,e2,hc⟩:=h (by have:=(ZZd.1 hx).1;omega);rw [e] at e2;cases e2;rw [Addr.add_lit];exact hc j x hx
theorem QaV (kd:IntKind) (L:List Int):∀ u∈L.map (Value.int kd),u.oneCell'=true:=fun u hu=>by
 simp at hu;obtain ⟨x,_,rfl⟩:=hu;rfl
theorem Qbg {w:World} {B n:Nat} {e:TypeId} {s:Nat} {v:Value} {xs:List Value} (h:w.ownsRow B e s v n xs):∀ k,v.ownBlock=some k->B<=k:=fun k hk=>by
 rcases h.2 with ⟨rfl,_⟩ | ⟨g,c,_,rfl,h1,_⟩
 ·cases hk
 ·have:g=k:=Option.some.inj hk
  omega
theorem QiV {w:World} {n c:Nat} {ao:Option Addr} {L:List Int} (a:Int) (hn:L.length=n) (hl:n<=1000000) (hcap:n<=c) (hcm:c<=maxLen) (hf:Qmw ao) (hno:ao=none->c=0) (hA:Qaq .u64 w ao L) :
  Calls Tryz.prog 181 #[.slice ao n c,.int .u64 a] w fun e w'=>∃ v,e=.returned v/\w'.ownsRow w.heap.size 26 1 v (QbZ L a).length ((QbZ L a).map (Value.int .u64))/\Below w.heap.size w w':=by
 obtain ⟨i0,hi,ae,af,ag⟩:=info_parts Qdo;have HA:=Qaa hA;have HN:=Qaa hn;have aC:=Qaa hno;have aB:=Qaa hf;unfold maxLen at hcm;clear hA hn hno hf;go_enter Tryz.func181,Tryz.ntmps181;go_wp2
 go_loop [5] (fun i=>∃ k:Nat,k<=n/\i=.int .i64 k/\Hid (∀ (t:Nat) (x:Int),L[t]?=some x->t<k->x<a)) (fun i=>n - (Go.RowKit.intOf i).toNat)
 case atStart=>exact ⟨0,ZZj _,rfl,(fun t x _ h=>absurd h (by omega):∀ (t:Nat) (x:Int),L[t]?=some x->t<0->x<a)⟩
 case round=>
  obtain ⟨k,hk,rfl,HF⟩:=hrel;by_cases aF:k<n
  ·obtain ⟨b,ah,e,ai⟩:=HA.out (by have:=HN.out;omega)
   subst e;obtain ⟨y,aj⟩:∃ y,L[k]?=some y:=⟨L[k]'(by have:=HN.out;omega),ZZe _⟩;have ak:=ai k y aj;clear ai;by_cases ap:y<a
   ·have ax:Hid (∀ (t:Nat) (x:Int),L[t]?=some x->t<k+1->x<a):=(fun t z hz ht=>by
     by_cases e:t=k
     ·subst e;rw [aj] at hz;obtain rfl:=Option.some.inj hz;exact ap
     ·exact HF.out t z hz (by omega):∀ (t:Nat) (x:Int),L[t]?=some x->t<k+1->x<a)
    have d1:decide (y<a)=true:=ZZh ap;clear aj;go_wp2
    go_round
    case rel=>exact ⟨k+1,by omega,by go_num,ax⟩
    case measure=>simp [zI];omega
   ·have HK:Hid (QfZ L a k):=(⟨by have:=HN.out;omega,HF,fun z hz=>by rw [aj] at hz;obtain rfl:=Option.some.inj hz;exact ap⟩:QfZ L a k)
    have d1:decide (y<a)=false:=ZZg ap;have av:=Qaa aj;clear aj HF;by_cases aq:y=a
    ·subst aq
     have HE:Hid (QbZ L y=L.take k ++ [y] ++ L.drop (k+1)):=QmO L k HK av;have aD:IntKind.i64.wrap ((k:Int)+1)=(k:Int)+1:=by rw [IntKind.wrap_i64];omega
     have aI:((k:Int)+1).toNat=k+1:=by omega
     have aG:(0:Int)<=(k:Int)+1:=by omega
     have aE:(k:Int)+1<=(n:Int):=by omega
     by_cases az:c=k+1
     ·subst az
      have ay:n=k+1:=by omega
      have aH:k+1 - (k+1)=0:=by omega
      subst ay;have aw:Hid (QbZ L y=L.take k ++ [y] ++ []):=(by rw [HE.out,List.drop_eq_nil_of_le (by have:=HN.out;omega)];exact Qaa rfl)
      go_wp2_with (first
       | (at_builtin;refine Qag _ rfl (.tmp 21) (.tmp 24) 44 rfl w.heap.size 26 i0 (.int .u64 0) 1 8 Tryz.underlying44 hi ae af ag rfl (by decide) _ _ _ rfl (World.ownsRow_made _ #[] 0 (Nat.le_refl _) (Nat.zero_le _) rfl) (some ⟨b,ah,none⟩) k (k+1) ((L.take k).map (Value.int .u64)) rfl (by rw [List.length_map,List.length_take];have:=HN.out;omega) (fun e=>by cases e) (QbL (Qfw (Qaf HA ((Below.refl _ _).alloc (Nat.le_refl _) _)) k)) (QaV _ _) (by unfold maxLen;omega) (by omega) (by simp) ?_;intro v1 w1 ab aa ac;simp only [Nat.zero_add,List.nil_append] at ab;obtain ⟨an,c1,rfl⟩:=Qam ab;have O1:=Qaa ab;have B1:=Qaa (((Below.refl w.heap.size w).alloc (Nat.le_refl _) _).grown aa (by simp) (fun j hj=>by cases hj;exact Nat.le_refl _));have y0:=Qab B1 ak;clear ab aa ac)
       | (at_builtin;refine Qag _ rfl (.tmp 26) (.tmp 28) 44 rfl w.heap.size 26 i0 (.int .u64 0) 1 8 Tryz.underlying44 hi ae af ag rfl (by decide) _ _ _ rfl (QaU O1 ((Below.refl _ _).alloc (Nat.le_refl _) _)) (some ⟨w1.heap.size,0,none⟩) 1 1 [.int .u64 y] rfl rfl (fun e=>by cases e) (fun ad e=>by cases e;exact QaP (cs:=#[.int .u64 y]) rfl) (QaV .u64 [y]) (by unfold maxLen;omega) (by omega) (by simp;have:=B1.out.size;omega) ?_;intro v2 w2 ab aa ac;obtain ⟨am,c2,rfl⟩:=Qam ab;have O2:=Qaa ab;have B2:=Qaa ((B1.out.alloc B1.out.size _).grown aa (by simp;have:=B1.out.size;omega) (fun j hj=>Qbg O1 j hj));have x0:=Qab B2 ak;clear ab aa ac)
       | (at_builtin;refine Qag _ rfl (.tmp 44) (.tmp 47) 44 rfl w.heap.size 26 i0 (.int .u64 0) 1 8 Tryz.underlying44 hi ae af ag rfl (by decide) _ _ _ rfl O2 (some ⟨b,ah,none⟩) 0 0 (([]:List Int).map (Value.int .u64)) rfl rfl (fun e=>by cases e) (fun A _ j z hz=>by simp at hz) (QaV _ _) (by unfold maxLen;omega) (by omega) (by have:=B2.out.size;omega) ?_;intro v3 w3 ab aa ac;obtain ⟨al,c3,rfl⟩:=Qam ab;have O3:=Qaa ab;have B3:=Qaa (B2.out.grown aa B2.out.size (fun j hj=>Qbg O2 j hj));clear ab aa ac))
      all_goals
       go_ret;refine ⟨_,rfl,?_,B3⟩
       have el:(QbZ L y).length=k+1+0:=by
        rw [aw.out];have:=HN.out;simp only [List.length_append,List.length_take,List.length_drop,List.length_cons,List.length_nil];omega
       rw [el,aw.out,List.map_append,List.map_append];exact O3.out
     ·go_wp2_with (first
       | (at_builtin;refine Qag _ rfl (.tmp 21) (.tmp 24) 44 rfl w.heap.size 26 i0 (.int .u64 0) 1 8 Tryz.underlying44 hi ae af ag rfl (by decide) _ _ _ rfl (World.ownsRow_made _ #[] 0 (Nat.le_refl _) (Nat.zero_le _) rfl) (some ⟨b,ah,none⟩) k c ((L.take k).map (Value.int .u64)) rfl (by rw [List.length_map,List.length_take];have:=HN.out;omega) (fun e=>by cases e) (QbL (Qfw (Qaf HA ((Below.refl _ _).alloc (Nat.le_refl _) _)) k)) (QaV _ _) (by unfold maxLen;omega) (by omega) (by simp) ?_;intro v1 w1 ab aa ac;simp only [Nat.zero_add,List.nil_append] at ab;obtain ⟨an,c1,rfl⟩:=Qam ab;have O1:=Qaa ab;have B1:=Qaa (((Below.refl w.heap.size w).alloc (Nat.le_refl _) _).grown aa (by simp) (fun j hj=>by cases hj;exact Nat.le_refl _));have y0:=Qab B1 ak;clear ab aa ac)
       | (at_builtin;refine Qag _ rfl (.tmp 26) (.tmp 28) 44 rfl w.heap.size 26 i0 (.int .u64 0) 1 8 Tryz.underlying44 hi ae af ag rfl (by decide) _ _ _ rfl (QaU O1 ((Below.refl _ _).alloc (Nat.le_refl _) _)) (some ⟨w1.heap.size,0,none⟩) 1 1 [.int .u64 y] rfl rfl (fun e=>by cases e) (fun ad e=>by cases e;exact QaP (cs:=#[.int .u64 y]) rfl) (QaV .u64 [y]) (by unfold maxLen;omega) (by omega) (by simp;have:=B1.out.size;omega) ?_;intro v2 w2 ab aa ac;obtain ⟨am,c2,rfl⟩:=Qam ab;have O2:=Qaa ab;have B2:=Qaa ((B1.out.alloc B1.out.size _).grown aa (by simp;have:=B1.out.size;omega) (fun j hj=>Qbg O1 j hj));have x0:=Qab B2 ak;clear ab aa ac)
       | (at_builtin;refine Qag _ rfl (.tmp 44) (.tmp 47) 44 rfl w.heap.size 26 i0 (.int .u64 0) 1 8 Tryz.underlying44 hi ae af ag rfl (by decide) _ _ _ rfl O2 (some ⟨b,ah+(k+1),none⟩) (n - (k+1)) (c - (k+1)) ((L.drop (k+1):List Int).map (Value.int .u64)) rfl (by rw [List.length_map,List.length_drop];have:=HN.out;omega) (fun e=>by cases e) (QbL (QhH (Qaf HA B2) (k+1))) (QaV _ _) (by unfold maxLen;omega) (by omega) (by have:=B2.out.size;omega) ?_;intro v3 w3 ab aa ac;obtain ⟨al,c3,rfl⟩:=Qam ab;have O3:=Qaa ab;have B3:=Qaa (B2.out.grown aa B2.out.size (fun j hj=>Qbg O2 j hj));clear ab aa ac))
      all_goals
       go_ret;refine ⟨_,rfl,?_,B3⟩
       have el:(QbZ L y).length=k+1+(n - (k+1)):=by
        rw [HE.out];have:=HN.out;simp only [List.length_append,List.length_take,List.length_drop,List.length_cons,List.length_nil];omega
       rw [el,HE.out,List.map_append,List.map_append];exact O3.out
    ·have HE:Hid (QbZ L a=L.take k ++ [a] ++ L.drop k):=Qif L k HK (fun z hz=>by rw [av.out] at hz;obtain rfl:=Option.some.inj hz;exact aq)
     have au:¬ (c=k):=by omega
     have d2:decide (y=a)=false:=ZZg aq
     go_wp2_with (first
      | (at_builtin;refine Qag _ rfl (.tmp 21) (.tmp 24) 44 rfl w.heap.size 26 i0 (.int .u64 0) 1 8 Tryz.underlying44 hi ae af ag rfl (by decide) _ _ _ rfl (World.ownsRow_made _ #[] 0 (Nat.le_refl _) (Nat.zero_le _) rfl) (some ⟨b,ah,none⟩) k c ((L.take k).map (Value.int .u64)) rfl (by rw [List.length_map,List.length_take];have:=HN.out;omega) (fun e=>by cases e) (QbL (Qfw (Qaf HA ((Below.refl _ _).alloc (Nat.le_refl _) _)) k)) (QaV _ _) (by unfold maxLen;omega) (by omega) (by simp) ?_;intro v1 w1 ab aa ac;simp only [Nat.zero_add,List.nil_append] at ab;obtain ⟨an,c1,rfl⟩:=Qam ab;have O1:=Qaa ab;have B1:=Qaa (((Below.refl w.heap.size w).alloc (Nat.le_refl _) _).grown aa (by simp) (fun j hj=>by cases hj;exact Nat.le_refl _));have y0:=Qab B1 ak;clear ab aa ac)
      | (at_builtin;refine Qag _ rfl (.tmp 26) (.tmp 28) 44 rfl w.heap.size 26 i0 (.int .u64 0) 1 8 Tryz.underlying44 hi ae af ag rfl (by decide) _ _ _ rfl (QaU O1 ((Below.refl _ _).alloc (Nat.le_refl _) _)) (some ⟨w1.heap.size,0,none⟩) 1 1 [.int .u64 a] rfl rfl (fun e=>by cases e) (fun ad e=>by cases e;exact QaP (cs:=#[.int .u64 a]) rfl) (QaV .u64 [a]) (by unfold maxLen;omega) (by omega) (by simp;have:=B1.out.size;omega) ?_;intro v2 w2 ab aa ac;obtain ⟨am,c2,rfl⟩:=Qam ab;have O2:=Qaa ab;have B2:=Qaa ((B1.out.alloc B1.out.size _).grown aa (by simp;have:=B1.out.size;omega) (fun j hj=>Qbg O1 j hj));have x0:=Qab B2 ak;clear ab aa ac)
      | (at_builtin;refine Qag _ rfl (.tmp 44) (.tmp 47) 44 rfl w.heap.size 26 i0 (.int .u64 0) 1 8 Tryz.underlying44 hi ae af ag rfl (by decide) _ _ _ rfl O2 (some ⟨b,ah+k,none⟩) (n - k) (c - k) ((L.drop k:List Int).map (Value.int .u64)) rfl (by rw [List.length_map,List.length_drop];have:=HN.out;omega) (fun e=>by cases e) (QbL (QhH (Qaf HA B2) k)) (QaV _ _) (by unfold maxLen;omega) (by omega) (by have:=B2.out.size;omega) ?_;intro v3 w3 ab aa ac;obtain ⟨al,c3,rfl⟩:=Qam ab;have O3:=Qaa ab;have B3:=Qaa (B2.out.grown aa B2.out.size (fun j hj=>Qbg O2 j hj));clear ab aa ac))
     all_goals
      go_ret;refine ⟨_,rfl,?_,B3⟩
      have el:(QbZ L a).length=k+1+(n - k):=by
       rw [HE.out];have:=HN.out;simp only [List.length_append,List.length_take,List.length_drop,List.length_cons,List.length_nil];omega
      rw [el,HE.out,List.map_append,List.map_append];exact O3.out
  ·have ar:k=n:=by omega
   subst ar;have HK:Hid (QfZ L a k):=(⟨by have:=HN.out;omega,HF,fun z hz=>absurd (ZZd.1 hz).1 (by have:=HN.out;omega)⟩:QfZ L a k)
   have HE:Hid (QbZ L a=L ++ [a] ++ []):=(by
    rw [Qif L k HK.out (fun z hz=>absurd (List.getElem?_eq_some_iff.1 hz).1 (by have:=HN.out;omega)),List.take_of_length_le (by have:=HN.out;omega),List.drop_eq_nil_of_le (by have:=HN.out;omega)];exact Qaa rfl)
   clear HK HF;rcases aB.out with rfl | ⟨b,ah,rfl⟩
   ·have h0:c=0:=aC.out rfl
    subst h0;have aA:k=0:=by omega
    subst aA
    go_wp2_with (first
     | (at_builtin;refine Qag _ rfl (.tmp 21) (.tmp 24) 44 rfl w.heap.size 26 i0 (.int .u64 0) 1 8 Tryz.underlying44 hi ae af ag rfl (by decide) _ _ _ rfl (World.ownsRow_made _ #[] 0 (Nat.le_refl _) (Nat.zero_le _) rfl) (none) 0 0 ((L).map (Value.int .u64)) rfl (by rw [List.length_map];have:=HN.out;omega) (fun e=>⟨rfl,rfl⟩) (QbL (Qaf HA ((Below.refl _ _).alloc (Nat.le_refl _) _))) (QaV _ _) (by unfold maxLen;omega) (by omega) (by simp) ?_;intro v1 w1 ab aa ac;simp only [Nat.zero_add,List.nil_append] at ab;obtain ⟨an,c1,rfl⟩:=Qam ab;have O1:=Qaa ab;have B1:=Qaa (((Below.refl w.heap.size w).alloc (Nat.le_refl _) _).grown aa (by simp) (fun j hj=>by cases hj;exact Nat.le_refl _));clear ab aa ac)
     | (at_builtin;refine Qag _ rfl (.tmp 26) (.tmp 28) 44 rfl w.heap.size 26 i0 (.int .u64 0) 1 8 Tryz.underlying44 hi ae af ag rfl (by decide) _ _ _ rfl (QaU O1 ((Below.refl _ _).alloc (Nat.le_refl _) _)) (some ⟨w1.heap.size,0,none⟩) 1 1 [.int .u64 a] rfl rfl (fun e=>by cases e) (fun ad e=>by cases e;exact QaP (cs:=#[.int .u64 a]) rfl) (QaV .u64 [a]) (by unfold maxLen;omega) (by omega) (by simp;have:=B1.out.size;omega) ?_;intro v2 w2 ab aa ac;obtain ⟨am,c2,rfl⟩:=Qam ab;have O2:=Qaa ab;have B2:=Qaa ((B1.out.alloc B1.out.size _).grown aa (by simp;have:=B1.out.size;omega) (fun j hj=>Qbg O1 j hj));clear ab aa ac)
     | (at_builtin;refine Qag _ rfl (.tmp 44) (.tmp 47) 44 rfl w.heap.size 26 i0 (.int .u64 0) 1 8 Tryz.underlying44 hi ae af ag rfl (by decide) _ _ _ rfl O2 (none) 0 0 (([]:List Int).map (Value.int .u64)) rfl rfl (fun e=>⟨rfl,rfl⟩) (fun A _ j z hz=>by simp at hz) (QaV _ _) (by unfold maxLen;omega) (by omega) (by have:=B2.out.size;omega) ?_;intro v3 w3 ab aa ac;obtain ⟨al,c3,rfl⟩:=Qam ab;have O3:=Qaa ab;have B3:=Qaa (B2.out.grown aa B2.out.size (fun j hj=>Qbg O2 j hj));clear ab aa ac))
    all_goals
     go_ret;refine ⟨_,rfl,?_,B3⟩
     have el:(QbZ L a).length=0+1+0:=by
      rw [HE.out];have:=HN.out;simp only [List.length_append,List.length_take,List.length_drop,List.length_cons,List.length_nil];omega
     rw [el,HE.out,List.map_append,List.map_append];exact O3.out
   ·by_cases au:c=k
    ·subst au
     go_wp2_with (first
      | (at_builtin;refine Qag _ rfl (.tmp 21) (.tmp 24) 44 rfl w.heap.size 26 i0 (.int .u64 0) 1 8 Tryz.underlying44 hi ae af ag rfl (by decide) _ _ _ rfl (World.ownsRow_made _ #[] 0 (Nat.le_refl _) (Nat.zero_le _) rfl) (some ⟨b,ah,none⟩) c c ((L).map (Value.int .u64)) rfl (by rw [List.length_map];have:=HN.out;omega) (fun e=>by cases e) (QbL (Qaf HA ((Below.refl _ _).alloc (Nat.le_refl _) _))) (QaV _ _) (by unfold maxLen;omega) (by omega) (by simp) ?_;intro v1 w1 ab aa ac;simp only [Nat.zero_add,List.nil_append] at ab;obtain ⟨an,c1,rfl⟩:=Qam ab;have O1:=Qaa ab;have B1:=Qaa (((Below.refl w.heap.size w).alloc (Nat.le_refl _) _).grown aa (by simp) (fun j hj=>by cases hj;exact Nat.le_refl _));clear ab aa ac)
      | (at_builtin;refine Qag _ rfl (.tmp 26) (.tmp 28) 44 rfl w.heap.size 26 i0 (.int .u64 0) 1 8 Tryz.underlying44 hi ae af ag rfl (by decide) _ _ _ rfl (QaU O1 ((Below.refl _ _).alloc (Nat.le_refl _) _)) (some ⟨w1.heap.size,0,none⟩) 1 1 [.int .u64 a] rfl rfl (fun e=>by cases e) (fun ad e=>by cases e;exact QaP (cs:=#[.int .u64 a]) rfl) (QaV .u64 [a]) (by unfold maxLen;omega) (by omega) (by simp;have:=B1.out.size;omega) ?_;intro v2 w2 ab aa ac;obtain ⟨am,c2,rfl⟩:=Qam ab;have O2:=Qaa ab;have B2:=Qaa ((B1.out.alloc B1.out.size _).grown aa (by simp;have:=B1.out.size;omega) (fun j hj=>Qbg O1 j hj));clear ab aa ac)
      | (at_builtin;refine Qag _ rfl (.tmp 44) (.tmp 47) 44 rfl w.heap.size 26 i0 (.int .u64 0) 1 8 Tryz.underlying44 hi ae af ag rfl (by decide) _ _ _ rfl O2 (_) 0 _ (([]:List Int).map (Value.int .u64)) rfl rfl (fun e=>by cases e) (fun A _ j z hz=>by simp at hz) (QaV _ _) (by unfold maxLen;omega) (by omega) (by have:=B2.out.size;omega) ?_;intro v3 w3 ab aa ac;obtain ⟨al,c3,rfl⟩:=Qam ab;have O3:=Qaa ab;have B3:=Qaa (B2.out.grown aa B2.out.size (fun j hj=>Qbg O2 j hj));clear ab aa ac))
     all_goals
      go_ret;refine ⟨_,rfl,?_,B3⟩
      have el:(QbZ L a).length=c+1+0:=by
       rw [HE.out];have:=HN.out;simp only [List.length_append,List.length_take,List.length_drop,List.length_cons,List.length_nil];omega
      rw [el,HE.out,List.map_append,List.map_append];exact O3.out
    ·go_wp2_with (first
      | (at_builtin;refine Qag _ rfl (.tmp 21) (.tmp 24) 44 rfl w.heap.size 26 i0 (.int .u64 0) 1 8 Tryz.underlying44 hi ae af ag rfl (by decide) _ _ _ rfl (World.ownsRow_made _ #[] 0 (Nat.le_refl _) (Nat.zero_le _) rfl) (some ⟨b,ah,none⟩) k c ((L).map (Value.int .u64)) rfl (by rw [List.length_map];have:=HN.out;omega) (fun e=>by cases e) (QbL (Qaf HA ((Below.refl _ _).alloc (Nat.le_refl _) _))) (QaV _ _) (by unfold maxLen;omega) (by omega) (by simp) ?_;intro v1 w1 ab aa ac;simp only [Nat.zero_add,List.nil_append] at ab;obtain ⟨an,c1,rfl⟩:=Qam ab;have O1:=Qaa ab;have B1:=Qaa (((Below.refl w.heap.size w).alloc (Nat.le_refl _) _).grown aa (by simp) (fun j hj=>by cases hj;exact Nat.le_refl _));clear ab aa ac)
      | (at_builtin;refine Qag _ rfl (.tmp 26) (.tmp 28) 44 rfl w.heap.size 26 i0 (.int .u64 0) 1 8 Tryz.underlying44 hi ae af ag rfl (by decide) _ _ _ rfl (QaU O1 ((Below.refl _ _).alloc (Nat.le_refl _) _)) (some ⟨w1.heap.size,0,none⟩) 1 1 [.int .u64 a] rfl rfl (fun e=>by cases e) (fun ad e=>by cases e;exact QaP (cs:=#[.int .u64 a]) rfl) (QaV .u64 [a]) (by unfold maxLen;omega) (by omega) (by simp;have:=B1.out.size;omega) ?_;intro v2 w2 ab aa ac;obtain ⟨am,c2,rfl⟩:=Qam ab;have O2:=Qaa ab;have B2:=Qaa ((B1.out.alloc B1.out.size _).grown aa (by simp;have:=B1.out.size;omega) (fun j hj=>Qbg O1 j hj));clear ab aa ac)
      | (at_builtin;refine Qag _ rfl (.tmp 44) (.tmp 47) 44 rfl w.heap.size 26 i0 (.int .u64 0) 1 8 Tryz.underlying44 hi ae af ag rfl (by decide) _ _ _ rfl O2 (_) 0 _ (([]:List Int).map (Value.int .u64)) rfl rfl (fun e=>by cases e) (fun A _ j z hz=>by simp at hz) (QaV _ _) (by unfold maxLen;omega) (by omega) (by have:=B2.out.size;omega) ?_;intro v3 w3 ab aa ac;obtain ⟨al,c3,rfl⟩:=Qam ab;have O3:=Qaa ab;have B3:=Qaa (B2.out.grown aa B2.out.size (fun j hj=>Qbg O2 j hj));clear ab aa ac))
     all_goals
      go_ret;refine ⟨_,rfl,?_,B3⟩
      have el:(QbZ L a).length=k+1+0:=by
       rw [HE.out];have:=HN.out;simp only [List.length_append,List.length_take,List.length_drop,List.length_cons,List.length_nil];omega
      rw [el,HE.out,List.map_append,List.map_append];exact O3.out
theorem Qet {kd:IntKind} {w:World} {ao:Option Addr} {L:List Int} {n:Nat} (h:Qaq kd w ao L) (hn:L.length=n) (e:ao=none):n=0:=by
 subst e;rw [<- hn,Qig h];rfl
theorem Qbp {P:Program} (w:World) {o:Oper} {a:Act} {K:Act->World->Prop} {Q:Exit->Act->World->Prop} (s x:Operand) (t:TypeId)
  (ho:o.op=.call { callee:=.builtin .append,args:=#[s,x],argTypes:=#[t,t] })
  (base:Nat) (e:TypeId) (i:TypeInfo) (z:Value) (size bytes:Nat) (ht:P.underlying t=some (.slice e)) (hi:P.info? e=some i) (hz:i.zero=some z)
  (hsize:i.size=size) (hby:i.bytes=bytes) (hzs:z.cells.size=size) (hsz:0<size)
  (v:Value) (n:Nat) (xs:List Value) (hs:a.eval s=v) (hown:w.ownsRow base e size v n xs)
  (xo:Option Addr) (m c:Nat) (news:List Value) (hx:a.eval x=.slice xo m c) (hl:news.length=m*size) (hno:xo=none->m=0/\c=0) (hnews:∀ ad,xo=some ad->∀ j u,news[j]?=some u->w.cell? (ad.add j)=some u) (h1:∀ u∈news,u.oneCell'=true)
  (h63:n+m<=maxLen) (hbytes:(n+m)*bytes<=140737488355328) (hbase:base<=w.heap.size)
  (h:∀ v' w',w'.ownsRow base e size v' (n+m) (xs ++ news)->w.grownBy w' v.ownBlock->K (a.put o.dst v') w'):o.wp P a w K Q:=by
 cases xo with
 | some ad=>exact wp_append_own w s x t ho base e i z size bytes ht hi hz hsize hby hzs hsz v n xs hs hown ad m c news hx hl (hnews ad rfl) h1 h63 hbytes hbase (fun v' w' q1 q2 _=>h v' w' q1 q2)
 | none=>
  obtain ⟨rfl,rfl⟩:=hno rfl;obtain rfl:news=[]:=List.eq_nil_of_length_eq_zero (by rw [hl,Nat.zero_mul]);have hr:=run_append_owned_none (P:=P) (w:=w) base t o.type e i size ht hi v n xs hown;unfold Oper.wp execOp;simp only [ho,resolve,invoke,builtin,Sem.run_bind,Sem.run_pure,Result.andThen_ok,List.map_toArray,List.map_cons,List.map_nil,hs,hx,hr];exact h v w (by rw [Nat.add_zero,List.append_nil];exact hown) (World.grownBy.refl _ _)
theorem QdN {w:World} {B B' s s' n n':Nat} {T T':TypeId} {v v':Value} {xs xs':List Value} (h:w.ownsRow B T s v n xs) (g:w.ownsRow B' T' s' v' n' xs') (hT:T≠T'):v.ownBlock=none∨v.ownBlock≠v'.ownBlock:=by
 rcases h.2 with ⟨rfl,_⟩ | ⟨b,c,ab,rfl,_,h2,_⟩
 ·exact .inl rfl
 ·rcases g.2 with ⟨rfl,_⟩ | ⟨b',c',aa,rfl,_,g2,_⟩
  ·exact .inr (by simp [Value.ownBlock])
  ·refine .inr (fun e=>?_)
   have e:b=b':=Option.some.inj e;subst e;rw [h2] at g2;injection g2 with g2;injection g2 with _ g3 _;exact hT g3
theorem Qn7 {w:World} {ea ra:Option Addr} {n c m d:Nat} {E R:List Int} (h1:E.length=n) (h2:R.length=m) (l1:n<=1048576) (l2:m<=1048576) (c1:ea=none->c=0) (c2:ra=none->d=0) (hE:Qaq .u64 w ea E) (hR:Qaq .i64 w ra R) :
  Calls Tryz.prog 175 #[.agg #[.slice ea n c,.slice ra m d]] w fun e w'=>∃ v,e=.returned v/\Qhr w' w.heap.size v E R/\Below w.heap.size w w':=by
 obtain ⟨i0,hi,ax,aq,aw⟩:=info_parts Qdo;obtain ⟨j0,hj,av,ap,au⟩:=info_parts QdZ;have HE:=Qaa hE;have HR:=Qaa hR;have H1:=Qaa h1;have H2:=Qaa h2;have C1:=Qaa c1;have C2:=Qaa c2;have aA:Hid (∀ o1 o2,Below w.heap.size w ((w.alloc o1).alloc o2)):=fun o1 o2=>((Below.refl _ _).alloc (Nat.le_refl _) _).alloc (by simp) _;clear hE hR h1 h2 c1 c2;go_enter Tryz.func175,Tryz.ntmps175;go_wp2_with fail;generalize hW0:(w.alloc (Obj.cells #[.slice ea n c,.slice ra m d] 47)).alloc (Obj.cells #[.slice none 0 0,.slice none 0 0] 47)=W0;have T0:Below w.heap.size w W0:=by rw [<- hW0];exact aA.out _ _
 have KR:=Qgg w 47 47 (.slice ea n c) (.slice ra m d) (.slice none 0 0) (.slice none 0 0) W0 (by rw [hW0];exact Below.refl _ _);have aB:W0.heap.size=w.heap.size+2:=by rw [<- hW0];simp
 clear hW0;have ah:=Qaa T0;have hC:∀ W,Below W0.heap.size W0 W->Qbm W w.heap.size (.slice ea n c) (.slice ra m d)/\W.heap[w.heap.size+1]?=some (.cells #[.slice none 0 0,.slice none 0 0] 47 (0,0)):=fun W hW=>⟨Qbq KR.1 hW,by rw [hW.block _ (by omega)];exact KR.2⟩;have HC:=Qaa hC;clear T0 hC KR;have ae:Hid (Below W0.heap.size W0 W0.drew):=(ZZb _ _).drew;refine Qaj (fun W=>Below W0.heap.size W0 W) 9 (by kernel_rfl) ?_;generalize W0.drew=Wd at ae ⊢;refine tkL 1 (.pointer (some ⟨w.heap.size,0,none⟩)) ae (fun W hW=>?_) ?_
 ·obtain ⟨⟨x0,x1⟩,_⟩:=HC.out W hW
  clear hW;go_simp
 try simp only [List.setIfInBounds_toArray,List.set_cons_zero,List.set_cons_succ]
 refine tkL 2 (.slice ea n c) ae (fun W hW=>?_) ?_
 ·obtain ⟨⟨x0,x1⟩,_⟩:=HC.out W hW
  clear hW;go_simp
 try simp only [List.setIfInBounds_toArray,List.set_cons_zero,List.set_cons_succ]
 refine tkL 5 (.pointer (some ⟨w.heap.size,1,none⟩)) ae (fun W hW=>?_) ?_
 ·obtain ⟨⟨x0,x1⟩,_⟩:=HC.out W hW
  clear hW;go_simp
 try simp only [List.setIfInBounds_toArray,List.set_cons_zero,List.set_cons_succ]
 refine tkL 6 (.slice ra m d) ae (fun W hW=>?_) ?_
 ·obtain ⟨⟨x0,x1⟩,_⟩:=HC.out W hW
  clear hW;go_simp
 try simp only [List.setIfInBounds_toArray,List.set_cons_zero,List.set_cons_succ]
 refine Qpr (i:=0) (j:=4) (by kernel_rfl) rfl rfl (fun K hK=>?_) (fun K hK=>?_)
 ·go_simp
  refine hK.out _ _ (fun _=>ae.out.alloc ae.out.size _) ?_
  try simp only [sX]
  obtain ⟨s1,ak⟩:∃ s,s=Wd.heap.size:=⟨_,rfl⟩;have M1:(Wd.alloc (.cells #[] 26)).ownsRow W0.heap.size 26 1 (.slice (some ⟨s1,0,none⟩) 0 0) 0 []:=by rw [ak];exact World.ownsRow_made Wd #[] 0 ae.out.size (ZZj _) rfl
  have S1:Hid (Below W0.heap.size W0 (Wd.alloc (.cells #[] 26))):=ae.out.alloc ae.out.size _;have O1:=Qaa M1;rw [<- ak];generalize Wd.alloc (.cells #[] 26)=Wa1 at *;clear M1 ak;refine Qpr (i:=3) (j:=4) (by kernel_rfl) rfl rfl (fun K hK=>?_) (fun K hK=>?_)
  ·rw [if_pos (by rfl)]
   refine Qbp _ (.tmp 3) (.tmp 5) 44 rfl W0.heap.size 26 i0 (.int .u64 0) 1 8 Tryz.underlying44 hi ax aq aw rfl (by decide) _ _ _ rfl O1 ea n c (E.map (Value.int .u64)) rfl (by simp [H1.out]) (fun e=>⟨Qet HE H1 e,C1.out e⟩) (QbL (Qaf HE (Qac ah S1))) (QaV _ _) (by unfold maxLen;omega) (by omega) S1.out.size ?_;intro v2 an af ag;simp only [Nat.zero_add,List.nil_append] at af;obtain ⟨a2,b2,rfl⟩:=Qam af;have O2:=Qaa af;have S2:=Qaa (S1.out.grown ag S1.out.size (fun j hj=>Qbg O1 j hj));refine gK hK S2.out ?_
   try simp only [sX]
   clear af ag;refine onE 4 fun K hK=>?_;go_simp;refine hK.out _ _ (fun _=>S2.out.alloc S2.out.size _) ?_
   try simp only [sX]
   obtain ⟨s3,ar⟩:∃ s,s=an.heap.size:=⟨_,rfl⟩;have M3:(an.alloc (.cells #[] 2)).ownsRow W0.heap.size 2 1 (.slice (some ⟨s3,0,none⟩) 0 0) 0 []:=by rw [ar];exact World.ownsRow_made an #[] 0 S2.out.size (ZZj _) rfl
   have S3:Hid (Below W0.heap.size W0 (an.alloc (.cells #[] 2))):=S2.out.alloc S2.out.size _;have ay:=Qaa (O2.out.alloc (.cells #[] 2));have O3:=Qaa M3;rw [<- ar];generalize an.alloc (.cells #[] 2)=Wa3 at *;clear M3 ar;refine onE 7 fun K hK=>?_;rw [if_pos (by rfl)];refine Qbp _ (.tmp 7) (.tmp 9) 45 rfl W0.heap.size 2 j0 (.int .i64 0) 1 8 Tryz.underlying45 hj av ap au rfl (by decide) _ _ _ rfl O3 ra m d (R.map (Value.int .i64)) rfl (by simp [H2.out]) (fun e=>⟨Qet HR H2 e,C2.out e⟩) (QbL (Qaf HR (Qac ah S3))) (QaV _ _) (by unfold maxLen;omega) (by omega) S3.out.size ?_;intro v4 ai ab aa;simp only [Nat.zero_add,List.nil_append] at ab;obtain ⟨a4,b4,rfl⟩:=Qam ab;have O4:=Qaa ab;have S4:=Qaa (S3.out.grown aa S3.out.size (fun j hj=>Qbg O3 j hj));have am:=Qaa (ay.out.kept aa (QdN ay O3 (by decide)));refine gK hK S4.out ?_
   try simp only [sX]
   clear ab aa;refine tkL 8 (.agg #[.slice a2 n b2,.slice a4 m b4]) S4 (fun W hW=>?_) ?_
   ·obtain ⟨⟨x0,x1⟩,_⟩:=HC.out W hW
    clear hW;go_simp
   try simp only [List.setIfInBounds_toArray,List.set_cons_zero,List.set_cons_succ]
   have R2:=(HC.out _ S4).2;have q0:ai.cell? ⟨w.heap.size+1,0,none⟩=some (.slice none 0 0):=by rw [cell_of_row _ _ 0 _ _ (0,0) R2];rfl
   have q1:ai.cell? ⟨w.heap.size+1,1,none⟩=some (.slice none 0 0):=by rw [cell_of_row _ _ 1 _ _ (0,0) R2];rfl
   have f0:=fzR 0 R2;have f1:=fzR 1 R2;refine onE 9 fun K hK=>?_;go_simp;refine hK.out _ _ (fun h=>absurd rfl h) ?_
   try simp only [sX]
   refine dnE ?_ _;go_wp2;refine bodyPost_ret (v:=.agg #[.slice a2 n b2,.slice a4 m b4]) (by simp [results,Tryz.results175,go_sem,q0,q1]) rfl ⟨_,rfl,⟨_,_,rfl,?_,?_⟩,?_⟩
   ·refine QaE (B:=W0.heap.size) ?_ (by omega)
    repeat (refine ownsRow_setCell_below ?_ (by simp;omega) _)
    rw [H1.out];exact am.out
   ·refine QaE (B:=W0.heap.size) ?_ (by omega)
    repeat (refine ownsRow_setCell_below ?_ (by simp;omega) _)
    rw [H2.out];exact O4.out
   ·repeat (refine Below.setCell ?_ (by simp <;> omega) _)
    exact Qac ah S4
  ·go_simp
   refine hK.out _ _ (fun _=>S1.out.alloc S1.out.size _) ?_
   try simp only [sX]
   obtain ⟨s2,al⟩:∃ s,s=Wa1.heap.size:=⟨_,rfl⟩;have M2:(Wa1.alloc (.cells #[] 2)).ownsRow W0.heap.size 2 1 (.slice (some ⟨s2,0,none⟩) 0 0) 0 []:=by rw [al];exact World.ownsRow_made Wa1 #[] 0 S1.out.size (ZZj _) rfl
   have S2:Hid (Below W0.heap.size W0 (Wa1.alloc (.cells #[] 2))):=S1.out.alloc S1.out.size _;have ao:=Qaa (O1.out.alloc (.cells #[] 2));have O2:=Qaa M2;rw [<- al];generalize Wa1.alloc (.cells #[] 2)=Wa2 at *;clear M2 al;refine onE 3 fun K hK=>?_;rw [if_pos (by rfl)];refine Qbp _ (.tmp 3) (.tmp 5) 44 rfl W0.heap.size 26 i0 (.int .u64 0) 1 8 Tryz.underlying44 hi ax aq aw rfl (by decide) _ _ _ rfl ao ea n c (E.map (Value.int .u64)) rfl (by simp [H1.out]) (fun e=>⟨Qet HE H1 e,C1.out e⟩) (QbL (Qaf HE (Qac ah S2))) (QaV _ _) (by unfold maxLen;omega) (by omega) S2.out.size ?_;intro v3 aC ad ac;simp only [Nat.zero_add,List.nil_append] at ad;obtain ⟨a3,b3,rfl⟩:=Qam ad;have O3:=Qaa ad;have S3:=Qaa (S2.out.grown ac S2.out.size (fun j hj=>Qbg ao j hj));have aj:=Qaa (O2.out.kept ac (QdN O2 ao (by decide)));refine gK hK S3.out ?_
   try simp only [sX]
   clear ad ac;refine onE 7 fun K hK=>?_;rw [if_pos (by rfl)];refine Qbp _ (.tmp 7) (.tmp 9) 45 rfl W0.heap.size 2 j0 (.int .i64 0) 1 8 Tryz.underlying45 hj av ap au rfl (by decide) _ _ _ rfl aj ra m d (R.map (Value.int .i64)) rfl (by simp [H2.out]) (fun e=>⟨Qet HR H2 e,C2.out e⟩) (QbL (Qaf HR (Qac ah S3))) (QaV _ _) (by unfold maxLen;omega) (by omega) S3.out.size ?_;intro v4 ai ab aa;simp only [Nat.zero_add,List.nil_append] at ab;obtain ⟨a4,b4,rfl⟩:=Qam ab;have O4:=Qaa ab;have S4:=Qaa (S3.out.grown aa S3.out.size (fun j hj=>Qbg aj j hj));have am:=Qaa (O3.out.kept aa (QdN O3 aj (by decide)));refine gK hK S4.out ?_
   try simp only [sX]
   clear ab aa;refine tkL 8 (.agg #[.slice a3 n b3,.slice a4 m b4]) S4 (fun W hW=>?_) ?_
   ·obtain ⟨⟨x0,x1⟩,_⟩:=HC.out W hW
    clear hW;go_simp
   try simp only [List.setIfInBounds_toArray,List.set_cons_zero,List.set_cons_succ]
   have R2:=(HC.out _ S4).2;have q0:ai.cell? ⟨w.heap.size+1,0,none⟩=some (.slice none 0 0):=by rw [cell_of_row _ _ 0 _ _ (0,0) R2];rfl
   have q1:ai.cell? ⟨w.heap.size+1,1,none⟩=some (.slice none 0 0):=by rw [cell_of_row _ _ 1 _ _ (0,0) R2];rfl
   have f0:=fzR 0 R2;have f1:=fzR 1 R2;refine onE 9 fun K hK=>?_;go_simp;refine hK.out _ _ (fun h=>absurd rfl h) ?_
   try simp only [sX]
   refine dnE ?_ _;go_wp2;refine bodyPost_ret (v:=.agg #[.slice a3 n b3,.slice a4 m b4]) (by simp [results,Tryz.results175,go_sem,q0,q1]) rfl ⟨_,rfl,⟨_,_,rfl,?_,?_⟩,?_⟩
   ·refine QaE (B:=W0.heap.size) ?_ (by omega)
    repeat (refine ownsRow_setCell_below ?_ (by simp;omega) _)
    rw [H1.out];exact am.out
   ·refine QaE (B:=W0.heap.size) ?_ (by omega)
    repeat (refine ownsRow_setCell_below ?_ (by simp;omega) _)
    rw [H2.out];exact O4.out
   ·repeat (refine Below.setCell ?_ (by simp <;> omega) _)
    exact Qac ah S4
 ·go_simp
  refine hK.out _ _ (fun _=>ae.out.alloc ae.out.size _) ?_
  try simp only [sX]
  obtain ⟨s1,ak⟩:∃ s,s=Wd.heap.size:=⟨_,rfl⟩;have M1:(Wd.alloc (.cells #[] 2)).ownsRow W0.heap.size 2 1 (.slice (some ⟨s1,0,none⟩) 0 0) 0 []:=by rw [ak];exact World.ownsRow_made Wd #[] 0 ae.out.size (ZZj _) rfl
  have S1:Hid (Below W0.heap.size W0 (Wd.alloc (.cells #[] 2))):=ae.out.alloc ae.out.size _;have O1:=Qaa M1;rw [<- ak];generalize Wd.alloc (.cells #[] 2)=Wa1 at *;clear M1 ak;refine onE 0 fun K hK=>?_;go_simp;refine hK.out _ _ (fun _=>S1.out.alloc S1.out.size _) ?_
  try simp only [sX]
  obtain ⟨s2,al⟩:∃ s,s=Wa1.heap.size:=⟨_,rfl⟩;have M2:(Wa1.alloc (.cells #[] 26)).ownsRow W0.heap.size 26 1 (.slice (some ⟨s2,0,none⟩) 0 0) 0 []:=by rw [al];exact World.ownsRow_made Wa1 #[] 0 S1.out.size (ZZj _) rfl
  have S2:Hid (Below W0.heap.size W0 (Wa1.alloc (.cells #[] 26))):=S1.out.alloc S1.out.size _;have az:=Qaa (O1.out.alloc (.cells #[] 26));have O2:=Qaa M2;rw [<- al];generalize Wa1.alloc (.cells #[] 26)=Wa2 at *;clear M2 al;refine onE 3 fun K hK=>?_;rw [if_pos (by rfl)];refine Qbp _ (.tmp 3) (.tmp 5) 44 rfl W0.heap.size 26 i0 (.int .u64 0) 1 8 Tryz.underlying44 hi ax aq aw rfl (by decide) _ _ _ rfl O2 ea n c (E.map (Value.int .u64)) rfl (by simp [H1.out]) (fun e=>⟨Qet HE H1 e,C1.out e⟩) (QbL (Qaf HE (Qac ah S2))) (QaV _ _) (by unfold maxLen;omega) (by omega) S2.out.size ?_;intro v3 aC ad ac;simp only [Nat.zero_add,List.nil_append] at ad;obtain ⟨a3,b3,rfl⟩:=Qam ad;have O3:=Qaa ad;have S3:=Qaa (S2.out.grown ac S2.out.size (fun j hj=>Qbg O2 j hj));have aj:=Qaa (az.out.kept ac (QdN az O2 (by decide)));refine gK hK S3.out ?_
  try simp only [sX]
  clear ad ac;refine onE 7 fun K hK=>?_;rw [if_pos (by rfl)];refine Qbp _ (.tmp 7) (.tmp 9) 45 rfl W0.heap.size 2 j0 (.int .i64 0) 1 8 Tryz.underlying45 hj av ap au rfl (by decide) _ _ _ rfl aj ra m d (R.map (Value.int .i64)) rfl (by simp [H2.out]) (fun e=>⟨Qet HR H2 e,C2.out e⟩) (QbL (Qaf HR (Qac ah S3))) (QaV _ _) (by unfold maxLen;omega) (by omega) S3.out.size ?_;intro v4 ai ab aa;simp only [Nat.zero_add,List.nil_append] at ab;obtain ⟨a4,b4,rfl⟩:=Qam ab;have O4:=Qaa ab;have S4:=Qaa (S3.out.grown aa S3.out.size (fun j hj=>Qbg aj j hj));have am:=Qaa (O3.out.kept aa (QdN O3 aj (by decide)));refine gK hK S4.out ?_
  try simp only [sX]
  clear ab aa;refine tkL 8 (.agg #[.slice a3 n b3,.slice a4 m b4]) S4 (fun W hW=>?_) ?_
  ·obtain ⟨⟨x0,x1⟩,_⟩:=HC.out W hW
   clear hW;go_simp
  try simp only [List.setIfInBounds_toArray,List.set_cons_zero,List.set_cons_succ]
  have R2:=(HC.out _ S4).2;have q0:ai.cell? ⟨w.heap.size+1,0,none⟩=some (.slice none 0 0):=by rw [cell_of_row _ _ 0 _ _ (0,0) R2];rfl
  have q1:ai.cell? ⟨w.heap.size+1,1,none⟩=some (.slice none 0 0):=by rw [cell_of_row _ _ 1 _ _ (0,0) R2];rfl
  have f0:=fzR 0 R2;have f1:=fzR 1 R2;refine onE 9 fun K hK=>?_;go_simp;refine hK.out _ _ (fun h=>absurd rfl h) ?_
  try simp only [sX]
  refine dnE ?_ _;go_wp2;refine bodyPost_ret (v:=.agg #[.slice a3 n b3,.slice a4 m b4]) (by simp [results,Tryz.results175,go_sem,q0,q1]) rfl ⟨_,rfl,⟨_,_,rfl,?_,?_⟩,?_⟩
  ·refine QaE (B:=W0.heap.size) ?_ (by omega)
   repeat (refine ownsRow_setCell_below ?_ (by simp;omega) _)
   rw [H1.out];exact am.out
  ·refine QaE (B:=W0.heap.size) ?_ (by omega)
   repeat (refine ownsRow_setCell_below ?_ (by simp;omega) _)
   rw [H2.out];exact O4.out
  ·repeat (refine Below.setCell ?_ (by simp <;> omega) _)
   exact Qac ah S4
theorem QiL:∀ {m l:List Int},(l ++ m).Pairwise (· < ·)->Qce l m=l ++ m
 | [],l,_=>by simp [Qce]
 | x :: m,l,h=>by
  have hi:QbZ l x=l ++ [x]:=by
   have hl:∀ y∈l,y<x:=fun y hy=>(List.pairwise_append.1 h).2.2 y hy x (by simp);clear h
   induction l with
   | nil=>rfl
   | cons y r ih=>rw [QbZ,if_pos (hl y (by simp)),ih (fun z hz=>hl z (by simp [hz]))];rfl
  show Qce (QbZ l x) m=_
  rw [hi,QiL (by simpa using h)];simp
theorem Qgs:∀ {L:List Int},upN L=true->L.Pairwise (· < ·)
 | [],_=>List.Pairwise.nil
 | [x],_=>by simp
 | x :: y :: r,h=>by
  simp only [upN,Bool.and_eq_true,decide_eq_true_eq] at h;have ih:=Qgs h.2;refine List.pairwise_cons.2 ⟨fun z hz=>?_,ih⟩;rcases List.mem_cons.1 hz with rfl | hz
  ·exact h.1
  ·have:=(List.pairwise_cons.1 ih).1 z hz;omega
theorem QiP {E:List Int} (h:upN E=true) (x:Int):QiR E [x]=QbZ E x:=by
 unfold QiR;rw [QiL (l:=[]) (by simpa using Qgs h)];rfl
theorem QqD {E R R':List Int} {x:Int} (hE:E=[]) (h64:R.length=64) (h:Laid (Qcc R) (·∈[x]) R'):Mg E R [x] [] [] R':=by
 subst hE;refine .inr ⟨fun k=>by omega,rfl,?_⟩;rw [List.length_nil,Qci];exact h.iff (fun y=>by simp [QiR,Qce,QbZ])
theorem QpP {E R':List Int} {x:Int} (hu:upN E=true) (h40:¬ (QbZ E x).length<=40) (h:Laid (Qcc []) (·∈QbZ E x) R'):Mg E [] [x] [] [] R':=by
 refine .inr ⟨fun k=>h40 (by rw [<- QiP hu];exact k.2.2),rfl,?_⟩;rw [List.length_nil,Qci,QiP hu];exact h
theorem QrC {E:List Int} {x:Int} (hu:upN E=true) (h40:(QbZ E x).length<=40):Mg E [] [x] [] (QbZ E x) []:=
 .inl ⟨rfl,rfl,by rw [QiP hu];exact h40,(QiP hu x).symm,rfl⟩
theorem Qgt {kd:IntKind} {w:World} {B n c:Nat} {ao:Option Addr} {T:TypeId} {L:List Int} (h:w.ownsRow B T 1 (.slice ao n c) L.length (L.map (Value.int kd))):Qaq kd w ao L/\Qmw ao/\n=L.length/\n<=c/\c<=maxLen/\(ao=none->c=0):=by
 rcases h.2 with ⟨e,h0⟩ | ⟨g,ab,aa,e,h1,h2,h3,h4,h5,h6⟩
 ·cases e
  exact ⟨fun h=>by omega,.inl rfl,h0.symm,ZZa _,ZZj _,fun _=>rfl⟩
 ·cases e
  refine ⟨fun _=>⟨g,0,rfl,fun i x hx=>?_⟩,.inr ⟨g,0,rfl⟩,rfl,h3,h4,fun e=>by cases e⟩;have hi:=(ZZd.1 hx).1;rw [Nat.zero_add,h.cellAt i (by omega),List.getElem?_map,hx];rfl
theorem Qg5 {E R:List Int} (h:hlB E R=true):(R=[]/\upN E=true)∨(R.length=64/\E=[]):=by
 unfold hlB at h
 split at h
 ·rename_i h0
  unfold exB at h;simp only [Bool.and_eq_true,decide_eq_true_eq] at h;exact .inl ⟨List.eq_nil_of_length_eq_zero h0,h.2⟩
 ·unfold Qhj at h
  simp only [Bool.and_eq_true,decide_eq_true_eq] at h;exact .inr ⟨h.2.1,List.eq_nil_of_length_eq_zero h.1⟩
theorem Qo3 {w:World} {ea ra:Option Addr} {n c m d:Nat} {E R:List Int} (x:Int) (hb:hlB E R=true) (h1:E.length=n) (h2:R.length=m) (hcap:n<=c) (hcm:c<=maxLen) (f1:Qmw ea) (c1:ea=none->c=0) (hE:Qaq .u64 w ea E) (hR:Qaq .i64 w ra R) (u1:∀ y∈E,U64 y) (ux:U64 x) :
  Calls Tryz.prog 137 #[.agg #[.slice ea n c,.slice ra m d],.int .u64 x] w fun e w'=>∃ v E' R',e=.returned v/\Mg E R [x] [] E' R'/\Qhr w' w.heap.size v E' R'/\Below w.heap.size w w':=by
 have HE:=Qaa hE;have HR:=Qaa hR;have F1:=Qaa f1;have C1:=Qaa c1;have H1:=Qaa h1;have H2:=Qaa h2;have U1:=Qaa u1;have UX:=Qaa ux;have af:Hid (∀ o1 o2,Below w.heap.size w ((w.alloc o1).alloc o2)):=fun o1 o2=>((Below.refl _ _).alloc (Nat.le_refl _) _).alloc (by simp) _;have HL:=Qaa (Qdk hb);have HP:=Qaa (Qg5 hb)
 have HC:Hid (∀ W,Below (w.heap.size+1+1) ((w.alloc (.cells #[.slice ea n c,.slice ra m d] 47)).alloc (.cells #[.slice none 0 0,.slice none 0 0] 47)) W->Qbm W w.heap.size (.slice ea n c) (.slice ra m d)/\W.heap[w.heap.size+1]?=some (.cells #[.slice none 0 0,.slice none 0 0] 47 (0,0))/\Below w.heap.size w W):=fun W h=>by
  obtain ⟨q1,q2⟩:=Qgg w _ _ _ _ _ _ W (by simpa using h);exact ⟨q1,q2,(af.out _ _).trans (h.mono (by omega))⟩
 have aA:n<=40:=by have:=HL.out.1;have:=H1.out;omega
 clear hE hR f1 c1 h1 h2 u1 ux hb;rcases HP.out with ⟨ap,ao⟩ | ⟨aj,an⟩
 ·have ah:m=0:=by rw [<- H2.out,ap];rfl
  subst ah;subst ap;have ar:=Qaa ao;clear ao HP;go_enter Tryz.func137,Tryz.ntmps137;go_wp2_with fail;refine (QiV x H1 (by omega) hcap hcm F1 C1 (Qaf HE (af.out _ _))).mono ?_;rintro e w1 ⟨v1,rfl,o1,ak⟩;obtain ⟨⟨x0,x1⟩,r1,t1⟩:=HC.out w1 (by simpa using ak);have aw:=ak.size;simp only [World.size_alloc] at o1 aw;obtain ⟨k,hk⟩:∃ k,(QbZ E x).length=k:=⟨_,rfl⟩;obtain ⟨aC,q1,rfl⟩:=Qam o1;obtain ⟨al,ax,_,aD,aB,_⟩:=Qgt o1;have aF:=Qaa o1;have aq:=Qaa t1;have ae:=Qaa r1;have aG:=Qaa al;have az:k<=41:=by have:=QgR E x;have:=H1.out;omega
  have HK:=Qaa hk;rw [hk];clear o1 t1 r1 ak al ax aD aB hk;have q0:w1.cell? ⟨w.heap.size+1,0,none⟩=some (.slice none 0 0):=by rw [cell_of_row _ _ 0 _ _ (0,0) ae.out];rfl
  have ac:w1.cell? ⟨w.heap.size+1,1,none⟩=some (.slice none 0 0):=by rw [cell_of_row _ _ 1 _ _ (0,0) ae.out];rfl
  have f0:=fzR 0 ae;have f1:=fzR 1 ae;by_cases am:k<=40
  ·have ai:¬ (40:Int)<(k:Int):=by omega
   have HM:Hid (Mg E [] [x] [] (QbZ E x) []):=QrC ar (by rw [HK.out];exact am);go_wp2;refine bodyPost_ret (v:=.agg #[.slice aC k q1,.slice none 0 0]) (by simp [results,Tryz.results137,go_sem,q0,ac]) rfl ⟨_,_,[],rfl,HM,⟨_,_,rfl,?_,World.ownsRow_nil _ _ _ _⟩,?_⟩
   ·refine QaE (B:=w.heap.size+1+1) ?_ (by omega)
    repeat (refine ownsRow_setCell_below ?_ (by simp) _)
    rw [<- HK.out];exact aF.out
   ·exact (aq.out.setCell (by simp) _).setCell (by simp) _
  ·have ai:(40:Int)<(k:Int):=by omega
   have au:Hid (∀ R',Laid (Qcc []) (·∈QbZ E x) R'->Mg E [] [x] [] [] R'):=fun R' h=>QpP ar (by rw [HK.out];exact am) h
   have aE:Hid (∀ y∈QbZ E x,U64 y):=fun y hy=>by
    rcases (Qde y E x).1 hy with rfl | h
    ·exact UX.out
    ·exact U1.out y h
   clear q0 ac f0 f1;go_wp2_with fail;refine (Qcr (R:=[]) rfl HK (.inl rfl) (by omega) (fun h=>by simp at h) aG aE).mono ?_;rintro e w2 ⟨g,R',rfl,hL,aa,ad⟩;have r2:=(ad.block (w.heap.size+1) (by omega)).trans ae;have q0:w2.cell? ⟨w.heap.size+1,0,none⟩=some (.slice none 0 0):=by rw [cell_of_row _ _ 0 _ _ (0,0) r2];rfl
   have ac:w2.cell? ⟨w.heap.size+1,1,none⟩=some (.slice none 0 0):=by rw [cell_of_row _ _ 1 _ _ (0,0) r2];rfl
   have f0:=fzR 0 r2;have f1:=fzR 1 r2;have HM:=Qaa (au.out R' hL);have ag:=Qaa (Qac aq ad);have ab:=Qaa aa;clear hL aa ad r2;go_wp2;refine bodyPost_ret (v:=.agg #[.slice none 0 0,.slice (some ⟨g,0,none⟩) 64 64]) (by simp [results,Tryz.results137,go_sem,q0,ac]) rfl ⟨_,[],R',rfl,HM,⟨_,_,rfl,World.ownsRow_nil _ _ _ _,?_⟩,?_⟩
   ·refine QaE (B:=w1.heap.size) ?_ (by omega)
    repeat (refine ownsRow_setCell_below ?_ (by simp;omega) _)
    rw [ab.out.1];exact ab.out.2
   ·exact (ag.out.setCell (by simp) _).setCell (by simp) _
 ·have ah:m=64:=by rw [<- H2.out,aj]
  subst ah;have ay:=Qaa aj;have aH:=Qaa an;clear aj an HP
  have av:Hid (∀ (W:World) (g:Nat),W.heap.size=g->Qaq .u64 (W.alloc (.cells #[.int .u64 x] 26)) (some ⟨g,0,none⟩) [x]):=(fun W g e _=>⟨g,0,rfl,fun i y hy=>by
   subst e
   cases i with
   | zero=>simp at hy;subst hy;exact QgP _ _ _
   | succ i=>simp at hy⟩)
  go_enter Tryz.func137,Tryz.ntmps137;go_wp2_with fail;refine (Qcr (E:=[x]) H2 rfl (.inr rfl) (by simp) (Qaf HR ((af.out _ _).alloc (by simp;omega) _)) (av.out _ _ (by simp)) (by intro y hy;simp at hy;subst hy;exact UX.out)).mono ?_;rintro e w2 ⟨g,R',rfl,hL,aa,ad⟩;obtain ⟨_,r2,t2⟩:=HC.out w2 (((Below.refl _ _).alloc (by simp) _).trans (ad.mono (by simp)));have q0:w2.cell? ⟨w.heap.size+1,0,none⟩=some (.slice none 0 0):=by rw [cell_of_row _ _ 0 _ _ (0,0) r2];rfl
  have ac:w2.cell? ⟨w.heap.size+1,1,none⟩=some (.slice none 0 0):=by rw [cell_of_row _ _ 1 _ _ (0,0) r2];rfl
  have f0:=fzR 0 r2;have f1:=fzR 1 r2;have HM:=Qaa (QqD aH ay hL);have ag:=Qaa t2;simp only [World.size_alloc] at aa;have ab:=Qaa aa;clear hL aa ad r2 t2;go_wp2;refine bodyPost_ret (v:=.agg #[.slice none 0 0,.slice (some ⟨g,0,none⟩) 64 64]) (by simp [results,Tryz.results137,go_sem,q0,ac]) rfl ⟨_,[],R',rfl,HM,⟨_,_,rfl,World.ownsRow_nil _ _ _ _,?_⟩,?_⟩
  ·refine QaE (B:=w.heap.size+1+1) ?_ (by omega)
   repeat (refine ownsRow_setCell_below ?_ (by simp) _)
   rw [ab.out.1];exact QaE ab.out.2 (by omega)
  ·exact (ag.out.setCell (by simp) _).setCell (by simp) _
end Go.Proofs.YtandnmpllheniaaGreatDoor
