/-
 Parts.
-/
import Derived.Test.YtlejlgldgafljaaGreatDoorVCF
set_option maxHeartbeats 4000000
set_option linter.all false
namespace Go.Proofs.YtlejlgldgafljaaGreatDoor
open Go.ChangeShapes Go.WideShapes Go.ChangeAt Go.RowKit Go.PlainAid Tryz
set_option maxRecDepth 10000
structure Sd where
 nm:ByteArray
 L:List Ce
 ao:Option Addr
 cp:Nat
abbrev QaN (s:Sd):Array Value:=#[.string s.nm,.slice s.ao s.L.length s.cp]
def Sd.key (s:Sd):ByteArray×List (Int×ByteArray×Ag):=(s.nm,s.L.map Ce.key)
abbrev Qe2 (w:World) (b o:Nat) (s:Sd):Prop:=w.cell? ⟨b,o,none⟩=some (.string s.nm)/\w.cell? ⟨b,o+1,none⟩=some (.slice s.ao s.L.length s.cp)
def QfW (w:World) (ao:Option Addr) (S:List Sd):Prop:=(0<S.length->∃ b off,ao=some ⟨b,off,none⟩/\∀ i s,S[i]?=some s->Qe2 w b (off+i*2) s)/\∀ s∈S,QbV w s.ao s.L
variable {W w w':World}
variable {s:Sd}
theorem Qbz {b o:Nat} (k:Qe2 w b o s) (hb:Bw w w'):Qe2 w' b o s:=⟨Qab hb k.1,Qab hb k.2⟩
variable {ao:Option Addr}
variable {S:List Sd}
theorem QaF (h:QfW w ao S) (hb:Bw w w'):QfW w' ao S:=
 ⟨fun h0=>by
  obtain ⟨b,off,e,hc⟩:=h.1 h0;exact ⟨b,off,e,fun i s hx=>Qbz (hc i s hx) hb⟩,fun s hs=>QaP (h.2 s hs) hb⟩
structure SdsLen (S:List Sd):Prop where
 n:S.length<=maxLen
 s:∀ s∈S,s.nm.size<=maxLen
 l:∀ s∈S,CesLen s.L
structure SdsSm (S:List Sd):Prop where
 n:S.length<=1048576
 l:∀ s∈S,s.L.length<=1048576
 sm:∀ s∈S,∀ c∈s.L,AgSm c.g
 nz:∀ s∈S,s.nm.size<=1048576
theorem Qfz {t:Sd} (h:s.key=t.key):s.nm=t.nm/\s.L.map Ce.key=t.L.map Ce.key/\s.L.length=t.L.length:=by
 have h1:s.nm=t.nm:=congrArg Prod.fst h;have h2:s.L.map Ce.key=t.L.map Ce.key:=congrArg Prod.snd h;have h3:=congrArg List.length h2;simp only [yA] at h3;exact ⟨h1,h2,h3⟩
theorem infoSd:(prog.info? 56).map (fun i=>(i.zero,i.size,i.bytes))=some (some (.agg zAc),2,40):=by kernel_rfl
structure Pi where
 a:Int
 b:Int
 c:Int
 d:Int
abbrev Qad (v:Value) (p:Pi):Array Value:=#[v,.int .i64 p.a,.int .i64 p.b,.int .i64 p.c,.int .i64 p.d]
structure SdRow (w:World) (g N:Nat) (M:List Sd):Prop where
 row:∃ cur:Array Value,w.heap[g]?=some (.cells cur 56 (0,0))/\N*2<=cur.size/\∀ i c,M[i]?=some c->∀ j v,(QaN c)[j]?=some v->cur[i*2+j]?=some v
 m:∀ s∈M,∃ h,s.ao=some ⟨h,0,none⟩/\g<h/\CeRow w h s.L.length s.L
abbrev QbM:Array Value:=zAb
variable {v:Value}
theorem Qar {r:Nat} {cs:Array Value} {T:TypeId} (h:w.heap[r]?=some (.cells cs T (0,0))) (j:Nat) (e:cs[j]?=some v):w.cell? ⟨r,j,none⟩=some v:=by rw [cell_of_row _ _ j _ _ (0,0) h];exact e
def okB (L:List ByteArray) (k:Nat):Bool:=
 match L[k]? with
 | none=>true
 | some u=>QaB u && (match k with
  | 0=>true
  | j+1=>match L[j]? with
   | some p=>QaM p u
   | none=>true)
variable {L:List ByteArray}
variable {u:ByteArray}
theorem Qu7 (h:L[0]?=some u):okB L 0=QaB u:=by unfold okB;rw [h];simp
variable {N ca j k:Nat}
theorem Qsd {p:ByteArray} (hp:L[j]?=some p) (h:L[j+1]?=some u):okB L (j+1)=(QaB u && QaM p u):=by unfold okB;rw [h];simp only [hp]
theorem Qt5 (h:L[k]?=some u) (hn:QaB u=false):okB L k=false:=by unfold okB;rw [h];simp [hn]
def Qcg (L:List ByteArray):Nat->Bool
 | 0=>true
 | k+1=>Qcg L k && okB L k
def Qag (L:List ByteArray):Bool:=decide (1<=L.length) && decide (L.length<=12) && Qcg L L.length
theorem Qlh {L:List ByteArray} {k:Nat} (h:okB L k=false):∀ n,k<n->Qcg L n=false
 | 0,hk=>by omega
 | n+1,hk=>by
  unfold Qcg;by_cases e:k=n
  ·subst e;rw [h];simp
  ·rw [Qlh h n (by omega)];simp
theorem Qsv:∀ n,k<n->Qcg L n=true->okB L k=true
 | n,hk,h=>by
  cases e:okB L k with
  | true=>rfl
  | false=>rw [Qlh e n hk] at h;cases h
theorem Qm4 (h:okB L k=false) (hk:k<L.length):Qag L=false:=by unfold Qag;rw [Qlh h _ hk];simp
theorem Qp9 (h1:¬ L.length<1) (h2:¬ 12<L.length) (h:Qcg L L.length=true):Qag L=true:=by
 unfold Qag;rw [h,decide_eq_true (show 1<=L.length by omega),decide_eq_true (show L.length<=12 by omega)];rfl
theorem Qtj (h1:L.length<1):Qag L=false:=by
 unfold Qag;rw [decide_eq_false (show ¬ 1<=L.length by omega)];rfl
theorem QsJ (h1:12<L.length):Qag L=false:=by
 unfold Qag;rw [decide_eq_false (show ¬ L.length<=12 by omega)];simp
theorem Qdc (cap:Nat) (hl:L.length<=1048576) (hu:∀ u∈L,u.size<=1048576) (hA:Qau w ao L) :
  Calls prog 32 #[.slice ao L.length cap] w fun e w'=>e=.returned (.bool (Qag L))/\Bw w w':=by
 obtain ⟨N,hN⟩:∃ N,L.length=N:=⟨_,rfl⟩;have HN:Hid (L.length=N):=hN;have aq:=Qta 9;rw [hN] at hl;rw [hN];by_cases h1:N<1
 ·have HM:Hid (Qag L=false):=Qtj (by omega)
  have hi:((N:Int)<1):=by omega
  clear hN hA hu;go_enter func32,ntmps32;go_wp2;go_ret;exact ⟨Qax HM.symm,ZZb _ _⟩
 ·have hi:¬ ((N:Int)<1):=by omega
  by_cases h2:12<N
  ·have HM:Hid (Qag L=false):=QsJ (by omega)
   have hj:(12:Int)<(N:Int):=by omega
   clear hN hA hu;go_enter func32,ntmps32;go_wp2;go_ret;exact ⟨Qax HM.symm,ZZb _ _⟩
  ·have hj:¬ (12:Int)<(N:Int):=by omega
   clear hN;go_enter func32,ntmps32;go_wp2
   go_loopw [3] (fun i wr=>Bw w wr/\∃ k:Nat,k<=N/\i=.int .i64 k/\Qcg L k=true) (fun i wr=>N - (Go.RowKit.intOf i).toNat)
   case atStart=>exact ⟨ZZb _ _,0,ZZj _,rfl,rfl⟩
   case round=>
    obtain ⟨ab,k,hk,rfl,ad⟩:=hrel;have HA:Hid (Qcg L k=true):=ad;clear ad;by_cases al:k<N
    ·obtain ⟨b,ak,rfl,aa⟩:=hA (by have:=HN.out;omega)
     obtain ⟨u,ac⟩:∃ u,L[k]?=some u:=⟨L[k]'(by have:=HN.out;omega),ZZe _⟩;have hc:=Qab ab (aa k u ac);have af:k=0->wr.cell? ⟨b,ak,none⟩=some (.string u):=fun e=>by rw [e,Nat.add_zero] at hc;exact hc
     have am:=hu u (ZZn ac);have ae:u.size<=maxLen:=by unfold maxLen;omega
     have HB:Hid (Bw w wr):=ab;have HU:Hid (L[k]?=some u):=ac
     cases hn:QaB u
     ·have ag:k=0∨0<k:=by omega
      have HM:Hid (Qag L=false):=Qm4 (Qt5 ac hn) (by have:=HN.out;omega);clear ac ab hu aa hA af ag;go_wp2
      go_quiet (first | (go_at_call 44;refine Calls.quiet_of_same (QaH _ _ ae)))
      go_wp2;go_ret;exact ⟨Qax HM.symm,Qao HB _⟩
     ·rcases Nat.eq_zero_or_pos k with rfl | aj
      ·have af:=af rfl
       have HO:Hid (Qcg L (0+1)=true):=(by unfold Qcg;rw [HA.out,Qu7 ac,hn];rfl:Qcg L (0+1)=true);clear ac ab hu aa hA;go_wp2
       go_quiet (first | (go_at_call 44;refine Calls.quiet_of_same (QaH _ _ ae)))
       go_wp2;go_roundw
       case rel=>exact ⟨Qao HB _,0+1,by omega,by go_num,HO⟩
       case measure=>simp [zI];omega
      ·obtain ⟨j,ai⟩:∃ j,j+1=k:=⟨k - 1,by omega⟩
       obtain ⟨p,ah⟩:∃ p,L[j]?=some p:=⟨L[j]'(by have:=HN.out;omega),ZZe _⟩;have an:=Qab ab (aa j p ah);have ek:((k:Int) - 1)=(j:Int):=by omega
       have ew:IntKind.i64.wrap (j:Int)=j:=ZZi _ ⟨by omega,by omega⟩;have ap:(0:Int)<(k:Int):=by omega
       have ar:j<N:=by omega
       have HK:Hid (okB L k=(QaB u && QaM p u)):=by rw [<- ai] at ac ⊢; exact Qsd ah ac
       clear ai ac ab hu aa ah hA af
       cases hlt:QaM p u
       ·have HM:Hid (Qag L=false):=Qm4 (by rw [HK.out,hlt];simp) (by have:=HN.out;omega)
        go_wp2
        go_quiet (first | (go_at_call 44;refine Calls.quiet_of_same (QaH _ _ ae)))
        go_wp2;go_ret;exact ⟨Qax HM.symm,Qao HB _⟩
       ·have HO:Hid (Qcg L (k+1)=true):=(by unfold Qcg;rw [HA.out,HK.out,hn,hlt];rfl:Qcg L (k+1)=true)
        go_wp2
        go_quiet (first | (go_at_call 44;refine Calls.quiet_of_same (QaH _ _ ae)))
        go_wp2;go_roundw
        case rel=>exact ⟨Qao HB _,k+1,by omega,by go_num,HO⟩
        case measure=>simp [zI];omega
    ·have e:k=N:=by omega
     have HM:Hid (Qag L=true):=by
      have hN:=HN.out;refine Qp9 (by omega) (by omega) ?_;rw [hN,<- e];exact HA.out
     have HB:Hid (Bw w wr):=ab;clear e ab hA hu;go_wp2;go_ret;exact ⟨Qax HM.symm,HB⟩
theorem Qcc (cap:Nat) (hl:L.length<=1048576) (hu:∀ u∈L,u.size<=1048576) (hA:Qau w ao L) :
  Calls prog 91 #[.slice ao L.length cap] w fun e w'=>e=.returned (.bool (Qag L))/\Bw w w':=by
 obtain ⟨N,hN⟩:∃ N,L.length=N:=⟨_,rfl⟩;have HN:Hid (L.length=N):=hN;have aq:=Qta 9;rw [hN] at hl;rw [hN];by_cases h1:N<1
 ·have HM:Hid (Qag L=false):=Qtj (by omega)
  have hi:((N:Int)<1):=by omega
  clear hN hA hu;go_enter func91,ntmps91;go_wp2;go_ret;exact ⟨Qax HM.symm,ZZb _ _⟩
 ·have hi:¬ ((N:Int)<1):=by omega
  by_cases h2:12<N
  ·have HM:Hid (Qag L=false):=QsJ (by omega)
   have hj:(12:Int)<(N:Int):=by omega
   clear hN hA hu;go_enter func91,ntmps91;go_wp2;go_ret;exact ⟨Qax HM.symm,ZZb _ _⟩
  ·have hj:¬ (12:Int)<(N:Int):=by omega
   clear hN;go_enter func91,ntmps91;go_wp2
   go_loopw [14,3] (fun i _ wr=>Bw w wr/\∃ k:Nat,k<=N/\i=.int .i64 k/\Qcg L k=true) (fun i _ wr=>N - (Go.RowKit.intOf i).toNat)
   case atStart=>exact ⟨ZZb _ _,0,ZZj _,rfl,rfl⟩
   case round=>
    obtain ⟨ab,k,hk,rfl,ad⟩:=hrel;have HA:Hid (Qcg L k=true):=ad;clear ad;by_cases al:k<N
    ·obtain ⟨b,ak,rfl,aa⟩:=hA (by have:=HN.out;omega)
     obtain ⟨u,ac⟩:∃ u,L[k]?=some u:=⟨L[k]'(by have:=HN.out;omega),ZZe _⟩;have hc:=Qab ab (aa k u ac);have af:k=0->wr.cell? ⟨b,ak,none⟩=some (.string u):=fun e=>by rw [e,Nat.add_zero] at hc;exact hc
     have am:=hu u (ZZn ac);have ae:u.size<=maxLen:=by unfold maxLen;omega
     have HB:Hid (Bw w wr):=ab;have HU:Hid (L[k]?=some u):=ac
     cases hn:QaB u
     ·have ag:k=0∨0<k:=by omega
      have HM:Hid (Qag L=false):=Qm4 (Qt5 ac hn) (by have:=HN.out;omega);clear ac ab hu aa hA af ag;go_wp2
      go_quiet (first | (go_at_call 71;refine Calls.quiet_of_same (Qa9 _ _ ae)))
      go_wp2;go_ret;exact ⟨Qax HM.symm,Qao HB _⟩
     ·rcases Nat.eq_zero_or_pos k with rfl | aj
      ·have af:=af rfl
       have HO:Hid (Qcg L (0+1)=true):=(by unfold Qcg;rw [HA.out,Qu7 ac,hn];rfl:Qcg L (0+1)=true);clear ac ab hu aa hA;go_wp2
       go_quiet (first | (go_at_call 71;refine Calls.quiet_of_same (Qa9 _ _ ae)))
       go_wp2;go_roundw
       case rel=>exact ⟨Qao HB _,0+1,by omega,by go_num,HO⟩
       case measure=>simp [zI];omega
      ·obtain ⟨j,ai⟩:∃ j,j+1=k:=⟨k - 1,by omega⟩
       obtain ⟨p,ah⟩:∃ p,L[j]?=some p:=⟨L[j]'(by have:=HN.out;omega),ZZe _⟩;have an:=Qab ab (aa j p ah);have ek:((k:Int) - 1)=(j:Int):=by omega
       have ew:IntKind.i64.wrap (j:Int)=j:=ZZi _ ⟨by omega,by omega⟩;have ap:(0:Int)<(k:Int):=by omega
       have ar:j<N:=by omega
       have HK:Hid (okB L k=(QaB u && QaM p u)):=by rw [<- ai] at ac ⊢; exact Qsd ah ac
       clear ai ac ab hu aa ah hA af
       cases hlt:QaM p u
       ·have HM:Hid (Qag L=false):=Qm4 (by rw [HK.out,hlt];simp) (by have:=HN.out;omega)
        go_wp2
        go_quiet (first | (go_at_call 71;refine Calls.quiet_of_same (Qa9 _ _ ae)))
        go_wp2;go_ret;exact ⟨Qax HM.symm,Qao HB _⟩
       ·have HO:Hid (Qcg L (k+1)=true):=(by unfold Qcg;rw [HA.out,HK.out,hn,hlt];rfl:Qcg L (k+1)=true)
        go_wp2
        go_quiet (first | (go_at_call 71;refine Calls.quiet_of_same (Qa9 _ _ ae)))
        go_wp2;go_roundw
        case rel=>exact ⟨Qao HB _,k+1,by omega,by go_num,HO⟩
        case measure=>simp [zI];omega
    ·have e:k=N:=by omega
     have HM:Hid (Qag L=true):=by
      have hN:=HN.out;refine Qp9 (by omega) (by omega) ?_;rw [hN,<- e];exact HA.out
     have HB:Hid (Bw w wr):=ab;clear e ab hA hu;go_wp2;go_ret;exact ⟨Qax HM.symm,HB⟩
structure NmI (w wr:World) (S:List Sd) (k:Nat) (v:Value):Prop where
 o:OwnT wr w.heap.size v ((S.take k).map Sd.nm)
 b:Bw w wr
theorem QuN (h:S[k]?=some s):(S.take (k+1)).map Sd.nm=(S.take k).map Sd.nm ++ [s.nm]:=by rw [List.take_add_one,h,List.map_append];rfl
theorem Qs0 (h:S.length=N) (hk:k<=N):((S.take k).map Sd.nm).length=k:=by rw [yA,List.length_take,h];omega
theorem Qlf {t:TypeId} (j:Nat) (v:Value) (hj:[Value.string u][j]?=some v):(W.alloc (.cells #[.string u] t)).cell? ((⟨W.heap.size,0,none⟩:Addr).add j)=some v:=by
 have hb:(W.alloc (.cells #[.string u] t)).heap[W.heap.size]?=some (.cells #[.string u] t (0,0)):=ZZk W _;rw [Addr.add_lit,Nat.zero_add,cell_of_row _ W.heap.size j _ _ (0,0) hb]
 simpa using hj
theorem NmI.step {wr w1:World} {v':Value} (h:NmI w wr S k v) (hN:S.length=N) (hs:S[k]?=some s) (hb:Bw wr W) (hown:w1.ownsRow w.heap.size 9 1 v' (k+1) (((S.take k).map Sd.nm).map Value.string ++ [.string s.nm])) (hg:W.grownBy w1 v.ownBlock):NmI w w1 S (k+1) v':=by
 have hk:k<S.length:=(ZZd.1 hs).1;refine ⟨?_,?_⟩
 ·refine OwnT.of hown ?_
  rw [QuN hs,List.map_append];rfl
 ·have b1:=Qac h.b hb
  exact b1.grown hg b1.size (fun j hj=>(World.ownsRow.lt h.o j hj).1)
theorem QjW (hN:S.length=N) (lN:N<=1048576) (hA:QfW w ao S) :
  Calls prog 92 #[.slice ao N ca] w fun e w'=>∃ bo c,e=.returned (.slice bo N c)/\OwnT w' w.heap.size (.slice bo N c) (S.map Sd.nm)/\Bw w w':=by
 obtain ⟨i0,hi,aj,ah,ai⟩:=info_parts Qen;have HN:=Qaa hN;have HA:=Qaa hA;clear hN hA;go_enter func92,ntmps92;go_wp2
 go_loopw [3,8] (fun v i wr=>∃ (k:Nat),k<=N/\i=.int .i64 k/\Hid (NmI w wr S k v)) (fun v i wr=>N - (Go.RowKit.intOf i).toNat)
 case atStart=>exact ⟨0,ZZj _,rfl,Qaa ⟨World.ownsRow_nil _ _ _ _,ZZb _ _⟩⟩
 case round=>
  obtain ⟨k,hk,rfl,HI⟩:=hrel;by_cases ap:k<N
  ·have ad:(k:Int)<(N:Int):=by omega
   obtain ⟨b,am,e,aa⟩:=HA.1 (by have:=HN.out;omega);subst e;obtain ⟨s,hs⟩:∃ s,S[k]?=some s:=⟨S[k]'(by have:=HN.out;omega),ZZe _⟩;obtain ⟨x0,x1⟩:=Qbz (aa k s hs) HI.b;have HS:=Qaa hs;have an:IntKind.i64.wrap ((k:Int)+1)=((k+1:Nat):Int):=by rw [show (k:Int)+1=((k+1:Nat):Int) by omega];exact ZZi _ ⟨by omega,by omega⟩
   clear aa hs;go_upto_region 5 with fail;clear x0 x1;have al:Bw wr (wr.alloc (.cells (QaN s) 56)):=bA;have HL:=Qaa al;have y0:=Qar (ZZk wr (.cells (QaN s) 56)) 0 rfl;have OW:=Qaa (HI.o.past al);have ak:w.heap.size<=(wr.alloc (.cells (QaN s) 56)).heap.size:=Nat.le_trans HI.b.size al.size;have NL:=Qaa (Qs0 HN hk);obtain ⟨T,hT⟩:∃ T,(S.take k).map Sd.nm=T:=⟨_,rfl⟩;rw [hT] at OW NL;have ag:=Qaa hT;clear al hT;generalize wr.alloc _=W1 at HL y0 OW ak ⊢;have ow:=OW.out;unfold OwnT at ow;rw [NL.out] at ow;have ae:=Qaa ow;clear ow OW;go_wp2_with (at_builtin;refine wpList_append_own _ rfl _ _ 57 rfl w.heap.size 9 i0 (.string ByteArray.empty) 1 16 underlying57 hi aj ah ai rfl (by decide) _ _ _ rfl (World.ownsRow.alloc ae _) ⟨W1.heap.size,0,none⟩ 1 1 [.string s.nm] rfl rfl ?c1 ?c2 ?c3 ?c4 ?c5 ?_)
   case c1=>exact Qlf
   case c2=>intro v hv;simp at hv;subst hv;rfl
   case c3=>unfold maxLen;omega
   case c4=>omega
   case c5=>simp;omega
   intro v' w1 ac ab _;have af:=Qaa (HI.step HN HS (Qac HL bA) (by rw [ag.out];exact ac) ab);clear ac ab y0 ae HL;go_wp2;go_roundw
   case rel=>exact ⟨k+1,by omega,by first | rfl | go_num,af⟩
   case measure=>simp [zI];omega
  ·have ad:¬ (k:Int)<(N:Int):=by omega
   have ho:=HI.o;rw [List.take_of_length_le (by have:=HN.out;omega)] at ho;obtain ⟨bo,c,e⟩:=Qcj ho;rw [yA,HN.out] at e;subst e;have HO:=Qaa ho;clear ho;go_wp2;go_ret;exact ⟨bo,c,rfl,HO,HI.b⟩
noncomputable def Qeg (S:List Sd):Bool:=Qag (S.map Sd.nm) && S.all (fun s=>shB s.nm s.L)
variable {f:Sd->Bool}
theorem Qm7 (h:S[k]?=some s) (q:(S.take k).all f=true) (hs:f s=true):(S.take (k+1)).all f=true:=by
 rw [List.take_add_one,h,List.all_append,q];simp [hs]
theorem Qmo (h:S[k]?=some s) (hs:f s=false):S.all f=false:=by
 cases q:S.all f with
 | false=>rfl
 | true=>
  have:=(List.all_eq_true.1 q) s (ZZn h);rw [hs] at this;cases this
theorem QiX (hN:S.length=N) (sm:SdsSm S) (ok:∀ s∈S,∀ c∈s.L,AgOk c.g/\c.s.size<=maxLen) (hm:MX w) (hA:QfW w ao S) :
  Calls prog 60 #[.slice ao N ca] w fun e w'=>e=.returned (.bool (Qeg S))/\Bw w w':=by
 have HN:=Qaa hN;have HA:=Qaa hA;have SM:=Qaa sm;have OK:=Qaa ok;have HM:=Qaa hm;have lN:N<=1048576:=by have:=sm.n;omega
 clear hN hA sm ok hm;go_enter func60,ntmps60;go_wp2_with fail;refine (QjW (ca:=ca) HN lN HA).mono ?_;rintro e w1 ⟨bo,c,rfl,ho,ak⟩;have HO:=Qaa ho;have aj:=Qaa ak;have LM:Hid ((S.map Sd.nm).length=N):=by rw [yA];exact HN
 clear ho ak;go_wp2_with fail;have hc:=Qcc (w:=w1) (L:=S.map Sd.nm) c (by rw [LM.out];exact lN) (fun u hu=>by obtain ⟨s,hs,rfl⟩:=List.mem_map.1 hu;exact SM.nz s hs) HO.at
 rw [LM.out] at hc;refine hc.mono ?_;rintro e w2 ⟨rfl,ai⟩;have ae:=Qaa (Qac aj ai);clear hc ai HO aj
 cases hmb:Qag (S.map Sd.nm) with
 | false=>
  have HE:Hid (Qeg S=false):=by unfold Qeg;rw [hmb];exact Qaa rfl
  go_wp2;go_ret;exact ⟨by rw [HE.out];rfl,ae⟩
 | true=>
  have HE:Hid (Qeg S=S.all (fun s=>shB s.nm s.L)):=by unfold Qeg;rw [hmb];exact Qaa (Bool.true_and _)
  clear hmb;go_wp2
  go_loopw [11] (fun i wr=>∃ (k:Nat),k<=N/\i=.int .i64 k/\Hid ((S.take k).all (fun s=>shB s.nm s.L)=true)/\Hid (Bw w wr)) (fun i wr=>N - (Go.RowKit.intOf i).toNat)
  case atStart=>exact ⟨0,Nat.zero_le _,rfl,Qaa (by simp),ae⟩
  case round=>
   clear ae;obtain ⟨k,hk,rfl,HF,HB⟩:=hrel;by_cases an:k<N
   ·have af:(k:Int)<(N:Int):=by omega
    obtain ⟨b,ap,e,aa⟩:=HA.1 (by have:=HN.out;omega);subst e;obtain ⟨s,hs⟩:∃ s,S[k]?=some s:=⟨S[k]'(by have:=HN.out;omega),ZZe _⟩;obtain ⟨x0,x1⟩:=Qbz (aa k s hs) HB;have HS:=Qaa hs;have ab:=Qaa (ZZn hs);have aq:IntKind.i64.wrap ((k:Int)+1)=((k+1:Nat):Int):=by rw [show (k:Int)+1=((k+1:Nat):Int) by omega];exact ZZi _ ⟨by omega,by omega⟩
    clear aa hs;go_upto_region 6 with fail;clear x0 x1;have al:Bw wr (wr.alloc (.cells (QaN s) 56)):=bA;have y0:=Qar (ZZk wr (.cells (QaN s) 56)) 0 rfl;have y1:=Qar (ZZk wr (.cells (QaN s) 56)) 1 rfl;have ac:=Qaa (Qac HB al);clear al;generalize wr.alloc _=W1 at ac y0 y1 ⊢;go_wp2_with fail;clear y0 y1;refine (Qhz s.nm (by have:=SM.nz s ab;unfold maxLen;omega) rfl (SM.l s ab) (fun c hc=>(OK.out s ab c hc).1) (SM.sm s ab) (fun c hc=>(OK.out s ab c hc).2) (HM.past ac) (QaP (HA.2 s ab) ac)).mono ?_;rintro e w3 ⟨rfl,ah⟩;have ag:=Qaa (Qac ac ah);clear ah
    cases hsb:shB s.nm s.L with
    | false=>
     have ad:Hid (Qeg S=false):=by rw [HE.out];exact Qaa (Qmo HS hsb)
     go_wp2;go_ret;exact ⟨by rw [ad.out];rfl,ag⟩
    | true=>
     have am:=Qaa (Qm7 HS HF hsb);go_wp2;go_roundw
     case rel=>exact ⟨k+1,by omega,by first | rfl | go_num,am,ag⟩
     case measure=>simp [zI];omega
   ·have af:¬ (k:Int)<(N:Int):=by omega
    have ad:Hid (Qeg S=true):=by
     rw [HE.out];have h1:=HF.out;rw [List.take_of_length_le (by have:=HN.out;omega)] at h1;exact Qaa h1
    go_wp2;go_ret;exact ⟨by rw [ad.out];rfl,HB⟩
theorem Qb4 (p:Pi) (hN:S.length=N) (lN:N<=1048576) (hA:QfW w ao S) :
  Calls prog 31 #[.agg (Qad (.slice ao N ca) p)] w fun e w'=>∃ bo c,e=.returned (.slice bo N c)/\OwnT w' w.heap.size (.slice bo N c) (S.map Sd.nm)/\Bw w w':=by
 obtain ⟨i0,hi,an,aj,ak⟩:=info_parts Qen;have HN:=Qaa hN;have HA:=Qaa hA;have a1:∀ (W:World) o,Bw W (W.alloc o):=fun W o=>bA;have hz:(w.alloc (.cells (Qad (.slice ao N ca) p) 25)).heap.size=w.heap.size+1:=by simp
 have HR:=Qaa (((a1 (w.alloc (.cells (Qad (.slice ao N ca) p) 25)) (.cells #[] 9)).block w.heap.size (by rw [hz];omega)).trans (heap_alloc_new w (.cells (Qad (.slice ao N ca) p) 25)));have ae:=Qaa (Qac (a1 w (.cells (Qad (.slice ao N ca) p) 25)) (a1 _ (.cells #[] 9)))
 have ad:Hid (NmI w ((w.alloc (.cells (Qad (.slice ao N ca) p) 25)).alloc (.cells #[] 9)) S 0 (.slice (some ⟨w.heap.size+1,0,none⟩) 0 0)):=by
  refine Qaa ⟨?_,ae⟩;have q:=World.ownsRow_made (base:=w.heap.size) (e:=9) (size:=1) (w.alloc (.cells (Qad (.slice ao N ca) p) 25)) #[] 0 (by rw [hz];omega) (Nat.zero_le _) rfl;rw [hz] at q;exact q
 clear hN hA a1 hz;go_enter func31,ntmps31;go_upto_region 2 with fail;generalize (w.alloc _).alloc _=W0 at HR ae ad ⊢;have aw:Hid (w.heap.size<W0.heap.size):=(ZZc.1 HR).1;go_wp2
 go_loopw [3,4] (fun v i wr=>∃ (k:Nat),k<=N/\i=.int .i64 k/\Hid (NmI w wr S k v)/\Hid (wr.heap[w.heap.size]?=some (.cells (Qad (.slice ao N ca) p) 25 (0,0)))) (fun v i wr=>N - (Go.RowKit.intOf i).toNat)
 case atStart=>exact ⟨0,ZZj _,rfl,ad,HR⟩
 case round=>
  clear ad HR ae;obtain ⟨k,hk,rfl,HI,HR⟩:=hrel;have r0:=Qar HR 0 rfl;by_cases ar:k<N
  ·have ag:(k:Int)<(N:Int):=by omega
   obtain ⟨b,am,e,ab⟩:=HA.1 (by have:=HN.out;omega);subst e;obtain ⟨s,hs⟩:∃ s,S[k]?=some s:=⟨S[k]'(by have:=HN.out;omega),ZZe _⟩;obtain ⟨x0,x1⟩:=Qbz (ab k s hs) HI.b;have HS:=Qaa hs;have av:IntKind.i64.wrap ((k:Int)+1)=((k+1:Nat):Int):=by rw [show (k:Int)+1=((k+1:Nat):Int) by omega];exact ZZi _ ⟨by omega,by omega⟩
   have au:w.heap.size<=wr.heap.size:=HI.b.size;have NL:=Qaa (Qs0 HN hk);obtain ⟨T,hT⟩:∃ T,(S.take k).map Sd.nm=T:=⟨_,rfl⟩;have OW:=HI.o;rw [hT] at OW NL;unfold OwnT at OW;rw [NL.out] at OW;have af:=Qaa OW;have ai:=Qaa hT;clear ab hs hT OW;go_wp2_with (at_builtin;refine wpList_append_own _ rfl _ _ 57 rfl w.heap.size 9 i0 (.string ByteArray.empty) 1 16 underlying57 hi an aj ak rfl (by decide) _ _ _ rfl (World.ownsRow.alloc af _) ⟨wr.heap.size,0,none⟩ 1 1 [.string s.nm] rfl rfl ?c1 ?c2 ?c3 ?c4 ?c5 ?_)
   case c1=>exact Qlf
   case c2=>intro v hv;simp at hv;subst hv;rfl
   case c3=>unfold maxLen;omega
   case c4=>omega
   case c5=>simp;omega
   intro v' w1 ac aa _;have al:Bw wr (wr.alloc (.cells #[.string s.nm] 9)):=bA;have ah:=Qaa (HI.step HN HS al (by rw [ai.out];exact ac) aa)
   have ap:Hid (w1.heap[w.heap.size]?=some (.cells (Qad (.slice (some ⟨b,am,none⟩) N ca) p) 25 (0,0))):=by
    have r1:=(al.block w.heap.size (ZZc.1 HR).1).trans HR;refine Qaa ((aa.block _ (ZZc.1 r1).1 (fun e=>?_)).trans r1);rcases af.2 with ⟨q,_⟩ | ⟨g,aq,ax,q,_,q2,_⟩
    ·rw [q] at e;cases e
    ·rw [q] at e
     obtain rfl:w.heap.size=g:=Option.some.inj e;rw [HR.out] at q2;injection q2 with q2;injection q2 with _ q3 _;exact absurd q3 (by decide)
   clear ac aa af al r0 x0 x1;go_wp2;go_roundw
   case rel=>exact ⟨k+1,by omega,by first | rfl | go_num,ah,ap⟩
   case measure=>simp [zI];omega
  ·have ag:¬ (k:Int)<(N:Int):=by omega
   have ho:=HI.o;rw [List.take_of_length_le (by have:=HN.out;omega)] at ho;obtain ⟨bo,c,e⟩:=Qcj ho;rw [yA,HN.out] at e;subst e;have HO:=Qaa ho;clear ho;go_wp2;go_ret;exact ⟨bo,c,rfl,HO,HI.b⟩
def Qjp (L:List Ce) (win:Int):Nat:=L.countP (fun c=>decide (c.n=win))
variable {c:Ce}
variable {win:Int}
theorem Qkr {L:List Ce} (h:L[k]?=some c):Qjp (L.take (k+1)) win=Qjp (L.take k) win+if c.n=win then 1 else 0:=by
 unfold Qjp;rw [List.take_add_one,h,List.countP_append];by_cases q:c.n=win <;> simp [q]
theorem QgK {L:List Ce} (win:Int) (hN:L.length=N) (lN:N<=1048576) (hA:QbV w ao L) :
  Calls prog 38 #[.slice ao N ca,.int .i64 win] w fun e w'=>e=.returned (.int .i64 (Qjp L win))/\w'=w:=by
 have HN:=Qaa hN;have HA:=Qaa hA;clear hN hA;go_enter func38,ntmps38;go_wp2
 go_loopw [5,6] (fun m i wr=>Hid (wr=w)/\∃ (k q:Nat),k<=N/\q<=k/\i=.int .i64 k/\m=.int .i64 q/\Hid (q=Qjp (L.take k) win)) (fun m i wr=>N - (Go.RowKit.intOf i).toNat)
 case atStart=>exact ⟨Qaa rfl,0,0,Nat.zero_le _,Nat.le_refl _,rfl,rfl,Qaa (by simp [Qjp])⟩
 case round=>
  obtain ⟨HE,k,q,hk,hq,rfl,rfl,HQ⟩:=hrel;obtain rfl:=HE.out;clear HE;by_cases ag:k<N
  ·have ac:(k:Int)<(N:Int):=by omega
   obtain ⟨b,ae,e,aa⟩:=HA.1 (by have:=HN.out;omega);subst e;obtain ⟨c,hc⟩:∃ c,L[k]?=some c:=⟨L[k]'(by have:=HN.out;omega),ZZe _⟩;obtain ⟨x0,_⟩:=aa k c hc;have HC:=Qaa hc;have af:IntKind.i64.wrap ((k:Int)+1)=((k+1:Nat):Int):=by rw [show (k:Int)+1=((k+1:Nat):Int) by omega];exact ZZi _ ⟨by omega,by omega⟩
   have ad:IntKind.i64.wrap ((q:Int)+1)=((q+1:Nat):Int):=by rw [show (q:Int)+1=((q+1:Nat):Int) by omega];exact ZZi _ ⟨by omega,by omega⟩
   clear aa hc;by_cases hw:c.n=win
   ·have bw:(c.n == win)=true:=by simp [hw]
    have ab:Hid (q+1=Qjp (L.take (k+1)) win):=by rw [Qkr HC.out,if_pos hw,<- HQ.out];exact Qaa rfl
    clear hw;go_wp2;go_roundw
    case rel=>exact ⟨Qaa (by first | trivial | rfl),k+1,q+1,by omega,by omega,by first | rfl | go_num,by first | rfl | go_num,ab⟩
    case measure=>simp [zI];omega
   ·have bw:(c.n == win)=false:=ZZf.2 hw
    have ab:Hid (q=Qjp (L.take (k+1)) win):=by rw [Qkr HC.out,if_neg hw,<- HQ.out];exact Qaa rfl
    clear hw;go_wp2;go_roundw
    case rel=>exact ⟨Qaa (by first | trivial | rfl),k+1,q,by omega,by omega,by first | rfl | go_num,rfl,ab⟩
    case measure=>simp [zI];omega
  ·have ac:¬ (k:Int)<(N:Int):=by omega
   have HF:Hid (q=Qjp L win):=by
    have h1:=HQ.out;rw [List.take_of_length_le (by have:=HN.out;omega)] at h1;exact Qaa h1
   go_wp2;go_ret;exact ⟨by rw [<- HF.out];rfl,rfl⟩
def fcS (S:List Sd):List (ByteArray×Ce):=S.flatMap (fun s=>s.L.map (fun c=>(s.nm,c)))
def Qhk (D:List (ByteArray×Ce)) (win:Int):Nat:=D.countP (fun x=>decide (x.2.n=win))
variable {x:ByteArray×Ce}
theorem Qg1 {D:List (ByteArray×Ce)} (h:D[k]?=some x):Qhk (D.take (k+1)) win=Qhk (D.take k) win+if x.2.n=win then 1 else 0:=by
 unfold Qhk;rw [List.take_add_one,h,List.countP_append];by_cases q:x.2.n=win <;> simp [q]
theorem Qoi (D:List (ByteArray×Ce)) (k:Nat) (win:Int):Qhk (D.take k) win<=Qhk D win:=(List.take_sublist k D).countP_le
structure PlP (D:List (ByteArray×Ce)) (cl:Int) (own:ByteArray->ByteArray->Prop):Prop where
 l:D.length<=60
 c:∀ win,Qhk D win<=20
 p:∀ x∈D,cl<=x.2.n/\own x.2.s x.1
section
variable {D:List (ByteArray×Ce)} {cl:Int} {own:ByteArray->ByteArray->Prop}
theorem PlP.nil:PlP [] cl own:=⟨by simp,by simp [Qhk],by simp⟩
theorem PlP.step (h:PlP (D.take k) cl own) (hx:D[k]?=some x) (h1:k+1<=60) (h2:Qhk (D.take (k+1)) x.2.n<=20) (h3:cl<=x.2.n) (h4:own x.2.s x.1):PlP (D.take (k+1)) cl own:=by
 refine ⟨by rw [List.length_take];omega,fun win=>?_,fun y hy=>?_⟩
 ·by_cases q:x.2.n=win
  ·rw [<- q];exact h2
  ·rw [Qg1 hx,if_neg q];exact h.c win
 ·rw [List.take_add_one,hx] at hy
  rcases List.mem_append.1 hy with hy | hy
  ·exact h.p y hy
  ·simp at hy
   subst hy;exact ⟨h3,h4⟩
theorem PlP.at (h:PlP D cl own) (hx:D[k]?=some x):k+1<=60/\Qhk (D.take (k+1)) x.2.n<=20/\cl<=x.2.n/\own x.2.s x.1:=by
 have hk:=(ZZd.1 hx).1;have hl:=h.l;exact ⟨by omega,Nat.le_trans (Qoi D _ _) (h.c _),h.p x (ZZn hx)⟩
end
theorem Qpy (A B:List Sd):fcS (A ++ B)=fcS A ++ fcS B:=by simp [fcS]
theorem Qra (s:Sd) (B:List Sd):fcS (s :: B)=s.L.map (fun c=>(s.nm,c)) ++ fcS B:=by simp [fcS]
theorem QsU {i:Nat} (hs:S[i]?=some s) (hc:s.L[j]?=some c):(fcS S)[(fcS (S.take i)).length+j]?=some (s.nm,c):=by
 have hi:=(ZZd.1 hs).1;have hj:=(ZZd.1 hc).1
 have e:S=S.take i ++ s :: S.drop (i+1):=by
  have h1:=(List.take_append_drop i S).symm;rw [List.drop_eq_getElem_cons hi,(List.getElem?_eq_some_iff.1 hs).2] at h1;exact h1
 have q:(fcS S)[(fcS (S.take i)).length+j]?=(fcS (S.take i) ++ (s.L.map (fun c=>(s.nm,c)) ++ fcS (S.drop (i+1))))[(fcS (S.take i)).length+j]?:=by
  rw [<- Qra,<- Qpy,<- e]
 rw [q,List.getElem?_append_right (by omega),Nat.add_sub_cancel_left,List.getElem?_append_left (by simpa using hj),List.getElem?_map,hc]
 rfl
end Go.Proofs.YtlejlgldgafljaaGreatDoor
