/-
 Parts.
-/
import Derived.Test.YtlejlgldgafljaaGreatDoorKCF
set_option maxHeartbeats 4000000
set_option linter.all false
namespace Go.Proofs.YtlejlgldgafljaaGreatDoor
open Go.ChangeShapes Go.WideShapes Go.ChangeAt Go.RowKit Go.PlainAid Tryz
set_option maxRecDepth 10000
structure Sd where
 nm:ByteArray
 L:List Ce
 ao:Option Addr
 cp:Nat
abbrev QaU (s:Sd):Array Value:=#[.string s.nm,.slice s.ao s.L.length s.cp]
def Sd.key (s:Sd):ByteArray×List (Int×ByteArray×Ag):=(s.nm,s.L.map Ce.key)
abbrev QdW (w:World) (b o:Nat) (s:Sd):Prop:=w.cell? ⟨b,o,none⟩=some (.string s.nm)/\w.cell? ⟨b,o+1,none⟩=some (.slice s.ao s.L.length s.cp)
def QeQ (w:World) (ao:Option Addr) (S:List Sd):Prop:=(0<S.length->∃ b off,ao=some ⟨b,off,none⟩/\∀ i s,S[i]?=some s->QdW w b (off+i*2) s)/\∀ s∈S,QbC w s.ao s.L
variable {W w w':World}
variable {s:Sd}
theorem Qbt {b o:Nat} (k:QdW w b o s) (hb:Below w.heap.size w w'):QdW w' b o s:=⟨Qab hb k.1,Qab hb k.2⟩
variable {ao:Option Addr}
variable {S:List Sd}
theorem QaR (h:QeQ w ao S) (hb:Below w.heap.size w w'):QeQ w' ao S:=
 ⟨fun h0=>by
  obtain ⟨b,off,e,hc⟩:=h.1 h0;exact ⟨b,off,e,fun i s hx=>Qbt (hc i s hx) hb⟩,fun s hs=>QaD (h.2 s hs) hb⟩
structure SdsLen (S:List Sd):Prop where
 n:S.length<=maxLen
 s:∀ s∈S,s.nm.size<=maxLen
 l:∀ s∈S,CesLen s.L
structure SdsSm (S:List Sd):Prop where
 n:S.length<=1048576
 l:∀ s∈S,s.L.length<=1048576
 sm:∀ s∈S,∀ c∈s.L,AgSm c.g
 nz:∀ s∈S,s.nm.size<=1048576
theorem Qd3 {t:Sd} (h:s.key=t.key):s.nm=t.nm/\s.L.map Ce.key=t.L.map Ce.key/\s.L.length=t.L.length:=by
 have h1:s.nm=t.nm:=congrArg Prod.fst h;have h2:s.L.map Ce.key=t.L.map Ce.key:=congrArg Prod.snd h;have h3:=congrArg List.length h2;simp only [List.length_map] at h3;exact ⟨h1,h2,h3⟩
theorem infoSd:(prog.info? 56).map (fun i=>(i.zero,i.size,i.bytes))=some (some (.agg #[.string ByteArray.empty,.slice none 0 0]),2,40):=by kernel_rfl
structure Pi where
 a:Int
 b:Int
 c:Int
 d:Int
abbrev Qaf (v:Value) (p:Pi):Array Value:=#[v,.int .i64 p.a,.int .i64 p.b,.int .i64 p.c,.int .i64 p.d]
structure SdRow (w:World) (g N:Nat) (M:List Sd):Prop where
 row:∃ cur:Array Value,w.heap[g]?=some (.cells cur 56 (0,0))/\N*2<=cur.size/\∀ i c,M[i]?=some c->∀ j v,(QaU c)[j]?=some v->cur[i*2+j]?=some v
 m:∀ s∈M,∃ h,s.ao=some ⟨h,0,none⟩/\g<h/\CeRow w h s.L.length s.L
abbrev Qa3:Array Value:=#[.slice none 0 0,.int .i64 0,.int .i64 0,.int .i64 0,.int .i64 0]
variable {v:Value}
theorem Qat {r:Nat} {cs:Array Value} {T:TypeId} (h:w.heap[r]?=some (.cells cs T (0,0))) (j:Nat) (e:cs[j]?=some v):w.cell? ⟨r,j,none⟩=some v:=by rw [cell_of_row _ _ j _ _ (0,0) h];exact e
def okB (L:List ByteArray) (k:Nat):Bool:=
 match L[k]? with
 | none=>true
 | some u=>QaE u && (match k with
  | 0=>true
  | j+1=>match L[j]? with
   | some p=>QaJ p u
   | none=>true)
variable {L:List ByteArray}
variable {u:ByteArray}
theorem QtZ (h:L[0]?=some u):okB L 0=QaE u:=by unfold okB;rw [h];simp
variable {N ca j k:Nat}
theorem QqC {p:ByteArray} (hp:L[j]?=some p) (h:L[j+1]?=some u):okB L (j+1)=(QaE u && QaJ p u):=by unfold okB;rw [h];simp only [hp]
theorem QtN (h:L[k]?=some u) (hn:QaE u=false):okB L k=false:=by unfold okB;rw [h];simp [hn]
def Qb0 (L:List ByteArray):Nat->Bool
 | 0=>true
 | k+1=>Qb0 L k && okB L k
def Qaj (L:List ByteArray):Bool:=decide (1<=L.length) && decide (L.length<=12) && Qb0 L L.length
theorem QkX {L:List ByteArray} {k:Nat} (h:okB L k=false):∀ n,k<n->Qb0 L n=false
 | 0,hk=>by omega
 | n+1,hk=>by
  unfold Qb0;by_cases e:k=n
  ·subst e;rw [h];simp
  ·rw [QkX h n (by omega)];simp
theorem Qri:∀ n,k<n->Qb0 L n=true->okB L k=true
 | n,hk,h=>by
  cases e:okB L k with
  | true=>rfl
  | false=>rw [QkX e n hk] at h;cases h
theorem Qlu (h:okB L k=false) (hk:k<L.length):Qaj L=false:=by unfold Qaj;rw [QkX h _ hk];simp
theorem QoT (h1:¬ L.length<1) (h2:¬ 12<L.length) (h:Qb0 L L.length=true):Qaj L=true:=by
 unfold Qaj;rw [h,decide_eq_true (show 1<=L.length by omega),decide_eq_true (show L.length<=12 by omega)];rfl
theorem QrT (h1:L.length<1):Qaj L=false:=by
 unfold Qaj;rw [decide_eq_false (show ¬ 1<=L.length by omega)];rfl
theorem Qsj (h1:12<L.length):Qaj L=false:=by
 unfold Qaj;rw [decide_eq_false (show ¬ L.length<=12 by omega)];simp
theorem Qc4 (cap:Nat) (hl:L.length<=1048576) (hu:∀ u∈L,u.size<=1048576) (hA:Qas w ao L) :
  Calls prog 32 #[.slice ao L.length cap] w fun e w'=>e=.returned (.bool (Qaj L))/\Below w.heap.size w w':=by
 obtain ⟨N,hN⟩:∃ N,L.length=N:=⟨_,rfl⟩;have HN:Hid (L.length=N):=hN;have ap:=QrN 9;rw [hN] at hl;rw [hN];by_cases h1:N<1
 ·have HM:Hid (Qaj L=false):=QrT (by omega)
  have hi:((N:Int)<1):=by omega
  clear hN hA hu;go_enter func32,ntmps32;go_wp2;go_ret;exact ⟨Qaw HM.out.symm,ZZb _ _⟩
 ·have hi:¬ ((N:Int)<1):=by omega
  by_cases h2:12<N
  ·have HM:Hid (Qaj L=false):=Qsj (by omega)
   have hj:(12:Int)<(N:Int):=by omega
   clear hN hA hu;go_enter func32,ntmps32;go_wp2;go_ret;exact ⟨Qaw HM.out.symm,ZZb _ _⟩
  ·have hj:¬ (12:Int)<(N:Int):=by omega
   clear hN;go_enter func32,ntmps32;go_wp2
   go_loopw [3] (fun i wr=>Below w.heap.size w wr/\∃ k:Nat,k<=N/\i=.int .i64 k/\Qb0 L k=true) (fun i wr=>N - (Go.RowKit.intOf i).toNat)
   case atStart=>exact ⟨ZZb _ _,0,ZZj _,rfl,rfl⟩
   case round=>
    obtain ⟨aa,k,hk,rfl,ad⟩:=hrel;have HA:Hid (Qb0 L k=true):=ad;clear ad;by_cases ar:k<N
    ·obtain ⟨b,ak,rfl,ab⟩:=hA (by have:=HN.out;omega)
     obtain ⟨u,ac⟩:∃ u,L[k]?=some u:=⟨L[k]'(by have:=HN.out;omega),ZZe _⟩;have hc:=Qab aa (ab k u ac);have ae:k=0->wr.cell? ⟨b,ak,none⟩=some (.string u):=fun e=>by rw [e,Nat.add_zero] at hc;exact hc
     have am:=hu u (ZZn ac);have af:u.size<=maxLen:=by unfold maxLen;omega
     have HB:Hid (Below w.heap.size w wr):=aa;have HU:Hid (L[k]?=some u):=ac
     cases hn:QaE u
     ·have ag:k=0∨0<k:=by omega
      have HM:Hid (Qaj L=false):=Qlu (QtN ac hn) (by have:=HN.out;omega);clear ac aa hu ab hA ae ag;go_wp2
      go_quiet (first | (go_at_call 44;refine Calls.quiet_of_same (QaI _ _ af)))
      go_wp2;go_ret;exact ⟨Qaw HM.out.symm,Qao HB _⟩
     ·rcases Nat.eq_zero_or_pos k with rfl | aj
      ·have ae:=ae rfl
       have HO:Hid (Qb0 L (0+1)=true):=(by unfold Qb0;rw [HA.out,QtZ ac,hn];rfl:Qb0 L (0+1)=true);clear ac aa hu ab hA;go_wp2
       go_quiet (first | (go_at_call 44;refine Calls.quiet_of_same (QaI _ _ af)))
       go_wp2;go_roundw
       case rel=>exact ⟨Qao HB _,0+1,by omega,by go_num,HO⟩
       case measure=>simp [zI];omega
      ·obtain ⟨j,ai⟩:∃ j,j+1=k:=⟨k - 1,by omega⟩
       obtain ⟨p,ah⟩:∃ p,L[j]?=some p:=⟨L[j]'(by have:=HN.out;omega),ZZe _⟩;have an:=Qab aa (ab j p ah);have ek:((k:Int) - 1)=(j:Int):=by omega
       have ew:IntKind.i64.wrap (j:Int)=j:=ZZi _ ⟨by omega,by omega⟩;have aq:(0:Int)<(k:Int):=by omega
       have al:j<N:=by omega
       have HK:Hid (okB L k=(QaE u && QaJ p u)):=by rw [<- ai] at ac ⊢; exact QqC ah ac
       clear ai ac aa hu ab ah hA ae
       cases hlt:QaJ p u
       ·have HM:Hid (Qaj L=false):=Qlu (by rw [HK.out,hlt];simp) (by have:=HN.out;omega)
        go_wp2
        go_quiet (first | (go_at_call 44;refine Calls.quiet_of_same (QaI _ _ af)))
        go_wp2;go_ret;exact ⟨Qaw HM.out.symm,Qao HB _⟩
       ·have HO:Hid (Qb0 L (k+1)=true):=(by unfold Qb0;rw [HA.out,HK.out,hn,hlt];rfl:Qb0 L (k+1)=true)
        go_wp2
        go_quiet (first | (go_at_call 44;refine Calls.quiet_of_same (QaI _ _ af)))
        go_wp2;go_roundw
        case rel=>exact ⟨Qao HB _,k+1,by omega,by go_num,HO⟩
        case measure=>simp [zI];omega
    ·have e:k=N:=by omega
     have HM:Hid (Qaj L=true):=by
      have hN:=HN.out;refine QoT (by omega) (by omega) ?_;rw [hN,<- e];exact HA.out
     have HB:Hid (Below w.heap.size w wr):=aa;clear e aa hA hu;go_wp2;go_ret;exact ⟨Qaw HM.out.symm,HB⟩
theorem QbZ (cap:Nat) (hl:L.length<=1048576) (hu:∀ u∈L,u.size<=1048576) (hA:Qas w ao L) :
  Calls prog 91 #[.slice ao L.length cap] w fun e w'=>e=.returned (.bool (Qaj L))/\Below w.heap.size w w':=by
 obtain ⟨N,hN⟩:∃ N,L.length=N:=⟨_,rfl⟩;have HN:Hid (L.length=N):=hN;have ap:=QrN 9;rw [hN] at hl;rw [hN];by_cases h1:N<1
 ·have HM:Hid (Qaj L=false):=QrT (by omega)
  have hi:((N:Int)<1):=by omega
  clear hN hA hu;go_enter func91,ntmps91;go_wp2;go_ret;exact ⟨Qaw HM.out.symm,ZZb _ _⟩
 ·have hi:¬ ((N:Int)<1):=by omega
  by_cases h2:12<N
  ·have HM:Hid (Qaj L=false):=Qsj (by omega)
   have hj:(12:Int)<(N:Int):=by omega
   clear hN hA hu;go_enter func91,ntmps91;go_wp2;go_ret;exact ⟨Qaw HM.out.symm,ZZb _ _⟩
  ·have hj:¬ (12:Int)<(N:Int):=by omega
   clear hN;go_enter func91,ntmps91;go_wp2
   go_loopw [14,3] (fun i _ wr=>Below w.heap.size w wr/\∃ k:Nat,k<=N/\i=.int .i64 k/\Qb0 L k=true) (fun i _ wr=>N - (Go.RowKit.intOf i).toNat)
   case atStart=>exact ⟨ZZb _ _,0,ZZj _,rfl,rfl⟩
   case round=>
    obtain ⟨aa,k,hk,rfl,ad⟩:=hrel;have HA:Hid (Qb0 L k=true):=ad;clear ad;by_cases ar:k<N
    ·obtain ⟨b,ak,rfl,ab⟩:=hA (by have:=HN.out;omega)
     obtain ⟨u,ac⟩:∃ u,L[k]?=some u:=⟨L[k]'(by have:=HN.out;omega),ZZe _⟩;have hc:=Qab aa (ab k u ac);have ae:k=0->wr.cell? ⟨b,ak,none⟩=some (.string u):=fun e=>by rw [e,Nat.add_zero] at hc;exact hc
     have am:=hu u (ZZn ac);have af:u.size<=maxLen:=by unfold maxLen;omega
     have HB:Hid (Below w.heap.size w wr):=aa;have HU:Hid (L[k]?=some u):=ac
     cases hn:QaE u
     ·have ag:k=0∨0<k:=by omega
      have HM:Hid (Qaj L=false):=Qlu (QtN ac hn) (by have:=HN.out;omega);clear ac aa hu ab hA ae ag;go_wp2
      go_quiet (first | (go_at_call 71;refine Calls.quiet_of_same (Qbg _ _ af)))
      go_wp2;go_ret;exact ⟨Qaw HM.out.symm,Qao HB _⟩
     ·rcases Nat.eq_zero_or_pos k with rfl | aj
      ·have ae:=ae rfl
       have HO:Hid (Qb0 L (0+1)=true):=(by unfold Qb0;rw [HA.out,QtZ ac,hn];rfl:Qb0 L (0+1)=true);clear ac aa hu ab hA;go_wp2
       go_quiet (first | (go_at_call 71;refine Calls.quiet_of_same (Qbg _ _ af)))
       go_wp2;go_roundw
       case rel=>exact ⟨Qao HB _,0+1,by omega,by go_num,HO⟩
       case measure=>simp [zI];omega
      ·obtain ⟨j,ai⟩:∃ j,j+1=k:=⟨k - 1,by omega⟩
       obtain ⟨p,ah⟩:∃ p,L[j]?=some p:=⟨L[j]'(by have:=HN.out;omega),ZZe _⟩;have an:=Qab aa (ab j p ah);have ek:((k:Int) - 1)=(j:Int):=by omega
       have ew:IntKind.i64.wrap (j:Int)=j:=ZZi _ ⟨by omega,by omega⟩;have aq:(0:Int)<(k:Int):=by omega
       have al:j<N:=by omega
       have HK:Hid (okB L k=(QaE u && QaJ p u)):=by rw [<- ai] at ac ⊢; exact QqC ah ac
       clear ai ac aa hu ab ah hA ae
       cases hlt:QaJ p u
       ·have HM:Hid (Qaj L=false):=Qlu (by rw [HK.out,hlt];simp) (by have:=HN.out;omega)
        go_wp2
        go_quiet (first | (go_at_call 71;refine Calls.quiet_of_same (Qbg _ _ af)))
        go_wp2;go_ret;exact ⟨Qaw HM.out.symm,Qao HB _⟩
       ·have HO:Hid (Qb0 L (k+1)=true):=(by unfold Qb0;rw [HA.out,HK.out,hn,hlt];rfl:Qb0 L (k+1)=true)
        go_wp2
        go_quiet (first | (go_at_call 71;refine Calls.quiet_of_same (Qbg _ _ af)))
        go_wp2;go_roundw
        case rel=>exact ⟨Qao HB _,k+1,by omega,by go_num,HO⟩
        case measure=>simp [zI];omega
    ·have e:k=N:=by omega
     have HM:Hid (Qaj L=true):=by
      have hN:=HN.out;refine QoT (by omega) (by omega) ?_;rw [hN,<- e];exact HA.out
     have HB:Hid (Below w.heap.size w wr):=aa;clear e aa hA hu;go_wp2;go_ret;exact ⟨Qaw HM.out.symm,HB⟩
structure NmI (w wr:World) (S:List Sd) (k:Nat) (v:Value):Prop where
 o:OwnT wr w.heap.size v ((S.take k).map Sd.nm)
 b:Below w.heap.size w wr
theorem Qsz (h:S[k]?=some s):(S.take (k+1)).map Sd.nm=(S.take k).map Sd.nm ++ [s.nm]:=by rw [List.take_add_one,h,List.map_append];rfl
theorem Qr8 (h:S.length=N) (hk:k<=N):((S.take k).map Sd.nm).length=k:=by rw [List.length_map,List.length_take,h];omega
theorem QnO {t:TypeId} (j:Nat) (v:Value) (hj:[Value.string u][j]?=some v):(W.alloc (.cells #[.string u] t)).cell? ((⟨W.heap.size,0,none⟩:Addr).add j)=some v:=by
 have hb:(W.alloc (.cells #[.string u] t)).heap[W.heap.size]?=some (.cells #[.string u] t (0,0)):=ZZk W _;rw [Addr.add_lit,Nat.zero_add,cell_of_row _ W.heap.size j _ _ (0,0) hb]
 simpa using hj
theorem NmI.step {wr w1:World} {v':Value} (h:NmI w wr S k v) (hN:S.length=N) (hs:S[k]?=some s) (hb:Below wr.heap.size wr W) (hown:w1.ownsRow w.heap.size 9 1 v' (k+1) (((S.take k).map Sd.nm).map Value.string ++ [.string s.nm])) (hg:W.grownBy w1 v.ownBlock):NmI w w1 S (k+1) v':=by
 have hk:k<S.length:=(ZZd.1 hs).1;refine ⟨?_,?_⟩
 ·refine OwnT.of hown ?_
  rw [Qsz hs,List.map_append];rfl
 ·have b1:=Qac h.b hb
  exact b1.grown hg b1.size (fun j hj=>(World.ownsRow.lt h.o j hj).1)
theorem Qi8 (hN:S.length=N) (lN:N<=1048576) (hA:QeQ w ao S) :
  Calls prog 92 #[.slice ao N ca] w fun e w'=>∃ bo c,e=.returned (.slice bo N c)/\OwnT w' w.heap.size (.slice bo N c) (S.map Sd.nm)/\Below w.heap.size w w':=by
 obtain ⟨i0,hi,aj,ak,ai⟩:=info_parts Qf2;have HN:=Qaa hN;have HA:=Qaa hA;clear hN hA;go_enter func92,ntmps92;go_wp2
 go_loopw [3,8] (fun v i wr=>∃ (k:Nat),k<=N/\i=.int .i64 k/\Hid (NmI w wr S k v)) (fun v i wr=>N - (Go.RowKit.intOf i).toNat)
 case atStart=>exact ⟨0,ZZj _,rfl,Qaa ⟨World.ownsRow_nil _ _ _ _,ZZb _ _⟩⟩
 case round=>
  obtain ⟨k,hk,rfl,HI⟩:=hrel;by_cases an:k<N
  ·have ad:(k:Int)<(N:Int):=by omega
   obtain ⟨b,ap,e,aa⟩:=HA.out.1 (by have:=HN.out;omega);subst e;obtain ⟨s,hs⟩:∃ s,S[k]?=some s:=⟨S[k]'(by have:=HN.out;omega),ZZe _⟩;obtain ⟨x0,x1⟩:=Qbt (aa k s hs) HI.out.b;have HS:=Qaa hs;have am:IntKind.i64.wrap ((k:Int)+1)=((k+1:Nat):Int):=by rw [show (k:Int)+1=((k+1:Nat):Int) by omega];exact ZZi _ ⟨by omega,by omega⟩
   clear aa hs;go_upto_region 5 with fail;clear x0 x1;have al:Below wr.heap.size wr (wr.alloc (.cells (QaU s) 56)):=(ZZb _ _).alloc (ZZa _) _;have HL:=Qaa al;have y0:=Qat (ZZk wr (.cells (QaU s) 56)) 0 rfl;have OW:=Qaa (HI.out.o.past al);have ag:w.heap.size<=(wr.alloc (.cells (QaU s) 56)).heap.size:=Nat.le_trans HI.out.b.size al.size;have NL:=Qaa (Qr8 HN hk);obtain ⟨T,hT⟩:∃ T,(S.take k).map Sd.nm=T:=⟨_,rfl⟩;rw [hT] at OW NL;have af:=Qaa hT;clear al hT;generalize wr.alloc (.cells (QaU s) 56)=W1 at HL y0 OW ag ⊢;have ow:=OW.out;unfold OwnT at ow;rw [NL.out] at ow;have ae:=Qaa ow;clear ow OW;go_wp2_with (at_builtin;refine wpList_append_own _ rfl _ _ 57 rfl w.heap.size 9 i0 (.string ByteArray.empty) 1 16 underlying57 hi aj ak ai rfl (by decide) _ _ _ rfl (World.ownsRow.alloc ae _) ⟨W1.heap.size,0,none⟩ 1 1 [.string s.nm] rfl rfl ?c1 ?c2 ?c3 ?c4 ?c5 ?_)
   case c1=>exact QnO
   case c2=>intro v hv;simp at hv;subst hv;rfl
   case c3=>unfold maxLen;omega
   case c4=>omega
   case c5=>simp;omega
   intro v' w1 ac ab _;have ah:=Qaa (HI.out.step HN HS (Qac HL ((Below.refl _ _).alloc (Nat.le_refl _) _)) (by rw [af.out];exact ac) ab);clear ac ab y0 ae HL;go_wp2;go_roundw
   case rel=>exact ⟨k+1,by omega,by first | rfl | go_num,ah⟩
   case measure=>simp [zI];omega
  ·have ad:¬ (k:Int)<(N:Int):=by omega
   have ho:=HI.out.o;rw [List.take_of_length_le (by have:=HN.out;omega)] at ho;obtain ⟨bo,c,e⟩:=QdJ ho;rw [List.length_map,HN.out] at e;subst e;have HO:=Qaa ho;clear ho;go_wp2;go_ret;exact ⟨bo,c,rfl,HO,HI.out.b⟩
noncomputable def QdU (S:List Sd):Bool:=Qaj (S.map Sd.nm) && S.all (fun s=>shB s.nm s.L)
variable {f:Sd->Bool}
theorem QlN (h:S[k]?=some s) (q:(S.take k).all f=true) (hs:f s=true):(S.take (k+1)).all f=true:=by
 rw [List.take_add_one,h,List.all_append,q];simp [hs]
theorem Qlt (h:S[k]?=some s) (hs:f s=false):S.all f=false:=by
 cases q:S.all f with
 | false=>rfl
 | true=>
  have:=(List.all_eq_true.1 q) s (ZZn h);rw [hs] at this;cases this
theorem QiP (hN:S.length=N) (sm:SdsSm S) (ok:∀ s∈S,∀ c∈s.L,AgOk c.g/\c.s.size<=maxLen) (hm:MX w) (hA:QeQ w ao S) :
  Calls prog 60 #[.slice ao N ca] w fun e w'=>e=.returned (.bool (QdU S))/\Below w.heap.size w w':=by
 have HN:=Qaa hN;have HA:=Qaa hA;have SM:=Qaa sm;have OK:=Qaa ok;have HM:=Qaa hm;have lN:N<=1048576:=by have:=sm.n;omega
 clear hN hA sm ok hm;go_enter func60,ntmps60;go_wp2_with fail;refine (Qi8 (ca:=ca) HN lN HA).mono ?_;rintro e w1 ⟨bo,c,rfl,ho,ak⟩;have HO:=Qaa ho;have ag:=Qaa ak;have LM:Hid ((S.map Sd.nm).length=N):=by rw [List.length_map];exact HN
 clear ho ak;go_wp2_with fail;have hc:=QbZ (w:=w1) (L:=S.map Sd.nm) c (by rw [LM.out];exact lN) (fun u hu=>by obtain ⟨s,hs,rfl⟩:=List.mem_map.1 hu;exact SM.out.nz s hs) HO.out.at
 rw [LM.out] at hc;refine hc.mono ?_;rintro e w2 ⟨rfl,ai⟩;have ae:=Qaa (Qac ag ai);clear hc ai HO ag
 cases hmb:Qaj (S.map Sd.nm) with
 | false=>
  have HE:Hid (QdU S=false):=by unfold QdU;rw [hmb];exact Qaa rfl
  go_wp2;go_ret;exact ⟨by rw [HE.out];rfl,ae⟩
 | true=>
  have HE:Hid (QdU S=S.all (fun s=>shB s.nm s.L)):=by unfold QdU;rw [hmb];exact Qaa (Bool.true_and _)
  clear hmb;go_wp2
  go_loopw [11] (fun i wr=>∃ (k:Nat),k<=N/\i=.int .i64 k/\Hid ((S.take k).all (fun s=>shB s.nm s.L)=true)/\Hid (Below w.heap.size w wr)) (fun i wr=>N - (Go.RowKit.intOf i).toNat)
  case atStart=>exact ⟨0,Nat.zero_le _,rfl,Qaa (by simp),ae⟩
  case round=>
   clear ae;obtain ⟨k,hk,rfl,HF,HB⟩:=hrel;by_cases ap:k<N
   ·have af:(k:Int)<(N:Int):=by omega
    obtain ⟨b,aq,e,aa⟩:=HA.out.1 (by have:=HN.out;omega);subst e;obtain ⟨s,hs⟩:∃ s,S[k]?=some s:=⟨S[k]'(by have:=HN.out;omega),ZZe _⟩;obtain ⟨x0,x1⟩:=Qbt (aa k s hs) HB;have HS:=Qaa hs;have ab:=Qaa (ZZn hs);have an:IntKind.i64.wrap ((k:Int)+1)=((k+1:Nat):Int):=by rw [show (k:Int)+1=((k+1:Nat):Int) by omega];exact ZZi _ ⟨by omega,by omega⟩
    clear aa hs;go_upto_region 6 with fail;clear x0 x1;have al:Below wr.heap.size wr (wr.alloc (.cells (QaU s) 56)):=(ZZb _ _).alloc (ZZa _) _;have y0:=Qat (ZZk wr (.cells (QaU s) 56)) 0 rfl;have y1:=Qat (ZZk wr (.cells (QaU s) 56)) 1 rfl;have ac:=Qaa (Qac HB al);clear al;generalize wr.alloc (.cells (QaU s) 56)=W1 at ac y0 y1 ⊢;go_wp2_with fail;clear y0 y1;refine (Qha s.nm (by have:=SM.out.nz s ab;unfold maxLen;omega) rfl (SM.out.l s ab) (fun c hc=>(OK.out s ab c hc).1) (SM.out.sm s ab) (fun c hc=>(OK.out s ab c hc).2) (HM.out.past ac) (QaD (HA.out.2 s ab) ac)).mono ?_;rintro e w3 ⟨rfl,ah⟩;have aj:=Qaa (Qac ac ah);clear ah
    cases hsb:shB s.nm s.L with
    | false=>
     have ad:Hid (QdU S=false):=by rw [HE.out];exact Qaa (Qlt HS hsb)
     go_wp2;go_ret;exact ⟨by rw [ad.out];rfl,aj⟩
    | true=>
     have am:=Qaa (QlN HS HF hsb);go_wp2;go_roundw
     case rel=>exact ⟨k+1,by omega,by first | rfl | go_num,am,aj⟩
     case measure=>simp [zI];omega
   ·have af:¬ (k:Int)<(N:Int):=by omega
    have ad:Hid (QdU S=true):=by
     rw [HE.out];have h1:=HF.out;rw [List.take_of_length_le (by have:=HN.out;omega)] at h1;exact Qaa h1
    go_wp2;go_ret;exact ⟨by rw [ad.out];rfl,HB⟩
theorem Qdc (p:Pi) (hN:S.length=N) (lN:N<=1048576) (hA:QeQ w ao S) :
  Calls prog 31 #[.agg (Qaf (.slice ao N ca) p)] w fun e w'=>∃ bo c,e=.returned (.slice bo N c)/\OwnT w' w.heap.size (.slice bo N c) (S.map Sd.nm)/\Below w.heap.size w w':=by
 obtain ⟨i0,hi,ak,an,am⟩:=info_parts Qf2;have HN:=Qaa hN;have HA:=Qaa hA;have a1:∀ (W:World) o,Below W.heap.size W (W.alloc o):=fun W o=>(ZZb _ _).alloc (ZZa _) _;have hz:(w.alloc (.cells (Qaf (.slice ao N ca) p) 25)).heap.size=w.heap.size+1:=by simp
 have HR:=Qaa (((a1 (w.alloc (.cells (Qaf (.slice ao N ca) p) 25)) (.cells #[] 9)).block w.heap.size (by rw [hz];omega)).trans (heap_alloc_new w (.cells (Qaf (.slice ao N ca) p) 25)));have ag:=Qaa (Qac (a1 w (.cells (Qaf (.slice ao N ca) p) 25)) (a1 _ (.cells #[] 9)))
 have ad:Hid (NmI w ((w.alloc (.cells (Qaf (.slice ao N ca) p) 25)).alloc (.cells #[] 9)) S 0 (.slice (some ⟨w.heap.size+1,0,none⟩) 0 0)):=by
  refine Qaa ⟨?_,ag⟩;have q:=World.ownsRow_made (base:=w.heap.size) (e:=9) (size:=1) (w.alloc (.cells (Qaf (.slice ao N ca) p) 25)) #[] 0 (by rw [hz];omega) (Nat.zero_le _) rfl;rw [hz] at q;exact q
 clear hN hA a1 hz;go_enter func31,ntmps31;go_upto_region 2 with fail;generalize (w.alloc (.cells (Qaf (.slice ao N ca) p) 25)).alloc (.cells #[] 9)=W0 at HR ag ad ⊢;have ar:Hid (w.heap.size<W0.heap.size):=(ZZc.1 HR).1;go_wp2
 go_loopw [3,4] (fun v i wr=>∃ (k:Nat),k<=N/\i=.int .i64 k/\Hid (NmI w wr S k v)/\Hid (wr.heap[w.heap.size]?=some (.cells (Qaf (.slice ao N ca) p) 25 (0,0)))) (fun v i wr=>N - (Go.RowKit.intOf i).toNat)
 case atStart=>exact ⟨0,ZZj _,rfl,ad,HR⟩
 case round=>
  clear ad HR ag;obtain ⟨k,hk,rfl,HI,HR⟩:=hrel;have r0:=Qat HR 0 rfl;by_cases aw:k<N
  ·have af:(k:Int)<(N:Int):=by omega
   obtain ⟨b,ap,e,ab⟩:=HA.out.1 (by have:=HN.out;omega);subst e;obtain ⟨s,hs⟩:∃ s,S[k]?=some s:=⟨S[k]'(by have:=HN.out;omega),ZZe _⟩;obtain ⟨x0,x1⟩:=Qbt (ab k s hs) HI.out.b;have HS:=Qaa hs;have av:IntKind.i64.wrap ((k:Int)+1)=((k+1:Nat):Int):=by rw [show (k:Int)+1=((k+1:Nat):Int) by omega];exact ZZi _ ⟨by omega,by omega⟩
   have aq:w.heap.size<=wr.heap.size:=HI.out.b.size;have NL:=Qaa (Qr8 HN hk);obtain ⟨T,hT⟩:∃ T,(S.take k).map Sd.nm=T:=⟨_,rfl⟩;have OW:=HI.out.o;rw [hT] at OW NL;unfold OwnT at OW;rw [NL.out] at OW;have ae:=Qaa OW;have ah:=Qaa hT;clear ab hs hT OW;go_wp2_with (at_builtin;refine wpList_append_own _ rfl _ _ 57 rfl w.heap.size 9 i0 (.string ByteArray.empty) 1 16 underlying57 hi ak an am rfl (by decide) _ _ _ rfl (World.ownsRow.alloc ae _) ⟨wr.heap.size,0,none⟩ 1 1 [.string s.nm] rfl rfl ?c1 ?c2 ?c3 ?c4 ?c5 ?_)
   case c1=>exact QnO
   case c2=>intro v hv;simp at hv;subst hv;rfl
   case c3=>unfold maxLen;omega
   case c4=>omega
   case c5=>simp;omega
   intro v' w1 ac aa _;have al:Below wr.heap.size wr (wr.alloc (.cells #[.string s.nm] 9)):=(ZZb _ _).alloc (ZZa _) _;have aj:=Qaa (HI.out.step HN HS al (by rw [ah.out];exact ac) aa)
   have ai:Hid (w1.heap[w.heap.size]?=some (.cells (Qaf (.slice (some ⟨b,ap,none⟩) N ca) p) 25 (0,0))):=by
    have r1:=(al.block w.heap.size (ZZc.1 HR).1).trans HR;refine Qaa ((aa.block _ (ZZc.1 r1).1 (fun e=>?_)).trans r1);rcases ae.out.2 with ⟨q,_⟩ | ⟨g,ax,au,q,_,q2,_⟩
    ·rw [q] at e;cases e
    ·rw [q] at e
     obtain rfl:w.heap.size=g:=Option.some.inj e;rw [HR.out] at q2;injection q2 with q2;injection q2 with _ q3 _;exact absurd q3 (by decide)
   clear ac aa ae al r0 x0 x1;go_wp2;go_roundw
   case rel=>exact ⟨k+1,by omega,by first | rfl | go_num,aj,ai⟩
   case measure=>simp [zI];omega
  ·have af:¬ (k:Int)<(N:Int):=by omega
   have ho:=HI.out.o;rw [List.take_of_length_le (by have:=HN.out;omega)] at ho;obtain ⟨bo,c,e⟩:=QdJ ho;rw [List.length_map,HN.out] at e;subst e;have HO:=Qaa ho;clear ho;go_wp2;go_ret;exact ⟨bo,c,rfl,HO,HI.out.b⟩
def QiU (L:List Ce) (win:Int):Nat:=L.countP (fun c=>decide (c.n=win))
variable {c:Ce}
variable {win:Int}
theorem QiZ {L:List Ce} (h:L[k]?=some c):QiU (L.take (k+1)) win=QiU (L.take k) win+if c.n=win then 1 else 0:=by
 unfold QiU;rw [List.take_add_one,h,List.countP_append];by_cases q:c.n=win <;> simp [q]
theorem Qgy {L:List Ce} (win:Int) (hN:L.length=N) (lN:N<=1048576) (hA:QbC w ao L) :
  Calls prog 38 #[.slice ao N ca,.int .i64 win] w fun e w'=>e=.returned (.int .i64 (QiU L win))/\w'=w:=by
 have HN:=Qaa hN;have HA:=Qaa hA;clear hN hA;go_enter func38,ntmps38;go_wp2
 go_loopw [5,6] (fun m i wr=>Hid (wr=w)/\∃ (k q:Nat),k<=N/\q<=k/\i=.int .i64 k/\m=.int .i64 q/\Hid (q=QiU (L.take k) win)) (fun m i wr=>N - (Go.RowKit.intOf i).toNat)
 case atStart=>exact ⟨Qaa rfl,0,0,Nat.zero_le _,Nat.le_refl _,rfl,rfl,Qaa (by simp [QiU])⟩
 case round=>
  obtain ⟨HE,k,q,hk,hq,rfl,rfl,HQ⟩:=hrel;obtain rfl:=HE.out;clear HE;by_cases ag:k<N
  ·have ac:(k:Int)<(N:Int):=by omega
   obtain ⟨b,af,e,aa⟩:=HA.out.1 (by have:=HN.out;omega);subst e;obtain ⟨c,hc⟩:∃ c,L[k]?=some c:=⟨L[k]'(by have:=HN.out;omega),ZZe _⟩;obtain ⟨x0,_⟩:=aa k c hc;have HC:=Qaa hc;have ad:IntKind.i64.wrap ((k:Int)+1)=((k+1:Nat):Int):=by rw [show (k:Int)+1=((k+1:Nat):Int) by omega];exact ZZi _ ⟨by omega,by omega⟩
   have ae:IntKind.i64.wrap ((q:Int)+1)=((q+1:Nat):Int):=by rw [show (q:Int)+1=((q+1:Nat):Int) by omega];exact ZZi _ ⟨by omega,by omega⟩
   clear aa hc;by_cases hw:c.n=win
   ·have bw:(c.n == win)=true:=by simp [hw]
    have ab:Hid (q+1=QiU (L.take (k+1)) win):=by rw [QiZ HC.out,if_pos hw,<- HQ.out];exact Qaa rfl
    clear hw;go_wp2;go_roundw
    case rel=>exact ⟨Qaa (by first | trivial | rfl),k+1,q+1,by omega,by omega,by first | rfl | go_num,by first | rfl | go_num,ab⟩
    case measure=>simp [zI];omega
   ·have bw:(c.n == win)=false:=ZZf.2 hw
    have ab:Hid (q=QiU (L.take (k+1)) win):=by rw [QiZ HC.out,if_neg hw,<- HQ.out];exact Qaa rfl
    clear hw;go_wp2;go_roundw
    case rel=>exact ⟨Qaa (by first | trivial | rfl),k+1,q,by omega,by omega,by first | rfl | go_num,rfl,ab⟩
    case measure=>simp [zI];omega
  ·have ac:¬ (k:Int)<(N:Int):=by omega
   have HF:Hid (q=QiU L win):=by
    have h1:=HQ.out;rw [List.take_of_length_le (by have:=HN.out;omega)] at h1;exact Qaa h1
   go_wp2;go_ret;exact ⟨by rw [<- HF.out];rfl,rfl⟩
def fcS (S:List Sd):List (ByteArray×Ce):=S.flatMap (fun s=>s.L.map (fun c=>(s.nm,c)))
def Qhc (D:List (ByteArray×Ce)) (win:Int):Nat:=D.countP (fun x=>decide (x.2.n=win))
variable {x:ByteArray×Ce}
theorem QgE {D:List (ByteArray×Ce)} (h:D[k]?=some x):Qhc (D.take (k+1)) win=Qhc (D.take k) win+if x.2.n=win then 1 else 0:=by
 unfold Qhc;rw [List.take_add_one,h,List.countP_append];by_cases q:x.2.n=win <;> simp [q]
theorem Qnf (D:List (ByteArray×Ce)) (k:Nat) (win:Int):Qhc (D.take k) win<=Qhc D win:=(List.take_sublist k D).countP_le
structure PlP (D:List (ByteArray×Ce)) (cl:Int) (own:ByteArray->ByteArray->Prop):Prop where
 l:D.length<=60
 c:∀ win,Qhc D win<=20
 p:∀ x∈D,cl<=x.2.n/\own x.2.s x.1
section
variable {D:List (ByteArray×Ce)} {cl:Int} {own:ByteArray->ByteArray->Prop}
theorem PlP.nil:PlP [] cl own:=⟨by simp,by simp [Qhc],by simp⟩
theorem PlP.step (h:PlP (D.take k) cl own) (hx:D[k]?=some x) (h1:k+1<=60) (h2:Qhc (D.take (k+1)) x.2.n<=20) (h3:cl<=x.2.n) (h4:own x.2.s x.1):PlP (D.take (k+1)) cl own:=by
 refine ⟨by rw [List.length_take];omega,fun win=>?_,fun y hy=>?_⟩
 ·by_cases q:x.2.n=win
  ·rw [<- q];exact h2
  ·rw [QgE hx,if_neg q];exact h.c win
 ·rw [List.take_add_one,hx] at hy
  rcases List.mem_append.1 hy with hy | hy
  ·exact h.p y hy
  ·simp at hy
   subst hy;exact ⟨h3,h4⟩
theorem PlP.at (h:PlP D cl own) (hx:D[k]?=some x):k+1<=60/\Qhc (D.take (k+1)) x.2.n<=20/\cl<=x.2.n/\own x.2.s x.1:=by
 have hk:=(ZZd.1 hx).1;have hl:=h.l;exact ⟨by omega,Nat.le_trans (Qnf D _ _) (h.c _),h.p x (ZZn hx)⟩
end
theorem Qoh (A B:List Sd):fcS (A ++ B)=fcS A ++ fcS B:=by simp [fcS]
theorem Qqo (s:Sd) (B:List Sd):fcS (s :: B)=s.L.map (fun c=>(s.nm,c)) ++ fcS B:=by simp [fcS]
theorem Qsg {i:Nat} (hs:S[i]?=some s) (hc:s.L[j]?=some c):(fcS S)[(fcS (S.take i)).length+j]?=some (s.nm,c):=by
 have hi:=(ZZd.1 hs).1;have hj:=(ZZd.1 hc).1
 have e:S=S.take i ++ s :: S.drop (i+1):=by
  have h1:=(List.take_append_drop i S).symm;rw [List.drop_eq_getElem_cons hi,(List.getElem?_eq_some_iff.1 hs).2] at h1;exact h1
 have q:(fcS S)[(fcS (S.take i)).length+j]?=(fcS (S.take i) ++ (s.L.map (fun c=>(s.nm,c)) ++ fcS (S.drop (i+1))))[(fcS (S.take i)).length+j]?:=by
  rw [<- Qqo,<- Qoh,<- e]
 rw [q,List.getElem?_append_right (by omega),Nat.add_sub_cancel_left,List.getElem?_append_left (by simpa using hj),List.getElem?_map,hc]
 rfl
end Go.Proofs.YtlejlgldgafljaaGreatDoor
