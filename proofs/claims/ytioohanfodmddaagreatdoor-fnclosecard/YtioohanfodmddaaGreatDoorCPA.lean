/-
 Parts.
-/
import Derived.Test.YtioohanfodmddaaGreatDoorCCF
set_option maxHeartbeats 4000000
set_option linter.all false
namespace Go.Proofs.YtioohanfodmddaaGreatDoor
open Go.ChangeShapes Go.WideShapes Go.ChangeAt Go.RowKit Go.PlainAid Tryz
set_option maxRecDepth 10000
theorem mB2 {p:Prop} (h:p:=by
 have e:k=N:=by omega
 have HM:Hid (Qaj L=true):=by
  have hN:=HN.out;refine Qpc oB oB ?_;rw [hN,<- e];exact HA.out
 have HB:Hid (Bw w wr):=ab;clear e ab hA hu;go_wp2;go_ret;exact ⟨Qaw HM.symm,HB⟩):p:=h
theorem mCd {p:Prop} (h:p:=by have ho:=HI.o;rw [List.take_of_length_le (oA HN.out)] at ho;obtain ⟨bo,c,e⟩:=QcR ho;rw [yA,HN.out] at e;subst e;have HO:=Qaa ho;clear ho;go_wp2;go_ret;exact ⟨bo,c,rfl,HO,HI.b⟩):p:=h
theorem mCp {p:Prop} (h:p:=by
 go_wp2
 go_quiet (first | (go_at_call 147;refine Calls.quiet_of_same (Qbd _ _ ae)))
 go_wp2;go_ret;exact ⟨Qaw HM.symm,Qap HB _⟩):p:=h
theorem mCr {p:Prop} (h:p:=by
 go_wp2
 go_quiet (first | (go_at_call 66;refine Calls.quiet_of_same (QaH _ _ ae)))
 go_wp2;go_ret;exact ⟨Qaw HM.symm,Qap HB _⟩):p:=h
theorem mDg {p:Prop} (h:p:=by go_wp2;go_ret;exact ⟨Qaw HM.symm,ZZb _ _⟩):p:=h
structure Sd where
 nm:ByteArray
 L:List Ce
 ao:Option Addr
 cp:Nat
abbrev QaS (s:Sd):Array Value:=#[.string s.nm,.slice s.ao s.L.length s.cp]
def Sd.key (s:Sd):ByteArray×List (Int×ByteArray×Ag):=(s.nm,s.L.map Ce.key)
abbrev Qfb (w:World) (b o:Nat) (s:Sd):Prop:=w.cell? ⟨b,o,none⟩=some (.string s.nm)/\w.cell? ⟨b,o+1,none⟩=some (.slice s.ao s.L.length s.cp)
def Qf0 (w:World) (ao:Option Addr) (S:List Sd):Prop:=(0<S.length->∃ b off,ao=some ⟨b,off,none⟩/\∀ i s,S[i]?=some s->Qfb w b (off+i*2) s)/\∀ s∈S,QbG w s.ao s.L
variable {W w w':World}
variable {s:Sd}
theorem QbJ {b o:Nat} (k:Qfb w b o s) (hb:Bw w w'):Qfb w' b o s:=⟨Qab hb k.1,Qab hb k.2⟩
variable {ao:Option Addr}
variable {S:List Sd}
theorem QaM (h:Qf0 w ao S) (hb:Bw w w'):Qf0 w' ao S:=
 ⟨fun h0=>by
  obtain ⟨b,off,e,hc⟩:=h.1 h0;exact ⟨b,off,e,fun i s hx=>QbJ (hc i s hx) hb⟩,fun s hs=>QaL (h.2 s hs) hb⟩
structure SdsLen (S:List Sd):Prop where
 n:S.length<=maxLen
 s:∀ s∈S,s.nm.size<=maxLen
 l:∀ s∈S,CesLen s.L
structure SdsSm (S:List Sd):Prop where
 n:S.length<=1048576
 l:∀ s∈S,s.L.length<=1048576
 sm:∀ s∈S,∀ c∈s.L,AgSm c.g
 nz:∀ s∈S,s.nm.size<=1048576
theorem Qfw {t:Sd} (h:s.key=t.key):s.nm=t.nm/\s.L.map Ce.key=t.L.map Ce.key/\s.L.length=t.L.length:=by
 have h1:s.nm=t.nm:=congrArg Prod.fst h;have h2:s.L.map Ce.key=t.L.map Ce.key:=congrArg Prod.snd h;have h3:=congrArg List.length h2;simp only [yA] at h3;exact ⟨h1,h2,h3⟩
theorem infoSd:(prog.info? 71).map (fun i=>(i.zero,i.size,i.bytes))=some (some (.agg zAe),2,40):=oG
structure Pi where
 a:Int
 b:Int
 c:Int
 d:Int
abbrev Qae (v:Value) (p:Pi):Array Value:=#[v,.int .i64 p.a,.int .i64 p.b,.int .i64 p.c,.int .i64 p.d]
structure SdRow (w:World) (g N:Nat) (M:List Sd):Prop where
 row:∃ cur:Array Value,w.heap[g]?=some (.cells cur 71 (0,0))/\N*2<=cur.size/\∀ i c,M[i]?=some c->∀ j v,(QaS c)[j]?=some v->cur[i*2+j]?=some v
 m:∀ s∈M,∃ h,s.ao=some ⟨h,0,none⟩/\g<h/\CeRow w h s.L.length s.L
abbrev QbE:Array Value:=zAd
variable {v:Value}
theorem Qar {r:Nat} {cs:Array Value} {T:TypeId} (h:w.heap[r]?=some (.cells cs T (0,0))) (j:Nat) (e:cs[j]?=some v):w.cell? ⟨r,j,none⟩=some v:=by rw [cell_of_row _ _ j _ _ (0,0) h];exact e
def okB (L:List ByteArray) (k:Nat):Bool:=
 match L[k]? with
 | none=>true
 | some u=>QaF u && (match k with
  | 0=>true
  | j+1=>match L[j]? with
   | some p=>QaJ p u
   | none=>true)
variable {L:List ByteArray}
variable {u:ByteArray}
theorem Qvy (h:L[0]?=some u):okB L 0=QaF u:=by unfold okB;rw [h];simp
variable {N ca j k:Nat}
theorem QrU {p:ByteArray} (hp:L[j]?=some p) (h:L[j+1]?=some u):okB L (j+1)=(QaF u && QaJ p u):=by unfold okB;rw [h];simp only [hp]
theorem Qul (h:L[k]?=some u) (hn:QaF u=false):okB L k=false:=by unfold okB;rw [h];simp [hn]
def Qb5 (L:List ByteArray):Nat->Bool
 | 0=>true
 | k+1=>Qb5 L k && okB L k
def Qaj (L:List ByteArray):Bool:=decide (1<=L.length) && decide (L.length<=12) && Qb5 L L.length
theorem QlD {L:List ByteArray} {k:Nat} (h:okB L k=false):∀ n,k<n->Qb5 L n=false
 | 0,hk=>by omega
 | n+1,hk=>by
  unfold Qb5;by_cases e:k=n
  ·subst e;rw [h];simp
  ·rw [QlD h n oB];simp
theorem Qs6:∀ n,k<n->Qb5 L n=true->okB L k=true
 | n,hk,h=>by
  cases e:okB L k with
  | true=>rfl
  | false=>rw [QlD e n hk] at h;cases h
theorem Qmt (h:okB L k=false) (hk:k<L.length):Qaj L=false:=by unfold Qaj;rw [QlD h _ hk];simp
theorem Qpc (h1:¬ L.length<1) (h2:¬ 12<L.length) (h:Qb5 L L.length=true):Qaj L=true:=by
 unfold Qaj;rw [h,decide_eq_true (show 1<=L.length by omega),decide_eq_true (show L.length<=12 by omega)];rfl
theorem QtT (h1:L.length<1):Qaj L=false:=by
 unfold Qaj;rw [decide_eq_false (show ¬ 1<=L.length by omega)];rfl
theorem Qtw (h1:12<L.length):Qaj L=false:=by
 unfold Qaj;rw [decide_eq_false (show ¬ L.length<=12 by omega)];simp
theorem Qc9 (cap:Nat) (hl:L.length<=1048576) (hu:∀ u∈L,u.size<=1048576) (hA:Qat w ao L) :
  Calls prog 30 #[.slice ao L.length cap] w fun e w'=>e=.returned (.bool (Qaj L))/\Bw w w':=by
 obtain ⟨N,hN⟩:∃ N,L.length=N:=⟨_,rfl⟩;have HN:Hid (L.length=N):=hN;have ar:=Qt2 9;rw [hN] at hl;rw [hN];by_cases h1:N<1
 ·have HM:Hid (Qaj L=false):=QtT oB
  have hi:((N:Int)<1):=oB
  clear hN hA hu;go_enter func30,ntmps30;exact mDg
 ·have hi:¬ ((N:Int)<1):=by omega
  by_cases h2:12<N
  ·have HM:Hid (Qaj L=false):=Qtw oB
   have hj:(12:Int)<(N:Int):=oB
   clear hN hA hu;go_enter func30,ntmps30;exact mDg
  ·have hj:¬ (12:Int)<(N:Int):=by omega
   clear hN;go_enter func30,ntmps30;go_wp2
   go_loopw [3] (fun i wr=>Bw w wr/\∃ k:Nat,k<=N/\i=.int .i64 k/\Qb5 L k=true) (fun i wr=>N - (Go.RowKit.intOf i).toNat)
   case atStart=>exact ⟨ZZb _ _,0,ZZj _,rfl,rfl⟩
   case round=>
    obtain ⟨ab,k,hk,rfl,ad⟩:=hrel;have HA:Hid (Qb5 L k=true):=ad;clear ad;by_cases al:k<N
    ·obtain ⟨b,ak,rfl,aa⟩:=hA (oA HN.out)
     obtain ⟨u,ac⟩:∃ u,L[k]?=some u:=⟨L[k]'(oA HN.out),ZZe _⟩;have hc:=Qab ab (aa k u ac);have af:k=0->wr.cell? ⟨b,ak,none⟩=some (.string u):=fun e=>by rw [e,Nat.add_zero] at hc;exact hc
     have ap:=hu u (ZZn ac);have ae:u.size<=maxLen:=by unfold maxLen;omega
     have HB:Hid (Bw w wr):=ab;have HU:Hid (L[k]?=some u):=ac
     cases hn:QaF u
     ·have ah:k=0∨0<k:=by omega
      have HM:Hid (Qaj L=false):=Qmt (Qul ac hn) (oA HN.out);clear ac ab hu aa hA af ah;exact mCr
     ·rcases Nat.eq_zero_or_pos k with rfl | aj
      ·have af:=af rfl
       have HO:Hid (Qb5 L (0+1)=true):=Qaa (by unfold Qb5;rw [HA.out,Qvy ac,hn];rfl);clear ac ab hu aa hA;go_wp2
       go_quiet (first | (go_at_call 66;refine Calls.quiet_of_same (QaH _ _ ae)))
       go_wp2;go_roundw
       case rel=>exact ⟨Qap HB _,0+1,by omega,by go_num,HO⟩
       case measure=>simp [zI];omega
      ·obtain ⟨j,ai⟩:∃ j,j+1=k:=⟨k - 1,by omega⟩
       obtain ⟨p,ag⟩:∃ p,L[j]?=some p:=⟨L[j]'(oA HN.out),ZZe _⟩;have am:=Qab ab (aa j p ag);have ek:((k:Int) - 1)=(j:Int):=oB
       have ew:IntKind.i64.wrap (j:Int)=j:=ZZi _ ⟨by omega,by omega⟩;have an:(0:Int)<(k:Int):=oB
       have aq:j<N:=oB
       have HK:Hid (okB L k=(QaF u && QaJ p u)):=by rw [<- ai] at ac ⊢; exact QrU ag ac
       clear ai ac ab hu aa ag hA af
       cases hlt:QaJ p u
       ·have HM:Hid (Qaj L=false):=Qmt (by rw [HK.out,hlt];simp) (oA HN.out)
        exact mCr
       ·have HO:Hid (Qb5 L (k+1)=true):=Qaa xI
        go_wp2
        go_quiet (first | (go_at_call 66;refine Calls.quiet_of_same (QaH _ _ ae)))
        go_wp2;go_roundw
        case rel=>exact ⟨Qap HB _,k+1,by omega,by go_num,HO⟩
        case measure=>simp [zI];omega
    ·exact mB2
theorem Qb1 (cap:Nat) (hl:L.length<=1048576) (hu:∀ u∈L,u.size<=1048576) (hA:Qat w ao L) :
  Calls prog 93 #[.slice ao L.length cap] w fun e w'=>e=.returned (.bool (Qaj L))/\Bw w w':=by
 obtain ⟨N,hN⟩:∃ N,L.length=N:=⟨_,rfl⟩;have HN:Hid (L.length=N):=hN;have ar:=Qt2 9;rw [hN] at hl;rw [hN];by_cases h1:N<1
 ·have HM:Hid (Qaj L=false):=QtT oB
  have hi:((N:Int)<1):=oB
  clear hN hA hu;go_enter func93,ntmps93;exact mDg
 ·have hi:¬ ((N:Int)<1):=by omega
  by_cases h2:12<N
  ·have HM:Hid (Qaj L=false):=Qtw oB
   have hj:(12:Int)<(N:Int):=oB
   clear hN hA hu;go_enter func93,ntmps93;exact mDg
  ·have hj:¬ (12:Int)<(N:Int):=by omega
   clear hN;go_enter func93,ntmps93;go_wp2
   go_loopw [14,3] (fun i _ wr=>Bw w wr/\∃ k:Nat,k<=N/\i=.int .i64 k/\Qb5 L k=true) (fun i _ wr=>N - (Go.RowKit.intOf i).toNat)
   case atStart=>exact ⟨ZZb _ _,0,ZZj _,rfl,rfl⟩
   case round=>
    obtain ⟨ab,k,hk,rfl,ad⟩:=hrel;have HA:Hid (Qb5 L k=true):=ad;clear ad;by_cases al:k<N
    ·obtain ⟨b,ak,rfl,aa⟩:=hA (oA HN.out)
     obtain ⟨u,ac⟩:∃ u,L[k]?=some u:=⟨L[k]'(oA HN.out),ZZe _⟩;have hc:=Qab ab (aa k u ac);have af:k=0->wr.cell? ⟨b,ak,none⟩=some (.string u):=fun e=>by rw [e,Nat.add_zero] at hc;exact hc
     have ap:=hu u (ZZn ac);have ae:u.size<=maxLen:=by unfold maxLen;omega
     have HB:Hid (Bw w wr):=ab;have HU:Hid (L[k]?=some u):=ac
     cases hn:QaF u
     ·have ah:k=0∨0<k:=by omega
      have HM:Hid (Qaj L=false):=Qmt (Qul ac hn) (oA HN.out);clear ac ab hu aa hA af ah;exact mCp
     ·rcases Nat.eq_zero_or_pos k with rfl | aj
      ·have af:=af rfl
       have HO:Hid (Qb5 L (0+1)=true):=Qaa (by unfold Qb5;rw [HA.out,Qvy ac,hn];rfl);clear ac ab hu aa hA;go_wp2
       go_quiet (first | (go_at_call 147;refine Calls.quiet_of_same (Qbd _ _ ae)))
       go_wp2;go_roundw
       case rel=>exact ⟨Qap HB _,0+1,by omega,by go_num,HO⟩
       case measure=>simp [zI];omega
      ·obtain ⟨j,ai⟩:∃ j,j+1=k:=⟨k - 1,by omega⟩
       obtain ⟨p,ag⟩:∃ p,L[j]?=some p:=⟨L[j]'(oA HN.out),ZZe _⟩;have am:=Qab ab (aa j p ag);have ek:((k:Int) - 1)=(j:Int):=oB
       have ew:IntKind.i64.wrap (j:Int)=j:=ZZi _ ⟨by omega,by omega⟩;have an:(0:Int)<(k:Int):=oB
       have aq:j<N:=oB
       have HK:Hid (okB L k=(QaF u && QaJ p u)):=by rw [<- ai] at ac ⊢; exact QrU ag ac
       clear ai ac ab hu aa ag hA af
       cases hlt:QaJ p u
       ·have HM:Hid (Qaj L=false):=Qmt (by rw [HK.out,hlt];simp) (oA HN.out)
        exact mCp
       ·have HO:Hid (Qb5 L (k+1)=true):=Qaa xI
        go_wp2
        go_quiet (first | (go_at_call 147;refine Calls.quiet_of_same (Qbd _ _ ae)))
        go_wp2;go_roundw
        case rel=>exact ⟨Qap HB _,k+1,by omega,by go_num,HO⟩
        case measure=>simp [zI];omega
    ·exact mB2
structure NmI (w wr:World) (S:List Sd) (k:Nat) (v:Value):Prop where
 o:OwnT wr w.heap.size v ((S.take k).map Sd.nm)
 b:Bw w wr
theorem Qv4 (h:S[k]?=some s):(S.take (k+1)).map Sd.nm=(S.take k).map Sd.nm ++ [s.nm]:=by rw [List.take_add_one,h,List.map_append];rfl
theorem Qtv (h:S.length=N) (hk:k<=N):((S.take k).map Sd.nm).length=k:=by rw [yA,List.length_take,h];omega
theorem QqQ {t:TypeId} (j:Nat) (v:Value) (hj:[Value.string u][j]?=some v):(W.alloc (.cells #[.string u] t)).cell? ((⟨W.heap.size,0,none⟩:Addr).add j)=some v:=by
 have hb:(W.alloc (.cells #[.string u] t)).heap[W.heap.size]?=some (.cells #[.string u] t (0,0)):=ZZk W _;exact mD2
theorem NmI.step {wr w1:World} {v':Value} (h:NmI w wr S k v) (hN:S.length=N) (hs:S[k]?=some s) (hb:Bw wr W) (hown:w1.ownsRow w.heap.size 9 1 v' (k+1) (((S.take k).map Sd.nm).map Value.string ++ [.string s.nm])) (hg:W.grownBy w1 v.ownBlock):NmI w w1 S (k+1) v':=by
 have hk:k<S.length:=(ZZd.1 hs).1;refine ⟨?_,?_⟩
 ·refine OwnT.of hown ?_
  rw [Qv4 hs,List.map_append];rfl
 ·have b1:=Qac h.b hb
  exact b1.grown hg b1.size (fun j hj=>(World.ownsRow.lt h.o j hj).1)
theorem Qkf (hN:S.length=N) (lN:N<=1048576) (hA:Qf0 w ao S) :
  Calls prog 94 #[.slice ao N ca] w fun e w'=>∃ bo c,e=.returned (.slice bo N c)/\OwnT w' w.heap.size (.slice bo N c) (S.map Sd.nm)/\Bw w w':=by
 obtain ⟨i0,hi,ak,aj,ah⟩:=info_parts QgO;have HN:=Qaa hN;have HA:=Qaa hA;clear hN hA;go_enter func94,ntmps94;go_wp2
 go_loopw [3,8] (fun v i wr=>∃ (k:Nat),k<=N/\i=.int .i64 k/\Hid (NmI w wr S k v)) (fun v i wr=>N - (Go.RowKit.intOf i).toNat)
 case atStart=>exact ⟨0,ZZj _,rfl,Qaa ⟨World.ownsRow_nil _ _ _ _,ZZb _ _⟩⟩
 case round=>
  obtain ⟨k,hk,rfl,HI⟩:=hrel;by_cases am:k<N
  ·have ad:(k:Int)<(N:Int):=by omega
   obtain ⟨b,ap,e,aa⟩:=HA.1 (oA HN.out);subst e;obtain ⟨s,hs⟩:∃ s,S[k]?=some s:=⟨S[k]'(oA HN.out),ZZe _⟩;obtain ⟨x0,x1⟩:=QbJ (aa k s hs) HI.b;have HS:=Qaa hs;have an:IntKind.i64.wrap ((k:Int)+1)=((k+1:Nat):Int):=by rw [show (k:Int)+1=((k+1:Nat):Int) by omega];exact ZZi _ ⟨by omega,by omega⟩
   clear aa hs;go_upto_region 5 with fail;clear x0 x1;have al:Bw wr (wr.alloc (.cells (QaS s) 71)):=bAA;have HL:=Qaa al;have y0:=Qar (ZZk wr (.cells (QaS s) 71)) 0 rfl;have OW:=Qaa (HI.o.past al);have ag:w.heap.size<=(wr.alloc (.cells (QaS s) 71)).heap.size:=Nat.le_trans HI.b.size al.size;have NL:=Qaa (Qtv HN hk);obtain ⟨T,hT⟩:∃ T,(S.take k).map Sd.nm=T:=⟨_,rfl⟩;rw [hT] at OW NL;have af:=Qaa hT;clear al hT;generalize wr.alloc _=W1 at HL y0 OW ag ⊢;have ow:=OW.out;unfold OwnT at ow;rw [NL.out] at ow;have ae:=Qaa ow;clear ow OW;go_wp2_with (at_builtin;refine wpList_append_own _ rfl _ _ 75 rfl w.heap.size 9 i0 (.string ByteArray.empty) 1 16 underlying75 hi ak aj ah rfl oF _ _ _ rfl (World.ownsRow.alloc ae _) ⟨W1.heap.size,0,none⟩ 1 1 [.string s.nm] rfl rfl ?c1 ?c2 ?c3 ?c4 ?c5 ?_)
   case c1=>exact QqQ
   case c2=>intro v hv;simp at hv;subst hv;rfl
   case c3=>unfold maxLen;omega
   case c4=>omega
   case c5=>simp;omega
   intro v' w1 ac ab _;have ai:=Qaa (HI.step HN HS (Qac HL bAA) (by rw [af.out];exact ac) ab);clear ac ab y0 ae HL;go_wp2;go_roundw
   case rel=>exact ⟨k+1,by omega,by first | rfl | go_num,ai⟩
   case measure=>simp [zI];omega
  ·have ad:¬ (k:Int)<(N:Int):=by omega
   exact mCd
noncomputable def Qev (S:List Sd):Bool:=Qaj (S.map Sd.nm) && S.all (fun s=>shB s.nm s.L)
variable {f:Sd->Bool}
theorem Qmd (h:S[k]?=some s) (q:(S.take k).all f=true) (hs:f s=true):(S.take (k+1)).all f=true:=by
 rw [List.take_add_one,h,List.all_append,q];simp [hs]
theorem Qno (h:S[k]?=some s) (hs:f s=false):S.all f=false:=by
 cases q:S.all f with
 | false=>rfl
 | true=>
  have:=(List.all_eq_true.1 q) s (ZZn h);rw [hs] at this;cases this
theorem QiN (hN:S.length=N) (sm:SdsSm S) (ok:∀ s∈S,∀ c∈s.L,AgOk c.g/\c.s.size<=maxLen) (hm:MX w) (hA:Qf0 w ao S) :
  Calls prog 54 #[.slice ao N ca] w fun e w'=>e=.returned (.bool (Qev S))/\Bw w w':=by
 have HN:=Qaa hN;have HA:=Qaa hA;have SM:=Qaa sm;have OK:=Qaa ok;have HM:=Qaa hm;have lN:N<=1048576:=by have:=sm.n;omega
 clear hN hA sm ok hm;go_enter func54,ntmps54;go_wp2_with fail;refine (Qkf (ca:=ca) HN lN HA).mono ?_;rintro e w1 ⟨bo,c,rfl,ho,ah⟩;have HO:=Qaa ho;have aj:=Qaa ah;have LM:Hid ((S.map Sd.nm).length=N):=by rw [yA];exact HN
 clear ho ah;go_wp2_with fail;have hc:=Qb1 (w:=w1) (L:=S.map Sd.nm) c xR (fun u hu=>by obtain ⟨s,hs,rfl⟩:=List.mem_map.1 hu;exact SM.nz s hs) HO.at
 rw [LM.out] at hc;refine hc.mono ?_;rintro e w2 ⟨rfl,ag⟩;have ad:=Qaa (Qac aj ag);clear hc ag HO aj
 cases hmb:Qaj (S.map Sd.nm) with
 | false=>
  have HE:Hid (Qev S=false):=by unfold Qev;rw [hmb];exact Qaa rfl
  go_wp2;go_ret;exact ⟨by rw [HE.out];rfl,ad⟩
 | true=>
  have HE:Hid (Qev S=S.all (fun s=>shB s.nm s.L)):=by unfold Qev;rw [hmb];exact Qaa (Bool.true_and _)
  clear hmb;go_wp2
  go_loopw [11] (fun i wr=>∃ (k:Nat),k<=N/\i=.int .i64 k/\Hid ((S.take k).all (fun s=>shB s.nm s.L)=true)/\Hid (Bw w wr)) (fun i wr=>N - (Go.RowKit.intOf i).toNat)
  case atStart=>exact ⟨0,Nat.zero_le _,rfl,Qaa oE,ad⟩
  case round=>
   clear ad;obtain ⟨k,hk,rfl,HF,HB⟩:=hrel;by_cases an:k<N
   ·have ae:(k:Int)<(N:Int):=by omega
    obtain ⟨b,aq,e,aa⟩:=HA.1 (oA HN.out);subst e;obtain ⟨s,hs⟩:∃ s,S[k]?=some s:=⟨S[k]'(oA HN.out),ZZe _⟩;obtain ⟨x0,x1⟩:=QbJ (aa k s hs) HB;have HS:=Qaa hs;have ab:=Qaa (ZZn hs);have ap:IntKind.i64.wrap ((k:Int)+1)=((k+1:Nat):Int):=by rw [show (k:Int)+1=((k+1:Nat):Int) by omega];exact ZZi _ ⟨by omega,by omega⟩
    clear aa hs;go_upto_region 6 with fail;clear x0 x1;have al:Bw wr (wr.alloc (.cells (QaS s) 71)):=bAA;have y0:=Qar (ZZk wr (.cells (QaS s) 71)) 0 rfl;have y1:=Qar (ZZk wr (.cells (QaS s) 71)) 1 rfl;have ac:=Qaa (Qac HB al);clear al;generalize wr.alloc _=W1 at ac y0 y1 ⊢;go_wp2_with fail;clear y0 y1;refine (Qed s.nm (by have:=SM.nz s ab;unfold maxLen;omega) rfl (SM.l s ab) (fun c hc=>(OK.out s ab c hc).1) (SM.sm s ab) (fun c hc=>(OK.out s ab c hc).2) (HM.past ac) (QaL (HA.2 s ab) ac)).mono ?_;rintro e w3 ⟨rfl,ak⟩;have ai:=Qaa (Qac ac ak);clear ak
    cases hsb:shB s.nm s.L with
    | false=>
     have af:Hid (Qev S=false):=by rw [HE.out];exact Qaa (Qno HS hsb)
     go_wp2;go_ret;exact ⟨by rw [af.out];rfl,ai⟩
    | true=>
     have am:=Qaa (Qmd HS HF hsb);go_wp2;go_roundw
     case rel=>exact ⟨k+1,by omega,by first | rfl | go_num,am,ai⟩
     case measure=>simp [zI];omega
   ·have ae:¬ (k:Int)<(N:Int):=by omega
    have af:Hid (Qev S=true):=by
     rw [HE.out];have h1:=HF.out;rw [List.take_of_length_le (oA HN.out)] at h1;exact Qaa h1
    go_wp2;go_ret;exact ⟨by rw [af.out];rfl,HB⟩
theorem Qdx (p:Pi) (hN:S.length=N) (lN:N<=1048576) (hA:Qf0 w ao S) :
  Calls prog 29 #[.agg (Qae (.slice ao N ca) p)] w fun e w'=>∃ bo c,e=.returned (.slice bo N c)/\OwnT w' w.heap.size (.slice bo N c) (S.map Sd.nm)/\Bw w w':=by
 obtain ⟨i0,hi,an,ai,ak⟩:=info_parts QgO;have HN:=Qaa hN;have HA:=Qaa hA;have a1:∀ (W:World) o,Bw W (W.alloc o):=fun W o=>bAA;have hz:(w.alloc (.cells (Qae (.slice ao N ca) p) 25)).heap.size=w.heap.size+1:=oE
 have HR:=Qaa (((a1 (w.alloc (.cells (Qae (.slice ao N ca) p) 25)) (.cells #[] 9)).block w.heap.size (by rw [hz];omega)).trans (heap_alloc_new w (.cells (Qae (.slice ao N ca) p) 25)));have ae:=Qaa (Qac (a1 w (.cells (Qae (.slice ao N ca) p) 25)) (a1 _ (.cells #[] 9)))
 have ag:Hid (NmI w ((w.alloc (.cells (Qae (.slice ao N ca) p) 25)).alloc (.cells #[] 9)) S 0 (.slice (some ⟨w.heap.size+1,0,none⟩) 0 0)):=by
  refine Qaa ⟨?_,ae⟩;have q:=World.ownsRow_made (base:=w.heap.size) (e:=9) (size:=1) (w.alloc (.cells (Qae (.slice ao N ca) p) 25)) #[] 0 (by rw [hz];omega) (Nat.zero_le _) rfl;rw [hz] at q;exact q
 clear hN hA a1 hz;go_enter func29,ntmps29;go_upto_region 2 with fail;generalize (w.alloc _).alloc _=W0 at HR ae ag ⊢;have av:Hid (w.heap.size<W0.heap.size):=(ZZc.1 HR).1;go_wp2
 go_loopw [3,4] (fun v i wr=>∃ (k:Nat),k<=N/\i=.int .i64 k/\Hid (NmI w wr S k v)/\Hid (wr.heap[w.heap.size]?=some (.cells (Qae (.slice ao N ca) p) 25 (0,0)))) (fun v i wr=>N - (Go.RowKit.intOf i).toNat)
 case atStart=>exact ⟨0,ZZj _,rfl,ag,HR⟩
 case round=>
  clear ag HR ae;obtain ⟨k,hk,rfl,HI,HR⟩:=hrel;have r0:=Qar HR 0 rfl;by_cases aq:k<N
  ·have af:(k:Int)<(N:Int):=by omega
   obtain ⟨b,ap,e,ab⟩:=HA.1 (oA HN.out);subst e;obtain ⟨s,hs⟩:∃ s,S[k]?=some s:=⟨S[k]'(oA HN.out),ZZe _⟩;obtain ⟨x0,x1⟩:=QbJ (ab k s hs) HI.b;have HS:=Qaa hs;have ax:IntKind.i64.wrap ((k:Int)+1)=((k+1:Nat):Int):=by rw [show (k:Int)+1=((k+1:Nat):Int) by omega];exact ZZi _ ⟨by omega,by omega⟩
   have ar:w.heap.size<=wr.heap.size:=HI.b.size;have NL:=Qaa (Qtv HN hk);obtain ⟨T,hT⟩:∃ T,(S.take k).map Sd.nm=T:=⟨_,rfl⟩;have OW:=HI.o;rw [hT] at OW NL;unfold OwnT at OW;rw [NL.out] at OW;have ad:=Qaa OW;have ah:=Qaa hT;clear ab hs hT OW;go_wp2_with (at_builtin;refine wpList_append_own _ rfl _ _ 75 rfl w.heap.size 9 i0 (.string ByteArray.empty) 1 16 underlying75 hi an ai ak rfl oF _ _ _ rfl (World.ownsRow.alloc ad _) ⟨wr.heap.size,0,none⟩ 1 1 [.string s.nm] rfl rfl ?c1 ?c2 ?c3 ?c4 ?c5 ?_)
   case c1=>exact QqQ
   case c2=>intro v hv;simp at hv;subst hv;rfl
   case c3=>unfold maxLen;omega
   case c4=>omega
   case c5=>simp;omega
   intro v' w1 ac aa _;have al:Bw wr (wr.alloc (.cells #[.string s.nm] 9)):=bAA;have am:=Qaa (HI.step HN HS al (by rw [ah.out];exact ac) aa)
   have aj:Hid (w1.heap[w.heap.size]?=some (.cells (Qae (.slice (some ⟨b,ap,none⟩) N ca) p) 25 (0,0))):=by
    have r1:=(al.block w.heap.size (ZZc.1 HR).1).trans HR;refine Qaa ((aa.block _ (ZZc.1 r1).1 (fun e=>?_)).trans r1);rcases ad.2 with ⟨q,_⟩ | ⟨g,aw,au,q,_,q2,_⟩
    ·rw [q] at e;cases e
    ·rw [q] at e
     obtain rfl:w.heap.size=g:=Option.some.inj e;rw [HR.out] at q2;injection q2 with q2;injection q2 with _ q3 _;exact absurd q3 oF
   clear ac aa ad al r0 x0 x1;go_wp2;go_roundw
   case rel=>exact ⟨k+1,by omega,by first | rfl | go_num,am,aj⟩
   case measure=>simp [zI];omega
  ·have af:¬ (k:Int)<(N:Int):=by omega
   exact mCd
def Qjy (L:List Ce) (win:Int):Nat:=L.countP (fun c=>decide (c.n=win))
variable {c:Ce}
variable {win:Int}
theorem QjH {L:List Ce} (h:L[k]?=some c):Qjy (L.take (k+1)) win=Qjy (L.take k) win+if c.n=win then 1 else 0:=by
 unfold Qjy;rw [List.take_add_one,h,List.countP_append];by_cases q:c.n=win <;> simp [q]
theorem QgB {L:List Ce} (win:Int) (hN:L.length=N) (lN:N<=1048576) (hA:QbG w ao L) :
  Calls prog 36 #[.slice ao N ca,.int .i64 win] w fun e w'=>e=.returned (.int .i64 (Qjy L win))/\w'=w:=by
 have HN:=Qaa hN;have HA:=Qaa hA;clear hN hA;go_enter func36,ntmps36;go_wp2
 go_loopw [5,6] (fun m i wr=>Hid (wr=w)/\∃ (k q:Nat),k<=N/\q<=k/\i=.int .i64 k/\m=.int .i64 q/\Hid (q=Qjy (L.take k) win)) (fun m i wr=>N - (Go.RowKit.intOf i).toNat)
 case atStart=>exact ⟨Qaa rfl,0,0,Nat.zero_le _,Nat.le_refl _,rfl,rfl,Qaa (by simp [Qjy])⟩
 case round=>
  obtain ⟨HE,k,q,hk,hq,rfl,rfl,HQ⟩:=hrel;obtain rfl:=HE.out;clear HE;by_cases ad:k<N
  ·have ac:(k:Int)<(N:Int):=by omega
   obtain ⟨b,ag,e,aa⟩:=HA.1 (oA HN.out);subst e;obtain ⟨c,hc⟩:∃ c,L[k]?=some c:=⟨L[k]'(oA HN.out),ZZe _⟩;obtain ⟨x0,_⟩:=aa k c hc;have HC:=Qaa hc;have af:IntKind.i64.wrap ((k:Int)+1)=((k+1:Nat):Int):=by rw [show (k:Int)+1=((k+1:Nat):Int) by omega];exact ZZi _ ⟨by omega,by omega⟩
   have ae:IntKind.i64.wrap ((q:Int)+1)=((q+1:Nat):Int):=by rw [show (q:Int)+1=((q+1:Nat):Int) by omega];exact ZZi _ ⟨by omega,by omega⟩
   clear aa hc;by_cases hw:c.n=win
   ·have bw:(c.n == win)=true:=by simp [hw]
    have ab:Hid (q+1=Qjy (L.take (k+1)) win):=by rw [QjH HC.out,if_pos hw,<- HQ.out];exact Qaa rfl
    clear hw;go_wp2;go_roundw
    case rel=>exact ⟨Qaa (by first | trivial | rfl),k+1,q+1,by omega,by omega,by first | rfl | go_num,by first | rfl | go_num,ab⟩
    case measure=>simp [zI];omega
   ·have bw:(c.n == win)=false:=ZZf.2 hw
    have ab:Hid (q=Qjy (L.take (k+1)) win):=by rw [QjH HC.out,if_neg hw,<- HQ.out];exact Qaa rfl
    clear hw;go_wp2;go_roundw
    case rel=>exact ⟨Qaa (by first | trivial | rfl),k+1,q,by omega,by omega,by first | rfl | go_num,rfl,ab⟩
    case measure=>simp [zI];omega
  ·have ac:¬ (k:Int)<(N:Int):=by omega
   have HF:Hid (q=Qjy L win):=by
    have h1:=HQ.out;rw [List.take_of_length_le (oA HN.out)] at h1;exact Qaa h1
   go_wp2;go_ret;exact ⟨by rw [<- HF.out];rfl,rfl⟩
def fcS (S:List Sd):List (ByteArray×Ce):=S.flatMap (fun s=>s.L.map (fun c=>(s.nm,c)))
def QhH (D:List (ByteArray×Ce)) (win:Int):Nat:=D.countP (fun x=>decide (x.2.n=win))
variable {x:ByteArray×Ce}
theorem QgI {D:List (ByteArray×Ce)} (h:D[k]?=some x):QhH (D.take (k+1)) win=QhH (D.take k) win+if x.2.n=win then 1 else 0:=by
 unfold QhH;rw [List.take_add_one,h,List.countP_append];by_cases q:x.2.n=win <;> simp [q]
theorem Qq7 (D:List (ByteArray×Ce)) (k:Nat) (win:Int):QhH (D.take k) win<=QhH D win:=(List.take_sublist k D).countP_le
structure PlP (D:List (ByteArray×Ce)) (cl:Int) (own:ByteArray->ByteArray->Prop):Prop where
 l:D.length<=60
 c:∀ win,QhH D win<=20
 p:∀ x∈D,cl<=x.2.n/\own x.2.s x.1
section
variable {D:List (ByteArray×Ce)} {cl:Int} {own:ByteArray->ByteArray->Prop}
theorem PlP.nil:PlP [] cl own:=⟨by simp,by simp [QhH],by simp⟩
theorem PlP.step (h:PlP (D.take k) cl own) (hx:D[k]?=some x) (h1:k+1<=60) (h2:QhH (D.take (k+1)) x.2.n<=20) (h3:cl<=x.2.n) (h4:own x.2.s x.1):PlP (D.take (k+1)) cl own:=by
 refine ⟨by rw [List.length_take];omega,fun win=>?_,fun y hy=>?_⟩
 ·by_cases q:x.2.n=win
  ·rw [<- q];exact h2
  ·rw [QgI hx,if_neg q];exact h.c win
 ·rw [List.take_add_one,hx] at hy
  rcases List.mem_append.1 hy with hy | hy
  ·exact h.p y hy
  ·simp at hy
   subst hy;exact ⟨h3,h4⟩
theorem PlP.at (h:PlP D cl own) (hx:D[k]?=some x):k+1<=60/\QhH (D.take (k+1)) x.2.n<=20/\cl<=x.2.n/\own x.2.s x.1:=by
 have hk:=(ZZd.1 hx).1;have hl:=h.l;exact ⟨by omega,Nat.le_trans (Qq7 D _ _) (h.c _),h.p x (ZZn hx)⟩
end
theorem Qq4 (A B:List Sd):fcS (A ++ B)=fcS A ++ fcS B:=by simp [fcS]
theorem QiT (s:Sd) (B:List Sd):fcS (s :: B)=s.L.map (fun c=>(s.nm,c)) ++ fcS B:=by simp [fcS]
theorem QtB {i:Nat} (hs:S[i]?=some s) (hc:s.L[j]?=some c):(fcS S)[(fcS (S.take i)).length+j]?=some (s.nm,c):=by
 have hi:=(ZZd.1 hs).1;have hj:=(ZZd.1 hc).1
 have e:S=S.take i ++ s :: S.drop (i+1):=by
  have h1:=(List.take_append_drop i S).symm;rw [List.drop_eq_getElem_cons hi,(List.getElem?_eq_some_iff.1 hs).2] at h1;exact h1
 have q:(fcS S)[(fcS (S.take i)).length+j]?=(fcS (S.take i) ++ (s.L.map (fun c=>(s.nm,c)) ++ fcS (S.drop (i+1))))[(fcS (S.take i)).length+j]?:=by
  rw [<- QiT,<- Qq4,<- e]
 rw [q,List.getElem?_append_right oB,Nat.add_sub_cancel_left,List.getElem?_append_left (by simpa using hj),List.getElem?_map,hc]
 rfl
end Go.Proofs.YtioohanfodmddaaGreatDoor
