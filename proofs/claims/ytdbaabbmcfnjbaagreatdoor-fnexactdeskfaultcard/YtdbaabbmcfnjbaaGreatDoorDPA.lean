/-
 Parts.
-/
import Derived.Test.YtdbaabbmcfnjbaaGreatDoorDCF
set_option maxHeartbeats 4000000
set_option linter.all false
namespace Go.Proofs.YtdbaabbmcfnjbaaGreatDoor
open Go.ChangeShapes Go.WideShapes Go.ChangeAt Go.RowKit Go.PlainAid Tryz
set_option maxRecDepth 10000
structure Sd where
 nm:ByteArray
 L:List Ce
 ao:Option Addr
 cp:Nat
abbrev QeJ (s:Sd):Array Value:=#[.string s.nm,.slice s.ao s.L.length s.cp]
def Sd.key (s:Sd):ByteArray×List (Int×ByteArray×Ag):=(s.nm,s.L.map Ce.key)
abbrev Qex (w:World) (b o:Nat) (s:Sd):Prop:=w.cell? ⟨b,o,none⟩=some (.string s.nm)/\w.cell? ⟨b,o+1,none⟩=some (.slice s.ao s.L.length s.cp)
def QkP (w:World) (ao:Option Addr) (S:List Sd):Prop:=(0<S.length->∃ b off,ao=some ⟨b,off,none⟩/\∀ i s,S[i]?=some s->Qex w b (off+i*2) s)/\∀ s∈S,Qcl w s.ao s.L
variable {W w w':World}
variable {s:Sd}
theorem QcQ {b o:Nat} (k:Qex w b o s) (hb:Below w.heap.size w w'):Qex w' b o s:=⟨Qab hb k.1,Qab hb k.2⟩
variable {ao:Option Addr}
variable {S:List Sd}
theorem Qbd (h:QkP w ao S) (hb:Below w.heap.size w w'):QkP w' ao S:=
 ⟨fun h0=>by
  obtain ⟨b,off,e,hc⟩:=h.1 h0;exact ⟨b,off,e,fun i s hx=>QcQ (hc i s hx) hb⟩,fun s hs=>Qa6 (h.2 s hs) hb⟩
structure SdsLen (S:List Sd):Prop where
 n:S.length<=maxLen
 s:∀ s∈S,s.nm.size<=maxLen
 l:∀ s∈S,CesLen s.L
structure SdsSm (S:List Sd):Prop where
 n:S.length<=1048576
 l:∀ s∈S,s.L.length<=1048576
 sm:∀ s∈S,∀ c∈s.L,AgSm c.g
 nz:∀ s∈S,s.nm.size<=1048576
theorem Qcx {t:Sd} (h:s.key=t.key):s.nm=t.nm/\s.L.map Ce.key=t.L.map Ce.key/\s.L.length=t.L.length:=by
 have h1:s.nm=t.nm:=congrArg Prod.fst h;have h2:s.L.map Ce.key=t.L.map Ce.key:=congrArg Prod.snd h;have h3:=congrArg List.length h2;simp only [List.length_map] at h3;exact ⟨h1,h2,h3⟩
theorem infoSd:(prog.info? 60).map (fun i=>(i.zero,i.size,i.bytes))=some (some (.agg #[.string ByteArray.empty,.slice none 0 0]),2,40):=by kernel_rfl
structure Pi where
 a:Int
 b:Int
 c:Int
 d:Int
abbrev Qam (v:Value) (p:Pi):Array Value:=#[v,.int .i64 p.a,.int .i64 p.b,.int .i64 p.c,.int .i64 p.d]
structure SdRow (w:World) (g N:Nat) (M:List Sd):Prop where
 row:∃ cur:Array Value,w.heap[g]?=some (.cells cur 60 (0,0))/\N*2<=cur.size/\∀ i c,M[i]?=some c->∀ j v,(QeJ c)[j]?=some v->cur[i*2+j]?=some v
 m:∀ s∈M,∃ h,s.ao=some ⟨h,0,none⟩/\g<h/\CeRow w h s.L.length s.L
abbrev QbW:Array Value:=#[.slice none 0 0,.int .i64 0,.int .i64 0,.int .i64 0,.int .i64 0]
variable {v:Value}
theorem Qei {r:Nat} {cs:Array Value} {T:TypeId} (h:w.heap[r]?=some (.cells cs T (0,0))) (j:Nat) (e:cs[j]?=some v):w.cell? ⟨r,j,none⟩=some v:=by rw [cell_of_row _ _ j _ _ (0,0) h];exact e
def okB (L:List ByteArray) (k:Nat):Bool:=
 match L[k]? with
 | none=>true
 | some u=>QaK u && (match k with
  | 0=>true
  | j+1=>match L[j]? with
   | some p=>Qaz p u
   | none=>true)
variable {L:List ByteArray}
variable {u:ByteArray}
theorem okB_0 (h:L[0]?=some u):okB L 0=QaK u:=by unfold okB;rw [h];simp
variable {N ca j k:Nat}
theorem QtE {p:ByteArray} (hp:L[j]?=some p) (h:L[j+1]?=some u):okB L (j+1)=(QaK u && Qaz p u):=by unfold okB;rw [h];simp only [hp]
theorem okB_n (h:L[k]?=some u) (hn:QaK u=false):okB L k=false:=by unfold okB;rw [h];simp [hn]
def QdH (L:List ByteArray):Nat->Bool
 | 0=>true
 | k+1=>QdH L k && okB L k
def Qaj (L:List ByteArray):Bool:=decide (1<=L.length) && decide (L.length<=12) && QdH L L.length
theorem Qkf {L:List ByteArray} {k:Nat} (h:okB L k=false):∀ n,k<n->QdH L n=false
 | 0,hk=>by omega
 | n+1,hk=>by
  unfold QdH;by_cases e:k=n
  ·subst e;rw [h];simp
  ·rw [Qkf h n (by omega)];simp
theorem QrF:∀ n,k<n->QdH L n=true->okB L k=true
 | n,hk,h=>by
  cases e:okB L k with
  | true=>rfl
  | false=>rw [Qkf e n hk] at h;cases h
theorem Qsf (h:okB L k=false) (hk:k<L.length):Qaj L=false:=by unfold Qaj;rw [Qkf h _ hk];simp
theorem QsJ (h1:¬ L.length<1) (h2:¬ 12<L.length) (h:QdH L L.length=true):Qaj L=true:=by
 unfold Qaj;rw [h,decide_eq_true (show 1<=L.length by omega),decide_eq_true (show L.length<=12 by omega)];rfl
theorem memb_1 (h1:L.length<1):Qaj L=false:=by
 unfold Qaj;rw [decide_eq_false (show ¬ 1<=L.length by omega)];rfl
theorem memb_2 (h1:12<L.length):Qaj L=false:=by
 unfold Qaj;rw [decide_eq_false (show ¬ L.length<=12 by omega)];simp
theorem QcV (cap:Nat) (hl:L.length<=1048576) (hu:∀ u∈L,u.size<=1048576) (hA:Qaw w ao L) :
  Calls prog 17 #[.slice ao L.length cap] w fun e w'=>e=.returned (.bool (Qaj L))/\Below w.heap.size w w':=by
 obtain ⟨N,hN⟩:∃ N,L.length=N:=⟨_,rfl⟩;have HN:Hid (L.length=N):=hN;have ar:=Qsa 9;rw [hN] at hl;rw [hN];by_cases h1:N<1
 ·have HM:Hid (Qaj L=false):=memb_1 (by omega)
  have hi:((N:Int)<1):=by omega
  clear hN hA hu;go_enter func17,ntmps17;go_wp2;go_ret;exact ⟨QaW HM.out.symm,ZZb _ _⟩
 ·have hi:¬ ((N:Int)<1):=by omega
  by_cases h2:12<N
  ·have HM:Hid (Qaj L=false):=memb_2 (by omega)
   have hj:(12:Int)<(N:Int):=by omega
   clear hN hA hu;go_enter func17,ntmps17;go_wp2;go_ret;exact ⟨QaW HM.out.symm,ZZb _ _⟩
  ·have hj:¬ (12:Int)<(N:Int):=by omega
   clear hN;go_enter func17,ntmps17;go_wp2
   go_loopw [3] (fun i wr=>Below w.heap.size w wr/\∃ k:Nat,k<=N/\i=.int .i64 k/\QdH L k=true) (fun i wr=>N - (Go.RowKit.intOf i).toNat)
   case atStart=>exact ⟨ZZb _ _,0,ZZj _,rfl,rfl⟩
   case round=>
    obtain ⟨aa,k,hk,rfl,ad⟩:=hrel;have HA:Hid (QdH L k=true):=ad;clear ad;by_cases an:k<N
    ·obtain ⟨b,aj,rfl,ab⟩:=hA (by have:=HN.out;omega)
     obtain ⟨u,ac⟩:∃ u,L[k]?=some u:=⟨L[k]'(by have:=HN.out;omega),ZZe _⟩;have hc:=Qab aa (ab k u ac);have af:k=0->wr.cell? ⟨b,aj,none⟩=some (.string u):=fun e=>by rw [e,Nat.add_zero] at hc;exact hc
     have al:=hu u (ZZn ac);have ae:u.size<=maxLen:=by unfold maxLen;omega
     have HB:Hid (Below w.heap.size w wr):=aa;have HU:Hid (L[k]?=some u):=ac
     cases hn:QaK u
     ·have ah:k=0∨0<k:=by omega
      have HM:Hid (Qaj L=false):=Qsf (okB_n ac hn) (by have:=HN.out;omega);clear ac aa hu ab hA af ah;go_wp2
      go_quiet (first | (go_at_call 49;refine Calls.quiet_of_same (QaL _ _ ae)))
      go_wp2;go_ret;exact ⟨QaW HM.out.symm,Qar HB _⟩
     ·rcases Nat.eq_zero_or_pos k with rfl | ak
      ·have af:=af rfl
       have HO:Hid (QdH L (0+1)=true):=(by unfold QdH;rw [HA.out,okB_0 ac,hn];rfl:QdH L (0+1)=true);clear ac aa hu ab hA;go_wp2
       go_quiet (first | (go_at_call 49;refine Calls.quiet_of_same (QaL _ _ ae)))
       go_wp2;go_roundw
       case rel=>exact ⟨Qar HB _,0+1,by omega,by go_num,HO⟩
       case measure=>simp [zI];omega
      ·obtain ⟨j,ai⟩:∃ j,j+1=k:=⟨k - 1,by omega⟩
       obtain ⟨p,ag⟩:∃ p,L[j]?=some p:=⟨L[j]'(by have:=HN.out;omega),ZZe _⟩;have ap:=Qab aa (ab j p ag);have ek:((k:Int) - 1)=(j:Int):=by omega
       have ew:IntKind.i64.wrap (j:Int)=j:=ZZi _ ⟨by omega,by omega⟩;have am:(0:Int)<(k:Int):=by omega
       have aq:j<N:=by omega
       have HK:Hid (okB L k=(QaK u && Qaz p u)):=by rw [<- ai] at ac ⊢; exact QtE ag ac
       clear ai ac aa hu ab ag hA af
       cases hlt:Qaz p u
       ·have HM:Hid (Qaj L=false):=Qsf (by rw [HK.out,hlt];simp) (by have:=HN.out;omega)
        go_wp2
        go_quiet (first | (go_at_call 49;refine Calls.quiet_of_same (QaL _ _ ae)))
        go_wp2;go_ret;exact ⟨QaW HM.out.symm,Qar HB _⟩
       ·have HO:Hid (QdH L (k+1)=true):=(by unfold QdH;rw [HA.out,HK.out,hn,hlt];rfl:QdH L (k+1)=true)
        go_wp2
        go_quiet (first | (go_at_call 49;refine Calls.quiet_of_same (QaL _ _ ae)))
        go_wp2;go_roundw
        case rel=>exact ⟨Qar HB _,k+1,by omega,by go_num,HO⟩
        case measure=>simp [zI];omega
    ·have e:k=N:=by omega
     have HM:Hid (Qaj L=true):=by
      have hN:=HN.out;refine QsJ (by omega) (by omega) ?_;rw [hN,<- e];exact HA.out
     have HB:Hid (Below w.heap.size w wr):=aa;clear e aa hA hu;go_wp2;go_ret;exact ⟨QaW HM.out.symm,HB⟩
structure NmI (w wr:World) (S:List Sd) (k:Nat) (v:Value):Prop where
 o:OwnT wr w.heap.size v ((S.take k).map Sd.nm)
 b:Below w.heap.size w wr
theorem QtH (h:S[k]?=some s):(S.take (k+1)).map Sd.nm=(S.take k).map Sd.nm ++ [s.nm]:=by rw [List.take_add_one,h,List.map_append];rfl
theorem nm_len (h:S.length=N) (hk:k<=N):((S.take k).map Sd.nm).length=k:=by rw [List.length_map,List.length_take,h];omega
theorem QoN {t:TypeId} (j:Nat) (v:Value) (hj:[Value.string u][j]?=some v):(W.alloc (.cells #[.string u] t)).cell? ((⟨W.heap.size,0,none⟩:Addr).add j)=some v:=by
 have hb:(W.alloc (.cells #[.string u] t)).heap[W.heap.size]?=some (.cells #[.string u] t (0,0)):=ZZk W _;rw [Addr.add_lit,Nat.zero_add,cell_of_row _ W.heap.size j _ _ (0,0) hb]
 simpa using hj
theorem NmI.step {wr w1:World} {v':Value} (h:NmI w wr S k v) (hN:S.length=N) (hs:S[k]?=some s) (hb:Below wr.heap.size wr W) (hown:w1.ownsRow w.heap.size 9 1 v' (k+1) (((S.take k).map Sd.nm).map Value.string ++ [.string s.nm])) (hg:W.grownBy w1 v.ownBlock):NmI w w1 S (k+1) v':=by
 have hk:k<S.length:=(ZZd.1 hs).1;refine ⟨?_,?_⟩
 ·refine OwnT.of hown ?_
  rw [QtH hs,List.map_append];rfl
 ·have b1:=Qac h.b hb
  exact b1.grown hg b1.size (fun j hj=>(World.ownsRow.lt h.o j hj).1)
noncomputable def QeB (S:List Sd):Bool:=Qaj (S.map Sd.nm) && S.all (fun s=>shB s.nm s.L)
variable {f:Sd->Bool}
theorem Qre (h:S[k]?=some s) (q:(S.take k).all f=true) (hs:f s=true):(S.take (k+1)).all f=true:=by
 rw [List.take_add_one,h,List.all_append,q];simp [hs]
theorem Qrn (h:S[k]?=some s) (hs:f s=false):S.all f=false:=by
 cases q:S.all f with
 | false=>rfl
 | true=>
  have:=(List.all_eq_true.1 q) s (ZZn h);rw [hs] at this;cases this
theorem QbR (p:Pi) (hN:S.length=N) (lN:N<=1048576) (hA:QkP w ao S) :
  Calls prog 32 #[.agg (Qam (.slice ao N ca) p)] w fun e w'=>∃ bo c,e=.returned (.slice bo N c)/\OwnT w' w.heap.size (.slice bo N c) (S.map Sd.nm)/\Below w.heap.size w w':=by
 obtain ⟨i0,hi,ai,ak,an⟩:=info_parts QkR;have HN:=Qaa hN;have HA:=Qaa hA;have a1:∀ (W:World) o,Below W.heap.size W (W.alloc o):=fun W o=>(ZZb _ _).alloc (ZZa _) _;have hz:(w.alloc (.cells (Qam (.slice ao N ca) p) 35)).heap.size=w.heap.size+1:=by simp
 have HR:=Qaa (((a1 (w.alloc (.cells (Qam (.slice ao N ca) p) 35)) (.cells #[] 9)).block w.heap.size (by rw [hz];omega)).trans (heap_alloc_new w (.cells (Qam (.slice ao N ca) p) 35)));have ag:=Qaa (Qac (a1 w (.cells (Qam (.slice ao N ca) p) 35)) (a1 _ (.cells #[] 9)))
 have ad:Hid (NmI w ((w.alloc (.cells (Qam (.slice ao N ca) p) 35)).alloc (.cells #[] 9)) S 0 (.slice (some ⟨w.heap.size+1,0,none⟩) 0 0)):=by
  refine Qaa ⟨?_,ag⟩;have q:=World.ownsRow_made (base:=w.heap.size) (e:=9) (size:=1) (w.alloc (.cells (Qam (.slice ao N ca) p) 35)) #[] 0 (by rw [hz];omega) (Nat.zero_le _) rfl;rw [hz] at q;exact q
 clear hN hA a1 hz;go_enter func32,ntmps32;go_upto_region 2 with fail;generalize (w.alloc (.cells (Qam (.slice ao N ca) p) 35)).alloc (.cells #[] 9)=W0 at HR ag ad ⊢;have ar:Hid (w.heap.size<W0.heap.size):=(ZZc.1 HR).1;go_wp2
 go_loopw [3,4] (fun v i wr=>∃ (k:Nat),k<=N/\i=.int .i64 k/\Hid (NmI w wr S k v)/\Hid (wr.heap[w.heap.size]?=some (.cells (Qam (.slice ao N ca) p) 35 (0,0)))) (fun v i wr=>N - (Go.RowKit.intOf i).toNat)
 case atStart=>exact ⟨0,ZZj _,rfl,ad,HR⟩
 case round=>
  clear ad HR ag;obtain ⟨k,hk,rfl,HI,HR⟩:=hrel;have r0:=Qei HR 0 rfl;by_cases ax:k<N
  ·have ae:(k:Int)<(N:Int):=by omega
   obtain ⟨b,am,e,ab⟩:=HA.out.1 (by have:=HN.out;omega);subst e;obtain ⟨s,hs⟩:∃ s,S[k]?=some s:=⟨S[k]'(by have:=HN.out;omega),ZZe _⟩;obtain ⟨x0,x1⟩:=QcQ (ab k s hs) HI.out.b;have HS:=Qaa hs;have au:IntKind.i64.wrap ((k:Int)+1)=((k+1:Nat):Int):=by rw [show (k:Int)+1=((k+1:Nat):Int) by omega];exact ZZi _ ⟨by omega,by omega⟩
   have av:w.heap.size<=wr.heap.size:=HI.out.b.size;have NL:=Qaa (nm_len HN hk);obtain ⟨T,hT⟩:∃ T,(S.take k).map Sd.nm=T:=⟨_,rfl⟩;have OW:=HI.out.o;rw [hT] at OW NL;unfold OwnT at OW;rw [NL.out] at OW;have af:=Qaa OW;have ap:=Qaa hT;clear ab hs hT OW;go_wp2_with (at_builtin;refine wpList_append_own _ rfl _ _ 30 rfl w.heap.size 9 i0 (.string ByteArray.empty) 1 16 underlying30 hi ai ak an rfl (by decide) _ _ _ rfl (World.ownsRow.alloc af _) ⟨wr.heap.size,0,none⟩ 1 1 [.string s.nm] rfl rfl ?c1 ?c2 ?c3 ?c4 ?c5 ?_)
   case c1=>exact QoN
   case c2=>intro v hv;simp at hv;subst hv;rfl
   case c3=>unfold maxLen;omega
   case c4=>omega
   case c5=>simp;omega
   intro v' w1 ac aa _;have al:Below wr.heap.size wr (wr.alloc (.cells #[.string s.nm] 9)):=(ZZb _ _).alloc (ZZa _) _;have ah:=Qaa (HI.out.step HN HS al (by rw [ap.out];exact ac) aa)
   have aj:Hid (w1.heap[w.heap.size]?=some (.cells (Qam (.slice (some ⟨b,am,none⟩) N ca) p) 35 (0,0))):=by
    have r1:=(al.block w.heap.size (ZZc.1 HR).1).trans HR;refine Qaa ((aa.block _ (ZZc.1 r1).1 (fun e=>?_)).trans r1);rcases af.out.2 with ⟨q,_⟩ | ⟨g,aq,aw,q,_,q2,_⟩
    ·rw [q] at e;cases e
    ·rw [q] at e
     obtain rfl:w.heap.size=g:=Option.some.inj e;rw [HR.out] at q2;injection q2 with q2;injection q2 with _ q3 _;exact absurd q3 (by decide)
   clear ac aa af al r0 x0 x1;go_wp2;go_roundw
   case rel=>exact ⟨k+1,by omega,by first | rfl | go_num,ah,aj⟩
   case measure=>simp [zI];omega
  ·have ae:¬ (k:Int)<(N:Int):=by omega
   have ho:=HI.out.o;rw [List.take_of_length_le (by have:=HN.out;omega)] at ho;obtain ⟨bo,c,e⟩:=Qfo ho;rw [List.length_map,HN.out] at e;subst e;have HO:=Qaa ho;clear ho;go_wp2;go_ret;exact ⟨bo,c,rfl,HO,HI.out.b⟩
def Qe1 (L:List Ce) (win:Int):Nat:=L.countP (fun c=>decide (c.n=win))
variable {c:Ce}
theorem Qjb {L:List Ce} {win:Int} (h:L[k]?=some c):Qe1 (L.take (k+1)) win=Qe1 (L.take k) win+if c.n=win then 1 else 0:=by
 unfold Qe1;rw [List.take_add_one,h,List.countP_append];by_cases q:c.n=win <;> simp [q]
theorem Qgs {L:List Ce} (win:Int) (hN:L.length=N) (lN:N<=1048576) (hA:Qcl w ao L) :
  Calls prog 55 #[.slice ao N ca,.int .i64 win] w fun e w'=>e=.returned (.int .i64 (Qe1 L win))/\w'=w:=by
 have HN:=Qaa hN;have HA:=Qaa hA;clear hN hA;go_enter func55,ntmps55;go_wp2
 go_loopw [5,6] (fun m i wr=>Hid (wr=w)/\∃ (k q:Nat),k<=N/\q<=k/\i=.int .i64 k/\m=.int .i64 q/\Hid (q=Qe1 (L.take k) win)) (fun m i wr=>N - (Go.RowKit.intOf i).toNat)
 case atStart=>exact ⟨Qaa rfl,0,0,Nat.zero_le _,Nat.le_refl _,rfl,rfl,Qaa (by simp [Qe1])⟩
 case round=>
  obtain ⟨HE,k,q,hk,hq,rfl,rfl,HQ⟩:=hrel;obtain rfl:=HE.out;clear HE;by_cases ae:k<N
  ·have ab:(k:Int)<(N:Int):=by omega
   obtain ⟨b,af,e,aa⟩:=HA.out.1 (by have:=HN.out;omega);subst e;obtain ⟨c,hc⟩:∃ c,L[k]?=some c:=⟨L[k]'(by have:=HN.out;omega),ZZe _⟩;obtain ⟨x0,_⟩:=aa k c hc;have HC:=Qaa hc;have ag:IntKind.i64.wrap ((k:Int)+1)=((k+1:Nat):Int):=by rw [show (k:Int)+1=((k+1:Nat):Int) by omega];exact ZZi _ ⟨by omega,by omega⟩
   have ad:IntKind.i64.wrap ((q:Int)+1)=((q+1:Nat):Int):=by rw [show (q:Int)+1=((q+1:Nat):Int) by omega];exact ZZi _ ⟨by omega,by omega⟩
   clear aa hc;by_cases hw:c.n=win
   ·have bw:(c.n == win)=true:=by simp [hw]
    have ac:Hid (q+1=Qe1 (L.take (k+1)) win):=by rw [Qjb HC.out,if_pos hw,<- HQ.out];exact Qaa rfl
    clear hw;go_wp2;go_roundw
    case rel=>exact ⟨Qaa (by first | trivial | rfl),k+1,q+1,by omega,by omega,by first | rfl | go_num,by first | rfl | go_num,ac⟩
    case measure=>simp [zI];omega
   ·have bw:(c.n == win)=false:=ZZf.2 hw
    have ac:Hid (q=Qe1 (L.take (k+1)) win):=by rw [Qjb HC.out,if_neg hw,<- HQ.out];exact Qaa rfl
    clear hw;go_wp2;go_roundw
    case rel=>exact ⟨Qaa (by first | trivial | rfl),k+1,q,by omega,by omega,by first | rfl | go_num,rfl,ac⟩
    case measure=>simp [zI];omega
  ·have ab:¬ (k:Int)<(N:Int):=by omega
   have HF:Hid (q=Qe1 L win):=by
    have h1:=HQ.out;rw [List.take_of_length_le (by have:=HN.out;omega)] at h1;exact Qaa h1
   go_wp2;go_ret;exact ⟨by rw [<- HF.out];rfl,rfl⟩
def fcS (S:List Sd):List (ByteArray×Ce):=S.flatMap (fun s=>s.L.map (fun c=>(s.nm,c)))
def Qg0 (D:List (ByteArray×Ce)) (win:Int):Nat:=D.countP (fun x=>decide (x.2.n=win))
theorem Qpl (D:List (ByteArray×Ce)) (k:Nat) (win:Int):Qg0 (D.take k) win<=Qg0 D win:=(List.take_sublist k D).countP_le
structure PlP (D:List (ByteArray×Ce)) (cl:Int) (own:ByteArray->ByteArray->Prop):Prop where
 l:D.length<=60
 c:∀ win,Qg0 D win<=20
 p:∀ x∈D,cl<=x.2.n/\own x.2.s x.1
section
variable {D:List (ByteArray×Ce)} {cl:Int} {own:ByteArray->ByteArray->Prop}
theorem PlP.nil:PlP [] cl own:=⟨by simp,by simp [Qg0],by simp⟩
theorem PlP.at {x:ByteArray×Ce} (h:PlP D cl own) (hx:D[k]?=some x):k+1<=60/\Qg0 (D.take (k+1)) x.2.n<=20/\cl<=x.2.n/\own x.2.s x.1:=by
 have hk:=(ZZd.1 hx).1;have hl:=h.l;exact ⟨by omega,Nat.le_trans (Qpl D _ _) (h.c _),h.p x (ZZn hx)⟩
end
theorem Qh9 (A B:List Sd):fcS (A ++ B)=fcS A ++ fcS B:=by simp [fcS]
theorem Qd9 (s:Sd) (B:List Sd):fcS (s :: B)=s.L.map (fun c=>(s.nm,c)) ++ fcS B:=by simp [fcS]
theorem fcS_at {i:Nat} (hs:S[i]?=some s) (hc:s.L[j]?=some c):(fcS S)[(fcS (S.take i)).length+j]?=some (s.nm,c):=by
 have hi:=(ZZd.1 hs).1;have hj:=(ZZd.1 hc).1
 have e:S=S.take i ++ s :: S.drop (i+1):=by
  have h1:=(List.take_append_drop i S).symm;rw [List.drop_eq_getElem_cons hi,(List.getElem?_eq_some_iff.1 hs).2] at h1;exact h1
 have q:(fcS S)[(fcS (S.take i)).length+j]?=(fcS (S.take i) ++ (s.L.map (fun c=>(s.nm,c)) ++ fcS (S.drop (i+1))))[(fcS (S.take i)).length+j]?:=by
  rw [<- Qd9,<- Qh9,<- e]
 rw [q,List.getElem?_append_right (by omega),Nat.add_sub_cancel_left,List.getElem?_append_left (by simpa using hj),List.getElem?_map,hc]
 rfl
end Go.Proofs.YtdbaabbmcfnjbaaGreatDoor
