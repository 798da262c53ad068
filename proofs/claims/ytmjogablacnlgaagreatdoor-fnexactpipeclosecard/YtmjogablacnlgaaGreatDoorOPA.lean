/-
 Shards with their cells, one behind the other in memory; pipes: as the exact laws size, copy and compare them.
-/
import Derived.Test.YtmjogablacnlgaaGreatDoorOCF
namespace Go.Proofs.YtmjogablacnlgaaGreatDoor
set_option linter.unusedVariables false
set_option linter.unusedSimpArgs false
open Go.ChangeShapes Go.WideShapes Go.ChangeAt Go.RowKit Go.PlainAid
set_option maxRecDepth 10000
structure Sd where
 nm:ByteArray
 L:List Ce
 ao:Option Addr
 cp:Nat
abbrev sdArr (s:Sd):Array Value:=#[.string s.nm,.slice s.ao s.L.length s.cp]
def Sd.key (s:Sd):ByteArray×List (Int×ByteArray×Ag):=(s.nm,s.L.map Ce.key)
abbrev SdCell (w:World) (b o:Nat) (s:Sd):Prop:=w.cell? ⟨b,o,none⟩=some (.string s.nm)∧w.cell? ⟨b,o+1,none⟩=some (.slice s.ao s.L.length s.cp)
def SdsAt (w:World) (ao:Option Addr) (S:List Sd):Prop:=(0<S.length→∃ b off,ao=some ⟨b,off,none⟩∧∀ i s,S[i]?=some s→SdCell w b (off+i*2) s)∧∀ s∈S,CesAt w s.ao s.L
theorem sdc_past {w w':World} {b o:Nat} {s:Sd} (k:SdCell w b o s) (hb:Below w.heap.size w w'):SdCell w' b o s:=⟨cell_past hb k.1,cell_past hb k.2⟩
theorem sds_past {w w':World} {ao:Option Addr} {S:List Sd} (h:SdsAt w ao S) (hb:Below w.heap.size w w'):SdsAt w' ao S:=
 ⟨fun h0=>by
  obtain ⟨b,off,e,hc⟩:=h.1 h0;exact ⟨b,off,e,fun i s hx=>sdc_past (hc i s hx) hb⟩,fun s hs=>ces_past (h.2 s hs) hb⟩
structure SdsLen (S:List Sd):Prop where
 n:S.length≤maxLen
 s:∀ s∈S,s.nm.size≤maxLen
 l:∀ s∈S,CesLen s.L
structure SdsSm (S:List Sd):Prop where
 n:S.length≤1048576
 l:∀ s∈S,s.L.length≤1048576
 sm:∀ s∈S,∀ c∈s.L,AgSm c.g
 nz:∀ s∈S,s.nm.size≤1048576
theorem key_len {s t:Sd} (h:s.key=t.key):s.nm=t.nm∧s.L.map Ce.key=t.L.map Ce.key∧s.L.length=t.L.length:=by
 have h1:s.nm=t.nm:=congrArg Prod.fst h;have h2:s.L.map Ce.key=t.L.map Ce.key:=congrArg Prod.snd h;have h3:=congrArg List.length h2;simp only [List.length_map] at h3;exact ⟨h1,h2,h3⟩
theorem infoSd:(Tryz.prog.info? 55).map (fun i=>(i.zero,i.size,i.bytes))=some (some (.agg #[.string ByteArray.empty,.slice none 0 0]),2,40):=by kernel_rfl
structure Pi where
 a:Int
 b:Int
 c:Int
 d:Int
abbrev piArr (v:Value) (p:Pi):Array Value:=#[v,.int .i64 p.a,.int .i64 p.b,.int .i64 p.c,.int .i64 p.d]
structure SdRow (w:World) (g N:Nat) (M:List Sd):Prop where
 row:∃ cur:Array Value,w.heap[g]?=some (.cells cur 55 (0,0))∧N*2≤cur.size∧∀ i c,M[i]?=some c→∀ j v,(sdArr c)[j]?=some v→cur[i*2+j]?=some v
 m:∀ s∈M,∃ h,s.ao=some ⟨h,0,none⟩∧g<h∧CeRow w h s.L.length s.L
set_option maxHeartbeats 4000000 in
theorem c_eqShardS {w:World} {ao bo:Option Addr} {N ca cb:Nat} {S M:List Sd} (hN:S.length=N) (hM:M.length=N) (hk:S.map Sd.key=M.map Sd.key) (sm:SdsSm S) (hA:SdsAt w ao S) (hB:SdsAt w bo M) :
  Calls Tryz.prog 46 #[.slice ao N ca,.slice bo N cb] w fun e w'=>e=.returned (.bool true)∧Below w.heap.size w w':=by
 have HN:=hide hN;have HM:=hide hM;have HK:=hide hk;have HA:=hide hA;have HB':=hide hB;have SM:=hide sm;have hl:N≤1048576:=by have:=sm.n;omega
 clear hN hM hk hA hB sm;go_enter Tryz.func46,Tryz.ntmps46;go_wp2
 go_loopw [5] (fun i wr=>Below w.heap.size w wr∧∃ k:Nat,k≤N∧i=.int .i64 k) (fun i wr=>N - (Go.RowKit.intOf i).toNat)
 case atStart=>exact ⟨Below.refl _ _,0,Nat.zero_le _,rfl⟩
 case round=>
  obtain ⟨hbel,k,hk,rfl⟩:=hrel;have HB:=hide hbel;by_cases hkn:k<N
  ·have hkni:(k:Int)<(N:Int):=by omega
   obtain ⟨s,hs⟩:∃ s,S[k]?=some s:=⟨S[k]'(by have:=HN.out;omega),List.getElem?_eq_getElem _⟩;obtain ⟨t,ht⟩:∃ t,M[k]?=some t:=⟨M[k]'(by have:=HM.out;omega),List.getElem?_eq_getElem _⟩
   have hst:s.key=t.key:=by
    have h1:(S.map Sd.key)[k]?=some s.key:=by rw [List.getElem?_map,hs];rfl
    rw [HK.out,List.getElem?_map,ht] at h1
    simpa using h1.symm
   obtain ⟨e1,e2,e3⟩:=key_len hst;obtain ⟨b,off,e,hcell⟩:=HA.out.1 (by have:=HN.out;omega);subst e;obtain ⟨b',off',e,hcell'⟩:=HB'.out.1 (by have:=HM.out;omega);subst e;have hsm:=List.mem_of_getElem? hs;have htm:=List.mem_of_getElem? ht
   have FC:Hid (∀ W,Below wr.heap.size wr W→SdCell W b (off+k*2) s∧W.cell? ⟨b',off'+k*2,none⟩=some (.string s.nm)∧W.cell? ⟨b',off'+k*2+1,none⟩=some (.slice t.ao s.L.length t.cp)):=fun W hW=>by
    obtain ⟨q1,q2⟩:=sdc_past (hcell' k t ht) (chain hbel hW);rw [← e1] at q1;rw [← e3] at q2;exact ⟨sdc_past (hcell k s hs) (chain hbel hW),q1,q2⟩
   have CS:=hide (ces_past (HA.out.2 s hsm) hbel);have CT:=hide (ces_past (HB'.out.2 t htm) hbel);have LS:=hide (SM.out.l s hsm);have AS:=hide (SM.out.sm s hsm);have E2:=hide e2;have E3:=hide e3;clear hcell hcell' hs ht hst e1 e2 e3 hsm htm hbel;go_wp2_with fail;have HS0:Below wr.heap.size wr wr.drew:=(Below.refl _ _).drew;refine regionK (fun W=>Below wr.heap.size wr W) 99 (by kernel_rfl) ?_;refine tkS (i:=0) (v:=.slice (some ⟨b,off,none⟩) N ca) rfl rfl HS0 ?_;refine tkS (i:=1) (v:=.int .i64 k) rfl rfl HS0 ?_;refine tkS (i:=2) (v:=.pointer (some ⟨b,off+k*2,none⟩)) rfl rfl HS0 ?_;simp only [sA,sB,sC];refine tkL (i:=3) (v:=.agg #[.string s.nm,.slice s.ao s.L.length s.cp]) rfl rfl HS0 (fun W hW=>?_) ?_
   ·obtain ⟨⟨x0,x1⟩,y0,y1⟩:=FC.out W hW
    clear hW;go_simp
   refine tkS (i:=4) (v:=.slice (some ⟨b',off',none⟩) N cb) rfl rfl HS0 ?_;refine tkS (i:=5) (v:=.int .i64 k) rfl rfl HS0 ?_;simp only [sA,sB,sC];refine tkS (i:=6) (v:=.pointer (some ⟨b',off'+k*2,none⟩)) rfl rfl HS0 ?_;refine tkL (i:=7) (v:=.agg #[.string s.nm,.slice t.ao s.L.length t.cp]) rfl rfl HS0 (fun W hW=>?_) ?_
   ·obtain ⟨⟨x0,x1⟩,y0,y1⟩:=FC.out W hW
    clear hW;go_simp
   simp only [sA,sB,sC];refine onE (i:=8) rfl (fun K hK=>?_);go_simp;refine (c_eqShard s.nm rfl E3.out.symm E2.out LS.out AS.out (ces_past CS.out HS0) (ces_past CT.out HS0)).mono ?_;rintro e w1 ⟨rfl,hb1⟩;have HB1:Hid (Below wr.heap.size wr w1):=chain HS0 hb1;clear hb1;dsimp only;refine hK.out _ _ (fun _=>HB1.out) ?_;clear hK K
   try simp only [Act.put,sA,sB,sC]
   refine tkS (i:=9) (v:=.bool false) rfl rfl HB1.out ?_;simp only [sA,sB,sC];refine doneK (by kernel_rfl) ?_ _;go_wp2;go_roundw
   case rel=>exact ⟨chain HB.out HB1.out,k+1,by omega,by go_num⟩
   case measure=>simp [Go.RowKit.intOf];omega
  ·clear hbel
   go_wp2;go_ret;exact ⟨rfl,HB.out⟩
abbrev zeroPi:Array Value:=#[.slice none 0 0,.int .i64 0,.int .i64 0,.int .i64 0,.int .i64 0]
theorem cellKQ {w:World} {r:Nat} {cs:Array Value} {T:TypeId} (h:w.heap[r]?=some (.cells cs T (0,0))) (j:Nat) {v:Value} (e:cs[j]?=some v):w.cell? ⟨r,j,none⟩=some v:=by rw [cell_of_row _ _ j _ _ (0,0) h];exact e
theorem pi_three (w:World) (v:Value) (p:Pi):Hid ((((w.alloc (.cells (piArr v p) 24)).alloc (.cells zeroPi 29)).alloc (.cells zeroPi 29)).heap.size=w.heap.size+1+1+1) ∧
  Hid (Below w.heap.size w (((w.alloc (.cells (piArr v p) 24)).alloc (.cells zeroPi 29)).alloc (.cells zeroPi 29))) ∧
  Hid ((((w.alloc (.cells (piArr v p) 24)).alloc (.cells zeroPi 29)).alloc (.cells zeroPi 29)).heap[w.heap.size]?=some (.cells (piArr v p) 24 (0,0))) ∧
  Hid ((((w.alloc (.cells (piArr v p) 24)).alloc (.cells zeroPi 29)).alloc (.cells zeroPi 29)).heap[w.heap.size+1]?=some (.cells zeroPi 29 (0,0))) ∧
  Hid ((((w.alloc (.cells (piArr v p) 24)).alloc (.cells zeroPi 29)).alloc (.cells zeroPi 29)).heap[w.heap.size+1+1]?=some (.cells zeroPi 29 (0,0))):=by
 have a1:∀ (W:World) o,Below W.heap.size W (W.alloc o):=fun W o=>(Below.refl _ _).alloc (Nat.le_refl _) _;have k0:=heap_alloc_new w (.cells (piArr v p) 24);have k1:=heap_alloc_new (w.alloc (.cells (piArr v p) 24)) (.cells zeroPi 29);have k2:=heap_alloc_new ((w.alloc (.cells (piArr v p) 24)).alloc (.cells zeroPi 29)) (.cells zeroPi 29);simp only [World.size_alloc] at k1 k2;exact ⟨by simp;exact hide trivial,hide (chain (chain (a1 _ _) (a1 _ _)) (a1 _ _)),hide (((a1 _ _).block _ (by simp;omega)).trans (((a1 _ _).block _ (by simp)).trans k0)),hide (((a1 _ _).block _ (by simp)).trans k1),hide k2⟩
set_option maxHeartbeats 4000000 in
theorem c_eqPipe {w:World} {ao bo:Option Addr} {N ca cb:Nat} {S M:List Sd} (p:Pi) (hN:S.length=N) (hM:M.length=N) (hk:S.map Sd.key=M.map Sd.key) (sm:SdsSm S) (hA:SdsAt w ao S) (hB:SdsAt w bo M) :
  Calls Tryz.prog 13 #[.agg (piArr (.slice ao N ca) p),.agg (piArr (.slice bo N cb) p)] w fun e w'=>e=.returned (.bool true)∧Below w.heap.size w w':=by
 have HN:=hide hN;have HM:=hide hM;have HK:=hide hk;have HA:=hide hA;have HB:=hide hB;have SM:=hide sm;have a1:∀ (W:World) o,Below W.heap.size W (W.alloc o):=fun W o=>(Below.refl _ _).alloc (Nat.le_refl _) _;have hz:(w.alloc (.cells (piArr (.slice ao N ca) p) 29)).heap.size=w.heap.size+1:=by simp
 have HT0:=hide (chain (a1 w (.cells (piArr (.slice ao N ca) p) 29)) (a1 _ (.cells (piArr (.slice bo N cb) p) 29)));have HR0:=hide (((a1 (w.alloc (.cells (piArr (.slice ao N ca) p) 29)) (.cells (piArr (.slice bo N cb) p) 29)).block w.heap.size (by rw [hz];omega)).trans (heap_alloc_new w (.cells (piArr (.slice ao N ca) p) 29)));have hr1:=heap_alloc_new (w.alloc (.cells (piArr (.slice ao N ca) p) 29)) (.cells (piArr (.slice bo N cb) p) 29);rw [hz] at hr1;have HR1:=hide hr1;clear hN hM hk hA hB sm a1 hz hr1;go_enter Tryz.func13,Tryz.ntmps13;go_upto_region 1 with fail;generalize (w.alloc (.cells (piArr (.slice ao N ca) p) 29)).alloc (.cells (piArr (.slice bo N cb) p) 29)=W0 at HT0 HR0 HR1 ⊢;have q0:=cellKQ HR0.out 0 rfl;have r0:=cellKQ HR1.out 0 rfl;go_wp2_with fail;clear q0 r0;refine (c_eqShardS HN.out HM.out HK.out SM.out (sds_past HA.out HT0.out) (sds_past HB.out HT0.out)).mono ?_;rintro e w1 ⟨rfl,hb1⟩;have R0:=(hb1.block w.heap.size (Array.getElem?_eq_some_iff.1 HR0.out).1).trans HR0.out;have R1:=(hb1.block (w.heap.size+1) (Array.getElem?_eq_some_iff.1 HR1.out).1).trans HR1.out;have HT1:=hide (chain HT0.out hb1);have p1:=cellKQ R0 1 rfl;have p2:=cellKQ R0 2 rfl;have p3:=cellKQ R0 3 rfl;have p4:=cellKQ R0 4 rfl;have y1:=cellKQ R1 1 rfl;have y2:=cellKQ R1 2 rfl;have y3:=cellKQ R1 3 rfl;have y4:=cellKQ R1 4 rfl;clear hb1 R0 R1 HR0 HR1 HT0;go_wp2;go_ret;exact ⟨rfl,HT1.out⟩
def okB (L:List ByteArray) (k:Nat):Bool:=
 match L[k]? with
 | none=>true
 | some u=>nameB u && (match k with
  | 0=>true
  | j+1=>match L[j]? with
   | some p=>strLt p u
   | none=>true)
theorem okB_0 {L:List ByteArray} {u:ByteArray} (h:L[0]?=some u):okB L 0=nameB u:=by unfold okB;rw [h];simp
theorem okB_s {L:List ByteArray} {j:Nat} {p u:ByteArray} (hp:L[j]?=some p) (h:L[j+1]?=some u):okB L (j+1)=(nameB u && strLt p u):=by unfold okB;rw [h];simp only [hp]
theorem okB_n {L:List ByteArray} {k:Nat} {u:ByteArray} (h:L[k]?=some u) (hn:nameB u=false):okB L k=false:=by unfold okB;rw [h];simp [hn]
def allOk (L:List ByteArray):Nat→Bool
 | 0=>true
 | k+1=>allOk L k && okB L k
def membersB (L:List ByteArray):Bool:=decide (1≤L.length) && decide (L.length≤12) && allOk L L.length
theorem allOk_f {L:List ByteArray} {k:Nat} (h:okB L k=false):∀ n,k<n→allOk L n=false
 | 0,hk=>by omega
 | n+1,hk=>by
  unfold allOk;by_cases e:k=n
  ·subst e;rw [h];simp
  ·rw [allOk_f h n (by omega)];simp
theorem allOk_at {L:List ByteArray} {k:Nat}:∀ n,k<n→allOk L n=true→okB L k=true
 | n,hk,h=>by
  cases e:okB L k with
  | true=>rfl
  | false=>rw [allOk_f e n hk] at h;cases h
theorem memb_f {L:List ByteArray} {k:Nat} (h:okB L k=false) (hk:k<L.length):membersB L=false:=by unfold membersB;rw [allOk_f h _ hk];simp
theorem memb_t {L:List ByteArray} (h1:¬ L.length<1) (h2:¬ 12<L.length) (h:allOk L L.length=true):membersB L=true:=by
 unfold membersB;rw [h,decide_eq_true (show 1≤L.length by omega),decide_eq_true (show L.length≤12 by omega)];rfl
theorem memb_1 {L:List ByteArray} (h1:L.length<1):membersB L=false:=by
 unfold membersB;rw [decide_eq_false (show ¬ 1≤L.length by omega)];rfl
theorem memb_2 {L:List ByteArray} (h1:12<L.length):membersB L=false:=by
 unfold membersB;rw [decide_eq_false (show ¬ L.length≤12 by omega)];simp
set_option maxHeartbeats 2000000 in
theorem c_s_MembersRight {w:World} {ao:Option Addr} {L:List ByteArray} (cap:Nat) (hl:L.length≤1048576) (hu:∀ u∈L,u.size≤1048576) (hA:StrsAt w ao L) :
  Calls Tryz.prog 34 #[.slice ao L.length cap] w fun e w'=>e=.returned (.bool (membersB L))∧Below w.heap.size w w':=by
 obtain ⟨N,hN⟩:∃ N,L.length=N:=⟨_,rfl⟩;have HN:Hid (L.length=N):=hN;have hge:=op_geq 9;rw [hN] at hl;rw [hN];by_cases h1:N<1
 ·have HM:Hid (membersB L=false):=memb_1 (by omega)
  have hi:((N:Int)<1):=by omega
  clear hN hA hu;go_enter Tryz.func34,Tryz.ntmps34;go_wp2;go_ret;exact ⟨ret_bool HM.out.symm,Below.refl _ _⟩
 ·have hi:¬ ((N:Int)<1):=by omega
  by_cases h2:12<N
  ·have HM:Hid (membersB L=false):=memb_2 (by omega)
   have hj:(12:Int)<(N:Int):=by omega
   clear hN hA hu;go_enter Tryz.func34,Tryz.ntmps34;go_wp2;go_ret;exact ⟨ret_bool HM.out.symm,Below.refl _ _⟩
  ·have hj:¬ (12:Int)<(N:Int):=by omega
   clear hN;go_enter Tryz.func34,Tryz.ntmps34;go_wp2
   go_loopw [3] (fun i wr=>Below w.heap.size w wr∧∃ k:Nat,k≤N∧i=.int .i64 k∧allOk L k=true) (fun i wr=>N - (Go.RowKit.intOf i).toNat)
   case atStart=>exact ⟨Below.refl _ _,0,Nat.zero_le _,rfl,rfl⟩
   case round=>
    obtain ⟨hbel,k,hk,rfl,hall⟩:=hrel;have HA:Hid (allOk L k=true):=hall;clear hall;by_cases hkn:k<N
    ·obtain ⟨b,off,rfl,hcell⟩:=hA (by have:=HN.out;omega)
     obtain ⟨u,hku⟩:∃ u,L[k]?=some u:=⟨L[k]'(by have:=HN.out;omega),List.getElem?_eq_getElem _⟩;have hc:=cell_past hbel (hcell k u hku);have hc0:k=0→wr.cell? ⟨b,off,none⟩=some (.string u):=fun e=>by rw [e,Nat.add_zero] at hc;exact hc
     have hus:=hu u (List.mem_of_getElem? hku);have hum:u.size≤maxLen:=by unfold maxLen;omega
     have HB:Hid (Below w.heap.size w wr):=hbel;have HU:Hid (L[k]?=some u):=hku
     cases hn:nameB u
     ·have hc0z:k=0∨0<k:=by omega
      have HM:Hid (membersB L=false):=memb_f (okB_n hku hn) (by have:=HN.out;omega);clear hku hbel hu hcell hA hc0 hc0z;go_wp2
      go_quiet (first | (go_at_call 64;refine Calls.quiet_of_same (c_s_NameRight _ _ hum)))
      go_wp2;go_ret;exact ⟨ret_bool HM.out.symm,bel_drews HB.out _⟩
     ·rcases Nat.eq_zero_or_pos k with rfl | hpos
      ·have hc0:=hc0 rfl
       have HO:Hid (allOk L (0+1)=true):=(by unfold allOk;rw [HA.out,okB_0 hku,hn];rfl:allOk L (0+1)=true);clear hku hbel hu hcell hA;go_wp2
       go_quiet (first | (go_at_call 64;refine Calls.quiet_of_same (c_s_NameRight _ _ hum)))
       go_wp2;go_roundw
       case rel=>exact ⟨bel_drews HB.out _,0+1,by omega,by go_num,HO.out⟩
       case measure=>simp [Go.RowKit.intOf];omega
      ·obtain ⟨j,hj1⟩:∃ j,j+1=k:=⟨k - 1,by omega⟩
       obtain ⟨p,hkp⟩:∃ p,L[j]?=some p:=⟨L[j]'(by have:=HN.out;omega),List.getElem?_eq_getElem _⟩;have hcp:=cell_past hbel (hcell j p hkp);have ek:((k:Int) - 1)=(j:Int):=by omega
       have ew:IntKind.i64.wrap (j:Int)=j:=IntWalk.i64_in _ ⟨by omega,by omega⟩;have hpi:(0:Int)<(k:Int):=by omega
       have hjN:j<N:=by omega
       have HK:Hid (okB L k=(nameB u && strLt p u)):=by rw [← hj1] at hku ⊢; exact okB_s hkp hku
       clear hj1 hku hbel hu hcell hkp hA hc0
       cases hlt:strLt p u
       ·have HM:Hid (membersB L=false):=memb_f (by rw [HK.out,hlt];simp) (by have:=HN.out;omega)
        go_wp2
        go_quiet (first | (go_at_call 64;refine Calls.quiet_of_same (c_s_NameRight _ _ hum)))
        go_wp2;go_ret;exact ⟨ret_bool HM.out.symm,bel_drews HB.out _⟩
       ·have HO:Hid (allOk L (k+1)=true):=(by unfold allOk;rw [HA.out,HK.out,hn,hlt];rfl:allOk L (k+1)=true)
        go_wp2
        go_quiet (first | (go_at_call 64;refine Calls.quiet_of_same (c_s_NameRight _ _ hum)))
        go_wp2;go_roundw
        case rel=>exact ⟨bel_drews HB.out _,k+1,by omega,by go_num,HO.out⟩
        case measure=>simp [Go.RowKit.intOf];omega
    ·have e:k=N:=by omega
     have HM:Hid (membersB L=true):=by
      have hN:=HN.out;refine memb_t (by omega) (by omega) ?_;rw [hN,← e];exact HA.out
     have HB:Hid (Below w.heap.size w wr):=hbel;clear e hbel hA hu;go_wp2;go_ret;exact ⟨ret_bool HM.out.symm,HB.out⟩
set_option maxHeartbeats 2000000 in
theorem c_i_MembersRight {w:World} {ao:Option Addr} {L:List ByteArray} (cap:Nat) (hl:L.length≤1048576) (hu:∀ u∈L,u.size≤1048576) (hA:StrsAt w ao L) :
  Calls Tryz.prog 82 #[.slice ao L.length cap] w fun e w'=>e=.returned (.bool (membersB L))∧Below w.heap.size w w':=by
 obtain ⟨N,hN⟩:∃ N,L.length=N:=⟨_,rfl⟩;have HN:Hid (L.length=N):=hN;have hge:=op_geq 9;rw [hN] at hl;rw [hN];by_cases h1:N<1
 ·have HM:Hid (membersB L=false):=memb_1 (by omega)
  have hi:((N:Int)<1):=by omega
  clear hN hA hu;go_enter Tryz.func82,Tryz.ntmps82;go_wp2;go_ret;exact ⟨ret_bool HM.out.symm,Below.refl _ _⟩
 ·have hi:¬ ((N:Int)<1):=by omega
  by_cases h2:12<N
  ·have HM:Hid (membersB L=false):=memb_2 (by omega)
   have hj:(12:Int)<(N:Int):=by omega
   clear hN hA hu;go_enter Tryz.func82,Tryz.ntmps82;go_wp2;go_ret;exact ⟨ret_bool HM.out.symm,Below.refl _ _⟩
  ·have hj:¬ (12:Int)<(N:Int):=by omega
   clear hN;go_enter Tryz.func82,Tryz.ntmps82;go_wp2
   go_loopw [14,3] (fun i _ wr=>Below w.heap.size w wr∧∃ k:Nat,k≤N∧i=.int .i64 k∧allOk L k=true) (fun i _ wr=>N - (Go.RowKit.intOf i).toNat)
   case atStart=>exact ⟨Below.refl _ _,0,Nat.zero_le _,rfl,rfl⟩
   case round=>
    obtain ⟨hbel,k,hk,rfl,hall⟩:=hrel;have HA:Hid (allOk L k=true):=hall;clear hall;by_cases hkn:k<N
    ·obtain ⟨b,off,rfl,hcell⟩:=hA (by have:=HN.out;omega)
     obtain ⟨u,hku⟩:∃ u,L[k]?=some u:=⟨L[k]'(by have:=HN.out;omega),List.getElem?_eq_getElem _⟩;have hc:=cell_past hbel (hcell k u hku);have hc0:k=0→wr.cell? ⟨b,off,none⟩=some (.string u):=fun e=>by rw [e,Nat.add_zero] at hc;exact hc
     have hus:=hu u (List.mem_of_getElem? hku);have hum:u.size≤maxLen:=by unfold maxLen;omega
     have HB:Hid (Below w.heap.size w wr):=hbel;have HU:Hid (L[k]?=some u):=hku
     cases hn:nameB u
     ·have hc0z:k=0∨0<k:=by omega
      have HM:Hid (membersB L=false):=memb_f (okB_n hku hn) (by have:=HN.out;omega);clear hku hbel hu hcell hA hc0 hc0z;go_wp2
      go_quiet (first | (go_at_call 95;refine Calls.quiet_of_same (c_i_NameRight _ _ hum)))
      go_wp2;go_ret;exact ⟨ret_bool HM.out.symm,bel_drews HB.out _⟩
     ·rcases Nat.eq_zero_or_pos k with rfl | hpos
      ·have hc0:=hc0 rfl
       have HO:Hid (allOk L (0+1)=true):=(by unfold allOk;rw [HA.out,okB_0 hku,hn];rfl:allOk L (0+1)=true);clear hku hbel hu hcell hA;go_wp2
       go_quiet (first | (go_at_call 95;refine Calls.quiet_of_same (c_i_NameRight _ _ hum)))
       go_wp2;go_roundw
       case rel=>exact ⟨bel_drews HB.out _,0+1,by omega,by go_num,HO.out⟩
       case measure=>simp [Go.RowKit.intOf];omega
      ·obtain ⟨j,hj1⟩:∃ j,j+1=k:=⟨k - 1,by omega⟩
       obtain ⟨p,hkp⟩:∃ p,L[j]?=some p:=⟨L[j]'(by have:=HN.out;omega),List.getElem?_eq_getElem _⟩;have hcp:=cell_past hbel (hcell j p hkp);have ek:((k:Int) - 1)=(j:Int):=by omega
       have ew:IntKind.i64.wrap (j:Int)=j:=IntWalk.i64_in _ ⟨by omega,by omega⟩;have hpi:(0:Int)<(k:Int):=by omega
       have hjN:j<N:=by omega
       have HK:Hid (okB L k=(nameB u && strLt p u)):=by rw [← hj1] at hku ⊢; exact okB_s hkp hku
       clear hj1 hku hbel hu hcell hkp hA hc0
       cases hlt:strLt p u
       ·have HM:Hid (membersB L=false):=memb_f (by rw [HK.out,hlt];simp) (by have:=HN.out;omega)
        go_wp2
        go_quiet (first | (go_at_call 95;refine Calls.quiet_of_same (c_i_NameRight _ _ hum)))
        go_wp2;go_ret;exact ⟨ret_bool HM.out.symm,bel_drews HB.out _⟩
       ·have HO:Hid (allOk L (k+1)=true):=(by unfold allOk;rw [HA.out,HK.out,hn,hlt];rfl:allOk L (k+1)=true)
        go_wp2
        go_quiet (first | (go_at_call 95;refine Calls.quiet_of_same (c_i_NameRight _ _ hum)))
        go_wp2;go_roundw
        case rel=>exact ⟨bel_drews HB.out _,k+1,by omega,by go_num,HO.out⟩
        case measure=>simp [Go.RowKit.intOf];omega
    ·have e:k=N:=by omega
     have HM:Hid (membersB L=true):=by
      have hN:=HN.out;refine memb_t (by omega) (by omega) ?_;rw [hN,← e];exact HA.out
     have HB:Hid (Below w.heap.size w wr):=hbel;clear e hbel hA hu;go_wp2;go_ret;exact ⟨ret_bool HM.out.symm,HB.out⟩
structure NmI (w wr:World) (S:List Sd) (k:Nat) (v:Value):Prop where
 o:OwnT wr w.heap.size v ((S.take k).map Sd.nm)
 b:Below w.heap.size w wr
theorem nm_take {S:List Sd} {k:Nat} {s:Sd} (h:S[k]?=some s):(S.take (k+1)).map Sd.nm=(S.take k).map Sd.nm ++ [s.nm]:=by rw [List.take_add_one,h,List.map_append];rfl
theorem nm_len {S:List Sd} {k N:Nat} (h:S.length=N) (hk:k≤N):((S.take k).map Sd.nm).length=k:=by rw [List.length_map,List.length_take,h];omega
theorem new_str {W:World} {u:ByteArray} {t:TypeId} (j:Nat) (v:Value) (hj:[Value.string u][j]?=some v):(W.alloc (.cells #[.string u] t)).cell? ((⟨W.heap.size,0,none⟩:Addr).add j)=some v:=by
 have hb:(W.alloc (.cells #[.string u] t)).heap[W.heap.size]?=some (.cells #[.string u] t (0,0)):=heap_alloc_new W _;rw [Addr.add_lit,Nat.zero_add,cell_of_row _ W.heap.size j _ _ (0,0) hb]
 simpa using hj
theorem NmI.step {w wr W w1:World} {S:List Sd} {k N:Nat} {v v':Value} {s:Sd} (h:NmI w wr S k v) (hN:S.length=N) (hs:S[k]?=some s) (hb:Below wr.heap.size wr W) (hown:w1.ownsRow w.heap.size 9 1 v' (k+1) (((S.take k).map Sd.nm).map Value.string ++ [.string s.nm])) (hg:W.grownBy w1 v.ownBlock):NmI w w1 S (k+1) v':=by
 have hk:k<S.length:=(List.getElem?_eq_some_iff.1 hs).1;refine ⟨?_,?_⟩
 ·refine OwnT.of hown ?_
  rw [nm_take hs,List.map_append];rfl
 ·have b1:=chain h.b hb
  exact b1.grown hg b1.size (fun j hj=>(World.ownsRow.lt h.o j hj).1)
set_option maxHeartbeats 4000000 in
theorem c_namesOf {w:World} {ao:Option Addr} {N ca:Nat} {S:List Sd} (hN:S.length=N) (lN:N≤1048576) (hA:SdsAt w ao S) :
  Calls Tryz.prog 83 #[.slice ao N ca] w fun e w'=>∃ bo c,e=.returned (.slice bo N c)∧OwnT w' w.heap.size (.slice bo N c) (S.map Sd.nm)∧Below w.heap.size w w':=by
 obtain ⟨i0,hi,hz0,hz1,hz2⟩:=info_parts infoStr;have HN:=hide hN;have HA:=hide hA;clear hN hA;go_enter Tryz.func83,Tryz.ntmps83;go_wp2
 go_loopw [3,8] (fun v i wr=>∃ (k:Nat),k≤N∧i=.int .i64 k∧Hid (NmI w wr S k v)) (fun v i wr=>N - (Go.RowKit.intOf i).toNat)
 case atStart=>exact ⟨0,Nat.zero_le _,rfl,hide ⟨World.ownsRow_nil _ _ _ _,Below.refl _ _⟩⟩
 case round=>
  obtain ⟨k,hk,rfl,HI⟩:=hrel;by_cases hkn:k<N
  ·have hkni:(k:Int)<(N:Int):=by omega
   obtain ⟨b,off,e,hcell⟩:=HA.out.1 (by have:=HN.out;omega);subst e;obtain ⟨s,hs⟩:∃ s,S[k]?=some s:=⟨S[k]'(by have:=HN.out;omega),List.getElem?_eq_getElem _⟩;obtain ⟨x0,x1⟩:=sdc_past (hcell k s hs) HI.out.b;have HS:=hide hs;have hwk:IntKind.i64.wrap ((k:Int)+1)=((k+1:Nat):Int):=by rw [show (k:Int)+1=((k+1:Nat):Int) by omega];exact IntWalk.i64_in _ ⟨by omega,by omega⟩
   clear hcell hs;go_upto_region 5 with fail;clear x0 x1;have al:Below wr.heap.size wr (wr.alloc (.cells (sdArr s) 55)):=(Below.refl _ _).alloc (Nat.le_refl _) _;have HL:=hide al;have y0:=cellKQ (heap_alloc_new wr (.cells (sdArr s) 55)) 0 rfl;have OW:=hide (HI.out.o.past al);have hzs:w.heap.size≤(wr.alloc (.cells (sdArr s) 55)).heap.size:=Nat.le_trans HI.out.b.size al.size;have NL:=hide (nm_len HN.out hk);obtain ⟨T,hT⟩:∃ T,(S.take k).map Sd.nm=T:=⟨_,rfl⟩;rw [hT] at OW NL;have HTT:=hide hT;clear al hT;generalize wr.alloc (.cells (sdArr s) 55)=W1 at HL y0 OW hzs ⊢;have ow:=OW.out;unfold OwnT at ow;rw [NL.out] at ow;have OW2:=hide ow;clear ow OW;go_wp2_with (at_builtin;refine wpList_append_own _ rfl _ _ 48 rfl w.heap.size 9 i0 (.string ByteArray.empty) 1 16 Tryz.underlying48 hi hz0 hz1 hz2 rfl (by decide) _ _ _ rfl (World.ownsRow.alloc OW2.out _) ⟨W1.heap.size,0,none⟩ 1 1 [.string s.nm] rfl rfl ?c1 ?c2 ?c3 ?c4 ?c5 ?_)
   case c1=>exact new_str
   case c2=>intro v hv;simp at hv;subst hv;rfl
   case c3=>unfold maxLen;omega
   case c4=>omega
   case c5=>simp;omega
   intro v' w1 hown hgrow _;have HI2:=hide (HI.out.step HN.out HS.out (chain HL.out ((Below.refl _ _).alloc (Nat.le_refl _) _)) (by rw [HTT.out];exact hown) hgrow);clear hown hgrow y0 OW2 HL;go_wp2;go_roundw
   case rel=>exact ⟨k+1,by omega,by first | rfl | go_num,HI2⟩
   case measure=>simp [Go.RowKit.intOf];omega
  ·have hkni:¬ (k:Int)<(N:Int):=by omega
   have ho:=HI.out.o;rw [List.take_of_length_le (by have:=HN.out;omega)] at ho;obtain ⟨bo,c,e⟩:=ownT_any ho;rw [List.length_map,HN.out] at e;subst e;have HO:=hide ho;clear ho;go_wp2;go_ret;exact ⟨bo,c,rfl,HO.out,HI.out.b⟩
noncomputable def sdsB (S:List Sd):Bool:=membersB (S.map Sd.nm) && S.all (fun s=>shB s.nm s.L)
theorem all_take {S:List Sd} {k:Nat} {s:Sd} {f:Sd→Bool} (h:S[k]?=some s) (q:(S.take k).all f=true) (hs:f s=true):(S.take (k+1)).all f=true:=by
 rw [List.take_add_one,h,List.all_append,q];simp [hs]
theorem all_fall {S:List Sd} {k:Nat} {s:Sd} {f:Sd→Bool} (h:S[k]?=some s) (hs:f s=false):S.all f=false:=by
 cases q:S.all f with
 | false=>rfl
 | true=>
  have:=(List.all_eq_true.1 q) s (List.mem_of_getElem? h);rw [hs] at this;cases this
set_option maxHeartbeats 4000000 in
theorem c_shardsRight {w:World} {ao:Option Addr} {N ca:Nat} {S:List Sd} (hN:S.length=N) (sm:SdsSm S) (ok:∀ s∈S,∀ c∈s.L,AgOk c.g∧c.s.size≤maxLen) (hm:MX w) (hA:SdsAt w ao S) :
  Calls Tryz.prog 44 #[.slice ao N ca] w fun e w'=>e=.returned (.bool (sdsB S))∧Below w.heap.size w w':=by
 have HN:=hide hN;have HA:=hide hA;have SM:=hide sm;have OK:=hide ok;have HM:=hide hm;have lN:N≤1048576:=by have:=sm.n;omega
 clear hN hA sm ok hm;go_enter Tryz.func44,Tryz.ntmps44;go_wp2_with fail;refine (c_namesOf (ca:=ca) HN.out lN HA.out).mono ?_;rintro e w1 ⟨bo,c,rfl,ho,hb1⟩;have HO:=hide ho;have HT1:=hide hb1;have LM:Hid ((S.map Sd.nm).length=N):=by rw [List.length_map];exact HN
 clear ho hb1;go_wp2_with fail;have hc:=c_i_MembersRight (w:=w1) (L:=S.map Sd.nm) c (by rw [LM.out];exact lN) (fun u hu=>by obtain ⟨s,hs,rfl⟩:=List.mem_map.1 hu;exact SM.out.nz s hs) HO.out.at
 rw [LM.out] at hc;refine hc.mono ?_;rintro e w2 ⟨rfl,hb2⟩;have HT2:=hide (chain HT1.out hb2);clear hc hb2 HO HT1
 cases hmb:membersB (S.map Sd.nm) with
 | false=>
  have HE:Hid (sdsB S=false):=by unfold sdsB;rw [hmb];exact hide rfl
  go_wp2;go_ret;exact ⟨by rw [HE.out];rfl,HT2.out⟩
 | true=>
  have HE:Hid (sdsB S=S.all (fun s=>shB s.nm s.L)):=by unfold sdsB;rw [hmb];exact hide (Bool.true_and _)
  clear hmb;go_wp2
  go_loopw [11] (fun i wr=>∃ (k:Nat),k≤N∧i=.int .i64 k∧Hid ((S.take k).all (fun s=>shB s.nm s.L)=true)∧Hid (Below w.heap.size w wr)) (fun i wr=>N - (Go.RowKit.intOf i).toNat)
  case atStart=>exact ⟨0,Nat.zero_le _,rfl,hide (by simp),HT2⟩
  case round=>
   clear HT2;obtain ⟨k,hk,rfl,HF,HB⟩:=hrel;by_cases hkn:k<N
   ·have hkni:(k:Int)<(N:Int):=by omega
    obtain ⟨b,off,e,hcell⟩:=HA.out.1 (by have:=HN.out;omega);subst e;obtain ⟨s,hs⟩:∃ s,S[k]?=some s:=⟨S[k]'(by have:=HN.out;omega),List.getElem?_eq_getElem _⟩;obtain ⟨x0,x1⟩:=sdc_past (hcell k s hs) HB.out;have HS:=hide hs;have HSm:=hide (List.mem_of_getElem? hs);have hwk:IntKind.i64.wrap ((k:Int)+1)=((k+1:Nat):Int):=by rw [show (k:Int)+1=((k+1:Nat):Int) by omega];exact IntWalk.i64_in _ ⟨by omega,by omega⟩
    clear hcell hs;go_upto_region 6 with fail;clear x0 x1;have al:Below wr.heap.size wr (wr.alloc (.cells (sdArr s) 55)):=(Below.refl _ _).alloc (Nat.le_refl _) _;have y0:=cellKQ (heap_alloc_new wr (.cells (sdArr s) 55)) 0 rfl;have y1:=cellKQ (heap_alloc_new wr (.cells (sdArr s) 55)) 1 rfl;have HB1:=hide (chain HB.out al);clear al;generalize wr.alloc (.cells (sdArr s) 55)=W1 at HB1 y0 y1 ⊢;go_wp2_with fail;clear y0 y1;refine (c_i_ShardRight s.nm (by have:=SM.out.nz s HSm.out;unfold maxLen;omega) rfl (SM.out.l s HSm.out) (fun c hc=>(OK.out s HSm.out c hc).1) (SM.out.sm s HSm.out) (fun c hc=>(OK.out s HSm.out c hc).2) (HM.out.past HB1.out) (ces_past (HA.out.2 s HSm.out) HB1.out)).mono ?_;rintro e w3 ⟨rfl,hb3⟩;have HB3:=hide (chain HB1.out hb3);clear hb3
    cases hsb:shB s.nm s.L with
    | false=>
     have HE2:Hid (sdsB S=false):=by rw [HE.out];exact hide (all_fall HS.out hsb)
     go_wp2;go_ret;exact ⟨by rw [HE2.out];rfl,HB3.out⟩
    | true=>
     have HF2:=hide (all_take HS.out HF.out hsb);go_wp2;go_roundw
     case rel=>exact ⟨k+1,by omega,by first | rfl | go_num,HF2,HB3⟩
     case measure=>simp [Go.RowKit.intOf];omega
   ·have hkni:¬ (k:Int)<(N:Int):=by omega
    have HE2:Hid (sdsB S=true):=by
     rw [HE.out];have h1:=HF.out;rw [List.take_of_length_le (by have:=HN.out;omega)] at h1;exact hide h1
    go_wp2;go_ret;exact ⟨by rw [HE2.out];rfl,HB.out⟩
set_option maxHeartbeats 4000000 in
theorem c_s_l10Names {w:World} {ao:Option Addr} {N ca:Nat} {S:List Sd} (p:Pi) (hN:S.length=N) (lN:N≤1048576) (hA:SdsAt w ao S) :
  Calls Tryz.prog 33 #[.agg (piArr (.slice ao N ca) p)] w fun e w'=>∃ bo c,e=.returned (.slice bo N c)∧OwnT w' w.heap.size (.slice bo N c) (S.map Sd.nm)∧Below w.heap.size w w':=by
 obtain ⟨i0,hi,hz0,hz1,hz2⟩:=info_parts infoStr;have HN:=hide hN;have HA:=hide hA;have a1:∀ (W:World) o,Below W.heap.size W (W.alloc o):=fun W o=>(Below.refl _ _).alloc (Nat.le_refl _) _;have hz:(w.alloc (.cells (piArr (.slice ao N ca) p) 29)).heap.size=w.heap.size+1:=by simp
 have HR:=hide (((a1 (w.alloc (.cells (piArr (.slice ao N ca) p) 29)) (.cells #[] 9)).block w.heap.size (by rw [hz];omega)).trans (heap_alloc_new w (.cells (piArr (.slice ao N ca) p) 29)));have HT0:=hide (chain (a1 w (.cells (piArr (.slice ao N ca) p) 29)) (a1 _ (.cells #[] 9)))
 have HI0:Hid (NmI w ((w.alloc (.cells (piArr (.slice ao N ca) p) 29)).alloc (.cells #[] 9)) S 0 (.slice (some ⟨w.heap.size+1,0,none⟩) 0 0)):=by
  refine hide ⟨?_,HT0.out⟩;have q:=World.ownsRow_made (base:=w.heap.size) (e:=9) (size:=1) (w.alloc (.cells (piArr (.slice ao N ca) p) 29)) #[] 0 (by rw [hz];omega) (Nat.zero_le _) rfl;rw [hz] at q;exact q
 clear hN hA a1 hz;go_enter Tryz.func33,Tryz.ntmps33;go_upto_region 2 with fail;generalize (w.alloc (.cells (piArr (.slice ao N ca) p) 29)).alloc (.cells #[] 9)=W0 at HR HT0 HI0 ⊢;have HW0:Hid (w.heap.size<W0.heap.size):=(Array.getElem?_eq_some_iff.1 HR.out).1;go_wp2
 go_loopw [3,4] (fun v i wr=>∃ (k:Nat),k≤N∧i=.int .i64 k∧Hid (NmI w wr S k v)∧Hid (wr.heap[w.heap.size]?=some (.cells (piArr (.slice ao N ca) p) 29 (0,0)))) (fun v i wr=>N - (Go.RowKit.intOf i).toNat)
 case atStart=>exact ⟨0,Nat.zero_le _,rfl,HI0,HR⟩
 case round=>
  clear HI0 HR HT0;obtain ⟨k,hk,rfl,HI,HR⟩:=hrel;have r0:=cellKQ HR.out 0 rfl;by_cases hkn:k<N
  ·have hkni:(k:Int)<(N:Int):=by omega
   obtain ⟨b,off,e,hcell⟩:=HA.out.1 (by have:=HN.out;omega);subst e;obtain ⟨s,hs⟩:∃ s,S[k]?=some s:=⟨S[k]'(by have:=HN.out;omega),List.getElem?_eq_getElem _⟩;obtain ⟨x0,x1⟩:=sdc_past (hcell k s hs) HI.out.b;have HS:=hide hs;have hwk:IntKind.i64.wrap ((k:Int)+1)=((k+1:Nat):Int):=by rw [show (k:Int)+1=((k+1:Nat):Int) by omega];exact IntWalk.i64_in _ ⟨by omega,by omega⟩
   have hzs:w.heap.size≤wr.heap.size:=HI.out.b.size;have NL:=hide (nm_len HN.out hk);obtain ⟨T,hT⟩:∃ T,(S.take k).map Sd.nm=T:=⟨_,rfl⟩;have OW:=HI.out.o;rw [hT] at OW NL;unfold OwnT at OW;rw [NL.out] at OW;have OW2:=hide OW;have HTT:=hide hT;clear hcell hs hT OW;go_wp2_with (at_builtin;refine wpList_append_own _ rfl _ _ 48 rfl w.heap.size 9 i0 (.string ByteArray.empty) 1 16 Tryz.underlying48 hi hz0 hz1 hz2 rfl (by decide) _ _ _ rfl (World.ownsRow.alloc OW2.out _) ⟨wr.heap.size,0,none⟩ 1 1 [.string s.nm] rfl rfl ?c1 ?c2 ?c3 ?c4 ?c5 ?_)
   case c1=>exact new_str
   case c2=>intro v hv;simp at hv;subst hv;rfl
   case c3=>unfold maxLen;omega
   case c4=>omega
   case c5=>simp;omega
   intro v' w1 hown hgrow _;have al:Below wr.heap.size wr (wr.alloc (.cells #[.string s.nm] 9)):=(Below.refl _ _).alloc (Nat.le_refl _) _;have HI2:=hide (HI.out.step HN.out HS.out al (by rw [HTT.out];exact hown) hgrow)
   have HR2:Hid (w1.heap[w.heap.size]?=some (.cells (piArr (.slice (some ⟨b,off,none⟩) N ca) p) 29 (0,0))):=by
    have r1:=(al.block w.heap.size (Array.getElem?_eq_some_iff.1 HR.out).1).trans HR.out;refine hide ((hgrow.block _ (Array.getElem?_eq_some_iff.1 r1).1 (fun e=>?_)).trans r1);rcases OW2.out.2 with ⟨q,_⟩ | ⟨g,cap,cur,q,_,q2,_⟩
    ·rw [q] at e;cases e
    ·rw [q] at e
     obtain rfl:w.heap.size=g:=Option.some.inj e;rw [HR.out] at q2;injection q2 with q2;injection q2 with _ q3 _;exact absurd q3 (by decide)
   clear hown hgrow OW2 al r0 x0 x1;go_wp2;go_roundw
   case rel=>exact ⟨k+1,by omega,by first | rfl | go_num,HI2,HR2⟩
   case measure=>simp [Go.RowKit.intOf];omega
  ·have hkni:¬ (k:Int)<(N:Int):=by omega
   have ho:=HI.out.o;rw [List.take_of_length_le (by have:=HN.out;omega)] at ho;obtain ⟨bo,c,e⟩:=ownT_any ho;rw [List.length_map,HN.out] at e;subst e;have HO:=hide ho;clear ho;go_wp2;go_ret;exact ⟨bo,c,rfl,HO.out,HI.out.b⟩
def cntW (L:List Ce) (win:Int):Nat:=L.countP (fun c=>decide (c.n=win))
theorem cntW_step {L:List Ce} {k:Nat} {c:Ce} {win:Int} (h:L[k]?=some c):cntW (L.take (k+1)) win=cntW (L.take k) win+if c.n=win then 1 else 0:=by
 unfold cntW;rw [List.take_add_one,h,List.countP_append];by_cases q:c.n=win <;> simp [q]
set_option maxHeartbeats 2000000 in
theorem c_l10Window {w:World} {ao:Option Addr} {N ca:Nat} {L:List Ce} (win:Int) (hN:L.length=N) (lN:N≤1048576) (hA:CesAt w ao L) :
  Calls Tryz.prog 40 #[.slice ao N ca,.int .i64 win] w fun e w'=>e=.returned (.int .i64 (cntW L win))∧w'=w:=by
 have HN:=hide hN;have HA:=hide hA;clear hN hA;go_enter Tryz.func40,Tryz.ntmps40;go_wp2
 go_loopw [5,6] (fun m i wr=>Hid (wr=w)∧∃ (k q:Nat),k≤N∧q≤k∧i=.int .i64 k∧m=.int .i64 q∧Hid (q=cntW (L.take k) win)) (fun m i wr=>N - (Go.RowKit.intOf i).toNat)
 case atStart=>exact ⟨hide rfl,0,0,Nat.zero_le _,Nat.le_refl _,rfl,rfl,hide (by simp [cntW])⟩
 case round=>
  obtain ⟨HE,k,q,hk,hq,rfl,rfl,HQ⟩:=hrel;obtain rfl:=HE.out;clear HE;by_cases hkn:k<N
  ·have hkni:(k:Int)<(N:Int):=by omega
   obtain ⟨b,off,e,hcell⟩:=HA.out.1 (by have:=HN.out;omega);subst e;obtain ⟨c,hc⟩:∃ c,L[k]?=some c:=⟨L[k]'(by have:=HN.out;omega),List.getElem?_eq_getElem _⟩;obtain ⟨x0,_⟩:=hcell k c hc;have HC:=hide hc;have hwk:IntKind.i64.wrap ((k:Int)+1)=((k+1:Nat):Int):=by rw [show (k:Int)+1=((k+1:Nat):Int) by omega];exact IntWalk.i64_in _ ⟨by omega,by omega⟩
   have hwq:IntKind.i64.wrap ((q:Int)+1)=((q+1:Nat):Int):=by rw [show (q:Int)+1=((q+1:Nat):Int) by omega];exact IntWalk.i64_in _ ⟨by omega,by omega⟩
   clear hcell hc;by_cases hw:c.n=win
   ·have bw:(c.n == win)=true:=by simp [hw]
    have HQ2:Hid (q+1=cntW (L.take (k+1)) win):=by rw [cntW_step HC.out,if_pos hw,← HQ.out];exact hide rfl
    clear hw;go_wp2;go_roundw
    case rel=>exact ⟨hide (by first | trivial | rfl),k+1,q+1,by omega,by omega,by first | rfl | go_num,by first | rfl | go_num,HQ2⟩
    case measure=>simp [Go.RowKit.intOf];omega
   ·have bw:(c.n == win)=false:=beq_eq_false_iff_ne.2 hw
    have HQ2:Hid (q=cntW (L.take (k+1)) win):=by rw [cntW_step HC.out,if_neg hw,← HQ.out];exact hide rfl
    clear hw;go_wp2;go_roundw
    case rel=>exact ⟨hide (by first | trivial | rfl),k+1,q,by omega,by omega,by first | rfl | go_num,rfl,HQ2⟩
    case measure=>simp [Go.RowKit.intOf];omega
  ·have hkni:¬ (k:Int)<(N:Int):=by omega
   have HF:Hid (q=cntW L win):=by
    have h1:=HQ.out;rw [List.take_of_length_le (by have:=HN.out;omega)] at h1;exact hide h1
   go_wp2;go_ret;exact ⟨by rw [← HF.out];rfl,rfl⟩
end Go.Proofs.YtmjogablacnlgaaGreatDoor
namespace Go.Proofs.YtmjogablacnlgaaGreatDoor
set_option linter.unusedVariables false
set_option linter.unusedSimpArgs false
def fcS (S:List Sd):List (ByteArray×Ce):=S.flatMap (fun s=>s.L.map (fun c=>(s.nm,c)))
def cntD (D:List (ByteArray×Ce)) (win:Int):Nat:=D.countP (fun x=>decide (x.2.n=win))
theorem cntD_step {D:List (ByteArray×Ce)} {k:Nat} {x:ByteArray×Ce} {win:Int} (h:D[k]?=some x):cntD (D.take (k+1)) win=cntD (D.take k) win+if x.2.n=win then 1 else 0:=by
 unfold cntD;rw [List.take_add_one,h,List.countP_append];by_cases q:x.2.n=win <;> simp [q]
theorem cntD_take (D:List (ByteArray×Ce)) (k:Nat) (win:Int):cntD (D.take k) win≤cntD D win:=(List.take_sublist k D).countP_le
structure PlP (D:List (ByteArray×Ce)) (cl:Int) (own:ByteArray→ByteArray→Prop):Prop where
 l:D.length≤60
 c:∀ win,cntD D win≤20
 p:∀ x∈D,cl≤x.2.n∧own x.2.s x.1
section
variable {D:List (ByteArray×Ce)} {cl:Int} {own:ByteArray→ByteArray→Prop}
theorem PlP.nil:PlP [] cl own:=⟨by simp,by simp [cntD],by simp⟩
theorem PlP.step {k:Nat} {x:ByteArray×Ce} (h:PlP (D.take k) cl own) (hx:D[k]?=some x) (h1:k+1≤60) (h2:cntD (D.take (k+1)) x.2.n≤20) (h3:cl≤x.2.n) (h4:own x.2.s x.1):PlP (D.take (k+1)) cl own:=by
 refine ⟨by rw [List.length_take];omega,fun win=>?_,fun y hy=>?_⟩
 ·by_cases q:x.2.n=win
  ·rw [← q];exact h2
  ·rw [cntD_step hx,if_neg q];exact h.c win
 ·rw [List.take_add_one,hx] at hy
  rcases List.mem_append.1 hy with hy | hy
  ·exact h.p y hy
  ·simp at hy
   subst hy;exact ⟨h3,h4⟩
theorem PlP.at {k:Nat} {x:ByteArray×Ce} (h:PlP D cl own) (hx:D[k]?=some x):k+1≤60∧cntD (D.take (k+1)) x.2.n≤20∧cl≤x.2.n∧own x.2.s x.1:=by
 have hk:=(List.getElem?_eq_some_iff.1 hx).1;have hl:=h.l;exact ⟨by omega,Nat.le_trans (cntD_take D _ _) (h.c _),h.p x (List.mem_of_getElem? hx)⟩
end
theorem fcS_app (A B:List Sd):fcS (A ++ B)=fcS A ++ fcS B:=by simp [fcS]
theorem fcS_cons (s:Sd) (B:List Sd):fcS (s :: B)=s.L.map (fun c=>(s.nm,c)) ++ fcS B:=by simp [fcS]
theorem fcS_at {S:List Sd} {i j:Nat} {s:Sd} {c:Ce} (hs:S[i]?=some s) (hc:s.L[j]?=some c):(fcS S)[(fcS (S.take i)).length+j]?=some (s.nm,c):=by
 have hi:=(List.getElem?_eq_some_iff.1 hs).1;have hj:=(List.getElem?_eq_some_iff.1 hc).1
 have e:S=S.take i ++ s :: S.drop (i+1):=by
  have h1:=(List.take_append_drop i S).symm;rw [List.drop_eq_getElem_cons hi,(List.getElem?_eq_some_iff.1 hs).2] at h1;exact h1
 have q:(fcS S)[(fcS (S.take i)).length+j]?=(fcS (S.take i) ++ (s.L.map (fun c=>(s.nm,c)) ++ fcS (S.drop (i+1))))[(fcS (S.take i)).length+j]?:=by
  rw [← fcS_cons,← fcS_app,← e]
 rw [q,List.getElem?_append_right (by omega),Nat.add_sub_cancel_left,List.getElem?_append_left (by simpa using hj),List.getElem?_map,hc]
 rfl
open Go.ChangeAt Go.ChangeShapes Go.PlainAid Go.RowKit Go.WideShapes
instance:Inhabited Sd:=⟨⟨ByteArray.empty,[],none,0⟩⟩
structure SdOk (W:World) (s:Sd):Prop where
 n:s.nm.size≤maxLen
 l:CesLen s.L
 m:CesAt W s.ao s.L
 g:∀ c∈s.L,AgOk c.g
theorem list2 {α:Type} {cs:List α} (h:cs.length=2):∃ a b,cs=[a,b]:=by
 match cs,h with
 | [a,b],_=>exact ⟨a,b,rfl⟩
set_option maxRecDepth 100000 in
theorem open_sd {H:Type} {enc:TypeId×Value→H} {W:World} {base fuel:Nat} {sp:Nat→Bool} {held:Bool} {cs:List Value} {x:DataW H×List MemPlace}
  (hf:DataW.trod enc Tryz.prog W base sp held fuel 107 cs=some x):∃ s:Sd,cs=(sdArr s).toList∧SdOk W s:=by
 obtain ⟨y0,y1,n,_,hl,h0,h1⟩:=trod_struct2 Tryz.underlying107 hf;obtain ⟨c0,c1,rfl⟩:=list2 (hl.trans (show Tryz.prog.cellsOf 107=2 by kernel_rfl));have eS:Tryz.prog.cellsOf 9=1:=by kernel_rfl
 have eC:Tryz.prog.cellsOf 105=1:=by kernel_rfl
 have k0:DataW.trod enc Tryz.prog W base sp held n 9 [c0]=some y0:=by simpa [eS] using h0
 have k1:DataW.trod enc Tryz.prog W base sp held n 105 [c1]=some y1:=by simpa [eS,eC] using h1
 obtain ⟨s,f1,_,ws⟩:=DataW.trod_string Tryz.underlying9 k0;simp at f1;subst f1;obtain ⟨ao,cap,L,rfl,h2,h3,h4⟩:=open_cells0 k1;exact ⟨⟨s,L,ao,cap⟩,rfl,ws,h2,h3,h4⟩
set_option maxRecDepth 100000 in
theorem open_sds0 {H:Type} {enc:TypeId×Value→H} {W:World} {base fuel:Nat} {sp:Nat→Bool} {held:Bool} {v:Value} {x:DataW H×List MemPlace}
  (hf:DataW.trod enc Tryz.prog W base sp held fuel 22 [v]=some x) :
  ∃ ao cap,∃ S:List Sd,v=.slice ao S.length cap∧SdsLen S∧SdsAt W ao S∧∀ s∈S,∀ c∈s.L,AgOk c.g:=by
 rcases Deep.open_slice Tryz.underlying22 hf with ⟨hcs,hx⟩ | ⟨a,ln,cap,m,n,D,P,hcs,_,hl,hm,hmm,hx,hcell⟩
 ·obtain rfl:v=.slice none 0 0:=by simpa using hcs
  exact ⟨none,0,[],rfl,⟨Nat.zero_le _,fun c hc=>absurd hc List.not_mem_nil,fun c hc=>absurd hc List.not_mem_nil⟩,⟨fun h=>absurd h (Nat.lt_irrefl 0),fun c hc=>absurd hc List.not_mem_nil⟩,fun c hc=>absurd hc List.not_mem_nil⟩
 ·obtain rfl:v=.slice (some a) ln cap:=by simpa using hcs
  rw [show Tryz.prog.cellsOf 107=2 by kernel_rfl] at hcell;have hlm:ln≤m:=by rw [hmm];split <;> omega
  have each:∀ i,i<ln→∃ s:Sd,(∀ j,j<2→W.cell? ((a.add (i*2)).add j)=(sdArr s).toList[j]?)∧SdOk W s:=fun i hi=>by
   obtain ⟨cs',h1,h2⟩:=hcell i (by omega);obtain ⟨s,rfl,ok⟩:=open_sd h2;obtain ⟨_,_,h3⟩:=World.cells?_some h1;exact ⟨s,h3,ok⟩
  obtain ⟨f,hf⟩:=Deep.choose_lt (α:=Sd) each;have hlen:((List.range ln).map f).length=ln:=by simp
  have mem:∀ s∈(List.range ln).map f,SdOk W s:=fun s hs=>by
   obtain ⟨i,hi,rfl⟩:=List.mem_map.1 hs;exact (hf i (List.mem_range.1 hi)).2
  refine ⟨some a,cap,(List.range ln).map f,by rw [hlen],⟨by rw [hlen];omega,fun s hs=>(mem s hs).n,fun s hs=>(mem s hs).l⟩,⟨fun h0=>?_,fun s hs=>(mem s hs).m⟩,fun s hs=>(mem s hs).g⟩;rw [hlen] at h0;have g0:=(hf 0 h0).1 0 (by omega);obtain ⟨b,off,spot⟩:=a
  have hspot:spot=none:=by
   have g1:W.cell? ⟨b,off,spot⟩=some (.string (f 0).nm):=by simpa [Addr.add,sdArr] using g0
   exact World.cell?_spot g1
  subst hspot;refine ⟨b,off,rfl,fun i x hi=>?_⟩;have hil:=(List.getElem?_eq_some_iff.1 hi).1;rw [hlen] at hil
  have e:x=f i:=by
   have:=(List.getElem?_eq_some_iff.1 hi).2
   simpa using this.symm
  subst e;have q:=(hf i hil).1;simp only [Addr.add_lit] at q;exact ⟨q 0 (by omega),q 1 (by omega)⟩
set_option maxRecDepth 100000 in
theorem open_pipe {H:Type} {enc:TypeId×Value→H} {W:World} {r:Reach} {b0 base:Nat} {sp:Nat→Bool} {held:Bool} {v:Value} {d:DataW H} {ps:List MemPlace}
  (hval:Value.okWide Tryz.prog W r b0 24 v) (hd:DataW.Trod enc Tryz.prog W base sp held 24 v d ps) :
  ∃ ao cap,∃ S:List Sd,∃ p:Pi,v=.agg (piArr (.slice ao S.length cap) p)∧SdsLen S∧SdsAt W ao S∧(∀ s∈S,∀ c∈s.L,AgOk c.g)∧I64 p.a∧I64 p.b∧I64 p.c∧I64 p.d:=by
 obtain ⟨cs,rfl,hsz⟩:=okWide_struct Tryz.underlying24 hval;obtain ⟨c0,c1,c2,c3,c4,rfl⟩:=array5 (hsz.trans (show Tryz.prog.cellsOf 24=5 by kernel_rfl));obtain ⟨fuel,hf⟩:=hd;obtain ⟨xs,n,_,_,_,hlen,hfs⟩:=DataW.trod_struct Tryz.underlying24 hf;have eI:Tryz.prog.cellsOf 2=1:=by kernel_rfl
 have eS:Tryz.prog.cellsOf 22=1:=by kernel_rfl
 match xs,hlen with
 | [y0,y1,y2,y3,y4],_=>
  have k0:DataW.trod enc Tryz.prog W base sp held n 22 [c0]=some y0:=by simpa [Value.cells,eS] using hfs 0 _ rfl
  have k1:DataW.trod enc Tryz.prog W base sp held n 2 [c1]=some y1:=by simpa [Value.cells,eI,eS] using hfs 1 _ rfl
  have k2:DataW.trod enc Tryz.prog W base sp held n 2 [c2]=some y2:=by simpa [Value.cells,eI,eS] using hfs 2 _ rfl
  have k3:DataW.trod enc Tryz.prog W base sp held n 2 [c3]=some y3:=by simpa [Value.cells,eI,eS] using hfs 3 _ rfl
  have k4:DataW.trod enc Tryz.prog W base sp held n 2 [c4]=some y4:=by simpa [Value.cells,eI,eS] using hfs 4 _ rfl
  obtain ⟨a1,f1,_,w1⟩:=DataW.trod_int Tryz.underlying2 k1;obtain ⟨a2,f2,_,w2⟩:=DataW.trod_int Tryz.underlying2 k2;obtain ⟨a3,f3,_,w3⟩:=DataW.trod_int Tryz.underlying2 k3;obtain ⟨a4,f4,_,w4⟩:=DataW.trod_int Tryz.underlying2 k4;obtain ⟨ao,cap,S,rfl,h2,h3,h4⟩:=open_sds0 k0;simp at f1 f2 f3 f4;subst f1 f2 f3 f4;exact ⟨ao,cap,S,⟨a1,a2,a3,a4⟩,rfl,h2,h3,h4,bounds_i64 w1,bounds_i64 w2,bounds_i64 w3,bounds_i64 w4⟩
end Go.Proofs.YtmjogablacnlgaaGreatDoor
