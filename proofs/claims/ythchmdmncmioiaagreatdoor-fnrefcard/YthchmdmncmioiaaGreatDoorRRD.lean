/-
 Parts of samples, brought together, come to the cells of all.
-/
import Derived.Test.YthchmdmncmioiaaGreatDoorRRC
namespace Go.Proofs.YthchmdmncmioiaaGreatDoor
set_option linter.unusedVariables false
set_option linter.unusedSimpArgs false
open Go.ChangeShapes Go.WideShapes Go.ChangeAt Go.RowKit Go.PlainAid Go.Lib
set_option maxRecDepth 10000
theorem asc_uniq {L:List Ce} (h:AscC L) {n:Int} {s:ByteArray} {a b:Ag} (ha:(n,s,a)∈L.map Ce.key) (hb:(n,s,b)∈L.map Ce.key):a=b:=by
 obtain ⟨c,hc,c1,c2,c3⟩:=mem_key.1 ha;obtain ⟨d,hd,d1,d2,d3⟩:=mem_key.1 hb;have:=asc_one_key h hc hd (c1.trans d1.symm) (c2.trans d2.symm);rw [← c3,← d3,this]
theorem hasK_mem {L:List Ce} {n:Int} {s:ByteArray}:HasK L n s↔∃ g,(n,s,g)∈L.map Ce.key:=by
 constructor
 ·rintro ⟨c,hc,rfl,rfl⟩;exact ⟨c.g,mem_key.2 ⟨c,hc,rfl,rfl,rfl⟩⟩
 ·rintro ⟨g,h⟩;obtain ⟨c,hc,c1,c2,_⟩:=mem_key.1 h;exact ⟨c,hc,c1,c2⟩
theorem mgs_mem {A B M:List Ce} (h:Mgs A B M) (ha:AscC A):AscC B→∀ n s g,(n,s,g)∈M.map Ce.key↔((n,s,g)∈A.map Ce.key∧¬ HasK B n s)∨((n,s,g)∈B.map Ce.key∧¬ HasK A n s)∨∃ a b,(n,s,a)∈A.map Ce.key∧(n,s,b)∈B.map Ce.key∧g=mrgF a b:=by
 induction h with
 | nil R h=>
  intro _ n s g;rw [h];constructor
  ·exact fun q=>.inl ⟨q,fun ⟨c,hc,_⟩=>by cases hc⟩
  ·rintro (q | q | ⟨a,b,_,q,_⟩)
   ·exact q.1
   ·simp at q
   ·simp at q
 | snoc B R R' c h m ih=>
  intro hb n s g;obtain ⟨hB,_,hx⟩:=List.pairwise_append.1 hb;have hno:¬ HasK B c.n c.s:=fun ⟨b,hb,e1,e2⟩=>cAh_ne (hx b hb c (by simp)) ⟨e1,e2⟩;have ih:=ih hB;have hR:=h.asc ha
  have hmB:∀ g',(n,s,g')∈(B ++ [c]).map Ce.key↔(n,s,g')∈B.map Ce.key∨(c.n=n∧c.s=s∧c.g=g'):=fun g'=>by
   rw [mem_key,mem_key];constructor
   ·rintro ⟨d,hd,q⟩
    rcases List.mem_append.1 hd with r | r
    ·exact .inl ⟨d,r,q⟩
    ·obtain rfl:d=c:=by simpa using r
     exact .inr q
   ·rintro (⟨d,hd,q⟩ | q)
    ·exact ⟨d,by simp [hd],q⟩
    ·exact ⟨c,by simp,q⟩
  have hhB:HasK (B ++ [c]) n s↔HasK B n s∨(c.n=n∧c.s=s):=by
   rw [hasK_mem,hasK_mem];constructor
   ·rintro ⟨g',q⟩
    rcases (hmB g').1 q with q | q
    ·exact .inl ⟨g',q⟩
    ·exact .inr ⟨q.1,q.2.1⟩
   ·rintro (⟨g',q⟩ | q)
    ·exact ⟨g',(hmB g').2 (.inl q)⟩
    ·exact ⟨c.g,(hmB c.g).2 (.inr ⟨q.1,q.2,rfl⟩)⟩
  by_cases hk:c.n=n∧c.s=s
  ·obtain ⟨rfl,rfl⟩:=hk
   have hnB:∀ g',¬ (c.n,c.s,g')∈B.map Ce.key:=fun g' q=>hno (hasK_mem.2 ⟨g',q⟩)
   have inA:∀ g',(c.n,c.s,g')∈R.map Ce.key↔(c.n,c.s,g')∈A.map Ce.key:=fun g'=>by
    rw [ih];constructor
    ·rintro (q | q | ⟨a,b,_,q,_⟩)
     ·exact q.1
     ·exact absurd q.1 (hnB _)
     ·exact absurd q (hnB _)
    ·exact fun q=>.inl ⟨q,hno⟩
   have inB:∀ g',(c.n,c.s,g')∈(B ++ [c]).map Ce.key↔c.g=g':=fun g'=>by
    rw [hmB];exact ⟨fun q=>q.elim (fun q=>absurd q (hnB _)) (fun q=>q.2.2),fun q=>.inr ⟨rfl,rfl,q⟩⟩
   have hyes:HasK (B ++ [c]) c.n c.s:=hhB.2 (.inr ⟨rfl,rfl⟩);rcases m with ⟨d,o,hd,d1,d2,d3,d4,hP⟩ | ⟨hn,hP⟩
   ·have dA:(c.n,c.s,d.g)∈A.map Ce.key:=(inA _).1 (mem_key.2 ⟨d,hd,d1,d2,rfl⟩)
    rw [ptl_mem hP];constructor
    ·rintro (q | ⟨_,q⟩)
     ·simp only [Prod.mk.injEq,true_and] at q
      exact .inr (.inr ⟨d.g,c.g,dA,(inB _).2 rfl,by rw [q];exact mrgF_eq d4⟩)
     ·exact absurd ⟨rfl,rfl⟩ q
    ·rintro (q | q | ⟨a,b,q1,q2,q3⟩)
     ·exact absurd hyes q.2
     ·exact absurd (hasK_mem.2 ⟨_,dA⟩) q.2
     ·left
      rw [q3,asc_uniq ha q1 dA,← (inB b).1 q2,← mrgF_eq d4]
   ·have hnA:¬ HasK A c.n c.s:=fun q=>by
     obtain ⟨g',q⟩:=hasK_mem.1 q;exact hn (hasK_mem.2 ⟨g',(inA g').2 q⟩)
    rw [ptl_mem hP];constructor
    ·rintro (q | ⟨_,q⟩)
     ·simp only [Prod.mk.injEq,true_and] at q
      exact .inr (.inl ⟨(inB g).2 q.symm,hnA⟩)
     ·exact absurd ⟨rfl,rfl⟩ q
    ·rintro (q | q | ⟨a,b,q1,q2,q3⟩)
     ·exact absurd hyes q.2
     ·left
      rw [(inB g).1 q.1]
     ·exact absurd (hasK_mem.2 ⟨_,q1⟩) hnA
  ·have e1:∀ g',(n,s,g')∈(B ++ [c]).map Ce.key↔(n,s,g')∈B.map Ce.key:=fun g'=>by
    rw [hmB];exact ⟨fun q=>q.elim id (fun q=>absurd ⟨q.1,q.2.1⟩ hk),.inl⟩
   have e2:HasK (B ++ [c]) n s↔HasK B n s:=by
    rw [hhB];exact ⟨fun q=>q.elim id (fun q=>absurd q hk),.inl⟩
   have e3:(n,s,g)∈R'.map Ce.key↔(n,s,g)∈R.map Ce.key:=by
    have:∀ o,PtL R c.n c.s o R'→((n,s,g)∈R'.map Ce.key↔(n,s,g)∈R.map Ce.key):=fun o hP=>by
     rw [ptl_mem hP];constructor
     ·rintro (q | ⟨q,_⟩)
      ·simp only [Prod.mk.injEq] at q
       exact absurd ⟨q.1.symm,q.2.1.symm⟩ hk
      ·exact q
     ·exact fun q=>.inr ⟨q,fun r=>hk ⟨r.1.symm,r.2.symm⟩⟩
    rcases m with ⟨d,o,_,_,_,_,_,hP⟩ | ⟨_,hP⟩
    ·exact this o hP
    ·exact this _ hP
   rw [e3,ih,e1,e2];simp only [e1]
theorem CoI.mgs {A B:List St} {R R1 R2 M:List Ce} (h:CoI (A ++ B) R) (ok:∀ s∈A ++ B,s.x.Ok) (h1:CoI A R1) (h2:CoI B R2) (m:Mgs R1 R2 M):M.map Ce.key=R.map Ce.key:=by
 obtain ⟨sa,c⟩:=h.m ok;obtain ⟨_,c1⟩:=h1.m (fun s hs=>ok s (by simp [hs]));obtain ⟨_,c2⟩:=h2.m (fun s hs=>ok s (by simp [hs]));refine asc_ext (m.asc c1.asc) c.asc (fun ⟨n,s,g⟩=>?_)
 have sx:∀ y∈sel A n s ++ sel B n s,∀ x∈sel A n s ++ sel B n s,SxG y.k x:=fun y hy=>by
  have:=sa.sx (n:=n) (s:=s) (y:=y) (by rw [sel_app];exact hy);rw [sel_app] at this;exact this
 have no1:¬ HasK R1 n s↔sel A n s=[]:=by rw [c1.has];exact Classical.not_not
 have no2:¬ HasK R2 n s↔sel B n s=[]:=by rw [c2.has];exact Classical.not_not
 rw [mgs_mem m c1.asc c2.asc,c.mem,sel_app,c1.mem,c2.mem,no1,no2];constructor
 ·rintro (⟨⟨y,hy,e⟩,q⟩ | ⟨⟨y,hy,e⟩,q⟩ | ⟨a,b,ha,hb,e⟩)
  ·exact ⟨y,by simp [hy],by rw [q,List.append_nil];exact e⟩
  ·exact ⟨y,by simp [hy],by rw [q,List.nil_append];exact e⟩
  ·obtain ⟨y,hy,ea⟩:=(c1.mem _ _ _).1 ha
   obtain ⟨z,hz,eb⟩:=(c2.mem _ _ _).1 hb;have k1:=sx y (by simp [hy]);have ez:z.k=y.k:=(k1 z (by simp [hz])).k;refine ⟨y,by simp [hy],?_⟩;rw [e,ea,eb,ez];exact fo_mrg (List.ne_nil_of_mem hy) (fun x hx=>k1 x (by simp [hx])) (fun x hx=>k1 x (by simp [hx]))
 ·rintro ⟨y,hy,e⟩
  have k1:=sx y hy;by_cases q1:sel A n s=[]
  ·rw [q1,List.nil_append] at hy e
   exact .inr (.inl ⟨⟨y,hy,e⟩,q1⟩)
  ·by_cases q2:sel B n s=[]
   ·rw [q2,List.append_nil] at hy e
    exact .inl ⟨⟨y,hy,e⟩,q2⟩
   ·obtain ⟨u,hu⟩:=List.exists_mem_of_ne_nil _ q1
    obtain ⟨v,hv⟩:=List.exists_mem_of_ne_nil _ q2;have eu:u.k=y.k:=(k1 u (by simp [hu])).k;have ev:v.k=y.k:=(k1 v (by simp [hv])).k;refine .inr (.inr ⟨fo y.k (sel A n s),fo y.k (sel B n s),(c1.mem _ _ _).2 ⟨u,hu,by rw [eu]⟩,(c2.mem _ _ _).2 ⟨v,hv,by rw [ev]⟩,?_⟩);rw [e];exact (fo_mrg q1 (fun x hx=>k1 x (by simp [hx])) (fun x hx=>k1 x (by simp [hx]))).symm
theorem asc_take_no {L:List Ce} (h:AscC L) {k:Nat} {c:Ce} (e:L[k]?=some c):¬ HasK (L.take k) c.n c.s:=by
 rintro ⟨d,hd,e1,e2⟩;obtain ⟨i,hi,rfl⟩:=List.getElem_of_mem hd;obtain ⟨hk,rfl⟩:=List.getElem?_eq_some_iff.1 e;rw [List.length_take] at hi;have:=(List.pairwise_iff_getElem.1 h) i k (by omega) hk (by omega);rw [List.getElem_take] at e1 e2;exact cAh_ne this ⟨e1,e2⟩
theorem CoI.mga {A B:List St} {R R1 R2 R0:List Ce} (h:CoI (A ++ B) R) (ok:∀ s∈A ++ B,s.x.Ok) (h1:CoI A R1) (h2:CoI B R2) (m:MgA R1 R2 R0):R0.map Ce.key=R.map Ce.key:=by
 have o1:∀ s∈A,s.x.Ok:=fun s hs=>ok s (by simp [hs]);have o2:∀ s∈B,s.x.Ok:=fun s hs=>ok s (by simp [hs]);have l60:=(csR_iff.1 (h.right ok).1).1;obtain ⟨sa,c⟩:=h.m ok;obtain ⟨sa1,c1⟩:=h1.m o1;obtain ⟨sa2,c2⟩:=h2.m o2;unfold MgA at m;rw [if_pos ⟨(h1.right o1).1,(h2.right o2).1⟩] at m;rcases m with ⟨M,m,q⟩ | ⟨⟨k,d,M,e,m,e',he',d1,d2,d3⟩,_⟩
 ·have em:=h.mgs ok h1 h2 m
  have el:=congrArg List.length em;simp only [List.length_map] at el;rw [if_pos (by omega)] at q;exact q.trans em
 ·exfalso
  have hno:=asc_take_no c2.asc e;have as2:AscC (R2.take k):=c2.asc.sublist (List.take_sublist _ _);have hm:=(mgs_mem m c1.asc as2 d.n d.s e'.g).1 (mem_key.2 ⟨e',he',d1,d2,rfl⟩);rcases hm with ⟨q,_⟩ | ⟨q,_⟩ | ⟨a,b,_,q,_⟩
  ·obtain ⟨y,hy,ea⟩:=(c1.mem _ _ _).1 q
   obtain ⟨z,hz,eb⟩:=(c2.mem _ _ _).1 (mem_key.2 ⟨d,List.mem_of_getElem? e,rfl,rfl,rfl⟩);have g1:=(fo_good (List.ne_nil_of_mem hy) (sa1.sx hy)).k;have g2:=(fo_good (List.ne_nil_of_mem hz) (sa2.sx hz)).k;rw [← ea] at g1;rw [← eb] at g2;obtain ⟨u,hu,u1,u2,rfl⟩:=sel_mem.1 hy;obtain ⟨v,hv,v1,v2,rfl⟩:=sel_mem.1 hz;exact d3 (g1.trans ((sa.k u (by simp [hu]) v (by simp [hv]) (u1.trans v1.symm) (u2.trans v2.symm)).trans g2.symm))
  ·exact hno (hasK_mem.2 ⟨_,q⟩)
  ·exact hno (hasK_mem.2 ⟨_,q⟩)
open Go.Maps
def MgP (w:World) (a b:List Ce) (e:Ending) (w':World):Prop:=∃ v R,e=.returned v∧MgA a b R∧OwnC w' w.heap.size v R∧CesO w' w.heap.size R∧Below w.heap.size w w'
theorem MgP.none {w w':World} {a b:List Ce} (h:MgA a b []) (hb:Below w.heap.size w w'):MgP w a b (.returned (.slice none 0 0)) w':=⟨_,[],rfl,h,OwnC.nil _ _,CesO.nil _ _,hb⟩
structure CnL (w wr:World) (bm N:Nat) (a b:List Ce) (k:Nat) (M:List Ce):Prop where
 mp:MpC wr bm (N+k) M
 o:CesO wr (bm+1) M
 asc:AscC M
 mg:Mgs a (b.take k) M
 q:CnQ M
 b:Below w.heap.size w wr
 lo:w.heap.size≤bm
theorem cnq_of {w:World} {ao:Option Addr} {N:Nat} {L:List Ce} (h:ShI w ao N L) (r:csR L=true):CnQ L:=⟨h.ok,h.sm,fun c hc=>cRi_ag ((csR_iff.1 r).2.1 c hc),right_keys h r⟩
theorem CnL.step {w wr w6 W7:World} {bm N:Nat} {a b:List Ce} {k:Nat} {M:List Ce} {c:Ce} {g og:Ag} {p q:Pl} (h:CnL w wr bm N a b k M) (hc:b[k]?=some c) (qc:AgOk c.g∧AgSm c.g∧agB c.g=true∧KeyOk c.n c.s) (af:AfA M c.n c.s c.g.k g p 0) (hp:AgMrg g c.g og) (hb6:Below wr.heap.size wr w6) (ho:AgO w6 wr.heap.size og q) {D:DataW Value} (hD:w6.ownsMap Tryz.prog 85 rA bm (N+k) D) (hH:HoldsC D M)
  (hD7:W7.ownsMap Tryz.prog 85 rA bm (N+k+1) (D.put (kL c.n c.s) (heldC ⟨c.n,c.s,og,q⟩))) (hg7:w6.grownBy W7 (some bm)):CnL w W7 bm N a b (k+1) (M.filter (loF c.n c.s) ++ ⟨c.n,c.s,og,q⟩ :: M.filter (hiF c.n c.s)):=by
 have pt:PtL M c.n c.s og (M.filter (loF c.n c.s) ++ ⟨c.n,c.s,og,q⟩ :: M.filter (hiF c.n c.s)):=by unfold PtL;rw [List.map_append,List.map_cons];rfl
 have ms:MsA M c (M.filter (loF c.n c.s) ++ ⟨c.n,c.s,og,q⟩ :: M.filter (hiF c.n c.s)):=by
  rcases af.a with ⟨d,hd,e1,e2,e3,rfl,rfl,_⟩ | ⟨d,hd,_,_,_,_,_,e⟩ | ⟨hn,rfl,rfl,_⟩
  ·exact .inl ⟨d,og,hd,e1,e2,e3,hp,pt⟩
  ·cases e
  ·obtain rfl:=new_mrg qc.1 qc.2.2.1 hp
   exact .inr ⟨hn,pt⟩
 refine ⟨⟨_,hD7,putMap (c':=⟨c.n,c.s,og,q⟩) hH (hD.tidy keyC) h.asc qc.2.2.2 af⟩,(putCes (c':=⟨c.n,c.s,og,q⟩) h.o hb6 (Nat.succ_le_of_lt h.mp.lt) ho).grown hg7 (Nat.lt_succ_self _),put_asc (c:=⟨c.n,c.s,og,q⟩) h.asc,?_,h.q.step ms qc.1 qc.2.1 qc.2.2.1 qc.2.2.2,?_,h.lo⟩
 ·rw [List.take_add_one,hc];exact .snoc _ _ _ _ h.mg ms
 ·exact (h.b.trans (hb6.mono h.b.size)).grown hg7 (Nat.le_trans h.b.size hb6.size) (fun j hj=>by cases hj;exact h.lo)
theorem CnL.past {w wr w':World} {bm N:Nat} {a b:List Ce} {k:Nat} {M:List Ce} (h:CnL w wr bm N a b k M) (hb:Below wr.heap.size wr w'):CnL w w' bm N a b k M:=⟨h.mp.past hb,h.o.past hb,h.asc,h.mg,h.q,chain h.b hb,h.lo⟩
set_option maxHeartbeats 8000000 in
theorem c_i_CellsMerge {w:World} {ao bo:Option Addr} {N K ca cb:Nat} {a b:List Ce} (hm:MX w) (hI:ShI w ao N a) (hJ:ShI w bo K b) :
  Calls Tryz.prog 15 #[.slice ao N ca,.slice bo K cb] w (MgP w a b):=by
 have II:=hide hI;have JJ:=hide hJ;have HM:=hide hm;have HAl:Hid (∀ (X:World) o,Below X.heap.size X (X.alloc o)):=fun X o=>(Below.refl _ _).alloc (Nat.le_refl _) _;clear hI hJ hm;go_enter Tryz.func15,Tryz.ntmps15;go_wp2_with fail;refine (c_i_CellsRight II.out.hN II.out.lN II.out.ok II.out.sm II.out.ss HM.out II.out.mem).mono ?_;rintro e w1 ⟨rfl,hb1⟩;have HT1:=hide hb1;clear hb1
 cases h1:csR a with
 | false=>
  have HA:Hid (MgA a b []):=MgA.no (fun q=>by rw [h1] at q;cases q.1);clear h1;go_wp2;go_ret;exact MgP.none HA.out HT1.out
 | true=>
  have H1:=hide h1;clear h1;go_wp2_with fail;refine (c_i_CellsRight JJ.out.hN JJ.out.lN JJ.out.ok JJ.out.sm JJ.out.ss (HM.out.past HT1.out) (ces_past JJ.out.mem HT1.out)).mono ?_;rintro e w2 ⟨rfl,hb2⟩;have HT2:=hide (chain HT1.out hb2);clear hb2 HT1
  cases h2:csR b with
  | false=>
   have HA:Hid (MgA a b []):=MgA.no (fun q=>by rw [h2] at q;cases q.2);clear h2;go_wp2;go_ret;exact MgP.none HA.out HT2.out
  | true=>
   have HH:Hid (csR a=true∧csR b=true):=⟨H1.out,h2⟩;have QA:=hide (cnq_of II.out H1.out);have QB:=hide (cnq_of JJ.out h2);have RA:=hide (csR_iff.1 H1.out).2.2;clear h2;go_wp2_with fail;refine (c_mapOfCells II.out.hN II.out.lN RA.out.ap QA.out.ky II.out.sm II.out.pl (ces_past II.out.mem HT2.out)).mono ?_;rintro e w3 ⟨M0,rfl,hMp,hky,hO,hb3⟩;have I0:Hid (CnL w w3 w2.heap.size N a b 0 M0):=⟨hMp,hO,asc_key hky RA.out,.nil _ hky,QA.out.keys hky,chain HT2.out hb3,HT2.out.size⟩;have lNK:N≤60∧K≤60:=by have:=(csR_iff.1 HH.out.1).1;have:=(csR_iff.1 HH.out.2).1;have:=II.out.hN;have:=JJ.out.hN;omega
   obtain ⟨lN60,lK60⟩:=lNK;clear hMp hky hO hb3;generalize w2.heap.size=bm at I0 ⊢;clear HT2;go_wp2
   go_loopw [23] (fun i wr=>∃ (k:Nat) (M:List Ce),k≤K∧i=.int .i64 k∧Hid (CnL w wr bm N a b k M)) (fun i wr=>K - (Go.RowKit.intOf i).toNat)
   case atStart=>exact ⟨0,M0,Nat.zero_le _,rfl,I0⟩
   case round=>
    clear I0;obtain ⟨k,M,hk,rfl,HI⟩:=hrel;by_cases hkn:k<K
    ·have hkni:(k:Int)<(K:Int):=by omega
     obtain ⟨bb,off,e,hcell⟩:=JJ.out.mem.1 (by have:=JJ.out.hN;omega);obtain ⟨c,hc⟩:∃ c,b[k]?=some c:=⟨b[k]'(by have:=JJ.out.hN;omega),List.getElem?_eq_getElem _⟩;subst e;obtain ⟨x0,x1,x2,x3,x4,x5,x6,x7,x8,x9,x10,x11,x12,x13,x14⟩:=cec_past (hcell k c hc) HI.out.b;have hm:=List.mem_of_getElem? hc;have HC:=hide hc;have QC:Hid (AgOk c.g∧AgSm c.g∧agB c.g=true∧KeyOk c.n c.s):=⟨QB.out.ok c hm,QB.out.sm c hm,QB.out.rt c hm,QB.out.ky c hm⟩;have AC:=hide (ag_past (JJ.out.mem.2 c hm) HI.out.b);have hn:=agB_no QC.out.2.2.1;have hk1:=hn.k1;have hk4:=hn.k4;have X1:=hide (heap_alloc_new wr (.cells (ceArr c) 51));have HI1:=hide (HI.out.past (HAl.out wr (.cells (ceArr c) 51)));have A1:=hide (ag_past AC.out (HAl.out wr (.cells (ceArr c) 51)));clear hcell hc hm hn;go_upto_region 7 with fail;clear x0 x1 x2 x3 x4 x5 x6 x7 x8 x9 x10 x11 x12 x13 x14;generalize wr.alloc (.cells (ceArr c) 51)=W1 at X1 HI1 A1 ⊢;generalize wr.heap.size=rc at X1 ⊢;clear HI AC;have x0:=cellKC X1.out 0 rfl;have x1:=cellKC X1.out 1 rfl;have x2:=cellKC X1.out 2 rfl;have x3:=cellKC X1.out 3 rfl;have x4:=cellKC X1.out 4 rfl;have x5:=cellKC X1.out 5 rfl;have x6:=cellKC X1.out 6 rfl;have x7:=cellKC X1.out 7 rfl;have x8:=cellKC X1.out 8 rfl;have x9:=cellKC X1.out 9 rfl;have x10:=cellKC X1.out 10 rfl;have x11:=cellKC X1.out 11 rfl;have x12:=cellKC X1.out 12 rfl;have x13:=cellKC X1.out 13 rfl;have x14:=cellKC X1.out 14 rfl;go_wp2_with fail;clear x0 x1 x2 x3 x4 x5 x6 x7 x8 x9 x10 x11 x12 x13 x14;refine (c_keyOf c _).mono ?_;rintro e w2 ⟨rfl,hb2⟩;have hb2':=chain hb2 (HAl.out w2 (.cells #[.int .i64 c.n,.string c.s] 85));have HI2:=hide (HI1.out.past hb2');have A2:=hide (ag_past A1.out hb2');have X2:=hide (row_pastP X1.out hb2');have K2:=hide (heap_alloc_new w2 (.cells #[.int .i64 c.n,.string c.s] 85));clear hb2 hb2' HI1 A1 X1;go_upto_region 8 with fail;generalize w2.alloc (.cells #[.int .i64 c.n,.string c.s] 85)=W2 at HI2 A2 X2 K2 ⊢;generalize w2.heap.size=rk at K2 ⊢;have x2:=cellKC X2.out 2 rfl;have q0:=cellKC K2.out 0 rfl;have q1:=cellKC K2.out 1 rfl;go_wp2_with fail;clear x2 q0 q1;refine (c_aggFor c.n c.s c.g.k HI2.out.mp QC.out.2.2.2 hk1 hk4).mono ?_;rintro e w4 ⟨g,p,code,rfl,haf,hb4⟩;have AF:=hide haf;by_cases hcode:code=0
     ·have bc:(code != 0)=false:=by simp [hcode]
      have HC0:=hide hcode;have hb5:=chain hb4 (HAl.out w4 (.cells (agArr g p) 49));have HI5:=hide (HI2.out.past hb5);have A5:=hide (ag_past A2.out hb5);have X5:=hide (row_pastP X2.out hb5);have K5:=hide (row_pastP K2.out hb5);have G5:=hide (heap_alloc_new w4 (.cells (agArr g p) 49));clear hb4 hb5 hcode HI2 A2 X2 K2 haf;go_upto_region 11 with fail;generalize w4.alloc (.cells (agArr g p) 49)=W5 at HI5 A5 X5 K5 G5 ⊢;generalize w4.heap.size=rg at G5 ⊢;have AF0:Hid (AfA M c.n c.s c.g.k g p 0):=HC0.out ▸ AF.out;obtain ⟨gok,gsm,gao⟩:=af_ag AF.out hk1 hk4 HI5.out.o HI5.out.q.ok HI5.out.q.sm HC0.out;have GK:=hide gok;have GS:=hide gsm;have GO:=hide gao;clear gok gsm gao;have HS0:(fun W=>Below W5.heap.size W5 W) W5.drew:=(Below.refl _ _).drew;refine regionK (fun W=>Below W5.heap.size W5 W) 6 (by kernel_rfl) ?_;refine tkS (i:=0) (v:=.map (some bm)) rfl rfl HS0 ?_;refine tkL (i:=1) (v:=.agg #[.int .i64 c.n,.string c.s]) rfl rfl HS0 (fun W hW=>?_) ?_
      ·have q0:=cell_past hW (cellKC K5.out 0 rfl)
       have q1:=cell_past hW (cellKC K5.out 1 rfl);clear hW;go_simp
      refine tkL (i:=2) (v:=.agg (agArr g p)) rfl rfl HS0 (fun W hW=>?_) ?_
      ·have GG:=row_pastP G5.out hW
       have q0:=cellKC GG 0 rfl;have q1:=cellKC GG 1 rfl;have q2:=cellKC GG 2 rfl;have q3:=cellKC GG 3 rfl;have q4:=cellKC GG 4 rfl;have q5:=cellKC GG 5 rfl;have q6:=cellKC GG 6 rfl;have q7:=cellKC GG 7 rfl;have q8:=cellKC GG 8 rfl;have q9:=cellKC GG 9 rfl;have q10:=cellKC GG 10 rfl;have q11:=cellKC GG 11 rfl;have q12:=cellKC GG 12 rfl;clear GG;clear hW;go_simp
      simp only [sA,sB,sC];refine tkS (i:=3) (v:=.pointer (some ⟨rc,2,none⟩)) rfl rfl HS0 ?_;refine tkL (i:=4) (v:=.agg (agArr c.g c.p)) rfl rfl HS0 (fun W hW=>?_) ?_
      ·have GG:=row_pastP X5.out hW
       have q2:=cellKC GG 2 rfl;have q3:=cellKC GG 3 rfl;have q4:=cellKC GG 4 rfl;have q5:=cellKC GG 5 rfl;have q6:=cellKC GG 6 rfl;have q7:=cellKC GG 7 rfl;have q8:=cellKC GG 8 rfl;have q9:=cellKC GG 9 rfl;have q10:=cellKC GG 10 rfl;have q11:=cellKC GG 11 rfl;have q12:=cellKC GG 12 rfl;have q13:=cellKC GG 13 rfl;have q14:=cellKC GG 14 rfl;clear GG;clear hW;go_simp
      simp only [sA,sB,sC];refine onE (i:=5) rfl (fun K hK=>?_);go_simp;refine (c_i_AggMerge GK.out QC.out.1 GS.out QC.out.2.1 (ag_past GO.out.at (HS0:Below W5.heap.size W5 W5.drew)) (ag_past A5.out (HS0:Below W5.heap.size W5 W5.drew))).mono ?_;rintro e w6 ⟨v,og,rfl,hpt,⟨q,rfl,ho⟩,hb6⟩;have HB6:Hid (Below W5.heap.size W5 w6):=(HS0:Below W5.heap.size W5 W5.drew).trans (hb6.mono (Nat.le_refl _));have HPT:=hide hpt;have HOG:Hid (AgO w6 W5.heap.size og q):=ho;clear hpt ho hb6;dsimp only;refine hK.out _ _ (fun _=>HB6.out) ?_;clear hK K
      try simp only [Act.put,sA,sB,sC]
      obtain ⟨D,hD,hH⟩:=HI5.out.mp.past HB6.out;obtain ⟨W7,hrun,hD7,hg7⟩:=hD.update (val:=.agg (agArr og q)) (d:=heldC ⟨c.n,c.s,og,q⟩) (ps:=[]) keyC Tryz.underlying82 (by unfold maxLen;omega) (keyOf_cell QC.out.2.2.2) rfl;have HF:=hide (HI5.out.step HC.out QC.out AF0.out HPT.out HB6.out HOG.out hD hH hD7 hg7);clear hD hH hD7 hg7;refine onE (i:=6) rfl (fun K hK=>?_);go_simp;refine hK.out _ _ (fun h=>absurd rfl h) ?_;clear hK K
      try simp only [Act.put,sA,sB,sC]
      refine doneK (by kernel_rfl) ?_ _;go_wp2;go_roundw
      case rel=>exact ⟨k+1,_,by omega,by go_num,HF⟩
      case measure=>simp [Go.RowKit.intOf];omega
     ·have bc:(code != 0)=true:=by simp [hcode]
      have hbad:MsB M c:=by
       rcases haf.a with ⟨d,hd,e1,e2,e3,_,_,e⟩ | ⟨d,hd,e1,e2,e3,_,_,e⟩ | ⟨hn,_,_,e⟩
       ·exact absurd e hcode
       ·exact ⟨d,hd,e1,e2,e3⟩
       ·exact absurd e hcode
      have HA:Hid (MgA a b []):=MgA.bad HH.out HC.out HI2.out.mg hbad;have HT4:=hide (chain (chain HI2.out.b hb4) (HAl.out w4 (.cells (agArr g p) 49)));clear hbad hcode haf hb4;go_wp2;go_ret;exact MgP.none HA.out HT4.out
    ·obtain rfl:k=K:=by omega
     have eb:b.take k=b:=List.take_of_length_le (by have:=JJ.out.hN;omega);have HG:Hid (Mgs a b M):=by have:=HI.out.mg;rw [eb] at this;exact this
     obtain ⟨D,hD,hDs⟩:=HI.out.mp.len;have HD:=hide hD;have hlM:M.length≤N+k:=by have:=HG.out.len RA.out;have:=II.out.hN;have:=JJ.out.hN;omega
     clear eb hk hkn hD;by_cases hfull:60<M.length
     ·have HA:Hid (MgA a b []):=MgA.long HH.out HG.out (by omega)
      have hs60:(60:Int)<((Maps.size D:Nat):Int):=by rw [hDs];omega
      clear hfull hDs;go_wp2_with (at_len;refine wpList_len_own _ rfl _ 82 rfl 85 49 Tryz.underlying82 _ bm (N+k) _ rfl HD.out ?_);go_ret;exact MgP.none HA.out HI.out.b
     ·have HA:Hid (MgA a b M):=MgA.ok HH.out HG.out (by omega)
      have hs60:¬ (60:Int)<((Maps.size D:Nat):Int):=by rw [hDs];omega
      have hl6:M.length≤1048576:=by omega
      clear hfull hDs;go_wp2_with (at_len;refine wpList_len_own _ rfl _ 82 rfl 85 49 Tryz.underlying82 _ bm (N+k) _ rfl HD.out ?_);refine (c_list HI.out.mp HI.out.asc hl6).mono ?_;rintro e w5 ⟨v,rfl,hv,hb5⟩;have HV:=hide (hv.le HI.out.b.size);have HO5:Hid (CesO w5 w.heap.size M):=(HI.out.o.past hb5).le (Nat.le_succ_of_le HI.out.lo);have HB5:=hide (chain HI.out.b hb5);clear hv hb5;go_wp2;go_ret;exact ⟨_,M,rfl,HA.out,HV.out,HO5.out,HB5.out⟩
end Go.Proofs.YthchmdmncmioiaaGreatDoor
