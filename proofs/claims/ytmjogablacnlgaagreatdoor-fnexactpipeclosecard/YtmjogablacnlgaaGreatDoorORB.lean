/-
 The contracts of impl.compareParts, impl.ringParts, impl.RingOf: the ring of right members.
-/
import Derived.Test.YtmjogablacnlgaaGreatDoorORA
import Derived.Test.YtmjogablacnlgaaGreatDoorOKM
import Derived.Deep.Onto
import Derived.Deep.CutBlock
namespace Go.Proofs.YtmjogablacnlgaaGreatDoor
set_option linter.unusedVariables false
set_option linter.unusedSimpArgs false
open Go.ChangeShapes Go.WideShapes Go.ChangeAt Go.RowKit Go.PlainAid Go.Lib Go.Shelf
open Go.Sort hiding Below
def encP (x:Int×Nat):List Value:=[.int .u64 x.1,.int .u64 x.2]
def encM (m:Mk):List Value:=[.int .u64 m.1,.string m.2]
theorem encP2 (x:Int×Nat):(encP x).length=2:=rfl
theorem encM2 (x:Mk):(encM x).length=2:=rfl
theorem range02 {m:Type→Type} [Monad m] {β:Type} (b:β) (f:Nat→β→m (ForInStep β)):(forIn ([0:2]:Std.Legacy.Range) b fun i r=>f i r)=(do
  match ← f 0 b with
  | .done r=>pure r
  | .yield r=>match ← f 1 r with
   | .done r=>pure r
   | .yield r=>pure r):=by
 rw [Std.Legacy.Range.forIn_eq_forIn_range']
 rfl
theorem run_equalIn_arr2 {P:Program} (w:World) (d:Nat) (t e:TypeId) (k:IntKind) (a p b q:Int) (ht:P.underlying t=some (.array 2 e)) (he:P.underlying e=some (.int k))
  (hi:∀ w,(isAgg e).run P w=.ok false w) (hz:∀ w,(sizeOf e).run P w=.ok 1 w) :
  (Op.equalIn (d+1+1) t (.agg #[.int k a,.int k p]) (.agg #[.int k b,.int k q])).run P w=.ok (a == b && p == q) w:=by
 rw [Op.equalIn];simp only [Sem.run_bind,run_underlying ht,Result.andThen_ok,hz];have p0:∀ x y w,(part e #[x,y] (0*1)).run P w=.ok x w:=fun x y w=>by simp [part,hi]
 have p1:∀ x y w,(part e #[x,y] (1*1)).run P w=.ok y w:=fun x y w=>by simp [part,hi]
 have q0:∀ x y w,(Op.equalIn (d+1) e (.int k x) (.int k y)).run P w=.ok (x == y) w:=fun x y w=>run_equalIn_int w d e k k x y he;rw [range02];simp only [Sem.run_bind,p0,q0,Result.andThen_ok];by_cases h1:a=b <;> by_cases h2:p=q <;> simp [h1,h2,p1,q0]
set_option maxRecDepth 10000 in
set_option maxHeartbeats 1000000 in
theorem eq_parts (a p b q:Int) (w:World):(binOp .eql 188 (.agg #[.int .u64 a,.int .u64 p]) (.agg #[.int .u64 b,.int .u64 q])).run Tryz.prog w=.ok (.bool (a == b && p == q)) w:=by
 have a5:=Tryz.isAgg186;have z5:=Tryz.sizeOf186;have hS:Tryz.prog.underlying 188=some (.struct (Tryz.prog.fieldsOf 188)):=by kernel_rfl
 have hp:Tryz.prog.stoodInHeld 188=false:=by kernel_rfl
 have hq:=fun w=>run_equalIn_arr2 (P:=Tryz.prog) w 9997 186 56 .u64 a p b q Tryz.underlying186 Tryz.underlying56 Tryz.isAgg56 Tryz.sizeOf56;rw [run_eql_struct,show (10000:Nat)=9999+1 from rfl,run_equalIn_agg w 9999 188 _ _ hS hp];simp only [Program.fieldsOf,Tryz.underlying188];go_simp;by_cases h1:a=b <;> by_cases h2:p=q <;> simp [h1,h2]
set_option maxRecDepth 10000 in
set_option maxHeartbeats 1000000 in
theorem c_compareParts (x y:Int×Nat) (W:World):Calls Tryz.prog 181 #[.agg #[.int .u64 x.1,.int .u64 x.2],.agg #[.int .u64 y.1,.int .u64 y.2]] W fun e w'=>e=.returned (.int .i64 (cfP x y))∧∃ q os',w'=grow (W.drewN q) os':=by
 obtain ⟨a,p⟩:=x;obtain ⟨b,q⟩:=y;have he:=eq_parts a p b q;have fin:∀ (c d:Int) (w1:World),c=d→(∃ q os',w1=grow (W.drewN q) os')→Ending.returned (.int .i64 c)=.returned (.int .i64 d)∧∃ q os',w1=grow (W.drewN q) os':=fun c d w1 h k=>⟨by rw [h],k⟩;have FIN:Hid _:=fin;have hg:∀ o1 o2:Obj,∃ q os',(W.alloc o1).alloc o2=grow (W.drewN q) os':=fun o1 o2=>⟨0,_,by rw [alloc_eq_grow,alloc_eq_grow,grow_grow];rfl⟩;have HG:Hid _:=hg;clear fin hg;by_cases e1:a=b
 ·subst e1
  by_cases e2:p=q
  ·subst e2
   have HC:Hid (0=cfP (a,p) (a,p)):=(by simp [cfP]:0=cfP (a,p) (a,p));go_enter Tryz.func181,Tryz.ntmps181;go_wp2;go_ret;exact FIN.out _ _ _ HC.out (HG.out _ _)
  ·have e3:((p:Int) == (q:Int))=false:=beq_eq_false_iff_ne.2 (by omega)
   by_cases e4:p<q
   ·have HC:Hid (-1=cfP (a,p) (a,q)):=(by simp [cfP,e2,e4]:-1=cfP (a,p) (a,q))
    have e5:(p:Int)<(q:Int):=by omega
    clear e2;go_enter Tryz.func181,Tryz.ntmps181;go_wp2;go_ret;exact FIN.out _ _ _ HC.out (HG.out _ _)
   ·have HC:Hid (1=cfP (a,p) (a,q)):=(by simp [cfP,e2,e4]:1=cfP (a,p) (a,q))
    clear e2;go_enter Tryz.func181,Tryz.ntmps181;go_wp2;go_ret;exact FIN.out _ _ _ HC.out (HG.out _ _)
 ·have e3:(a == b)=false:=beq_eq_false_iff_ne.2 e1
  by_cases e4:a<b
  ·have HC:Hid (-1=cfP (a,p) (b,q)):=(by simp [cfP,e1,e4]:-1=cfP (a,p) (b,q))
   clear e1;go_enter Tryz.func181,Tryz.ntmps181;go_wp2;go_ret;exact FIN.out _ _ _ HC.out (HG.out _ _)
  ·have HC:Hid (1=cfP (a,p) (b,q)):=(by simp [cfP,e1,e4]:1=cfP (a,p) (b,q))
   clear e1;go_enter Tryz.func181,Tryz.ntmps181;go_wp2;go_ret;exact FIN.out _ _ _ HC.out (HG.out _ _)
theorem infoP:(Tryz.prog.info? 188).map (fun i=>(i.zero,i.size,i.bytes))=some (some (.agg #[.int .u64 0,.int .u64 0]),2,16):=by kernel_rfl
theorem holdsK_owned {α:Type} [Inhabited α] {e:α→List Value} (he:∀ x,(e x).length=2) {w:World} {B g cp:Nat} {T:TypeId} {xs:List α} (h:w.ownsRow B T 2 (.slice (some ⟨g,0,none⟩) xs.length cp) xs.length (fl e xs)):HoldsK e 2 w g 0 xs.toArray:=by
 intro j hj;have hj':j<xs.length*2:=by simpa using hj
 rw [Nat.zero_add];refine ⟨?_,h.frozenAt j⟩;rw [h.cellAt j hj',get_flatK _ _ _ _ (by simpa using hj')];have hi:j / 2<xs.length:=by omega
 obtain ⟨x,hx⟩:∃ x,xs[j / 2]?=some x:=⟨_,List.getElem?_eq_getElem hi⟩;have h1:=fl_at he xs (j / 2) x (j % 2) (by omega) hx;rw [show j / 2*2+j % 2=j by omega] at h1
 have h2:xs.toArray[j / 2]! = x:=by
  have:=(List.getElem?_eq_some_iff.1 hx).2;simp [hi,this]
 rw [h1,h2];have hm:j % 2<(e x).length:=by rw [he];omega
 simp [hm]
theorem grown_sortK {α:Type} [Inhabited α] (e:α→List Value) (k:Nat) (w:World) (g o n:Nat) (d:Array α) (os:Array Obj):w.grownBy (sortWorldK e k w g o n d os) (some g):=by
 refine ⟨rfl,rfl,rfl,size_sortWorldK_c _ _ _ _ _ _ _ _,fun j hj hne=>?_⟩;unfold sortWorldK;rw [heap_grow_old _ _ (by rw [size_putRowK];exact hj)];have:g≠j:=fun e=>hne (by rw [e]);simp [putRowK,putRow,mapBlock,Sort.ahead,Array.getElem?_modify,this]
theorem ltC:ltOf cfP=ltP:=by funext x y;exact cfP_lt x y
theorem swoC:SWO (ltOf cfP):=by rw [ltC];exact swoP
theorem sorted_lt {a b:Nat} {d:Array (Int×Nat)} (h:SortedIn (ltOf cfP) a b d):SortedIn ltP a b d:=by rw [← ltC];exact h
set_option maxRecDepth 10000 in
set_option maxHeartbeats 2000000 in
theorem parts_loop {w:World} {ao:Option Addr} {L:List ByteArray} (cap:Nat) (hL:membersB L=true) (hA:StrsAt w ao L) :
  Calls Tryz.prog 141 #[.slice ao L.length cap] w fun e w'=>∃ g cp d',e=.returned (.slice (some ⟨g,0,none⟩) (8*L.length) cp)∧w.heap.size≤g∧g<w'.heap.size∧HoldsK encP 2 w' g 0 d'∧IsRing L (d'.toList.map (mkOfPr L))∧(∀ x∈d'.toList,x.2<L.length)∧d'.size=8*L.length∧Below w.heap.size w w':=by
 obtain ⟨i0,hi,hz0,hz1,hz2⟩:=info_parts infoP;obtain ⟨hl1,hl12⟩:=memb_len hL;obtain ⟨N,hN⟩:∃ N,L.length=N:=⟨_,rfl⟩;have HN:Hid (L.length=N):=hN;have HL:Hid (membersB L=true):=hL;rw [hN] at hl1 hl12;rw [hN];clear hN hL;go_enter Tryz.func141,Tryz.ntmps141;go_wp2
 go_loopw [3,9] (fun v i wr=>∃ p:Nat,p≤N∧i=.int .i64 p∧wr.ownsRow w.heap.size 188 2 v (8*p) (fl encP (prs L (8*p)))∧Below w.heap.size w wr) (fun v i wr=>N - (Go.RowKit.intOf i).toNat)
 case atStart=>exact ⟨0,Nat.zero_le _,rfl,World.ownsRow_nil _ _ _ _,Below.refl _ _⟩
 case round=>
  obtain ⟨p,hp,rfl,hown,hbel⟩:=hrel;by_cases hpn:p<N
  ·obtain ⟨b,off,rfl,hcell⟩:=hA (by have:=HN.out;omega)
   obtain ⟨u,hpu⟩:∃ u,L[p]?=some u:=⟨L[p]'(by have:=HN.out;omega),List.getElem?_eq_getElem _⟩;have hus:=(name_sizeM (memb_name HL.out (List.mem_of_getElem? hpu))).2;have HU:Hid (L[p]?=some u):=hpu;have HC:Hid (w.cell? ⟨b,off+p,none⟩=some (.string u)):=hcell p u hpu;clear hcell hpu;go_wp2
   go_loopw [3,12] (fun v2 i wr2=>∃ k:Nat,k≤8∧i=.int .i64 k∧wr2.ownsRow w.heap.size 188 2 v2 (8*p+k) (fl encP (prs L (8*p+k)))∧Below w.heap.size w wr2) (fun v2 i wr2=>8 - (Go.RowKit.intOf i).toNat)
   case atStart=>exact ⟨0,Nat.zero_le _,rfl,hown,hbel⟩
   case round=>
    clear hown hbel;obtain ⟨k,hk,rfl,hown,hbel⟩:=hrel;by_cases hk8:k<8
    ·obtain ⟨D,hD⟩:∃ D:ByteArray,D=⟨(Lib.decDigits k).toArray⟩:=⟨_,rfl⟩
     have hDs:D.size=1:=by rw [hD];show (Lib.decDigits k).toArray.size=1;rw [List.size_toArray];exact decDig k hk8
     have hcI:=fun W=>Tryz.strconv_Itoa_small k (by omega) W;rw [← hD] at hcI;obtain ⟨X,hX⟩:∃ X:Int,X=hashF (u ++ ⟨#[35]⟩ ++ D):=⟨_,rfl⟩;have hXs:(u ++ ⟨#[35]⟩ ++ D).size=u.size+2:=by rw [ByteArray.size_append,ByteArray.size_append,hDs];rfl
     have hcH:=fun W=>c_i_Hash (u ++ ⟨#[35]⟩ ++ D) (by unfold maxLen;omega) W;rw [← hX] at hcH
     have HX:Hid (prs L (8*p+(k+1))=prs L (8*p+k) ++ [(X,p)]):=by
      rw [← Nat.add_assoc,prs_succ,pr_eq HU.out hk8,hX,hashF_le (by omega),hD];rfl
     have hc:=cell_past hbel HC.out;have hs35:(⟨#[35]⟩:ByteArray).size=1:=rfl;have ewp:IntKind.u64.wrap (p:Int)=p:=by rw [IntKind.wrap_u64];omega
     have HO:Hid (∀ n,(wr.drewN n).ownsRow w.heap.size 188 2 u3 (8*p+k) (fl encP (prs L (8*p+k)))):=fun _=>hown;have HB:Hid (∀ n,Below w.heap.size w (wr.drewN n)):=fun n=>bel_drews hbel n;have hsz:=hbel.size;clear hD hX hXs hown hbel;go_wp2
     go_quiet (first | (go_at_call 179;refine Calls.quiet_of_same (hcI _)) | (go_at_call 109;refine Calls.quiet_of_same (hcH _)))
     go_wp2_with (at_builtin;refine wpList_append_own _ rfl _ _ 184 rfl w.heap.size 188 i0 (.agg #[.int .u64 0,.int .u64 0]) 2 16 Tryz.underlying184 hi hz0 hz1 hz2 rfl (by decide) _ _ _ rfl ((HO.out _).alloc _) ⟨wr.heap.size,0,none⟩ 1 1 (encP (X,p)) rfl rfl ?c1 ?c2 ?c3 ?c4 ?c5 ?_)
     case c1=>
      exact new_cells (cs:=#[.int .u64 X,.int .u64 p]) (by rfl)
     case c2=>intro v hv;simp [encP] at hv;rcases hv with rfl | rfl <;> rfl
     case c3=>unfold maxLen;omega
     case c4=>omega
     case c5=>simp;omega
     ·intro v' w1 hown' hgrow _
      have R:w1.ownsRow w.heap.size 188 2 v' (8*p+(k+1)) (fl encP (prs L (8*p+(k+1)))):=own_same hown' rfl (by rw [HX.out,fl_app,fl_one]);have R2:Below w.heap.size w w1:=((HB.out _).alloc (by exact hsz) _).grown hgrow (by simp;omega) (fun j hj=>((HO.out 0).lt j hj).1);clear hown' hgrow HO HB;go_wp2;go_roundw
      case rel=>exact ⟨k+1,by omega,by go_num,R,R2⟩
      case measure=>simp [Go.RowKit.intOf];omega
    ·have e:k=8:=by omega
     subst e;have HO:Hid (wr.ownsRow w.heap.size 188 2 u3 (8*(p+1)) (fl encP (prs L (8*(p+1))))):=hown;have HB:Hid (Below w.heap.size w wr):=hbel;clear hown hbel;go_wp2;go_roundw
     case rel=>exact ⟨p+1,by omega,by go_num,HO.out,HB.out⟩
     case measure=>simp [Go.RowKit.intOf];omega
  ·have e:p=N:=by omega
   subst e
   obtain ⟨g,cp,rfl,hg,hgs,hH⟩:∃ g cp,u3=.slice (some ⟨g,0,none⟩) (8*p) cp∧w.heap.size≤g∧g<wr.heap.size∧HoldsK encP 2 wr g 0 (prs L (8*p)).toArray:=by
    have h2:=hown.2;rcases h2 with ⟨_,e⟩ | ⟨g,cp,cur,e,hb,hk,_⟩
    ·omega
    ·subst e
     refine ⟨g,cp,rfl,hb,(Array.getElem?_eq_some_iff.1 hk).1,?_⟩;refine holdsK_owned (xs:=prs L (8*p)) (B:=w.heap.size) (T:=188) (cp:=cp) encP2 ?_;have hl:=prs_len L (8*p);rw [hl];exact hown
   have hsz:(prs L (8*p)).toArray.size=8*p:=by rw [List.size_toArray,prs_len]
   have eg:∀ args w,(callFunc 181 args).run Tryz.prog w=.ok (.enter 181 args) w:=enters_of Tryz.func181 (by kernel_rfl) rfl;have hcon:=AnyQ.slices_SortFunc (α:=Int×Nat) Tryz.laysSortM 2 Tryz.isAgg188 Tryz.sizeOf188 encP encP2 (fun x v hv=>by simp [encP] at hv;rcases hv with rfl | rfl <;> rfl) cfP swoC 181 #[] g 0 cp (prs L (8*p)).toArray wr eg (fun _ _ _ _ x y=>c_compareParts x y _) hH hgs (by rw [hsz];omega);rw [hsz] at hcon
   change Calls Tryz.prog 180 _ _ _ at hcon
   have HH:Hid (HoldsK encP 2 wr g 0 (prs L (8*p)).toArray):=hH;have HB:Hid (Below w.heap.size w wr):=hbel;have HG:Hid (w.heap.size≤g∧g<wr.heap.size):=⟨hg,hgs⟩;clear hown hbel hA hH hg hgs eg;go_wp2_with (go_at_call 180;refine hcon.mono ?_;rintro e w1 ⟨rfl,d',n,os,hpm,hst,rfl⟩);clear hcon;go_ret;have hN:=HN.out;have hR:=ring_of_pairs HL.out (d:=(prs L (8*p)).toArray) (d':=d') (by rw [hN]) (by rw [hsz];exact hpm) (by rw [hsz];exact sorted_lt hst);have hH1:HoldsK encP 2 (sortWorldK encP 2 wr g 0 n d' os) g 0 d':=holdsK_sortWorldK_c _ _ _ _ _ _ d' _ _ HH.out HG.out.2 (by rw [hsz,hR.2.2,hN]);have hB1:Below w.heap.size w (sortWorldK encP 2 wr g 0 n d' os):=HB.out.grown (grown_sortK _ _ _ _ _ _ _ _) HB.out.size (fun j hj=>by cases hj;exact HG.out.1);refine ⟨g,cp,d',rfl,HG.out.1,?_,hH1,hR.1,?_,?_,hB1⟩
   ·exact Nat.lt_of_lt_of_le HG.out.2 (size_sortWorldK_c _ _ _ _ _ _ _ _)
   ·rw [← hN];exact hR.2.1
   ·rw [← hN];exact hR.2.2
def RingAns (L:List ByteArray) (R:List Mk):Prop:=(membersB L=true∧IsRing L R)∨(membersB L=false∧R=[])
theorem ans_len {L:List ByteArray} {R:List Mk} (h:RingAns L R):R.length≤96:=by
 rcases h with ⟨h1,h2⟩ | ⟨h1,rfl⟩
 ·have:=memb_len h1;rw [ring_len h2];omega
 ·simp
def fillR (R:List Mk) (k:Nat):List Mk:=R.take k ++ List.replicate (R.length - k) ((0,ByteArray.empty):Mk)
theorem fillR_zero (R:List Mk):fillR R 0=List.replicate R.length (0,ByteArray.empty):=by simp [fillR]
theorem fillR_all (R:List Mk):fillR R R.length=R:=by simp [fillR]
theorem fillR_len (R:List Mk) (k:Nat) (hk:k≤R.length):(fillR R k).length=R.length:=by simp [fillR];omega
theorem fillR_set {R:List Mk} {u:Mk} {k:Nat} (h:R[k]?=some u):(fillR R k).set k u=fillR R (k+1):=by
 have hk:=(List.getElem?_eq_some_iff.1 h).1;have hl:(R.take k).length=k:=by simp;omega
 unfold fillR;rw [List.set_append_right _ _ (by omega),hl,Nat.sub_self,show R.length - k=(R.length - (k+1))+1 by omega,List.replicate_succ,List.set_cons_zero,List.take_add_one,h];simp
theorem fillR_at {R:List Mk} {k:Nat} (hk:k<R.length):(fillR R k)[k]?=some (0,ByteArray.empty):=by
 have hl:(R.take k).length=k:=by simp;omega
 unfold fillR;rw [List.getElem?_append_right (by omega),hl,Nat.sub_self,List.getElem?_replicate,if_pos (by omega)]
theorem made_marks (n:Nat):(madeCells (Value.agg #[.int .u64 0,.string ByteArray.empty]).cells (n*2)).toList=fl encM (List.replicate n ((0,ByteArray.empty):Mk)):=by
 apply List.ext_getElem?;intro j;by_cases hj:j<n*2
 ·have h1:=fl_at encM2 (List.replicate n ((0,ByteArray.empty):Mk)) (j / 2) (0,ByteArray.empty) (j % 2) (by omega) (by rw [List.getElem?_replicate,if_pos (by omega)])
  rw [show j / 2*2+j % 2=j by omega] at h1;rw [h1];have:j % 2=0∨j % 2=1:=by omega
  rcases this with e | e <;> simp [madeCells,hj,Value.cells,encM,e]
 ·rw [List.getElem?_eq_none (by simp [size_madeCells];omega),List.getElem?_eq_none (by rw [fl_len encM2];simp;omega)]
theorem infoM:(Tryz.prog.info? 113).map (fun i=>(i.zero,i.size,i.bytes))=some (some (.agg #[.int .u64 0,.string ByteArray.empty]),2,24):=by kernel_rfl
set_option maxRecDepth 10000 in
set_option maxHeartbeats 2000000 in
theorem c_i_RingOf {w:World} {ao:Option Addr} {L:List ByteArray} (cap:Nat) (hl:L.length≤1048576) (hu:∀ u∈L,u.size≤1048576) (hA:StrsAt w ao L) :
  Calls Tryz.prog 108 #[.slice ao L.length cap] w fun e w'=>∃ v R,e=.returned v∧RingAns L R∧w'.ownsRow w.heap.size 113 2 v R.length (fl encM R)∧Below w.heap.size w w':=by
 cases hL:membersB L
 ·have hcM:=c_i_MembersRight cap hl hu hA
  rw [hL] at hcM;have HL:Hid (membersB L=false):=hL;clear hL hA hu;go_enter Tryz.func108,Tryz.ntmps108;go_wp2_with (go_at_call 82;refine hcM.mono ?_;rintro e w1 ⟨rfl,hb1⟩);go_ret;exact ⟨.slice none 0 0,[],rfl,.inr ⟨HL.out,rfl⟩,World.ownsRow_nil _ _ _ _,hb1⟩
 ·obtain ⟨i0,hi,hz0,hz1,hz2⟩:=info_parts infoM
  have hcM:=c_i_MembersRight cap hl hu hA;rw [hL] at hcM;have HL:Hid (membersB L=true):=hL;have hl12:=(memb_len hL).2;obtain ⟨N,hN⟩:∃ N,L.length=N:=⟨_,rfl⟩;have HN:Hid (L.length=N):=hN;have hcP:=fun W (h:StrsAt W ao L)=>parts_loop cap hL h;rw [hN] at hcM hl12 hcP;rw [hN];clear hL hu hN hl;go_enter Tryz.func108,Tryz.ntmps108;go_wp2_with (go_at_call 82;refine hcM.mono ?_;rintro e w1 ⟨rfl,hb1⟩)
  go_wp2_with (first
   | (go_at_call 141;refine (hcP _ (strs_past hA hb1)).mono ?_;rintro e w2 ⟨gp,cp,d,rfl,hg,hgs,hH,hR,hin,hds,hb2⟩;have HR:Hid (IsRing L (d.toList.map (mkOfPr L))):=hR;have HH:Hid (HoldsK encP 2 w2 gp 0 d):=hH;have HI:Hid (∀ x∈d.toList,x.2<N):=hin;clear hH hR hin)
   | (at_make;refine wpList_make_full _ rfl _ _ 109 rfl w2.heap.size 113 i0 (.agg #[.int .u64 0,.string ByteArray.empty]) 2 Tryz.underlying109 hi hz0 hz1 .i64 .i64 _ _ (8*N) rfl rfl (by omega) (by omega) (by rw [hz2];omega) (by unfold maxLen;omega) (Nat.le_refl _) ?_;intro w3 hown0 hgrow0))
  have hT2:Below w.heap.size w w2:=chain hb1 hb2;clear hcM hcP;obtain ⟨R,hRd⟩:∃ R,R=d.toList.map (mkOfPr L):=⟨_,rfl⟩;rw [← hRd] at HR;have hRl:R.length=8*N:=by rw [hRd];simp [hds]
  have hB0:Below w2.heap.size w2 w3:=(Below.refl _ _).grown hgrow0 (Nat.le_refl _) (fun k e=>by cases e)
  have hown1:w3.ownsRow w2.heap.size 113 2 (.slice (some ⟨w2.heap.size,0,none⟩) (8*N) (8*N)) (8*N) (fl encM (fillR R 0)):=by
   rw [fillR_zero,hRl,← made_marks];exact hown0
  clear hown0 hgrow0;go_wp2
  go_loopw [17] (fun i wr=>∃ k:Nat,k≤8*N∧i=.int .i64 k∧wr.ownsRow w2.heap.size 113 2 (.slice (some ⟨w2.heap.size,0,none⟩) (8*N) (8*N)) (8*N) (fl encM (fillR R k))∧Below w2.heap.size w2 wr) (fun i wr=>8*N - (Go.RowKit.intOf i).toNat)
  case atStart=>exact ⟨0,Nat.zero_le _,rfl,hown1,hB0⟩
  case round=>
   clear hown1 hB0;obtain ⟨k,hk,rfl,hown,hbel⟩:=hrel;by_cases hkn:k<8*N
   ·have hki:(k:Int)<8*(N:Int):=by omega
    obtain ⟨⟨at_,pl⟩,hxd⟩:∃ x:Int×Nat,d[k]! = x:=⟨_,rfl⟩;have hkd:k<d.size:=by omega
    have hmem:((at_,pl):Int×Nat)∈d.toList:=by
     rw [← hxd,← toList_get d k hkd];exact List.getElem_mem _
    have hpl:=HI.out _ hmem
    have hx0:wr.cell? ⟨gp,k*2,none⟩=some (.int .u64 at_):=by
     have h:=(HH.out.cell hkd (show 0<2 by omega)).1;rw [Nat.zero_add,Nat.add_zero,hxd] at h;exact cell_past hbel h
    have hx1:wr.cell? ⟨gp,k*2+1,none⟩=some (.int .u64 pl):=by
     have h:=(HH.out.cell hkd (show 1<2 by omega)).1;rw [Nat.zero_add,hxd] at h;exact cell_past hbel h
    obtain ⟨b,off,rfl,hcell⟩:=hA (by have:=HN.out;omega);obtain ⟨u,hpu⟩:∃ u,L[pl]?=some u:=⟨L[pl]'(by have:=HN.out;simp at hpl;omega),List.getElem?_eq_getElem _⟩;have hcu:=cell_past hbel (cell_past hT2 (hcell pl u hpu))
    have hRk:R[k]?=some (at_,u):=by
     rw [hRd,List.getElem?_map,List.getElem?_eq_getElem (by simpa using hkd),toList_get d k hkd,hxd];simp [mkOfPr,nth_some hpu]
    have ho0:wr.cell? ⟨w2.heap.size,k*2,none⟩=some (.int .u64 0):=by
     rw [hown.cellAt _ (by omega)];have:=fl_at encM2 (fillR R k) k (0,ByteArray.empty) 0 (by omega) (fillR_at (by omega));rw [Nat.add_zero] at this;rw [this];rfl
    have ho1:wr.cell? ⟨w2.heap.size,k*2+1,none⟩=some (.string ByteArray.empty):=by
     rw [hown.cellAt _ (by omega)];rw [fl_at encM2 (fillR R k) k (0,ByteArray.empty) 1 (by omega) (fillR_at (by omega))];rfl
    have hf0:=hown.frozenAt (k*2);have hf1:=hown.frozenAt (k*2+1);have hlt:w2.heap.size<wr.heap.size:=World.block_lt_of_cell? _ _ ho0
    have HS:Hid (((fl encM (fillR R k)).set (k*2) (.int .u64 at_)).set (k*2+1) (.string u)=fl encM (fillR R (k+1))):=by
     rw [← fillR_set hRk];exact fl_set encM2 _ k (at_,u) (by rw [fillR_len _ _ (by omega)];omega) rfl
    have HO:Hid (wr.ownsRow w2.heap.size 113 2 (.slice (some ⟨w2.heap.size,0,none⟩) (8*N) (8*N)) (8*N) (fl encM (fillR R k))):=hown;have HB:Hid (Below w2.heap.size w2 wr):=hbel;have hplN:pl<N:=hpl;have a1:=cell_on hcu;have a2:=cell_on ho0;have a3:=cell_on ho1;have a4:∀ o,(wr.alloc o).frozen? ⟨w2.heap.size,k*2,none⟩=false:=fun o=>by rw [frozen_past ((Below.refl _ _).alloc (Nat.le_refl _) o) ho0];exact hf0
    have a5:∀ o,(wr.alloc o).frozen? ⟨w2.heap.size,k*2+1,none⟩=false:=fun o=>by rw [frozen_past ((Below.refl _ _).alloc (Nat.le_refl _) o) ho1];exact hf1
    clear hown hbel hmem hpl hpu hcell hRk hxd hA;go_wp2;go_region
    all_goals go_wp2
    go_roundw
    case rel=>
     refine ⟨k+1,by omega,by go_num,?_,?_⟩
     ·rw [← HS.out]
      exact (((HO.out.stored _ _).1.stored _ _).1.alloc _).drew
     ·exact (((HB.out.setCell (by exact Nat.le_refl _) _).setCell (by exact Nat.le_refl _) _).alloc (by simp;omega) _).drew
    case measure=>simp [Go.RowKit.intOf];omega
   ·have e:k=8*N:=by omega
    have hki:¬ (k:Int)<8*(N:Int):=by omega
    have HO:Hid (wr.ownsRow w.heap.size 113 2 (.slice (some ⟨w2.heap.size,0,none⟩) (8*N) (8*N)) R.length (fl encM R)):=by
     rw [e,← hRl,fillR_all] at hown;rw [← hRl];exact hown.mono hT2.size
    have HB:Hid (Below w.heap.size w wr):=chain hT2 hbel;clear hown hbel hA e;go_wp2;go_ret;exact ⟨_,rfl,R,.inl ⟨HL.out,HR.out⟩,HO.out,HB.out⟩
end Go.Proofs.YtmjogablacnlgaaGreatDoor
namespace Go.Proofs.YtmjogablacnlgaaGreatDoor
set_option linter.unusedVariables false
set_option linter.unusedSimpArgs false
open Go.ChangeShapes Go.WideShapes Go.ChangeAt Go.RowKit Go.PlainAid
set_option maxRecDepth 10000 in
set_option maxHeartbeats 1000000 in
theorem c_l01Dec_pos (N:Nat) (hN0:N≠0) (hN:N≤9223372036854775807) (w:World) :
  Calls Tryz.prog 105 #[.int .i64 N] w fun e w'=>e=.returned (.string ⟨(Lib.decDigits N).toArray⟩)∧Below w.heap.size w w':=by
 have hb0:((N:Int) == 0)=false:=beq_eq_false_iff_ne.2 (by omega);have hb1:decide ((N:Int)<0)=false:=decide_eq_false (by omega);go_enter Tryz.func105,Tryz.ntmps105;go_wp2
 go_loopw [0,4,5] (fun n o d wr=>∃ (m:Nat) (D:List UInt8),m≤N∧n=.int .i64 m∧o=.string ⟨D.toArray⟩∧DecR N m D∧Below w.heap.size w wr) (fun n o d wr=>(Go.RowKit.intOf n).toNat)
 case atStart=>exact ⟨N,[],Nat.le_refl _,rfl,rfl,⟨fun h=>absurd h hN0,fun _=>by simp⟩,Below.refl _ _⟩
 case round=>
  obtain ⟨m,D,hm,rfl,rfl,hR,hbel⟩:=hrel;by_cases k:m=0
  ·subst k
   have HR:Hid (DecR N 0 D):=hR;clear hR;go_wp2;go_ret;exact ⟨ret_str (by rw [HR.out.1 rfl]),hbel⟩
  ·obtain ⟨d,hd⟩:∃ d,d=m % 10:=⟨_,rfl⟩
   obtain ⟨q,hq⟩:∃ q,q=m / 10:=⟨_,rfl⟩;have HR:Hid (DecR N q (UInt8.ofNat (48+d) :: D)):=by rw [hd,hq];exact decR_step hR k
   have hln:=decR_len hR (dec_len N hN);have e1:Int.tmod (m:Int) 10=(d:Int):=by rw [hd];rfl
   have e2:Int.tdiv (m:Int) 10=(q:Int):=by rw [hq];rfl
   have hk:((m:Int) != 0)=true:=by simp;omega
   have hd9:d<10:=by omega
   have hqm:q<m:=by omega
   have e3:decide ((d:Int)<0)=false:=decide_eq_false (by omega);have e4:IntKind.u8.wrap (48+(d:Int))=48+(d:Int):=IntWalk.u8_in _ ⟨by omega,by omega⟩;obtain ⟨B,hB⟩:∃ B,B=strOfNums [48+(d:Int)]:=⟨_,rfl⟩
   have kc:=run_convert_bytes_arg (P:=Tryz.prog) (wr.alloc (.cells #[.int .u8 (48+(d:Int))] 5)) 126 5 Tryz.underlying126 Tryz.underlying5 wr.heap.size 0 1 1 [48+(d:Int)] rfl (fun i hi=>by
      obtain rfl:i=0:=by omega
      simp) 9 Tryz.underlying9
   rw [← hB] at kc;have hB1:B.size=1:=by rw [hB];rfl
   have HB:Hid (B ++ ⟨D.toArray⟩=(⟨(UInt8.ofNat (48+d) :: D).toArray⟩:ByteArray)):=(by
    rw [hB,← str_cat];congr 1;:B ++ ⟨D.toArray⟩=(⟨(UInt8.ofNat (48+d) :: D).toArray⟩:ByteArray))
   have hD:(⟨D.toArray⟩:ByteArray).size=D.length:=rfl;have HL:Hid (Below w.heap.size w wr):=hbel;have hz:=hbel.size;clear hR hd hq k hb0 hb1 hB hbel;go_wp2;go_roundw
   case rel=>exact ⟨q,UInt8.ofNat (48+d) :: D,by omega,rfl,by rw [HB.out],HR.out,HL.out.alloc (by omega) _⟩
   case measure=>simp [Go.RowKit.intOf];omega
open Go.Sort hiding Below
open Go.Lib Go.Shelf
theorem c_l01Dec8 (k:Nat) (hk:k<8) (w:World) :
  Calls Tryz.prog 105 #[.int .i64 k] w fun e w'=>e=.returned (.string ⟨(Lib.decDigits k).toArray⟩)∧Below w.heap.size w w':=by
 rcases Nat.eq_zero_or_pos k with rfl | h
 ·have e:(⟨(Lib.decDigits 0).toArray⟩:ByteArray)=⟨#[48]⟩:=by rw [Lib.decDigits_one (by omega)];rfl
  rw [e];go_enter Tryz.func105,Tryz.ntmps105;go_wp2;go_ret;exact ⟨rfl,Below.refl _ _⟩
 ·exact c_l01Dec_pos k (by omega) (by omega) w
theorem str_add {a b:ByteArray} (h:a.size+b.size≤1000000):Op.stringOp .add a b=pure (.string (a ++ b)):=by
 unfold Op.stringOp
 have:¬ (((a.size+b.size:Nat):Int) > IntKind.i64.max):=by
  have e:IntKind.i64.max=9223372036854775807:=by decide
  rw [e];omega
 simp only [if_neg this]
theorem encM_one (m:Mk):∀ u∈encM m,u.oneCell'=true:=fun u hu=>by simp [encM] at hu;rcases hu with rfl | rfl <;> rfl
theorem fl_oneM (R:List Mk):∀ u∈fl encM R,u.oneCell'=true:=fun u hu=>by
 obtain ⟨m,_,h⟩:=List.mem_flatMap.1 hu;exact encM_one m u h
set_option maxRecDepth 10000 in
set_option maxHeartbeats 4000000 in
theorem c_s_l02Ring {w:World} {ao:Option Addr} {L:List ByteArray} (cap:Nat) (hL:membersB L=true) (hA:StrsAt w ao L) :
  Calls Tryz.prog 78 #[.slice ao L.length cap] w fun e w'=>∃ g cp R,e=.returned (.slice (some ⟨g,0,none⟩) R.length cp)∧IsRing L R∧w'.ownsRow w.heap.size 113 2 (.slice (some ⟨g,0,none⟩) R.length cp) R.length (fl encM R)∧Below w.heap.size w w':=by
 obtain ⟨i0,hi,hz0,hz1,hz2⟩:=info_parts infoM;obtain ⟨hl1,hl12⟩:=memb_len hL;have hgt:=op_gtr 9;obtain ⟨N,hN⟩:∃ N,L.length=N:=⟨_,rfl⟩;have HN:Hid (L.length=N):=hN;have HL:Hid (membersB L=true):=hL;rw [hN] at hl1 hl12;rw [hN];clear hN hL;go_enter Tryz.func78,Tryz.ntmps78;go_wp2
 go_loopw [3,4] (fun v i wr=>∃ (p:Nat) (R:List Mk) (go co:Nat),p≤N∧i=.int .i64 p∧v=.slice (some ⟨go,0,none⟩) (8*p) co∧R.Perm (mks L (8*p))∧R.Pairwise mle∧wr.ownsRow w.heap.size 113 2 (.slice (some ⟨go,0,none⟩) (8*p) co) (8*p) (fl encM R)∧Below w.heap.size w wr) (fun v i wr=>N - (Go.RowKit.intOf i).toNat)
 case atStart=>exact ⟨0,[],w.heap.size,0,Nat.zero_le _,rfl,rfl,List.Perm.refl _,List.Pairwise.nil,World.ownsRow_made w #[] 0 (Nat.le_refl _) (Nat.zero_le _) rfl,(Below.refl _ _).alloc (Nat.le_refl _) _⟩
 case round=>
  obtain ⟨p,R0,go0,co0,hp,rfl,rfl,hPm,hPw,hown,hbel⟩:=hrel;by_cases hpn:p<N
  ·obtain ⟨b,off,rfl,hcell⟩:=hA (by have:=HN.out;omega)
   obtain ⟨u,hpu⟩:∃ u,L[p]?=some u:=⟨L[p]'(by have:=HN.out;omega),List.getElem?_eq_getElem _⟩;have hus:=(name_sizeM (memb_name HL.out (List.mem_of_getElem? hpu))).2;have HU:Hid (L[p]?=some u):=hpu;have HC:Hid (w.cell? ⟨b,off+p,none⟩=some (.string u)):=hcell p u hpu;clear hcell hpu;go_wp2
   go_loopw [3,5] (fun v2 i wr2=>∃ (k:Nat) (R:List Mk) (go co:Nat),k≤8∧i=.int .i64 k∧v2=.slice (some ⟨go,0,none⟩) (8*p+k) co∧R.Perm (mks L (8*p+k))∧R.Pairwise mle∧wr2.ownsRow w.heap.size 113 2 (.slice (some ⟨go,0,none⟩) (8*p+k) co) (8*p+k) (fl encM R)∧Below w.heap.size w wr2) (fun v2 i wr2=>8 - (Go.RowKit.intOf i).toNat)
   case atStart=>exact ⟨0,R0,go0,co0,Nat.zero_le _,rfl,rfl,hPm,hPw,hown,hbel⟩
   case round=>
    clear hown hbel hPm hPw;obtain ⟨k,R,go,co,hk,rfl,rfl,hPm,hPw,hown,hbel⟩:=hrel;obtain ⟨M,hM⟩:∃ M,8*p+k=M:=⟨_,rfl⟩;rw [hM] at hPm hown;rw [hM];by_cases hk8:k<8
    ·obtain ⟨D,hD⟩:∃ D:ByteArray,D=⟨(Lib.decDigits k).toArray⟩:=⟨_,rfl⟩
     have hDs:D.size=1:=by rw [hD];show (Lib.decDigits k).toArray.size=1;rw [List.size_toArray];exact decDig k hk8
     have hcI:=fun W=>c_l01Dec8 k hk8 W;rw [← hD] at hcI;obtain ⟨X,hX⟩:∃ X:Int,X=hashT (u ++ ⟨#[35]⟩ ++ D):=⟨_,rfl⟩;have hXs:(u ++ ⟨#[35]⟩ ++ D).size=u.size+2:=by rw [ByteArray.size_append,ByteArray.size_append,hDs];rfl
     have hcH:=fun W=>c_s_l02Hash (u ++ ⟨#[35]⟩ ++ D) (by unfold maxLen;omega) W;rw [← hX] at hcH
     have HX:Hid (mks L (M+1)=mks L M ++ [(X,u)]):=by
      rw [← hM,mks_succ,mk_eq HU.out hk8,hX,hD];rfl
     have hc:=cell_past hbel HC.out;have hcb:b<wr.heap.size:=World.block_lt_of_cell? _ _ hc;have hs35:(⟨#[35]⟩:ByteArray).size=1:=rfl;have hadd1:Op.stringOp .add u ⟨#[35]⟩=pure (.string (u ++ ⟨#[35]⟩)):=str_add (by omega);have hadd2:Op.stringOp .add (u ++ ⟨#[35]⟩) D=pure (.string (u ++ ⟨#[35]⟩ ++ D)):=str_add (by rw [ByteArray.size_append];omega);have HO:Hid (wr.ownsRow w.heap.size 113 2 (.slice (some ⟨go,0,none⟩) M co) M (fl encM R)):=hown;have HB:Hid (Below w.heap.size w wr):=hbel;have HM:Hid (8*p+k=M):=hM;have hMb:M≤96:=by omega
     have HP:Hid (R.Perm (mks L M)∧R.Pairwise mle):=⟨hPm,hPw⟩;have hsz:=hbel.size;clear hD hX hXs hown hbel hPm hPw hM;go_wp2_with fail
     go_cut [6] (fun v w'=>∃ g:Nat,v=.pointer (some ⟨g,0,none⟩)∧w'.cell? ⟨g,0,none⟩=some (.int .u64 X)∧w'.cell? ⟨g,1,none⟩=some (.string u)∧wr.heap.size≤g∧g<w'.heap.size∧Below wr.heap.size wr w')
     case first=>
      go_region_held3 (Kept wr.heap.size wr)
       (refine held ?_ (by simp) <;> first | exact (Below.refl _ _).drew | exact ((Below.refl _ _).alloc (by simp) _).drew | exact hS1 | exact Below.alloc hS1 (by omega) _ | exact Below.setCell (Below.setCell hS1 (by dsimp only;omega) _) (by dsimp only;omega) _)
       (first
        | (go_at_call 105;refine (hcI _).mono ?_;rintro e w1 ⟨rfl,hb1⟩;obtain ⟨hS1,hS2⟩:=held_call hb1 ‹Kept _ _ _›; (first | have hT:=chain hT hb1 | have hT:=hb1);obtain ⟨hc1,hf1⟩:=bcell hT;have hz2:=hb1.size; (try simp at hz2);clear hb1)
        | (go_at_call 79;refine (hcH _).mono ?_;rintro e w1 ⟨rfl,hw1⟩;subst hw1))
      all_goals (go_wp2;go_meet)
      all_goals
       have hK:=‹Kept _ _ _›;refine ⟨_,rfl,?_,?_,?_,?_,hK.1⟩
       ·go_simp
       ·go_simp
       ·omega
       ·first | (simp;done) | (simp;omega)
     case rest=>
      clear hcI hcH hadd1 hadd2 hc hs35 hDs;obtain ⟨g,rfl,hg0,hg1,hgl,hgz,hB⟩:=hcut;have HO2:Hid (wc.ownsRow w.heap.size 113 2 (.slice (some ⟨go,0,none⟩) M co) M (fl encM R)):=own_past HO.out hB;have HB2:Hid (Below w.heap.size w wc):=HB.out.trans (hB.mono hsz);have hRl:R.length=M:=by rw [HP.out.1.length_eq,mks_len]
      clear HO HB hB;go_upto_block 4 with fail
      go_cut [7] (fun v w'=>∃ n q:Nat,v=.int .i64 n∧w'=wc.drewN q∧n≤M∧(n=0∨∃ a,R[n - 1]?=some a∧mle a (X,u))∧∀ j a,n≤j→R[j]?=some a→mle (X,u) a)
      case first=>
       go_wp2_with fail
       go_loopw [7] (fun i wr2=>∃ n q:Nat,n≤M∧i=.int .i64 n∧wr2=wc.drewN q∧∀ j a,n≤j→R[j]?=some a→mle (X,u) a) (fun i _=>(Go.RowKit.intOf i).toNat)
       case atStart=>exact ⟨M,0,Nat.le_refl _,rfl,rfl,fun j a hj h=>absurd (List.getElem?_eq_some_iff.1 h).1 (by omega)⟩
       case round=>
        obtain ⟨n,q,hn,rfl,rfl,hhi⟩:=hrel;have HH:Hid (∀ j a,n≤j→R[j]?=some a→mle (X,u) a):=hhi;clear hhi;rcases Nat.eq_zero_or_pos n with rfl | hpos
        ·go_wp2
         go_quiet (fail)
         go_wp2;go_meet;exact ⟨0,_,rfl,(by first | rfl | exact drews_add _ _ _),Nat.zero_le _,.inl rfl,HH.out⟩
        ·obtain ⟨j,hj1⟩:∃ j,j+1=n:=⟨n - 1,by omega⟩
         obtain ⟨⟨ax,um⟩,hRj⟩:∃ a,R[j]?=some a:=⟨R[j]'(by omega),List.getElem?_eq_getElem _⟩
         have hc0:wc.cell? ⟨go,j*2,none⟩=some (.int .u64 ax):=by
          rw [HO2.out.cellAt _ (by omega)];have:=fl_at encM2 R j _ 0 (by omega) hRj;rw [Nat.add_zero] at this;rw [this];rfl
         have hc1:wc.cell? ⟨go,j*2+1,none⟩=some (.string um):=by
          rw [HO2.out.cellAt _ (by omega),fl_at encM2 R j _ 1 (by omega) hRj];rfl
         have ek:((n:Int) - 1)=(j:Int):=by omega
         have ew:IntKind.i64.wrap (j:Int)=j:=IntWalk.i64_in _ ⟨by omega,by omega⟩;have hpi:(0:Int)<(n:Int):=by omega
         have hjM:j<M:=by omega
         have HJ:Hid (j+1=n):=hj1;have HR:Hid (R[j]?=some (ax,um)):=hRj
         have on:mle (X,u) (ax,um)→∀ i a,j≤i→R[i]?=some a→mle (X,u) a:=fun hm i a hi ha=>by
          by_cases e:i=j
          ·subst e;rw [hRj] at ha;obtain rfl:=Option.some.inj ha;exact hm
          ·exact HH.out i a (by omega) ha
         have ON:Hid (mle (X,u) (ax,um)→∀ i a,j≤i→R[i]?=some a→mle (X,u) a):=on;have off_:mle (ax,um) (X,u)→(n=0∨∃ a,R[n - 1]?=some a∧mle a (X,u)):=fun hm=>.inr ⟨(ax,um),by rw [← hj1];exact hRj,hm⟩;have OFF:Hid (mle (ax,um) (X,u)→(n=0∨∃ a,R[n - 1]?=some a∧mle a (X,u))):=off_;clear on off_ hj1 hRj;rcases Int.lt_trichotomy X ax with ht | ht | ht
         ·have ht2:X<ax:=ht
          go_wp2
          go_quiet (fail)
          go_wp2;go_roundw
          case rel=>exact ⟨j,_,by omega,rfl,(by first | rfl | exact drews_add _ _ _),ON.out (.inl ht)⟩
          case measure=>simp [Go.RowKit.intOf];have:=HJ.out;omega
         ·subst ht
          cases hlt:strLt u um
          ·go_wp2
           go_quiet (fail)
           go_wp2;go_meet;exact ⟨n,_,rfl,(by first | rfl | exact drews_add _ _ _),hn,OFF.out (.inr ⟨rfl,hlt⟩),HH.out⟩
          ·go_wp2
           go_quiet (fail)
           go_wp2;go_roundw
           case rel=>exact ⟨j,_,by omega,rfl,(by first | rfl | exact drews_add _ _ _),ON.out (.inr ⟨rfl,strLt_ant hlt⟩)⟩
           case measure=>simp [Go.RowKit.intOf];have:=HJ.out;omega
         ·have h1:decide (X<ax)=false:=decide_eq_false (by omega)
          have h2:(ax == X)=false:=beq_eq_false_iff_ne.2 (by omega);go_wp2
          go_quiet (fail)
          go_wp2;go_meet;exact ⟨n,_,rfl,(by first | rfl | exact drews_add _ _ _),hn,OFF.out (.inl ht),HH.out⟩
      case rest=>
       obtain ⟨n,q,rfl,rfl,hn,hlo,hhi⟩:=hcut;have HPut:Hid ((R.take n ++ (X,u) :: R.drop n).Pairwise mle∧(R.take n ++ (X,u) :: R.drop n).Perm (mks L (M+1))):=⟨put_sorted HP.out.2 (by omega) hlo hhi,by rw [HX.out];exact (put_perm R (X,u) n).trans (HP.out.1.append_right _)⟩;clear hlo hhi;have hMco:M≤co:=own_cap HO2.out;have hcom:co≤9223372036854775807:=own_capm HO2.out;have hnM:(n:Int)≤(M:Int):=by omega
       have hnco:(n:Int)≤(co:Int):=by omega
       have l1:(fl encM (R.take n)).length=n*2:=by rw [fl_len encM2,List.length_take,Nat.min_eq_left (by omega)]
       have l3:(fl encM (R.drop n)).length=(M - n)*2:=by rw [fl_len encM2,List.length_drop,hRl]
       have c1:∀ W,Below wc.heap.size wc W→∀ j u,(fl encM (R.take n))[j]?=some u→W.cell? ((⟨go,0,none⟩:Addr).add j)=some u:=fun W hW j u hj=>by
        have hjl:=(List.getElem?_eq_some_iff.1 hj).1;rw [Addr.add_lit,Nat.zero_add,(own_past HO2.out hW).cellAt j (by omega)]
        conv=>lhs;rw [← List.take_append_drop n R]
        rw [fl_app,List.getElem?_append_left hjl];exact hj
       obtain ⟨A,hA1,hA2⟩:∃ A:Addr,(if co=n then some (⟨go,0,none⟩:Addr) else some ⟨go,n*2,none⟩)=some A∧∀ W,Below wc.heap.size wc W→∀ j u,(fl encM (R.drop n))[j]?=some u→W.cell? (A.add j)=some u:=by
        by_cases e:co=n
        ·refine ⟨_,if_pos e,fun W hW j u hj=>?_⟩
         have hjl:=(List.getElem?_eq_some_iff.1 hj).1;rw [l3] at hjl;omega
        ·refine ⟨_,if_neg e,fun W hW j u hj=>?_⟩
         have hjl:=(List.getElem?_eq_some_iff.1 hj).1;rw [Addr.add_lit,(own_past HO2.out hW).cellAt (n*2+j) (by omega)]
         conv=>lhs;rw [← List.take_append_drop n R]
         rw [fl_app,List.getElem?_append_right (by omega),l1,show n*2+j - n*2=j by omega];exact hj
       have hb0:∀ o,Below wc.heap.size wc ((wc.drewN q).alloc o):=fun o=>(bel_drews (Below.refl _ _) q).alloc (by exact Nat.le_refl _) o;have C1:=hide c1;have C3:=hide hA2;have B0:=hide hb0;have L1:=hide l1;have L3:=hide l3;clear c1 hA2 hb0 l1 l3
       go_wp2_with (first
        | (at_builtin;refine wpList_append_own _ rfl (.tmp 73) (.tmp 76) 109 rfl wc.heap.size 113 i0 (.agg #[.int .u64 0,.string ByteArray.empty]) 2 24 Tryz.underlying109 hi hz0 hz1 hz2 rfl (by decide) _ _ _ rfl (World.ownsRow_made (wc.drewN q) #[] 0 (by exact Nat.le_refl _) (Nat.zero_le _) rfl) ⟨go,0,none⟩ n co (fl encM (R.take n)) rfl L1.out (C1.out _ (B0.out _)) (fl_oneM _) (by unfold maxLen;omega) (by omega) (by simp) ?_;intro v1 w1 hown1 hgrow1 hnil1;simp only [Nat.zero_add,List.nil_append] at hown1;have hb1:=(B0.out _).grown hgrow1 (by simp) (fun j hj=>Nat.le_of_eq (Option.some.inj hj));have m0:=cell_past hb1 hg0;have m1:=cell_past hb1 hg1;have O1:=hide hown1;have B1:=hide hb1;clear hown1 hgrow1 hnil1 hb1)
        | (at_builtin;refine wpList_append_own _ rfl (.tmp 78) (.tmp 80) 109 rfl wc.heap.size 113 i0 (.agg #[.int .u64 0,.string ByteArray.empty]) 2 24 Tryz.underlying109 hi hz0 hz1 hz2 rfl (by decide) _ _ _ rfl (O1.out.alloc _) ⟨w1.heap.size,0,none⟩ 1 1 (encM (X,u)) rfl rfl (new_cells (cs:=#[.int .u64 X,.string u]) rfl) (encM_one _) (by unfold maxLen;omega) (by omega) (by simp;have:=B1.out.size;omega) ?_;intro v2 w2 hown2 hgrow2 hnil2;have hb2:=(B1.out.alloc B1.out.size _).grown hgrow2 (by simp;have:=B1.out.size;omega) (fun j hj=>(O1.out.lt j hj).1);have O2:=hide hown2;have B2:=hide hb2;clear hown2 hgrow2 hnil2 hb2)
        | (at_builtin;refine wpList_append_own _ rfl (.tmp 82) (.tmp 85) 109 rfl wc.heap.size 113 i0 (.agg #[.int .u64 0,.string ByteArray.empty]) 2 24 Tryz.underlying109 hi hz0 hz1 hz2 rfl (by decide) _ _ _ rfl O2.out A (M - n) (co - n) (fl encM (R.drop n)) rfl L3.out (C3.out _ B2.out) (fl_oneM _) (by unfold maxLen;omega) (by omega) B2.out.size ?_;intro v3 w3 hown3 hgrow3 hnil3;have hb3:=B2.out.grown hgrow3 B2.out.size (fun j hj=>(O2.out.lt j hj).1);have O3:=hide hown3;have B3:=hide hb3;clear hown3 hgrow3 hb3))
       have hO:w3.ownsRow wc.heap.size 113 2 v3 (M+1) (fl encM (R.take n ++ (X,u) :: R.drop n)):=own_same O3.out (by omega) (by rw [fl_app,fl_cons,List.append_assoc]);obtain ⟨g3,c3,hv3⟩:=own_form hO (by omega);subst hv3;have e:=HM.out;go_roundw
       case rel=>
        refine ⟨k+1,R.take n ++ (X,u) :: R.drop n,g3,c3,by omega,by go_num,?_,?_,HPut.out.1,?_,HB2.out.trans (B3.out.mono HB2.out.size)⟩
        ·rw [← Nat.add_assoc,e]
        ·rw [← Nat.add_assoc,e];exact HPut.out.2
        ·rw [← Nat.add_assoc,e];exact hO.mono HB2.out.size
       case measure=>simp [Go.RowKit.intOf];omega
    ·have e:k=8:=by omega
     subst e;have e2:M=8*(p+1):=by omega
     subst e2;have HO:Hid (wr.ownsRow w.heap.size 113 2 (.slice (some ⟨go,0,none⟩) (8*(p+1)) co) (8*(p+1)) (fl encM R)):=hown;have HB:Hid (Below w.heap.size w wr):=hbel;have HP:Hid (R.Perm (mks L (8*(p+1)))∧R.Pairwise mle):=⟨hPm,hPw⟩;clear hown hbel hPm hPw hM;go_wp2;go_roundw
     case rel=>exact ⟨p+1,R,go,co,by omega,by go_num,rfl,HP.out.1,HP.out.2,HO.out,HB.out⟩
     case measure=>simp [Go.RowKit.intOf];omega
  ·have e:p=N:=by omega
   subst e;have HO:Hid (wr.ownsRow w.heap.size 113 2 (.slice (some ⟨go0,0,none⟩) (8*p) co0) (8*p) (fl encM R0)):=hown;have HB:Hid (Below w.heap.size w wr):=hbel;have HP:Hid (R0.Perm (mks L (8*p))∧R0.Pairwise mle):=⟨hPm,hPw⟩;have HRl:Hid (8*p=R0.length):=(by rw [hPm.length_eq,mks_len]:8*p=R0.length);clear hown hbel hPm hPw hA;go_wp2;go_ret;have hl:=HRl.out;have hN:=HN.out;have hO:=HO.out;rw [hl] at hO;refine ⟨go0,co0,R0,by rw [← hl];rfl,⟨?_,HP.out.2⟩,hO,HB.out⟩;rw [hN];exact HP.out.1
def firstAt (h:Int):List Mk→Option Mk
 | []=>none
 | m :: r=>if h≤m.1 then some m else firstAt h r
theorem firstAt_hit {h:Int}:∀ (R:List Mk) (k:Nat) (a:Mk),R[k]?=some a→h≤a.1→(∀ j b,j<k→R[j]?=some b→b.1<h)→firstAt h R=some a
 | [],k,a,hk,_,_=>by simp at hk
 | m :: r,0,a,hk,ha,_=>by
  obtain rfl:m=a:=by simpa using hk
  simp [firstAt,ha]
 | m :: r,k+1,a,hk,ha,hl=>by
  have h0:=hl 0 m (by omega) rfl;unfold firstAt;rw [if_neg (by omega)];exact firstAt_hit r k a (by simpa using hk) ha (fun j b hj hb=>hl (j+1) b (by omega) (by simpa using hb))
theorem firstAt_none {h:Int}:∀ (R:List Mk),(∀ (j:Nat) (b:Mk),R[j]?=some b→b.1<h)→firstAt h R=none
 | [],_=>rfl
 | m :: r,hl=>by
  have h0:=hl 0 m rfl;unfold firstAt;rw [if_neg (by omega)];exact firstAt_none r (fun j b hb=>hl (j+1) b (by simpa using hb))
def ownR (R:List Mk) (h:Int):ByteArray:=
 match firstAt h R with
 | some m=>m.2
 | none=>match R with
  | m :: _=>m.2
  | []=>ByteArray.empty
theorem ownR_hit {h:Int} {R:List Mk} {k:Nat} {a:Mk} (hk:R[k]?=some a) (ha:h≤a.1) (hl:∀ (j:Nat) (b:Mk),j<k→R[j]?=some b→b.1<h):ownR R h=a.2:=by
 unfold ownR;rw [firstAt_hit R k a hk ha hl]
theorem ownR_none {h:Int} {R:List Mk} {a:Mk} (h0:R[0]?=some a) (hl:∀ (j:Nat) (b:Mk),R[j]?=some b→b.1<h):ownR R h=a.2:=by
 unfold ownR;rw [firstAt_none R hl]
 match R,h0 with
 | m :: _,h0=>
  obtain rfl:m=a:=by simpa using h0
  rfl
def OwnAns (L:List ByteArray) (key s:ByteArray):Prop:=(key.size≤20000∧membersB L=true∧∃ R,IsRing L R∧s=ownR R (hashT key))∨((¬ key.size≤20000∨membersB L=false)∧s=ByteArray.empty)
theorem own_one {L:List ByteArray} {key s t:ByteArray} (h:OwnAns L key s) (k:OwnAns L key t):s=t:=by
 rcases h with ⟨h1,h2,R,h3,rfl⟩ | ⟨h1,rfl⟩ <;> rcases k with ⟨k1,k2,R',k3,rfl⟩ | ⟨k1,rfl⟩
 ·rw [ring_one h3 k3]
 ·rcases k1 with k1 | k1
  ·exact absurd h1 k1
  ·rw [h2] at k1;cases k1
 ·rcases h1 with h1 | h1
  ·exact absurd k1 h1
  ·rw [h1] at k2;cases k2
 ·rfl
theorem mark_cells {w:World} {B g c n:Nat} {R:List Mk} {k:Nat} {a:Int} {u:ByteArray} (h:w.ownsRow B 113 2 (.slice (some ⟨g,0,none⟩) n c) n (fl encM R)) (hn:n=R.length) (hk:R[k]?=some (a,u)) :
  w.cell? ⟨g,k*2,none⟩=some (.int .u64 a)∧w.cell? ⟨g,k*2+1,none⟩=some (.string u):=by
 have hkl:=(List.getElem?_eq_some_iff.1 hk).1;constructor
 ·rw [h.cellAt _ (by omega)]
  have:=fl_at encM2 R k _ 0 (by omega) hk;rw [Nat.add_zero] at this;rw [this];rfl
 ·rw [h.cellAt _ (by omega),fl_at encM2 R k _ 1 (by omega) hk];rfl
set_option maxRecDepth 10000 in
set_option maxHeartbeats 2000000 in
theorem c_i_OwnerOf {w:World} {ao:Option Addr} {L:List ByteArray} (cap:Nat) (key:ByteArray) (hkm:key.size≤maxLen) (hl:L.length≤1048576) (hu:∀ u∈L,u.size≤1048576) (hA:StrsAt w ao L) :
  Calls Tryz.prog 85 #[.slice ao L.length cap,.string key] w fun e w'=>∃ s,e=.returned (.string s)∧OwnAns L key s∧Below w.heap.size w w':=by
 have hcT:=c_textFitsH key hkm;by_cases hk:key.size≤20000
 ·have e1:decide (key.size≤20000)=true:=decide_eq_true hk
  simp only [e1] at hcT;have hcR:=c_i_RingOf cap hl hu hA;have hcH:=c_i_Hash key hkm;simp only [hashF_le hk] at hcH;clear hA hu;obtain ⟨H,hH⟩:∃ H,hashT key=H:=⟨_,rfl⟩;rw [hH] at hcH;go_enter Tryz.func85,Tryz.ntmps85
  go_wp2_with (first
   | (go_at_call 94;refine (hcT _).mono ?_;rintro e w1 ⟨rfl,rfl⟩)
   | (go_at_call 108;refine hcR.mono ?_;rintro e w2 ⟨v,R,rfl,hR,hown,hb2⟩;have HR:=hide hR;have HO:=hide hown;have HB:=hide hb2;obtain ⟨ro,rc,hv⟩:=own_any hown;subst hv;clear hR hown hb2)
   | (go_at_call 109;refine (hcH _).mono ?_;rintro e w3 ⟨rfl,rfl⟩))
  ·-- none
   go_ret;rename_i hz;have hR0:R=[]:=List.eq_nil_of_length_eq_zero (by simpa using hz);rcases HR.out with ⟨h1,h2⟩ | ⟨h1,h2⟩
   ·have:=ring_len h2;have:=memb_len h1;rw [hR0] at *; simp at *; omega
   ·exact ⟨_,rfl,.inr ⟨.inr h1,rfl⟩,HB.out⟩
  ·have hz0:((R.length:Int) == 0)=false:=by assumption
   have hz:¬ R.length=0:=by have:=beq_eq_false_iff_ne.1 hz0;omega
   obtain ⟨g,rfl⟩:∃ g,ro=some ⟨g,0,none⟩:=by
    obtain ⟨g,c,e⟩:=own_form HO.out (by omega)
    cases e;exact ⟨g,rfl⟩
   have hRl:=ans_len HR.out;obtain ⟨N,hN⟩:∃ N,R.length=N:=⟨_,rfl⟩;rw [hN] at hRl hz hz0;rw [hN] at HO;rw [hN];have HN:=hide hN;have HH:=hide hH
   have ans:∀ s,s=ownR R H→OwnAns L key s:=fun s hs=>by
    rcases HR.out with ⟨h1,h2⟩ | ⟨h1,h2⟩
    ·exact .inl ⟨hk,h1,R,h2,by rw [hs,hH]⟩
    ·rw [h2] at hN;simp at hN;omega
   have ANS:=hide ans;clear ans hN hH hcR hcH hcT
   go_loopw [20,7] (fun i _ wr=>wr=w3∧∃ k:Nat,k≤N∧i=.int .i64 k∧∀ (j:Nat) (b:Mk),j<k→R[j]?=some b→b.1<H) (fun i _ wr=>N - (Go.RowKit.intOf i).toNat)
   case atStart=>exact ⟨rfl,0,Nat.zero_le _,rfl,fun j b hj=>absurd hj (by omega)⟩
   case round=>
    obtain ⟨rfl,k,hkN,rfl,hlow⟩:=hrel;have HL:=hide hlow;clear hlow;by_cases hkn:k<N
    ·obtain ⟨⟨a,m⟩,hRk⟩:∃ a,R[k]?=some a:=⟨R[k]'(by have:=HN.out;omega),List.getElem?_eq_getElem _⟩
     obtain ⟨hc0,hc1⟩:=mark_cells HO.out HN.out.symm hRk;have HK:=hide hRk;clear hRk;by_cases hge:H≤a
     ·go_wp2
      go_ret;exact ⟨m,rfl,ANS.out m (ownR_hit HK.out hge HL.out).symm,HB.out⟩
     ·have hge2:decide (H≤a)=false:=decide_eq_false hge
      go_wp2;go_roundw
      case rel=>
       refine ⟨trivial,k+1,by omega,by go_num,fun j b hj hb=>?_⟩;by_cases e:j=k
       ·subst e;rw [HK.out] at hb;obtain rfl:=Option.some.inj hb;show a<H;omega
       ·exact HL.out j b (by omega) hb
      case measure=>simp [Go.RowKit.intOf];omega
    ·obtain ⟨⟨a,m⟩,hR0⟩:∃ a,R[0]?=some a:=⟨R[0]'(by have:=HN.out;omega),List.getElem?_eq_getElem _⟩
     obtain ⟨hc0,hc1⟩:=mark_cells HO.out HN.out.symm hR0;rw [Nat.zero_mul] at hc0 hc1;have HK:=hide hR0;have hNp:(0:Int)<(N:Int):=by omega
     have hall:∀ (j:Nat) (b:Mk),R[j]?=some b→b.1<H:=fun j b hb=>HL.out j b (by have:=(List.getElem?_eq_some_iff.1 hb).1;have:=HN.out;omega) hb;have HALL:=hide hall;clear hR0 hall;go_wp2;go_ret;exact ⟨m,rfl,ANS.out m (ownR_none HK.out HALL.out).symm,HB.out⟩
 ·have e1:decide (key.size≤20000)=false:=decide_eq_false hk
  simp only [e1] at hcT;clear hA hu;go_enter Tryz.func85,Tryz.ntmps85;go_wp2_with (go_at_call 94;refine (hcT _).mono ?_;rintro e w1 ⟨rfl,rfl⟩);go_ret;exact ⟨_,rfl,.inr ⟨.inl hk,rfl⟩,Below.refl _ _⟩
set_option maxRecDepth 10000 in
set_option maxHeartbeats 2000000 in
theorem c_s_l02Owner {w:World} {ao:Option Addr} {L:List ByteArray} (cap:Nat) (key:ByteArray) (hk:key.size≤20000) (hL:membersB L=true) (hA:StrsAt w ao L) :
  Calls Tryz.prog 38 #[.slice ao L.length cap,.string key] w fun e w'=>∃ s,e=.returned (.string s)∧OwnAns L key s∧Below w.heap.size w w':=by
 have hcR:=c_s_l02Ring cap hL hA;have hcH:=c_s_l02Hash key (by unfold maxLen;omega);have HLm:=hide hL;have hL1:=(memb_len hL).1;have hL12:=(memb_len hL).2;obtain ⟨H,hH⟩:∃ H,hashT key=H:=⟨_,rfl⟩;rw [hH] at hcH;have HH:=hide hH;clear hA hL hH;go_enter Tryz.func38,Tryz.ntmps38
 go_wp2_with (first
  | (go_at_call 78;refine hcR.mono ?_;rintro e w2 ⟨g,rc,R,rfl,hR,hown,hb2⟩;have HR:=hide hR;have HO:=hide hown;have HB:=hide hb2;have HRl:=hide (ring_len hR);clear hR hown hb2;obtain ⟨N,hN⟩:∃ N,R.length=N:=⟨_,rfl⟩;have HN:=hide hN;rw [hN] at HRl HO;rw [hN];clear hN)
  | (go_at_call 79;refine (hcH _).mono ?_;rintro e w3 ⟨rfl,rfl⟩))
 have hNp:0<N:=by have:=HRl.out;omega
 have hNm:N≤96:=by have:=HRl.out;omega
 have ANS:Hid (∀ s,s=ownR R H→OwnAns L key s):=fun s hs=>.inl ⟨hk,HLm.out,R,HR.out,by rw [hs,HH.out]⟩;clear hcR hcH
 go_loopw [7] (fun i wr=>wr=w3∧∃ k:Nat,k≤N∧i=.int .i64 k∧∀ (j:Nat) (b:Mk),j<k→R[j]?=some b→b.1<H) (fun i wr=>N - (Go.RowKit.intOf i).toNat)
 case atStart=>exact ⟨rfl,0,Nat.zero_le _,rfl,fun j b hj=>absurd hj (by omega)⟩
 case round=>
  obtain ⟨rfl,k,hkN,rfl,hlow⟩:=hrel;have HL:=hide hlow;clear hlow;by_cases hkn:k<N
  ·obtain ⟨⟨a,m⟩,hRk⟩:∃ a,R[k]?=some a:=⟨R[k]'(by have:=HN.out;omega),List.getElem?_eq_getElem _⟩
   obtain ⟨hc0,hc1⟩:=mark_cells HO.out HN.out.symm hRk;have HK:=hide hRk;clear hRk;by_cases hge:H≤a
   ·go_wp2
    go_ret;exact ⟨m,rfl,ANS.out m (ownR_hit HK.out hge HL.out).symm,HB.out⟩
   ·have hge2:decide (H≤a)=false:=decide_eq_false hge
    go_wp2;go_roundw
    case rel=>
     refine ⟨trivial,k+1,by omega,by go_num,fun j b hj hb=>?_⟩;by_cases e:j=k
     ·subst e;rw [HK.out] at hb;obtain rfl:=Option.some.inj hb;show a<H;omega
     ·exact HL.out j b (by omega) hb
    case measure=>simp [Go.RowKit.intOf];omega
  ·obtain ⟨⟨a,m⟩,hR0⟩:∃ a,R[0]?=some a:=⟨R[0]'(by have:=HN.out;omega),List.getElem?_eq_getElem _⟩
   obtain ⟨hc0,hc1⟩:=mark_cells HO.out HN.out.symm hR0;rw [Nat.zero_mul] at hc0 hc1;have HK:=hide hR0;have hNi:(0:Int)<(N:Int):=by omega
   have hall:∀ (j:Nat) (b:Mk),R[j]?=some b→b.1<H:=fun j b hb=>HL.out j b (by have:=(List.getElem?_eq_some_iff.1 hb).1;have:=HN.out;omega) hb;have HALL:=hide hall;clear hR0 hall;go_wp2;go_ret;exact ⟨m,rfl,ANS.out m (ownR_none HK.out HALL.out).symm,HB.out⟩
end Go.Proofs.YtmjogablacnlgaaGreatDoor
namespace Go.Proofs.YtmjogablacnlgaaGreatDoor
set_option linter.unusedVariables false
set_option linter.unusedSimpArgs false
open Go.PlainAid
def mk8 (u:ByteArray):List Mk:=(List.range 8).map fun k=>(hashT (mkText u k),u)
theorem memb_pair {L:List ByteArray} (h:membersB L=true):L.Pairwise (fun a b=>strLt a b=true):=by
 rw [List.pairwise_iff_getElem];intro i j hi hj hij;have h2:L[i+(j - i - 1)+1]?=some L[j]:=by rw [show i+(j - i - 1)+1=j by omega];exact List.getElem?_eq_getElem hj
 exact memb_rise h (List.getElem?_eq_getElem hi) _ h2
def isM (u:ByteArray) (m:Mk):Bool:=m.2.toList == u.toList
def insN (L:List ByteArray) (q:Nat) (nm:ByteArray):List ByteArray:=L.take q ++ nm :: L.drop q
end Go.Proofs.YtmjogablacnlgaaGreatDoor
