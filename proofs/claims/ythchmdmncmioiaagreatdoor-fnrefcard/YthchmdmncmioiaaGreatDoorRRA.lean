/-
 A row of samples with their windows.
-/
import Derived.Test.YthchmdmncmioiaaGreatDoorRMA
import Derived.Test.YthchmdmncmioiaaGreatDoorRDB
namespace Go.Proofs.YthchmdmncmioiaaGreatDoor
set_option linter.unusedVariables false
set_option linter.unusedSimpArgs false
open Go.ChangeShapes Go.WideShapes Go.ChangeAt Go.RowKit Go.PlainAid Go.Lib
set_option maxRecDepth 10000
def stL (s:St):List Value:=(stArr s).toList
theorem stL_len (s:St):(stL s).length=8:=rfl
def flT (L:List St):List Value:=L.flatMap stL
theorem flT_cons (x:St) (xs:List St):flT (x :: xs)=stL x ++ flT xs:=by simp [flT]
theorem flT_app (xs ys:List St):flT (xs ++ ys)=flT xs ++ flT ys:=by simp [flT]
theorem flT_len:∀ xs:List St,(flT xs).length=xs.length*8
 | []=>rfl
 | x :: xs=>by rw [flT_cons,List.length_append,stL_len,flT_len xs,List.length_cons];omega
theorem flT_at:∀ (xs:List St) (i:Nat) (x:St) (c:Nat),c<8→xs[i]?=some x→(flT xs)[i*8+c]?=(stL x)[c]?
 | [],i,x,c,hc,h=>by simp at h
 | y :: xs,0,x,c,hc,h=>by
  obtain rfl:y=x:=by simpa using h
  rw [flT_cons,List.getElem?_append_left (by rw [stL_len];omega),Nat.zero_mul,Nat.zero_add]
 | y :: xs,i+1,x,c,hc,h=>by
  rw [flT_cons,List.getElem?_append_right (by rw [stL_len];omega),stL_len,show (i+1)*8+c - 8=i*8+c by omega];exact flT_at xs i x c hc (by simpa using h)
def OwnT8 (w:World) (B:Nat) (v:Value) (L:List St):Prop:=w.ownsRow B 110 8 v L.length (flT L)
theorem OwnT8.past {w w':World} {B:Nat} {v:Value} {L:List St} (h:OwnT8 w B v L) (hb:Below w.heap.size w w'):OwnT8 w' B v L:=own_past h hb
theorem OwnT8.at {w:World} {B g n cp:Nat} {L:List St} (h:OwnT8 w B (.slice (some ⟨g,0,none⟩) n cp) L) (hn:L.length=n):StsAt w (some ⟨g,0,none⟩) L:=fun _=>by
 subst hn;refine ⟨g,0,rfl,fun i s hi=>?_⟩;have hl:=(List.getElem?_eq_some_iff.1 hi).1
 have q:∀ j v,j<8→(stL s)[j]?=some v→w.cell? ⟨g,0+i*8+j,none⟩=some v:=fun j v hj e=>by
  rw [Nat.zero_add,World.ownsRow.cellAt h (i*8+j) (by omega),flT_at L i s j hj hi];exact e
 exact ⟨q 0 _ (by omega) rfl,q 1 _ (by omega) rfl,q 2 _ (by omega) rfl,q 3 _ (by omega) rfl,q 4 _ (by omega) rfl,q 5 _ (by omega) rfl,q 6 _ (by omega) rfl,q 7 _ (by omega) rfl⟩
theorem infoSt:(Tryz.prog.info? 110).map (fun i=>(i.zero,i.size,i.bytes))=some (some (.agg #[.int .i64 0,.int .i64 0,.string ByteArray.empty,.int .i64 0,.string ByteArray.empty,.int .u64 0,.bool false,.int .i64 0]),8,80):=by kernel_rfl
abbrev zeroSt:Array Value:=#[.int .i64 0,.int .i64 0,.string ByteArray.empty,.int .i64 0,.string ByteArray.empty,.int .u64 0,.bool false,.int .i64 0]
end Go.Proofs.YthchmdmncmioiaaGreatDoor
namespace Go.Proofs.YthchmdmncmioiaaGreatDoor
set_option linter.unusedVariables false
set_option linter.unusedSimpArgs false
open Go.ChangeShapes Go.WideShapes Go.ChangeAt Go.RowKit Go.PlainAid Go.Maps
set_option maxRecDepth 10000
theorem OwnT8.kept {w w':World} {B:Nat} {v:Value} {L:List St} {r:Option Nat} (h:OwnT8 w B v L) (hg:w.grownBy w' r) (hne:∀ k,v.ownBlock=some k→some k≠r):OwnT8 w' B v L:=
 World.ownsRow.kept h hg (by
  cases q:v.ownBlock with
  | none=>exact .inl rfl
  | some j=>exact .inr (hne j q))
theorem OwnT8.made (w:World) (cs:Array Value) (h:cs.size=0):OwnT8 (w.alloc (.cells cs 110)) w.heap.size (.slice (some ⟨w.heap.size,0,none⟩) 0 0) []:=by
 have hb:=heap_alloc_new w (.cells cs 110);exact ⟨rfl,.inr ⟨_,0,cs,rfl,Nat.le_refl _,hb,Nat.le_refl _,Nat.zero_le _,by simpa using h,by simp [flT]⟩⟩
theorem OwnT8.form {w:World} {B:Nat} {v:Value} {L:List St} (h:OwnT8 w B v L):∃ ao cp,v=.slice ao L.length cp:=by
 rcases h.2 with ⟨e,q⟩ | ⟨g,cap,cur,e,_⟩
 ·exact ⟨none,0,by rw [e,q]⟩
 ·exact ⟨_,cap,e⟩
theorem OwnT8.sts {w:World} {B n cp:Nat} {ao:Option Addr} {L:List St} (h:OwnT8 w B (.slice ao n cp) L):StsAt w ao L:=fun h0=>by
 rcases h.2 with ⟨e,q⟩ | ⟨g,cap,cur,e,_⟩
 ·omega
 ·injection e with e1 e2 e3
  subst e1;subst e2;subst e3;exact OwnT8.at h rfl h0
theorem new_cellsT {W:World} {c:St} {t:TypeId} (j:Nat) (u:Value) (hj:(stL c)[j]?=some u):(W.alloc (.cells (stArr c) t)).cell? ((⟨W.heap.size,0,none⟩:Addr).add j)=some u:=by
 have hb:(W.alloc (.cells (stArr c) t)).heap[W.heap.size]?=some (.cells (stArr c) t (0,0)):=heap_alloc_new W _;rw [Addr.add_lit,Nat.zero_add,cell_of_row _ W.heap.size j _ _ (0,0) hb]
 simpa [stL] using hj
theorem stL_one (c:St):∀ v∈stL c,v.oneCell'=true:=by
 intro v hv;simp only [stL,List.mem_cons,List.not_mem_nil,or_false] at hv;rcases hv with rfl | rfl | rfl | rfl | rfl | rfl | rfl | rfl <;> rfl
structure DSt (W w:World) (B:Nat) (ao:Option Addr) (ln cap s:Nat) (wr:World) (v:Value) (L:List St):Prop where
 src:Src W B ao ln cap s wr
 lt:s<w.heap.size
 gr:w.grownBy wr (some s)
 own:OwnT8 wr w.heap.size v L
 ok:∀ t∈L,t.x.Ok
structure DSb (W w:World) (B:Nat) (ao:Option Addr) (ln cap s:Nat) (wr:World) (v:Value) (L:List St) (b:Nat) (t:St):Prop where
 d:DSt W w B ao ln cap s wr v L
 row:wr.heap[b]?=some (.cells (stArr t) 110 (0,0))
 lb:w.heap.size≤b
 ne:v.ownBlock≠some b
 ok:t.x.Ok
section
variable {W w:World} {B:Nat} {ao:Option Addr} {ln cap s:Nat} {wr:World} {v:Value} {L:List St} {b:Nat} {t:St}
theorem DSt.step (k:DSt W w B ao ln cap s wr v L) {w1:World} (hS:Src W B ao ln cap s w1) (hg:wr.grownBy w1 (some s)):DSt W w B ao ln cap s w1 v L:=by
 have hz:=k.lt;exact ⟨hS,k.lt,k.gr.trans hg,k.own.kept hg (fun j e e2=>by have:=(World.ownsRow.lt k.own j e).1;cases e2;omega),k.ok⟩
theorem DSb.step (k:DSb W w B ao ln cap s wr v L b t) {w1:World} (hS:Src W B ao ln cap s w1) (hg:wr.grownBy w1 (some s)):DSb W w B ao ln cap s w1 v L b t:=by
 have hz:=k.d.lt;have hl:=k.lb;exact ⟨k.d.step hS hg,(hg.block b (Array.getElem?_eq_some_iff.1 k.row).1 (fun e=>by cases e;omega)).trans k.row,k.lb,k.ne,k.ok⟩
theorem DSb.set (k:DSb W w B ao ln cap s wr v L b t) {t':St} (j:Nat) (u:Value) (e:(stArr t).setIfInBounds j u=stArr t') (ok:t'.x.Ok):DSb W w B ao ln cap s (wr.setCell ⟨b,j,none⟩ u) v L b t':=by
 have l2:=k.d.lt;have l1:=k.lb;have hb:Below b wr (wr.setCell ⟨b,j,none⟩ u):=(Below.refl b wr).setCell (by simp) u;have hg:wr.grownBy (wr.setCell ⟨b,j,none⟩ u) (some b):=grown_set wr ⟨b,j,none⟩ u;refine ⟨⟨src_farX k.d.src hb (by omega),k.d.lt,grown_farX k.d.gr (hb.mono (by omega)),k.d.own.kept hg (fun i q e=>k.ne (by rw [q,e])),k.d.ok⟩,?_,k.lb,k.ne,ok⟩;rw [← e];exact heap_setCell_same wr b j _ _ u k.row
theorem DSt.box (k:DSt W w B ao ln cap s wr v L) (ok:t.x.Ok):DSb W w B ao ln cap s (wr.alloc (.cells (stArr t) 110)) v L wr.heap.size t:=by
 have a1:Below wr.heap.size wr (wr.alloc (.cells (stArr t) 110)):=(Below.refl _ _).alloc (Nat.le_refl _) _;refine ⟨⟨src_past k.src a1,k.lt,grown_farX k.gr (a1.mono k.gr.size),k.own.past a1,k.ok⟩,heap_alloc_new wr _,k.gr.size,fun e=>?_,ok⟩;have:=(World.ownsRow.lt k.own _ e).2;omega
theorem DSb.app (k:DSb W w B ao ln cap s wr v L b t) {w1:World} {v':Value} (hO:w1.ownsRow w.heap.size 110 8 v' (L.length+1) (flT L ++ stL t)) (hg:(wr.alloc (.cells (stArr t) 110)).grownBy w1 v.ownBlock):DSt W w B ao ln cap s w1 v' (L ++ [t]):=by
 have hlt:=k.d.lt;have a1:Below wr.heap.size wr (wr.alloc (.cells (stArr t) 110)):=(Below.refl _ _).alloc (Nat.le_refl _) _;have hs:(wr.alloc (.cells (stArr t) 110)).heap.size=wr.heap.size+1:=by simp
 have hf:=k.d.gr.size;have b1:Below w.heap.size wr w1:=(a1.mono hf).grown hg (by rw [hs];omega) (fun j hj=>(World.ownsRow.lt k.d.own j hj).1);refine ⟨src_farX k.d.src b1 hlt,hlt,grown_farX k.d.gr b1,?_,fun y hy=>?_⟩
 ·show w1.ownsRow _ _ _ _ _ _
  rw [List.length_append,flT_app]
  simpa [flT] using hO
 ·rcases List.mem_append.1 hy with hy | hy
  ·exact k.d.ok y hy
  ·obtain rfl:=List.mem_singleton.1 hy;exact k.ok
end
theorem st_cells {w:World} {b:Nat} {t:St} {T:TypeId} (h:w.heap[b]?=some (.cells (stArr t) T (0,0))):w.cell? ⟨b,0,none⟩=some (.int .i64 t.n)∧w.cell? ⟨b,1,none⟩=some (.int .i64 t.x.k)∧w.cell? ⟨b,2,none⟩=some (.string t.x.se)∧w.cell? ⟨b,3,none⟩=some (.int .i64 t.x.v)∧w.cell? ⟨b,4,none⟩=some (.string t.x.wd)∧w.cell? ⟨b,5,none⟩=some (.int .u64 t.x.wt)∧w.cell? ⟨b,6,none⟩=some (.bool t.x.tm)∧w.cell? ⟨b,7,none⟩=some (.int .i64 t.x.ti):=
 ⟨cellKX h 0 rfl,cellKX h 1 rfl,cellKX h 2 rfl,cellKX h 3 rfl,cellKX h 4 rfl,cellKX h 5 rfl,cellKX h 6 rfl,cellKX h 7 rfl⟩
def DrawnSts (W:World) (B:Nat) (ao:Option Addr) (ln cap s:Nat) (w:World) (e:Ending) (w':World):Prop:=∃ v L,e=.returned v∧L.length≤17∧DSt W w B ao ln cap s w' v L
set_option maxHeartbeats 8000000 in
theorem c_l09Stamped {W w:World} {B ln cap s:Nat} {ao:Option Addr} (hc:CodeAt W B ao ln) (h:Src W B ao ln cap s w) :
  Calls Tryz.prog 61 #[.pointer (some ⟨s,0,none⟩)] w fun e w'=>DrawnSts W B ao ln cap s w e w':=by
 obtain ⟨i0,hi,hz0,hz1,hz2⟩:=info_parts infoSt;have HC:=hide hc;have hs:=src_lt h;have a0:Below w.heap.size w (w.alloc (.cells #[] 110)):=(Below.refl _ _).alloc (Nat.le_refl _) _;have D0:Hid (DSt W w B ao ln cap s (w.alloc (.cells #[] 110)) (.slice (some ⟨w.heap.size,0,none⟩) 0 0) []):=hide ⟨src_past h a0,hs,⟨a0.os,a0.tape,a0.output,a0.size,fun j hj _=>a0.block j hj⟩,OwnT8.made w #[] rfl,by simp⟩;obtain ⟨at_,mix,sz,hblk,_,_,z0,z1⟩:=h.blk;have hs3:(w.alloc (.cells #[] 110)).cell? ⟨s,3,none⟩=some (.int .i64 sz):=cell_on (by rw [cell_of_row w s 3 _ _ (0,0) hblk];rfl) _;have hw:IntKind.i64.wrap (6+sz)=6+sz:=IntWalk.i64_in _ ⟨by omega,by omega⟩;clear hc h hblk a0;go_enter Tryz.func61,Tryz.ntmps61;go_wp2_with fail;clear hs3;generalize w.alloc (.cells #[] 110)=W0 at D0 ⊢;refine (c_n HC.out D0.out.src (6+sz) (by omega)).mono ?_;rintro e w1 ⟨k,rfl,k0,k1,_,hS1,hg1⟩;have k1:=k1 (by omega);have D1:=hide (D0.out.step hS1 hg1);obtain ⟨k,rfl⟩:=Int.eq_ofNat_of_zero_le k0;have hk17:k≤17:=by omega
 clear D0 hS1 hg1 k1 k0 hw z0 z1;go_wp2_with fail
 go_loopw [3,4] (fun v kv wr=>∃ (j:Nat) (L:List St),kv=.int .i64 j∧j+L.length≤17∧Hid (DSt W w B ao ln cap s wr v L)) (fun v kv wr=>(RowKit.intOf kv).toNat)
 case atStart=>exact ⟨k,[],rfl,by simpa using hk17,D1⟩
 case round=>
  clear D1;obtain ⟨j,L,rfl,hj,HD⟩:=hrel;have HJ:=hide hj;clear hj;rcases Nat.eq_zero_or_pos j with h0 | h0
  ·subst h0
   go_wp2;go_ret;exact ⟨_,L,rfl,by have:=HJ.out;omega,HD.out⟩
  ·have hji:(0:Int)<(j:Int):=by omega
   have hj17:j≤17:=by have:=HJ.out;omega
   have hwj:IntKind.i64.wrap ((j:Int) - 1)=((j - 1:Nat):Int):=by rw [show (j:Int) - 1=((j - 1:Nat):Int) by omega];exact IntWalk.i64_in _ ⟨by omega,by omega⟩
   go_wp2_with fail;refine (c_n HC.out HD.out.src 3 (by omega)).mono ?_;rintro e w2 ⟨nw,rfl,a2,c2,_,hS2,hg2⟩;have c2:=c2 (by omega);have HD2:=hide (HD.out.step hS2 hg2);clear hS2 hg2 HD;go_wp2_with fail;refine (c_l08Sample HC.out HD2.out.src).mono ?_;rintro e w3 ⟨x,rfl,ox,hS3,hg3⟩;have HB3:=hide ((HD2.out.step hS3 hg3).box (t:=⟨nw,x⟩) ox);clear hS3 hg3 HD2 ox;go_wp2_with fail;generalize w3.alloc (.cells (stArr ⟨nw,x⟩) 110)=W3 at HB3 ⊢;generalize w3.heap.size=b at HB3 ⊢;have HB:Hid (∃ t,DSb W w B ao ln cap s W3 u3 L b t):=hide ⟨_,HB3.out⟩;clear HB3 c2 a2;obtain ⟨t,HB3⟩:=HB.out;replace HB3:=hide HB3;clear HB;refine (c_one HC.out HB3.out.d.src 60 (by omega)).mono ?_;rintro e w4 ⟨bb,rfl,hS4,hg4⟩;have HB4:=hide (HB3.out.step hS4 hg4);clear hS4 hg4 HB3;go_upto_if 24 with fail
   go_cut [5] (fun p w'=>p=.pointer (some ⟨b,0,none⟩)∧∃ t,Hid (DSb W w B ao ln cap s w' u3 L b t))
   case first=>
    cases bb with
    | false=>
     go_wp2;go_meet;exact ⟨rfl,t,HB4⟩
    | true=>
     obtain ⟨x0,_⟩:=st_cells HB4.out.row;have f0:=fzR 0 HB4.out.row;have HB5:=hide (HB4.out.set (t':=⟨-1,t.x⟩) 0 (.int .i64 (-1)) rfl HB4.out.ok);go_wp2;go_meet;exact ⟨rfl,_,HB5⟩
   case rest=>
   clear HB4;obtain ⟨rfl,t,HB5⟩:=hcut;obtain ⟨w5,hw5⟩:∃ X,wc=X:=⟨_,rfl⟩;rw [hw5] at HB5 ⊢;clear hw5;go_wp2_with fail;refine (c_one HC.out HB5.out.d.src 60 (by omega)).mono ?_;rintro e w6 ⟨b2,rfl,hS6,hg6⟩;have HB6:=hide (HB5.out.step hS6 hg6);clear hS6 hg6 HB5;go_upto_if 27 with fail
   go_cut [5] (fun p w'=>p=.pointer (some ⟨b,0,none⟩)∧∃ t,Hid (DSb W w B ao ln cap s w' u3 L b t))
   case first=>
    cases b2 with
    | false=>
     go_wp2;go_meet;exact ⟨rfl,t,HB6⟩
    | true=>
     obtain ⟨_,_,_,_,_,x5,_⟩:=st_cells HB6.out.row;have f5:=fzR 5 HB6.out.row;have HB7:=hide (HB6.out.set (t':=⟨t.n,⟨t.x.k,t.x.se,t.x.v,t.x.wd,0,t.x.tm,t.x.ti⟩⟩) 5 (.int .u64 0) rfl ⟨HB6.out.ok.k,HB6.out.ok.v,(show U64 (0:Int) by unfold U64;omega),HB6.out.ok.ti,HB6.out.ok.se,HB6.out.ok.wd⟩);go_wp2;go_meet;exact ⟨rfl,_,HB7⟩
   case rest=>
   clear HB6;obtain ⟨rfl,t,HB7⟩:=hcut;obtain ⟨w7,hw7⟩:∃ X,wc=X:=⟨_,rfl⟩;rw [hw7] at HB7 ⊢;clear hw7;obtain ⟨x0,x1,x2,x3,x4,x5,x6,x7⟩:=st_cells HB7.out.row;have hzs:w.heap.size≤w7.heap.size:=HB7.out.d.gr.size;go_wp2_with (at_builtin;refine wpList_append_own_at _ rfl _ _ 57 rfl w.heap.size 110 i0 (.agg zeroSt) 8 80 Tryz.underlying57 hi hz0 hz1 hz2 rfl (by decide) _ _ _ rfl (World.ownsRow.alloc HB7.out.d.own _) ⟨w7.heap.size,0,none⟩ 1 1 (stL t) rfl rfl ?c1 ?c2 ?c3 ?c4 ?c5 ?_)
   case c1=>exact new_cellsT
   case c2=>exact stL_one _
   case c3=>have:=HJ.out;unfold maxLen;omega
   case c4=>have:=HJ.out;omega
   case c5=>simp;omega
   intro v' w8 hown' hgrow _ hloc;have HD8:=hide (HB7.out.app hown' hgrow);clear hown' hgrow hloc HB7 x0 x1 x2 x3 x4 x5 x6 x7;go_wp2;go_roundw
   case rel=>exact ⟨j - 1,L ++ [t],by first | rfl | go_num,by have:=HJ.out;rw [List.length_append];simp;omega,HD8⟩
   case measure=>simp [RowKit.intOf];omega
end Go.Proofs.YthchmdmncmioiaaGreatDoor
