/-
 Putting a bin among gathered ones.
-/
import Derived.Test.YthpilcoklapooaaGreatDoorAJA
import Derived.Test.YthpilcoklapooaaGreatDoorAJR
import Derived.Lib.OwnKind
import Derived.Test.YthpilcoklapooaaGreatDoorAKG
namespace Go.Proofs.YthpilcoklapooaaGreatDoor
set_option linter.unusedVariables false
set_option linter.unusedSimpArgs false
open Go.ChangeShapes Go.WideShapes Go.ChangeAt Go.RowKit Go.PlainAid Go.Lib
set_option maxRecDepth 10000
/-- A gathering in memory: its block, its list. -/
structure Gat (w:World) (B g:Nat) (v:Value) (n:Nat) (L:List Bn):Prop where
 blk:w.heap[g]?=some (.cells #[v,fnPl,fnJo] 329 (0,0))
 own:w.ownsRow B 188 2 v n (fl encB L)
 len:n=L.length
 hB:B≤g
theorem Gat.lt {w:World} {B g n:Nat} {v:Value} {L:List Bn} (h:Gat w B g v n L):g<w.heap.size:=(Array.getElem?_eq_some_iff.1 h.blk).1
theorem Gat.ne {w:World} {B g n:Nat} {v:Value} {L:List Bn} (h:Gat w B g v n L):v.ownBlock≠some g:=fun e=>by
 obtain ⟨c,fz,hc⟩:=ownsRow_kind h.own g e
 rw [h.blk] at hc
 cases hc
theorem Gat.cells {w:World} {B g n:Nat} {v:Value} {L:List Bn} (h:Gat w B g v n L):w.cell? ⟨g,0,none⟩=some v∧GatC w g:=
 ⟨by rw [cell_of_row w g 0 _ _ (0,0) h.blk];rfl,by rw [cell_of_row w g 1 _ _ (0,0) h.blk];rfl,by rw [cell_of_row w g 2 _ _ (0,0) h.blk];rfl⟩
theorem Gat.frozen {w:World} {B g n:Nat} {v:Value} {L:List Bn} (h:Gat w B g v n L) (j:Nat):w.frozen? ⟨g,j,none⟩=false:=frozen_of_row w g j _ _ h.blk
theorem Gat.past {w w':World} {B g n:Nat} {v:Value} {L:List Bn} (h:Gat w B g v n L) (hb:Below w.heap.size w w'):Gat w' B g v n L:=
 ⟨by rw [hb.block g h.lt];exact h.blk,own_past h.own hb,h.len,h.hB⟩
set_option maxHeartbeats 2000000 in
theorem c_put {w:World} {B g n:Nat} {v:Value} {L:List Bn} (a u:Int) (ha:I64 a) (hu:U64 u) (hL:Rise L) (hok:∀ x∈L,BnOk x) (hl:n≤500) (h:Gat w B g v n L) :
  Calls Tryz.prog 313 #[.pointer (some ⟨g,0,none⟩),.agg #[.int .i64 a,.int .u64 u]] w fun e w'=>∃ r v' n',e=.returned r∧Gat w' B g v' n' (insB (a,u) L)∧Below B w w':=by
 obtain ⟨c0,cG⟩:=h.cells
 have HH:=hide h
 have HL:=hide hL
 have HK:=hide hok
 clear h hL hok
 go_enter Tryz.func313,Tryz.ntmps313
 go_wp2_with fail
 generalize hW0:w.alloc (Obj.cells #[.int .i64 a,.int .u64 u] 188)=W0
 have T0:Below w.heap.size w W0:=by rw [← hW0];exact (Below.refl _ _).alloc (Nat.le_refl _) _
 have A0:BinCell W0 w.heap.size a u:=by rw [← hW0];exact bc_new w _ _ _
 have G0:W0.cell? ⟨g,0,none⟩=some v∧GatC W0 g:=⟨cell_past T0 c0,gat_past cG T0⟩
 clear hW0
 have HT0:=hide T0
 have hC:∀ W,Below W0.heap.size W0 W→BinCell W w.heap.size a u∧W.cell? ⟨g,0,none⟩=some v∧GatC W g:=fun W hW=>⟨bc_past A0 hW,cell_past hW G0.1,gat_past G0.2 hW⟩
 have HC:=hide hC
 clear T0 hC A0 G0 c0 cG
 go_region_held3 (fun W=>Kept W0.heap.size W0 W∧BinCell W w.heap.size a u∧W.cell? ⟨g,0,none⟩=some v∧GatC W g)
  (first | exact hS3 | exact ⟨held (Below.refl _ _).drew (by simp),HC.out _ (Below.refl _ _).drew⟩)
  (first
   | (go_at_call 311;have hS:=(‹Kept _ _ _∧_›).1;refine (c_place _ _ _).mono ?_;rintro e w6 ⟨rfl,hb6⟩;have hS1:=(held_call hb6 hS).1;have hS3:Kept W0.heap.size W0 w6∧_:=⟨held hS1 (Nat.le_refl _),HC.out _ hS1⟩;clear hb6 hS1)
   | (go_at_call 315;have hS:=(‹Kept _ _ _∧_›).1;refine (c_search _ HH.out.len (by omega) HL.out (HH.out.past (chain HT0.out hS.1)).own (HH.out.past (chain HT0.out hS.1)).cells.2).mono ?_;rintro e w7 ⟨i,f,rfl,hpos,hf,hb6⟩;have hS1:=(held_call hb6 hS).1;have hS3:Kept W0.heap.size W0 w7∧_:=⟨held hS1 (Nat.le_refl _),HC.out _ hS1⟩;clear hb6 hS1))
 all_goals
  have HT7:=hide (chain HT0.out hS3.1.1)
  have HB7:=hide hS3.1.1
  have hC7:∀ W,Below w7.heap.size w7 W→BinCell W w.heap.size a u∧W.cell? ⟨g,0,none⟩=some v∧GatC W g:=fun W hW=>HC.out W (chain HB7.out hW)
  have HC7:=hide hC7
  clear hS3 hC7 HC
  have H7:=hide (HH.out.past HT7.out)
  cases f with
  | true=>
   obtain ⟨⟨a',u'⟩,hRk,hap⟩:=hf.1 rfl
   obtain ⟨_,hu'⟩:=HK.out _ (List.mem_of_getElem? hRk)
   obtain ⟨go,cc,e,hc0,hc1,hf0,hf1,_⟩:=own_bin H7.out.own H7.out.len hRk
   subst e
   have hin:i<n:=by have:=(List.getElem?_eq_some_iff.1 hRk).1;have:=H7.out.len;omega
   have HRk:=hide hRk
   have HPos:=hide hpos
   clear hf hRk hpos
   simp only at hu'
   have hC8:∀ W,Below w7.heap.size w7 W→BinCell W w.heap.size a u∧W.cell? ⟨g,0,none⟩=some (.slice (some ⟨go,0,none⟩) n cc)∧GatC W g∧W.cell? ⟨go,i*2,none⟩=some (.int .i64 a')∧W.cell? ⟨go,i*2+1,none⟩=some (.int .u64 u')∧W.frozen? ⟨go,i*2,none⟩=false∧W.frozen? ⟨go,i*2+1,none⟩=false:=fun W hW=>⟨(HC7.out W hW).1,(HC7.out W hW).2.1,(HC7.out W hW).2.2,cell_past hW hc0,cell_past hW hc1,by rw [frozen_past hW hc0];exact hf0,by rw [frozen_past hW hc1];exact hf1⟩
   have HC8:=hide hC8
   clear hC8 hc0 hc1 hf0 hf1
   go_wp2_with fail
   have HS0:(fun W=>Below w7.heap.size w7 W∧BinCell W w.heap.size a u∧W.cell? ⟨g,0,none⟩=some (.slice (some ⟨go,0,none⟩) n cc)∧GatC W g∧W.cell? ⟨go,i*2,none⟩=some (.int .i64 a')∧W.cell? ⟨go,i*2+1,none⟩=some (.int .u64 u')∧W.frozen? ⟨go,i*2,none⟩=false∧W.frozen? ⟨go,i*2+1,none⟩=false) w7.drew:=⟨(Below.refl _ _).drew,HC8.out _ (Below.refl _ _).drew⟩
   refine regionK (fun W=>Below w7.heap.size w7 W∧BinCell W w.heap.size a u∧W.cell? ⟨g,0,none⟩=some (.slice (some ⟨go,0,none⟩) n cc)∧GatC W g∧W.cell? ⟨go,i*2,none⟩=some (.int .i64 a')∧W.cell? ⟨go,i*2+1,none⟩=some (.int .u64 u')∧W.frozen? ⟨go,i*2,none⟩=false∧W.frozen? ⟨go,i*2+1,none⟩=false) 19 (by kernel_rfl) ?_
   refine tkL (i:=0) (d:=23) (v:=.pointer (some ⟨g,0,none⟩)) rfl rfl HS0 (fun W hW=>?_) ?_
   ·obtain ⟨_,⟨x0,x1⟩,x2,⟨x3,x4⟩,x5,x6,x7,x8⟩:=hW
    go_simp
   refine tkL (i:=1) (d:=24) (v:=.pointer (some ⟨g,0,none⟩)) rfl rfl HS0 (fun W hW=>?_) ?_
   ·obtain ⟨_,⟨x0,x1⟩,x2,⟨x3,x4⟩,x5,x6,x7,x8⟩:=hW
    go_simp
   refine tkL (i:=2) (d:=25) (v:=.pointer (some ⟨g,0,none⟩)) rfl rfl HS0 (fun W hW=>?_) ?_
   ·obtain ⟨_,⟨x0,x1⟩,x2,⟨x3,x4⟩,x5,x6,x7,x8⟩:=hW
    go_simp
   refine tkL (i:=3) (d:=26) (v:=.slice (some ⟨go,0,none⟩) n cc) rfl rfl HS0 (fun W hW=>?_) ?_
   ·obtain ⟨_,⟨x0,x1⟩,x2,⟨x3,x4⟩,x5,x6,x7,x8⟩:=hW
    go_simp
   refine tkL (i:=4) (d:=27) (v:=.int .i64 i) rfl rfl HS0 (fun W hW=>?_) ?_
   ·obtain ⟨_,⟨x0,x1⟩,x2,⟨x3,x4⟩,x5,x6,x7,x8⟩:=hW
    go_simp
   refine tkL (i:=5) (d:=28) (v:=.pointer (some ⟨g,0,none⟩)) rfl rfl HS0 (fun W hW=>?_) ?_
   ·obtain ⟨_,⟨x0,x1⟩,x2,⟨x3,x4⟩,x5,x6,x7,x8⟩:=hW
    go_simp
   refine tkL (i:=6) (d:=29) (v:=.pointer (some ⟨g,0,none⟩)) rfl rfl HS0 (fun W hW=>?_) ?_
   ·obtain ⟨_,⟨x0,x1⟩,x2,⟨x3,x4⟩,x5,x6,x7,x8⟩:=hW
    go_simp
   refine tkL (i:=7) (d:=30) (v:=.pointer (some ⟨g,2,none⟩)) rfl rfl HS0 (fun W hW=>?_) ?_
   ·obtain ⟨_,⟨x0,x1⟩,x2,⟨x3,x4⟩,x5,x6,x7,x8⟩:=hW
    go_simp
   refine tkL (i:=8) (d:=31) (v:=fnJo) rfl rfl HS0 (fun W hW=>?_) ?_
   ·obtain ⟨_,⟨x0,x1⟩,x2,⟨x3,x4⟩,x5,x6,x7,x8⟩:=hW
    go_simp
   refine tkL (i:=9) (d:=32) (v:=.pointer (some ⟨g,0,none⟩)) rfl rfl HS0 (fun W hW=>?_) ?_
   ·obtain ⟨_,⟨x0,x1⟩,x2,⟨x3,x4⟩,x5,x6,x7,x8⟩:=hW
    go_simp
   refine tkL (i:=10) (d:=33) (v:=.pointer (some ⟨g,0,none⟩)) rfl rfl HS0 (fun W hW=>?_) ?_
   ·obtain ⟨_,⟨x0,x1⟩,x2,⟨x3,x4⟩,x5,x6,x7,x8⟩:=hW
    go_simp
   refine tkL (i:=11) (d:=34) (v:=.pointer (some ⟨g,0,none⟩)) rfl rfl HS0 (fun W hW=>?_) ?_
   ·obtain ⟨_,⟨x0,x1⟩,x2,⟨x3,x4⟩,x5,x6,x7,x8⟩:=hW
    go_simp
   refine tkL (i:=12) (d:=35) (v:=.slice (some ⟨go,0,none⟩) n cc) rfl rfl HS0 (fun W hW=>?_) ?_
   ·obtain ⟨_,⟨x0,x1⟩,x2,⟨x3,x4⟩,x5,x6,x7,x8⟩:=hW
    go_simp
   refine tkL (i:=13) (d:=36) (v:=.int .i64 i) rfl rfl HS0 (fun W hW=>?_) ?_
   ·obtain ⟨_,⟨x0,x1⟩,x2,⟨x3,x4⟩,x5,x6,x7,x8⟩:=hW
    go_simp
   refine tkL (i:=14) (d:=37) (v:=.pointer (some ⟨go,i*2,none⟩)) rfl rfl HS0 (fun W hW=>?_) ?_
   ·obtain ⟨_,⟨x0,x1⟩,x2,⟨x3,x4⟩,x5,x6,x7,x8⟩:=hW
    go_simp
   refine tkL (i:=15) (d:=38) (v:=.agg #[.int .i64 a',.int .u64 u']) rfl rfl HS0 (fun W hW=>?_) ?_
   ·obtain ⟨_,⟨x0,x1⟩,x2,⟨x3,x4⟩,x5,x6,x7,x8⟩:=hW
    go_simp
   refine tkL (i:=16) (d:=39) (v:=.agg #[.int .i64 a,.int .u64 u]) rfl rfl HS0 (fun W hW=>?_) ?_
   ·obtain ⟨_,⟨x0,x1⟩,x2,⟨x3,x4⟩,x5,x6,x7,x8⟩:=hW
    go_simp
   simp only [sA,sB,sC]
   refine onE (i:=17) rfl (fun K hK=>?_)
   go_simp
   refine (c_join _ _ _ _ hu' hu _).mono ?_
   rintro e w8 ⟨rfl,hb8⟩
   dsimp only
   refine hK.out _ _ (fun _=>⟨((Below.refl _ _).drew).trans hb8,HC8.out _ (((Below.refl _ _).drew).trans hb8)⟩) ?_
   clear hK K
   try simp only [Act.put,sA,sB,sC]
   have HB8:=hide (((Below.refl w7.heap.size w7).drew).trans hb8)
   obtain ⟨x0,x2,x3,x5,x6,x7,x8⟩:=HC8.out _ HB8.out
   clear hb8
   refine onE (i:=18) rfl (fun K hK=>?_)
   go_simp
   refine hK.out _ _ (fun _=>⟨HB8.out,HC8.out _ HB8.out⟩) ?_
   clear hK K
   try simp only [Act.put,sA,sB,sC]
   have oF:w8.ownsRow B 188 2 (.slice (some ⟨go,0,none⟩) n cc) n (fl encB L):=(H7.out.past HB8.out).own
   have hgo:go≠g:=fun e=>H7.out.ne (by rw [e];rfl)
   have fin:Gat ((w8.setCell ⟨go,i*2,none⟩ (.int .i64 a')).setCell ⟨go,i*2+1,none⟩ (.int .u64 (wAdd u' u))) B g (.slice (some ⟨go,0,none⟩) n cc) n (insB (a,u) L)∧Below B w ((w8.setCell ⟨go,i*2,none⟩ (.int .i64 a')).setCell ⟨go,i*2+1,none⟩ (.int .u64 (wAdd u' u))):=by
    have hlt:=(List.getElem?_eq_some_iff.1 HRk.out).1
    rw [ins_found L i HPos.out HRk.out hap]
    refine ⟨⟨?_,?_,by rw [List.length_set];exact H7.out.len,H7.out.hB⟩,?_⟩
    ·rw [heap_setCell_other _ _ _ _ (by simpa using hgo.symm),heap_setCell_other _ _ _ _ (by simpa using hgo.symm)];exact (H7.out.past HB8.out).blk
    ·have:=(((oF.stored (i*2) (.int .i64 a')).1).stored (i*2+1) (.int .u64 (wAdd u' u))).1
     rwa [fl_set encB2 L i (a',wAdd u' u) hlt rfl] at this
    ·have hBg:=(own_lt oF).1
     exact (((HT7.out.mono (Nat.le_trans HH.out.hB (Nat.le_of_lt HH.out.lt))).trans (HB8.out.mono (Nat.le_trans (Nat.le_trans HH.out.hB (Nat.le_of_lt HH.out.lt)) HT7.out.size))).setCell hBg _).setCell hBg _
   rw [hap] at fin
   have FIN:=hide fin
   clear fin oF
   refine onE (i:=19) rfl (fun K hK=>?_)
   go_simp
   refine hK.out _ _ (fun h=>absurd rfl h) ?_
   clear hK K
   try simp only [Act.put,sA,sB,sC]
   refine doneK (by kernel_rfl) ?_ _
   go_wp2
   exact bodyPost_ret (v:=.tuple #[]) (by simp [results,Tryz.results313,go_sem]) rfl ⟨⟨_,rfl⟩,⟨_,_,FIN.out.1⟩,FIN.out.2⟩
  | false=>
   have HF:=hide (fun h=>by cases hf.2 h:¬ ∃ x,L[i]?=some x∧x.1=a)
   have HPos:=hide hpos
   clear hf hpos
   have HS0:(fun W=>BinCell W w.heap.size a u∧W.cell? ⟨g,0,none⟩=some v∧W.frozen? ⟨g,0,none⟩=false) w7.drew:=⟨(HC7.out _ (Below.refl _ _).drew).1,(HC7.out _ (Below.refl _ _).drew).2.1,H7.out.frozen 0⟩
   go_wp2_with fail
   refine regionK (fun W=>BinCell W w.heap.size a u∧W.cell? ⟨g,0,none⟩=some v∧W.frozen? ⟨g,0,none⟩=false) 11 (by kernel_rfl) ?_
   refine tkL (i:=0) (d:=42) (v:=.pointer (some ⟨g,0,none⟩)) rfl rfl HS0 (fun W hW=>?_) ?_
   ·obtain ⟨⟨x0,x1⟩,x2,x3⟩:=hW
    go_simp
   refine tkL (i:=1) (d:=43) (v:=.pointer (some ⟨g,0,none⟩)) rfl rfl HS0 (fun W hW=>?_) ?_
   ·obtain ⟨⟨x0,x1⟩,x2,x3⟩:=hW
    go_simp
   refine tkL (i:=2) (d:=44) (v:=.pointer (some ⟨g,0,none⟩)) rfl rfl HS0 (fun W hW=>?_) ?_
   ·obtain ⟨⟨x0,x1⟩,x2,x3⟩:=hW
    go_simp
   refine tkL (i:=3) (d:=45) (v:=.pointer (some ⟨g,0,none⟩)) rfl rfl HS0 (fun W hW=>?_) ?_
   ·obtain ⟨⟨x0,x1⟩,x2,x3⟩:=hW
    go_simp
   refine tkL (i:=4) (d:=46) (v:=v) rfl rfl HS0 (fun W hW=>?_) ?_
   ·obtain ⟨⟨x0,x1⟩,x2,x3⟩:=hW
    go_simp
   refine tkL (i:=5) (d:=47) (v:=.int .i64 i) rfl rfl HS0 (fun W hW=>?_) ?_
   ·obtain ⟨⟨x0,x1⟩,x2,x3⟩:=hW
    go_simp
   refine tkL (i:=6) (d:=48) (v:=.agg #[.int .i64 a,.int .u64 u]) rfl rfl HS0 (fun W hW=>?_) ?_
   ·obtain ⟨⟨x0,x1⟩,x2,x3⟩:=hW
    go_simp
   simp only [sA,sB,sC]
   refine onE (i:=7) rfl (fun K hK=>?_)
   go_simp
   have hbA:∀ o,Below w7.heap.size w7 (w7.alloc o).drew:=fun o=>((Below.refl _ _).alloc (Nat.le_refl _) o).drew
   refine hK.out _ _ (fun _=>⟨(HC7.out _ (hbA _)).1,(HC7.out _ (hbA _)).2.1,(H7.out.past (hbA _)).frozen 0⟩) ?_
   clear hK K
   try simp only [Act.put,sA,sB,sC]
   obtain ⟨WA,hWA⟩:∃ WA,WA=(w7.alloc (Obj.cells #[.int .i64 a,.int .u64 u] 188)).drew:=⟨_,rfl⟩
   rw [← hWA]
   have HA:=H7.out.past (hbA (Obj.cells #[.int .i64 a,.int .u64 u] 188))
   have hvA:WA.heap[w7.heap.size]?=some (.cells #[.int .i64 a,.int .u64 u] 188 (0,0)):=by rw [hWA];exact heap_alloc_new w7 _
   rw [← hWA] at HA
   have hBA:Below w7.heap.size w7 WA:=by rw [hWA];exact hbA _
   have hBw:B≤w.heap.size:=Nat.le_trans HH.out.hB (Nat.le_of_lt HH.out.lt)
   have hne:v.ownBlock≠some w7.heap.size:=fun e=>by have:=(H7.out.own.lt _ e).2;omega
   have HBA:=hide hBA
   have HHA:=hide HA
   have HvA:=hide hvA
   clear HA hvA hBA hbA hWA
   refine onE (i:=8) rfl (fun K hK=>?_)
   go_simp
   refine (c_Insert HHA.out.len (by omega) (by have:=HPos.out.1;have:=HHA.out.len;omega) HHA.out.own (by have:=HBA.out.size;have:=HT7.out.size;omega) hne HvA.out).mono ?_
   rintro e w8 ⟨v',rfl,ho8,hg8⟩
   dsimp only
   obtain ⟨ao8,c8',rfl⟩:=own_any ho8
   have hgn:some g≠v.ownBlock:=fun e=>HHA.out.ne e.symm
   have hb8:w8.heap[g]?=some (.cells #[v,fnPl,fnJo] 329 (0,0)):=by rw [hg8.block g HHA.out.lt hgn];exact HHA.out.blk
   have hbox:∀ j,w8.cell? ⟨w.heap.size,j,none⟩=WA.cell? ⟨w.heap.size,j,none⟩:=fun j=>by
    have hlt:w.heap.size<WA.heap.size:=by have:=World.block_lt_of_cell? _ _ (HC7.out _ HBA.out).1.1;exact this
    have hnb:some w.heap.size≠v.ownBlock:=fun e=>by have:=(HH.out.own.lt _ e.symm).2;omega
    exact World.cell?_of_block (w:=WA) (hg8.block _ hlt hnb)
   have S8:BinCell w8 w.heap.size a u∧w8.cell? ⟨g,0,none⟩=some v∧w8.frozen? ⟨g,0,none⟩=false:=⟨⟨by rw [hbox];exact (HC7.out _ HBA.out).1.1,by rw [hbox];exact (HC7.out _ HBA.out).1.2⟩,by rw [cell_of_row w8 g 0 _ _ (0,0) hb8];rfl,frozen_of_row w8 g 0 _ _ hb8⟩
   refine hK.out _ _ (fun _=>S8) ?_
   clear hK K
   try simp only [Act.put,sA,sB,sC]
   have f8:=fzR 0 hb8
   have c8:w8.cell? ⟨g,0,none⟩=some v:=by rw [cell_of_row w8 g 0 _ _ (0,0) hb8];rfl
   have fin:Gat (w8.setCell ⟨g,0,none⟩ (.slice ao8 (n+1) c8')) B g (.slice ao8 (n+1) c8') (n+1) (insB (a,u) L)∧Below B w (w8.setCell ⟨g,0,none⟩ (.slice ao8 (n+1) c8')):=by
    have hv9:(Value.slice ao8 (n+1) c8').ownBlock≠some g:=fun e=>by
     obtain ⟨c,fz,hc⟩:=ownsRow_kind ho8 g e
     rw [hb8] at hc
     cases hc
    have hlen:(insB (a,u) L).length=n+1:=by
     rw [ins_new L i HPos.out HF.out]
     have:=HPos.out.1;have:=HHA.out.len
     simp;omega
    refine ⟨⟨heap_setCell_same w8 g 0 _ _ (.slice ao8 (n+1) c8') hb8,?_,hlen.symm,HH.out.hB⟩,?_⟩
    ·rw [ins_new L i HPos.out HF.out]
     exact ownsRow_setCell_other ho8 hv9 _
    ·have h1:Below B w WA:=(HT7.out.mono hBw).trans (HBA.out.mono (by have:=HT7.out.size;omega))
     have h2:Below B w w8:=h1.grown hg8 (by have:=h1.size;omega) (fun k e=>(HHA.out.own.lt k e).1)
     exact h2.setCell HH.out.hB _
   have FIN:=hide fin
   have HS8:=hide S8
   clear fin ho8 hg8 hb8 hbox S8
   refine onE (i:=9) rfl (fun K hK=>?_)
   go_simp
   refine hK.out _ _ (fun _=>HS8.out) ?_
   clear hK K
   try simp only [Act.put,sA,sB,sC]
   refine onE (i:=10) rfl (fun K hK=>?_)
   go_simp
   refine hK.out _ _ (fun _=>HS8.out) ?_
   clear hK K
   try simp only [Act.put,sA,sB,sC]
   refine onE (i:=11) rfl (fun K hK=>?_)
   go_simp
   refine hK.out _ _ (fun h=>absurd rfl h) ?_
   clear hK K
   try simp only [Act.put,sA,sB,sC]
   refine doneK (by kernel_rfl) ?_ _
   go_wp2
   exact bodyPost_end (v:=.tuple #[]) (by simp [results,Tryz.results313,go_sem]) rfl ⟨_,_,_,rfl,FIN.out.1,FIN.out.2⟩
end Go.Proofs.YthpilcoklapooaaGreatDoor
