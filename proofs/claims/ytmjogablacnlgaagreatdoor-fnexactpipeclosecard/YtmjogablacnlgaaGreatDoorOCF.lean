/-
 An argument that is a Shard, opened.
-/
import Derived.Test.YtmjogablacnlgaaGreatDoorOCC
import Derived.Test.YtmjogablacnlgaaGreatDoorOCD
namespace Go.Proofs.YtmjogablacnlgaaGreatDoor
set_option linter.unusedVariables false
set_option linter.unusedSimpArgs false
open Go.ChangeShapes Go.WideShapes Go.ChangeAt Go.RowKit Go.PlainAid
set_option maxRecDepth 100000 in
theorem open_cells0 {H:Type} {enc:TypeId×Value→H} {W:World} {base fuel:Nat} {sp:Nat→Bool} {held:Bool} {v:Value} {x:DataW H×List MemPlace}
  (hf:DataW.trod enc Tryz.prog W base sp held fuel 105 [v]=some x) :
  ∃ ao cap,∃ L:List Ce,v=.slice ao L.length cap∧CesLen L∧CesAt W ao L∧∀ c∈L,AgOk c.g:=by
 rcases Deep.open_slice Tryz.underlying105 hf with ⟨hcs,hx⟩ | ⟨a,ln,cap,m,n,D,P,hcs,_,hl,hm,hmm,hx,hcell⟩
 ·obtain rfl:v=.slice none 0 0:=by simpa using hcs
  exact ⟨none,0,[],rfl,⟨Nat.zero_le _,fun c hc=>absurd hc List.not_mem_nil,fun c hc=>absurd hc List.not_mem_nil⟩,⟨fun h=>absurd h (Nat.lt_irrefl 0),fun c hc=>absurd hc List.not_mem_nil⟩,fun c hc=>absurd hc List.not_mem_nil⟩
 ·obtain rfl:v=.slice (some a) ln cap:=by simpa using hcs
  rw [show Tryz.prog.cellsOf 177=15 by kernel_rfl] at hcell;have hlm:ln≤m:=by rw [hmm];split <;> omega
  have each:∀ i,i<ln→∃ c:Ce,(∀ j,j<15→W.cell? ((a.add (i*15)).add j)=(ceArr c).toList[j]?)∧CeOk W c:=fun i hi=>by
   obtain ⟨cs',h1,h2⟩:=hcell i (by omega);obtain ⟨c,rfl,ok⟩:=open_ce0 h2;obtain ⟨_,_,h3⟩:=World.cells?_some h1;exact ⟨c,h3,ok⟩
  obtain ⟨f,hf⟩:=Deep.choose_lt (α:=Ce) each;have hlen:((List.range ln).map f).length=ln:=by simp
  have mem:∀ c∈(List.range ln).map f,CeOk W c:=fun c hc=>by
   obtain ⟨i,hi,rfl⟩:=List.mem_map.1 hc;exact (hf i (List.mem_range.1 hi)).2
  refine ⟨some a,cap,(List.range ln).map f,by rw [hlen],⟨by rw [hlen];omega,fun c hc=>(mem c hc).s,fun c hc=>(mem c hc).l⟩,⟨fun h0=>?_,fun c hc=>(mem c hc).m⟩,fun c hc=>(mem c hc).g⟩;rw [hlen] at h0;have g0:=(hf 0 h0).1 0 (by omega);obtain ⟨b,off,spot⟩:=a
  have hspot:spot=none:=by
   have g1:W.cell? ⟨b,off,spot⟩=some (.int .i64 (f 0).n):=by simpa [Addr.add,ceArr] using g0
   exact World.cell?_spot g1
  subst hspot;refine ⟨b,off,rfl,fun i x hi=>?_⟩;have hil:=(List.getElem?_eq_some_iff.1 hi).1;rw [hlen] at hil
  have e:x=f i:=by
   have:=(List.getElem?_eq_some_iff.1 hi).2
   simpa using this.symm
  subst e;have q:=(hf i hil).1;simp only [Addr.add_lit] at q;exact ⟨q 0 (by omega),q 1 (by omega),q 2 (by omega),q 3 (by omega),q 4 (by omega),q 5 (by omega),q 6 (by omega),q 7 (by omega),q 8 (by omega),q 9 (by omega),q 10 (by omega),q 11 (by omega),q 12 (by omega),q 13 (by omega),q 14 (by omega)⟩
set_option maxRecDepth 10000
theorem sh_box (w:World) (nm:ByteArray) (v:Value) (T:TypeId) (W:World) (hb:Below (w.alloc (.cells #[.string nm,v] T)).heap.size (w.alloc (.cells #[.string nm,v] T)) W):W.cell? ⟨w.heap.size,0,none⟩=some (.string nm)∧W.cell? ⟨w.heap.size,1,none⟩=some v:=by
 have h:=(hb.block w.heap.size (by simp)).trans (heap_alloc_new w (.cells #[.string nm,v] T));exact ⟨cellKC h 0 rfl,cellKC h 1 rfl⟩
theorem sh_three (w:World) (nm:ByteArray) (v:Value):Hid ((((w.alloc (.cells #[.string nm,v] 107)).alloc (.cells #[.string ⟨#[]⟩,.slice none 0 0] 55)).alloc (.cells #[.string nm,.slice none 0 0] 55)).heap.size=w.heap.size+1+1+1) ∧
  Hid (Below w.heap.size w (((w.alloc (.cells #[.string nm,v] 107)).alloc (.cells #[.string ⟨#[]⟩,.slice none 0 0] 55)).alloc (.cells #[.string nm,.slice none 0 0] 55))) ∧
  Hid ((((w.alloc (.cells #[.string nm,v] 107)).alloc (.cells #[.string ⟨#[]⟩,.slice none 0 0] 55)).alloc (.cells #[.string nm,.slice none 0 0] 55)).heap[w.heap.size+1]?=some (.cells #[.string ⟨#[]⟩,.slice none 0 0] 55 (0,0))) ∧
  Hid ((((w.alloc (.cells #[.string nm,v] 107)).alloc (.cells #[.string ⟨#[]⟩,.slice none 0 0] 55)).alloc (.cells #[.string nm,.slice none 0 0] 55)).heap[w.heap.size+1+1]?=some (.cells #[.string nm,.slice none 0 0] 55 (0,0))):=by
 have a1:∀ (W:World) o,Below W.heap.size W (W.alloc o):=fun W o=>(Below.refl _ _).alloc (Nat.le_refl _) _;have k1:=heap_alloc_new (w.alloc (.cells #[.string nm,v] 107)) (.cells #[.string ⟨#[]⟩,.slice none 0 0] 55);have k2:=heap_alloc_new ((w.alloc (.cells #[.string nm,v] 107)).alloc (.cells #[.string ⟨#[]⟩,.slice none 0 0] 55)) (.cells #[.string nm,.slice none 0 0] 55);simp only [World.size_alloc] at k1 k2;exact ⟨by simp;exact hide trivial,hide (chain (chain (a1 _ _) (a1 _ _)) (a1 _ _)),hide (((a1 _ _).block _ (by simp)).trans k1),hide k2⟩
theorem c_eqShard {w:World} {ao bo:Option Addr} {N ca cb:Nat} {L M:List Ce} (nm:ByteArray) (hN:L.length=N) (hM:M.length=N) (hk:L.map Ce.key=M.map Ce.key) (hl:N≤1048576) (sm:∀ c∈L,AgSm c.g) (hA:CesAt w ao L) (hB:CesAt w bo M) :
  Calls Tryz.prog 86 #[.agg #[.string nm,.slice ao N ca],.agg #[.string nm,.slice bo N cb]] w fun e w'=>e=.returned (.bool true)∧Below w.heap.size w w':=by
 have HN:=hide hN;have HM:=hide hM;have HK:=hide hk;have HA:=hide hA;have HB:=hide hB;have SM:=hide sm;have hb0:Below w.heap.size w ((w.alloc (.cells #[.string nm,.slice ao N ca] 55)).alloc (.cells #[.string nm,.slice bo N cb] 55)):=((Below.refl _ _).alloc (Nat.le_refl _) _).alloc (by simp) _;have HT0:=hide hb0;have hss:=str_self nm;clear hN hM hk hA hB sm hb0;go_enter Tryz.func86,Tryz.ntmps86;go_wp2_with fail;refine (c_eqCellS HN.out HM.out HK.out hl SM.out (ces_past HA.out HT0.out) (ces_past HB.out HT0.out)).mono ?_;rintro e w1 ⟨rfl,hb1⟩;have HT1:=hide (chain HT0.out hb1);clear hb1;go_wp2;go_ret;exact ⟨rfl,HT1.out⟩
noncomputable def shB (nm:ByteArray) (L:List Ce):Bool:=nameB nm && csR L
theorem ret_sh {nm:ByteArray} {L:List Ce} {b c:Bool} (h1:nameB nm=b) (h2:csR L=c):Ending.returned (.bool (b && c))=.returned (.bool (shB nm L)):=by unfold shB;rw [h1,h2]
set_option maxHeartbeats 1000000 in
theorem c_i_ShardRight {w:World} {ao:Option Addr} {N ca:Nat} {L:List Ce} (nm:ByteArray) (hs:nm.size≤maxLen) (hN:L.length=N) (lN:N≤1048576) (ok:∀ c∈L,AgOk c.g) (sm:∀ c∈L,AgSm c.g) (ss:∀ c∈L,c.s.size≤maxLen) (hm:MX w) (hA:CesAt w ao L) :
  Calls Tryz.prog 84 #[.agg #[.string nm,.slice ao N ca]] w fun e w'=>e=.returned (.bool (shB nm L))∧Below w.heap.size w w':=by
 have hb0:Below w.heap.size w (w.alloc (.cells #[.string nm,.slice ao N ca] 55)):=(Below.refl _ _).alloc (Nat.le_refl _) _;have HT0:=hide hb0;have HC:=hide (c_i_CellsRight (ca:=ca) hN lN ok sm ss (hm.past hb0) (ces_past hA hb0));clear hN ok sm ss hm hA hb0;go_enter Tryz.func84,Tryz.ntmps84;go_wp2_with fail;refine (c_i_NameRight nm _ hs).mono ?_;rintro e wz ⟨rfl,hwz⟩;obtain rfl:=hwz.symm
 cases h1:nameB nm with
 | false=>
  go_wp2;go_ret;exact ⟨ret_sh (c:=csR L) h1 rfl,HT0.out⟩
 | true=>
  go_wp2_with fail;refine HC.out.mono ?_;rintro e w1 ⟨rfl,hb1⟩;have HT1:=hide (chain HT0.out hb1);clear hb1 HC
  cases h2:csR L <;> (go_wp2;go_ret;exact ⟨ret_sh h1 h2,HT1.out⟩)
set_option maxHeartbeats 1000000 in
theorem c_s_ShardRight {w:World} {ao:Option Addr} {N ca:Nat} {L:List Ce} (nm:ByteArray) (hs:nm.size≤maxLen) (hN:L.length=N) (lN:N≤1048576) (ok:∀ c∈L,AgOk c.g) (sm:∀ c∈L,AgSm c.g) (ss:∀ c∈L,c.s.size≤maxLen) (hA:CesAt w ao L) :
  Calls Tryz.prog 37 #[.agg #[.string nm,.slice ao N ca]] w fun e w'=>e=.returned (.bool (shB nm L))∧Below w.heap.size w w':=by
 have hb0:Below w.heap.size w (w.alloc (.cells #[.string nm,.slice ao N ca] 55)):=(Below.refl _ _).alloc (Nat.le_refl _) _;have HT0:=hide hb0;have HC:=hide (c_s_CellsRight (ca:=ca) hN lN ok sm ss (ces_past hA hb0));clear hN ok sm ss hA hb0;go_enter Tryz.func37,Tryz.ntmps37;go_wp2_with fail;refine (c_s_NameRight nm _ hs).mono ?_;rintro e wz ⟨rfl,hwz⟩;obtain rfl:=hwz.symm
 cases h1:nameB nm with
 | false=>
  go_wp2;go_ret;exact ⟨ret_sh (c:=csR L) h1 rfl,HT0.out⟩
 | true=>
  go_wp2_with fail;refine HC.out.mono ?_;rintro e w1 ⟨rfl,hb1⟩;have HT1:=hide (chain HT0.out hb1);clear hb1 HC
  cases h2:csR L <;> (go_wp2;go_ret;exact ⟨ret_sh h1 h2,HT1.out⟩)
end Go.Proofs.YtmjogablacnlgaaGreatDoor
