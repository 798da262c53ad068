/-
 Parts.
-/
import Derived.Test.YtdbaabbmcfnjbaaGreatDoorDFA
set_option maxRecDepth 10000
set_option maxHeartbeats 8000000
set_option linter.all false
namespace Go.Proofs.YtdbaabbmcfnjbaaGreatDoor
open Go.ChangeShapes Go.WideShapes Go.ChangeAt Go.RowKit Go.PlainAid Tryz
variable {w w':World}
variable {B r:Nat}
section
open Go.Sort
section
def tabF (w:World):Prop:=Lib.TabIs prog w "internal/strconv.uint64pow10" .u64 Lib.pow10Tab
theorem tabF.past (h:tabF w) (hb:Below B w w') (hB:w.heap.size<=B):tabF w':=by
 exact Go.Joins.var_stays (show prog.globalNamed "internal/strconv.uint64pow10"=some 1 by kernel_rfl) h hb hB
theorem QkE (w:World) (T:TypeId) (nd:Nat) (hs:nd<=24):Holds (fun (b:UInt8)=>Value.int .u8 (b.toNat:Int)) (w.alloc (.cells Lib.zeros24 T)) w.heap.size 0 (Array.replicate nd (0:UInt8)):=fun j hj=>by
 have hj':j<nd:=by simpa using hj
 refine ⟨?_,World.frozen?_alloc_new _ _ _ _⟩;rw [World.cell?_alloc_new,Lib.zeros24_at _ (by omega),getElem!_pos _ j hj];simp
theorem Qrz (w:World) (o:Obj) (dk:Array UInt8) (k:Nat):Below w.heap.size w ((putRow (fun (b:UInt8)=>Value.int .u8 (b.toNat:Int)) (w.alloc o) w.heap.size 0 dk).drewN k):=by
 rw [alloc_eq_grow];obtain ⟨aa,_,e⟩:=putRow_grow_new (fun (b:UInt8)=>Value.int .u8 (b.toNat:Int)) w #[o] w.heap.size 0 dk (ZZa _);rw [e];exact Lib.below_grow _ _ (ZZa _) _ _
set_option maxRecDepth 100000 in
theorem Qh6 (u:Nat) (hu64:u<18446744073709551616) (w:World) (ht:tabF w) :
  Calls prog 230 #[.int .u64 u,.int .i64 10] w fun e w'=>e=.returned (.string ⟨(Lib.decDigits u).toArray⟩)/\Below w.heap.size w w':=by
 by_cases hs:u<100
 ·have hi:(u:Int)<100:=by omega
  go_enter func230,ntmps230;go_wp2_with (go_at_call 269;refine (Tryz.internal_strconv_small u hs _).mono ?_;rintro e w' ⟨rfl,hw⟩;obtain rfl:=hw.symm);go_ret;exact ⟨rfl,ZZb _ _⟩
 ·have hi:¬ (u:Int)<100:=by omega
  have ac:1<=u:=by omega
  have ad:Lib.nDigits u<=20:=by have:=Lib.numDigits_eq u ac hu64;split at this <;> omega
  have ae:prog.arrayLen 325=24:=by kernel_rfl
  have af:∀ W,(Instr.sliceAt 325 (.pointer (some ⟨w.heap.size,0,none⟩)) none (some (.int .i64 (Lib.nDigits u:Int))) none).run prog W=.ok (.slice (some ⟨w.heap.size,0,none⟩) (Lib.nDigits u) 24) W:=fun W=>by
   rw [run_sliceAt_array_h W 325 ⟨w.heap.size,0,none⟩ (by simp [Program.arrayLen,Program.elem,underlying325]) .i64 (Lib.nDigits u:Int) (by omega) (by rw [ae];omega)];go_simp
  have ab:=QkE w 325 (Lib.nDigits u) (by omega);have aa:=Tryz.internal_strconv_formatBase10 w.heap.size 0 24 u (Array.replicate (Lib.nDigits u) 0) (w.alloc (.cells Lib.zeros24 325)) ab (by rw [Array.size_replicate];exact Lib.lt_pow_nDigits u) hu64 (by rw [Array.size_replicate];omega);rw [Array.size_replicate] at aa;have ag:=Lib.hid ab;clear ab ae;go_enter func230,ntmps230
  go_wp2_with (first
   | (go_at_call 270;refine (Tryz.internal_strconv_numDigits u ac hu64 _ (Lib.tabIs_alloc ht _)).mono ?_;rintro e w' ⟨rfl,hw⟩;obtain rfl:=hw.symm))
  go_at_call 271
  refine aa.mono ?_;rintro e w' ⟨rfl,k,v',dk,rfl,hF⟩
  have ah:(convert 42 9 (.slice (some ⟨w.heap.size,0,none⟩) (Lib.nDigits u) 24)).run prog ((putRow (fun (b:UInt8)=>Value.int .u8 (b.toNat:Int)) (w.alloc (.cells Lib.zeros24 325)) w.heap.size 0 dk).drewN k)=.ok (.string ⟨(Lib.decDigits u).toArray⟩) ((putRow (fun (b:UInt8)=>Value.int .u8 (b.toNat:Int)) (w.alloc (.cells Lib.zeros24 325)) w.heap.size 0 dk).drewN k):=by
   have h:=run_convert_bytes_back (P:=prog) ((putRow (fun (b:UInt8)=>Value.int .u8 (b.toNat:Int)) (w.alloc (.cells Lib.zeros24 325)) w.heap.size 0 dk).drewN k) 42 9 5 ⟨w.heap.size,0,none⟩ 24 (Lib.decDigits u) underlying42 underlying5 underlying9 (fun j hj=>by
    rw [Lib.row_is_numeral hF j hj,Lib.add_plain,World.cell?_drewN];exact cell?_putRow (fun (b:UInt8)=>Value.int .u8 (b.toNat:Int)) _ w.heap.size 0 _ dk ag (by rw [hF.size,Array.size_replicate]) j (by rw [hF.size];rw [Lib.decDigits_length] at hj;exact hj))
   rw [Lib.decDigits_length] at h;exact h
  go_wp2;go_ret;exact ⟨rfl,Qrz w _ dk k⟩
theorem Qfa (u:Nat) (hu64:u<18446744073709551616) (w:World) (ht:tabF w) :
  Calls prog 165 #[.int .u64 u,.int .i64 10] w fun e w'=>e=.returned (.string ⟨(Lib.decDigits u).toArray⟩)/\Below w.heap.size w w':=by
 go_enter func165,ntmps165;go_wp2_with (go_at_call 230;refine (Qh6 u hu64 _ ht).mono ?_;rintro e w1 ⟨rfl,hb⟩);go_ret;exact ⟨rfl,hb⟩
theorem Qli:∀ (l:List UInt8) (a u:Nat),a<18446744073709551616->Lib.parseUintM (2 ^ 64 - 1) a l=.ok u->u<18446744073709551616
 | [],a,u,ha,h=>by
  unfold Lib.parseUintM at h
  cases h;exact ha
 | c :: r,a,u,ha,h=>by
  unfold Lib.parseUintM at h
  split at h
  ·split at h
   ·cases h
   ·split at h
    ·cases h
    ·exact Qli r _ u (by omega) h
  ·cases h
theorem QnB {l:List UInt8} {u:Nat} (h:Lib.parseUintB 64 l=.ok u):u<18446744073709551616:=by
 unfold Lib.parseUintB at h
 split at h
 ·cases h
 ·exact Qli l 0 u (by omega) h
structure LnG (w:World):Prop where
 tab:tabF w
 syn:∃ te pe,w.cell? ⟨4,0,none⟩=some (.iface te pe)
 rng:∃ te pe,w.cell? ⟨5,0,none⟩=some (.iface te pe)
theorem LnG.past (h:LnG w) (hb:Below w.heap.size w w'):LnG w':=
 ⟨h.tab.past hb (ZZa _),by obtain ⟨a,b,c⟩:=h.syn;exact ⟨a,b,Qab hb c⟩,by obtain ⟨a,b,c⟩:=h.rng;exact ⟨a,b,Qab hb c⟩⟩
theorem Qkx (t:ByteArray) (hz:t.size<=100000) (w:World) (hG:LnG w) :
  Calls prog 108 #[.string t] w fun e w'=>e=.returned (.tuple #[.int .u64 ((rcO t).getD 0:Nat),.bool (rcO t).isSome])/\Below w.heap.size w w':=by
 cases hp:Lib.parseUintB 64 (toL t) with
 | ok u=>
  have hu:=QnB hp;have HR:Hid (rcO t=if (⟨(Lib.decDigits u).toArray⟩:ByteArray)=t then some u else none):=(by unfold rcO;rw [hp]:rcO t=if (⟨(Lib.decDigits u).toArray⟩:ByteArray)=t then some u else none)
  have HP:Hid (Lib.parseUintB 64 t.data.toList=.ok u):=hp;clear hp;go_enter func108,ntmps108;go_wp2_with (go_at_call 164;refine (Any.strconv_ParseUint_10_at64_ok Tryz.parseU t (by omega) u HP _).mono ?_;rintro e w1 ⟨rfl,ad⟩)
  have ab:Below w.heap.size w w1:=by
   rcases ad with rfl | rfl
   ·exact ZZb _ _
   ·exact Lib.bytesWorld_below _ _ _
  clear ad;have ae:=hG.past ab;have aa:=Qaa ab;have HQ:=Qaa (Qj2 ⟨(Lib.decDigits u).toArray⟩ t);clear ab;generalize hx:(⟨(Lib.decDigits u).toArray⟩:ByteArray)=x at HR HQ;have HX:=Qaa hx;clear hx;by_cases hd:x=t
  ·have HE:Hid (rcO t=some u):=(by rw [HR.out,if_pos hd]:rcO t=some u)
   have hq:(x.toList == t.toList)=true:=by rw [HQ.out,decide_eq_true hd]
   go_wp2_with (go_at_call 165;refine (Qfa u hu _ ae.tab).mono ?_;rintro e w2 ⟨rfl,ac⟩;rw [HX.out]);go_ret2;exact ⟨by rw [HE.out];rfl,aa.out.trans (ac.mono aa.out.size)⟩
  ·have HE:Hid (rcO t=none):=(by rw [HR.out,if_neg hd]:rcO t=none)
   have hq:(x.toList == t.toList)=false:=by rw [HQ.out,decide_eq_false hd]
   go_wp2_with (go_at_call 165;refine (Qfa u hu _ ae.tab).mono ?_;rintro e w2 ⟨rfl,ac⟩;rw [HX.out]);go_ret2;exact ⟨by rw [HE.out];rfl,aa.out.trans (ac.mono aa.out.size)⟩
 | «syntax»=>
  have HE:Hid (rcO t=none):=(by unfold rcO;rw [hp]:rcO t=none);have HP:Hid (Lib.parseUintB 64 t.data.toList=.syntax):=hp;clear hp;obtain ⟨te,pe,hv⟩:=hG.syn;go_enter func108,ntmps108;go_wp2_with (go_at_call 164;refine (Any.strconv_ParseUint_10_at64_syntax Tryz.parseU t (by omega) HP _ _ hv (Or.inr ⟨te,pe,rfl⟩)).mono ?_;rintro e w1 ⟨N,rfl,h1,h2,hb⟩);go_ret2;exact ⟨by rw [HE.out];rfl,hb⟩
 | range=>
  have HE:Hid (rcO t=none):=(by unfold rcO;rw [hp]:rcO t=none);have HP:Hid (Lib.parseUintB 64 t.data.toList=.range):=hp;clear hp;obtain ⟨te,pe,hv⟩:=hG.rng;go_enter func108,ntmps108;go_wp2_with (go_at_call 164;refine (Any.strconv_ParseUint_10_at64_range Tryz.parseU t (by omega) HP _ _ hv (Or.inr ⟨te,pe,rfl⟩)).mono ?_;rintro e w1 ⟨N,rfl,h1,h2,hb⟩);go_ret2;exact ⟨by rw [HE.out];rfl,hb⟩
end
end
theorem Qe0 (t:ByteArray) (hz:t.size<=100000) (w:World) (hG:LnG w) :
  Calls prog 48 #[.string t] w fun e w'=>∃ n,e=.returned (.tuple #[.int .i64 n,.bool (QjU t)])/\Below w.heap.size w w':=by
 have H:=Qaa (Qkx t hz w hG);clear hG
 cases hs:(rcO t).isSome with
 | false=>
  have HE:Hid (QjU t=false):=by unfold QjU;rw [hs];exact Qaa rfl
  rw [hs] at H;generalize (rcO t).getD 0=m at H;go_enter func48,ntmps48;go_wp2_with fail;refine H.out.mono ?_;rintro e w1 ⟨rfl,hb⟩;have HB:=Qaa hb;clear hb;go_wp2;go_ret2;exact ⟨0,by rw [HE.out];rfl,HB⟩
 | true=>
  rw [hs] at H;generalize (rcO t).getD 0=m at H;by_cases h9:t.size<=9
  ·have HE:Hid (QjU t=true):=by unfold QjU;rw [hs,decide_eq_true h9];exact Qaa rfl
   have ac:¬ (9:Int)<(t.size:Int):=by omega
   have aa:¬ 9<t.size:=by omega
   have ab:decide (9<t.size)=false:=ZZg aa;go_enter func48,ntmps48;go_wp2_with fail;refine H.out.mono ?_;rintro e w1 ⟨rfl,hb⟩;have HB:=Qaa hb;clear hb;go_wp2;go_ret2;exact ⟨_,by rw [HE.out];rfl,HB⟩
  ·have HE:Hid (QjU t=false):=by unfold QjU;rw [hs,decide_eq_false h9];exact Qaa rfl
   have ac:(9:Int)<(t.size:Int):=by omega
   have aa:9<t.size:=by omega
   have ab:decide (9<t.size)=true:=ZZh aa;go_enter func48,ntmps48;go_wp2_with fail;refine H.out.mono ?_;rintro e w1 ⟨rfl,hb⟩;have HB:=Qaa hb;clear hb;go_wp2;go_ret2;exact ⟨0,by rw [HE.out];rfl,HB⟩
theorem QaF {o:Obj} (h:w.heap[r]?=some o) (hb:Below w.heap.size w w'):w'.heap[r]?=some o:=(hb.block _ (ZZc.1 h).1).trans h
def RoA (L:List ByteArray) (e:Ending):Prop:=∃ o1 o2 n,e=.returned (.tuple #[.agg #[.string o1,.string o2,.int .i64 n],.bool (okP L)])
theorem QbF {a b c:Value} {T:TypeId} (h:w.heap[r]?=some (.cells #[a,b,c] T (0,0))):w.cell? ⟨r,0,none⟩=some a/\w.cell? ⟨r,1,none⟩=some b/\w.cell? ⟨r,2,none⟩=some c:=
 ⟨by rw [cell_of_row w r 0 _ _ (0,0) h];rfl,by rw [cell_of_row w r 1 _ _ (0,0) h];rfl,by rw [cell_of_row w r 2 _ _ (0,0) h];rfl⟩
variable {L R:List ByteArray}
variable {u:ByteArray}
theorem QdB {g off:Nat} {j:Nat} (h:Qaw w (some ⟨g,off,none⟩) L) (hu:L[j]?=some u):w.cell? ⟨g,off+j,none⟩=some (.string u):=by
 obtain ⟨b,o,e,hc⟩:=h (by have:=(ZZd.1 hu).1;omega);injection e with e;injection e with e1 e2;subst e1 e2;exact hc j u hu
abbrev QpN:Array Value:=#[.string ⟨#[]⟩,.string ⟨#[]⟩,.int .i64 0]
theorem okP_no (h:L.any (fun u=>decide (u=ByteArray.empty))=true):okP L=false:=by
 unfold okP;rw [h];simp
theorem QrT (h:Qc5 u=none):okP (u :: R)=false:=by
 unfold okP
 show (_ && match Qc5 u with | none=>false | some (a,b)=>_)=false
 rw [h];simp
theorem QrU {a b:Bool} (hn:(u :: R).any (fun u=>decide (u=ByteArray.empty))=false) (h:Qc5 u=some (a,b)):okP (u :: R)=(decide ((u :: R).length=1+a.toNat+b.toNat) && (!b || QjU ((u :: R).getLastD ByteArray.empty))):=by
 unfold okP;rw [hn]
 show (_ && match Qc5 u with | none=>false | some (a,b)=>_)=_
 rw [h];simp
variable {ao:Option Addr}
theorem Qkt {b:Nat} (cap:Nat) (hM:CmdM w b) (hl:L.length<=1000000) (hz:∀ u∈L,u.size<=100000) (hA:Qaw w ao L) (hG:LnG w) :
  Calls prog 16 #[.map (some b),.slice ao L.length cap] w fun e w'=>RoA L e/\Below w.heap.size w w':=by
 have k0:=ZZk w (.cells QpN 53);have ai:Hid (Below w.heap.size w (w.alloc (.cells QpN 53))):=(ZZb _ _).alloc (ZZa _) _;have HM:=Qaa (hM.past ai);have HA:=Qaa (QaB hA ai);have HG:=Qaa (hG.past ai);have HZ:=Qaa hz;have K0:=Qaa k0;clear hM hA hG hz k0
 match L,hl,HA,HZ with
 | [],_,_,_=>
  obtain ⟨x0,x1,x2⟩:=QbF K0;go_enter func16,ntmps16;go_wp2;refine bodyPost_ret (v:=.tuple #[.agg QpN,.bool false]) (by simp [results,results16,go_sem,x0,x1,x2]) rfl ⟨⟨_,_,_,rfl⟩,ai⟩
 | u :: R,hl,HA,HZ=>
  obtain ⟨g,aT,rfl,ae⟩:=HA.out (by simp);have HC:=Qaa (QmK (w:=w.alloc (.cells QpN 53)) ByteArray.empty cap (by omega) HA);have hu:u.size<=100000:=HZ.out u List.mem_cons_self;have aQ:=Qaa (HM.out.look (u:=u) (by unfold maxLen;omega));obtain ⟨N,hN⟩:∃ N,(u :: R).length=N:=⟨_,rfl⟩;have HN:=Qaa hN;have h0:¬ N=0:=by rw [<- hN];simp
  have au:(N == 0)=false:=by simp [h0]
  have aL:(w.alloc (.cells QpN 53)).cell? ⟨g,aT,none⟩=some (.string u):=by have:=ae 0 u rfl;rwa [Nat.add_zero] at this
  rw [hN] at HC;rw [hN];clear hN ae hu;have aJ:=Qaa aL;clear aL;generalize hcon:(u :: R).any (fun u=>decide (u=ByteArray.empty))=con at HC;have aq:((N:Int) == 0)=false:=by simp;omega
  go_enter func16,ntmps16;go_wp2_with fail;refine HC.out.mono ?_;rintro e w1 ⟨rfl,af⟩;have aw:=Qaa (Qac ai af);have aI:=Qaa af;have K1:=Qaa (QaF K0 af);have av:=Qaa (HM.out.past af);have aK:=Qaa (HG.out.past af);have ap:=Qaa (Qab af aJ);clear af HM HG aJ HC ai K0
  cases con with
  | true=>
   obtain ⟨y0,y1,y2⟩:=QbF K1;have f0:=fzR 0 K1;have f1:=fzR 1 K1;have f2:=fzR 2 K1;have HE:=Qaa (okP_no hcon);clear hcon;go_wp2;refine bodyPost_ret (v:=.tuple #[.agg QpN,.bool false]) (by simp [results,results16,go_sem,y0,y1,y2]) rfl ⟨⟨_,_,_,by rw [HE.out]⟩,?_⟩
   repeat (refine Below.setCell ?_ (by simp) _)
   exact aw.out
  | false=>
   have aX:=Qaa hcon;clear hcon;go_upto_region 3 with fail;have a1:=Qaa (av.out.lt);have AL:Hid (∀ o,Below w1.heap.size w1 (w1.alloc o)):=fun o=>(ZZb _ _).alloc (ZZa _) _
   cases hcm:Qc5 u with
   | none=>
    have HE:=Qaa (QrT (R:=R) hcm);obtain ⟨a,b2,f,aH,aA⟩:=(av.out.look (u:=u) (by have:=HZ.out u List.mem_cons_self;unfold maxLen;omega)).1 hcm;have aB:=ap.out;have az:=fun (W:World) (x:Addr) (m:Mode)=>run_store prog W x f m aH;clear hcm aQ;go_upto_region 4 with fail;have a2:=AL.out (.cells #[.bool a,.bool b2,f] 103);have ad:=Qaa (Qac aw a2);have K2:=Qaa (QaF K1 a2);clear aA aB az a2;generalize w1.alloc (.cells #[.bool a,.bool b2,f] 103)=W2 at ad K2 ⊢;obtain ⟨y0,y1,y2⟩:=QbF K2;have f0:=fzR 0 K2;have f1:=fzR 1 K2;have f2:=fzR 2 K2;go_wp2;refine bodyPost_ret (v:=.tuple #[.agg QpN,.bool false]) (by simp [results,results16,go_sem,y0,y1,y2]) rfl ⟨⟨_,_,_,by rw [HE.out]⟩,?_⟩
    repeat (refine Below.setCell ?_ (by simp) _)
    exact ad.out
   | some c=>
    obtain ⟨a,b2⟩:=c;obtain ⟨f,aH,aA⟩:=(av.out.look (u:=u) (by have:=HZ.out u List.mem_cons_self;unfold maxLen;omega)).2 a b2 hcm;have HE:=Qaa (QrU aX hcm);have aB:=ap.out;have az:=fun (W:World) (x:Addr) (m:Mode)=>run_store prog W x f m aH;clear hcm aQ;go_upto_region 4 with fail;have a2:=AL.out (.cells #[.bool a,.bool b2,f] 103);have ad:=Qaa (Qac aw a2);have K2:=Qaa (QaF K1 a2);have KC:=Qaa (ZZk w1 (.cells #[.bool a,.bool b2,f] 103));have aC:=Qaa (Qab a2 ap);have aE:=Qaa (aK.out.past a2);have aP:=Qaa a2;clear aA aB az a2 ap aK;generalize w1.alloc (.cells #[.bool a,.bool b2,f] 103)=W2 at ad K2 KC aC aE aP ⊢;generalize w1.heap.size=G at KC ⊢;by_cases aa:N=1+a.toNat+b2.toNat
    ·have al:((N:Int) != ((1+a.toNat+b2.toNat:Nat):Int))=false:=by simp;omega
     have ah:Hid (okP (u :: R)=(!b2 || QjU ((u :: R).getLastD ByteArray.empty))):=by rw [HE.out,HN.out,decide_eq_true aa];exact Qaa (Bool.true_and _)
     obtain ⟨z0,z1,z2⟩:=QbF KC;go_wp2_with fail;refine (Qgj a b2 f W2).mono ?_;rintro e w3 ⟨rfl,ab⟩;have ar:=Qaa (Qac ad ab);have K3:=Qaa (QaF K2 ab);have aG:=Qaa (QaF KC ab);have aO:=Qaa (QaB HA (aI.out.trans ((Qac aP ab).mono aI.out.size)));have ax:=Qaa (aE.out.past ab);have aW:=Qab ab aC;clear ab z0 z1 z2 K2 KC ad aC aE HE;have aM:Hid (∀ o,Below w3.heap.size w3 (w3.alloc o)):=fun o=>(ZZb _ _).alloc (ZZa _) _;go_upto_region 7 with fail;have a4:=aM.out (.cells #[.string u,.string ⟨#[]⟩,.int .i64 0] 53);have am:=Qaa (Qac ar a4);have K4:=Qaa (QaF K3 a4);have aj:=Qaa (QaF aG a4);have KO:=Qaa (ZZk w3 (.cells #[.string u,.string ⟨#[]⟩,.int .i64 0] 53));have an:=Qaa (QaB aO a4);have aN:=Qaa (ax.out.past a4);have aF:Hid (∀ v,LnG ((w3.alloc (.cells #[.string u,.string ⟨#[]⟩,.int .i64 0] 53)).setCell ⟨w3.heap.size,1,none⟩ v)):=Qaa (fun v=>ax.out.past (a4.setCell (ZZa _) v));have aD:Hid (w.heap.size<w3.heap.size/\G<w3.heap.size):=Qaa ⟨(ZZc.1 K3).1,(ZZc.1 aG).1⟩;clear a4 aW aO ax K3 aG ar aM;generalize w3.alloc (.cells #[.string u,.string ⟨#[]⟩,.int .i64 0] 53)=W4 at am K4 aj KO an aN aF ⊢;generalize w3.heap.size=O at KO aD aF ⊢;have aU:=aD.out.1;have aY:=aD.out.2;have aZ:w.heap.size≠O:=by omega
     have a0:G≠O:=by omega
     cases a <;> cases b2
     ·have ag:N=1:=aa
      subst ag;clear h0 au aq al aa;obtain ⟨y0,y1,y2⟩:=QbF K4;obtain ⟨z0,z1,z2⟩:=QbF aj;obtain ⟨o0,o1,o2⟩:=QbF KO;have f0:=fzR 0 K4;have f1:=fzR 1 K4;have f2:=fzR 2 K4;have g1:=fzR 1 KO;have g2:=fzR 2 KO;go_wp2;refine bodyPost_ret (v:=.tuple #[.agg #[.string u,.string ⟨#[]⟩,.int .i64 0],.bool true]) (by simp [results,results16,go_sem,y0,y1,y2,o0,o1,o2]) rfl ⟨⟨_,_,_,by rw [ah.out];rfl⟩,?_⟩
      repeat (refine Below.setCell ?_ (by first | (simp;done) | (show w.heap.size<=O;omega)) _)
      exact am.out
     ·have ag:N=2:=aa
      subst ag;clear h0 au aq al aa;obtain ⟨x,rfl⟩:∃ x,R=[x]:=List.length_eq_one_iff.1 (by have:=HN.out;simp at this;omega);have hx:=QdB (j:=1) (u:=x) an rfl;obtain ⟨y0,y1,y2⟩:=QbF K4;obtain ⟨z0,z1,z2⟩:=QbF aj;obtain ⟨o0,o1,o2⟩:=QbF KO;have f0:=fzR 0 K4;have f1:=fzR 1 K4;have f2:=fzR 2 K4;have g1:=fzR 1 KO;have g2:=fzR 2 KO;go_wp2_with fail;refine (Qe0 x (HZ.out x (by simp)) W4 aN).mono ?_;rintro e w5 ⟨n,rfl,ac⟩;have ay:=Qaa (Qac am ac);have K5:=Qaa (QaF K4 ac);have ak:=Qaa (QaF KO ac);clear y0 y1 y2 z0 z1 z2 o0 o1 o2 f0 f1 f2 g1 g2 ac;obtain ⟨y0,y1,y2⟩:=QbF K5;obtain ⟨o0,o1,o2⟩:=QbF ak;have f0:=fzR 0 K5;have f1:=fzR 1 K5;have f2:=fzR 2 K5;have g2:=fzR 2 ak;go_wp2;refine bodyPost_ret (v:=.tuple #[.agg #[.string u,.string ⟨#[]⟩,.int .i64 n],.bool (QjU x)]) (by simp [results,results16,go_sem,y0,y1,y2,o0,o1,o2]) rfl ⟨⟨_,_,_,by rw [ah.out];rfl⟩,?_⟩
      repeat (refine Below.setCell ?_ (by first | (simp;done) | (show w.heap.size<=O;omega)) _)
      exact ay.out
     ·have ag:N=2:=aa
      subst ag;clear h0 au aq al aa;obtain ⟨x,rfl⟩:∃ x,R=[x]:=List.length_eq_one_iff.1 (by have:=HN.out;simp at this;omega);have hx:=QdB (j:=1) (u:=x) an rfl;obtain ⟨y0,y1,y2⟩:=QbF K4;obtain ⟨z0,z1,z2⟩:=QbF aj;obtain ⟨o0,o1,o2⟩:=QbF KO;have f0:=fzR 0 K4;have f1:=fzR 1 K4;have f2:=fzR 2 K4;have g1:=fzR 1 KO;have g2:=fzR 2 KO;go_wp2;refine bodyPost_ret (v:=.tuple #[.agg #[.string u,.string x,.int .i64 0],.bool true]) (by simp [results,results16,go_sem,y0,y1,y2,o0,o1,o2]) rfl ⟨⟨_,_,_,by rw [ah.out];rfl⟩,?_⟩
      repeat (refine Below.setCell ?_ (by first | (simp;done) | (show w.heap.size<=O;omega)) _)
      exact am.out
     ·have ag:N=3:=aa
      subst ag;clear h0 au aq al aa;obtain ⟨x,R1,rfl⟩:∃ x R1,R=x :: R1:=List.exists_cons_of_ne_nil (by rintro rfl;have:=HN.out;simp at this);obtain ⟨y,rfl⟩:∃ y,R1=[y]:=List.length_eq_one_iff.1 (by have:=HN.out;simp at this;omega);have hx:=QdB (j:=1) (u:=x) an rfl;have hy:=QdB (j:=2) (u:=y) an rfl;obtain ⟨y0,y1,y2⟩:=QbF K4;obtain ⟨z0,z1,z2⟩:=QbF aj;obtain ⟨o0,o1,o2⟩:=QbF KO;have f0:=fzR 0 K4;have f1:=fzR 1 K4;have f2:=fzR 2 K4;have g1:=fzR 1 KO;have g2:=fzR 2 KO;go_wp2_with fail;have s4:Below O W4 (W4.setCell ⟨O,1,none⟩ (.string x)):=Below.setCell (ZZb O W4) (show O<=(⟨O,1,none⟩:Addr).block from ZZa O) _;have aS:=Qaa ((s4.block _ aU).trans K4);have aV:Hid ((W4.setCell ⟨O,1,none⟩ (.string x)).heap[O]?=some (.cells #[.string u,.string x,.int .i64 0] 53 (0,0))):=Qaa (ZZl W4 O 1 _ _ _ KO);have aR:=Qaa (Below.setCell am (show w.heap.size<=(⟨O,1,none⟩:Addr).block from (by show w.heap.size<=O;omega)) (.string x));refine (Qe0 y (HZ.out y (by simp)) _ (aF.out _)).mono ?_;rintro e w5 ⟨n,rfl,ac⟩;have ay:=Qaa (Qac aR ac);have K5:=Qaa (QaF aS ac);have ak:=Qaa (QaF aV ac);clear s4;clear y0 y1 y2 z0 z1 z2 o0 o1 o2 f0 f1 f2 g1 g2 ac;obtain ⟨y0,y1,y2⟩:=QbF K5;obtain ⟨o0,o1,o2⟩:=QbF ak;have f0:=fzR 0 K5;have f1:=fzR 1 K5;have f2:=fzR 2 K5;have g2:=fzR 2 ak;go_wp2;refine bodyPost_ret (v:=.tuple #[.agg #[.string u,.string x,.int .i64 n],.bool (QjU y)]) (by simp [results,results16,go_sem,y0,y1,y2,o0,o1,o2]) rfl ⟨⟨_,_,_,by rw [ah.out];rfl⟩,?_⟩
      repeat (refine Below.setCell ?_ (by first | (simp;done) | (show w.heap.size<=O;omega)) _)
      exact ay.out
    ·have ah:Hid (okP (u :: R)=false):=by rw [HE.out,HN.out,decide_eq_false aa];exact Qaa rfl
     have al:((N:Int) != ((1+a.toNat+b2.toNat:Nat):Int))=true:=by simp;omega
     obtain ⟨z0,z1,z2⟩:=QbF KC;go_wp2_with fail;refine (Qgj a b2 f W2).mono ?_;rintro e w3 ⟨rfl,ab⟩;have ar:=Qaa (Qac ad ab);have K3:=Qaa (QaF K2 ab);clear ab z0 z1 z2 K2 ad;obtain ⟨y0,y1,y2⟩:=QbF K3;have f0:=fzR 0 K3;have f1:=fzR 1 K3;have f2:=fzR 2 K3;go_wp2;refine bodyPost_ret (v:=.tuple #[.agg QpN,.bool false]) (by simp [results,results16,go_sem,y0,y1,y2]) rfl ⟨⟨_,_,_,by rw [ah.out]⟩,?_⟩
     repeat (refine Below.setCell ?_ (by simp) _)
     exact ar.out
theorem Qie (t:ByteArray) (b:Int):∀ k,∀ u∈(spl t b k).1,u.size<=t.size
 | 0,u,h=>by simp [spl] at h
 | k+1,u,h=>by
  by_cases hc:bt t k=b
  ·rw [Qcu hc] at h
   rcases List.mem_append.1 h with h | h
   ·exact Qie t b k u h
   ·rw [List.mem_singleton.1 h,size_extract];omega
  ·rw [QbE hc] at h
   exact Qie t b k u h
theorem Qri (t:ByteArray) (b:Int):(∀ u∈QaG t b,u.size<=t.size)/\(QaG t b).length<=t.size+1:=by
 refine ⟨fun u h=>?_,by rw [Qcs];have:=(Qfb t b t.size).2;omega⟩;unfold QaG at h;rcases List.mem_append.1 h with h | h
 ·exact Qie t b _ u h
 ·rw [List.mem_singleton.1 h,size_extract];omega
theorem wdL_sz (t:ByteArray):(wdL t).length<=t.size+1/\∀ L∈wdL t,L.length<=t.size+1/\∀ u∈L,u.size<=t.size:=by
 obtain ⟨_,h⟩:=Qr6 t;have aa:=(Qfb t 10 t.size).2;rw [h];refine ⟨?_,fun L hL=>?_⟩
 ·rw [List.length_append,List.length_map]
  split <;> simp <;> omega
 ·rcases List.mem_append.1 hL with hL | hL
  ·obtain ⟨v,hv,rfl⟩:=List.mem_map.1 hL
   have h1:=Qie t 10 _ v hv;obtain ⟨h2,h3⟩:=Qri v 32;exact ⟨by omega,fun u hu=>by have:=h2 u hu;omega⟩
  ·split at hL
   ·simp at hL
   ·rw [List.mem_singleton.1 hL];simp
def dkL (t:ByteArray):Int:=if 20000<t.size then 0 else match dkF 0 (QaG t 10) with
 | some i=>(i:Int)
 | none=>0
def dkC (t:ByteArray):Int:=if 20000<t.size then 2 else match dkF 0 (QaG t 10) with
 | some _=>3
 | none=>0
abbrev dkV (l c:Int):Array Value:=#[.string ⟨#[]⟩,.int .i64 l,.int .i64 c]
theorem Qub:(prog.info? 53).map (fun i=>(i.zero,i.size,i.bytes))=some (some (.agg QpN),3,40):=by kernel_rfl
def RdA (t:ByteArray) (e:Ending):Prop:=∃ v,e=.returned (.tuple #[v,.agg (dkV (dkL t) (dkC t))])
structure RdK (w2 wr:World) (k:Nat) (vo:Value):Prop where
 b:Below w2.heap.size w2 wr
 r:∃ ys,wr.ownsRow w2.heap.size 53 3 vo k ys
section
variable {w w2 wr:World} {k N:Nat} {vl:Value} {LL:List (List ByteArray)}
theorem LnsA.past (h:LnsA w B vl LL) (hb:Below w.heap.size w w2):LnsA w2 B vl LL:=by
 obtain ⟨xs,h1,h2⟩:=h;exact ⟨xs,Qat h1 hb,fun i x L h3 h4=>Qat (h2 i x L h3 h4) hb⟩
theorem LnsA.form (h:LnsA w B vl LL):∃ a c,vl=.slice a LL.length c:=by
 obtain ⟨xs,h1,_⟩:=h;rcases h1.2 with ⟨rfl,e⟩ | ⟨g,ab,aa,rfl,_⟩
 ·exact ⟨none,0,by rw [e]⟩
 ·exact ⟨_,_,rfl⟩
theorem LnsA.at {c:Nat} (h:LnsA w B (.slice ao N c) LL) (hL:LL[k]?=some L):∃ g a3 c3,ao=some ⟨g,0,none⟩/\w.cell? ⟨g,k,none⟩=some (.slice a3 L.length c3)/\Qaw w a3 L:=by
 obtain ⟨xs,h1,h2⟩:=h;have hk:=(ZZd.1 hL).1;have aa:xs.length=LL.length:=by have:=h1.1;omega
 obtain ⟨x,hx⟩:∃ x,xs[k]?=some x:=⟨xs[k]'(by omega),ZZe (by omega)⟩;have ho:=h2 k _ L hx hL;rcases h1.2 with ⟨_,e⟩ | ⟨g,ae,ad,e,_⟩
 ·omega
 injection e with e1 e2 e3;subst e1;have hc:=h1.cells (g:=g) rfl k _ hx;have e:(⟨g,0,none⟩:Addr).add k=⟨g,k,none⟩:=by simp [Addr.add];try (intro h;exact h.symm)
 rw [e] at hc;rcases ho.2 with ⟨e1,e2⟩ | ⟨g3,ab,ac,e1,_⟩
 ·obtain rfl:=List.length_eq_zero_iff.1 e2
  subst e1;exact ⟨g,none,0,rfl,hc,fun h0=>absurd h0 (by simp)⟩
 ·subst e1
  exact ⟨g,_,_,rfl,hc,QeK ho⟩
end
theorem QmC (t:ByteArray) (ht:t.size<=1048576) (w:World) (hG:LnG w) :
  Calls prog 8 #[.string t] w fun e w'=>RdA t e/\Below w.heap.size w w':=by
 have k0:=ZZk w (.cells (dkV 0 0) 23);have af:Hid (Below w.heap.size w (w.alloc (.cells (dkV 0 0) 23))):=(ZZb _ _).alloc (ZZa _) _;have HG:=Qaa (hG.past af);have K0:=Qaa k0;clear k0 hG;by_cases aa:20000<t.size
 ·have d1:decide ((t.size:Int)<=20000)=false:=ZZg (by omega)
  have d2:decide (t.size<=20000)=false:=ZZg (by omega);have ak:Hid (dkL t=0):=Qaa (if_pos aa);have al:Hid (dkC t=2):=Qaa (if_pos aa);obtain ⟨y0,y1,y2⟩:=QbF K0;go_enter func8,ntmps8;go_wp2_with fail;refine (Qgk t (by unfold maxLen;omega) _).mono ?_;rintro e w1 ⟨rfl,hw⟩;obtain rfl:=hw.symm;rw [d2];have AL:=af.out;generalize w.alloc (.cells (dkV 0 0) 23)=W0 at af HG K0 y0 y1 y2 AL ⊢;have f0:=fzR 0 K0;have f1:=fzR 1 K0;have f2:=fzR 2 K0;clear AL;go_wp2;refine bodyPost_ret (v:=.tuple #[.slice none 0 0,.agg (dkV 0 2)]) (by simp [results,results8,go_sem,y0,y1,y2]) rfl ⟨⟨_,by rw [ak.out,al.out]⟩,?_⟩
  repeat (refine Below.setCell ?_ (by simp) _)
  exact af.out
 ·have d2:decide (t.size<=20000)=true:=ZZh (by omega)
  have ak:Hid (dkL t=match dkF 0 (QaG t 10) with | some i=>(i:Int) | none=>0):=Qaa (if_neg aa)
  have al:Hid (dkC t=match dkF 0 (QaG t 10) with | some _=>3 | none=>0):=Qaa (if_neg aa)
  have aF:=Qaa (wdL_sz t);have aI:Hid (t.size<=20000):=Qaa (by omega);have aL:=Qaa (dk_all t);go_enter func8,ntmps8;go_wp2_with fail;refine (Qgk t (by unfold maxLen;omega) _).mono ?_;rintro e w1 ⟨rfl,hw⟩;obtain rfl:=hw.symm;rw [d2];generalize w.alloc (.cells (dkV 0 0) 23)=W0 at af HG K0 ⊢;go_wp2_with fail;refine (Qmy W0).mono ?_;rintro e w1 ⟨rfl,aM,an⟩;have aA:=Qaa (Qac af an);have K1:=Qaa (QaF K0 an);have aE:=Qaa (HG.out.past an);have az:=Qaa aM;clear aM an HG K0 af;go_wp2_with fail;refine (QgF t (by omega) w1).mono ?_;rintro e w2 ⟨v,rfl,hL,aj⟩;obtain ⟨ao,ca,rfl⟩:=hL.form;have aG:=Qaa (Qac aA aj);have K2:=Qaa (QaF K1 aj);have aU:=Qaa (aE.out.past aj);have aC:=Qaa (az.out.past aj);have aH:=Qaa hL;have aX:Hid (dkP 0 (wdL t)=dkF 0 (QaG t 10)):=aL;obtain ⟨N,hN⟩:∃ N,(wdL t).length=N:=⟨_,rfl⟩;have HN:=Qaa hN;have aR:Hid (N<=20001):=Qaa (by have:=aF.out.1;omega);rw [hN] at aH ⊢;clear hN hL aj aE az K1 aA d2 aa aL;generalize W0.heap.size=mb at aC ⊢;obtain ⟨i0,hi,aO,aS,aV⟩:=info_parts Qub;go_wp2
  go_loopw [5,18] (fun vo i wr=>∃ k:Nat,k<=N/\i=.int .i64 k/\Hid (RdK w2 wr k vo)/\Hid (dkP k ((wdL t).drop k)=dkF 0 (QaG t 10))) (fun vo i wr=>N - (Go.RowKit.intOf i).toNat)
  case atStart=>exact ⟨0,Nat.zero_le _,rfl,Qaa ⟨Below.refl _ _,[],⟨rfl,.inl ⟨rfl,rfl⟩⟩⟩,by rw [List.drop_zero];exact aX⟩
  case round=>
   obtain ⟨k,hk,rfl,HR,HD⟩:=hrel;have a1:=aR.out;by_cases a0:k<N
   ·obtain ⟨L,ap⟩:∃ L,(wdL t)[k]?=some L:=⟨(wdL t)[k]'(by have:=HN.out;omega),ZZe _⟩
    obtain ⟨g,a3,c3,rfl,hc,hS⟩:=(aH.out.past HR.out.b).at ap;have am:=Qaa (aF.out.2 L (ZZn ap));have HS:=Qaa hS;have aK:=Qaa (aC.out.past HR.out.b);have aB:=Qaa (aU.out.past HR.out.b)
    have au:Hid ((if k<60/\okP L=true then dkP (k+1) ((wdL t).drop (k+1)) else some k)=dkF 0 (QaG t 10)):=by
     have e:(wdL t).drop k=L :: (wdL t).drop (k+1):=by
      obtain ⟨h1,h2⟩:=ZZd.1 ap;rw [<- h2];exact List.drop_eq_getElem_cons h1
     have h:=HD.out;rw [e] at h;exact Qaa h
    have aT:(k:Int)<(N:Int):=by omega
    clear ap hS HD;go_upto_region 8 with fail;have HB:=Qaa HR.out.b;obtain ⟨ys,aD⟩:=HR.out.r;have HY:=Qaa aD;clear aD HR hc;go_wp2_with fail;refine (Qkt c3 aK (by have:=am.out.1;have:=aI.out;omega) (fun u hu=>by have:=am.out.2 u hu;have:=aI.out;omega) HS aB).mono ?_;rintro e w4 ⟨⟨o1,o2,n,rfl⟩,ah⟩;have av:=Qaa (Qac aG (Qac HB ah));have K4:=Qaa (QaF (QaF K2 HB) ah);have ar:=Qaa (Qac HB ah);have ax:=Qaa (Qat HY ah);have AL:Hid (∀ o,Below w4.heap.size w4 (w4.alloc o)):=fun o=>(ZZb _ _).alloc (ZZa _) _;clear ah HB HY aK aB HS
    cases hok:okP L with
    | false=>
     have ai:Hid (dkF 0 (QaG t 10)=some k):=by rw [<- au.out,if_neg (fun h=>by rw [hok] at h;cases h.2)];exact Qaa rfl
     go_upto_region 9 with fail;have ab:=Qaa (Qac av (AL.out (.cells #[.string o1,.string o2,.int .i64 n] 53)));have K5:=Qaa (QaF K4 (AL.out (.cells #[.string o1,.string o2,.int .i64 n] 53)));have ac:=Qaa (Qac ar (AL.out (.cells #[.string o1,.string o2,.int .i64 n] 53)));have ad:=Qaa (Qat ax (AL.out (.cells #[.string o1,.string o2,.int .i64 n] 53)));have KO:=Qaa (ZZk w4 (.cells #[.string o1,.string o2,.int .i64 n] 53));clear AL;generalize w4.alloc (.cells #[.string o1,.string o2,.int .i64 n] 53)=W5 at ab K5 ac ad KO ⊢;generalize w4.heap.size=O at KO ⊢;obtain ⟨y0,y1,y2⟩:=QbF K5;have f0:=fzR 0 K5;have f1:=fzR 1 K5;have f2:=fzR 2 K5;go_wp2;refine bodyPost_ret (v:=.tuple #[.slice none 0 0,.agg (dkV k 3)]) (by simp [results,results8,go_sem,y0,y1,y2]) rfl ⟨⟨_,by rw [ak.out,al.out,ai.out]⟩,?_⟩
     repeat (refine Below.setCell ?_ (by simp) _)
     exact ab.out
    | true=>
     by_cases aJ:k<60
     ·have aW:Hid (dkP (k+1) ((wdL t).drop (k+1))=dkF 0 (QaG t 10)):=by
       have h:=au.out;rw [if_pos ⟨aJ,hok⟩] at h;exact Qaa h
      have aw:¬ (60:Int)<=(k:Int):=by omega
      have ae:¬ 60<=k:=by omega
      have ay:decide (60<=k)=false:=ZZg ae;have aY:IntKind.i64.wrap ((k:Int)+1)=(k:Int)+1:=ZZi _ ⟨by omega,by omega⟩;go_upto_region 9 with fail;have ab:=Qaa (Qac av (AL.out (.cells #[.string o1,.string o2,.int .i64 n] 53)));have K5:=Qaa (QaF K4 (AL.out (.cells #[.string o1,.string o2,.int .i64 n] 53)));have ac:=Qaa (Qac ar (AL.out (.cells #[.string o1,.string o2,.int .i64 n] 53)));have ad:=Qaa (Qat ax (AL.out (.cells #[.string o1,.string o2,.int .i64 n] 53)));have KO:=Qaa (ZZk w4 (.cells #[.string o1,.string o2,.int .i64 n] 53));clear AL;generalize w4.alloc (.cells #[.string o1,.string o2,.int .i64 n] 53)=W5 at ab K5 ac ad KO ⊢;generalize w4.heap.size=O at KO ⊢;obtain ⟨z0,z1,z2⟩:=QbF KO;have aZ:O<W5.heap.size:=(ZZc.1 KO).1
      go_wp2_with (first
       | (at_builtin;refine wpList_append_own _ rfl _ _ 27 rfl w2.heap.size 53 i0 (.agg QpN) 3 40 underlying27 hi aO aS aV rfl (by decide) _ _ _ rfl (ad.out.alloc _) ⟨W5.heap.size,0,none⟩ 1 1 [.string o1,.string o2,.int .i64 n] rfl rfl ?c1 ?c2 ?c3 ?c4 ?c5 ?_))
      case c1=>
       intro j u hj
       match j,hj with
       | 0,hj=>simp at hj;subst hj;simp [Addr.add]
       | 1,hj=>simp at hj;subst hj;simp [Addr.add]
       | 2,hj=>simp at hj;subst hj;simp [Addr.add]
      case c2=>
       intro u hu;simp at hu;rcases hu with rfl | rfl | rfl <;> rfl
      case c3=>unfold maxLen;omega
      case c4=>omega
      case c5=>have:=ac.out.size;simp;omega
      ·intro v' w6 ag aN aq
       have aQ:Hid (RdK w2 w6 (k+1) v'):=by
        refine Qaa ⟨Below.grown (ac.out.alloc ac.out.size _) aN (by have:=ac.out.size;simp;omega) (fun j hj=>(ad.out.lt j hj).1),_,ag⟩
       clear ag aN aq;go_wp2;go_roundw
       case rel=>exact ⟨k+1,by omega,by go_num,aQ,aW⟩
       case measure=>simp [zI];omega
     ·have ai:Hid (dkF 0 (QaG t 10)=some k):=by rw [<- au.out,if_neg (fun h=>absurd h.1 aJ)];exact Qaa rfl
      have aw:(60:Int)<=(k:Int):=by omega
      have ae:60<=k:=by omega
      have ay:decide (60<=k)=true:=ZZh ae;go_upto_region 9 with fail;have ab:=Qaa (Qac av (AL.out (.cells #[.string o1,.string o2,.int .i64 n] 53)));have K5:=Qaa (QaF K4 (AL.out (.cells #[.string o1,.string o2,.int .i64 n] 53)));have ac:=Qaa (Qac ar (AL.out (.cells #[.string o1,.string o2,.int .i64 n] 53)));have ad:=Qaa (Qat ax (AL.out (.cells #[.string o1,.string o2,.int .i64 n] 53)));have KO:=Qaa (ZZk w4 (.cells #[.string o1,.string o2,.int .i64 n] 53));clear AL;generalize w4.alloc (.cells #[.string o1,.string o2,.int .i64 n] 53)=W5 at ab K5 ac ad KO ⊢;generalize w4.heap.size=O at KO ⊢;obtain ⟨y0,y1,y2⟩:=QbF K5;have f0:=fzR 0 K5;have f1:=fzR 1 K5;have f2:=fzR 2 K5;go_wp2;refine bodyPost_ret (v:=.tuple #[.slice none 0 0,.agg (dkV k 3)]) (by simp [results,results8,go_sem,y0,y1,y2]) rfl ⟨⟨_,by rw [ak.out,al.out,ai.out]⟩,?_⟩
      repeat (refine Below.setCell ?_ (by simp) _)
      exact ab.out
   ·have aP:k=N:=by omega
    subst aP;have aT:¬ (k:Int)<(k:Int):=by omega
    have ai:Hid (dkF 0 (QaG t 10)=none):=by
     rw [<- HD.out,List.drop_of_length_le (by rw [HN.out];exact Nat.le_refl _)];exact Qaa rfl
    have K5:=Qaa (QaF K2 HR.out.b);have ab:=Qaa (Qac aG HR.out.b);obtain ⟨y0,y1,y2⟩:=QbF K5;have f0:=fzR 0 K5;have f1:=fzR 1 K5;have f2:=fzR 2 K5;go_wp2;refine bodyPost_ret (v:=.tuple #[u5,.agg (dkV 0 0)]) (by simp [results,results8,go_sem,y0,y1,y2]) rfl ⟨⟨_,by rw [ak.out,al.out,ai.out]⟩,?_⟩
    repeat (refine Below.setCell ?_ (by simp) _)
    exact ab.out
theorem Qh3 (t:ByteArray) (ht:t.size<=1048576) (w:World) (hG:LnG w) :
  Calls prog 5 #[.string t] w fun e w'=>e=.returned (.agg (dkV (dkL t) (dkC t)))/\Below w.heap.size w w':=by
 have k0:=ZZk w (.cells (dkV 0 0) 23);have ab:Hid (Below w.heap.size w (w.alloc (.cells (dkV 0 0) 23))):=(ZZb _ _).alloc (ZZa _) _;have HR:=Qaa (QmC t ht _ (hG.past ab));have K0:=Qaa k0;clear k0 hG;go_enter func5,ntmps5;go_wp2_with fail;refine HR.out.mono ?_;rintro e w1 ⟨⟨v,rfl⟩,aa⟩;have ad:=Qaa (Qac ab aa);have K1:=Qaa (QaF K0 aa);have AL:Hid (∀ o,Below w1.heap.size w1 (w1.alloc o)):=fun o=>(ZZb _ _).alloc (ZZa _) _;generalize hl:dkL t=l;generalize hc:dkC t=c;have Hl:=Qaa hl;have Hc:=Qaa hc;clear hl hc;clear aa HR K0 ab;go_upto_region 2 with fail;have ac:=Qaa (Qac ad (AL.out (.cells (dkV l c) 23)));have K2:=Qaa (QaF K1 (AL.out (.cells (dkV l c) 23)));have KO:=Qaa (ZZk w1 (.cells (dkV l c) 23));clear AL;generalize w1.alloc (.cells (dkV l c) 23)=W2 at ac K2 KO ⊢;generalize w1.heap.size=O at KO ⊢;obtain ⟨y0,y1,y2⟩:=QbF K2;obtain ⟨o0,o1,o2⟩:=QbF KO;have f0:=fzR 0 K2;have f1:=fzR 1 K2;have f2:=fzR 2 K2;go_wp2;refine bodyPost_ret (v:=.agg (dkV l c)) (by simp [results,results5,go_sem,y0,y1,y2]) rfl ⟨by rw [Hl.out,Hc.out],?_⟩
 repeat (refine Below.setCell ?_ (by simp) _)
 exact ac.out
end Go.Proofs.YtdbaabbmcfnjbaaGreatDoor
