/-
 Parts.
-/
import Derived.Test.YtioohanfodmddaaGreatDoorCWC
import Derived.Test.YtioohanfodmddaaGreatDoorCKU
import Derived.LaidEql
import Derived.RowKitTokens
import Derived.Scope
import Derived.ScopeJumps
import Derived.Stop.Asserts
import Derived.WalkMore
set_option maxRecDepth 10000
set_option maxHeartbeats 6400000
set_option linter.all false
namespace Go.Proofs.YtioohanfodmddaaGreatDoor
open Go.ChangeShapes Go.WideShapes Go.ChangeAt Go.RowKit Go.PlainAid Go.Extern.Stop Go.Stop Go.Extern Go Tryz
theorem mBn {p:Prop} (h:p:=by go_enter func221,ntmps221;go_wp2_with (go_at_call 255;refine (Qeq t hz _ hG).mono ?_;rw [hr];rintro e w1 ⟨rfl,hb⟩);go_ret2;exact ⟨by rw [HE.out];rfl,hb⟩):p:=h
theorem mCj {p:Prop} (h:p:=by go_wp2_with (go_at_call 276;refine (QfR u hu _ ae.tab).mono ?_;rintro e w2 ⟨rfl,ab⟩;rw [HX.out]);go_ret2;exact ⟨by rw [HE.out];rfl,aa.trans (ab.mono aa.size)⟩):p:=h
theorem mEg {p:Prop} (h:p:=by have h:=Qfm t oC w;rw [show Qjz t=true from decide_eq_true hz] at h;exact h):p:=h
variable {w w':World}
variable {B n:Nat}
section
open Go.Sort
def tabF (w:World):Prop:=Lib.TabIs prog w "internal/strconv.uint64pow10" .u64 Lib.pow10Tab
theorem tabF.past (h:tabF w) (hb:Below B w w') (hB:w.heap.size<=B):tabF w':=by
 exact Go.Joins.var_stays (show prog.globalNamed "internal/strconv.uint64pow10"=some 4 by kernel_rfl) h hb hB
theorem Qlf (w:World) (T:TypeId) (nd:Nat) (hs:nd<=24):Holds (fun (b:UInt8)=>Value.int .u8 (b.toNat:Int)) (w.alloc (.cells Lib.zeros24 T)) w.heap.size 0 (Array.replicate nd (0:UInt8)):=fun j hj=>by
 have hj':j<nd:=by simpa using hj
 refine ⟨?_,World.frozen?_alloc_new _ _ _ _⟩;rw [World.cell?_alloc_new,Lib.zeros24_at _ oB,getElem!_pos _ j hj];simp
theorem Qsu (w:World) (o:Obj) (dk:Array UInt8) (k:Nat):Bw w ((putRow (fun (b:UInt8)=>Value.int .u8 (b.toNat:Int)) (w.alloc o) w.heap.size 0 dk).drewN k):=by
 rw [alloc_eq_grow];obtain ⟨aa,_,e⟩:=putRow_grow_new (fun (b:UInt8)=>Value.int .u8 (b.toNat:Int)) w #[o] w.heap.size 0 dk (ZZa _);rw [e];exact Lib.below_grow _ _ (ZZa _) _ _
set_option maxRecDepth 100000 in
theorem QiJ (u:Nat) (hu64:u<18446744073709551616) (w:World) (ht:tabF w) :
  Calls prog 300 #[.int .u64 u,.int .i64 10] w fun e w'=>e=.returned (.string ⟨(Lib.decDigits u).toArray⟩)/\Bw w w':=by
 by_cases hs:u<100
 ·have hi:(u:Int)<100:=by omega
  go_enter func300,ntmps300;go_wp2_with (go_at_call 302;refine (Tryz.internal_strconv_small u hs _).mono ?_;rintro e w' ⟨rfl,hw⟩;obtain rfl:=hw.symm);go_ret;exact ⟨rfl,ZZb _ _⟩
 ·have hi:¬ (u:Int)<100:=by omega
  have ae:1<=u:=oB
  have ad:Lib.nDigits u<=20:=by have:=Lib.numDigits_eq u ae hu64;split at this <;> omega
  have ac:prog.arrayLen 349=24:=oG
  have af:∀ W,(Instr.sliceAt 349 (.pointer (some ⟨w.heap.size,0,none⟩)) none (some (.int .i64 (Lib.nDigits u:Int))) none).run prog W=.ok (.slice (some ⟨w.heap.size,0,none⟩) (Lib.nDigits u) 24) W:=fun W=>by
   rw [run_sliceAt_array_h W 349 ⟨w.heap.size,0,none⟩ (by simp [Program.arrayLen,Program.elem,underlying349]) .i64 (Lib.nDigits u:Int) oB (by rw [ac];omega)];go_simp
  have ab:=Qlf w 349 (Lib.nDigits u) oB;have aa:=Tryz.internal_strconv_formatBase10 w.heap.size 0 24 u (Array.replicate (Lib.nDigits u) 0) (w.alloc (.cells Lib.zeros24 349)) ab (by rw [Array.size_replicate];exact Lib.lt_pow_nDigits u) hu64 (by rw [Array.size_replicate];omega);rw [Array.size_replicate] at aa;have ag:=Lib.hid ab;clear ab ac;go_enter func300,ntmps300
  go_wp2_with (first
   | (go_at_call 303;refine (Tryz.internal_strconv_numDigits u ae hu64 _ (Lib.tabIs_alloc ht _)).mono ?_;rintro e w' ⟨rfl,hw⟩;obtain rfl:=hw.symm))
  go_at_call 304
  refine aa.mono ?_;rintro e w' ⟨rfl,k,v',dk,rfl,hF⟩
  have ah:(convert 22 9 (.slice (some ⟨w.heap.size,0,none⟩) (Lib.nDigits u) 24)).run prog ((putRow (fun (b:UInt8)=>Value.int .u8 (b.toNat:Int)) (w.alloc (.cells Lib.zeros24 349)) w.heap.size 0 dk).drewN k)=.ok (.string ⟨(Lib.decDigits u).toArray⟩) ((putRow (fun (b:UInt8)=>Value.int .u8 (b.toNat:Int)) (w.alloc (.cells Lib.zeros24 349)) w.heap.size 0 dk).drewN k):=by
   have h:=run_convert_bytes_back (P:=prog) ((putRow (fun (b:UInt8)=>Value.int .u8 (b.toNat:Int)) (w.alloc (.cells Lib.zeros24 349)) w.heap.size 0 dk).drewN k) 22 9 5 ⟨w.heap.size,0,none⟩ 24 (Lib.decDigits u) underlying22 underlying5 underlying9 (fun j hj=>by
    rw [Lib.row_is_numeral hF j hj,Lib.add_plain,World.cell?_drewN];exact cell?_putRow (fun (b:UInt8)=>Value.int .u8 (b.toNat:Int)) _ w.heap.size 0 _ dk ag (by rw [hF.size,Array.size_replicate]) j (by rw [hF.size];rw [Lib.decDigits_length] at hj;exact hj))
   rw [Lib.decDigits_length] at h;exact h
  go_wp2;go_ret;exact ⟨rfl,Qsu w _ dk k⟩
theorem QfR (u:Nat) (hu64:u<18446744073709551616) (w:World) (ht:tabF w) :
  Calls prog 276 #[.int .u64 u,.int .i64 10] w fun e w'=>e=.returned (.string ⟨(Lib.decDigits u).toArray⟩)/\Bw w w':=by
 go_enter func276,ntmps276;go_wp2_with (go_at_call 300;refine (QiJ u hu64 _ ht).mono ?_;rintro e w1 ⟨rfl,hb⟩);go_ret;exact ⟨rfl,hb⟩
theorem QmF:∀ (l:List UInt8) (a u:Nat),a<18446744073709551616->Lib.parseUintM (2 ^ 64 - 1) a l=.ok u->u<18446744073709551616
 | [],a,u,ha,h=>by
  unfold Lib.parseUintM at h
  cases h;exact ha
 | c :: r,a,u,ha,h=>by
  unfold Lib.parseUintM at h
  split at h
  ·split at h
   ·cases h
   ·split at h
    ·cases h
    ·exact QmF r _ u oB h
  ·cases h
theorem QpG {l:List UInt8} {u:Nat} (h:Lib.parseUintB 64 l=.ok u):u<18446744073709551616:=by
 unfold Lib.parseUintB at h
 split at h
 ·cases h
 ·exact QmF l 0 u oB h
structure LnG (w:World):Prop where
 tab:tabF w
 syn:∃ te pe,w.cell? ⟨5,0,none⟩=some (.iface te pe)
 rng:∃ te pe,w.cell? ⟨6,0,none⟩=some (.iface te pe)
theorem LnG.past (h:LnG w) (hb:Bw w w'):LnG w':=
 ⟨h.tab.past hb (ZZa _),by obtain ⟨a,b,c⟩:=h.syn;exact ⟨a,b,Qab hb c⟩,by obtain ⟨a,b,c⟩:=h.rng;exact ⟨a,b,Qab hb c⟩⟩
theorem Qeq (t:ByteArray) (hz:t.size<=100000) (w:World) (hG:LnG w) :
  Calls prog 255 #[.string t] w fun e w'=>e=.returned (.tuple #[.int .u64 ((rcO t).getD 0:Nat),.bool (rcO t).isSome])/\Bw w w':=by
 cases hp:Lib.parseUintB 64 (toL t) with
 | ok u=>
  have hu:=QpG hp;have HR:Hid (rcO t=if (⟨(Lib.decDigits u).toArray⟩:ByteArray)=t then some u else none):=Qaa xX
  have HP:Hid (Lib.parseUintB 64 t.data.toList=.ok u):=hp;clear hp;go_enter func255,ntmps255;go_wp2_with (go_at_call 275;refine (Any.strconv_ParseUint_10_at64_ok Tryz.parseU t oB u HP _).mono ?_;rintro e w1 ⟨rfl,ad⟩)
  have ac:Bw w w1:=by
   rcases ad with rfl | rfl
   ·exact ZZb _ _
   ·exact Lib.bytesWorld_below _ _ _
  clear ad;have ae:=hG.past ac;have aa:=Qaa ac;have HQ:=Qaa (Qjd ⟨(Lib.decDigits u).toArray⟩ t);clear ac;generalize hx:(⟨(Lib.decDigits u).toArray⟩:ByteArray)=x at HR HQ;have HX:=Qaa hx;clear hx;by_cases hd:x=t
  ·have HE:Hid (rcO t=some u):=Qaa (by rw [HR.out,if_pos hd])
   have hq:(x.toList == t.toList)=true:=by rw [HQ.out,decide_eq_true hd]
   exact mCj
  ·have HE:Hid (rcO t=none):=Qaa (by rw [HR.out,if_neg hd])
   have hq:(x.toList == t.toList)=false:=by rw [HQ.out,decide_eq_false hd]
   exact mCj
 | «syntax»=>
  have HE:Hid (rcO t=none):=Qaa xX;have HP:Hid (Lib.parseUintB 64 t.data.toList=.syntax):=hp;clear hp;obtain ⟨te,pe,hv⟩:=hG.syn;go_enter func255,ntmps255;go_wp2_with (go_at_call 275;refine (Any.strconv_ParseUint_10_at64_syntax Tryz.parseU t oB HP _ _ hv (Or.inr ⟨te,pe,rfl⟩)).mono ?_;rintro e w1 ⟨N,rfl,h1,h2,hb⟩);go_ret2;exact ⟨by rw [HE.out];rfl,hb⟩
 | range=>
  have HE:Hid (rcO t=none):=Qaa xX;have HP:Hid (Lib.parseUintB 64 t.data.toList=.range):=hp;clear hp;obtain ⟨te,pe,hv⟩:=hG.rng;go_enter func255,ntmps255;go_wp2_with (go_at_call 275;refine (Any.strconv_ParseUint_10_at64_range Tryz.parseU t oB HP _ _ hv (Or.inr ⟨te,pe,rfl⟩)).mono ?_;rintro e w1 ⟨N,rfl,h1,h2,hb⟩);go_ret2;exact ⟨by rw [HE.out];rfl,hb⟩
theorem Qog (t:ByteArray) (hz:t.size<=100000) (w:World) (hG:LnG w) :
  Calls prog 221 #[.string t] w fun e w'=>e=.returned (.tuple #[.int .i64 ((QeW t).getD 0:Nat),.bool (QeW t).isSome])/\Bw w w':=by
 cases hr:rcO t with
 | none=>
  have HE:Hid (QeW t=none):=Qaa (by unfold QeW;rw [hr]);exact mBn
 | some n=>
  by_cases hn:n<=1000000000
  ·have HE:Hid (QeW t=some n):=Qaa (by unfold QeW;rw [hr];show (if n<=1000000000 then some n else none)=some n;rw [if_pos hn])
   have aa:¬ (1000000000:Int)<(n:Int):=oB
   exact mBn
  ·have HE:Hid (QeW t=none):=Qaa (by unfold QeW;rw [hr];show (if n<=1000000000 then some n else none)=none;rw [if_neg hn])
   have aa:(1000000000:Int)<(n:Int):=oB
   exact mBn
end
section
theorem as_nil (t:Value) (w:World) :
  Calls prog 120 #[.nilIface,t] w fun e w'=>e=.returned (.bool false)/\w'=w:=by
 go_enter func120,ntmps120;go_wp2;exact mBk
end
section
theorem QjT (w:World) :
  Calls prog 70 #[.nilIface] w fun e w'=>e=.returned (.int .i64 0)/\Bw w w':=by
 go_enter func70,ntmps70;go_wp2_with (go_at_call 120;refine (as_nil _ _).mono ?_;rintro e w1 ⟨rfl,rfl⟩);go_ret;exact mDo
theorem Qfm (s:ByteArray) (hs:s.size<=maxLen) (w:World) :
  Calls prog 37 #[.string s] w fun e w'=>e=.returned (.bool (Qjz s))/\w'=w:=by
 unfold maxLen at hs;by_cases h:s.size<=20000
 ·have h':(s.size:Int)<=20000:=by omega
  go_enter func37,ntmps37;go_wp2;go_ret;exact ⟨by simp [Qjz,h],rfl⟩
 ·have h':¬ (s.size:Int)<=20000:=by omega
  go_enter func37,ntmps37;go_wp2;go_ret;exact ⟨by simp [Qjz,h],rfl⟩
theorem first1 (s:ByteArray) (h:1<=s.size):((s.extract 0 1).toList == [45])=QkK s:=by
 have e:QkK s=(bt s 0 == 45):=by unfold QkK;rw [decide_eq_true (by omega:0<s.size)];rfl
 rw [e,Lib.extract_toList];have hb:bt s 0=((s[0]'oB).toNat:Int):=by unfold bt;rw [dif_pos (by omega:0<s.size)]
 rw [hb];have hd:s.data.toList[0]?=some (s[0]'oB):=Lib.data_getElem? s 0 oB
 cases hl:s.data.toList with
 | nil=>rw [hl] at hd;simp at hd
 | cons x tl=>
  rw [hl] at hd;simp at hd;rw [<- hd];simp only [List.drop_zero,Nat.sub_zero,List.take_succ_cons,List.take_zero];by_cases k:x=45
  ·subst k;rfl
  ·have k2:¬ x.toNat=45:=fun h=>k (UInt8.toNat_inj.1 h)
   have h1:([x] == [(45:UInt8)])=false:=by simp [k]
   have h2:((x.toNat:Int) == 45)=false:=by simp;omega
   rw [h1,h2]
theorem Qli (s:ByteArray) (hs:s.size<=maxLen) (w:World) :
  Calls prog 264 #[.string s,.string ⟨#[45]⟩] w fun e w'=>e=.returned (.bool (QkK s))/\w'=w:=by
 unfold maxLen at hs;by_cases h:1<=s.size
 ·have h':(1:Int)<=(s.size:Int):=by omega
  have HF:Hid (_=_):=first1 s h;go_enter func264,ntmps264;go_wp2;go_ret;exact ⟨by rw [<- HF.out];rfl,rfl⟩
 ·have h':¬ (1:Int)<=(s.size:Int):=by omega
  have HF:Hid (QkK s=false):=Qaa (by unfold QkK;rw [decide_eq_false (by omega:¬ 0<s.size)];rfl);go_enter func264,ntmps264;go_wp2;go_ret;exact ⟨by rw [HF.out];rfl,rfl⟩
end
variable {a:Act}
section
def Qq6 (J:Nat->Act->World->Prop) (Q:Exit->Act->World->Prop):Exit->Act->World->Prop
 | .goto l,a,w=>J l a w
 | e,a,w=>Q e a w
theorem QiD {P:Program} {Q:Exit->Act->World->Prop} {c:Code} (J:Nat->Act->World->Prop) (μ:Nat->Act->World->Nat)
  (first:c.wp P (Qq6 J Q) a w)
  (pass:∀ l a w,J l a w->∃ rest,findLabel c l=some rest/\rest.wp P (Qq6 (fun l' a' w'=>J l' a' w'/\μ l' a' w'<μ l a w) Q) a w):(Code.scope c).wp P Q a w:=by
 intro b k cs
 have ae:∀ n l a w,μ l a w=n->J l a w->∃ rest,findLabel c l=some rest/\∃ e a' w',Q e a' w'/\Arrives P (lone (b.at a (.code rest :: .inScope c :: k)) cs w) b k cs e a' w':=by
  intro n
  induction n using Nat.strongRecOn with
  | _ n ih=>
   intro l a w hn hJ;obtain ⟨rest,hf,hp⟩:=pass l a w hJ;refine ⟨rest,hf,?_⟩;obtain ⟨e,a₁,w₁,hq,aa⟩:=hp b (.inScope c :: k) cs
   cases e with
   | normal=>exact ⟨.normal,a₁,w₁,hq,Steps.trans aa (.one step_inScope)⟩
   | exit id=>exact ⟨.exit id,a₁,w₁,hq,fun k' hk=>aa k' (by simp [exitTo,hk])⟩
   | goto l'=>
    obtain ⟨ad,af⟩:=hq;obtain ⟨ab,ac,e₂,a₂,w₂,hq₂,harr₂⟩:=ih _ oB l' a₁ w₁ rfl ad;have hg:gotoIn l' (.inScope c :: k)=some (.code ab :: .inScope c :: k):=by simp [gotoIn,ac]
    exact ⟨e₂,a₂,w₂,hq₂,.of_steps (aa _ hg) harr₂⟩
   | ret=>exact ⟨_,a₁,w₁,hq,aa⟩
   | panic ch=>exact ⟨_,a₁,w₁,hq,aa⟩
   | outgrown=>exact ⟨_,a₁,w₁,hq,aa⟩
 obtain ⟨e,a₁,w₁,hq,aa⟩:=first b (.inScope c :: k) cs
 cases e with
 | normal=>exact ⟨.normal,a₁,w₁,hq,.head step_scope (Steps.trans aa (.one step_inScope))⟩
 | exit id=>exact ⟨.exit id,a₁,w₁,hq,fun k' hk=>.head step_scope (aa k' (by simp [exitTo,hk]))⟩
 | goto l'=>
  obtain ⟨ab,ac,e₂,a₂,w₂,hq₂,harr₂⟩:=ae _ l' a₁ w₁ rfl hq;have hg:gotoIn l' (.inScope c :: k)=some (.code ab :: .inScope c :: k):=by simp [gotoIn,ac]
  exact ⟨e₂,a₂,w₂,hq₂,.of_steps (.head step_scope (aa _ hg)) harr₂⟩
 | ret=>exact ⟨_,a₁,w₁,hq,.of_steps (.one step_scope) aa⟩
 | panic ch=>exact ⟨_,a₁,w₁,hq,.of_steps (.one step_scope) aa⟩
 | outgrown=>exact ⟨_,a₁,w₁,hq,.of_steps (.one step_scope) aa⟩
end
variable {s t:ByteArray}
variable {v:Int}
section
theorem Qn3 (c:Int) (w:World) :
  Calls prog 242 #[.int .u8 c] w fun e w'=>e=.returned (.bool (Qf8 c))/\w'=w:=by
 by_cases h1:48<=c <;> by_cases h2:c<=57 <;> (go_enter func242,ntmps242;go_wp2;go_ret;exact ⟨by simp [Qf8,h1,h2],rfl⟩)
theorem QoW {a b:Bool} (h:a=b):Ending.returned (.bool a)=.returned (.bool b):=by rw [h]
theorem QjP (s:ByteArray) (n:Nat) (hs:s.size<=maxLen) (hn:n<=maxLen) (w:World) :
  Calls prog 229 #[.string s,.int .i64 n] w fun e w'=>e=.returned (.bool (Qf8 (bt s n)))/\w'=w:=by
 unfold maxLen at hs hn;have aa:=get_bt s;by_cases h:n<s.size
 ·have h':(n:Int)<(s.size:Int):=by omega
  go_enter func229,ntmps229;go_wp2_with (go_at_call 242;refine (Qn3 _ _).mono ?_;rintro e w1 ⟨rfl,hw⟩;obtain rfl:=hw.symm);exact mBk
 ·have h':¬ (n:Int)<(s.size:Int):=by omega
  have HE:Hid (Qf8 (bt s n)=false):=Qaa (by rw [bt_end s oB];rfl);go_enter func229,ntmps229;go_wp2;go_ret;exact ⟨QoW HE.symm,rfl⟩
theorem Qlc (s:ByteArray) (hs:s.size<=maxLen) (w:World) :
  Calls prog 228 #[.string s,.string ⟨#[45]⟩] w fun e w'=>e=.returned (.bool (QkK s))/\w'=w:=by
 go_enter func228,ntmps228;go_wp2_with (go_at_call 264;refine (Qli _ hs _).mono ?_;rintro e w1 ⟨rfl,hw⟩;obtain rfl:=hw.symm);exact mBk
def fr (s:ByteArray) (a:Act) (v at_ f pl:Int):Prop:=∃ u:Nat->Value,a={ tmps:=#[.string s,undef,.int .i64 0,.nilIface,.int .i64 v,.int .i64 at_,.int .i64 f,.int .i64 pl,u 8,u 9,u 10,u 11,u 12,u 13,u 14,u 15,u 16,u 17,u 18,u 19,u 20,u 21,u 22,u 23,u 24,u 25,u 26,u 27,u 28,u 29,u 30,u 31,u 32,u 33,u 34,u 35,u 36,u 37,u 38,u 39,u 40,u 41,u 42,u 43,u 44,u 45,u 46,u 47,u 48,u 49,u 50,u 51,u 52,u 53,u 54,u 55,u 56,u 57,u 58,u 59,u 60,u 61,u 62,u 63,u 64,u 65,u 66,u 67,u 68,u 69,u 70,u 71,u 72,u 73,u 74,u 75,u 76,u 77,u 78,u 79,u 80,u 81,u 82,u 83,u 84,u 85,u 86,u 87,u 88,u 89,u 90,u 91,u 92,u 93,u 94,u 95,u 96,u 97],defers:=[] }
theorem Qr4 {at_ f pl:Int} (h:a={ tmps:=#[.string s,undef,.int .i64 0,.nilIface,.int .i64 v,.int .i64 at_,.int .i64 f,.int .i64 pl,a.tmps.getD 8 undef,a.tmps.getD 9 undef,a.tmps.getD 10 undef,a.tmps.getD 11 undef,a.tmps.getD 12 undef,a.tmps.getD 13 undef,a.tmps.getD 14 undef,a.tmps.getD 15 undef,a.tmps.getD 16 undef,a.tmps.getD 17 undef,a.tmps.getD 18 undef,a.tmps.getD 19 undef,a.tmps.getD 20 undef,a.tmps.getD 21 undef,a.tmps.getD 22 undef,a.tmps.getD 23 undef,a.tmps.getD 24 undef,a.tmps.getD 25 undef,a.tmps.getD 26 undef,a.tmps.getD 27 undef,a.tmps.getD 28 undef,a.tmps.getD 29 undef,a.tmps.getD 30 undef,a.tmps.getD 31 undef,a.tmps.getD 32 undef,a.tmps.getD 33 undef,a.tmps.getD 34 undef,a.tmps.getD 35 undef,a.tmps.getD 36 undef,a.tmps.getD 37 undef,a.tmps.getD 38 undef,a.tmps.getD 39 undef,a.tmps.getD 40 undef,a.tmps.getD 41 undef,a.tmps.getD 42 undef,a.tmps.getD 43 undef,a.tmps.getD 44 undef,a.tmps.getD 45 undef,a.tmps.getD 46 undef,a.tmps.getD 47 undef,a.tmps.getD 48 undef,a.tmps.getD 49 undef,a.tmps.getD 50 undef,a.tmps.getD 51 undef,a.tmps.getD 52 undef,a.tmps.getD 53 undef,a.tmps.getD 54 undef,a.tmps.getD 55 undef,a.tmps.getD 56 undef,a.tmps.getD 57 undef,a.tmps.getD 58 undef,a.tmps.getD 59 undef,a.tmps.getD 60 undef,a.tmps.getD 61 undef,a.tmps.getD 62 undef,a.tmps.getD 63 undef,a.tmps.getD 64 undef,a.tmps.getD 65 undef,a.tmps.getD 66 undef,a.tmps.getD 67 undef,a.tmps.getD 68 undef,a.tmps.getD 69 undef,a.tmps.getD 70 undef,a.tmps.getD 71 undef,a.tmps.getD 72 undef,a.tmps.getD 73 undef,a.tmps.getD 74 undef,a.tmps.getD 75 undef,a.tmps.getD 76 undef,a.tmps.getD 77 undef,a.tmps.getD 78 undef,a.tmps.getD 79 undef,a.tmps.getD 80 undef,a.tmps.getD 81 undef,a.tmps.getD 82 undef,a.tmps.getD 83 undef,a.tmps.getD 84 undef,a.tmps.getD 85 undef,a.tmps.getD 86 undef,a.tmps.getD 87 undef,a.tmps.getD 88 undef,a.tmps.getD 89 undef,a.tmps.getD 90 undef,a.tmps.getD 91 undef,a.tmps.getD 92 undef,a.tmps.getD 93 undef,a.tmps.getD 94 undef,a.tmps.getD 95 undef,a.tmps.getD 96 undef,a.tmps.getD 97 undef],defers:=[] }):fr s a v at_ f pl:=⟨fun i=>a.tmps.getD i undef,h⟩
def Qvi (a:Act) (i:Nat):Int:=Go.RowKit.intOf (a.tmps.getD i undef)
end
section
theorem QuP (c:UInt8):Lib.indexByte [99,103,104,115] c+1=Qa4 ⟨#[c]⟩:=by
 have e:toL ⟨#[c]⟩=[c]:=rfl;unfold Qa4;rw [e];by_cases h1:c=99
 ·subst h1;decide
 by_cases h2:c=103
 ·subst h2;decide
 by_cases h3:c=104
 ·subst h3;decide
 by_cases h4:c=115
 ·subst h4;decide
 have g1:((99:UInt8) == c)=false:=by simpa using fun e=>h1 e.symm
 have g2:((103:UInt8) == c)=false:=by simpa using fun e=>h2 e.symm
 have g3:((104:UInt8) == c)=false:=by simpa using fun e=>h3 e.symm
 have g4:((115:UInt8) == c)=false:=by simpa using fun e=>h4 e.symm
 simp [Lib.indexByte,g1,g2,g3,g4,h1,h2,h3,h4]
theorem one_of (h:t.size=1):∃ c:UInt8,t=⟨#[c]⟩:=by
 have hl:(toL t).length=1:=by rw [Qam];exact h
 obtain ⟨c,hc⟩:=List.length_eq_one_iff.1 hl;exact ⟨c,QaW hc⟩
theorem QrS (t:ByteArray) (hz:t.size<=100000) (w:World) :
  Calls prog 116 #[.string t] w fun e w'=>e=.returned (.int .i64 (Qa4 t))/\w'=w:=by
 by_cases h:t.size=1
 ·obtain ⟨c,rfl⟩:=one_of h
  have hi:((⟨#[c]⟩:ByteArray).size:Int)=1:=by rw [h];rfl
  have HX:Hid (Lib.indexByte [99,103,104,115] c+1=Qa4 ⟨#[c]⟩):=QuP c;have ab:=Qo7 ⟨#[c]⟩;generalize Qa4 ⟨#[c]⟩=kv at HX ab ⊢;go_enter func116,ntmps116;go_wp2_with (go_at_call 176;refine (Tryz.strings_Index_one _ c _).mono ?_;rintro e w1 ⟨rfl,hw⟩;obtain rfl:=hw.symm);go_ret;refine ⟨?_,rfl⟩
  show Ending.returned (.int .i64 (wrap64 (Lib.indexByte [99,103,104,115] c+1)))=_
  rw [HX.out];have aa:wrap64 kv=kv:=by unfold wrap64;omega
  rw [aa]
 ·have hi:¬ (t.size:Int)=1:=by omega
  have HE:Hid (Qa4 t=0):=Qaa (by
   have g:∀ c:UInt8,toL t≠[c]:=fun c e=>h (by rw [<- Qam,e];rfl);unfold Qa4;rw [if_neg (g _),if_neg (g _),if_neg (g _),if_neg (g _)])
  go_enter func116,ntmps116;go_wp2;go_ret;exact ⟨by rw [HE.out];rfl,rfl⟩
theorem bt_bd (t:ByteArray) (k:Nat):0<=bt t k/\bt t k<=255:=by
 unfold bt
 split
 ·have:=(t[k]).toNat_lt;omega
 ·omega
theorem Quy (h:¬ t.size=0):Lib.indexByte [64,35,84] (bt t 0).toNat.toUInt8=(QaU t:Int) - 1:=by
 obtain ⟨b0,b1⟩:=bt_bd t 0;unfold QaU;rw [if_neg h];by_cases h1:bt t 0=64
 ·rw [h1];decide
 by_cases h2:bt t 0=35
 ·rw [h2];decide
 by_cases h3:bt t 0=84
 ·rw [h3];decide
 rw [if_neg h1,if_neg h2,if_neg h3]
 have g:∀ d:UInt8,bt t 0≠(d.toNat:Int)->(d == (bt t 0).toNat.toUInt8)=false:=fun d hd=>by
  simp only [beq_eq_false_iff_ne];intro e;have e2:=congrArg UInt8.toNat e
  have e3:((bt t 0).toNat.toUInt8).toNat=(bt t 0).toNat:=by
   show (UInt8.ofNat (bt t 0).toNat).toNat=_
   rw [UInt8.toNat_ofNat'];exact Nat.mod_eq_of_lt oB
  rw [e3] at e2;omega
 have g1:=g 64 h1;have g2:=g 35 h2;have g3:=g 84 h3;simp [Lib.indexByte,g1,g2,g3]
theorem Qly (t:ByteArray) (hz:t.size<=100000) (w:World) :
  Calls prog 220 #[.string t] w fun e w'=>e=.returned (.int .i64 ((QaU t:Int) - 1))/\w'=w:=by
 have ac:=get_bt t;by_cases h:t.size=0
 ·have e:t=ByteArray.empty:=QaW (List.eq_nil_of_length_eq_zero (by rw [Qam];exact h))
  subst e;go_enter func220,ntmps220;go_wp2;exact mBk
 ·have hi:¬ (t.size:Int)=0:=by omega
  have ab:(0:Int)<(t.size:Int):=oB
  have he:(t.toList == [])=false:=by
   cases hq:(t.toList == []) with
   | false=>rfl
   | true=>
    have:=eq_of_beq hq;exact absurd (by rw [<- Qam];unfold toL;rw [<- ByteArray.toList_eq];rw [this];rfl) h
  have HX:=Qaa (Quy h);have aa:=Qjt t;generalize QaU t=m at HX aa ⊢;go_enter func220,ntmps220;go_wp2_with (go_at_call 254;refine (Tryz.strings_IndexByte _ _ _).mono ?_;rintro e w1 ⟨rfl,hw⟩;obtain rfl:=hw.symm);go_ret;exact ⟨by rw [<- HX.out];rfl,rfl⟩
theorem Qkr (k:Int) (w:World):Calls prog 117 #[.int .i64 k] w fun e w'=>e=.returned (.bool (decide (1<=k) && decide (k<=4)))/\w'=w:=by
 by_cases h1:1<=k <;> by_cases h2:k<=4 <;> (go_enter func117,ntmps117;go_wp2;go_ret;exact ⟨by simp [h1,h2],rfl⟩)
end
section
theorem QrP (t:ByteArray) (c:UInt8) (hz:t.size<=1000000) (w:World) (hM:MX w) :
  Calls prog 172 #[.string t,.string ⟨#[c]⟩] w fun e w'=>∃ g tc,e=.returned (.slice (some ⟨g,0,none⟩) (Qa7 t (c.toNat:Int)).length tc)/\w.heap.size<=g/\Qat w' (some ⟨g,0,none⟩) (Qa7 t (c.toNat:Int))/\Bw w w':=by
 obtain ⟨m,hm⟩:=hM;refine (Tryz.strings_Split t ⟨#[c]⟩ m w oB hm (by show 1<=1;omega)).mono ?_;rintro e w' ⟨rfl,rfl⟩;rw [QcV];have hl:(Qa7 t (c.toNat:Int)).length=Lib.countB t ⟨#[c]⟩+1:=by rw [<- QcV];exact Lib.splitB_all ⟨#[c]⟩ (by show 1<=1;omega) 0 _ t rfl
 refine ⟨w.heap.size,_,by rw [hl],Nat.le_refl _,fun _=>⟨w.heap.size,0,rfl,fun i u hu=>?_⟩,(Below.refl _ _).alloc (Nat.le_refl _) _⟩;rw [cell_of_row _ w.heap.size _ _ _ (0,0) (heap_alloc_new w _),Nat.zero_add];simp [hu]
end
section
def CutP (t:ByteArray) (c:UInt8) (p r:ByteArray) (b:Bool):Prop:=(b=true/\toL t=toL p ++ c :: toL r/\c ∉ toL p)∨(b=false/\c ∉ toL t/\p=t/\r=ByteArray.empty)
theorem Qnw {c:UInt8}:∀ {l:List UInt8},c∈l->∃ p r,l=p ++ c :: r/\c ∉ p
 | y :: l,h=>by
  by_cases hy:c=y
  ·subst hy;exact ⟨[],l,rfl,by simp⟩
  ·have hl:c∈l:=by
    rcases List.mem_cons.1 h with e | e
    ·exact absurd e hy
    ·exact e
   obtain ⟨p,r,e,hp⟩:=Qnw hl
   exact ⟨y :: p,r,by rw [e];rfl,fun hm=>by
    rcases List.mem_cons.1 hm with e | e
    ·exact hy e
    ·exact hp e⟩
theorem QuR (t:ByteArray) (c:UInt8):∃ p r b,CutP t c p r b/\Lib.cut (toL t) [c]=(toL p,toL r,b):=by
 by_cases h:c∈toL t
 ·obtain ⟨p,r,e,hp⟩:=Qnw h
  refine ⟨⟨p.toArray⟩,⟨r.toArray⟩,true,Or.inl ⟨rfl,by rw [QaQ,QaQ];exact e,by rw [QaQ];exact hp⟩,?_⟩;rw [QaQ,QaQ];have e2:=Qne (r:=r) hp;rw [<- e] at e2;exact e2
 ·refine ⟨t,ByteArray.empty,false,Or.inr ⟨rfl,h,rfl,rfl⟩,?_⟩
  unfold Lib.cut;rw [QdD h,if_neg oB]
  rfl
theorem c_CutL (t:ByteArray) (c:UInt8) (hz:t.size<=1000000) (w:World) (hM:MX w) :
  Calls prog 170 #[.string t,.string ⟨#[c]⟩] w fun e w'=>∃ p r b,e=.returned (.tuple #[.string p,.string r,.bool b])/\CutP t c p r b/\Bw w w':=by
 obtain ⟨m,hm⟩:=hM;obtain ⟨p,r,b,hC,e⟩:=QuR t c;refine (Tryz.strings_Cut t ⟨#[c]⟩ m w oB hm).mono ?_;rintro e1 w' ⟨rfl,n,rfl⟩;refine ⟨p,r,b,?_,hC,⟨rfl,rfl,rfl,ZZa _,fun _ _=>rfl⟩⟩;have e2:Lib.cut t.data.toList (⟨#[c]⟩:ByteArray).data.toList=(toL p,toL r,b):=e;rw [e2]
 show Ending.returned (.tuple #[.string ⟨(toL p).toArray⟩,.string ⟨(toL r).toArray⟩,.bool b])=_
 rw [Qee,Qee]
theorem Qvt {c:UInt8} (h:c ∉ toL t):Qa7 t (c.toNat:Int)=[t]:=by
 obtain ⟨h1,h2,h3⟩:=QcO (c:=c) t.size t (ZZa _);generalize Qa7 t (c.toNat:Int)=l at h1 h2 h3
 match l,h1,h3 with
 | [x],_,h3=>rw [QeG] at h3;rw [QaW h3]
 | x :: y :: r,_,h3=>rw [QdU] at h3;exact absurd (by rw [<- h3];simp) h
theorem LnG.lt (h:LnG w) (k:MX w):4<w.heap.size/\5<w.heap.size/\6<w.heap.size/\1<w.heap.size:=by
 obtain ⟨m,hm⟩:=k;obtain ⟨a,b,hs⟩:=h.syn;obtain ⟨a',b',hr⟩:=h.rng;refine ⟨?_,World.block_lt_of_cell? _ _ hs,World.block_lt_of_cell? _ _ hr,World.block_lt_of_cell? _ _ hm⟩;have ht:=h.tab;unfold tabF Lib.TabIs World.var? at ht;rw [show prog.globalNamed "internal/strconv.uint64pow10"=some 4 by kernel_rfl] at ht;rcases Nat.lt_or_ge 4 w.heap.size with h' | h'
 ·exact h'
 ·simp only [Option.bind_some] at ht
  rw [Array.getElem?_eq_none h'] at ht;simp at ht
end
section
theorem bel7 (h:Below B w w') {r:Nat} (hr:B<=r) (v0 v1 v2 v3 v4 v5 v6:Value):Below B w (((((((w'.setCell ⟨r,0,none⟩ v0).setCell ⟨r,1,none⟩ v1).setCell ⟨r,2,none⟩ v2).setCell ⟨r,3,none⟩ v3).setCell ⟨r,4,none⟩ v4).setCell ⟨r,5,none⟩ v5).setCell ⟨r,6,none⟩ v6):=(((((((h.setCell (p:=⟨r,0,none⟩) hr v0).setCell (p:=⟨r,1,none⟩) hr v1).setCell (p:=⟨r,2,none⟩) hr v2).setCell (p:=⟨r,3,none⟩) hr v3).setCell (p:=⟨r,4,none⟩) hr v4).setCell (p:=⟨r,5,none⟩) hr v5).setCell (p:=⟨r,6,none⟩) hr v6)
end
def JO (s:ByteArray) (w0:World):Nat->Act->World->Prop
 | 0,a,w=>w=w0/\fr s a 0 0 0 0
 | 1,a,w=>w=w0/\fr s a 1 1 0 0
 | 3,a,w=>w=w0/\∃ (p:Nat) (v:Int),p<=6/\0<=v/\v*10 ^ (6 - p)=1000000/\fr s a v 1 0 p
 | _,_,_=>False
def μO:Nat->Act->World->Nat
 | 0,_,_=>100
 | 1,_,_=>50
 | 3,a,_=>7 - (Qvi a 7).toNat
 | _,_,_=>0
theorem pow_on {p:Nat} (h0:0<=v) (hp:p<6) (h:v*10 ^ (6 - p)=1000000):v*10<=1000000/\v*10*10 ^ (6 - (p+1))=1000000:=by
 obtain ⟨k,hk⟩:∃ k,6 - p=k+1:=⟨5 - p,by omega⟩;rw [hk,Int.pow_succ] at h;have e:v*10*10 ^ (6 - (p+1))=1000000:=by rw [show 6 - (p+1)=k by omega,<- h,Int.mul_assoc,Int.mul_comm 10]
 refine ⟨?_,e⟩;have h1:(1:Int)<=10 ^ (6 - (p+1)):=by have:=Nat.one_le_pow (6 - (p+1)) 10 oB;exact_mod_cast this
 have h2:v*10*1<=v*10*10 ^ (6 - (p+1)):=Int.mul_le_mul_of_nonneg_left h1 oB;omega
theorem Qrc (h1:s.size=1) (h49:bt s 0=49) (w:World) :
  Calls prog 177 #[.string s] w fun e w'=>e=.returned (.tuple #[.int .i64 1000000,.nilIface])/\w'=w:=by
 have hs:s.size<=maxLen:=by rw [h1];decide
 have h:Qjz s=true:=by unfold Qjz;rw [h1];rfl
 have hn:QkK s=false:=by unfold QkK;rw [h49];simp
 have hi:(s.size:Int)=1:=oB
 have ad:Hid (∀ w,Calls prog 229 #[.string s,.int .i64 0] w fun e w'=>e=.returned (.bool true)/\w'=w):=Qaa (fun w=>by
  have:=QjP s 0 hs oF w;rw [h49] at this;exact this)
 have ac:Hid (∀ w,Calls prog 229 #[.string s,.int .i64 1] w fun e w'=>e=.returned (.bool false)/\w'=w):=Qaa (fun w=>by
  have:=QjP s 1 hs oF w;rw [bt_end s oB] at this;exact this)
 have HP:Hid (∀ w,Calls prog 228 #[.string s,.string ⟨#[45]⟩] w fun e w'=>e=.returned (.bool false)/\w'=w):=Qaa (fun w=>by
  have:=Qlc s hs w;rw [hn] at this;exact this)
 have af:=get_bt s
 have HF:Hid (∀ w,Calls prog 37 #[.string s] w fun e w'=>e=.returned (.bool true)/\w'=w):=Qaa (fun w=>by
  have:=Qfm s hs w;rw [h] at this;exact this)
 clear h hn hs;go_enter func177,ntmps177;go_wp2;refine QiD (JO s w) μO ?_ ?_
 ·go_wp2_with (go_at_call 37;refine (HF.out _).mono ?_;rintro e w1 ⟨rfl,hw⟩;obtain rfl:=hw.symm)
  go_step3
  exact ⟨rfl,Qr4 rfl⟩
 ·intro l a w' hJ
  rcases l with _ | _ | _ | _ | l
  ·obtain ⟨rfl,u,rfl⟩:=hJ
   refine ⟨_,rfl,?_⟩;go_wp2_with (go_at_call 228;refine (HP.out _).mono ?_;rintro e w1 ⟨rfl,hw⟩;obtain rfl:=hw.symm)
   go_step3
   go_wp2_with (go_at_call 229;refine (ad.out _).mono ?_;rintro e w1 ⟨rfl,hw⟩;obtain rfl:=hw.symm)
   go_step3
   exact ⟨⟨rfl,Qr4 rfl⟩,by simp [μO]⟩
  ·obtain ⟨rfl,u,rfl⟩:=hJ
   refine ⟨_,rfl,?_⟩;go_wp2_with (go_at_call 229;refine (ac.out _).mono ?_;rintro e w1 ⟨rfl,hw⟩;obtain rfl:=hw.symm)
   go_step3
   exact ⟨⟨rfl,0,1,by omega,by omega,by decide,Qr4 rfl⟩,by simp [μO,Qvi,Go.RowKit.intOf]⟩
  ·exact hJ.elim
  ·obtain ⟨rfl,p,v,hp,hv,hq,u,rfl⟩:=hJ
   refine ⟨_,rfl,?_⟩;by_cases h6:p<6
   ·have ae:(p:Int)<6:=by omega
    obtain ⟨z1,z2⟩:=pow_on hv h6 hq;have HZ:=Qaa z2;have e1:IntKind.i64.wrap (v*10)=v*10:=ZZi _ ⟨by omega,by omega⟩;have e2:IntKind.i64.wrap ((p:Int)+1)=((p+1:Nat):Int):=by rw [show (p:Int)+1=((p+1:Nat):Int) by omega];exact ZZi _ ⟨by omega,by omega⟩
    clear hq z2;go_wp2
    go_step3
    exact ⟨⟨rfl,p+1,v*10,by omega,by omega,HZ,Qr4 rfl⟩,by simp [μO,Qvi,Go.RowKit.intOf];omega⟩
   ·have ae:¬ (p:Int)<6:=by omega
    have aa:p=6:=oB
    have ab:v=1000000:=by rw [aa] at hq;simpa using hq
    subst ab;clear hq aa;go_wp2;simp only [Qq6];go_ret2;exact ⟨rfl,rfl⟩
  ·exact hJ.elim
theorem QlA (t P R:ByteArray) (c:UInt8) (e:toL t=toL P ++ c :: toL R) (hn:c ∉ toL P) (hz:t.size<=1000000) (w:World) (hM:MX w) :
  Calls prog 170 #[.string t,.string ⟨#[c]⟩] w fun e w'=>e=.returned (.tuple #[.string P,.string R,.bool true])/\Bw w w':=by
 refine (c_CutL t c hz w hM).mono ?_;rintro e1 w' ⟨p,r,b,rfl,h,hb⟩;rcases h with ⟨rfl,h1,h2⟩ | ⟨_,h1,_⟩
 ·obtain ⟨e1,e2⟩:=Qg3 (h1.symm.trans e) h2 hn
  rw [QaW e1,QaW e2];exact ⟨rfl,hb⟩
 ·exact absurd (by rw [e];simp) h1
def Qnu (nm wh kd:ByteArray) (td:Bool) (ti:Int):Array Value:=#[.string nm,.string wh,.string kd,.bool false,.string ⟨#[]⟩,.slice none 0 0,.bool td,.int .i64 ti]
theorem Qvc {nm wh kd y:ByteArray} {g tc:Nat} (hz:y.size<=100) (hy:TimP (tl1 y) n) (h84:bt y 0=84) (h0:0<y.size) (hgB:g≠B) (hA:w.cell? ⟨g,0,none⟩=some (.string y)) (hR:w.heap[B]?=some (.cells (Qnu nm wh kd false 0) 166 (0,0))) (hG:LnG w) :
  Calls prog 171 #[.pointer (some ⟨B,0,none⟩),.slice (some ⟨g,0,none⟩) 1 tc] w fun e w'=>e=.returned (.bool true)/\w'.heap[B]?=some (.cells (Qnu nm wh kd true n) 166 (0,0))/\Below B w w':=by
 unfold Qnu at hR ⊢;have hm:QaU y=3:=by unfold QaU;rw [if_neg oB,if_neg oB,if_neg oB,if_pos h84]
 have ab:w.cell? ⟨B,6,none⟩=some (.bool false):=by rw [cell_of_row w B 6 _ _ (0,0) hR];rfl
 have ac:w.cell? ⟨B,7,none⟩=some (.int .i64 0):=by rw [cell_of_row w B 7 _ _ (0,0) hR];rfl
 have ad:=fzR 6 hR;have ae:=fzR 7 hR;have ao:=get_bt y;have aq:(0:Int)<(y.size:Int):=oB
 have ah:=QnB y
 have an:Hid (Calls prog 221 #[.string (tl1 y)] w fun e w'=>e=.returned (.tuple #[.int .i64 n,.bool true])/\Bw w w'):=Qaa (by
  have h:=Qog (tl1 y) oB w hG;rw [timO_iff.2 hy] at h;exact h)
 have ai:Hid (∀ w,Calls prog 220 #[.string y] w fun e w'=>e=.returned (.int .i64 2)/\w'=w):=Qaa (fun w=>by
  have h:=Qly y oB w;rw [hm] at h;exact h)
 have HR:=Qaa hR;have ag:B<w.heap.size:=(ZZc.1 hR).1;have al:=Qaa ag;clear hG hR hy hm ah ag;go_enter func171,ntmps171;go_wp2
 go_step3
 go_wp2
 go_step3
 go_wp2
 go_loopw [5,6,12] (fun ri la i wr=>ri=.bool true/\((i=.int .i64 0/\la=.int .i64 (-1)/\wr=w)∨(i=.int .i64 1/\Hid (wr.heap[B]?=some (.cells #[.string nm,.string wh,.string kd,.bool false,.string ⟨#[]⟩,.slice none 0 0,.bool true,.int .i64 n] 166 (0,0))/\Below B w wr)))) (fun ri la i wr=>1 - (Go.RowKit.intOf i).toNat)
 case atStart=>exact ⟨rfl,.inl ⟨rfl,rfl,rfl⟩⟩
 case round=>
  obtain ⟨rfl,h⟩:=hrel;rcases h with ⟨rfl,rfl,rfl⟩ | ⟨rfl,HF⟩
  ·go_wp2_with (first
    | (go_at_call 220;refine (ai.out _).mono ?_;rintro e w1 ⟨rfl,hw⟩;obtain rfl:=hw.symm)
    | (go_at_call 221;refine an.mono ?_;rintro e w2 ⟨rfl,aa⟩;have af:=Qaa aa;have ap:=Qab aa ac;have ak:=(QbQ aa ac).trans ae;have ar:=Qab aa ab;have am:=(QbQ aa ab).trans ad;clear aa ac ae ab ad))
   go_roundw
   case rel=>
    have aj:=Qag HR af;have hb:=af.mono (Nat.le_of_lt al);exact ⟨rfl,.inr ⟨rfl,ZZl _ B 6 _ _ (.bool true) (ZZl w2 B 7 _ _ (.int .i64 n) aj),(hb.setCell (ZZa _) _).setCell (ZZa _) _⟩⟩
   case measure=>simp [zI]
  ·clear hA ab ac ad ae
   go_wp2
   try rw [Exit.noGoto_ret]
   go_ret;exact ⟨rfl,HF.1,HF.2⟩
def Qb2:ByteArray:=⟨#[104,105,116,115]⟩
def Qnz:ByteArray:=⟨#[49]⟩
def cB:ByteArray:=⟨#[99]⟩
def Qoy (n:Nat):ByteArray:=⟨(84 :: Lib.decDigits n).toArray⟩
def LinT (t:ByteArray) (n:Nat):Prop:=toL t=[104,105,116,115,58,49,124,99,124,84] ++ Lib.decDigits n/\n<=1000000000
theorem Qph (h:n<=1000000000):TimP (tl1 (Qoy n)) n/\bt (Qoy n) 0=84/\0<(Qoy n).size/\(Qoy n).size<=12/\(124:UInt8) ∉ toL (Qoy n)/\toL (Qoy n)=84 :: Lib.decDigits n:=by
 have hl:toL (Qoy n)=84 :: Lib.decDigits n:=QaQ _;obtain ⟨d1,d2,d3⟩:=QdR n;have hz:(Qoy n).size=(Lib.decDigits n).length+1:=by rw [<- Qam,hl,List.length_cons]
 refine ⟨⟨?_,h⟩,?_,by omega,?_,?_,hl⟩
 ·unfold tl1
  rw [Qa6,List.take_of_length_le oQ,hl]
  rfl
 ·rw [Qkh (k:=0) (by rw [hl];simp)]
  simp [hl]
 ·have:=QdW 9 n oB
  omega
 ·rw [hl]
  intro q;rcases List.mem_cons.1 q with q | q
  ·cases q
  ·have:=(d1 _ q).2
   revert this;decide
theorem QsR (ht:LinT t n) (hG:LnG w) (hM:MX w) :
  Calls prog 114 #[.string t] w fun e w'=>e=.returned (.tuple #[.agg (Qnu Qb2 Qnz cB true n),.bool true])/\Bw w w':=by
 obtain ⟨y1,y2,y3,y4,y5,y6⟩:=Qph ht.2;obtain ⟨R1,ad⟩:∃ R:ByteArray,toL R=[49,124,99,124,84] ++ Lib.decDigits n:=⟨⟨([49,124,99,124,84] ++ Lib.decDigits n).toArray⟩,QaQ _⟩;obtain ⟨R2,ah⟩:∃ R:ByteArray,toL R=[99,124,84] ++ Lib.decDigits n:=⟨⟨([99,124,84] ++ Lib.decDigits n).toArray⟩,QaQ _⟩;have aB:(Lib.decDigits n).length<=11:=by rw [<- Qam,y6,List.length_cons] at y4;omega
 have z0:t.size<=1000:=by rw [<- Qam,ht.1,List.length_append];simp;omega
 have z1:R1.size<=1000:=by rw [<- Qam,ad,List.length_append];simp;omega
 have z2:R2.size<=1000:=by rw [<- Qam,ah,List.length_append];simp;omega
 have E1:Hid (toL t=toL Qb2 ++ 58 :: toL R1):=Qaa (by rw [ht.1,ad];rfl);have E2:Hid (toL R1=toL Qnz ++ 124 :: toL R2):=Qaa (by rw [ad,ah];rfl);have E3:Hid (toL R2=toL cB ++ 124 :: toL (Qoy n)):=Qaa (by rw [ah,y6];rfl);have ap:Hid (Qa7 (Qoy n) 124=[Qoy n]):=Qaa (Qvt y5);have HM:=Qaa hM;have HG:=Qaa hG;have HY:=Qaa (And.intro y1 (And.intro y2 (And.intro y3 y4)));clear hM hG y1 y2 y3 y4 y5 y6 ad ah aB ht;generalize Qoy n=y at E3 ap HY;go_enter func114,ntmps114;go_wp2_with fail;obtain ⟨W0,aj⟩:∃ W0,W0=w.alloc (.cells zAc 166):=⟨_,rfl⟩;rw [<- aj];have aa:Hid (Bw w W0/\W0.heap[w.heap.size]?=some (.cells zAc 166 (0,0))/\W0.heap.size=w.heap.size+1):=(by rw [aj];exact ⟨(Below.refl _ _).alloc (Nat.le_refl _) _,heap_alloc_new w _,World.size_alloc _ _⟩:_/\_/\_);clear aj;refine (QlA t Qb2 R1 58 E1 oF oB W0 (HM.past aa.1)).mono ?_;rintro e w1 ⟨rfl,an⟩;have al:=Qaa an;clear an;go_wp2_with fail;refine (QlA R1 Qnz R2 124 E2 oF oB w1 (HM.past (Qac aa.1 al))).mono ?_;rintro e w2 ⟨rfl,am⟩;have au:=Qaa (Qac al am);clear am;go_wp2_with fail;refine (QlA R2 cB y 124 E3 oF oB w2 (HM.past (Qac aa.1 au))).mono ?_;rintro e w3 ⟨rfl,aw⟩;have af:=Qaa (Qac au aw);clear aw;have ac:w3.heap[w.heap.size]?=some (.cells zAc 166 (0,0)):=by rw [af.block _ (oA aa.2.2)];exact aa.2.1
 have ao:w.heap.size<w3.heap.size:=by have:=aa.2.2;have:=af.size;omega
 have aH:=HG.lt HM;go_wp2_with fail;obtain ⟨W4,ab⟩:∃ W4,W4=w3.alloc (.cells #[.string Qb2,.string Qnz,.string cB,.bool false,.string ⟨#[]⟩,.slice none 0 0,.bool false,.int .i64 0] 166):=⟨_,rfl⟩;rw [<- ab];have av:W4.heap[w.heap.size]?=some (.cells zAc 166 (0,0)):=by rw [ab,Below.heap_alloc _ _ _ ao];exact ac
 have ar:W4.heap[w3.heap.size]?=some (.cells (Qnu Qb2 Qnz cB false 0) 166 (0,0)):=by rw [ab];exact ZZk w3 _
 have aI:W4.heap.size=w3.heap.size+1:=by rw [ab];exact World.size_alloc _ _
 have ai:Bw w W4:=by rw [ab];exact (Qac aa.1 af).alloc oB _
 clear ac ab;refine (QrP y 124 (oA HY.2.2.2) W4 (HM.past ai)).mono ?_;rw [show (((124:UInt8).toNat:Nat):Int)=124 from rfl,ap.out];rintro e w5 ⟨g,tc,rfl,hg,hS,ae⟩
 have az:w5.cell? ⟨g,0,none⟩=some (.string y):=by
  obtain ⟨b,aJ,e,hc⟩:=hS oE
  cases e
  exact hc 0 y rfl
 have ay:w5.heap[w.heap.size]?=some (.cells zAc 166 (0,0)):=by rw [ae.block _ oB];exact av
 have ax:=Qaa (Qac ai ae);have aE:=Qaa (Qag ar ae);have aA:=Qaa ay;have aG:=Qaa az;have aD:Hid (g≠w3.heap.size):=Qaa oB;clear av ar ai hS ae ay az af aa hg;go_wp2_with fail;refine (Qvc (oA HY.2.2.2) HY.1 HY.2.1 HY.2.2.1 aD aG aE (HG.past ax)).mono ?_;rintro e w6 ⟨rfl,hT,ak⟩;have ag:w6.heap[w.heap.size]?=some (.cells zAc 166 (0,0)):=by rw [ak.block _ ao];exact aA.out
 have aq:Bw w w6:=ax.trans (ak.mono oB);have aC:=Qaa (QjC aq (ZZa _) (.string Qb2) (.string Qnz) (.string cB) (.bool false) (.string ⟨#[]⟩) (.slice none 0 0) (.bool true) (.int .i64 n));have aF:=Qaa (QbR (row8 (.string Qb2) (.string Qnz) (.string cB) (.bool false) (.string ⟨#[]⟩) (.slice none 0 0) (.bool true) (.int .i64 n) ag));obtain ⟨r0,r1,r2,r3,r4,r5,r6,r7⟩:=QbR ag;obtain ⟨f0,f1,f2,f3,f4,f5,f6,f7⟩:=Qdp ag;obtain ⟨q0,q1,q2,q3,q4,q5,q6,q7⟩:=QbR hT;clear ag aq hT ak;go_wp2;obtain ⟨s0,s1,s2,s3,s4,s5,s6,s7⟩:=aF.out;refine bodyPost_ret (v:=.tuple #[.agg (Qnu Qb2 Qnz cB true n),.bool true]) (by unfold Qnu;simp [results,results114,go_sem,s0,s1,s2,s3,s4,s5,s6,s7]) rfl ?_;exact ⟨rfl,aC⟩
theorem QoK (w:World):Calls prog 118 #[.int .i64 1,.string Qnz] w fun e w'=>e=.returned (.tuple #[.int .i64 1000000,.string ⟨#[]⟩,.bool true])/\Bw w w':=by
 go_enter func118,ntmps118;go_wp2_with (go_at_call 177;refine (Qrc oR oR _).mono ?_;rintro e w1 ⟨rfl,hw⟩;obtain rfl:=hw.symm)
 go_quiet (fail)
 go_wp2
 go_ret3
 exact ⟨rfl,⟨rfl,rfl,rfl,ZZa _,fun _ _=>rfl⟩⟩
theorem Qq0 (n:Nat) (w:World):Calls prog 119 #[.agg (Qnu Qb2 Qnz cB true n),.int .i64 1] w fun e w'=>e=.returned (.tuple #[.int .u64 1,.bool true])/\Bw w w':=by
 unfold Qnu;go_enter func119,ntmps119;go_wp2;go_ret2;exact mDo
def QoA (n:Nat):Array Value:=#[.int .i64 1,.string (QbM Qb2 []),.int .i64 1000000,.string ⟨#[]⟩,.int .u64 1,.bool true,.int .i64 n]
structure RL (w W:World) (lb n:Nat):Prop where
 s:W.heap[w.heap.size]?=some (.cells zAa 85 (0,0))
 l:W.heap[lb]?=some (.cells (Qnu Qb2 Qnz cB true n) 166 (0,0))
 b:Bw w W
theorem RL.past {W W':World} {lb:Nat} (h:RL w W lb n) (hb:Bw W W'):RL w W' lb n:=⟨Qag h.s hb,Qag h.l hb,Qac h.b hb⟩
theorem QlE (ht:LinT t n) (hG:LnG w) (hM:MX w) :
  Calls prog 69 #[.string t] w fun e w'=>e=.returned (.tuple #[.agg (QoA n),.nilIface])/\Bw w w':=by
 have hz:t.size<=20000:=by
  have:=QdW 9 n (oA ht.2);rw [<- Qam,ht.1,List.length_append];simp;omega
 have ao:Hid (∀ w,Calls prog 37 #[.string t] w fun e w'=>e=.returned (.bool true)/\w'=w):=Qaa (fun w=>by
  exact mEg)
 have ak:QbM Qb2 []≠ByteArray.empty:=oF
 have am:(QbM Qb2 []).toList.isEmpty=false:=Qgf ak;have ap:Hid (∀ w,Calls prog 117 #[.int .i64 1] w fun e w'=>e=.returned (.bool true)/\w'=w):=Qaa (fun w=>Qkr 1 w);have HK:Hid (∀ w,Calls prog 116 #[.string cB] w fun e w'=>e=.returned (.int .i64 1)/\w'=w):=Qaa (fun w=>QrS cB oF w);have HT:=Qaa ht;have HM:=Qaa hM;have HG:=Qaa hG;clear hM hG ht hz ak;unfold QoA;generalize hsq:QbM Qb2 []=se at am ⊢;have an:=Qaa hsq;clear hsq;go_enter func69,ntmps69;go_wp2_with (go_at_call 37;refine (ao.out _).mono ?_;rintro e w1 ⟨rfl,hw⟩;obtain rfl:=hw.symm);have aa:Hid (Bw w (w.alloc (.cells zAa 85))):=Qaa bAA;have ae:=Qaa (ZZk w (.cells zAa 85));generalize w.alloc _=W0 at aa ae ⊢;refine (QsR HT (HG.past aa) (HM.past aa)).mono ?_;unfold Qnu;rintro e w1 ⟨rfl,al⟩;have ad:=Qaa al;clear al;go_wp2_with fail
 have ab:Hid (RL w (w1.alloc (.cells #[.string Qb2,.string Qnz,.string cB,.bool false,.string ⟨#[]⟩,.slice none 0 0,.bool true,.int .i64 n] 166)) w1.heap.size n):=by
  have a1:Bw w1 (w1.alloc (.cells #[.string Qb2,.string Qnz,.string cB,.bool false,.string ⟨#[]⟩,.slice none 0 0,.bool true,.int .i64 n] 166)):=bAA;exact Qaa ⟨Qag (Qag ae ad) a1,ZZk w1 _,Qac (Qac aa ad) a1⟩
 generalize w1.alloc _=W1 at ab ⊢;generalize w1.heap.size=lb at ab ⊢;clear aa ae ad;refine (Qd9 (L:=[]) Qb2 0 0 oF rfl oB (fun u hu=>by cases hu) (fun h=>absurd h (Nat.lt_irrefl 0))).mono ?_;rw [an.out];rintro e w2 ⟨rfl,ai⟩;have af:=Qaa (ab.past ai);clear ai ab HT;have l2:=af.l;unfold Qnu at l2;obtain ⟨q0,q1,q2,q3,q4,q5,q6,q7⟩:=QbR l2;clear l2
 go_wp2_with (first
  | (go_at_call 116;refine (HK.out _).mono ?_;rintro e w' ⟨rfl,hw⟩;obtain rfl:=hw.symm)
  | (go_at_call 117;refine (ap.out _).mono ?_;rintro e w' ⟨rfl,hw⟩;obtain rfl:=hw.symm))
 refine (QoK _).mono ?_;rintro e w3 ⟨rfl,aj⟩;clear q0 q1 q2 q3 q4 q5 q6 q7;have ag:=Qaa (af.past aj);clear aj af;have l3:=ag.l;unfold Qnu at l3;obtain ⟨q0,q1,q2,q3,q4,q5,q6,q7⟩:=QbR l3;clear l3;go_wp2_with fail;refine (Qq0 n _).mono ?_;rintro e w4 ⟨rfl,ah⟩;clear q0 q1 q2 q3 q4 q5 q6 q7;have ac:=Qaa (ag.past ah);clear ah ag;have l4:=ac.l;unfold Qnu at l4;obtain ⟨r0,r1,r2,r3,r4,r5,r6⟩:=QfF ac.s;obtain ⟨f0,f1,f2,f3,f4,f5,f6⟩:=Qi3 ac.s;obtain ⟨q0,q1,q2,q3,q4,q5,q6,q7⟩:=QbR l4;clear l4;go_wp2;refine bodyPost_ret (v:=.tuple #[.agg #[.int .i64 1,.string se,.int .i64 1000000,.string ⟨#[]⟩,.int .u64 1,.bool true,.int .i64 n],.nilIface]) (by simp [results,results69,go_sem,r0,r1,r2,r3,r4,r5,r6]) rfl ?_;exact ⟨rfl,bel7 ac.b (ZZa _) _ _ _ _ _ _ _⟩
def outT (n:Nat):Array Value:=#[.int .i64 1,.string (QbM Qb2 []),.int .i64 1000000,.string ⟨#[]⟩,.int .u64 1,.bool true,.int .i64 n,.int .i64 0]
theorem Qui (ht:LinT t n) (hG:LnG w) (hM:MX w) :
  Calls prog 38 #[.string t] w fun e w'=>e=.returned (.agg (outT n))/\Bw w w':=by
 have HM:=Qaa hM;have HG:=Qaa hG;have HT:=Qaa ht;clear hM hG ht;unfold outT;generalize hsq:QbM Qb2 []=se;have aj:=Qaa hsq;clear hsq;go_enter func38,ntmps38;go_wp2_with fail;have aa:Hid (Bw w (w.alloc (.cells #[.int .i64 0,.string ⟨#[]⟩,.int .i64 0,.string ⟨#[]⟩,.int .u64 0,.bool false,.int .i64 0,.int .i64 0] 87))):=Qaa bAA;have ac:=Qaa (ZZk w (.cells #[.int .i64 0,.string ⟨#[]⟩,.int .i64 0,.string ⟨#[]⟩,.int .u64 0,.bool false,.int .i64 0,.int .i64 0] 87));generalize w.alloc _=W0 at aa ac ⊢;refine (QlE HT (HG.past aa) (HM.past aa)).mono ?_;unfold QoA;rw [aj.out];rintro e w1 ⟨rfl,ae⟩;have a1:Bw w1 (w1.alloc (.cells #[.int .i64 1,.string se,.int .i64 1000000,.string ⟨#[]⟩,.int .u64 1,.bool true,.int .i64 n] 85)):=bAA;have ai:=Qaa (Qag (Qag ac ae) a1);have af:=Qaa (Qac (Qac aa ae) a1);have HC:=Qaa (ZZk w1 (.cells #[.int .i64 1,.string se,.int .i64 1000000,.string ⟨#[]⟩,.int .u64 1,.bool true,.int .i64 n] 85));clear ae a1 ac aa HT;go_upto_region 2 with fail;generalize w1.alloc _=W1 at ai af HC ⊢;generalize w1.heap.size=sb at HC ⊢;have ad:Bw W1 W1.drew:=(ZZb _ _).drew;refine Qal (fun W=>Bw W1 W) 4 oG ?_;refine tkL 0 (.agg #[.int .i64 1,.string se,.int .i64 1000000,.string ⟨#[]⟩,.int .u64 1,.bool true,.int .i64 n]) ad (fun W hW=>?_) ?_
 ·obtain ⟨x0,x1,x2,x3,x4,x5,x6⟩:=QfF (Qag HC hW)
  exact mAo
 refine tkS 1 (.nilIface) ad ?_;simp only [sX];refine onE 2 fun K hK=>?_;go_simp;refine (QjT _).mono ?_;rintro e w4 ⟨rfl,ag⟩;have ab:=Qac ad ag;clear ag;dsimp only;refine gK hK ab ?_
 try simp only [sX]
 refine onE 3 fun K hK=>?_;go_simp;refine gK hK ab ?_
 try simp only [sX]
 have ah:=Qag ai ab;obtain ⟨r0,r1,r2,r3,r4,r5,r6,r7⟩:=QbR ah;obtain ⟨f0,f1,f2,f3,f4,f5,f6,f7⟩:=Qdp ah;refine onE 4 fun K hK=>?_;go_simp;refine hK.out _ _ (fun h=>absurd rfl h) ?_
 try simp only [sX]
 refine dnE ?_ _;go_wp2;refine bodyPost_ret (v:=.agg #[.int .i64 1,.string se,.int .i64 1000000,.string ⟨#[]⟩,.int .u64 1,.bool true,.int .i64 n,.int .i64 0]) (by simp [results,results38,go_sem,r0,r1,r2,r3,r4,r5,r6,r7]) rfl ?_;exact ⟨rfl,QjC (Qac af ab) (ZZa _) _ _ _ _ _ _ _ _⟩
end Go.Proofs.YtioohanfodmddaaGreatDoor
