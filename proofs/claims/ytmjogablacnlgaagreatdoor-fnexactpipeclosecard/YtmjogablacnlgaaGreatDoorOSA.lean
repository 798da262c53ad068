/-
 The order of texts. Of no program's walk.
-/
import Derived.Test.YtmjogablacnlgaaGreatDoorOJA
import Derived.Maps.OwnSet
import Derived.Sort.KeysCollected
import Derived.Sort.Walk0
import Derived.Lib.Join
import Derived.RegionTactic
import Derived.BigRegion
import Derived.SliceStrings
namespace Go.Proofs.YtmjogablacnlgaaGreatDoor
set_option linter.unusedVariables false
set_option linter.unusedSimpArgs false
open Go.ChangeShapes Go.WideShapes Go.ChangeAt Go.RowKit Go.PlainAid
def strLt (a b:ByteArray):Bool:=Op.bytesLess a.toList b.toList
theorem op_geq (t:TypeId) (a b:ByteArray):binOp .geq t (.string a) (.string b)=pure (.bool !(strLt a b)):=by simp [binOp,Op.stringOp,strLt]
theorem less_ant:∀ x y:List UInt8,Op.bytesLess x y=true→Op.bytesLess y x=false
 | _,[],h=>by simp [Op.bytesLess] at h
 | [],_ :: _,_=>by simp [Op.bytesLess]
 | a :: x,b :: y,h=>by
  simp only [Op.bytesLess,Bool.or_eq_true,Bool.and_eq_true,decide_eq_true_eq,beq_iff_eq] at h;simp only [Op.bytesLess,Bool.or_eq_false_iff,Bool.and_eq_false_iff,decide_eq_false_iff_not,beq_eq_false_iff_ne];rcases h with h | ⟨rfl,h⟩
  ·exact ⟨fun k=>by have:=UInt8.lt_asymm h k;exact this,.inl (fun e=>by subst e;exact UInt8.lt_irrefl _ h)⟩
  ·exact ⟨UInt8.lt_irrefl _,.inr (less_ant x y h)⟩
theorem less_tot:∀ x y:List UInt8,Op.bytesLess x y=false→(x == y)=false→Op.bytesLess y x=true
 | [],[],_,h=>by simp at h
 | _ :: _,[],_,_=>by simp [Op.bytesLess]
 | [],_ :: _,h,_=>by simp [Op.bytesLess] at h
 | a :: x,b :: y,h,k=>by
  simp only [Op.bytesLess,Bool.or_eq_false_iff,Bool.and_eq_false_iff,decide_eq_false_iff_not,beq_eq_false_iff_ne] at h;simp only [Op.bytesLess,Bool.or_eq_true,Bool.and_eq_true,decide_eq_true_eq,beq_iff_eq];by_cases e:a=b
  ·subst e
   refine .inr ⟨rfl,less_tot x y ?_ ?_⟩
   ·rcases h.2 with h | h
    ·exact absurd rfl h
    ·exact h
   ·simpa using k
  ·left
   have h1:=h.1;simp only [UInt8.lt_iff_toNat_lt] at h1 ⊢;have:a.toNat≠b.toNat:=fun q=>e (UInt8.toNat_inj.1 q);omega
theorem less_eq {x y:List UInt8} (h:(x == y)=true):Op.bytesLess y x=false:=by
 have h:=beq_iff_eq.1 h;subst h
 cases e:Op.bytesLess x x with
 | false=>rfl
 | true=>have:=less_ant x x e;rw [this] at e;cases e
theorem op_gtr (t:TypeId) (a b:ByteArray):binOp .gtr t (.string a) (.string b)=pure (.bool (strLt b a)):=by
 have e:(!(Op.bytesLess a.toList b.toList || a.toList == b.toList))=Op.bytesLess b.toList a.toList:=by
  cases h1:Op.bytesLess a.toList b.toList
  ·cases h2:(a.toList == b.toList)
   ·rw [less_tot _ _ h1 h2];rfl
   ·rw [less_eq h2];rfl
  ·rw [less_ant _ _ h1];rfl
 show Op.stringOp .gtr a b=_
 unfold Op.stringOp strLt;rw [← e]
theorem less_trans:∀ x y z:List UInt8,Op.bytesLess x y=true→Op.bytesLess y z=true→Op.bytesLess x z=true
 | _,[],_,h,_=>by simp [Op.bytesLess] at h
 | _,_ :: _,[],_,h=>by simp [Op.bytesLess] at h
 | [],_ :: _,_ :: _,_,_=>by simp [Op.bytesLess]
 | a :: x,b :: y,c :: z,h,k=>by
  simp only [Op.bytesLess,Bool.or_eq_true,Bool.and_eq_true,decide_eq_true_eq,beq_iff_eq] at h k ⊢;rcases h with h | ⟨rfl,h⟩
  ·rcases k with k | ⟨rfl,k⟩
   ·exact .inl (UInt8.lt_trans h k)
   ·exact .inl h
  ·rcases k with k | ⟨rfl,k⟩
   ·exact .inl k
   ·exact .inr ⟨rfl,less_trans x y z h k⟩
theorem str_ext {a b:ByteArray} (h:(a.toList == b.toList)=true):a=b:=by
 have h:=beq_iff_eq.1 h;rw [ByteArray.toList_eq,ByteArray.toList_eq] at h
 cases a;cases b
 simp at h;simp [h]
theorem strLt_trans {a b c:ByteArray} (h:strLt a b=true) (k:strLt b c=true):strLt a c=true:=less_trans _ _ _ h k
theorem strLt_irr (a:ByteArray):strLt a a=false:=less_eq (x:=a.toList) (y:=a.toList) (by simp)
theorem strLt_ant {a b:ByteArray} (h:strLt a b=true):strLt b a=false:=less_ant _ _ h
theorem strLt_tot {a b:ByteArray} (h:strLt a b=false):strLt b a=true∨a=b:=by
 cases e:(a.toList == b.toList) with
 | true=>exact .inr (str_ext e)
 | false=>exact .inl (less_tot _ _ h e)
theorem strLe_trans {a b c:ByteArray} (h:strLt b a=false) (k:strLt c b=false):strLt c a=false:=by
 cases e:strLt c a with
 | false=>rfl
 | true=>
  rcases strLt_tot k with q | q
  ·rw [strLt_trans q e] at h;cases h
  ·subst q;rw [e] at h;cases h
def toL (b:ByteArray):List UInt8:=b.data.toList
theorem toL_inj {a b:ByteArray} (h:toL a=toL b):a=b:=by
 cases a;cases b;simp [toL] at h;simp [h]
theorem mk_toL (b:ByteArray):(⟨(toL b).toArray⟩:ByteArray)=b:=by cases b;simp [toL]
theorem toL_mk (l:List UInt8):toL ⟨l.toArray⟩=l:=by simp [toL]
theorem toL_len (b:ByteArray):(toL b).length=b.size:=by unfold toL;rw [Array.length_toList];rfl
theorem mk_app (a b:List UInt8):(⟨a.toArray⟩:ByteArray) ++ ⟨b.toArray⟩=⟨(a ++ b).toArray⟩:=by
 apply ByteArray.ext;rw [ByteArray.data_append];simp
theorem lt_toL (a b:ByteArray):strLt a b=decide (toL a<toL b):=by
 unfold strLt toL;rw [ByteArray.toList_eq,ByteArray.toList_eq];exact Go.Proofs.bytesLess_eq _ _
def insT:List ByteArray→ByteArray→List ByteArray
 | [],t=>[t]
 | y :: r,t=>if strLt y t=true then y :: insT r t else if y=t then y :: r else t :: y :: r
def RiseT (l:List ByteArray):Prop:=l.Pairwise (fun a b=>strLt a b=true)
theorem mem_insT {x t:ByteArray}:∀ {l:List ByteArray},x∈insT l t↔x=t∨x∈l
 | []=>by simp [insT]
 | y :: r=>by
  unfold insT
  split
  ·simp only [List.mem_cons,mem_insT (l:=r)]
   constructor
   ·rintro (h | h | h)
    ·exact .inr (.inl h)
    ·exact .inl h
    ·exact .inr (.inr h)
   ·rintro (h | h | h)
    ·exact .inr (.inl h)
    ·exact .inl h
    ·exact .inr (.inr h)
  ·split
   ·rename_i h;subst h;simp
   ·simp
theorem rise_insT {t:ByteArray}:∀ {l:List ByteArray},RiseT l→RiseT (insT l t)
 | [],_=>by simp [insT,RiseT]
 | y :: r,h=>by
  obtain ⟨h1,h2⟩:=List.pairwise_cons.1 h;unfold insT
  split
  ·rename_i hy
   refine List.pairwise_cons.2 ⟨fun x hx=>?_,rise_insT h2⟩;rcases mem_insT.1 hx with rfl | hx
   ·exact hy
   ·exact h1 x hx
  ·rename_i hy
   split
   ·exact h
   ·rename_i hne
    have hty:strLt t y=true:=by
     rcases strLt_tot (a:=y) (b:=t) (by simpa using hy) with e | e
     ·exact e
     ·exact absurd e hne
    refine List.pairwise_cons.2 ⟨fun x hx=>?_,h⟩;rcases List.mem_cons.1 hx with rfl | hx
    ·exact hty
    ·exact strLt_trans hty (h1 x hx)
def serK (L:List ByteArray):List ByteArray:=L.foldl insT []
theorem fold_rise:∀ (L l:List ByteArray),RiseT l→RiseT (L.foldl insT l)
 | [],l,h=>h
 | t :: r,l,h=>fold_rise r (insT l t) (rise_insT h)
theorem fold_mem (x:ByteArray):∀ (L l:List ByteArray),x∈L.foldl insT l↔x∈L∨x∈l
 | [],l=>by simp
 | t :: r,l=>by
  rw [List.foldl_cons,fold_mem x r,mem_insT,List.mem_cons];constructor
  ·rintro (h | h | h)
   ·exact .inl (.inr h)
   ·exact .inl (.inl h)
   ·exact .inr h
  ·rintro ((h | h) | h)
   ·exact .inr (.inl h)
   ·exact .inl h
   ·exact .inr (.inr h)
theorem serK_rise (L:List ByteArray):RiseT (serK L):=fold_rise L [] List.Pairwise.nil
theorem mem_serK {L:List ByteArray} {x:ByteArray}:x∈serK L↔x∈L:=by unfold serK;rw [fold_mem];simp
theorem insT_len (t:ByteArray):∀ l:List ByteArray,(insT l t).length≤l.length+1
 | []=>by simp [insT]
 | y :: r=>by
  unfold insT;have:=insT_len t r
  split
  ·simp;omega
  ·split <;> simp
theorem fold_len:∀ (L l:List ByteArray),(L.foldl insT l).length≤l.length+L.length
 | [],l=>by simp
 | t :: r,l=>by
  have h1:=fold_len r (insT l t);have h2:=insT_len t l;simp only [List.foldl_cons,List.length_cons];omega
theorem serK_len (L:List ByteArray):(serK L).length≤L.length:=by have:=fold_len L [];simpa [serK] using this
theorem rise_nodup {l:List ByteArray} (h:RiseT l):l.Nodup:=h.imp (fun {a b} hab e=>by subst e;rw [strLt_irr] at hab;cases hab)
theorem riseT_one {l m:List ByteArray} (h:RiseT l) (k:RiseT m) (hm:∀ x,x∈l↔x∈m):l=m:=by
 have hp:l.Perm m:=(List.perm_ext_iff_of_nodup (rise_nodup h) (rise_nodup k)).2 hm;refine hp.eq_of_pairwise (le:=fun a b=>strLt a b=true) (fun a b _ _ h1 h2=>?_) h k;rw [strLt_ant h1] at h2;cases h2
def litT (t:ByteArray):Lit:=.string (toL t)
def setT (L:List ByteArray):DataW Unit:=Go.Maps.setOf (.agg []) (L.map litT)
theorem setT_snoc (L:List ByteArray) (t:ByteArray):setT (L ++ [t])=(setT L).put (litT t) (.agg []):=by unfold setT;rw [List.map_append];exact Go.Maps.setOf_snoc _ _ _
theorem litT_key (L:List ByteArray):∀ x∈L.map litT,WideAt.IsKeyLit x:=fun x hx=>by
 obtain ⟨t,_,rfl⟩:=List.mem_map.1 hx;exact trivial
theorem keys_perm (L:List ByteArray) (hk:∃ es,setT L=.map es∧∀ p∈es,∃ x,p.1=Lit.string x):((serK L).map toL).Perm (Go.strKeys (setT L)):=by
 obtain ⟨es,e,hs⟩:=hk;obtain ⟨es',e',hp⟩:=Go.Maps.tidy_setOf (H:=Unit) (.agg []) (L.map litT) (litT_key L);have e':setT L=.map es':=e';obtain rfl:es=es':=by rw [e] at e'; simpa using e'
 rw [e];refine Go.perm_strKeys hp hs ?_ (fun x=>?_)
 ·exact List.pairwise_map.2 ((rise_nodup (serK_rise L)).imp (fun {a b} hne h=>hne (toL_inj h)))
 ·have hh:=Go.Maps.has_setOf (H:=Unit) (.agg []) (.string x) (L.map litT) (litT_key L)
  have hh:Go.Maps.has (setT L) (.string x)=(L.map litT).any (fun y=>y.sameKey (.string x)):=hh;rw [← e,hh,List.any_eq_true,List.mem_map];constructor
  ·rintro ⟨t,ht,rfl⟩
   exact ⟨litT t,List.mem_map.2 ⟨t,mem_serK.1 ht,rfl⟩,by simp [litT,Lit.sameKey]⟩
  ·rintro ⟨y,hy,hs⟩
   obtain ⟨t,ht,rfl⟩:=List.mem_map.1 hy;exact ⟨t,mem_serK.2 ht,by simpa [litT,Lit.sameKey] using hs⟩
theorem keys_sorted {L:List ByteArray} (hk:∃ es,setT L=.map es∧∀ p∈es,∃ x,p.1=Lit.string x) {ss:List (List UInt8)} (h:ss.Perm (Go.strKeys (setT L))) :
  ss.mergeSort (fun x y=>decide (x≤y))=(serK L).map toL∧ss.length=(serK L).length∧Go.Maps.size (setT L)=(serK L).length:=by
 have hp:=h.trans (keys_perm L hk).symm;have hl:=hp.length_eq;rw [List.length_map] at hl;refine ⟨?_,hl,?_⟩
 ·have e:=Go.mergeSort_of_perm hp
  have e2:((serK L).map toL).mergeSort Go.leB=(serK L).map toL:=by
   refine List.mergeSort_of_pairwise ?_;refine List.pairwise_map.2 ((serK_rise L).imp (fun {a b} hab=>?_));rw [lt_toL] at hab;have hab:=of_decide_eq_true hab;exact decide_eq_true (List.le_of_lt hab)
  exact e.trans e2
 ·have h2:=(keys_perm L hk).length_eq
  rw [List.length_map] at h2;rw [h2];obtain ⟨es,e,_⟩:=hk;rw [e];simp [Go.Maps.size,Go.strKeys]
def joinT (K:List ByteArray):List UInt8:=Lib.join (K.map toL) [44]
theorem joinT_nil:joinT []=[]:=rfl
theorem joinT_one (x:ByteArray):joinT [x]=toL x:=Lib.join_one _ _
theorem tail_snoc (sep:List UInt8) (r:List (List UInt8)) (x:List UInt8):Lib.joinTail sep (r ++ [x])=Lib.joinTail sep r ++ (sep ++ x):=by simp [Lib.joinTail]
theorem joinT_snoc {K:List ByteArray} (h:K≠[]) (x:ByteArray):joinT (K ++ [x])=joinT K ++ [44] ++ toL x:=by
 cases K with
 | nil=>exact absurd rfl h
 | cons y r=>
  unfold joinT;rw [List.cons_append,List.map_cons,List.map_cons,Lib.join_cons,Lib.join_cons,List.map_append,List.map_cons,List.map_nil,tail_snoc];simp
theorem joinT_len {m:Nat}:∀ {K:List ByteArray},(∀ x∈K,x.size≤m)→(joinT K).length≤K.length*(m+1):=by
 have ht:∀ r:List ByteArray,(∀ x∈r,x.size≤m)→(Lib.joinTail [44] (r.map toL)).length≤r.length*(m+1):=by
  intro r
  induction r with
  | nil=>intro _;simp [Lib.joinTail]
  | cons y r ih=>
   intro h;have h1:=h y List.mem_cons_self;have h2:=ih (fun x hx=>h x (List.mem_cons_of_mem _ hx));have e:Lib.joinTail [44] ((y :: r).map toL)=44 :: toL y ++ Lib.joinTail [44] (r.map toL):=by simp [Lib.joinTail]
   rw [e];simp only [List.length_append,List.length_cons,toL_len,Nat.add_mul];omega
 intro K h
 cases K with
 | nil=>simp [joinT,Lib.join]
 | cons y r=>
  have h1:=h y List.mem_cons_self;have h2:=ht r (fun x hx=>h x (List.mem_cons_of_mem _ hx));unfold joinT;rw [List.map_cons,Lib.join_cons];simp only [List.length_append,List.length_cons,toL_len,Nat.add_mul];omega
def headT (name:ByteArray) (K:List ByteArray):List UInt8:=toL name ++ [123] ++ joinT K
def serT (name:ByteArray) (K:List ByteArray):ByteArray:=⟨(headT name K ++ [125]).toArray⟩
theorem serT_size (name:ByteArray) (K:List ByteArray):(serT name K).size=name.size+(joinT K).length+2:=by
 rw [← toL_len,serT,toL_mk];simp [headT,toL_len];omega
def serF (name:ByteArray) (L:List ByteArray):ByteArray:=if 8<(serK L).length∨100<(serT name (serK L)).size then ByteArray.empty else serT name (serK L)
def StrsAt (w:World) (ao:Option Addr) (L:List ByteArray):Prop:=
 0<L.length→∃ b off,ao=some ⟨b,off,none⟩∧∀ i u,L[i]?=some u→w.cell? ⟨b,off+i,none⟩=some (.string u)
theorem strs_past {w w':World} {ao:Option Addr} {L:List ByteArray} (h:StrsAt w ao L) (hb:Below w.heap.size w w'):StrsAt w' ao L:=fun h0=>by
 obtain ⟨b,off,e,hc⟩:=h h0;exact ⟨b,off,e,fun i u hi=>cell_past hb (hc i u hi)⟩
theorem strs_owned {w:World} {B g cap:Nat} {L:List ByteArray} (h:w.ownsRow B 9 1 (.slice (some ⟨g,0,none⟩) L.length cap) L.length (L.map Value.string)):StrsAt w (some ⟨g,0,none⟩) L:=fun _=>
 ⟨g,0,rfl,fun i u hi=>by
  have hl:=(List.getElem?_eq_some_iff.1 hi).1;rw [Nat.zero_add,h.cellAt i (by omega)];simp [hi]⟩
def fillL (xs:List Value) (z:Value) (k:Nat):List Value:=xs.take k ++ List.replicate (xs.length - k) z
theorem infoStr:(Tryz.prog.info? 9).map (fun i=>(i.zero,i.size,i.bytes))=some (some (.string ByteArray.empty),1,16):=by kernel_rfl
def letB (c:Int):Bool:=decide (97≤c) && decide (c≤122)
def digB (c:Int):Bool:=decide (48≤c) && decide (c≤57)
def nmB (c:Int):Bool:=letB c || digB c || c == 95 || c == 46
def allB (s:ByteArray):Nat→Bool
 | 0=>true
 | n+1=>allB s n && nmB (bt s n)
def nameB (s:ByteArray):Bool:=decide (1≤s.size) && decide (s.size≤40) && letB (bt s 0) && allB s s.size
theorem ret_bool {a b:Bool} (h:a=b):Ending.returned (.bool a)=.returned (.bool b):=by rw [h]
theorem allB_le {s:ByteArray} {k:Nat} (h:nmB (bt s k)=false):∀ n,k<n→allB s n=false
 | 0,hk=>by omega
 | n+1,hk=>by
  unfold allB;by_cases e:k=n
  ·subst e;rw [h];simp
  ·rw [allB_le h n (by omega)];simp
theorem c_isLetter (c:Int) (w:World) :
  Calls Tryz.prog 122 #[.int .u8 c] w fun e w'=>e=.returned (.bool (letB c))∧w'=w:=by
 by_cases h1:97≤c <;> by_cases h2:c≤122 <;> (go_enter Tryz.func122,Tryz.ntmps122;go_wp2;go_ret;exact ⟨by simp [letB,h1,h2],rfl⟩)
theorem c_isDigit (c:Int) (w:World) :
  Calls Tryz.prog 165 #[.int .u8 c] w fun e w'=>e=.returned (.bool (digB c))∧w'=w:=by
 by_cases h1:48≤c <;> by_cases h2:c≤57 <;> (go_enter Tryz.func165,Tryz.ntmps165;go_wp2;go_ret;exact ⟨by simp [digB,h1,h2],rfl⟩)
theorem c_nameByte (c:Int) (w:World) :
  Calls Tryz.prog 123 #[.int .u8 c] w fun e w'=>e=.returned (.bool (nmB c))∧w'=w:=by
 cases h1:letB c <;> cases h2:digB c <;> by_cases h3:c=95 <;> by_cases h4:c=46 <;>
 ·go_enter Tryz.func123,Tryz.ntmps123
  go_wp2_with (first
   | (go_at_call 122;refine (c_isLetter _ _).mono ?_;rintro e w1 ⟨rfl,rfl⟩)
   | (go_at_call 165;refine (c_isDigit _ _).mono ?_;rintro e w1 ⟨rfl,rfl⟩))
  all_goals (go_ret;exact ⟨by simp [nmB,h1,h2,h3,h4],rfl⟩)
set_option maxHeartbeats 1000000 in
theorem c_i_NameRight (s:ByteArray) (w:World) (hs:s.size≤maxLen) :
  Calls Tryz.prog 95 #[.string s] w fun e w'=>e=.returned (.bool (nameB s))∧w'=w:=by
 unfold maxLen at hs;have hbt:=get_bt s;by_cases h0:s.size<1
 ·have HN:Hid (nameB s=false):=(by unfold nameB;rw [show decide (1≤s.size)=false from decide_eq_false (by omega)];rfl:nameB s=false)
  have hi:((s.size:Int)<1):=by omega
  go_enter Tryz.func95,Tryz.ntmps95;go_wp2;go_ret;exact ⟨ret_bool HN.out.symm,rfl⟩
 ·by_cases h1:40<s.size
  ·have HN:Hid (nameB s=false):=(by unfold nameB;rw [show decide (s.size≤40)=false from decide_eq_false (by omega)];simp:nameB s=false)
   have hi:¬ ((s.size:Int)<1):=by omega
   have hj:(40:Int)<(s.size:Int):=by omega
   go_enter Tryz.func95,Tryz.ntmps95;go_wp2;go_ret;exact ⟨ret_bool HN.out.symm,rfl⟩
  ·have hi:¬ ((s.size:Int)<1):=by omega
   have hj:¬ (40:Int)<(s.size:Int):=by omega
   have hp:(0:Int)<(s.size:Int):=by omega
   cases hl:letB (bt s 0)
   ·have HN:Hid (nameB s=false):=(by unfold nameB;rw [hl];simp:nameB s=false)
    go_enter Tryz.func95,Tryz.ntmps95;go_wp2_with (go_at_call 122;refine (c_isLetter _ _).mono ?_;rintro e w1 ⟨rfl,rfl⟩);go_ret;exact ⟨ret_bool HN.out.symm,rfl⟩
   ·have HN:Hid (nameB s=allB s s.size):=(by unfold nameB;rw [hl,show decide (1≤s.size)=true from decide_eq_true (by omega),show decide (s.size≤40)=true from decide_eq_true (by omega)];rfl:nameB s=allB s s.size)
    go_enter Tryz.func95,Tryz.ntmps95;go_wp2_with (go_at_call 122;refine (c_isLetter _ _).mono ?_;rintro e w1 ⟨rfl,rfl⟩)
    go_loop [20,3] (fun i _=>∃ k:Nat,k≤s.size∧i=.int .i64 k∧allB s k=true) (fun i _=>s.size - (Go.RowKit.intOf i).toNat)
    case atStart=>exact ⟨0,Nat.zero_le _,rfl,rfl⟩
    case round=>
     obtain ⟨k,hk,rfl,ha⟩:=hrel;have HA:Hid (allB s k=true):=ha;clear ha;by_cases hlt:k<s.size
     ·cases hn:nmB (bt s k)
      ·have HB:Hid (allB s s.size=false):=allB_le hn _ hlt
       go_wp2_with (go_at_call 123;refine (c_nameByte _ _).mono ?_;rintro e w1 ⟨rfl,rfl⟩);go_ret;exact ⟨ret_bool (HN.out.trans HB.out).symm,rfl⟩
      ·have HB:Hid (allB s (k+1)=true):=(by unfold allB;rw [HA.out,hn];rfl:allB s (k+1)=true)
       go_wp2_with (go_at_call 123;refine (c_nameByte _ _).mono ?_;rintro e w1 ⟨rfl,rfl⟩)
       go_round
       case rel=>exact ⟨k+1,by omega,by go_num,HB.out⟩
       case measure=>simp [Go.RowKit.intOf];omega
     ·have e:k=s.size:=by omega
      have HB:Hid (allB s s.size=true):=(by rw [← e];exact HA.out:allB s s.size=true);clear e;go_wp2;go_ret;exact ⟨ret_bool (HN.out.trans HB.out).symm,rfl⟩
theorem letB_t {c:Int} (h:97≤c) (k:c≤122):letB c=true:=by simp [letB,h,k]
theorem letB_f {c:Int} (h:c<97∨122<c):letB c=false:=by
 unfold letB;rcases h with h | h
 ·rw [show decide (97≤c)=false from decide_eq_false (by omega)];rfl
 ·rw [show decide (c≤122)=false from decide_eq_false (by omega)];simp
theorem digB_t {c:Int} (h:48≤c) (k:c≤57):digB c=true:=by simp [digB,h,k]
theorem digB_f {c:Int} (h:c<48∨57<c):digB c=false:=by
 unfold digB;rcases h with h | h
 ·rw [show decide (48≤c)=false from decide_eq_false (by omega)];rfl
 ·rw [show decide (c≤57)=false from decide_eq_false (by omega)];simp
theorem nmB_cases (c:Int):(97≤c∧c≤122)∨((c<97∨122<c)∧((48≤c∧c≤57)∨c=95∨c=46∨((c<48∨57<c)∧(c == 95)=false∧(c == 46)=false))):=by
 by_cases a:97≤c∧c≤122
 ·exact .inl a
 ·refine .inr ⟨by omega,?_⟩
  by_cases b:48≤c∧c≤57
  ·exact .inl b
  ·by_cases d:c=95
   ·exact .inr (.inl d)
   ·by_cases e:c=46
    ·exact .inr (.inr (.inl e))
    ·exact .inr (.inr (.inr ⟨by omega,by simpa using d,by simpa using e⟩))
theorem nmB_l {c:Int} (h:letB c=true):nmB c=true:=by simp [nmB,h]
theorem nmB_d {c:Int} (h:digB c=true):nmB c=true:=by simp [nmB,h]
theorem nmB_95:nmB 95=true:=by decide
theorem nmB_46:nmB 46=true:=by decide
theorem nmB_n {c:Int} (h:letB c=false) (k:digB c=false) (d:(c == 95)=false) (e:(c == 46)=false):nmB c=false:=by simp [nmB,h,k,d,e]
theorem nameB_f0 {s:ByteArray} (h:letB (bt s 0)=false):nameB s=false:=by unfold nameB;rw [h];simp
theorem nameB_f {s:ByteArray} {k:Nat} (hk:k<s.size) (h:nmB (bt s k)=false):nameB s=false:=by unfold nameB;rw [allB_le h _ hk];simp
theorem nameB_t {s:ByteArray} (h1:¬ s.size<1) (h2:¬ 40<s.size) (hl:letB (bt s 0)=true) (ha:allB s s.size=true):nameB s=true:=by
 unfold nameB;rw [hl,ha,show decide (1≤s.size)=true from decide_eq_true (by omega),show decide (s.size≤40)=true from decide_eq_true (by omega)];rfl
theorem allB_succ {s:ByteArray} {k:Nat} (h:allB s k=true) (hn:nmB (bt s k)=true):allB s (k+1)=true:=by unfold allB;rw [h,hn];rfl
set_option maxHeartbeats 1000000 in
theorem c_s_NameRight (s:ByteArray) (w:World) (hs:s.size≤maxLen) :
  Calls Tryz.prog 64 #[.string s] w fun e w'=>e=.returned (.bool (nameB s))∧w'=w:=by
 unfold maxLen at hs;have hbt:=get_bt s;by_cases h0:s.size<1
 ·have HN:Hid (nameB s=false):=(by unfold nameB;rw [show decide (1≤s.size)=false from decide_eq_false (by omega)];rfl:nameB s=false)
  have hi:((s.size:Int)<1):=by omega
  go_enter Tryz.func64,Tryz.ntmps64;go_wp2;go_ret;exact ⟨ret_bool HN.out.symm,rfl⟩
 ·have hi:¬ ((s.size:Int)<1):=by omega
  by_cases h1:40<s.size
  ·have HN:Hid (nameB s=false):=(by unfold nameB;rw [show decide (s.size≤40)=false from decide_eq_false (by omega)];simp:nameB s=false)
   have hj:(40:Int)<(s.size:Int):=by omega
   go_enter Tryz.func64,Tryz.ntmps64;go_wp2;go_ret;exact ⟨ret_bool HN.out.symm,rfl⟩
  ·have hj:¬ (40:Int)<(s.size:Int):=by omega
   go_enter Tryz.func64,Tryz.ntmps64;go_wp2
   go_loop [3,4] (fun i _=>∃ k:Nat,k≤s.size∧i=.int .i64 k∧allB s k=true∧(k=0∨letB (bt s 0)=true)) (fun i _=>s.size - (Go.RowKit.intOf i).toNat)
   case atStart=>exact ⟨0,Nat.zero_le _,rfl,rfl,.inl rfl⟩
   case round=>
    obtain ⟨k,hk,rfl,ha,hl⟩:=hrel;have HA:Hid (allB s k=true):=ha;have HL:Hid (k=0∨letB (bt s 0)=true):=hl;clear ha hl;by_cases hlt:k<s.size
    ·rcases nmB_cases (bt s k) with ⟨c1,c2⟩ | ⟨hno,hrest⟩
     ·have HB:Hid (letB (bt s k)=true):=letB_t c1 c2
      go_wp2
      go_round
      case rel=>exact ⟨k+1,by omega,by go_num,allB_succ HA.out (nmB_l HB.out),.inr (by rcases HL.out with rfl | h;exact HB.out;exact h)⟩
      case measure=>simp [Go.RowKit.intOf];omega
     ·have HB:Hid (letB (bt s k)=false):=letB_f hno
      rcases Nat.eq_zero_or_pos k with rfl | hpos
      ·clear hrest
       have g2:122<bt s 0→(decide (bt s 0≤122)=false∧97≤bt s 0):=fun h=>⟨decide_eq_false (by omega),by omega⟩;rcases hno with hno | hno
       ·clear g2
        go_wp2;go_ret;exact ⟨ret_bool (nameB_f0 HB.out).symm,rfl⟩
       ·obtain ⟨g3,g4⟩:=g2 hno
        clear g2;go_wp2;go_ret;exact ⟨ret_bool (nameB_f0 HB.out).symm,rfl⟩
      ·have HL1:Hid (letB (bt s 0)=true):=by rcases HL.out with h | h;omega;exact h
       have hk0:((k:Int) == 0)=false:=by simp;omega
       rcases hrest with ⟨d1,d2⟩ | he | he | ⟨hd,e1,e2⟩
       ·have HD:Hid (digB (bt s k)=true):=digB_t d1 d2
        clear hno;go_wp2
        go_round
        case rel=>exact ⟨k+1,by omega,by go_num,allB_succ HA.out (nmB_d HD.out),.inr HL1.out⟩
        case measure=>simp [Go.RowKit.intOf];omega
       ·have HD:Hid (nmB (bt s k)=true):=(by rw [he];exact nmB_95:nmB (bt s k)=true)
        clear hno;go_wp2
        go_round
        case rel=>exact ⟨k+1,by omega,by go_num,allB_succ HA.out HD.out,.inr HL1.out⟩
        case measure=>simp [Go.RowKit.intOf];omega
       ·have HD:Hid (nmB (bt s k)=true):=(by rw [he];exact nmB_46:nmB (bt s k)=true)
        clear hno;go_wp2
        go_round
        case rel=>exact ⟨k+1,by omega,by go_num,allB_succ HA.out HD.out,.inr HL1.out⟩
        case measure=>simp [Go.RowKit.intOf];omega
       ·have HD:Hid (nmB (bt s k)=false):=nmB_n HB.out (digB_f hd) e1 e2
        have g1:(bt s k<97∧bt s k<48)∨(bt s k<97∧48≤bt s k∧decide (bt s k≤57)=false)∨(97≤bt s k∧decide (bt s k≤122)=false∧48≤bt s k∧decide (bt s k≤57)=false):=by
         simp only [decide_eq_false_iff_not];omega
        have n1:(bt s k != 95)=true:=by simpa using e1
        have n2:(bt s k != 46)=true:=by simpa using e2
        have n3:¬ bt s k=95:=by simpa using e1
        have n4:¬ bt s k=46:=by simpa using e2
        clear hno hd e1 e2;rcases g1 with ⟨g1,g2⟩ | ⟨g1,g2,g3⟩ | ⟨g1,g2,g3,g4⟩
        all_goals
         go_wp2;go_ret;exact ⟨ret_bool (nameB_f hlt HD.out).symm,rfl⟩
    ·have e:k=s.size:=by omega
     have HB:Hid (nameB s=true):=by
      subst e;refine nameB_t h0 h1 ?_ HA.out;rcases HL.out with h | h
      ·omega
      ·exact h
     clear e;go_wp2;go_ret;exact ⟨ret_bool HB.out.symm,rfl⟩
def tgB (c:Int):Bool:=nmB c || c == 45 || c == 58
def allT (s:ByteArray):Nat→Bool
 | 0=>true
 | n+1=>allT s n && tgB (bt s n)
def tagB (s:ByteArray):Bool:=decide (1≤s.size) && decide (s.size≤20) && allT s s.size
theorem allT_le {s:ByteArray} {k:Nat} (h:tgB (bt s k)=false):∀ n,k<n→allT s n=false
 | 0,hk=>by omega
 | n+1,hk=>by
  unfold allT;by_cases e:k=n
  ·subst e;rw [h];simp
  ·rw [allT_le h n (by omega)];simp
theorem allT_succ {s:ByteArray} {k:Nat} (h:allT s k=true) (hn:tgB (bt s k)=true):allT s (k+1)=true:=by unfold allT;rw [h,hn];rfl
theorem tagB_f {s:ByteArray} {k:Nat} (hk:k<s.size) (h:tgB (bt s k)=false):tagB s=false:=by unfold tagB;rw [allT_le h _ hk];simp
theorem tagB_f0 {s:ByteArray} (h:s.size<1):tagB s=false:=by unfold tagB;rw [show decide (1≤s.size)=false from decide_eq_false (by omega)];rfl
theorem tagB_f1 {s:ByteArray} (h:20<s.size):tagB s=false:=by unfold tagB;rw [show decide (s.size≤20)=false from decide_eq_false (by omega)];simp
theorem tagB_t {s:ByteArray} (h1:¬ s.size<1) (h2:¬ 20<s.size) (ha:allT s s.size=true):tagB s=true:=by
 unfold tagB;rw [ha,show decide (1≤s.size)=true from decide_eq_true (by omega),show decide (s.size≤20)=true from decide_eq_true (by omega)];rfl
theorem tgB_45:tgB 45=true:=by decide
theorem tgB_58:tgB 58=true:=by decide
theorem tgB_n {c:Int} (h:nmB c=true):tgB c=true:=by simp [tgB,h]
theorem tgB_f {c:Int} (h:nmB c=false) (a:c≠45) (b:c≠58):tgB c=false:=by simp [tgB,h,a,b]
set_option maxHeartbeats 1000000 in
theorem c_i_TagRight (s:ByteArray) (w:World) (hs:s.size≤maxLen) :
  Calls Tryz.prog 231 #[.string s] w fun e w'=>e=.returned (.bool (tagB s))∧w'=w:=by
 unfold maxLen at hs;have hbt:=get_bt s;by_cases h0:s.size<1
 ·have HN:Hid (tagB s=false):=tagB_f0 h0
  have hi:((s.size:Int)<1):=by omega
  go_enter Tryz.func231,Tryz.ntmps231;go_wp2;go_ret;exact ⟨ret_bool HN.out.symm,rfl⟩
 ·by_cases h1:20<s.size
  ·have HN:Hid (tagB s=false):=tagB_f1 h1
   have hi:¬ ((s.size:Int)<1):=by omega
   have hj:(20:Int)<(s.size:Int):=by omega
   go_enter Tryz.func231,Tryz.ntmps231;go_wp2;go_ret;exact ⟨ret_bool HN.out.symm,rfl⟩
  ·have hi:¬ ((s.size:Int)<1):=by omega
   have hj:¬ (20:Int)<(s.size:Int):=by omega
   go_enter Tryz.func231,Tryz.ntmps231;go_wp2
   go_loop [14,2] (fun i _=>∃ k:Nat,k≤s.size∧i=.int .i64 k∧allT s k=true) (fun i _=>s.size - (Go.RowKit.intOf i).toNat)
   case atStart=>exact ⟨0,Nat.zero_le _,rfl,rfl⟩
   case round=>
    obtain ⟨k,hk,rfl,ha⟩:=hrel;have HA:Hid (allT s k=true):=ha;clear ha;by_cases hlt:k<s.size
    ·cases hn:nmB (bt s k)
     ·by_cases e1:bt s k=45
      ·have HB:Hid (allT s (k+1)=true):=allT_succ HA.out (by rw [e1];exact tgB_45)
       go_wp2_with (go_at_call 123;refine (c_nameByte _ _).mono ?_;rintro e w1 ⟨rfl,rfl⟩)
       go_round
       case rel=>exact ⟨k+1,by omega,by go_num,HB.out⟩
       case measure=>simp [Go.RowKit.intOf];omega
      ·by_cases e2:bt s k=58
       ·have HB:Hid (allT s (k+1)=true):=allT_succ HA.out (by rw [e2];exact tgB_58)
        go_wp2_with (go_at_call 123;refine (c_nameByte _ _).mono ?_;rintro e w1 ⟨rfl,rfl⟩)
        go_round
        case rel=>exact ⟨k+1,by omega,by go_num,HB.out⟩
        case measure=>simp [Go.RowKit.intOf];omega
       ·have HB:Hid (tagB s=false):=tagB_f hlt (tgB_f hn e1 e2)
        have n1:(bt s k != 45)=true:=by simpa using e1
        have n2:(bt s k != 58)=true:=by simpa using e2
        go_wp2_with (go_at_call 123;refine (c_nameByte _ _).mono ?_;rintro e w1 ⟨rfl,rfl⟩);go_ret;exact ⟨ret_bool HB.out.symm,rfl⟩
     ·have HB:Hid (allT s (k+1)=true):=allT_succ HA.out (tgB_n hn)
      go_wp2_with (go_at_call 123;refine (c_nameByte _ _).mono ?_;rintro e w1 ⟨rfl,rfl⟩)
      go_round
      case rel=>exact ⟨k+1,by omega,by go_num,HB.out⟩
      case measure=>simp [Go.RowKit.intOf];omega
    ·have e:k=s.size:=by omega
     have HB:Hid (tagB s=true):=tagB_t h0 h1 (by rw [← e];exact HA.out);clear e;go_wp2;go_ret;exact ⟨ret_bool HB.out.symm,rfl⟩
theorem tg_cases (c:Int):(97≤c∧c≤122∧tgB c=true)∨((c<97∨122<c)∧((48≤c∧c≤58∧tgB c=true)∨(c=95∧tgB c=true)∨(c=46∧tgB c=true)∨(c=45∧tgB c=true)∨((c<48∨58<c)∧c≠95∧c≠46∧c≠45∧tgB c=false))):=by
 by_cases a:97≤c∧c≤122
 ·exact .inl ⟨a.1,a.2,tgB_n (nmB_l (letB_t a.1 a.2))⟩
 ·have hl:letB c=false:=letB_f (by omega)
  refine .inr ⟨by omega,?_⟩;by_cases b:48≤c∧c≤58
  ·refine .inl ⟨b.1,b.2,?_⟩
   by_cases b2:c=58
   ·rw [b2];exact tgB_58
   ·exact tgB_n (nmB_d (digB_t b.1 (by omega)))
  ·by_cases d:c=95
   ·exact .inr (.inl ⟨d,by rw [d];decide⟩)
   ·by_cases e:c=46
    ·exact .inr (.inr (.inl ⟨e,by rw [e];decide⟩))
    ·by_cases f:c=45
     ·exact .inr (.inr (.inr (.inl ⟨f,by rw [f];decide⟩)))
     ·exact .inr (.inr (.inr (.inr ⟨by omega,d,e,f,tgB_f (nmB_n hl (digB_f (by omega)) (by simpa using d) (by simpa using e)) f (by omega)⟩)))
set_option maxHeartbeats 1000000 in
theorem c_s_TagRight (s:ByteArray) (w:World) (hs:s.size≤maxLen) :
  Calls Tryz.prog 198 #[.string s] w fun e w'=>e=.returned (.bool (tagB s))∧w'=w:=by
 unfold maxLen at hs;have hbt:=get_bt s;go_enter Tryz.func198,Tryz.ntmps198;go_wp2
 go_loop [3,4] (fun i _=>∃ k:Nat,k≤s.size∧i=.int .i64 k∧allT s k=true) (fun i _=>s.size - (Go.RowKit.intOf i).toNat)
 case atStart=>exact ⟨0,Nat.zero_le _,rfl,rfl⟩
 case round=>
  obtain ⟨k,hk,rfl,ha⟩:=hrel;have HA:Hid (allT s k=true):=ha;clear ha;by_cases hlt:k<s.size
  ·rcases tg_cases (bt s k) with ⟨c1,c2,hn⟩ | ⟨hno,hrest⟩
   ·have HB:Hid (allT s (k+1)=true):=allT_succ HA.out hn
    clear hn;go_wp2
    go_round
    case rel=>exact ⟨k+1,by omega,by go_num,HB.out⟩
    case measure=>simp [Go.RowKit.intOf];omega
   ·rcases hrest with ⟨d1,d2,hn⟩ | ⟨he,hn⟩ | ⟨he,hn⟩ | ⟨he,hn⟩ | ⟨hd,e1,e2,e3,hn⟩
    ·have HB:Hid (allT s (k+1)=true):=allT_succ HA.out hn
     clear hn hno;go_wp2
     go_round
     case rel=>exact ⟨k+1,by omega,by go_num,HB.out⟩
     case measure=>simp [Go.RowKit.intOf];omega
    ·have HB:Hid (allT s (k+1)=true):=allT_succ HA.out hn
     clear hn hno;go_wp2
     go_round
     case rel=>exact ⟨k+1,by omega,by go_num,HB.out⟩
     case measure=>simp [Go.RowKit.intOf];omega
    ·have HB:Hid (allT s (k+1)=true):=allT_succ HA.out hn
     clear hn hno;go_wp2
     go_round
     case rel=>exact ⟨k+1,by omega,by go_num,HB.out⟩
     case measure=>simp [Go.RowKit.intOf];omega
    ·have HB:Hid (allT s (k+1)=true):=allT_succ HA.out hn
     clear hn hno;go_wp2
     go_round
     case rel=>exact ⟨k+1,by omega,by go_num,HB.out⟩
     case measure=>simp [Go.RowKit.intOf];omega
    ·have HD:Hid (tagB s=false):=tagB_f hlt hn
     have g1:(bt s k<97∧bt s k<48)∨(bt s k<97∧48≤bt s k∧decide (bt s k≤58)=false)∨(97≤bt s k∧decide (bt s k≤122)=false∧48≤bt s k∧decide (bt s k≤58)=false):=by
      simp only [decide_eq_false_iff_not];omega
     have n3:¬ bt s k=95:=e1;have n4:¬ bt s k=46:=e2;have n5:¬ bt s k=45:=e3;have m1:(bt s k == 95)=false:=by simpa using e1
     have m2:(bt s k == 46)=false:=by simpa using e2
     have m3:(bt s k == 45)=false:=by simpa using e3
     clear hno hd hn e1 e2 e3;rcases g1 with ⟨g1,g2⟩ | ⟨g1,g2,g3⟩ | ⟨g1,g2,g3,g4⟩
     all_goals
      go_wp2;go_ret;exact ⟨ret_bool HD.out.symm,rfl⟩
  ·have e:k=s.size:=by omega
   by_cases h0:s.size<1
   ·have HB:Hid (tagB s=false):=tagB_f0 h0
    have hi:¬ (1:Int)≤(s.size:Int):=by omega
    clear e;go_wp2;go_ret;exact ⟨ret_bool HB.out.symm,rfl⟩
   ·have hi:(1:Int)≤(s.size:Int):=by omega
    by_cases h1:20<s.size
    ·have HB:Hid (tagB s=false):=tagB_f1 h1
     have hj:¬ (s.size:Int)≤20:=by omega
     clear e;go_wp2;go_ret;exact ⟨ret_bool HB.out.symm,rfl⟩
    ·have HB:Hid (tagB s=true):=tagB_t h0 h1 (by rw [← e];exact HA.out)
     have hj:(s.size:Int)≤20:=by omega
     clear e;go_wp2;go_ret;exact ⟨ret_bool HB.out.symm,rfl⟩
theorem wpList_append_nilH {P:Program} (w:World) {ops:Array Oper} {rest:List Oper} {o:Oper} {a:Act} {Q:Exit→Act→World→Prop} (hgd:o.guard=none) (s x:Operand) (t:TypeId)
  (ho:o.op=.call { callee:=.builtin .append,args:=#[s,x],argTypes:=#[t,t] })
  (base:Nat) (e:TypeId) (i:TypeInfo) (z:Value) (size bytes:Nat) (ht:P.underlying t=some (.slice e)) (hi:P.info? e=some i) (hz:i.zero=some z)
  (hsize:i.size=size) (hby:i.bytes=bytes) (hzs:z.cells.size=size) (hsz:0<size)
  (v:Value) (n:Nat) (xs:List Value) (hs:a.eval s=v) (hown:w.ownsRow base e size v n xs)
  (xo:Option Addr) (m c:Nat) (news:List Value) (hx:a.eval x=.slice xo m c) (hl:news.length=m*size) (hno:xo=none→m=0∧c=0) (hnews:∀ ad,xo=some ad→∀ j u,news[j]?=some u→w.cell? (ad.add j)=some u) (h1:∀ u∈news,u.oneCell'=true)
  (h63:n+m≤maxLen) (hbytes:(n+m)*bytes≤140737488355328) (hbase:base≤w.heap.size)
  (h:∀ v' w',w'.ownsRow base e size v' (n+m) (xs ++ news)→w.grownBy w' v.ownBlock→(v'=.slice none 0 0↔v=.slice none 0 0∧m=0)→wpList P ops Q rest (a.put o.dst v') w'):wpList P ops Q (o :: rest) a w:=by
 cases xo with
 | some ad=>exact wpList_append_own w hgd s x t ho base e i z size bytes ht hi hz hsize hby hzs hsz v n xs hs hown ad m c news hx hl (hnews ad rfl) h1 h63 hbytes hbase h
 | none=>
  obtain ⟨rfl,rfl⟩:=hno rfl;obtain rfl:news=[]:=List.eq_nil_of_length_eq_zero (by rw [hl,Nat.zero_mul]);refine wpList_plain hgd fun _ hK=>?_;have hr:=run_append_owned_none (P:=P) (w:=w) base t o.type e i size ht hi v n xs hown;unfold Oper.wp execOp;simp only [ho,resolve,invoke,builtin,Sem.run_bind,Sem.run_pure,Result.andThen_ok,List.map_toArray,List.map_cons,List.map_nil,hs,hx,hr];exact hK _ _ (h v w (by rw [Nat.add_zero,List.append_nil];exact hown) (World.grownBy.refl _ _) (by simp))
theorem op_lssH (t:TypeId) (a b:ByteArray):binOp .lss t (.string a) (.string b)=pure (.bool (strLt a b)):=by simp [binOp,Op.stringOp,strLt]
set_option maxRecDepth 10000
def OwnT (w:World) (B:Nat) (v:Value) (L:List ByteArray):Prop:=w.ownsRow B 9 1 v L.length (L.map Value.string)
theorem OwnT.past {w w':World} {B:Nat} {v:Value} {L:List ByteArray} (h:OwnT w B v L) (hb:Below w.heap.size w w'):OwnT w' B v L:=own_past h hb
theorem OwnT.at {w:World} {B n c:Nat} {ao:Option Addr} {L:List ByteArray} (h:OwnT w B (.slice ao n c) L):StrsAt w ao L:=fun h0=>by
 rcases h.2 with ⟨e,h1⟩ | ⟨g,cap,cur,e,_⟩
 ·omega
 ·cases e
  exact strs_owned h h0
theorem OwnT.cap {w:World} {B n c:Nat} {ao:Option Addr} {L:List ByteArray} (h:OwnT w B (.slice ao n c) L):n=L.length∧n≤c∧c≤maxLen∧(ao=none→c=0):=by
 rcases h.2 with ⟨e,h1⟩ | ⟨g,cap,cur,e,_,_,h2,h3,_⟩
 ·cases e;exact ⟨h1.symm,Nat.le_refl _,Nat.zero_le _,fun _=>rfl⟩
 ·cases e;exact ⟨rfl,h2,h3,fun e=>by cases e⟩
theorem strs_list {w:World} {A:Addr} {L:List ByteArray} (h:StrsAt w (some A) L):∀ j u,(L.map Value.string)[j]?=some u→w.cell? (A.add j)=some u:=fun j u hj=>by
 rw [List.getElem?_map] at hj
 cases hx:L[j]? with
 | none=>rw [hx] at hj;cases hj
 | some x=>
  rw [hx] at hj;obtain rfl:=Option.some.inj hj;obtain ⟨b,off,e,hc⟩:=h (by have:=(List.getElem?_eq_some_iff.1 hx).1;omega)
  cases e
  have:=hc j x hx
  rwa [show (⟨b,off,none⟩:Addr).add j=⟨b,off+j,none⟩ from by unfold Addr.add;split <;> simp_all]
theorem strs_take {w:World} {ao:Option Addr} {L:List ByteArray} (k:Nat) (h:StrsAt w ao L):StrsAt w ao (L.take k):=fun h0=>by
 obtain ⟨b',off',e,hc⟩:=h (by rw [List.length_take] at h0;omega);exact ⟨b',off',e,fun i x hx=>hc i x (by rw [List.getElem?_take] at hx;split at hx;exact hx;cases hx)⟩
theorem strs_drop {w:World} {b off:Nat} {L:List ByteArray} (k:Nat) (h:StrsAt w (some ⟨b,off,none⟩) L):StrsAt w (some ⟨b,off+k,none⟩) (L.drop k):=fun h0=>by
 obtain ⟨b',off',e,hc⟩:=h (by rw [List.length_drop] at h0;omega)
 cases e
 exact ⟨b,off+k,rfl,fun i x hx=>by
  rw [List.getElem?_drop] at hx;have:=hc (k+i) x hx
  rwa [Nat.add_assoc]⟩
theorem strs_one (L:List ByteArray):∀ u∈L.map Value.string,u.oneCell'=true:=fun u hu=>by
 obtain ⟨x,_,rfl⟩:=List.mem_map.1 hu;rfl
def FirstT (L:List ByteArray) (p:ByteArray) (k:Nat):Prop:=k≤L.length∧(∀ (t:Nat) (x:ByteArray),L[t]?=some x→t<k→strLt x p=true)∧∀ x,L[k]?=some x→strLt x p=false
theorem firstT_tail {y:ByteArray} {r:List ByteArray} {p:ByteArray} {k:Nat} (h:FirstT (y :: r) p (k+1)):FirstT r p k:=
 ⟨by have:=h.1;simp at this;exact this,fun t x hx ht=>h.2.1 (t+1) x (by simpa using hx) (by omega),fun x hx=>h.2.2 x (by simpa using hx)⟩
theorem ins_eqT {a:ByteArray}:∀ (L:List ByteArray) (k:Nat),FirstT L a k→L[k]?=some a→insT L a=L.take k ++ [a] ++ L.drop (k+1)
 | [],k,_,h=>by simp at h
 | y :: r,0,hp,h=>by
  obtain rfl:y=a:=by simpa using h
  have:strLt y y=false:=strLt_irr y;simp [insT,this]
 | y :: r,k+1,hp,h=>by
  have hy:=hp.2.1 0 y rfl (by omega);rw [insT,if_pos hy,ins_eqT r k (firstT_tail hp) (by simpa using h)];simp
theorem ins_newT {a:ByteArray}:∀ (L:List ByteArray) (k:Nat),FirstT L a k→(∀ x,L[k]?=some x→x≠a)→insT L a=L.take k ++ [a] ++ L.drop k
 | [],k,hp,h=>by have:=hp.1;simp at this;subst this;rfl
 | y :: r,0,hp,h=>by
  have hy:=hp.2.2 y rfl;have hne:y≠a:=h y rfl;rw [insT,if_neg (by rw [hy];decide),if_neg hne];rfl
 | y :: r,k+1,hp,h=>by
  have hy:=hp.2.1 0 y rfl (by omega);rw [insT,if_pos hy,ins_newT r k (firstT_tail hp) (fun x hx=>h x (by simpa using hx))];simp
theorem OwnT.of {w:World} {B n:Nat} {v:Value} {L:List ByteArray} {xs:List Value} (h:w.ownsRow B 9 1 v n xs) (e:xs=L.map Value.string):OwnT w B v L:=by
 have hl:=h.1;subst e;rw [List.length_map,Nat.mul_one] at hl;unfold OwnT;rw [hl];exact h
theorem ownT_any {w:World} {B:Nat} {v:Value} {L:List ByteArray} (h:OwnT w B v L):∃ ao c,v=.slice ao L.length c:=own_any h
set_option maxHeartbeats 4000000 in
theorem c_s_l06Tag {w:World} {n c:Nat} {ao:Option Addr} {L:List ByteArray} (a:ByteArray) (hn:L.length=n) (hl:n≤100000) (hcap:n≤c) (hcm:c≤maxLen) (hno:ao=none→c=0) (hA:StrsAt w ao L) :
  Calls Tryz.prog 67 #[.slice ao n c,.string a] w fun e w'=>∃ v,e=.returned v∧OwnT w' w.heap.size v (insT L a)∧Below w.heap.size w w':=by
 obtain ⟨i0,hi,hz0,hz1,hz2⟩:=info_parts infoStr;have hls:=op_lssH 9;have HA:=hide hA;have HN:=hide hn;have HNo:=hide hno;unfold maxLen at hcm;clear hA hn hno;go_enter Tryz.func67,Tryz.ntmps67;go_wp2
 go_loop [5] (fun i=>∃ k:Nat,k≤n∧i=.int .i64 k∧Hid (∀ (t:Nat) (x:ByteArray),L[t]?=some x→t<k→strLt x a=true)) (fun i=>n - (Go.RowKit.intOf i).toNat)
 case atStart=>exact ⟨0,Nat.zero_le _,rfl,(fun t x _ h=>absurd h (by omega):∀ (t:Nat) (x:ByteArray),L[t]?=some x→t<0→strLt x a=true)⟩
 case round=>
  obtain ⟨k,hk,rfl,HF⟩:=hrel
  have hrest:k<n→∃ b off y,ao=some ⟨b,off,none⟩∧L[k]?=some y∧w.cell? ⟨b,off+k,none⟩=some (.string y):=fun h=>by
   obtain ⟨b,off,e,hcell⟩:=HA.out (by have:=HN.out;omega);obtain ⟨y,hy⟩:∃ y,L[k]?=some y:=⟨L[k]'(by have:=HN.out;omega),List.getElem?_eq_getElem _⟩;exact ⟨b,off,y,e,hy,hcell k y hy⟩
  by_cases hkn:k<n
  ·obtain ⟨b,off,q,rfl,hRk,hc0⟩:=hrest hkn
   cases hlt:strLt q a with
   | true=>
    have HF2:Hid (∀ (t:Nat) (x:ByteArray),L[t]?=some x→t<k+1→strLt x a=true):=(fun t z hz ht=>by
     by_cases e:t=k
     ·subst e;rw [hRk] at hz;obtain rfl:=Option.some.inj hz;exact hlt
     ·exact HF.out t z hz (by omega):∀ (t:Nat) (x:ByteArray),L[t]?=some x→t<k+1→strLt x a=true)
    clear hRk hrest;go_wp2
    go_round
    case rel=>exact ⟨k+1,by omega,by go_num,HF2⟩
    case measure=>simp [Go.RowKit.intOf];omega
   | false=>
    have HK:Hid (FirstT L a k):=(⟨by have:=HN.out;omega,HF.out,fun z hz=>by rw [hRk] at hz;obtain rfl:=Option.some.inj hz;exact hlt⟩:FirstT L a k);have HRk:=hide hRk;clear hRk hrest HF
    cases heq:(q.toList == a.toList) with
    | true=>
     have heq2:a=q:=(str_ext heq).symm;subst heq2;have hw1:IntKind.i64.wrap ((k:Int)+1)=(k:Int)+1:=by rw [IntKind.wrap_i64];omega
     have htn:((k:Int)+1).toNat=k+1:=by omega
     have hb1:(0:Int)≤(k:Int)+1:=by omega
     have hb3:(k:Int)+1≤(n:Int):=by omega
     have HE:Hid (insT L a=L.take k ++ [a] ++ L.drop (k+1)):=ins_eqT L k HK.out HRk.out;by_cases hce:c=k+1
     ·subst hce
      have hn1:n=k+1:=by omega
      have hn0:k+1 - (k+1)=0:=by omega
      subst hn1
      go_wp2_with (first
       | (at_builtin;refine wpList_append_nilH _ rfl (.tmp 21) (.tmp 24) 48 rfl w.heap.size 9 i0 (.string ByteArray.empty) 1 16 Tryz.underlying48 hi hz0 hz1 hz2 rfl (by decide) _ _ _ rfl (World.ownsRow_made _ #[] 0 (Nat.le_refl _) (Nat.zero_le _) rfl) (some ⟨b,off,none⟩) k (k+1) ((L.take k).map Value.string) rfl (by rw [List.length_map,List.length_take];have:=HN.out;omega) (fun e=>by cases e) (fun A e=>by cases e;exact strs_list (strs_past (strs_take _ HA.out) ((Below.refl _ _).alloc (Nat.le_refl _) _))) (strs_one _) (by unfold maxLen;omega) (by omega) (by simp) ?_;intro v1 w1 hown hgrow hnil;simp only [Nat.zero_add,List.nil_append] at hown;obtain ⟨ao1,c1,rfl⟩:=own_any hown;have O1:=hide hown;have B1:=hide (((Below.refl w.heap.size w).alloc (Nat.le_refl _) _).grown hgrow (by simp) (fun j hj=>by cases hj;exact Nat.le_refl _));have y0:=cell_past B1.out hc0;clear hown hgrow hnil)
       | (at_builtin;refine wpList_append_own _ rfl (.tmp 26) (.tmp 28) 48 rfl w.heap.size 9 i0 (.string ByteArray.empty) 1 16 Tryz.underlying48 hi hz0 hz1 hz2 rfl (by decide) _ _ _ rfl (own_past O1.out ((Below.refl _ _).alloc (Nat.le_refl _) _)) ⟨w1.heap.size,0,none⟩ 1 1 [.string a] rfl rfl (new_cells (cs:=#[.string a]) rfl) (strs_one [a]) (by unfold maxLen;omega) (by omega) (by simp;have:=B1.out.size;omega) ?_;intro v2 w2 hown hgrow hnil;obtain ⟨ao2,c2,rfl⟩:=own_any hown;have O2:=hide hown;have B2:=hide ((B1.out.alloc B1.out.size _).grown hgrow (by simp;have:=B1.out.size;omega) (fun j hj=>(O1.out.lt j hj).1));have y2:=cell_past B2.out hc0;clear hown hgrow hnil)
       | (at_builtin;refine wpList_append_nilH _ rfl (.tmp 44) (.tmp 47) 48 rfl w.heap.size 9 i0 (.string ByteArray.empty) 1 16 Tryz.underlying48 hi hz0 hz1 hz2 rfl (by decide) _ _ _ rfl O2.out (some ⟨b,off,none⟩) 0 0 [] rfl rfl (fun e=>by cases e) (fun A _ j z hz=>by simp at hz) (by first | exact strs_one _ | exact fun u hu=>absurd hu List.not_mem_nil) (by unfold maxLen;omega) (by omega) (by have:=B2.out.size;omega) ?_;intro v3 w3 hown hgrow hnil;obtain ⟨ao3,c3,rfl⟩:=own_any hown;have O3:=hide hown;have B3:=hide (B2.out.grown hgrow B2.out.size (fun j hj=>(O2.out.lt j hj).1));clear hown hgrow hnil))
      all_goals
       go_ret;refine ⟨_,rfl,OwnT.of O3.out ?_,B3.out⟩;rw [HE.out]
       try rw [List.drop_eq_nil_of_le (by have:=HN.out;omega)]
       simp
     ·skip
      go_wp2_with (first
       | (at_builtin;refine wpList_append_nilH _ rfl (.tmp 21) (.tmp 24) 48 rfl w.heap.size 9 i0 (.string ByteArray.empty) 1 16 Tryz.underlying48 hi hz0 hz1 hz2 rfl (by decide) _ _ _ rfl (World.ownsRow_made _ #[] 0 (Nat.le_refl _) (Nat.zero_le _) rfl) (some ⟨b,off,none⟩) k c ((L.take k).map Value.string) rfl (by rw [List.length_map,List.length_take];have:=HN.out;omega) (fun e=>by cases e) (fun A e=>by cases e;exact strs_list (strs_past (strs_take _ HA.out) ((Below.refl _ _).alloc (Nat.le_refl _) _))) (strs_one _) (by unfold maxLen;omega) (by omega) (by simp) ?_;intro v1 w1 hown hgrow hnil;simp only [Nat.zero_add,List.nil_append] at hown;obtain ⟨ao1,c1,rfl⟩:=own_any hown;have O1:=hide hown;have B1:=hide (((Below.refl w.heap.size w).alloc (Nat.le_refl _) _).grown hgrow (by simp) (fun j hj=>by cases hj;exact Nat.le_refl _));have y0:=cell_past B1.out hc0;clear hown hgrow hnil)
       | (at_builtin;refine wpList_append_own _ rfl (.tmp 26) (.tmp 28) 48 rfl w.heap.size 9 i0 (.string ByteArray.empty) 1 16 Tryz.underlying48 hi hz0 hz1 hz2 rfl (by decide) _ _ _ rfl (own_past O1.out ((Below.refl _ _).alloc (Nat.le_refl _) _)) ⟨w1.heap.size,0,none⟩ 1 1 [.string a] rfl rfl (new_cells (cs:=#[.string a]) rfl) (strs_one [a]) (by unfold maxLen;omega) (by omega) (by simp;have:=B1.out.size;omega) ?_;intro v2 w2 hown hgrow hnil;obtain ⟨ao2,c2,rfl⟩:=own_any hown;have O2:=hide hown;have B2:=hide ((B1.out.alloc B1.out.size _).grown hgrow (by simp;have:=B1.out.size;omega) (fun j hj=>(O1.out.lt j hj).1));have y2:=cell_past B2.out hc0;clear hown hgrow hnil)
       | (at_builtin;refine wpList_append_nilH _ rfl (.tmp 44) (.tmp 47) 48 rfl w.heap.size 9 i0 (.string ByteArray.empty) 1 16 Tryz.underlying48 hi hz0 hz1 hz2 rfl (by decide) _ _ _ rfl O2.out (some ⟨b,off+(k+1),none⟩) (n - (k+1)) (c - (k+1)) ((L.drop (k+1)).map Value.string) rfl (by rw [List.length_map,List.length_drop];have:=HN.out;omega) (fun e=>by cases e) (fun A e=>by cases e;exact strs_list (strs_past (strs_drop (k+1) HA.out) B2.out)) (by first | exact strs_one _ | exact fun u hu=>absurd hu List.not_mem_nil) (by unfold maxLen;omega) (by omega) (by have:=B2.out.size;omega) ?_;intro v3 w3 hown hgrow hnil;obtain ⟨ao3,c3,rfl⟩:=own_any hown;have O3:=hide hown;have B3:=hide (B2.out.grown hgrow B2.out.size (fun j hj=>(O2.out.lt j hj).1));clear hown hgrow hnil))
      all_goals
       go_ret;refine ⟨_,rfl,OwnT.of O3.out ?_,B3.out⟩;rw [HE.out]
       try rw [List.drop_eq_nil_of_le (by have:=HN.out;omega)]
       simp
    | false=>
     have hne:∀ z,L[k]?=some z→z≠a:=fun z hz e=>by
      rw [HRk.out] at hz;obtain rfl:=Option.some.inj hz;subst e;simp at heq
     have HE:Hid (insT L a=L.take k ++ [a] ++ L.drop k):=ins_newT L k HK.out hne;clear hne;have hck:¬ (c=k):=by omega
     go_wp2_with (first
      | (at_builtin;refine wpList_append_nilH _ rfl (.tmp 21) (.tmp 24) 48 rfl w.heap.size 9 i0 (.string ByteArray.empty) 1 16 Tryz.underlying48 hi hz0 hz1 hz2 rfl (by decide) _ _ _ rfl (World.ownsRow_made _ #[] 0 (Nat.le_refl _) (Nat.zero_le _) rfl) (some ⟨b,off,none⟩) k c ((L.take k).map Value.string) rfl (by rw [List.length_map,List.length_take];have:=HN.out;omega) (fun e=>by cases e) (fun A e=>by cases e;exact strs_list (strs_past (strs_take _ HA.out) ((Below.refl _ _).alloc (Nat.le_refl _) _))) (strs_one _) (by unfold maxLen;omega) (by omega) (by simp) ?_;intro v1 w1 hown hgrow hnil;simp only [Nat.zero_add,List.nil_append] at hown;obtain ⟨ao1,c1,rfl⟩:=own_any hown;have O1:=hide hown;have B1:=hide (((Below.refl w.heap.size w).alloc (Nat.le_refl _) _).grown hgrow (by simp) (fun j hj=>by cases hj;exact Nat.le_refl _));have y0:=cell_past B1.out hc0;clear hown hgrow hnil)
      | (at_builtin;refine wpList_append_own _ rfl (.tmp 26) (.tmp 28) 48 rfl w.heap.size 9 i0 (.string ByteArray.empty) 1 16 Tryz.underlying48 hi hz0 hz1 hz2 rfl (by decide) _ _ _ rfl (own_past O1.out ((Below.refl _ _).alloc (Nat.le_refl _) _)) ⟨w1.heap.size,0,none⟩ 1 1 [.string a] rfl rfl (new_cells (cs:=#[.string a]) rfl) (strs_one [a]) (by unfold maxLen;omega) (by omega) (by simp;have:=B1.out.size;omega) ?_;intro v2 w2 hown hgrow hnil;obtain ⟨ao2,c2,rfl⟩:=own_any hown;have O2:=hide hown;have B2:=hide ((B1.out.alloc B1.out.size _).grown hgrow (by simp;have:=B1.out.size;omega) (fun j hj=>(O1.out.lt j hj).1));have y2:=cell_past B2.out hc0;clear hown hgrow hnil)
      | (at_builtin;refine wpList_append_nilH _ rfl (.tmp 44) (.tmp 47) 48 rfl w.heap.size 9 i0 (.string ByteArray.empty) 1 16 Tryz.underlying48 hi hz0 hz1 hz2 rfl (by decide) _ _ _ rfl O2.out (some ⟨b,off+k,none⟩) (n - k) (c - k) ((L.drop k).map Value.string) rfl (by rw [List.length_map,List.length_drop];have:=HN.out;omega) (fun e=>by cases e) (fun A e=>by cases e;exact strs_list (strs_past (strs_drop k HA.out) B2.out)) (by first | exact strs_one _ | exact fun u hu=>absurd hu List.not_mem_nil) (by unfold maxLen;omega) (by omega) (by have:=B2.out.size;omega) ?_;intro v3 w3 hown hgrow hnil;obtain ⟨ao3,c3,rfl⟩:=own_any hown;have O3:=hide hown;have B3:=hide (B2.out.grown hgrow B2.out.size (fun j hj=>(O2.out.lt j hj).1));clear hown hgrow hnil))
     all_goals
      go_ret;refine ⟨_,rfl,OwnT.of O3.out ?_,B3.out⟩;rw [HE.out]
      try rw [List.drop_eq_nil_of_le (by have:=HN.out;omega)]
      simp
  ·have hkn2:k=n:=by omega
   subst hkn2;have HE:Hid (insT L a=L.take k ++ [a] ++ L.drop k):=ins_newT L k ⟨by have:=HN.out;omega,HF.out,fun z hz=>absurd (List.getElem?_eq_some_iff.1 hz).1 (by have:=HN.out;omega)⟩ (fun z hz=>absurd (List.getElem?_eq_some_iff.1 hz).1 (by have:=HN.out;omega));clear hrest HF
   cases ao with
   | none=>
    have h0:c=0:=HNo.out rfl;subst h0;have hk0:k=0:=by omega
    subst hk0
    go_wp2_with (first
     | (at_builtin;refine wpList_append_nilH _ rfl (.tmp 21) (.tmp 24) 48 rfl w.heap.size 9 i0 (.string ByteArray.empty) 1 16 Tryz.underlying48 hi hz0 hz1 hz2 rfl (by decide) _ _ _ rfl (World.ownsRow_made _ #[] 0 (Nat.le_refl _) (Nat.zero_le _) rfl) none 0 0 ((L.take 0).map Value.string) rfl (by rw [List.length_map,List.length_take];have:=HN.out;omega) (fun e=>⟨rfl,rfl⟩) (fun A e=>by cases e) (strs_one _) (by unfold maxLen;omega) (by omega) (by simp) ?_;intro v1 w1 hown hgrow hnil;simp only [Nat.zero_add,List.nil_append] at hown;obtain ⟨ao1,c1,rfl⟩:=own_any hown;have O1:=hide hown;have B1:=hide (((Below.refl w.heap.size w).alloc (Nat.le_refl _) _).grown hgrow (by simp) (fun j hj=>by cases hj;exact Nat.le_refl _));clear hown hgrow hnil)
     | (at_builtin;refine wpList_append_own _ rfl (.tmp 26) (.tmp 28) 48 rfl w.heap.size 9 i0 (.string ByteArray.empty) 1 16 Tryz.underlying48 hi hz0 hz1 hz2 rfl (by decide) _ _ _ rfl (own_past O1.out ((Below.refl _ _).alloc (Nat.le_refl _) _)) ⟨w1.heap.size,0,none⟩ 1 1 [.string a] rfl rfl (new_cells (cs:=#[.string a]) rfl) (strs_one [a]) (by unfold maxLen;omega) (by omega) (by simp;have:=B1.out.size;omega) ?_;intro v2 w2 hown hgrow hnil;obtain ⟨ao2,c2,rfl⟩:=own_any hown;have O2:=hide hown;have B2:=hide ((B1.out.alloc B1.out.size _).grown hgrow (by simp;have:=B1.out.size;omega) (fun j hj=>(O1.out.lt j hj).1));clear hown hgrow hnil)
     | (at_builtin;refine wpList_append_nilH _ rfl (.tmp 44) (.tmp 47) 48 rfl w.heap.size 9 i0 (.string ByteArray.empty) 1 16 Tryz.underlying48 hi hz0 hz1 hz2 rfl (by decide) _ _ _ rfl O2.out none 0 0 [] rfl rfl (fun e=>⟨rfl,rfl⟩) (fun A e=>by cases e) (by first | exact strs_one _ | exact fun u hu=>absurd hu List.not_mem_nil) (by unfold maxLen;omega) (by omega) (by have:=B2.out.size;omega) ?_;intro v3 w3 hown hgrow hnil;obtain ⟨ao3,c3,rfl⟩:=own_any hown;have O3:=hide hown;have B3:=hide (B2.out.grown hgrow B2.out.size (fun j hj=>(O2.out.lt j hj).1));clear hown hgrow hnil))
    all_goals
     go_ret;refine ⟨_,rfl,OwnT.of O3.out ?_,B3.out⟩;rw [HE.out]
     try rw [List.drop_eq_nil_of_le (by have:=HN.out;omega)]
     simp
   | some A=>
    by_cases hck:c=k
    ·subst hck
     go_wp2_with (first
      | (at_builtin;refine wpList_append_nilH _ rfl (.tmp 21) (.tmp 24) 48 rfl w.heap.size 9 i0 (.string ByteArray.empty) 1 16 Tryz.underlying48 hi hz0 hz1 hz2 rfl (by decide) _ _ _ rfl (World.ownsRow_made _ #[] 0 (Nat.le_refl _) (Nat.zero_le _) rfl) (some A) c c ((L.take c).map Value.string) rfl (by rw [List.length_map,List.length_take];have:=HN.out;omega) (fun e=>by cases e) (fun A e=>by cases e;exact strs_list (strs_past (strs_take _ HA.out) ((Below.refl _ _).alloc (Nat.le_refl _) _))) (strs_one _) (by unfold maxLen;omega) (by omega) (by simp) ?_;intro v1 w1 hown hgrow hnil;simp only [Nat.zero_add,List.nil_append] at hown;obtain ⟨ao1,c1,rfl⟩:=own_any hown;have O1:=hide hown;have B1:=hide (((Below.refl w.heap.size w).alloc (Nat.le_refl _) _).grown hgrow (by simp) (fun j hj=>by cases hj;exact Nat.le_refl _));clear hown hgrow hnil)
      | (at_builtin;refine wpList_append_own _ rfl (.tmp 26) (.tmp 28) 48 rfl w.heap.size 9 i0 (.string ByteArray.empty) 1 16 Tryz.underlying48 hi hz0 hz1 hz2 rfl (by decide) _ _ _ rfl (own_past O1.out ((Below.refl _ _).alloc (Nat.le_refl _) _)) ⟨w1.heap.size,0,none⟩ 1 1 [.string a] rfl rfl (new_cells (cs:=#[.string a]) rfl) (strs_one [a]) (by unfold maxLen;omega) (by omega) (by simp;have:=B1.out.size;omega) ?_;intro v2 w2 hown hgrow hnil;obtain ⟨ao2,c2,rfl⟩:=own_any hown;have O2:=hide hown;have B2:=hide ((B1.out.alloc B1.out.size _).grown hgrow (by simp;have:=B1.out.size;omega) (fun j hj=>(O1.out.lt j hj).1));clear hown hgrow hnil)
      | (at_builtin;refine wpList_append_nilH _ rfl (.tmp 44) (.tmp 47) 48 rfl w.heap.size 9 i0 (.string ByteArray.empty) 1 16 Tryz.underlying48 hi hz0 hz1 hz2 rfl (by decide) _ _ _ rfl O2.out _ 0 _ [] rfl rfl (fun e=>by cases e) (fun A _ j z hz=>by simp at hz) (by first | exact strs_one _ | exact fun u hu=>absurd hu List.not_mem_nil) (by unfold maxLen;omega) (by omega) (by have:=B2.out.size;omega) ?_;intro v3 w3 hown hgrow hnil;obtain ⟨ao3,c3,rfl⟩:=own_any hown;have O3:=hide hown;have B3:=hide (B2.out.grown hgrow B2.out.size (fun j hj=>(O2.out.lt j hj).1));clear hown hgrow hnil))
     all_goals
      go_ret;refine ⟨_,rfl,OwnT.of O3.out ?_,B3.out⟩;rw [HE.out]
      try rw [List.drop_eq_nil_of_le (by have:=HN.out;omega)]
      simp
    ·skip
     go_wp2_with (first
      | (at_builtin;refine wpList_append_nilH _ rfl (.tmp 21) (.tmp 24) 48 rfl w.heap.size 9 i0 (.string ByteArray.empty) 1 16 Tryz.underlying48 hi hz0 hz1 hz2 rfl (by decide) _ _ _ rfl (World.ownsRow_made _ #[] 0 (Nat.le_refl _) (Nat.zero_le _) rfl) (some A) k c ((L.take k).map Value.string) rfl (by rw [List.length_map,List.length_take];have:=HN.out;omega) (fun e=>by cases e) (fun A e=>by cases e;exact strs_list (strs_past (strs_take _ HA.out) ((Below.refl _ _).alloc (Nat.le_refl _) _))) (strs_one _) (by unfold maxLen;omega) (by omega) (by simp) ?_;intro v1 w1 hown hgrow hnil;simp only [Nat.zero_add,List.nil_append] at hown;obtain ⟨ao1,c1,rfl⟩:=own_any hown;have O1:=hide hown;have B1:=hide (((Below.refl w.heap.size w).alloc (Nat.le_refl _) _).grown hgrow (by simp) (fun j hj=>by cases hj;exact Nat.le_refl _));clear hown hgrow hnil)
      | (at_builtin;refine wpList_append_own _ rfl (.tmp 26) (.tmp 28) 48 rfl w.heap.size 9 i0 (.string ByteArray.empty) 1 16 Tryz.underlying48 hi hz0 hz1 hz2 rfl (by decide) _ _ _ rfl (own_past O1.out ((Below.refl _ _).alloc (Nat.le_refl _) _)) ⟨w1.heap.size,0,none⟩ 1 1 [.string a] rfl rfl (new_cells (cs:=#[.string a]) rfl) (strs_one [a]) (by unfold maxLen;omega) (by omega) (by simp;have:=B1.out.size;omega) ?_;intro v2 w2 hown hgrow hnil;obtain ⟨ao2,c2,rfl⟩:=own_any hown;have O2:=hide hown;have B2:=hide ((B1.out.alloc B1.out.size _).grown hgrow (by simp;have:=B1.out.size;omega) (fun j hj=>(O1.out.lt j hj).1));clear hown hgrow hnil)
      | (at_builtin;refine wpList_append_nilH _ rfl (.tmp 44) (.tmp 47) 48 rfl w.heap.size 9 i0 (.string ByteArray.empty) 1 16 Tryz.underlying48 hi hz0 hz1 hz2 rfl (by decide) _ _ _ rfl O2.out _ 0 _ [] rfl rfl (fun e=>by cases e) (fun A _ j z hz=>by simp at hz) (by first | exact strs_one _ | exact fun u hu=>absurd hu List.not_mem_nil) (by unfold maxLen;omega) (by omega) (by have:=B2.out.size;omega) ?_;intro v3 w3 hown hgrow hnil;obtain ⟨ao3,c3,rfl⟩:=own_any hown;have O3:=hide hown;have B3:=hide (B2.out.grown hgrow B2.out.size (fun j hj=>(O2.out.lt j hj).1));clear hown hgrow hnil))
     all_goals
      go_ret;refine ⟨_,rfl,OwnT.of O3.out ?_,B3.out⟩;rw [HE.out]
      try rw [List.drop_eq_nil_of_le (by have:=HN.out;omega)]
      simp
theorem str_addL {a b:ByteArray} {x y:List UInt8} (ha:a=⟨x.toArray⟩) (hb:b=⟨y.toArray⟩) (h:x.length+y.length≤1000000):Op.stringOp .add a b=pure (.string ⟨(x ++ y).toArray⟩):=by
 subst ha;subst hb;unfold Op.stringOp;have e1:(⟨x.toArray⟩:ByteArray).size=x.length:=by rw [← toL_len,toL_mk]
 have e2:(⟨y.toArray⟩:ByteArray).size=y.length:=by rw [← toL_len,toL_mk]
 have:¬ ((((⟨x.toArray⟩:ByteArray).size+(⟨y.toArray⟩:ByteArray).size:Nat):Int) > IntKind.i64.max):=by
  have e:IntKind.i64.max=9223372036854775807:=by decide
  rw [e,e1,e2];omega
 simp only [if_neg this,mk_app]
theorem own_le' {w:World} {B B' size n:Nat} {e:TypeId} {v:Value} {xs:List Value} (h:w.ownsRow B e size v n xs) (hb:B'≤B):w.ownsRow B' e size v n xs:=by
 refine ⟨h.1,?_⟩;rcases h.2 with h2 | ⟨g,cap,cur,e1,e2,e3⟩
 ·exact .inl h2
 ·exact .inr ⟨g,cap,cur,e1,Nat.le_trans hb e2,e3⟩
theorem serK_snoc {L:List ByteArray} {k:Nat} {x:ByteArray} (h:L[k]?=some x):serK (L.take (k+1))=insT (serK (L.take k)) x:=by
 rw [List.take_add_one,h];simp [serK,List.foldl_append]
theorem all_no {L:List ByteArray} {k:Nat} {x:ByteArray} (h:L[k]?=some x) (hx:tagB x=false):L.all tagB=false:=by
 rw [List.all_eq_false];exact ⟨x,List.mem_of_getElem? h,by rw [hx];decide⟩
set_option maxHeartbeats 1000000 in
theorem c_s_l06Tags {w:World} {ao:Option Addr} {L:List ByteArray} (c n:Nat) (hn:L.length=n) (hl:n≤1048576) (hu:∀ u∈L,u.size≤maxLen) (hA:StrsAt w ao L) :
  Calls Tryz.prog 172 #[.slice ao n c] w fun e w'=>e=.returned (.bool (L.all tagB))∧w'=w:=by
 have HA:=hide hA;have HN:=hide hn;have HU:=hide hu;clear hA hn hu;go_enter Tryz.func172,Tryz.ntmps172;go_wp2
 go_loop [3] (fun i=>∃ k:Nat,k≤n∧i=.int .i64 k∧Hid ((L.take k).all tagB=true)) (fun i=>n - (Go.RowKit.intOf i).toNat)
 case atStart=>exact ⟨0,Nat.zero_le _,rfl,(by simp:(L.take 0).all tagB=true)⟩
 case round=>
  obtain ⟨k,hk,rfl,HF⟩:=hrel;by_cases hkn:k<n
  ·obtain ⟨b,off,e,hcell⟩:=HA.out (by have:=HN.out;omega)
   subst e;obtain ⟨y,hy⟩:∃ y,L[k]?=some y:=⟨L[k]'(by have:=HN.out;omega),List.getElem?_eq_getElem _⟩;have hc0:=hcell k y hy;have HZ:=hide (HU.out y (List.mem_of_getElem? hy));have HY:=hide hy;clear hcell hy
   cases ht:tagB y with
   | false=>
    have HE:Hid (L.all tagB=false):=all_no HY.out ht;go_wp2_with (go_at_call 198;refine (c_s_TagRight _ _ HZ.out).mono ?_;rintro e w1 ⟨rfl,rfl⟩);go_ret;exact ⟨ret_bool HE.out.symm,rfl⟩
   | true=>
    have HE:Hid ((L.take (k+1)).all tagB=true):=(by rw [List.take_add_one,HY.out,List.all_append,HF.out];simp [ht]:(L.take (k+1)).all tagB=true);go_wp2_with (go_at_call 198;refine (c_s_TagRight _ _ HZ.out).mono ?_;rintro e w1 ⟨rfl,rfl⟩)
    go_round
    case rel=>exact ⟨k+1,by omega,by go_num,HE⟩
    case measure=>simp [Go.RowKit.intOf];omega
  ·have HE:Hid (L.all tagB=true):=(by have:=HF.out;rwa [List.take_of_length_le (by have:=HN.out;omega)] at this:L.all tagB=true)
   go_wp2;go_ret;exact ⟨ret_bool HE.out.symm,rfl⟩
theorem head_len {name:ByteArray} {K:List ByteArray} (h:name.size≤100) (hk:∀ x∈K,x.size≤20) (hl:K.length≤20100):(headT name K).length≤422300:=by
 have:=joinT_len hk;unfold headT;simp only [List.length_append,toL_len,List.length_cons,List.length_nil];omega
theorem head_zero {K:List ByteArray} {x:ByteArray} (name:ByteArray) (h:K[0]?=some x):headT name (K.take 0) ++ toL x=headT name (K.take 1):=by
 rw [List.take_add_one,h];simp [headT,joinT_one,joinT_nil]
theorem head_snoc {K:List ByteArray} {x:ByteArray} {i:Nat} (name:ByteArray) (h:K[i]?=some x) (h0:0<i):headT name (K.take i) ++ [44] ++ toL x=headT name (K.take (i+1)):=by
 have hl:=(List.getElem?_eq_some_iff.1 h).1;rw [List.take_add_one,h];unfold headT;rw [show (some x).toList=[x] from rfl,joinT_snoc (fun e=>by have:=congrArg List.length e;rw [List.length_take,List.length_nil] at this;omega)];simp
set_option maxHeartbeats 2000000 in
theorem c_s_l06Series {w:World} {ao:Option Addr} {L:List ByteArray} (name:ByteArray) (c n:Nat) (hnm:name.size≤100) (hn:L.length=n) (hl:n≤20100) (hu:∀ u∈L,u.size≤20) (hA:StrsAt w ao L) :
  Calls Tryz.prog 173 #[.string name,.slice ao n c] w fun e w'=>e=.returned (.string (serF name L))∧Below w.heap.size w w':=by
 have HA:=hide hA;have HN:=hide hn;have HU:=hide hu;clear hA hn hu;go_enter Tryz.func173,Tryz.ntmps173;go_wp2;have O0:OwnT (w.alloc (.cells #[] 9)) w.heap.size (.slice (some ⟨w.heap.size,0,none⟩) 0 0) []:=World.ownsRow_made w #[] 0 (Nat.le_refl _) (Nat.zero_le _) rfl
 go_loopw [5,6] (fun lv i wr=>∃ (k:Nat) (lo:Option Addr) (m lc:Nat),k≤n∧i=.int .i64 k∧lv=.slice lo m lc∧Hid (OwnT wr w.heap.size (.slice lo m lc) (serK (L.take k))∧m=(serK (L.take k)).length)∧Hid (Below w.heap.size w wr)) (fun lv i wr=>n - (Go.RowKit.intOf i).toNat)
 case atStart=>exact ⟨0,_,0,0,Nat.zero_le _,rfl,rfl,⟨O0,rfl⟩,(Below.refl _ _).alloc (Nat.le_refl _) _⟩
 case round=>
  clear O0;obtain ⟨k,lo,m,lc,hk,rfl,rfl,HO,HB⟩:=hrel;by_cases hkn:k<n
  ·obtain ⟨b,off,e,hcell⟩:=HA.out (by have:=HN.out;omega)
   obtain ⟨y,hy⟩:∃ y,L[k]?=some y:=⟨L[k]'(by have:=HN.out;omega),List.getElem?_eq_getElem _⟩;subst e;have hc0:=cell_past HB.out (hcell k y hy);have HE:=hide (serK_snoc hy);have hml:m≤20100:=by have:=serK_len (L.take k);have:=HO.out.2;rw [List.length_take] at *; omega
   clear hcell hy;have G:=hide HO.out.1.cap;go_wp2_with (go_at_call 67;refine (c_s_l06Tag y HO.out.2.symm (by omega) G.out.2.1 G.out.2.2.1 G.out.2.2.2 HO.out.1.at).mono ?_;rintro e w2 ⟨v2,rfl,o2,hb2⟩;obtain ⟨ao2,c2,rfl⟩:=ownT_any o2;rw [← HE.out] at o2;have HO2:=hide o2;have HB2:=hide (HB.out.trans (hb2.mono HB.out.size));have o2z:=hb2.size;clear o2 hb2);go_roundw
   case rel=>
    rw [← HE.out];refine ⟨k+1,ao2,_,c2,by omega,by go_num,rfl,⟨?_,rfl⟩,HB2⟩;have h:=HO2.out;unfold OwnT at h ⊢;exact own_le' h HB.out.size
   case measure=>simp [Go.RowKit.intOf];omega
  ·have hke:k=n:=by omega
   subst hke;have eL:L.take k=L:=List.take_of_length_le (by have:=HN.out;omega);rw [eL] at HO;clear eL;obtain ⟨K,hK⟩:∃ K,serK L=K:=⟨_,rfl⟩;have HK:=hide hK;rw [hK] at HO;have HKu:Hid (∀ x∈K,x.size≤20):=(fun x hx=>HU.out x (mem_serK.1 (by rw [hK];exact hx)):∀ x∈K,x.size≤20);have hml:m≤20100:=by have:=serK_len L;have:=HO.out.2;have:=HN.out;rw [hK] at *; omega
   clear hK;have HKl:Hid (K.length≤20100):=(by have:=HO.out.2;omega:K.length≤20100);obtain ⟨T0,hT0⟩:∃ T0:ByteArray,T0=⟨(headT name (K.take 0)).toArray⟩:=⟨_,rfl⟩
   have hadd0:Op.stringOp .add name ⟨#[123]⟩=pure (.string T0):=by
    rw [str_addL (x:=toL name) (y:=[123]) (mk_toL name).symm rfl (by rw [toL_len];simp;omega),hT0];simp [headT,joinT_nil]
   have HT0:=hide hT0;clear hT0;go_wp2
   go_loop [7,8] (fun tv i=>∃ (j:Nat) (T:ByteArray),j≤m∧i=.int .i64 j∧tv=.string T∧Hid (T=⟨(headT name (K.take j)).toArray⟩)) (fun tv i=>m - (Go.RowKit.intOf i).toNat)
   case atStart=>exact ⟨0,T0,Nat.zero_le _,rfl,rfl,HT0⟩
   case round=>
    clear HT0 hadd0;obtain ⟨j,T,hj,rfl,rfl,HT⟩:=hrel;by_cases hjm:j<m
    ·obtain ⟨b,off,e,hcell⟩:=HO.out.1.at (by have:=HO.out.2;omega)
     obtain ⟨y,hy⟩:∃ y,K[j]?=some y:=⟨K[j]'(by have:=HO.out.2;omega),List.getElem?_eq_getElem _⟩;subst e;have hc0:=hcell j y hy;have hys:y.size≤20:=HKu.out y (List.mem_of_getElem? hy);have hlen:=head_len (name:=name) (K:=K.take j) hnm (fun x hx=>HKu.out x (List.mem_of_mem_take hx)) (by rw [List.length_take];have:=HKl.out;omega);rcases Nat.eq_zero_or_pos j with h0 | h0
     ·subst h0
      rw [Nat.add_zero] at hc0;obtain ⟨T2,hT2⟩:∃ T2:ByteArray,T2=⟨(headT name (K.take 1)).toArray⟩:=⟨_,rfl⟩
      have hadd:Op.stringOp .add T y=pure (.string T2):=by
       rw [str_addL HT.out (mk_toL y).symm (by rw [toL_len];omega),head_zero name hy,hT2]
      have HT2:=hide hT2;clear hT2 hy hcell hlen hys;go_wp2
      go_round
      case rel=>exact ⟨1,T2,by omega,by go_num,rfl,HT2⟩
      case measure=>simp [Go.RowKit.intOf];omega
     ·have h0i:(0:Int)<(j:Int):=by omega
      obtain ⟨T1,hT1⟩:∃ T1:ByteArray,T1=⟨(headT name (K.take j) ++ [44]).toArray⟩:=⟨_,rfl⟩
      have hadd1:Op.stringOp .add T ⟨#[44]⟩=pure (.string T1):=by
       rw [str_addL (y:=[44]) HT.out rfl (by simp;omega),hT1]
      obtain ⟨T2,hT2⟩:∃ T2:ByteArray,T2=⟨(headT name (K.take (j+1))).toArray⟩:=⟨_,rfl⟩
      have hadd2:Op.stringOp .add T1 y=pure (.string T2):=by
       rw [str_addL hT1 (mk_toL y).symm (by rw [toL_len];simp;omega),head_snoc name hy h0,hT2]
      have HT2:=hide hT2;clear hT2 hT1 hy hcell hlen hys;go_wp2
      go_round
      case rel=>exact ⟨j+1,T2,by omega,by go_num,rfl,HT2⟩
      case measure=>simp [Go.RowKit.intOf];omega
    ·have hjm2:j=m:=by omega
     have eK:K.take j=K:=List.take_of_length_le (by have:=HO.out.2;omega);have hlen:=head_len (name:=name) (K:=K) hnm HKu.out HKl.out;obtain ⟨T2,hT2⟩:∃ T2:ByteArray,T2=serT name K:=⟨_,rfl⟩
     have hadd:Op.stringOp .add T ⟨#[125]⟩=pure (.string T2):=by
      rw [str_addL (y:=[125]) HT.out rfl (by rw [eK];simp;omega),eK,hT2];rfl
     have hs2:T2.size≤1000000:=by rw [hT2,← toL_len,serT,toL_mk];simp;omega
     have HF:Hid (serF name L=if 8<m∨100<T2.size then ByteArray.empty else T2):=(by unfold serF;rw [HK.out,hT2,← HO.out.2]:serF name L=if 8<m∨100<T2.size then ByteArray.empty else T2);clear hT2 eK hlen HT hjm2;by_cases h8:8<m
     ·have h8i:(8:Int)<(m:Int):=by omega
      have HF2:Hid (serF name L=ByteArray.empty):=(by rw [HF.out,if_pos (.inl h8)]:serF name L=ByteArray.empty);go_wp2;go_ret;exact ⟨by rw [HF2.out];rfl,HB.out⟩
     ·have h8i:¬ (8:Int)<(m:Int):=by omega
      by_cases h100:100<T2.size
      ·have h100i:(100:Int)<(T2.size:Int):=by omega
       have HF2:Hid (serF name L=ByteArray.empty):=(by rw [HF.out,if_pos (.inr h100)]:serF name L=ByteArray.empty);go_wp2;go_ret;exact ⟨by rw [HF2.out];rfl,HB.out⟩
      ·have h100i:¬ (100:Int)<(T2.size:Int):=by omega
       have HF2:Hid (serF name L=T2):=(by rw [HF.out,if_neg (by omega)]:serF name L=T2);go_wp2;go_ret;exact ⟨by rw [HF2.out];rfl,HB.out⟩
end Go.Proofs.YtmjogablacnlgaaGreatDoor
