/-
 Parts.
-/
import Derived.Test.YtandnmpllheniaaGreatDoorCSE
set_option linter.all false
set_option maxHeartbeats 4000000
namespace Go.Proofs.YtandnmpllheniaaGreatDoor
open Go.ChangeShapes Go.WideShapes Go.ChangeAt Go.RowKit Go.PlainAid
set_option maxRecDepth 10000
def QoC (k:Int) (se:ByteArray) (v:Int) (wd:ByteArray) (wt:Int) (tm:Bool) (ti:Int):Value:=.agg #[.int .i64 k,.string se,.int .i64 v,.string wd,.int .u64 wt,.bool tm,.int .i64 ti]
def Qhp (k:Int):Bool:=decide (1<=k) && decide (k<=4)
def QoL (v:Int):Bool:=decide (-999999999999999999<=v) && decide (v<=999999999999999999)
def QcE (k v:Int) (wd:ByteArray):Bool:=if k=4 then decide (v=0) && QbS wd else QoL v && decide (wd.size=0)
def QbC (k wt:Int):Bool:=decide (wt=1) || (decide (k=1) || decide (k=3)) && decide (0<wt) && decide (wt<=1000000)
def Qf9 (tm:Bool) (ti:Int):Bool:=if tm=true then decide (0<=ti) && decide (ti<=1000000000) else decide (ti=0)
theorem QgG (k:Int) (w:World):Calls Tryz.prog 77 #[.int .i64 k] w fun e w'=>e=.returned (.bool (Qhp k))/\w'=w:=by
  by_cases h1:1<=k <;> by_cases h2:k<=4 <;> (go_enter Tryz.func77,Tryz.ntmps77;go_wp2;go_ret;exact ⟨by simp [Qhp,h1,h2],rfl⟩)
theorem Qdb (v:Int) (w:World):Calls Tryz.prog 124 #[.int .i64 v] w fun e w'=>e=.returned (.bool (QoL v))/\w'=w:=by
  by_cases h1:-999999999999999999<=v <;> by_cases h2:v<=999999999999999999 <;> (go_enter Tryz.func124,Tryz.ntmps124;go_wp2;go_ret;exact ⟨by simp [QoL,h1,h2],rfl⟩)
theorem Qfe (k:Int) (w:World):Calls Tryz.prog 125 #[.int .i64 k] w fun e w'=>e=.returned (.bool (decide (k=1) || decide (k=3)))/\w'=w:=by
  by_cases h1:k=1 <;> by_cases h2:k=3 <;> (go_enter Tryz.func125,Tryz.ntmps125;go_wp2;go_ret;exact ⟨by simp [h1,h2],rfl⟩)
theorem QkA (k:Int) (se:ByteArray) (v:Int) (wd:ByteArray) (wt:Int) (tm:Bool) (ti:Int) (w:World) :
    Calls Tryz.prog 81 #[QoC k se v wd wt tm ti] w fun e w'=>e=.returned (.bool (Qf9 tm ti))/\Below w.heap.size w w':=by
  unfold QoC
  cases tm with
  | false=>
    by_cases h:ti=0
    · subst h
      go_enter Tryz.func81,Tryz.ntmps81;go_wp2
      (go_ret;exact ⟨by rfl,by first | exact (ZZb _ _).alloc (ZZa _) _ | exact ((ZZb _ _).alloc (ZZa _) _).drew | exact ((ZZb _ _).alloc (ZZa _) _).drew.drew⟩)
    · have hb:(ti == 0)=false:=by simpa using h
      go_enter Tryz.func81,Tryz.ntmps81;go_wp2
      (go_ret;exact ⟨by simp [Qf9,h],by first | exact (Below.refl _ _).alloc (Nat.le_refl _) _ | exact ((Below.refl _ _).alloc (Nat.le_refl _) _).drew | exact ((Below.refl _ _).alloc (Nat.le_refl _) _).drew.drew⟩)
  | true=>
    have hc:(0<=ti/\ti<=1000000000)∨(¬ 0<=ti/\ti<=1000000000)∨(0<=ti/\¬ ti<=1000000000):=by omega
    rcases hc with ⟨h1,h2⟩ | ⟨h1,h2⟩ | ⟨h1,h2⟩ <;> (go_enter Tryz.func81,Tryz.ntmps81;go_wp2; (go_ret;exact ⟨by simp [Qf9,h1,h2],by first | exact (Below.refl _ _).alloc (Nat.le_refl _) _ | exact ((Below.refl _ _).alloc (Nat.le_refl _) _).drew | exact ((Below.refl _ _).alloc (Nat.le_refl _) _).drew.drew⟩))
theorem QiG (k:Int) (se:ByteArray) (v:Int) (wd:ByteArray) (wt:Int) (tm:Bool) (ti:Int) (w:World) :
    Calls Tryz.prog 80 #[QoC k se v wd wt tm ti] w fun e w'=>e=.returned (.bool (QbC k wt))/\Below w.heap.size w w':=by
  unfold QoC;by_cases h1:wt=1
  · subst h1
    have HE:Hid (QbC k 1=true):=(by simp [QbC]:QbC k 1=true);go_enter Tryz.func80,Tryz.ntmps80;go_wp2
    (go_ret;exact ⟨by rw [HE.out];rfl,by first | exact (Below.refl _ _).alloc (Nat.le_refl _) _ | exact ((Below.refl _ _).alloc (Nat.le_refl _) _).drew | exact ((Below.refl _ _).alloc (Nat.le_refl _) _).drew.drew⟩)
  · have hb:(wt == 1)=false:=by simpa using h1
    cases hr:(decide (k=1) || decide (k=3)) with
    | false=>
      have HE:Hid (QbC k wt=false):=(by unfold QbC;rw [decide_eq_false h1,hr];rfl:QbC k wt=false);go_enter Tryz.func80,Tryz.ntmps80;go_wp2_with (go_at_call 125;refine (Qfe _ _).mono ?_;rintro e w1 ⟨rfl,aa⟩;obtain rfl:=aa;rw [hr])
      (go_ret;exact ⟨by rw [HE.out];rfl,by first | exact (Below.refl _ _).alloc (Nat.le_refl _) _ | exact ((Below.refl _ _).alloc (Nat.le_refl _) _).drew | exact ((Below.refl _ _).alloc (Nat.le_refl _) _).drew.drew⟩)
    | true=>
      have hc:(0<wt/\wt<=1000000)∨(¬ 0<wt/\wt<=1000000)∨(0<wt/\¬ wt<=1000000):=by omega
      rcases hc with ⟨h2,h3⟩ | ⟨h2,h3⟩ | ⟨h2,h3⟩
      all_goals
        have HE:Hid (QbC k wt=(decide (0<wt) && decide (wt<=1000000))):=(by unfold QbC;rw [decide_eq_false h1,hr];simp:QbC k wt=(decide (0<wt) && decide (wt<=1000000)));go_enter Tryz.func80,Tryz.ntmps80;go_wp2_with (go_at_call 125;refine (Qfe _ _).mono ?_;rintro e w1 ⟨rfl,aa⟩;obtain rfl:=aa;rw [hr])
        (go_ret;exact ⟨by rw [HE.out];simp [h2,h3],by first | exact (Below.refl _ _).alloc (Nat.le_refl _) _ | exact ((Below.refl _ _).alloc (Nat.le_refl _) _).drew | exact ((Below.refl _ _).alloc (Nat.le_refl _) _).drew.drew⟩)
theorem QjV (k:Int) (se:ByteArray) (v:Int) (wd:ByteArray) (wt:Int) (tm:Bool) (ti:Int) (hwd:wd.size<=maxLen) (w:World) :
    Calls Tryz.prog 79 #[QoC k se v wd wt tm ti] w fun e w'=>e=.returned (.bool (QcE k v wd))/\Below w.heap.size w w':=by
  unfold QoC;by_cases h4:k=4
  · subst h4
    by_cases hv:v=0
    · subst hv
      have HE:Hid (QcE 4 0 wd=QbS wd):=(by simp [QcE]:QcE 4 0 wd=QbS wd);go_enter Tryz.func79,Tryz.ntmps79;go_wp2_with (go_at_call 123;refine (QdW _ _ hwd).mono ?_;rintro e w1 ⟨rfl,aa⟩;obtain rfl:=aa)
      (go_ret;exact ⟨by rw [HE.out];rfl,by first | exact (Below.refl _ _).alloc (Nat.le_refl _) _ | exact ((Below.refl _ _).alloc (Nat.le_refl _) _).drew | exact ((Below.refl _ _).alloc (Nat.le_refl _) _).drew.drew⟩)
    · have hb:(v == 0)=false:=by simpa using hv
      have HE:Hid (QcE 4 v wd=false):=(by simp [QcE,hv]:QcE 4 v wd=false);go_enter Tryz.func79,Tryz.ntmps79;go_wp2
      (go_ret;exact ⟨by rw [HE.out];rfl,by first | exact (Below.refl _ _).alloc (Nat.le_refl _) _ | exact ((Below.refl _ _).alloc (Nat.le_refl _) _).drew | exact ((Below.refl _ _).alloc (Nat.le_refl _) _).drew.drew⟩)
  · have ab:(k == 4)=false:=by simpa using h4
    cases hv:QoL v with
    | false=>
      have HE:Hid (QcE k v wd=false):=(by simp [QcE,h4,hv]:QcE k v wd=false);go_enter Tryz.func79,Tryz.ntmps79;go_wp2_with (go_at_call 124;refine (Qdb _ _).mono ?_;rintro e w1 ⟨rfl,aa⟩;obtain rfl:=aa;rw [hv])
      (go_ret;exact ⟨by rw [HE.out];rfl,by first | exact (Below.refl _ _).alloc (Nat.le_refl _) _ | exact ((Below.refl _ _).alloc (Nat.le_refl _) _).drew | exact ((Below.refl _ _).alloc (Nat.le_refl _) _).drew.drew⟩)
    | true=>
      by_cases h0:wd.size=0
      · have he:=isE0 h0
        have HE:Hid (QcE k v wd=true):=(by simp [QcE,h4,hv,h0]:QcE k v wd=true);go_enter Tryz.func79,Tryz.ntmps79;go_wp2_with (go_at_call 124;refine (Qdb _ _).mono ?_;rintro e w1 ⟨rfl,aa⟩;obtain rfl:=aa;rw [hv])
        (go_ret;exact ⟨by rw [HE.out];first | rfl | simp [he],by first | exact (Below.refl _ _).alloc (Nat.le_refl _) _ | exact ((Below.refl _ _).alloc (Nat.le_refl _) _).drew | exact ((Below.refl _ _).alloc (Nat.le_refl _) _).drew.drew⟩)
      · have he:=isE h0
        have HE:Hid (QcE k v wd=false):=(by simp [QcE,h4,hv,h0]:QcE k v wd=false);go_enter Tryz.func79,Tryz.ntmps79;go_wp2_with (go_at_call 124;refine (Qdb _ _).mono ?_;rintro e w1 ⟨rfl,aa⟩;obtain rfl:=aa;rw [hv])
        (go_ret;exact ⟨by rw [HE.out];first | rfl | simp [he],by first | exact (Below.refl _ _).alloc (Nat.le_refl _) _ | exact ((Below.refl _ _).alloc (Nat.le_refl _) _).drew | exact ((Below.refl _ _).alloc (Nat.le_refl _) _).drew.drew⟩)
noncomputable def QbA (k:Int) (se:ByteArray) (v:Int) (wd:ByteArray) (wt:Int) (tm:Bool) (ti:Int):Bool:=Qhp k && Qbv se && QcE k v wd && QbC k wt && Qf9 tm ti
theorem QlJ {w:World} {g:Nat} {c0 c1 c2 c3 c4 c5 c6:Value} {T:TypeId} {fz:Nat×Nat} (h:w.heap[g]?=some (.cells #[c0,c1,c2,c3,c4,c5,c6] T fz)) :
    w.cell? ⟨g,0,none⟩=some c0/\w.cell? ⟨g,1,none⟩=some c1/\w.cell? ⟨g,2,none⟩=some c2/\w.cell? ⟨g,3,none⟩=some c3/\w.cell? ⟨g,4,none⟩=some c4/\w.cell? ⟨g,5,none⟩=some c5/\w.cell? ⟨g,6,none⟩=some c6:=
  ⟨by rw [cell_of_row w g 0 _ _ _ h];rfl,by rw [cell_of_row w g 1 _ _ _ h];rfl,by rw [cell_of_row w g 2 _ _ _ h];rfl,by rw [cell_of_row w g 3 _ _ _ h];rfl,by rw [cell_of_row w g 4 _ _ _ h];rfl,by rw [cell_of_row w g 5 _ _ _ h];rfl,by rw [cell_of_row w g 6 _ _ _ h];rfl⟩
theorem QoN {w w':World} {g:Nat} {o:Obj} (h:w.heap[g]?=some o) (hb:Below w.heap.size w w'):w'.heap[g]?=some o:=by
  rw [hb.block _ (Array.getElem?_eq_some_iff.1 h).1];exact h
structure SBox (w0 w:World) (g:Nat) (k:Int) (se:ByteArray) (v:Int) (wd:ByteArray) (wt:Int) (tm:Bool) (ti:Int) (T:TypeId):Prop where
  row:w.heap[g]?=some (.cells #[.int .i64 k,.string se,.int .i64 v,.string wd,.int .u64 wt,.bool tm,.int .i64 ti] T (0,0))
  bel:Below w0.heap.size w0 w
section
variable {w0 w:World} {g:Nat} {k:Int} {se:ByteArray} {v:Int} {wd:ByteArray} {wt:Int} {tm:Bool} {ti:Int} {T:TypeId}
theorem SBox.made (w:World):SBox w (w.alloc (.cells #[.int .i64 k,.string se,.int .i64 v,.string wd,.int .u64 wt,.bool tm,.int .i64 ti] T)) w.heap.size k se v wd wt tm ti T:=
  ⟨ZZk w _,(ZZb _ _).alloc (ZZa _) _⟩
theorem SBox.past (h:SBox w0 w g k se v wd wt tm ti T) {w':World} (hb:Below w.heap.size w w'):SBox w0 w' g k se v wd wt tm ti T:=⟨QoN h.row hb,h.bel.trans (hb.mono h.bel.size)⟩
end
theorem QdA {w:World} (k:Int) (se:ByteArray) (v:Int) (wd:ByteArray) (wt:Int) (tm:Bool) (ti:Int) (hm:MX w) (hse:se.size<=maxLen) (hwd:wd.size<=maxLen) :
    Calls Tryz.prog 39 #[QoC k se v wd wt tm ti] w fun e w'=>e=.returned (.bool (QbA k se v wd wt tm ti))/\Below w.heap.size w w':=by
  have HM:=Qaa (hm.past ((ZZb _ _).alloc (ZZa _) (.cells #[.int .i64 k,.string se,.int .i64 v,.string wd,.int .u64 wt,.bool tm,.int .i64 ti] 28)));have HB:=Qaa (SBox.made (k:=k) (se:=se) (v:=v) (wd:=wd) (wt:=wt) (tm:=tm) (ti:=ti) (T:=28) w);clear hm;have HU:Hid (∀ b,QbA k se v wd wt tm ti=b->Ending.returned (.bool b)=.returned (.bool (QbA k se v wd wt tm ti))):=(fun b h=>by rw [h]:∀ b,QbA k se v wd wt tm ti=b->Ending.returned (.bool b)=.returned (.bool (QbA k se v wd wt tm ti)));unfold QoC
  cases h1:Qhp k with
  | false=>
    have HE:Hid (QbA k se v wd wt tm ti=false):=(by simp [QbA,h1]:QbA k se v wd wt tm ti=false);go_enter Tryz.func39,Tryz.ntmps39;go_wp2_with (go_at_call 77;refine (QgG _ _).mono ?_;rintro e w1 ⟨rfl,aa⟩;obtain rfl:=aa;rw [h1]);go_ret;exact ⟨by rw [HE.out];rfl,HB.out.bel⟩
  | true=>
    go_enter Tryz.func39,Tryz.ntmps39;go_wp2_with fail;refine (QgG _ _).mono ?_;rintro e w1 ⟨rfl,aa⟩;obtain rfl:=aa;rw [h1];go_wp2_with fail;refine (QdK se HM hse).mono ?_;rintro e w2 ⟨rfl,ab⟩;replace HB:=Qaa (HB.out.past ab);clear ab HM;obtain ⟨c0,c1,c2,c3,c4,c5,c6⟩:=QlJ HB.out.row
    cases h2:Qbv se with
    | false=>
      have HE:Hid (QbA k se v wd wt tm ti=false):=(by simp [QbA,h2]:QbA k se v wd wt tm ti=false);go_wp2;go_ret;exact ⟨by rw [HE.out];rfl,HB.out.bel⟩
    | true=>
      go_wp2_with fail;clear c0 c1 c2 c3 c4 c5 c6;refine (QjV k se v wd wt tm ti hwd _).mono ?_;rintro e w3 ⟨rfl,ad⟩;replace HB:=Qaa (HB.out.past ad);clear ad;obtain ⟨c0,c1,c2,c3,c4,c5,c6⟩:=QlJ HB.out.row
      cases h3:QcE k v wd with
      | false=>
        have HE:Hid (QbA k se v wd wt tm ti=false):=(by simp [QbA,h3]:QbA k se v wd wt tm ti=false);go_wp2;go_ret;exact ⟨by rw [HE.out];rfl,HB.out.bel⟩
      | true=>
        go_wp2_with fail;clear c0 c1 c2 c3 c4 c5 c6;refine (QiG k se v wd wt tm ti _).mono ?_;rintro e w4 ⟨rfl,ae⟩;replace HB:=Qaa (HB.out.past ae);clear ae;obtain ⟨c0,c1,c2,c3,c4,c5,c6⟩:=QlJ HB.out.row
        cases h4:QbC k wt with
        | false=>
          have HE:Hid (QbA k se v wd wt tm ti=false):=(by simp [QbA,h4]:QbA k se v wd wt tm ti=false);go_wp2;go_ret;exact ⟨by rw [HE.out];rfl,HB.out.bel⟩
        | true=>
          have HE:Hid (QbA k se v wd wt tm ti=Qf9 tm ti):=(by simp [QbA,h1,h2,h3,h4]:QbA k se v wd wt tm ti=Qf9 tm ti);go_wp2_with fail;clear c0 c1 c2 c3 c4 c5 c6;refine (QkA k se v wd wt tm ti _).mono ?_;rintro e w5 ⟨rfl,ac⟩;replace HB:=Qaa (HB.out.past ac);clear ac
          cases h5:Qf9 tm ti <;> (go_wp2;go_ret;exact ⟨by rw [HE.out,h5];rfl,HB.out.bel⟩)
theorem Qij (n lo hi:Int) (w:World):Calls Tryz.prog 90 #[.int .i64 n,.int .i64 lo,.int .i64 hi] w fun e w'=>e=.returned (.bool (decide (lo<=n) && decide (n<=hi)))/\w'=w:=by
  by_cases h1:lo<=n <;> by_cases h2:n<=hi <;> (go_enter Tryz.func90,Tryz.ntmps90;go_wp2;go_ret;exact ⟨by simp [h1,h2],rfl⟩)
theorem Qii (v:Int) (w:World):Calls Tryz.prog 91 #[.int .i64 v] w fun e w'=>e=.returned (.bool (QoL v))/\w'=w:=by
  go_enter Tryz.func91,Tryz.ntmps91;go_wp2_with (go_at_call 90;refine (Qij _ _ _ _).mono ?_;rintro e w1 ⟨rfl,aa⟩;obtain rfl:=aa);go_ret;exact ⟨rfl,rfl⟩
theorem Qma {k:Int} (h:Qhp k=true):k=1∨k=2∨k=3∨k=4:=by
  unfold Qhp at h;simp only [Bool.and_eq_true,decide_eq_true_eq] at h;omega
theorem Qo7 {k:Int} {se:ByteArray} {v:Int} {wd:ByteArray} {wt:Int} {tm:Bool} {ti:Int} (h:QoL v=false):QbA k se v wd wt tm ti=false:=by
  have hw:QcE k v wd=false:=by
    unfold QcE
    split
    · have:v≠0:=fun e=>by subst e;revert h;decide
      simp [this]
    · simp [h]
  simp [QbA,hw]
theorem QhP {k:Int} {se:ByteArray} {v:Int} {wd:ByteArray} {wt:Int} {tm:Bool} {ti:Int} (h:wt<1∨1000000<wt):QbA k se v wd wt tm ti=false:=by
  have hw:QbC k wt=false:=by
    unfold QbC;rw [decide_eq_false (show ¬ wt=1 by omega)];rcases h with h | h
    · rw [decide_eq_false (show ¬ 0<wt by omega)];simp
    · rw [decide_eq_false (show ¬ wt<=1000000 by omega)];simp
  simp [QbA,hw]
theorem Qk5 {k:Int} {se:ByteArray} {v:Int} {wd:ByteArray} {wt:Int} {tm:Bool} {ti:Int} (h:(decide (0<=ti) && decide (ti<=1000000000))=false∨tm=false/\ti≠0):QbA k se v wd wt tm ti=false:=by
  have hw:Qf9 tm ti=false:=by
    unfold Qf9;rcases h with h | ⟨h1,h2⟩
    · split
      · exact h
      · exact ZZg (fun e=>by subst e;revert h;decide)
    · rw [h1];simp [h2]
  simp [QbA,hw]
theorem Qk2 {k:Int} {se:ByteArray} {v:Int} {wd:ByteArray} {wt:Int} {tm:Bool} {ti:Int} (h1:Qhp k=true) (h2:Qbv se=true) (h3:QoL v=true) (h4:1<=wt) (h5:wt<=1000000) (h6:(decide (0<=ti) && decide (ti<=1000000000))=true) (h7:tm=true∨ti=0) :
    QbA k se v wd wt tm ti=if k=4 then decide (v=0) && QbS wd && decide (wt=1) else decide (wd.size=0) && (decide (k≠2) || decide (wt=1)):=by
  have ht:Qf9 tm ti=true:=by
    unfold Qf9
    split
    · exact h6
    · rename_i hn
      rcases h7 with h | h
      · exact absurd h hn
      · exact ZZh h
  unfold QbA;rw [h1,h2,ht];have e0:decide (0<wt)=true:=ZZh (by omega);have e1:decide (wt<=1000000)=true:=ZZh h5;rcases Qma h1 with rfl | rfl | rfl | rfl <;> simp [QcE,QbC,h3,e0,e1]
theorem QdI {w:World} (k:Int) (se:ByteArray) (v:Int) (wd:ByteArray) (wt:Int) (tm:Bool) (ti:Int) (hse:se.size<=maxLen) (hwd:wd.size<=maxLen) :
    Calls Tryz.prog 46 #[QoC k se v wd wt tm ti] w fun e w'=>e=.returned (.bool (QbA k se v wd wt tm ti))/\Below w.heap.size w w':=by
  have HB:=Qaa (SBox.made (k:=k) (se:=se) (v:=v) (wd:=wd) (wt:=wt) (tm:=tm) (ti:=ti) (T:=28) w);unfold QoC;go_enter Tryz.func46,Tryz.ntmps46;go_wp2_with fail;refine (Qij _ _ _ _).mono ?_;rintro e w1 ⟨rfl,ab⟩;obtain rfl:=ab;have e1:(decide ((1:Int)<=k) && decide (k<=4))=Qhp k:=rfl;rw [e1];clear e1
  cases h1:Qhp k with
  | false=>
    have HE:Hid (QbA k se v wd wt tm ti=false):=(by simp [QbA,h1]:QbA k se v wd wt tm ti=false);go_wp2;go_ret;exact ⟨by rw [HE.out];rfl,HB.out.bel⟩
  | true=>
    go_wp2_with fail;refine (QaG se hse).mono ?_;rintro e w2 ⟨rfl,ae⟩;replace HB:=Qaa (HB.out.past ae);clear ae;obtain ⟨c0,c1,c2,c3,c4,c5,c6⟩:=QlJ HB.out.row
    cases h2:Qbv se with
    | false=>
      have HE:Hid (QbA k se v wd wt tm ti=false):=(by simp [QbA,h2]:QbA k se v wd wt tm ti=false);go_wp2;go_ret;exact ⟨by rw [HE.out];rfl,HB.out.bel⟩
    | true=>
      go_wp2_with fail;refine (Qii _ _).mono ?_;rintro e w3 ⟨rfl,ap⟩;obtain rfl:=ap
      cases h3:QoL v with
      | false=>
        have HE:Hid (QbA k se v wd wt tm ti=false):=Qo7 h3;go_wp2;go_ret;exact ⟨by rw [HE.out];rfl,HB.out.bel⟩
      | true=>
        by_cases h4:wt<1
        · have HE:Hid (QbA k se v wd wt tm ti=false):=QhP (.inl h4)
          go_wp2;go_ret;exact ⟨by rw [HE.out];rfl,HB.out.bel⟩
        by_cases h5:1000000<wt
        · have HE:Hid (QbA k se v wd wt tm ti=false):=QhP (.inr h5)
          go_wp2;go_ret;exact ⟨by rw [HE.out];rfl,HB.out.bel⟩
        go_wp2_with fail;refine (Qij _ _ _ _).mono ?_;rintro e w4 ⟨rfl,au⟩;obtain rfl:=au
        cases h6:(decide ((0:Int)<=ti) && decide (ti<=1000000000)) with
        | false=>
          have HE:Hid (QbA k se v wd wt tm ti=false):=Qk5 (.inl h6);clear h6;go_wp2;go_ret;exact ⟨by rw [HE.out];rfl,HB.out.bel⟩
        | true=>
          have H6:=Qaa h6;clear h6
          have ak:(tm=true∨ti=0)∨(tm=false/\ti≠0):=by
            cases tm with
            | true=>exact .inl (.inl rfl)
            | false => by_cases h : ti = 0
                       · exact .inl (.inr h)
                       · exact .inr ⟨rfl,h⟩
          rcases ak with an | ⟨rfl,ai⟩
          · have am:1<=wt:=by omega
            have al:wt<=1000000:=by omega
            by_cases ag:k=4
            · have HE:Hid (QbA k se v wd wt tm ti=(decide (v=0) && QbS wd && decide (wt=1))):=(by rw [Qk2 h1 h2 h3 am al H6.out an,if_pos ag]:QbA k se v wd wt tm ti=(decide (v=0) && QbS wd && decide (wt=1)))
              have aq:(k == 4)=true:=by simpa using ag
              by_cases af:v=0
              · have ar:(v == 0)=true:=by simpa using af
                cases htg:QbS wd with
                | false=>
                  have HF:Hid (QbA k se v wd wt tm ti=false):=(by rw [HE.out,htg];simp:QbA k se v wd wt tm ti=false);have aa:(tm=true/\True)∨(tm=false/\ti=0):=by cases tm <;> simp_all
                  rcases aa with ⟨rfl,_⟩ | ⟨rfl,rfl⟩
                  all_goals
                    go_wp2_with (go_at_call 92;refine (Qb8 _ _ hwd).mono ?_;rintro e w9 ⟨rfl,ad⟩;obtain rfl:=ad;rw [htg]);go_ret;exact ⟨by rw [HF.out];rfl,HB.out.bel⟩
                | true=>
                  have HF:Hid (QbA k se v wd wt tm ti=decide (wt=1)):=(by rw [HE.out,htg,decide_eq_true af];simp:QbA k se v wd wt tm ti=decide (wt=1));have aa:(tm=true/\True)∨(tm=false/\ti=0):=by cases tm <;> simp_all
                  by_cases ab:wt=1
                  · have ah:Hid (QbA k se v wd wt tm ti=true):=(by rw [HF.out];exact decide_eq_true ab:QbA k se v wd wt tm ti=true)
                    have aj:(wt == 1)=true:=by simpa using ab
                    rcases aa with ⟨rfl,_⟩ | ⟨rfl,rfl⟩
                    all_goals
                      go_wp2_with (go_at_call 92;refine (Qb8 _ _ hwd).mono ?_;rintro e w9 ⟨rfl,ad⟩;obtain rfl:=ad;rw [htg]);go_ret;exact ⟨by rw [ah.out];first | rfl | simp [ab],HB.out.bel⟩
                  · have ah:Hid (QbA k se v wd wt tm ti=false):=(by rw [HF.out];exact decide_eq_false ab:QbA k se v wd wt tm ti=false)
                    have aj:(wt == 1)=false:=by simpa using ab
                    rcases aa with ⟨rfl,_⟩ | ⟨rfl,rfl⟩
                    all_goals
                      go_wp2_with (go_at_call 92;refine (Qb8 _ _ hwd).mono ?_;rintro e w9 ⟨rfl,ad⟩;obtain rfl:=ad;rw [htg]);go_ret;exact ⟨by rw [ah.out];first | rfl | simp [ab],HB.out.bel⟩
              · have ar:(v == 0)=false:=by simpa using af
                have HF:Hid (QbA k se v wd wt tm ti=false):=(by rw [HE.out,decide_eq_false af];rfl:QbA k se v wd wt tm ti=false);have aa:(tm=true/\True)∨(tm=false/\ti=0):=by cases tm <;> simp_all
                rcases aa with ⟨rfl,_⟩ | ⟨rfl,rfl⟩
                all_goals
                  go_wp2;go_ret;exact ⟨by rw [HF.out];rfl,HB.out.bel⟩
            · have HE:Hid (QbA k se v wd wt tm ti=(decide (wd.size=0) && (decide (k≠2) || decide (wt=1)))):=(by rw [Qk2 h1 h2 h3 am al H6.out an,if_neg ag]:QbA k se v wd wt tm ti=(decide (wd.size=0) && (decide (k≠2) || decide (wt=1))))
              have aq:(k == 4)=false:=by simpa using ag
              have aa:(tm=true/\True)∨(tm=false/\ti=0):=by cases tm <;> simp_all
              by_cases h0:wd.size=0
              · have he:=isE0 h0
                by_cases ac:k=2
                · have ae:(k != 2)=false:=by simpa using ac
                  by_cases ab:wt=1
                  · have aj:(wt == 1)=true:=by simpa using ab
                    have HF:Hid (QbA k se v wd wt tm ti=true):=(by rw [HE.out];simp [h0,ab]:QbA k se v wd wt tm ti=true);rcases aa with ⟨rfl,_⟩ | ⟨rfl,rfl⟩
                    all_goals
                      go_wp2;go_ret;exact ⟨by rw [HF.out];first | rfl | simp [ab,he],HB.out.bel⟩
                  · have aj:(wt == 1)=false:=by simpa using ab
                    have HF:Hid (QbA k se v wd wt tm ti=false):=(by rw [HE.out];simp [h0,ab,ac]:QbA k se v wd wt tm ti=false);rcases aa with ⟨rfl,_⟩ | ⟨rfl,rfl⟩
                    all_goals
                      go_wp2;go_ret;exact ⟨by rw [HF.out];first | rfl | simp [ab,he],HB.out.bel⟩
                · have ae:(k != 2)=true:=by simpa using ac
                  have HF:Hid (QbA k se v wd wt tm ti=true):=(by rw [HE.out];simp [h0,ac]:QbA k se v wd wt tm ti=true);rcases aa with ⟨rfl,_⟩ | ⟨rfl,rfl⟩
                  all_goals
                    go_wp2;go_ret;exact ⟨by rw [HF.out];first | rfl | simp [he],HB.out.bel⟩
              · have he:=isE h0
                have HF:Hid (QbA k se v wd wt tm ti=false):=(by rw [HE.out];simp [h0]:QbA k se v wd wt tm ti=false);rcases aa with ⟨rfl,_⟩ | ⟨rfl,rfl⟩
                all_goals
                  go_wp2;go_ret;exact ⟨by rw [HF.out];first | rfl | simp [he],HB.out.bel⟩
          · have av:(ti == 0)=false:=by simpa using ai
            have ao:(ti != 0)=true:=by simpa using ai
            have HE:Hid (QbA k se v wd wt false ti=false):=Qk5 (.inr ⟨rfl,ai⟩);go_wp2;go_ret;exact ⟨by rw [HE.out];rfl,HB.out.bel⟩
structure Sx where
  k:Int
  se:ByteArray
  v:Int
  wd:ByteArray
  wt:Int
  tm:Bool
  ti:Int
noncomputable def Sx.B (x:Sx):Bool:=QbA x.k x.se x.v x.wd x.wt x.tm x.ti
structure Sx.Ok (x:Sx):Prop where
  k:I64 x.k
  v:I64 x.v
  wt:U64 x.wt
  ti:I64 x.ti
  se:x.se.size<=maxLen
  wd:x.wd.size<=maxLen
abbrev Qaz (x:Sx):Array Value:=#[.int .i64 x.k,.string x.se,.int .i64 x.v,.string x.wd,.int .u64 x.wt,.bool x.tm,.int .i64 x.ti]
def hx (s:ByteArray):Nat->Int
  | 0=>14695981039346656037
  | n+1=>IntKind.u64.wrap (bits BinOp.xor IntKind.u64 (hx s n) (bt s n)*1099511628211)
def Qdw (s:ByteArray):Int:=hx s s.size
def Qj8 (s:ByteArray):Int:=if s.size<=20000 then Qdw s else 0
theorem Qlv {s:ByteArray} (h:s.size<=20000):Qj8 s=Qdw s:=if_pos h
theorem Qpv {s:ByteArray} (h:¬ s.size<=20000):Qj8 s=0:=if_neg h
theorem Qrq {a b:Int} (h:a=b):Ending.returned (.int .u64 a)=.returned (.int .u64 b):=by rw [h]
theorem hx_in (s:ByteArray):∀ n,0<=hx s n/\hx s n<=18446744073709551615
  | 0=>by unfold hx;omega
  | n+1=>by unfold hx;rw [IntKind.wrap_u64];omega
theorem Qni (s:ByteArray) (k:Nat):IntKind.u64.wrap (bt s k)=bt s k:=by
  have h0:=bt_nonneg s k;have h1:=bt_le s k;rw [IntKind.wrap_u64];omega
theorem QgM (s:ByteArray) (hs:s.size<=maxLen) (w:World) :
    Calls Tryz.prog 314 #[.string s] w fun e w'=>e=.returned (.bool (decide (s.size<=20000)))/\w'=w:=by
  unfold maxLen at hs;have e:decide ((s.size:Int)<=20000)=decide (s.size<=20000):=decide_eq_decide.2 (by omega);go_enter Tryz.func314,Tryz.ntmps314;go_wp2;go_ret;exact ⟨rfl,rfl⟩
theorem QkE (s:ByteArray) (hs:s.size<=maxLen) (w:World) :
    Calls Tryz.prog 138 #[.string s] w fun e w'=>e=.returned (.int .u64 (Qdw s))/\w'=w:=by
  unfold maxLen at hs;have ab:=get_bt s;go_enter Tryz.func138,Tryz.ntmps138;go_wp2
  go_loop [3,4] (fun h i=>∃ k:Nat,k<=s.size/\i=.int .i64 k/\h=.int .u64 (hx s k)) (fun h i=>s.size - (Go.RowKit.intOf i).toNat)
  case atStart=>exact ⟨0,ZZj _,rfl,rfl⟩
  case round=>
    obtain ⟨k,hk,rfl,rfl⟩:=hrel;by_cases ac:k<s.size
    · have aa:=Qni s k
      obtain ⟨B,hB⟩:∃ B,bt s k=B:=⟨_,rfl⟩;rw [hB] at aa;obtain ⟨H,hH⟩:∃ H,hx s k=H:=⟨_,rfl⟩;have HS:Hid (IntKind.u64.wrap (bits BinOp.xor IntKind.u64 H B*1099511628211)=hx s (k+1)):=by rw [<- hB,<- hH];rfl
      go_wp2
      go_round
      case rel=>exact ⟨k+1,by omega,by go_num,by rw [<- HS.out]⟩
      case measure=>simp [zI];omega
    · have e:k=s.size:=by omega
      have HB:Hid (hx s k=Qdw s):=(by rw [e];rfl:hx s k=Qdw s);clear e;go_wp2;go_ret;exact ⟨Qrq HB,rfl⟩
theorem QpX (s:ByteArray) (hs:s.size<=maxLen) (w:World) :
    Calls Tryz.prog 311 #[.string s] w fun e w'=>e=.returned (.int .u64 (Qj8 s))/\w'=w:=by
  have hz:s.size<=9223372036854775807:=hs;have ab:=get_bt s;by_cases h:s.size<=20000
  · have e1:decide (s.size<=20000)=true:=ZZh h
    have HF:Hid (Qdw s=Qj8 s):=(Qlv h).symm;clear h;go_enter Tryz.func311,Tryz.ntmps311;go_wp2_with (go_at_call 314;refine (QgM _ hs _).mono ?_;rintro e w1 ⟨rfl,rfl⟩)
    go_loop [3,10,4] (fun h i _=>∃ k:Nat,k<=s.size/\i=.int .i64 k/\h=.int .u64 (hx s k)) (fun h i _=>s.size - (Go.RowKit.intOf i).toNat)
    case atStart=>exact ⟨0,ZZj _,rfl,rfl⟩
    case round=>
      obtain ⟨k,hk,rfl,rfl⟩:=hrel;by_cases ac:k<s.size
      · have aa:=Qni s k
        obtain ⟨B,hB⟩:∃ B,bt s k=B:=⟨_,rfl⟩;rw [hB] at aa;obtain ⟨H,hH⟩:∃ H,hx s k=H:=⟨_,rfl⟩;have HS:Hid (IntKind.u64.wrap (bits BinOp.xor IntKind.u64 H B*1099511628211)=hx s (k+1)):=by rw [<- hB,<- hH];rfl
        go_wp2
        go_round
        case rel=>exact ⟨k+1,by omega,by go_num,by rw [<- HS.out]⟩
        case measure=>simp [zI];omega
      · have e:k=s.size:=by omega
        have HB:Hid (hx s k=Qj8 s):=(by rw [<- HF.out,e];rfl:hx s k=Qj8 s);clear e;go_wp2;go_ret;exact ⟨Qrq HB,rfl⟩
  · have e1:decide (s.size<=20000)=false:=ZZg h
    have HF:Hid (0=Qj8 s):=(Qpv h).symm;clear h;go_enter Tryz.func311,Tryz.ntmps311;go_wp2_with (go_at_call 314;refine (QgM _ hs _).mono ?_;rintro e w1 ⟨rfl,rfl⟩);go_ret;exact ⟨Qrq HF,rfl⟩
end Go.Proofs.YtandnmpllheniaaGreatDoor
