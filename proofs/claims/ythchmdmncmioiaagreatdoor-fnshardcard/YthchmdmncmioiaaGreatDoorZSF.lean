/-
  Samples: what is right of each part, of the program.
-/
import Derived.Test.YthchmdmncmioiaaGreatDoorZSE
set_option maxHeartbeats 4000000
namespace Go.Proofs.YthchmdmncmioiaaGreatDoor
set_option linter.unusedVariables false
set_option linter.unusedSimpArgs false
open Go.ChangeShapes Go.WideShapes Go.ChangeAt Go.RowKit Go.PlainAid
set_option maxRecDepth 10000
def QnT (k:Int) (se:ByteArray) (v:Int) (wd:ByteArray) (wt:Int) (tm:Bool) (ti:Int):Value:=.agg #[.int .i64 k,.string se,.int .i64 v,.string wd,.int .u64 wt,.bool tm,.int .i64 ti]
def QgJ (k:Int):Bool:=decide (1<=k) && decide (k<=4)
def QoH (v:Int):Bool:=decide (-999999999999999999<=v) && decide (v<=999999999999999999)
def Qck (k v:Int) (wd:ByteArray):Bool:=if k=4 then decide (v=0) && QbB wd else QoH v && decide (wd.size=0)
def Qbq (k wt:Int):Bool:=decide (wt=1) || (decide (k=1) || decide (k=3)) && decide (0<wt) && decide (wt<=1000000)
def Qfv (tm:Bool) (ti:Int):Bool:=if tm=true then decide (0<=ti) && decide (ti<=1000000000) else decide (ti=0)
theorem QfV (k:Int) (w:World):Calls Tryz.prog 77 #[.int .i64 k] w fun e w'=>e=.returned (.bool (QgJ k))/\w'=w:=by
  by_cases h1:1<=k <;> by_cases h2:k<=4 <;> (go_enter Tryz.func77,Tryz.ntmps77;go_wp2;go_ret;exact ⟨by simp [QgJ,h1,h2],rfl⟩)
theorem Qc3 (v:Int) (w:World):Calls Tryz.prog 124 #[.int .i64 v] w fun e w'=>e=.returned (.bool (QoH v))/\w'=w:=by
  by_cases h1:-999999999999999999<=v <;> by_cases h2:v<=999999999999999999 <;> (go_enter Tryz.func124,Tryz.ntmps124;go_wp2;go_ret;exact ⟨by simp [QoH,h1,h2],rfl⟩)
theorem QeB (k:Int) (w:World):Calls Tryz.prog 125 #[.int .i64 k] w fun e w'=>e=.returned (.bool (decide (k=1) || decide (k=3)))/\w'=w:=by
  by_cases h1:k=1 <;> by_cases h2:k=3 <;> (go_enter Tryz.func125,Tryz.ntmps125;go_wp2;go_ret;exact ⟨by simp [h1,h2],rfl⟩)
theorem QjP (k:Int) (se:ByteArray) (v:Int) (wd:ByteArray) (wt:Int) (tm:Bool) (ti:Int) (w:World) :
    Calls Tryz.prog 81 #[QnT k se v wd wt tm ti] w fun e w'=>e=.returned (.bool (Qfv tm ti))/\Below w.heap.size w w':=by
  unfold QnT
  cases tm with
  | false=>
    by_cases h:ti=0
    · subst h
      go_enter Tryz.func81,Tryz.ntmps81;go_wp2
      (go_ret;exact ⟨by rfl,by first | exact (ZZb _ _).alloc (ZZa _) _ | exact ((ZZb _ _).alloc (ZZa _) _).drew | exact ((ZZb _ _).alloc (ZZa _) _).drew.drew⟩)
    · have hb:(ti == 0)=false:=by simpa using h
      go_enter Tryz.func81,Tryz.ntmps81;go_wp2
      (go_ret;exact ⟨by simp [Qfv,h],by first | exact (Below.refl _ _).alloc (Nat.le_refl _) _ | exact ((Below.refl _ _).alloc (Nat.le_refl _) _).drew | exact ((Below.refl _ _).alloc (Nat.le_refl _) _).drew.drew⟩)
  | true=>
    have hc:(0<=ti/\ti<=1000000000)∨(¬ 0<=ti/\ti<=1000000000)∨(0<=ti/\¬ ti<=1000000000):=by omega
    rcases hc with ⟨h1,h2⟩ | ⟨h1,h2⟩ | ⟨h1,h2⟩ <;> (go_enter Tryz.func81,Tryz.ntmps81;go_wp2; (go_ret;exact ⟨by simp [Qfv,h1,h2],by first | exact (Below.refl _ _).alloc (Nat.le_refl _) _ | exact ((Below.refl _ _).alloc (Nat.le_refl _) _).drew | exact ((Below.refl _ _).alloc (Nat.le_refl _) _).drew.drew⟩))
theorem Qh7 (k:Int) (se:ByteArray) (v:Int) (wd:ByteArray) (wt:Int) (tm:Bool) (ti:Int) (w:World) :
    Calls Tryz.prog 80 #[QnT k se v wd wt tm ti] w fun e w'=>e=.returned (.bool (Qbq k wt))/\Below w.heap.size w w':=by
  unfold QnT;by_cases h1:wt=1
  · subst h1
    have HE:Hid (Qbq k 1=true):=(by simp [Qbq]:Qbq k 1=true);go_enter Tryz.func80,Tryz.ntmps80;go_wp2
    (go_ret;exact ⟨by rw [HE.out];rfl,by first | exact (Below.refl _ _).alloc (Nat.le_refl _) _ | exact ((Below.refl _ _).alloc (Nat.le_refl _) _).drew | exact ((Below.refl _ _).alloc (Nat.le_refl _) _).drew.drew⟩)
  · have hb:(wt == 1)=false:=by simpa using h1
    cases hr:(decide (k=1) || decide (k=3)) with
    | false=>
      have HE:Hid (Qbq k wt=false):=(by unfold Qbq;rw [decide_eq_false h1,hr];rfl:Qbq k wt=false);go_enter Tryz.func80,Tryz.ntmps80;go_wp2_with (go_at_call 125;refine (QeB _ _).mono ?_;rintro e w1 ⟨rfl,hw1⟩;obtain rfl:=hw1;rw [hr])
      (go_ret;exact ⟨by rw [HE.out];rfl,by first | exact (Below.refl _ _).alloc (Nat.le_refl _) _ | exact ((Below.refl _ _).alloc (Nat.le_refl _) _).drew | exact ((Below.refl _ _).alloc (Nat.le_refl _) _).drew.drew⟩)
    | true=>
      have hc:(0<wt/\wt<=1000000)∨(¬ 0<wt/\wt<=1000000)∨(0<wt/\¬ wt<=1000000):=by omega
      rcases hc with ⟨h2,h3⟩ | ⟨h2,h3⟩ | ⟨h2,h3⟩
      all_goals
        have HE:Hid (Qbq k wt=(decide (0<wt) && decide (wt<=1000000))):=(by unfold Qbq;rw [decide_eq_false h1,hr];simp:Qbq k wt=(decide (0<wt) && decide (wt<=1000000)));go_enter Tryz.func80,Tryz.ntmps80;go_wp2_with (go_at_call 125;refine (QeB _ _).mono ?_;rintro e w1 ⟨rfl,hw1⟩;obtain rfl:=hw1;rw [hr])
        (go_ret;exact ⟨by rw [HE.out];simp [h2,h3],by first | exact (Below.refl _ _).alloc (Nat.le_refl _) _ | exact ((Below.refl _ _).alloc (Nat.le_refl _) _).drew | exact ((Below.refl _ _).alloc (Nat.le_refl _) _).drew.drew⟩)
theorem Qj1 (k:Int) (se:ByteArray) (v:Int) (wd:ByteArray) (wt:Int) (tm:Bool) (ti:Int) (hwd:wd.size<=maxLen) (w:World) :
    Calls Tryz.prog 79 #[QnT k se v wd wt tm ti] w fun e w'=>e=.returned (.bool (Qck k v wd))/\Below w.heap.size w w':=by
  unfold QnT;by_cases h4:k=4
  · subst h4
    by_cases hv:v=0
    · subst hv
      have HE:Hid (Qck 4 0 wd=QbB wd):=(by simp [Qck]:Qck 4 0 wd=QbB wd);go_enter Tryz.func79,Tryz.ntmps79;go_wp2_with (go_at_call 123;refine (Qde _ _ hwd).mono ?_;rintro e w1 ⟨rfl,hw1⟩;obtain rfl:=hw1)
      (go_ret;exact ⟨by rw [HE.out];rfl,by first | exact (Below.refl _ _).alloc (Nat.le_refl _) _ | exact ((Below.refl _ _).alloc (Nat.le_refl _) _).drew | exact ((Below.refl _ _).alloc (Nat.le_refl _) _).drew.drew⟩)
    · have hb:(v == 0)=false:=by simpa using hv
      have HE:Hid (Qck 4 v wd=false):=(by simp [Qck,hv]:Qck 4 v wd=false);go_enter Tryz.func79,Tryz.ntmps79;go_wp2
      (go_ret;exact ⟨by rw [HE.out];rfl,by first | exact (Below.refl _ _).alloc (Nat.le_refl _) _ | exact ((Below.refl _ _).alloc (Nat.le_refl _) _).drew | exact ((Below.refl _ _).alloc (Nat.le_refl _) _).drew.drew⟩)
  · have hb4:(k == 4)=false:=by simpa using h4
    cases hv:QoH v with
    | false=>
      have HE:Hid (Qck k v wd=false):=(by simp [Qck,h4,hv]:Qck k v wd=false);go_enter Tryz.func79,Tryz.ntmps79;go_wp2_with (go_at_call 124;refine (Qc3 _ _).mono ?_;rintro e w1 ⟨rfl,hw1⟩;obtain rfl:=hw1;rw [hv])
      (go_ret;exact ⟨by rw [HE.out];rfl,by first | exact (Below.refl _ _).alloc (Nat.le_refl _) _ | exact ((Below.refl _ _).alloc (Nat.le_refl _) _).drew | exact ((Below.refl _ _).alloc (Nat.le_refl _) _).drew.drew⟩)
    | true=>
      by_cases h0:wd.size=0
      · have he:=isE0 h0
        have HE:Hid (Qck k v wd=true):=(by simp [Qck,h4,hv,h0]:Qck k v wd=true);go_enter Tryz.func79,Tryz.ntmps79;go_wp2_with (go_at_call 124;refine (Qc3 _ _).mono ?_;rintro e w1 ⟨rfl,hw1⟩;obtain rfl:=hw1;rw [hv])
        (go_ret;exact ⟨by rw [HE.out];first | rfl | simp [he],by first | exact (Below.refl _ _).alloc (Nat.le_refl _) _ | exact ((Below.refl _ _).alloc (Nat.le_refl _) _).drew | exact ((Below.refl _ _).alloc (Nat.le_refl _) _).drew.drew⟩)
      · have he:=isE h0
        have HE:Hid (Qck k v wd=false):=(by simp [Qck,h4,hv,h0]:Qck k v wd=false);go_enter Tryz.func79,Tryz.ntmps79;go_wp2_with (go_at_call 124;refine (Qc3 _ _).mono ?_;rintro e w1 ⟨rfl,hw1⟩;obtain rfl:=hw1;rw [hv])
        (go_ret;exact ⟨by rw [HE.out];first | rfl | simp [he],by first | exact (Below.refl _ _).alloc (Nat.le_refl _) _ | exact ((Below.refl _ _).alloc (Nat.le_refl _) _).drew | exact ((Below.refl _ _).alloc (Nat.le_refl _) _).drew.drew⟩)
noncomputable def Qbm (k:Int) (se:ByteArray) (v:Int) (wd:ByteArray) (wt:Int) (tm:Bool) (ti:Int):Bool:=QgJ k && Qbh se && Qck k v wd && Qbq k wt && Qfv tm ti
theorem QkC {w:World} {g:Nat} {c0 c1 c2 c3 c4 c5 c6:Value} {T:TypeId} {fz:Nat×Nat} (h:w.heap[g]?=some (.cells #[c0,c1,c2,c3,c4,c5,c6] T fz)) :
    w.cell? ⟨g,0,none⟩=some c0/\w.cell? ⟨g,1,none⟩=some c1/\w.cell? ⟨g,2,none⟩=some c2/\w.cell? ⟨g,3,none⟩=some c3/\w.cell? ⟨g,4,none⟩=some c4/\w.cell? ⟨g,5,none⟩=some c5/\w.cell? ⟨g,6,none⟩=some c6:=
  ⟨by rw [cell_of_row w g 0 _ _ _ h];rfl,by rw [cell_of_row w g 1 _ _ _ h];rfl,by rw [cell_of_row w g 2 _ _ _ h];rfl,by rw [cell_of_row w g 3 _ _ _ h];rfl,by rw [cell_of_row w g 4 _ _ _ h];rfl,by rw [cell_of_row w g 5 _ _ _ h];rfl,by rw [cell_of_row w g 6 _ _ _ h];rfl⟩
theorem QoS {w w':World} {g:Nat} {o:Obj} (h:w.heap[g]?=some o) (hb:Below w.heap.size w w'):w'.heap[g]?=some o:=by
  rw [hb.block _ (Array.getElem?_eq_some_iff.1 h).1];exact h
structure SBox (w0 w:World) (g:Nat) (k:Int) (se:ByteArray) (v:Int) (wd:ByteArray) (wt:Int) (tm:Bool) (ti:Int) (T:TypeId):Prop where
  row:w.heap[g]?=some (.cells #[.int .i64 k,.string se,.int .i64 v,.string wd,.int .u64 wt,.bool tm,.int .i64 ti] T (0,0))
  bel:Below w0.heap.size w0 w
section
variable {w0 w:World} {g:Nat} {k:Int} {se:ByteArray} {v:Int} {wd:ByteArray} {wt:Int} {tm:Bool} {ti:Int} {T:TypeId}
theorem SBox.made (w:World):SBox w (w.alloc (.cells #[.int .i64 k,.string se,.int .i64 v,.string wd,.int .u64 wt,.bool tm,.int .i64 ti] T)) w.heap.size k se v wd wt tm ti T:=
  ⟨ZZk w _,(ZZb _ _).alloc (ZZa _) _⟩
theorem SBox.past (h:SBox w0 w g k se v wd wt tm ti T) {w':World} (hb:Below w.heap.size w w'):SBox w0 w' g k se v wd wt tm ti T:=⟨QoS h.row hb,h.bel.trans (hb.mono h.bel.size)⟩
end
theorem Qdx {w:World} (k:Int) (se:ByteArray) (v:Int) (wd:ByteArray) (wt:Int) (tm:Bool) (ti:Int) (hm:MX w) (hse:se.size<=maxLen) (hwd:wd.size<=maxLen) :
    Calls Tryz.prog 39 #[QnT k se v wd wt tm ti] w fun e w'=>e=.returned (.bool (Qbm k se v wd wt tm ti))/\Below w.heap.size w w':=by
  have HM:=Qaa (hm.past ((ZZb _ _).alloc (ZZa _) (.cells #[.int .i64 k,.string se,.int .i64 v,.string wd,.int .u64 wt,.bool tm,.int .i64 ti] 28)));have HB:=Qaa (SBox.made (k:=k) (se:=se) (v:=v) (wd:=wd) (wt:=wt) (tm:=tm) (ti:=ti) (T:=28) w);clear hm;have HU:Hid (∀ b,Qbm k se v wd wt tm ti=b->Ending.returned (.bool b)=.returned (.bool (Qbm k se v wd wt tm ti))):=(fun b h=>by rw [h]:∀ b,Qbm k se v wd wt tm ti=b->Ending.returned (.bool b)=.returned (.bool (Qbm k se v wd wt tm ti)));unfold QnT
  cases h1:QgJ k with
  | false=>
    have HE:Hid (Qbm k se v wd wt tm ti=false):=(by simp [Qbm,h1]:Qbm k se v wd wt tm ti=false);go_enter Tryz.func39,Tryz.ntmps39;go_wp2_with (go_at_call 77;refine (QfV _ _).mono ?_;rintro e w1 ⟨rfl,hw1⟩;obtain rfl:=hw1;rw [h1]);go_ret;exact ⟨by rw [HE.out];rfl,HB.out.bel⟩
  | true=>
    go_enter Tryz.func39,Tryz.ntmps39;go_wp2_with fail;refine (QfV _ _).mono ?_;rintro e w1 ⟨rfl,hw1⟩;obtain rfl:=hw1;rw [h1];go_wp2_with fail;refine (Qdl se HM.out hse).mono ?_;rintro e w2 ⟨rfl,hb2⟩;replace HB:=Qaa (HB.out.past hb2);clear hb2 HM;obtain ⟨c0,c1,c2,c3,c4,c5,c6⟩:=QkC HB.out.row
    cases h2:Qbh se with
    | false=>
      have HE:Hid (Qbm k se v wd wt tm ti=false):=(by simp [Qbm,h2]:Qbm k se v wd wt tm ti=false);go_wp2;go_ret;exact ⟨by rw [HE.out];rfl,HB.out.bel⟩
    | true=>
      go_wp2_with fail;clear c0 c1 c2 c3 c4 c5 c6;refine (Qj1 k se v wd wt tm ti hwd _).mono ?_;rintro e w3 ⟨rfl,hb3⟩;replace HB:=Qaa (HB.out.past hb3);clear hb3;obtain ⟨c0,c1,c2,c3,c4,c5,c6⟩:=QkC HB.out.row
      cases h3:Qck k v wd with
      | false=>
        have HE:Hid (Qbm k se v wd wt tm ti=false):=(by simp [Qbm,h3]:Qbm k se v wd wt tm ti=false);go_wp2;go_ret;exact ⟨by rw [HE.out];rfl,HB.out.bel⟩
      | true=>
        go_wp2_with fail;clear c0 c1 c2 c3 c4 c5 c6;refine (Qh7 k se v wd wt tm ti _).mono ?_;rintro e w4 ⟨rfl,hb4⟩;replace HB:=Qaa (HB.out.past hb4);clear hb4;obtain ⟨c0,c1,c2,c3,c4,c5,c6⟩:=QkC HB.out.row
        cases h4:Qbq k wt with
        | false=>
          have HE:Hid (Qbm k se v wd wt tm ti=false):=(by simp [Qbm,h4]:Qbm k se v wd wt tm ti=false);go_wp2;go_ret;exact ⟨by rw [HE.out];rfl,HB.out.bel⟩
        | true=>
          have HE:Hid (Qbm k se v wd wt tm ti=Qfv tm ti):=(by simp [Qbm,h1,h2,h3,h4]:Qbm k se v wd wt tm ti=Qfv tm ti);go_wp2_with fail;clear c0 c1 c2 c3 c4 c5 c6;refine (QjP k se v wd wt tm ti _).mono ?_;rintro e w5 ⟨rfl,hb5⟩;replace HB:=Qaa (HB.out.past hb5);clear hb5
          cases h5:Qfv tm ti <;> (go_wp2;go_ret;exact ⟨by rw [HE.out,h5];rfl,HB.out.bel⟩)
theorem QhE (n lo hi:Int) (w:World):Calls Tryz.prog 90 #[.int .i64 n,.int .i64 lo,.int .i64 hi] w fun e w'=>e=.returned (.bool (decide (lo<=n) && decide (n<=hi)))/\w'=w:=by
  by_cases h1:lo<=n <;> by_cases h2:n<=hi <;> (go_enter Tryz.func90,Tryz.ntmps90;go_wp2;go_ret;exact ⟨by simp [h1,h2],rfl⟩)
theorem Qh8 (v:Int) (w:World):Calls Tryz.prog 91 #[.int .i64 v] w fun e w'=>e=.returned (.bool (QoH v))/\w'=w:=by
  go_enter Tryz.func91,Tryz.ntmps91;go_wp2_with (go_at_call 90;refine (QhE _ _ _ _).mono ?_;rintro e w1 ⟨rfl,hw1⟩;obtain rfl:=hw1);go_ret;exact ⟨rfl,rfl⟩
theorem QlH {k:Int} (h:QgJ k=true):k=1∨k=2∨k=3∨k=4:=by
  unfold QgJ at h;simp only [Bool.and_eq_true,decide_eq_true_eq] at h;omega
theorem Qo3 {k:Int} {se:ByteArray} {v:Int} {wd:ByteArray} {wt:Int} {tm:Bool} {ti:Int} (h:QoH v=false):Qbm k se v wd wt tm ti=false:=by
  have hw:Qck k v wd=false:=by
    unfold Qck
    split
    · have:v≠0:=fun e=>by subst e;revert h;decide
      simp [this]
    · simp [h]
  simp [Qbm,hw]
theorem Qhk {k:Int} {se:ByteArray} {v:Int} {wd:ByteArray} {wt:Int} {tm:Bool} {ti:Int} (h:wt<1∨1000000<wt):Qbm k se v wd wt tm ti=false:=by
  have hw:Qbq k wt=false:=by
    unfold Qbq;rw [decide_eq_false (show ¬ wt=1 by omega)];rcases h with h | h
    · rw [decide_eq_false (show ¬ 0<wt by omega)];simp
    · rw [decide_eq_false (show ¬ wt<=1000000 by omega)];simp
  simp [Qbm,hw]
theorem Qll {k:Int} {se:ByteArray} {v:Int} {wd:ByteArray} {wt:Int} {tm:Bool} {ti:Int} (h:(decide (0<=ti) && decide (ti<=1000000000))=false∨tm=false/\ti≠0):Qbm k se v wd wt tm ti=false:=by
  have hw:Qfv tm ti=false:=by
    unfold Qfv;rcases h with h | ⟨h1,h2⟩
    · split
      · exact h
      · exact ZZg (fun e=>by subst e;revert h;decide)
    · rw [h1];simp [h2]
  simp [Qbm,hw]
theorem QkV {k:Int} {se:ByteArray} {v:Int} {wd:ByteArray} {wt:Int} {tm:Bool} {ti:Int} (h1:QgJ k=true) (h2:Qbh se=true) (h3:QoH v=true) (h4:1<=wt) (h5:wt<=1000000) (h6:(decide (0<=ti) && decide (ti<=1000000000))=true) (h7:tm=true∨ti=0) :
    Qbm k se v wd wt tm ti=if k=4 then decide (v=0) && QbB wd && decide (wt=1) else decide (wd.size=0) && (decide (k≠2) || decide (wt=1)):=by
  have ht:Qfv tm ti=true:=by
    unfold Qfv
    split
    · exact h6
    · rename_i hn
      rcases h7 with h | h
      · exact absurd h hn
      · exact ZZh h
  unfold Qbm;rw [h1,h2,ht];have e0:decide (0<wt)=true:=ZZh (by omega);have e1:decide (wt<=1000000)=true:=ZZh h5;rcases QlH h1 with rfl | rfl | rfl | rfl <;> simp [Qck,Qbq,h3,e0,e1]
theorem Qdv {w:World} (k:Int) (se:ByteArray) (v:Int) (wd:ByteArray) (wt:Int) (tm:Bool) (ti:Int) (hse:se.size<=maxLen) (hwd:wd.size<=maxLen) :
    Calls Tryz.prog 46 #[QnT k se v wd wt tm ti] w fun e w'=>e=.returned (.bool (Qbm k se v wd wt tm ti))/\Below w.heap.size w w':=by
  have HB:=Qaa (SBox.made (k:=k) (se:=se) (v:=v) (wd:=wd) (wt:=wt) (tm:=tm) (ti:=ti) (T:=28) w);unfold QnT;go_enter Tryz.func46,Tryz.ntmps46;go_wp2_with fail;refine (QhE _ _ _ _).mono ?_;rintro e w1 ⟨rfl,hw1⟩;obtain rfl:=hw1;have e1:(decide ((1:Int)<=k) && decide (k<=4))=QgJ k:=rfl;rw [e1];clear e1
  cases h1:QgJ k with
  | false=>
    have HE:Hid (Qbm k se v wd wt tm ti=false):=(by simp [Qbm,h1]:Qbm k se v wd wt tm ti=false);go_wp2;go_ret;exact ⟨by rw [HE.out];rfl,HB.out.bel⟩
  | true=>
    go_wp2_with fail;refine (QaD se hse).mono ?_;rintro e w2 ⟨rfl,hb2⟩;replace HB:=Qaa (HB.out.past hb2);clear hb2;obtain ⟨c0,c1,c2,c3,c4,c5,c6⟩:=QkC HB.out.row
    cases h2:Qbh se with
    | false=>
      have HE:Hid (Qbm k se v wd wt tm ti=false):=(by simp [Qbm,h2]:Qbm k se v wd wt tm ti=false);go_wp2;go_ret;exact ⟨by rw [HE.out];rfl,HB.out.bel⟩
    | true=>
      go_wp2_with fail;refine (Qh8 _ _).mono ?_;rintro e w3 ⟨rfl,hw3⟩;obtain rfl:=hw3
      cases h3:QoH v with
      | false=>
        have HE:Hid (Qbm k se v wd wt tm ti=false):=Qo3 h3;go_wp2;go_ret;exact ⟨by rw [HE.out];rfl,HB.out.bel⟩
      | true=>
        by_cases h4:wt<1
        · have HE:Hid (Qbm k se v wd wt tm ti=false):=Qhk (.inl h4)
          go_wp2;go_ret;exact ⟨by rw [HE.out];rfl,HB.out.bel⟩
        by_cases h5:1000000<wt
        · have HE:Hid (Qbm k se v wd wt tm ti=false):=Qhk (.inr h5)
          go_wp2;go_ret;exact ⟨by rw [HE.out];rfl,HB.out.bel⟩
        go_wp2_with fail;refine (QhE _ _ _ _).mono ?_;rintro e w4 ⟨rfl,hw4⟩;obtain rfl:=hw4
        cases h6:(decide ((0:Int)<=ti) && decide (ti<=1000000000)) with
        | false=>
          have HE:Hid (Qbm k se v wd wt tm ti=false):=Qll (.inl h6);clear h6;go_wp2;go_ret;exact ⟨by rw [HE.out];rfl,HB.out.bel⟩
        | true=>
          have H6:=Qaa h6;clear h6
          have hend:(tm=true∨ti=0)∨(tm=false/\ti≠0):=by
            cases tm with
            | true=>exact .inl (.inl rfl)
            | false => by_cases h : ti = 0
                       · exact .inl (.inr h)
                       · exact .inr ⟨rfl,h⟩
          rcases hend with hok | ⟨rfl,hti⟩
          · have hk1:1<=wt:=by omega
            have hk2:wt<=1000000:=by omega
            by_cases hk4:k=4
            · have HE:Hid (Qbm k se v wd wt tm ti=(decide (v=0) && QbB wd && decide (wt=1))):=(by rw [QkV h1 h2 h3 hk1 hk2 H6.out hok,if_pos hk4]:Qbm k se v wd wt tm ti=(decide (v=0) && QbB wd && decide (wt=1)))
              have hb4:(k == 4)=true:=by simpa using hk4
              by_cases hv0:v=0
              · have hbv:(v == 0)=true:=by simpa using hv0
                cases htg:QbB wd with
                | false=>
                  have HF:Hid (Qbm k se v wd wt tm ti=false):=(by rw [HE.out,htg];simp:Qbm k se v wd wt tm ti=false);have hok2:(tm=true/\True)∨(tm=false/\ti=0):=by cases tm <;> simp_all
                  rcases hok2 with ⟨rfl,_⟩ | ⟨rfl,rfl⟩
                  all_goals
                    go_wp2_with (go_at_call 92;refine (QbT _ _ hwd).mono ?_;rintro e w9 ⟨rfl,hw9⟩;obtain rfl:=hw9;rw [htg]);go_ret;exact ⟨by rw [HF.out];rfl,HB.out.bel⟩
                | true=>
                  have HF:Hid (Qbm k se v wd wt tm ti=decide (wt=1)):=(by rw [HE.out,htg,decide_eq_true hv0];simp:Qbm k se v wd wt tm ti=decide (wt=1));have hok2:(tm=true/\True)∨(tm=false/\ti=0):=by cases tm <;> simp_all
                  by_cases hw1:wt=1
                  · have HF2:Hid (Qbm k se v wd wt tm ti=true):=(by rw [HF.out];exact decide_eq_true hw1:Qbm k se v wd wt tm ti=true)
                    have hbw:(wt == 1)=true:=by simpa using hw1
                    rcases hok2 with ⟨rfl,_⟩ | ⟨rfl,rfl⟩
                    all_goals
                      go_wp2_with (go_at_call 92;refine (QbT _ _ hwd).mono ?_;rintro e w9 ⟨rfl,hw9⟩;obtain rfl:=hw9;rw [htg]);go_ret;exact ⟨by rw [HF2.out];first | rfl | simp [hw1],HB.out.bel⟩
                  · have HF2:Hid (Qbm k se v wd wt tm ti=false):=(by rw [HF.out];exact decide_eq_false hw1:Qbm k se v wd wt tm ti=false)
                    have hbw:(wt == 1)=false:=by simpa using hw1
                    rcases hok2 with ⟨rfl,_⟩ | ⟨rfl,rfl⟩
                    all_goals
                      go_wp2_with (go_at_call 92;refine (QbT _ _ hwd).mono ?_;rintro e w9 ⟨rfl,hw9⟩;obtain rfl:=hw9;rw [htg]);go_ret;exact ⟨by rw [HF2.out];first | rfl | simp [hw1],HB.out.bel⟩
              · have hbv:(v == 0)=false:=by simpa using hv0
                have HF:Hid (Qbm k se v wd wt tm ti=false):=(by rw [HE.out,decide_eq_false hv0];rfl:Qbm k se v wd wt tm ti=false);have hok2:(tm=true/\True)∨(tm=false/\ti=0):=by cases tm <;> simp_all
                rcases hok2 with ⟨rfl,_⟩ | ⟨rfl,rfl⟩
                all_goals
                  go_wp2;go_ret;exact ⟨by rw [HF.out];rfl,HB.out.bel⟩
            · have HE:Hid (Qbm k se v wd wt tm ti=(decide (wd.size=0) && (decide (k≠2) || decide (wt=1)))):=(by rw [QkV h1 h2 h3 hk1 hk2 H6.out hok,if_neg hk4]:Qbm k se v wd wt tm ti=(decide (wd.size=0) && (decide (k≠2) || decide (wt=1))))
              have hb4:(k == 4)=false:=by simpa using hk4
              have hok2:(tm=true/\True)∨(tm=false/\ti=0):=by cases tm <;> simp_all
              by_cases h0:wd.size=0
              · have he:=isE0 h0
                by_cases hk2':k=2
                · have hb2:(k != 2)=false:=by simpa using hk2'
                  by_cases hw1:wt=1
                  · have hbw:(wt == 1)=true:=by simpa using hw1
                    have HF:Hid (Qbm k se v wd wt tm ti=true):=(by rw [HE.out];simp [h0,hw1]:Qbm k se v wd wt tm ti=true);rcases hok2 with ⟨rfl,_⟩ | ⟨rfl,rfl⟩
                    all_goals
                      go_wp2;go_ret;exact ⟨by rw [HF.out];first | rfl | simp [hw1,he],HB.out.bel⟩
                  · have hbw:(wt == 1)=false:=by simpa using hw1
                    have HF:Hid (Qbm k se v wd wt tm ti=false):=(by rw [HE.out];simp [h0,hw1,hk2']:Qbm k se v wd wt tm ti=false);rcases hok2 with ⟨rfl,_⟩ | ⟨rfl,rfl⟩
                    all_goals
                      go_wp2;go_ret;exact ⟨by rw [HF.out];first | rfl | simp [hw1,he],HB.out.bel⟩
                · have hb2:(k != 2)=true:=by simpa using hk2'
                  have HF:Hid (Qbm k se v wd wt tm ti=true):=(by rw [HE.out];simp [h0,hk2']:Qbm k se v wd wt tm ti=true);rcases hok2 with ⟨rfl,_⟩ | ⟨rfl,rfl⟩
                  all_goals
                    go_wp2;go_ret;exact ⟨by rw [HF.out];first | rfl | simp [he],HB.out.bel⟩
              · have he:=isE h0
                have HF:Hid (Qbm k se v wd wt tm ti=false):=(by rw [HE.out];simp [h0]:Qbm k se v wd wt tm ti=false);rcases hok2 with ⟨rfl,_⟩ | ⟨rfl,rfl⟩
                all_goals
                  go_wp2;go_ret;exact ⟨by rw [HF.out];first | rfl | simp [he],HB.out.bel⟩
          · have hbt:(ti == 0)=false:=by simpa using hti
            have hbt2:(ti != 0)=true:=by simpa using hti
            have HE:Hid (Qbm k se v wd wt false ti=false):=Qll (.inr ⟨rfl,hti⟩);go_wp2;go_ret;exact ⟨by rw [HE.out];rfl,HB.out.bel⟩
structure Sx where
  k:Int
  se:ByteArray
  v:Int
  wd:ByteArray
  wt:Int
  tm:Bool
  ti:Int
noncomputable def Sx.B (x:Sx):Bool:=Qbm x.k x.se x.v x.wd x.wt x.tm x.ti
structure Sx.Ok (x:Sx):Prop where
  k:I64 x.k
  v:I64 x.v
  wt:U64 x.wt
  ti:I64 x.ti
  se:x.se.size<=maxLen
  wd:x.wd.size<=maxLen
abbrev Qax (x:Sx):Array Value:=#[.int .i64 x.k,.string x.se,.int .i64 x.v,.string x.wd,.int .u64 x.wt,.bool x.tm,.int .i64 x.ti]
def hx (s:ByteArray):Nat->Int
  | 0=>14695981039346656037
  | n+1=>IntKind.u64.wrap (bits BinOp.xor IntKind.u64 (hx s n) (bt s n)*1099511628211)
def Qc5 (s:ByteArray):Int:=hx s s.size
def QjU (s:ByteArray):Int:=if s.size<=20000 then Qc5 s else 0
theorem Qk7 {s:ByteArray} (h:s.size<=20000):QjU s=Qc5 s:=if_pos h
theorem Qoh {s:ByteArray} (h:¬ s.size<=20000):QjU s=0:=if_neg h
theorem QqC {a b:Int} (h:a=b):Ending.returned (.int .u64 a)=.returned (.int .u64 b):=by rw [h]
theorem hx_in (s:ByteArray):∀ n,0<=hx s n/\hx s n<=18446744073709551615
  | 0=>by unfold hx;omega
  | n+1=>by unfold hx;rw [IntKind.wrap_u64];omega
theorem QmG (s:ByteArray) (k:Nat):IntKind.u64.wrap (bt s k)=bt s k:=by
  have h0:=bt_nonneg s k;have h1:=bt_le s k;rw [IntKind.wrap_u64];omega
theorem Qgb (s:ByteArray) (hs:s.size<=maxLen) (w:World) :
    Calls Tryz.prog 314 #[.string s] w fun e w'=>e=.returned (.bool (decide (s.size<=20000)))/\w'=w:=by
  unfold maxLen at hs;have e:decide ((s.size:Int)<=20000)=decide (s.size<=20000):=decide_eq_decide.2 (by omega);go_enter Tryz.func314,Tryz.ntmps314;go_wp2;go_ret;exact ⟨rfl,rfl⟩
theorem QjL (s:ByteArray) (hs:s.size<=maxLen) (w:World) :
    Calls Tryz.prog 138 #[.string s] w fun e w'=>e=.returned (.int .u64 (Qc5 s))/\w'=w:=by
  unfold maxLen at hs;have hbt:=get_bt s;go_enter Tryz.func138,Tryz.ntmps138;go_wp2
  go_loop [3,4] (fun h i=>∃ k:Nat,k<=s.size/\i=.int .i64 k/\h=.int .u64 (hx s k)) (fun h i=>s.size - (Go.RowKit.intOf i).toNat)
  case atStart=>exact ⟨0,ZZj _,rfl,rfl⟩
  case round=>
    obtain ⟨k,hk,rfl,rfl⟩:=hrel;by_cases hlt:k<s.size
    · have hwb:=QmG s k
      obtain ⟨B,hB⟩:∃ B,bt s k=B:=⟨_,rfl⟩;rw [hB] at hwb;obtain ⟨H,hH⟩:∃ H,hx s k=H:=⟨_,rfl⟩;have HS:Hid (IntKind.u64.wrap (bits BinOp.xor IntKind.u64 H B*1099511628211)=hx s (k+1)):=by rw [<- hB,<- hH];rfl
      go_wp2
      go_round
      case rel=>exact ⟨k+1,by omega,by go_num,by rw [<- HS.out]⟩
      case measure=>simp [Go.RowKit.intOf];omega
    · have e:k=s.size:=by omega
      have HB:Hid (hx s k=Qc5 s):=(by rw [e];rfl:hx s k=Qc5 s);clear e;go_wp2;go_ret;exact ⟨QqC HB.out,rfl⟩
theorem QoP (s:ByteArray) (hs:s.size<=maxLen) (w:World) :
    Calls Tryz.prog 311 #[.string s] w fun e w'=>e=.returned (.int .u64 (QjU s))/\w'=w:=by
  have hz:s.size<=9223372036854775807:=hs;have hbt:=get_bt s;by_cases h:s.size<=20000
  · have e1:decide (s.size<=20000)=true:=ZZh h
    have HF:Hid (Qc5 s=QjU s):=(Qk7 h).symm;clear h;go_enter Tryz.func311,Tryz.ntmps311;go_wp2_with (go_at_call 314;refine (Qgb _ hs _).mono ?_;rintro e w1 ⟨rfl,rfl⟩)
    go_loop [3,10,4] (fun h i _=>∃ k:Nat,k<=s.size/\i=.int .i64 k/\h=.int .u64 (hx s k)) (fun h i _=>s.size - (Go.RowKit.intOf i).toNat)
    case atStart=>exact ⟨0,ZZj _,rfl,rfl⟩
    case round=>
      obtain ⟨k,hk,rfl,rfl⟩:=hrel;by_cases hlt:k<s.size
      · have hwb:=QmG s k
        obtain ⟨B,hB⟩:∃ B,bt s k=B:=⟨_,rfl⟩;rw [hB] at hwb;obtain ⟨H,hH⟩:∃ H,hx s k=H:=⟨_,rfl⟩;have HS:Hid (IntKind.u64.wrap (bits BinOp.xor IntKind.u64 H B*1099511628211)=hx s (k+1)):=by rw [<- hB,<- hH];rfl
        go_wp2
        go_round
        case rel=>exact ⟨k+1,by omega,by go_num,by rw [<- HS.out]⟩
        case measure=>simp [Go.RowKit.intOf];omega
      · have e:k=s.size:=by omega
        have HB:Hid (hx s k=QjU s):=(by rw [<- HF.out,e];rfl:hx s k=QjU s);clear e;go_wp2;go_ret;exact ⟨QqC HB.out,rfl⟩
  · have e1:decide (s.size<=20000)=false:=ZZg h
    have HF:Hid (0=QjU s):=(Qoh h).symm;clear h;go_enter Tryz.func311,Tryz.ntmps311;go_wp2_with (go_at_call 314;refine (Qgb _ hs _).mono ?_;rintro e w1 ⟨rfl,rfl⟩);go_ret;exact ⟨QqC HF.out,rfl⟩
end Go.Proofs.YthchmdmncmioiaaGreatDoor
