/-
 Parts.
-/
import Derived.Test.YtlejlgldgafljaaGreatDoorVWC
import Derived.Lib.PathFns
import Derived.Lib.TrimByte
set_option maxHeartbeats 8000000
set_option maxRecDepth 10000
set_option linter.all false
namespace Go.Proofs.YtlejlgldgafljaaGreatDoor
open Go.ChangeShapes Go.WideShapes Go.ChangeAt Go.RowKit Go.PlainAid Tryz
section
def smpV (k:Int) (se:ByteArray) (v:Int) (wd:ByteArray) (wt:Int) (tm:Bool) (ti:Int):Value:=.agg #[.int .i64 k,.string se,.int .i64 v,.string wd,.int .u64 wt,.bool tm,.int .i64 ti]
end
variable {w w':World}
variable {g i r:Nat}
variable {T:TypeId}
variable {k ti v wt:Int}
variable {a b nm se wd x:ByteArray}
variable {tm:Bool}
section
theorem cell7M {c0 c1 c2 c3 c4 c5 c6:Value} {fz:Nat×Nat} (h:w.heap[g]?=some (.cells #[c0,c1,c2,c3,c4,c5,c6] T fz)) :
    w.cell? ⟨g,0,none⟩=some c0/\w.cell? ⟨g,1,none⟩=some c1/\w.cell? ⟨g,2,none⟩=some c2/\w.cell? ⟨g,3,none⟩=some c3/\w.cell? ⟨g,4,none⟩=some c4/\w.cell? ⟨g,5,none⟩=some c5/\w.cell? ⟨g,6,none⟩=some c6:=
  ⟨by rw [cell_of_row w g 0 _ _ _ h];rfl,by rw [cell_of_row w g 1 _ _ _ h];rfl,by rw [cell_of_row w g 2 _ _ _ h];rfl,by rw [cell_of_row w g 3 _ _ _ h];rfl,by rw [cell_of_row w g 4 _ _ _ h];rfl,by rw [cell_of_row w g 5 _ _ _ h];rfl,by rw [cell_of_row w g 6 _ _ _ h];rfl⟩
theorem Qre {o:Obj} (h:w.heap[g]?=some o) (hb:Bw w w'):w'.heap[g]?=some o:=by
  rw [hb.block _ (Array.getElem?_eq_some_iff.1 h).1];exact h
structure SBox (w0 w:World) (g:Nat) (k:Int) (se:ByteArray) (v:Int) (wd:ByteArray) (wt:Int) (tm:Bool) (ti:Int) (T:TypeId):Prop where
  row:w.heap[g]?=some (.cells #[.int .i64 k,.string se,.int .i64 v,.string wd,.int .u64 wt,.bool tm,.int .i64 ti] T (0,0))
  bel:Bw w0 w
section
variable {w0 w:World} {g:Nat} {k:Int} {se:ByteArray} {v:Int} {wd:ByteArray} {wt:Int} {tm:Bool} {ti:Int} {T:TypeId}
theorem SBox.made (w:World):SBox w (w.alloc (.cells #[.int .i64 k,.string se,.int .i64 v,.string wd,.int .u64 wt,.bool tm,.int .i64 ti] T)) w.heap.size k se v wd wt tm ti T:=
  ⟨ZZk w _,(ZZb _ _).alloc (ZZa _) _⟩
theorem SBox.past (h:SBox w0 w g k se v wd wt tm ti T) (hb:Bw w w'):SBox w0 w' g k se v wd wt tm ti T:=⟨Qre h.row hb,h.bel.trans (hb.mono h.bel.size)⟩
end
theorem Qin (n lo hi:Int) (w:World):Calls prog 33 #[.int .i64 n,.int .i64 lo,.int .i64 hi] w fun e w'=>e=.returned (.bool (decide (lo<=n) && decide (n<=hi)))/\w'=w:=by
  by_cases h1:lo<=n <;> by_cases h2:n<=hi <;> (go_enter func33,ntmps33;go_wp2;go_ret;exact ⟨by simp [h1,h2],rfl⟩)
theorem Qi3 (v:Int) (w:World):Calls prog 124 #[.int .i64 v] w fun e w'=>e=.returned (.bool (Qs5 v))/\w'=w:=by
  go_enter func124,ntmps124;go_wp2_with (go_at_call 33;refine (Qin _ _ _ _).mono ?_;rintro e w1 ⟨rfl,aa⟩;obtain rfl:=aa);go_ret;exact ⟨rfl,rfl⟩
theorem Qik (h:Qim k=true):k=1∨k=2∨k=3∨k=4:=by
  unfold Qim at h;simp only [yB,decide_eq_true_eq] at h;omega
theorem Qsh (h:Qs5 v=false):QbK k se v wd wt tm ti=false:=by
  have hw:Qjw k v wd=false:=by
    unfold Qjw
    split
    · have:v≠0:=fun e=>by subst e;revert h;decide
      simp [this]
    · simp [h]
  simp [QbK,hw]
theorem QhW (h:wt<1∨1000000<wt):QbK k se v wd wt tm ti=false:=by
  have hw:Qc1 k wt=false:=by
    unfold Qc1;rw [decide_eq_false (show ¬ wt=1 by omega)];rcases h with h | h
    · rw [decide_eq_false (show ¬ 0<wt by omega)];simp
    · rw [decide_eq_false (show ¬ wt<=1000000 by omega)];simp
  simp [QbK,hw]
theorem Ql3 (h:(decide (0<=ti) && decide (ti<=1000000000))=false∨tm=false/\ti≠0):QbK k se v wd wt tm ti=false:=by
  have hw:Qhc tm ti=false:=by
    unfold Qhc;rcases h with h | ⟨h1,h2⟩
    · split
      · exact h
      · exact ZZg (fun e=>by subst e;revert h;decide)
    · rw [h1];simp [h2]
  simp [QbK,hw]
theorem Ql9 (h1:Qim k=true) (h2:Qbt se=true) (h3:Qs5 v=true) (h4:1<=wt) (h5:wt<=1000000) (h6:(decide (0<=ti) && decide (ti<=1000000000))=true) (h7:tm=true∨ti=0) :
    QbK k se v wd wt tm ti=if k=4 then decide (v=0) && Qbn wd && decide (wt=1) else decide (wd.size=0) && (decide (k≠2) || decide (wt=1)):=by
  have ht:Qhc tm ti=true:=by
    unfold Qhc
    split
    · exact h6
    · rename_i hn
      rcases h7 with h | h
      · exact absurd h hn
      · exact ZZh h
  unfold QbK;rw [h1,h2,ht];have e0:decide (0<wt)=true:=ZZh (by omega);have e1:decide (wt<=1000000)=true:=ZZh h5;rcases Qik h1 with rfl | rfl | rfl | rfl <;> simp [Qjw,Qc1,h3,e0,e1]
theorem QcA (k:Int) (se:ByteArray) (v:Int) (wd:ByteArray) (wt:Int) (tm:Bool) (ti:Int) (hse:se.size<=maxLen) (hwd:wd.size<=maxLen) :
    Calls prog 87 #[smpV k se v wd wt tm ti] w fun e w'=>e=.returned (.bool (QbK k se v wd wt tm ti))/\Bw w w':=by
  have HB:=Qaa (SBox.made (k:=k) (se:=se) (v:=v) (wd:=wd) (wt:=wt) (tm:=tm) (ti:=ti) (T:=97) w);unfold smpV;go_enter func87,ntmps87;go_wp2_with fail;refine (Qin _ _ _ _).mono ?_;rintro e w1 ⟨rfl,ab⟩;obtain rfl:=ab;have e1:(decide ((1:Int)<=k) && decide (k<=4))=Qim k:=rfl;rw [e1];clear e1
  cases h1:Qim k with
  | false=>
    have HE:Hid (QbK k se v wd wt tm ti=false):=(by simp [QbK,h1]:QbK k se v wd wt tm ti=false);go_wp2;go_ret;exact ⟨by rw [HE.out];rfl,HB.bel⟩
  | true=>
    go_wp2_with fail;refine (Qdi se hse).mono ?_;rintro e w2 ⟨rfl,af⟩;replace HB:=Qaa (HB.past af);clear af;obtain ⟨c0,c1,c2,c3,c4,c5,c6⟩:=cell7M HB.row
    cases h2:Qbt se with
    | false=>
      have HE:Hid (QbK k se v wd wt tm ti=false):=(by simp [QbK,h2]:QbK k se v wd wt tm ti=false);go_wp2;go_ret;exact ⟨by rw [HE.out];rfl,HB.bel⟩
    | true=>
      go_wp2_with fail;refine (Qi3 _ _).mono ?_;rintro e w3 ⟨rfl,au⟩;obtain rfl:=au
      cases h3:Qs5 v with
      | false=>
        have HE:Hid (QbK k se v wd wt tm ti=false):=Qsh h3;go_wp2;go_ret;exact ⟨by rw [HE.out];rfl,HB.bel⟩
      | true=>
        by_cases h4:wt<1
        · have HE:Hid (QbK k se v wd wt tm ti=false):=QhW (.inl h4)
          go_wp2;go_ret;exact ⟨by rw [HE.out];rfl,HB.bel⟩
        by_cases h5:1000000<wt
        · have HE:Hid (QbK k se v wd wt tm ti=false):=QhW (.inr h5)
          go_wp2;go_ret;exact ⟨by rw [HE.out];rfl,HB.bel⟩
        go_wp2_with fail;refine (Qin _ _ _ _).mono ?_;rintro e w4 ⟨rfl,ar⟩;obtain rfl:=ar
        cases h6:(decide ((0:Int)<=ti) && decide (ti<=1000000000)) with
        | false=>
          have HE:Hid (QbK k se v wd wt tm ti=false):=Ql3 (.inl h6);clear h6;go_wp2;go_ret;exact ⟨by rw [HE.out];rfl,HB.bel⟩
        | true=>
          have H6:=Qaa h6;clear h6
          have ak:(tm=true∨ti=0)∨(tm=false/\ti≠0):=by
            cases tm with
            | true=>exact .inl (.inl rfl)
            | false => by_cases h : ti = 0
                       · exact .inl (.inr h)
                       · exact .inr ⟨rfl,h⟩
          rcases ak with al | ⟨rfl,ai⟩
          · have an:1<=wt:=by omega
            have am:wt<=1000000:=by omega
            by_cases ag:k=4
            · have HE:Hid (QbK k se v wd wt tm ti=(decide (v=0) && Qbn wd && decide (wt=1))):=(by rw [Ql9 h1 h2 h3 an am H6.out al,if_pos ag]:QbK k se v wd wt tm ti=(decide (v=0) && Qbn wd && decide (wt=1)))
              have ao:(k == 4)=true:=by simpa using ag
              by_cases ae:v=0
              · have aq:(v == 0)=true:=by simpa using ae
                cases htg:Qbn wd with
                | false=>
                  have HF:Hid (QbK k se v wd wt tm ti=false):=(by rw [HE.out,htg];simp:QbK k se v wd wt tm ti=false);have aa:(tm=true/\True)∨(tm=false/\ti=0):=by cases tm <;> simp_all
                  rcases aa with ⟨rfl,_⟩ | ⟨rfl,rfl⟩
                  all_goals
                    go_wp2_with (go_at_call 125;refine (Qbw _ _ hwd).mono ?_;rintro e w9 ⟨rfl,ad⟩;obtain rfl:=ad;rw [htg]);go_ret;exact ⟨by rw [HF.out];rfl,HB.bel⟩
                | true=>
                  have HF:Hid (QbK k se v wd wt tm ti=decide (wt=1)):=(by rw [HE.out,htg,decide_eq_true ae];simp:QbK k se v wd wt tm ti=decide (wt=1));have aa:(tm=true/\True)∨(tm=false/\ti=0):=by cases tm <;> simp_all
                  by_cases ab:wt=1
                  · have aj:Hid (QbK k se v wd wt tm ti=true):=(by rw [HF.out];exact decide_eq_true ab:QbK k se v wd wt tm ti=true)
                    have ah:(wt == 1)=true:=by simpa using ab
                    rcases aa with ⟨rfl,_⟩ | ⟨rfl,rfl⟩
                    all_goals
                      go_wp2_with (go_at_call 125;refine (Qbw _ _ hwd).mono ?_;rintro e w9 ⟨rfl,ad⟩;obtain rfl:=ad;rw [htg]);go_ret;exact ⟨by rw [aj.out];first | rfl | simp [ab],HB.bel⟩
                  · have aj:Hid (QbK k se v wd wt tm ti=false):=(by rw [HF.out];exact decide_eq_false ab:QbK k se v wd wt tm ti=false)
                    have ah:(wt == 1)=false:=by simpa using ab
                    rcases aa with ⟨rfl,_⟩ | ⟨rfl,rfl⟩
                    all_goals
                      go_wp2_with (go_at_call 125;refine (Qbw _ _ hwd).mono ?_;rintro e w9 ⟨rfl,ad⟩;obtain rfl:=ad;rw [htg]);go_ret;exact ⟨by rw [aj.out];first | rfl | simp [ab],HB.bel⟩
              · have aq:(v == 0)=false:=by simpa using ae
                have HF:Hid (QbK k se v wd wt tm ti=false):=(by rw [HE.out,decide_eq_false ae];rfl:QbK k se v wd wt tm ti=false);have aa:(tm=true/\True)∨(tm=false/\ti=0):=by cases tm <;> simp_all
                rcases aa with ⟨rfl,_⟩ | ⟨rfl,rfl⟩
                all_goals
                  go_wp2;go_ret;exact ⟨by rw [HF.out];rfl,HB.bel⟩
            · have HE:Hid (QbK k se v wd wt tm ti=(decide (wd.size=0) && (decide (k≠2) || decide (wt=1)))):=(by rw [Ql9 h1 h2 h3 an am H6.out al,if_neg ag]:QbK k se v wd wt tm ti=(decide (wd.size=0) && (decide (k≠2) || decide (wt=1))))
              have ao:(k == 4)=false:=by simpa using ag
              have aa:(tm=true/\True)∨(tm=false/\ti=0):=by cases tm <;> simp_all
              by_cases h0:wd.size=0
              · have he:=isE0 h0
                by_cases ac:k=2
                · have af:(k != 2)=false:=by simpa using ac
                  by_cases ab:wt=1
                  · have ah:(wt == 1)=true:=by simpa using ab
                    have HF:Hid (QbK k se v wd wt tm ti=true):=(by rw [HE.out];simp [h0,ab]:QbK k se v wd wt tm ti=true);rcases aa with ⟨rfl,_⟩ | ⟨rfl,rfl⟩
                    all_goals
                      go_wp2;go_ret;exact ⟨by rw [HF.out];first | rfl | simp [ab,he],HB.bel⟩
                  · have ah:(wt == 1)=false:=by simpa using ab
                    have HF:Hid (QbK k se v wd wt tm ti=false):=(by rw [HE.out];simp [h0,ab,ac]:QbK k se v wd wt tm ti=false);rcases aa with ⟨rfl,_⟩ | ⟨rfl,rfl⟩
                    all_goals
                      go_wp2;go_ret;exact ⟨by rw [HF.out];first | rfl | simp [ab,he],HB.bel⟩
                · have af:(k != 2)=true:=by simpa using ac
                  have HF:Hid (QbK k se v wd wt tm ti=true):=(by rw [HE.out];simp [h0,ac]:QbK k se v wd wt tm ti=true);rcases aa with ⟨rfl,_⟩ | ⟨rfl,rfl⟩
                  all_goals
                    go_wp2;go_ret;exact ⟨by rw [HF.out];first | rfl | simp [he],HB.bel⟩
              · have he:=isE h0
                have HF:Hid (QbK k se v wd wt tm ti=false):=(by rw [HE.out];simp [h0]:QbK k se v wd wt tm ti=false);rcases aa with ⟨rfl,_⟩ | ⟨rfl,rfl⟩
                all_goals
                  go_wp2;go_ret;exact ⟨by rw [HF.out];first | rfl | simp [he],HB.bel⟩
          · have av:(ti == 0)=false:=by simpa using ai
            have ap:(ti != 0)=true:=by simpa using ai
            have HE:Hid (QbK k se v wd wt false ti=false):=Ql3 (.inr ⟨rfl,ai⟩);go_wp2;go_ret;exact ⟨by rw [HE.out];rfl,HB.bel⟩
end
variable {L':List UInt8}
section
def dgt (x:Nat):UInt8:=UInt8.ofNat (48+x)
theorem QdU:∀ {x:Nat},x<10->dgt x=48->x=0:=by decide
def six (r:Nat):List UInt8:=[dgt (r / 100000 % 10),dgt (r / 10000 % 10),dgt (r / 1000 % 10),dgt (r / 100 % 10),dgt (r / 10 % 10),dgt (r % 10)]
theorem dec7 (h:r<1000000):Lib.decDigits (1000000+r)=49 :: six r:=by
  have st:∀ a b:Nat,1<=a->Lib.decDigits (10*a+b)=Lib.decDigits (a+b / 10) ++ [dgt (b % 10)]:=fun a b ha=>by
    rw [Qeq (by omega),show (10*a+b) / 10=a+b / 10 by omega,show (10*a+b) % 10=b % 10 by omega];rfl
  rw [show 1000000+r=10*100000+r by omega,st _ _ (by omega),show 100000+r / 10=10*10000+r / 10 by omega,st _ _ (by omega),Nat.div_div_eq_div_mul,
    show 10000+r / (10*10)=10*1000+r / 100 by omega,st _ _ (by omega),Nat.div_div_eq_div_mul,
    show 1000+r / (100*10)=10*100+r / 1000 by omega,st _ _ (by omega),Nat.div_div_eq_div_mul,
    show 100+r / (1000*10)=10*10+r / 10000 by omega,st _ _ (by omega),Nat.div_div_eq_div_mul,
    show 10+r / (10000*10)=10*1+r / 100000 by omega,st _ _ (by omega),Nat.div_div_eq_div_mul,
    show 1+r / (100000*10)=1 by omega,Lib.decDigits_one (by omega)]
  rfl
theorem Qsw (h:r<1000000) (h0:r≠0):∃ x∈six r,x≠48:=by
  refine Classical.byContradiction fun hn=>h0 ?_;have aa:∀ x∈six r,x=48:=fun x hx=>Classical.byContradiction fun hne=>hn ⟨x,hx,hne⟩;have a1:=QdU (Nat.mod_lt _ (by omega)) (aa (dgt (r / 100000 % 10)) (by simp [six]));have a2:=QdU (Nat.mod_lt _ (by omega)) (aa (dgt (r / 10000 % 10)) (by simp [six]));have a3:=QdU (Nat.mod_lt _ (by omega)) (aa (dgt (r / 1000 % 10)) (by simp [six]));have a4:=QdU (Nat.mod_lt _ (by omega)) (aa (dgt (r / 100 % 10)) (by simp [six]));have a5:=QdU (Nat.mod_lt _ (by omega)) (aa (dgt (r / 10 % 10)) (by simp [six]));have a6:=QdU (Nat.mod_lt _ (by omega)) (aa (dgt (r % 10)) (by simp [six]));omega
theorem Qiy (L:List UInt8) (c:UInt8):Lib.trimRightB (L ++ [c]) c=Lib.trimRightB L c:=by
  unfold Lib.trimRightB;rw [List.reverse_append];simp
theorem Qhp (L:List UInt8) (x c:UInt8) (h:x≠c):Lib.trimRightB (L ++ [x]) c=L ++ [x]:=by
  unfold Lib.trimRightB;rw [List.reverse_append];simp [h]
def TrR (r:Nat) (L:List UInt8):Prop:=Lib.trimRightB L 48=Lib.trimRightB (six r) 48/\(∃ x∈L,x≠48)/\L.length<=6
theorem Qne {L:List UInt8} (h:TrR r L):∃ L' x,L=L' ++ [x]:=by
  rcases List.eq_nil_or_concat L with e | ⟨L',x,e⟩
  · obtain ⟨x,hx,_⟩:=h.2.1;rw [e] at hx;cases hx
  · exact ⟨L',x,by rw [e,List.concat_eq_append]⟩
theorem Ql7 (h:TrR r (L' ++ [48])):TrR r L':=by
  refine ⟨by rw [<- h.1,Qiy],?_,by have:=h.2.2;simp at this;omega⟩;obtain ⟨x,hx,aa⟩:=h.2.1;rcases List.mem_append.1 hx with k | k
  · exact ⟨x,k,aa⟩
  · exact absurd (List.mem_singleton.1 k) aa
theorem Qpr {x:UInt8} (h:TrR r (L' ++ [x])) (hx:x≠48):Lib.trimRightB (six r) 48=L' ++ [x]:=by
  rw [<- h.1,Qhp _ _ _ hx]
theorem Qkn (h:r<1000000) (h0:r≠0):TrR r (six r):=⟨rfl,Qsw h h0,ZZa _⟩
def ptx (r:Nat):ByteArray:=⟨(Lib.trimRightB (six r) 48).toArray⟩
def dtx (n:Nat):ByteArray:=⟨(Lib.decDigits n).toArray⟩
theorem Qsk (r:Nat):(ptx r).size<=6:=by
  show (Lib.trimRightB (six r) 48).length<=6
  unfold Lib.trimRightB;rw [List.length_reverse];have h:=(List.dropWhile_sublist (fun x:UInt8=>x == 48) (l:=(six r).reverse)).length_le;rw [List.length_reverse] at h;exact h
theorem Qf9 (n:Nat) (h:n<=9223372036854775807):(dtx n).size<=21:=QpI n h
def sgx (v:Int):ByteArray:=if v<0 then ⟨#[45]⟩ else ⟨#[]⟩
def vtx (v:Int):ByteArray:=
  if -999999999999999999<=v/\v<=999999999999999999 then (if v.natAbs % 1000000=0 then sgx v ++ dtx (v.natAbs / 1000000) else sgx v ++ dtx (v.natAbs / 1000000) ++ ⟨#[46]⟩ ++ ptx (v.natAbs % 1000000)) else ⟨#[]⟩
theorem tail7 (h:r<1000000):(dtx (1000000+r)).extract 1 (dtx (1000000+r)).size=⟨(six r).toArray⟩:=by
  rw [Lib.extract_from];unfold dtx;rw [dec7 h];rfl
end
variable {K:List ByteArray}
section
theorem QbJ (h:a.size+b.size<=1000000):Op.stringOp .add a b=pure (.string (a ++ b)):=by
  unfold Op.stringOp
  have:¬ (((a.size+b.size:Nat):Int) > IntKind.i64.max):=by
    have e:IntKind.i64.max=9223372036854775807:=by decide
    rw [e];omega
  simp only;rw [if_neg this]
def whX (k v:Int) (wd:ByteArray):ByteArray:=if k=4 then wd else vtx v
def ltX (k:Int):ByteArray:=if k=1 then ⟨#[99]⟩ else if k=2 then ⟨#[103]⟩ else if k=3 then ⟨#[104]⟩ else ⟨#[115]⟩
def lnA (nm:ByteArray) (k v:Int) (wd:ByteArray):ByteArray:=nm ++ ⟨#[58]⟩ ++ whX k v wd ++ ⟨#[124]⟩ ++ ltX k
def lnB (a:ByteArray) (wt:Int):ByteArray:=if 1<wt then a ++ (⟨#[124,64]⟩ ++ vtx (1000000 / wt)) else a
def lnC (b:ByteArray) (K:List ByteArray):ByteArray:=if K.length=0 then b else b ++ (⟨#[124,35]⟩ ++ ⟨(QaQ K).toArray⟩)
def lnD (c:ByteArray) (tm:Bool) (ti:Int):ByteArray:=if tm=true then c ++ (⟨#[124,84]⟩ ++ dtx ti.toNat) else c
def lnX (nm:ByteArray) (K:List ByteArray) (k v:Int) (wd:ByteArray) (wt:Int) (tm:Bool) (ti:Int):ByteArray:=lnD (lnC (lnB (lnA nm k v wd) wt) K) tm ti
theorem QiA (v:Int):(vtx v).size<=40:=by
  unfold vtx
  split
  · rename_i h
    have h1:v.natAbs / 1000000<=9223372036854775807:=by omega
    have h2:=Qf9 _ h1;have h3:=Qsk (v.natAbs % 1000000);have h4:(sgx v).size<=1:=by unfold sgx;split <;> decide
    split
    · rw [ByteArray.size_append];omega
    · rw [ByteArray.size_append,ByteArray.size_append,ByteArray.size_append]
      have:(⟨#[46]⟩:ByteArray).size=1:=rfl;omega
  · decide
theorem Qr9 (k:Int):(ltX k).size=1:=by unfold ltX;split;rfl;split;rfl;split;rfl;rfl
theorem Qmd (h:wd.size<=40):(whX k v wd).size<=40:=by unfold whX;split;exact h;exact QiA v
theorem Qmb (h:nm.size<=40) (hw:wd.size<=40):(lnA nm k v wd).size<=100:=by
  unfold lnA;have h1:=Qmd (k:=k) (v:=v) hw;have h2:=Qr9 k;rw [ByteArray.size_append,ByteArray.size_append,ByteArray.size_append,ByteArray.size_append];have e1:(⟨#[58]⟩:ByteArray).size=1:=rfl;have e2:(⟨#[124]⟩:ByteArray).size=1:=rfl;omega
theorem QlM (h:a.size<=100):(lnB a wt).size<=150:=by
  unfold lnB;have:=QiA (1000000 / wt)
  split
  · rw [ByteArray.size_append,ByteArray.size_append]
    have e2:(⟨#[124,64]⟩:ByteArray).size=2:=rfl;omega
  · omega
theorem QqT (h:∀ x∈K,x.size<=20) (hK:K.length<=8):(⟨(QaQ K).toArray⟩:ByteArray).size<=168:=by
  have:=QeY h
  show (QaQ K).toArray.size<=168
  simp only [List.size_toArray];have:K.length*(20+1)<=168:=by omega
  omega
theorem Qm6 (hb:b.size<=150) (h:∀ x∈K,x.size<=20) (hK:K.length<=8):(lnC b K).size<=400:=by
  unfold lnC;have:=QqT h hK
  split
  · omega
  · rw [ByteArray.size_append,ByteArray.size_append]
    have e2:(⟨#[124,35]⟩:ByteArray).size=2:=rfl;omega
theorem Qme (h:nm.size<=40) (hw:wd.size<=40) (hk:∀ x∈K,x.size<=20) (hK:K.length<=8) (ht:ti<=1000000000):(lnX nm K k v wd wt tm ti).size<=500:=by
  unfold lnX lnD;have h1:=Qm6 (QlM (wt:=wt) (Qmb (k:=k) (v:=v) h hw)) hk hK;have h2:=Qf9 ti.toNat (by omega)
  split
  · rw [ByteArray.size_append,ByteArray.size_append]
    have e2:(⟨#[124,84]⟩:ByteArray).size=2:=rfl;omega
  · omega
structure LxO (nm:ByteArray) (K:List ByteArray) (k v:Int) (wd:ByteArray) (wt ti:Int):Prop where
  n:K.length<=8
  nm:nm.size<=40
  K:∀ x∈K,x.size<=20
  k:k=1∨k=2∨k=3∨k=4
  v:-999999999999999999<=v/\v<=999999999999999999
  wd:wd.size<=40
  wt:1<=wt/\wt<=1000000
  ti:0<=ti/\ti<=1000000000
theorem lx_of (h:QbK k se v wd wt tm ti=true) (hs:Qhr se nm K):LxO nm K k v wd wt ti:=by
  unfold QbK at h;simp only [yB] at h;obtain ⟨⟨⟨⟨h1,_⟩,h2⟩,h3⟩,h4⟩:=h
  have a2:(-999999999999999999<=v/\v<=999999999999999999)/\wd.size<=40:=by
    unfold Qjw at h2
    split at h2
    · simp only [yB,decide_eq_true_eq] at h2
      refine ⟨by omega,?_⟩;have:=h2.2;unfold Qbn at this;simp only [yB,decide_eq_true_eq] at this;omega
    · unfold Qs5 at h2
      simp only [yB,decide_eq_true_eq] at h2;exact ⟨h2.1,by omega⟩
  have a3:1<=wt/\wt<=1000000:=by
    unfold Qc1 at h3;simp only [yB,Bool.or_eq_true,decide_eq_true_eq] at h3;omega
  have a4:0<=ti/\ti<=1000000000:=by
    unfold Qhc at h4
    split at h4
    · simpa using h4
    · simp only [decide_eq_true_eq] at h4;omega
  obtain ⟨s1,s2,_,s4,_⟩:=hs
  have n1:nm.size<=40:=by
    unfold QaB at s1;simp only [yB,decide_eq_true_eq] at s1;omega
  refine ⟨s4,n1,fun x hx=>?_,Qik h1,a2.1,a2.2,a3,a4⟩;have:=List.all_eq_true.1 s2 x hx;unfold Qbn at this;simp only [yB,decide_eq_true_eq] at this;omega
end
section
def pdx (r:Nat):ByteArray:=if r=0 then ⟨#[]⟩ else ⟨#[46]⟩ ++ ptx r
theorem QtK (A:ByteArray) (r:Nat):A ++ pdx r=(if r=0 then A else A ++ ⟨#[46]⟩ ++ ptx r):=by
  unfold pdx;split
  · apply ByteArray.ext;rw [ByteArray.data_append];simp
  · rw [ByteArray.append_assoc]
theorem vtx_at {n:Nat} (hv:-999999999999999999<=v/\v<=999999999999999999) (hn:n=v.natAbs):sgx v ++ dtx (n / 1000000) ++ pdx (n % 1000000)=vtx v:=by
  unfold vtx;rw [if_pos hv,QtK,hn]
end
section
theorem Qcz {cs:Array Value} (h:w.heap[r]?=some (.cells cs T (0,0))) (j:Nat) {v:Value} (e:cs[j]?=some v):w.cell? ⟨r,j,none⟩=some v:=by rw [cell_of_row _ _ j _ _ (0,0) h];exact e
end
section
def eqL (s:Sm) (k:Int) (se:ByteArray) (v:Int) (wd:ByteArray) (wt:Int) (tm:Bool) (ti:Int):Bool:=(s.k == k) && ((s.se.toList == se.toList) && ((s.va == v) && ((s.wd.toList == wd.toList) && ((s.wt == wt) && ((s.td == tm) && (((s.ti:Int) == ti) && (s.c == 0)))))))
def TxR (t:ByteArray) (k:Int) (se:ByteArray) (v:Int) (wd:ByteArray) (wt:Int) (tm:Bool) (ti:Int) (r:ByteArray):Prop:=∃ s,LnR t s/\r=if eqL s k se v wd wt tm ti=true then t else ⟨#[]⟩
def LxA (k:Int) (se:ByteArray) (v:Int) (wd:ByteArray) (wt:Int) (tm:Bool) (ti:Int) (r:ByteArray):Prop:=(QbK k se v wd wt tm ti=false/\r=⟨#[]⟩)∨(QbK k se v wd wt tm ti=true/\∃ nm K,Qhr se nm K/\TxR (lnX nm K k v wd wt tm ti) k se v wd wt tm ti r)
theorem QuU (h:QbK k se v wd wt tm ti=true):∃ nm K,Qhr se nm K:=by
  unfold QbK at h;simp only [yB] at h;by_cases hp:Qca se
  · exact hp
  · have:=h.1.1.1.2
    rw [QbY hp] at this
    cases this
end
section
theorem Qmf (N:Nat) (hN:N<=9223372036854775807) (w:World) :
    Calls prog 101 #[.int .i64 N] w fun e w'=>e=.returned (.string (dtx N))/\Bw w w':=by
  by_cases h:N=0
  · subst h
    have HE:Hid (⟨#[48]⟩=dtx 0):=(by unfold dtx;rw [Lib.decDigits_one (by omega)];rfl:⟨#[48]⟩=dtx 0);go_enter func101,ntmps101;go_wp2;go_ret;exact ⟨Qea HE,ZZb _ _⟩
  · exact Qds N h hN w
theorem QgJ (z:Int) (h0:0<=z) (h1:z<=9223372036854775807) (w:World) :
    Calls prog 101 #[.int .i64 z] w fun e w'=>e=.returned (.string (dtx z.toNat))/\Bw w w':=by
  have:=Qmf z.toNat (by omega) w
  rwa [Int.toNat_of_nonneg h0] at this
theorem Qvg (v a b:Int) (w:World) :
    Calls prog 33 #[.int .i64 v,.int .i64 a,.int .i64 b] w fun e w'=>e=.returned (.bool (decide (a<=v) && decide (v<=b)))/\w'=w:=by
  by_cases h1:a<=v <;> by_cases h2:v<=b <;> (go_enter func33,ntmps33;go_wp2;go_ret;exact ⟨by simp [h1,h2],rfl⟩)
theorem Qid (v:Int) (w:World) :
    Calls prog 124 #[.int .i64 v] w fun e w'=>e=.returned (.bool (decide (-999999999999999999<=v) && decide (v<=999999999999999999)))/\w'=w:=by
  go_enter func124,ntmps124;go_wp2_with (go_at_call 33;refine (Qvg _ _ _ _).mono ?_;rintro e w1 ⟨rfl,hw⟩;obtain rfl:=hw.symm);go_ret;exact ⟨rfl,rfl⟩
theorem Qfj (v:Int) (h:¬ (-999999999999999999<=v/\v<=999999999999999999)) (w:World) :
    Calls prog 119 #[.int .i64 v] w fun e w'=>e=.returned (.string (vtx v))/\Bw w w':=by
  have HE:Hid (⟨#[]⟩=vtx v):=(by unfold vtx;rw [if_neg h]:⟨#[]⟩=vtx v)
  have HC:Hid (∀ w,Calls prog 124 #[.int .i64 v] w fun e w'=>e=.returned (.bool false)/\w'=w):=fun w=>by
    have:=Qid v w
    rwa [show (decide (-999999999999999999<=v) && decide (v<=999999999999999999))=false by
      cases h':(decide (-999999999999999999<=v) && decide (v<=999999999999999999)) with
      | false=>rfl
      | true=>exact absurd ⟨of_decide_eq_true (Bool.and_eq_true_iff.1 h').1,of_decide_eq_true (Bool.and_eq_true_iff.1 h').2⟩ h] at this
  clear h;go_enter func119,ntmps119;go_wp2_with (go_at_call 124;refine (HC.out _).mono ?_;rintro e w1 ⟨rfl,hw⟩;obtain rfl:=hw.symm);go_ret;exact ⟨Qea HE,ZZb _ _⟩
theorem Qot (L:List UInt8) (x:UInt8):bt ⟨(L ++ [x]).toArray⟩ L.length=(x.toNat:Int):=by
  unfold bt;rw [dif_pos (show L.length<ByteArray.size ⟨(L ++ [x]).toArray⟩ by show L.length<(L ++ [x]).length;simp)]
  show (((L ++ [x]).toArray[L.length]'_).toNat:Int)=_
  simp
theorem QmD (L:List UInt8) (x:UInt8):(⟨(L ++ [x]).toArray⟩:ByteArray).extract 0 L.length=⟨L.toArray⟩:=by
  rw [Lib.extract_upto];simp
def strSz:Value->Nat
  | .string s=>s.size
  | _=>0
theorem QfT (v:Int) (h:-999999999999999999<=v/\v<=999999999999999999) (w:World) :
    Calls prog 119 #[.int .i64 v] w fun e w'=>e=.returned (.string (vtx v))/\Bw w w':=by
  obtain ⟨n,hn⟩:∃ n,n=v.natAbs:=⟨_,rfl⟩;obtain ⟨q,hq⟩:∃ q,q=n / 1000000:=⟨_,rfl⟩;obtain ⟨r,hr⟩:∃ r,r=n % 1000000:=⟨_,rfl⟩;have ae:r<1000000:=by omega
  have af:q<=9223372036854775807:=by omega
  have HE:Hid (sgx v ++ dtx q ++ pdx r=vtx v):=(by rw [hq,hr];exact vtx_at h hn:sgx v ++ dtx q ++ pdx r=vtx v);have e1:Int.tdiv (n:Int) 1000000=(q:Int):=by rw [hq];rfl
  have e2:Int.tmod (n:Int) 1000000=(r:Int):=by rw [hr];rfl
  have hd:=Qf9 q af
  have HC:Hid (∀ w,Calls prog 124 #[.int .i64 v] w fun e w'=>e=.returned (.bool true)/\w'=w):=fun w=>by
    have:=Qid v w
    rwa [ZZh h.1,ZZh h.2] at this
  have HQ:Hid (∀ w,Calls prog 101 #[.int .i64 (q:Int)] w fun e w'=>e=.returned (.string (dtx q))/\Bw w w'):=fun w=>Qmf q af w;by_cases hv:v<0
  · have ai:v=-(n:Int):=by omega
    obtain ⟨v0,ab⟩:∃ v0,v0=v:=⟨_,rfl⟩;have HS:Hid (sgx v0=⟨#[45]⟩):=(by rw [ab];exact if_pos hv:sgx v0=⟨#[45]⟩);rw [<- ab] at HE;clear hq hr hn;subst ai;have HV:Hid (v0=-(n:Int)):=ab;have HG:Hid (vtx v0=vtx (-(n:Int))):=(by rw [ab]:vtx v0=vtx (-(n:Int)));rw [<- HG.out];clear ab
    · by_cases hz:r=0
      · have HZ:Hid (pdx r=⟨#[]⟩):=(by unfold pdx;rw [if_pos hz]:pdx r=⟨#[]⟩)
        have al:((r:Int) == 0)=true:=by simp [hz]
        have HA:Hid (⟨#[45]⟩ ++ dtx q=vtx v0):=(by rw [<- HE.out,HZ.out,HS.out];apply ByteArray.ext;rw [ByteArray.data_append];simp:⟨#[45]⟩ ++ dtx q=vtx v0);clear hz;go_enter func119,ntmps119
        go_wp2_with (first
          | (go_at_call 124;refine (HC.out _).mono ?_;rintro e w0 ⟨rfl,hw⟩;obtain rfl:=hw.symm)
          | (go_at_call 101;refine (HQ.out _).mono ?_;rintro e w1 ⟨rfl,ad⟩))
        go_ret;exact ⟨Qea HA,ad⟩
      · have HZ:Hid (pdx r=⟨#[46]⟩ ++ ptx r):=(by unfold pdx;rw [if_neg hz]:pdx r=⟨#[46]⟩ ++ ptx r)
        have al:((r:Int) == 0)=false:=ZZf.2 (by omega);have HA:Hid (⟨#[45]⟩ ++ dtx q ++ ⟨#[46]⟩ ++ ptx r=vtx v0):=(by rw [<- HE.out,HZ.out,HS.out,ByteArray.append_assoc]:⟨#[45]⟩ ++ dtx q ++ ⟨#[46]⟩ ++ ptx r=vtx v0);have HT:Hid (TrR r (six r)):=Qkn ae hz;have hx:(dtx (1000000+r)).extract 1 (dtx (1000000+r)).size=⟨(six r).toArray⟩:=tail7 ae;obtain ⟨S,hS⟩:∃ S,S=dtx (1000000+r):=⟨_,rfl⟩;have am:S.size=7:=by rw [hS];show (Lib.decDigits (1000000+r)).length=7;rw [dec7 ae];rfl
        have ar:dtx (1000000+(r:Int)).toNat=S:=by rw [hS];congr 1
        have ao:(0:Int)<=(q:Int):=by omega
        have au:(q:Int)<=9223372036854775807:=by omega
        have aq:dtx ((q:Int)).toNat=dtx q:=rfl;rw [<- hS,am] at hx;clear hz hS;have hB:Bw w w:=ZZb _ _;go_enter func119,ntmps119
        go_wp2_with (first
          | (go_at_call 124;refine (HC.out _).mono ?_;rintro e w0 ⟨rfl,hw⟩;obtain rfl:=hw.symm)
          | (go_at_call 101;refine (QgJ _ (by omega) (by omega) _).mono ?_;rintro e w1 ⟨rfl,ad⟩;have hB:=hB.trans (ad.mono hB.size)))
        go_loopw [5] (fun d wr=>wr=w1/\∃ L,d=.string ⟨L.toArray⟩/\TrR r L) (fun d wr=>strSz d)
        case atStart=>exact ⟨rfl,six r,rfl,HT⟩
        case round=>
          obtain ⟨an,L,rfl,hR⟩:=hrel;subst an;obtain ⟨L',x,rfl⟩:=Qne hR;obtain ⟨D,hD⟩:∃ D,D=(⟨(L' ++ [x]).toArray⟩:ByteArray):=⟨_,rfl⟩;have ap:=get_bt D;have aj:D.size=L'.length+1:=by rw [hD];show (L' ++ [x]).length=_;simp
          have ac:bt D L'.length=(x.toNat:Int):=by rw [hD];exact Qot L' x
          have ag:D.extract 0 L'.length=⟨L'.toArray⟩:=by rw [hD];exact QmD L' x
          have ah:L'.length+1<=6:=by have:=hR.2.2;simpa using this
          rw [<- hD];obtain ⟨m,hm⟩:∃ m,m=L'.length:=⟨_,rfl⟩;rw [<- hm] at aj ac ag ah;by_cases aa:x=48
          · have HR:Hid (TrR r L'):=Ql7 (by rw [aa] at hR;exact hR)
            have ak:(bt D m == 48)=true:=by rw [ac,aa];rfl
            have HM:Hid (L'.length<D.size):=(by omega:L'.length<D.size);clear hR aa hD hm;go_wp2;go_roundw
            case rel=>exact ⟨trivial,L',rfl,HR⟩
            case measure=>exact HM.out
          · have HR:Hid (ptx r=D):=(by rw [hD];unfold ptx;rw [Qpr hR aa]:ptx r=D)
            have ak:(bt D m == 48)=false:=ZZf.2 (by
              rw [ac];intro e;apply aa;apply UInt8.toNat_inj.1;have:(48:UInt8).toNat=48:=rfl;omega)
            clear hR aa hD hm;go_wp2;go_ret;exact ⟨Qea (by rw [<- HA.out,HR.out]),hB⟩
  · have ai:v=(n:Int):=by omega
    obtain ⟨v0,ab⟩:∃ v0,v0=v:=⟨_,rfl⟩;have HS:Hid (sgx v0=⟨#[]⟩):=(by rw [ab];exact if_neg hv:sgx v0=⟨#[]⟩);rw [<- ab] at HE;clear hq hr hn;subst ai;have HV:Hid (v0=(n:Int)):=ab;have HG:Hid (vtx v0=vtx (n:Int)):=(by rw [ab]:vtx v0=vtx (n:Int));rw [<- HG.out];clear ab
    · by_cases hz:r=0
      · have HZ:Hid (pdx r=⟨#[]⟩):=(by unfold pdx;rw [if_pos hz]:pdx r=⟨#[]⟩)
        have al:((r:Int) == 0)=true:=by simp [hz]
        have HA:Hid (⟨#[]⟩ ++ dtx q=vtx v0):=(by rw [<- HE.out,HZ.out,HS.out];apply ByteArray.ext;rw [ByteArray.data_append];simp:⟨#[]⟩ ++ dtx q=vtx v0);clear hz;go_enter func119,ntmps119
        go_wp2_with (first
          | (go_at_call 124;refine (HC.out _).mono ?_;rintro e w0 ⟨rfl,hw⟩;obtain rfl:=hw.symm)
          | (go_at_call 101;refine (HQ.out _).mono ?_;rintro e w1 ⟨rfl,ad⟩))
        go_ret;exact ⟨Qea HA,ad⟩
      · have HZ:Hid (pdx r=⟨#[46]⟩ ++ ptx r):=(by unfold pdx;rw [if_neg hz]:pdx r=⟨#[46]⟩ ++ ptx r)
        have al:((r:Int) == 0)=false:=ZZf.2 (by omega);have HA:Hid (⟨#[]⟩ ++ dtx q ++ ⟨#[46]⟩ ++ ptx r=vtx v0):=(by rw [<- HE.out,HZ.out,HS.out,ByteArray.append_assoc]:⟨#[]⟩ ++ dtx q ++ ⟨#[46]⟩ ++ ptx r=vtx v0);have HT:Hid (TrR r (six r)):=Qkn ae hz;have hx:(dtx (1000000+r)).extract 1 (dtx (1000000+r)).size=⟨(six r).toArray⟩:=tail7 ae;obtain ⟨S,hS⟩:∃ S,S=dtx (1000000+r):=⟨_,rfl⟩;have am:S.size=7:=by rw [hS];show (Lib.decDigits (1000000+r)).length=7;rw [dec7 ae];rfl
        have ar:dtx (1000000+(r:Int)).toNat=S:=by rw [hS];congr 1
        have ao:(0:Int)<=(q:Int):=by omega
        have au:(q:Int)<=9223372036854775807:=by omega
        have aq:dtx ((q:Int)).toNat=dtx q:=rfl;rw [<- hS,am] at hx;clear hz hS;have hB:Bw w w:=ZZb _ _;go_enter func119,ntmps119
        go_wp2_with (first
          | (go_at_call 124;refine (HC.out _).mono ?_;rintro e w0 ⟨rfl,hw⟩;obtain rfl:=hw.symm)
          | (go_at_call 101;refine (QgJ _ (by omega) (by omega) _).mono ?_;rintro e w1 ⟨rfl,ad⟩;have hB:=hB.trans (ad.mono hB.size)))
        go_loopw [5] (fun d wr=>wr=w1/\∃ L,d=.string ⟨L.toArray⟩/\TrR r L) (fun d wr=>strSz d)
        case atStart=>exact ⟨rfl,six r,rfl,HT⟩
        case round=>
          obtain ⟨an,L,rfl,hR⟩:=hrel;subst an;obtain ⟨L',x,rfl⟩:=Qne hR;obtain ⟨D,hD⟩:∃ D,D=(⟨(L' ++ [x]).toArray⟩:ByteArray):=⟨_,rfl⟩;have ap:=get_bt D;have aj:D.size=L'.length+1:=by rw [hD];show (L' ++ [x]).length=_;simp
          have ac:bt D L'.length=(x.toNat:Int):=by rw [hD];exact Qot L' x
          have ag:D.extract 0 L'.length=⟨L'.toArray⟩:=by rw [hD];exact QmD L' x
          have ah:L'.length+1<=6:=by have:=hR.2.2;simpa using this
          rw [<- hD];obtain ⟨m,hm⟩:∃ m,m=L'.length:=⟨_,rfl⟩;rw [<- hm] at aj ac ag ah;by_cases aa:x=48
          · have HR:Hid (TrR r L'):=Ql7 (by rw [aa] at hR;exact hR)
            have ak:(bt D m == 48)=true:=by rw [ac,aa];rfl
            have HM:Hid (L'.length<D.size):=(by omega:L'.length<D.size);clear hR aa hD hm;go_wp2;go_roundw
            case rel=>exact ⟨trivial,L',rfl,HR⟩
            case measure=>exact HM.out
          · have HR:Hid (ptx r=D):=(by rw [hD];unfold ptx;rw [Qpr hR aa]:ptx r=D)
            have ak:(bt D m == 48)=false:=ZZf.2 (by
              rw [ac];intro e;apply aa;apply UInt8.toNat_inj.1;have:(48:UInt8).toNat=48:=rfl;omega)
            clear hR aa hD hm;go_wp2;go_ret;exact ⟨Qea (by rw [<- HA.out,HR.out]),hB⟩
theorem Qe9 (v:Int) (w:World) :
    Calls prog 119 #[.int .i64 v] w fun e w'=>e=.returned (.string (vtx v))/\Bw w w':=by
  by_cases h:-999999999999999999<=v/\v<=999999999999999999
  · exact QfT v h w
  · exact Qfj v h w
end
section
def lnP (b:ByteArray) (K:List ByteArray) (i:Nat):ByteArray:=if i=0 then b else b ++ (⟨#[124,35]⟩ ++ ⟨(QaQ (K.take i)).toArray⟩)
theorem Quf (b:ByteArray) (K:List ByteArray):lnP b K K.length=lnC b K:=by
  unfold lnP lnC;rw [List.take_length]
theorem Qqb (a b c:ByteArray):a ++ b ++ c=a ++ (b ++ c):=ByteArray.append_assoc
theorem QrJ (a b:ByteArray):toL (a ++ b)=toL a ++ toL b:=by unfold toL;simp
theorem QsE (h:K[0]?=some x):b ++ ⟨#[124,35]⟩ ++ x=lnP b K 1:=by
  unfold lnP;rw [if_neg (by omega),List.take_add_one,h,Qqb]
  have:(⟨(QaQ (K.take 0 ++ (some x).toList)).toArray⟩:ByteArray)=x:=by
    show (⟨(QaQ [x]).toArray⟩:ByteArray)=x
    rw [Qdm];exact QfM x
  rw [this]
theorem QrE (h:K[i]?=some x) (h0:0<i):lnP b K i ++ ⟨#[44]⟩ ++ x=lnP b K (i+1):=by
  have hl:=(ZZd.1 h).1;unfold lnP;rw [if_neg (by omega),if_neg (by omega),List.take_add_one,h];rw [show (some x).toList=[x] from rfl,Qfx (fun e=>by have:=congrArg List.length e;rw [List.length_take,List.length_nil] at this;omega)];apply Qbc;simp [QrJ,Qba]
theorem QrI (hb:b.size<=150) (h:∀ x∈K,x.size<=20) (hK:K.length<=8):(lnP b K i).size<=400:=by
  unfold lnP;have:=QqT (K:=K.take i) (fun x hx=>h x (List.mem_of_mem_take hx)) (by rw [List.length_take];omega)
  split
  · omega
  · rw [ByteArray.size_append,ByteArray.size_append]
    have:(⟨#[124,35]⟩:ByteArray).size=2:=rfl;omega
theorem Qj4 (k:Int) (se:ByteArray) (v:Int) (wd:ByteArray) (wt:Int) (tm:Bool) (ti:Int) (hse:se.size<=maxLen) (hwd:wd.size<=maxLen) :
    Calls prog 84 #[.agg #[.int .i64 k,.string se,.int .i64 v,.string wd,.int .u64 wt,.bool tm,.int .i64 ti]] w fun e w'=>∃ r,e=.returned (.string r)/\LxA k se v wd wt tm ti r/\Bw w w':=by
  have aI:Bw w (w.alloc (.cells #[.int .i64 k,.string se,.int .i64 v,.string wd,.int .u64 wt,.bool tm,.int .i64 ti] 97)):=bA;have aC:=Qaa (ZZk w (.cells #[.int .i64 k,.string se,.int .i64 v,.string wd,.int .u64 wt,.bool tm,.int .i64 ti] 97));have az:=Qaa aI;have a3:(w.alloc (.cells #[.int .i64 k,.string se,.int .i64 v,.string wd,.int .u64 wt,.bool tm,.int .i64 ti] 97)).heap.size=w.heap.size+1:=by simp
  clear aI;go_enter func84,ntmps84;go_wp2_with fail;generalize w.alloc _=W0 at aC az a3 ⊢;refine (QcA k se v wd wt tm ti hse hwd).mono ?_;rintro e w1 ⟨rfl,ar⟩;have aE:=Qaa (Qac az ar);have ay:Hid (∀ W,Bw w1 W->W.heap[w.heap.size]?=some (.cells #[.int .i64 k,.string se,.int .i64 v,.string wd,.int .u64 wt,.bool tm,.int .i64 ti] 97 (0,0))):=fun W hW=>(hW.block _ (by have:=ar.size;omega)).trans ((ar.block _ (by omega)).trans aC);clear ar aC az a3
  cases hq:QbK k se v wd wt tm ti with
  | false=>
    have HQ:Hid (LxA k se v wd wt tm ti ⟨#[]⟩):=.inl ⟨hq,rfl⟩;clear hq;go_wp2;go_ret;exact ⟨_,rfl,HQ,aE⟩
  | true=>
    obtain ⟨bg,K0,aZ⟩:=QuU hq;have aB:=Qaa aZ;have aA:=Qaa hq;clear hq aZ;have x1:=Qcz (ay.out _ (ZZb _ _)) 1 rfl;go_wp2_with fail;clear x1;refine (QfG se (by have:=aB.2.2.2.2.1;omega)).mono ?_;rintro e w2 ⟨nm,ao,n,c,rfl,hp,aD⟩;obtain ⟨K,hs,hn,hA⟩:=hp ⟨bg,K0,aB⟩;have aY:=Qaa hs;have HX:=Qaa (lx_of aA hs);have HN:=Qaa hn;have HA:=Qaa hA;have aU:=Qaa (Qac aE aD);have al:Hid (∀ W,Bw w2 W->W.heap[w.heap.size]?=some (.cells #[.int .i64 k,.string se,.int .i64 v,.string wd,.int .u64 wt,.bool tm,.int .i64 ti] 97 (0,0))):=fun W hW=>ay.out W (Qac aD hW);have ap:Hid (∀ r,TxR (lnX nm K k v wd wt tm ti) k se v wd wt tm ti r->LxA k se v wd wt tm ti r):=fun r h=>.inr ⟨aA,nm,K,aY,h⟩;have aJ:=Qaa (Qme (k:=k) (v:=v) (wt:=wt) (tm:=tm) HX.nm HX.wd HX.K HX.n HX.ti.2);have ax:=Qaa (Qmd (k:=k) (v:=v) HX.wd);have bp:n<=8:=by have:=HX.n;omega
    clear aD ay aE aB aA hs hn hA hp;have ae:Op.stringOp .add nm ⟨#[58]⟩=pure (.string (nm ++ ⟨#[58]⟩)):=QbJ (by have:=HX.nm;have:(⟨#[58]⟩:ByteArray).size=1:=rfl;omega);have aa:Op.stringOp .add (nm ++ ⟨#[58]⟩) (whX k v wd)=pure (.string (nm ++ ⟨#[58]⟩ ++ whX k v wd)):=QbJ (by rw [ByteArray.size_append];have:=HX.nm;have:=ax.out;have:(⟨#[58]⟩:ByteArray).size=1:=rfl;omega);have x0:=Qcz (al.out _ (ZZb _ _)) 0 rfl;have x2:=Qcz (al.out _ (ZZb _ _)) 2 rfl;have x3:=Qcz (al.out _ (ZZb _ _)) 3 rfl;go_upto_if 24 with fail
    go_cut [6] (fun v' w'=>v'=.string (nm ++ ⟨#[58]⟩ ++ whX k v wd)/\Hid (Bw w2 w'))
    case first=>
      by_cases hk:k=4
      · have ba:(k == 4)=true:=by simp [hk]
        have e:whX k v wd=wd:=if_pos hk;rw [e] at aa;have HE:=Qaa e;clear hk e;go_wp2;go_meet;exact ⟨by rw [HE.out],Qaa (Below.refl _ _)⟩
      · have ba:(k == 4)=false:=ZZf.2 hk
        have e:whX k v wd=vtx v:=if_neg hk;rw [e] at aa;have HE:=Qaa e;clear hk e;go_wp2_with fail;refine (Qe9 v _).mono ?_;rintro e w3 ⟨rfl,aR⟩;have af:=Qaa aR;clear aR;go_wp2;go_meet;exact ⟨by rw [HE.out],af⟩
    case rest=>
      obtain ⟨rfl,af⟩:=hcut;obtain ⟨w3,aT⟩:∃ w3,wc=w3:=⟨_,rfl⟩;rw [aT] at af ⊢;clear aT x0 x2 x3 ae aa;have a2:=Qaa (Qac aU af);have aX:=Qaa (QaA HA af);have au:Hid (∀ W,Bw w3 W->W.heap[w.heap.size]?=some (.cells #[.int .i64 k,.string se,.int .i64 v,.string wd,.int .u64 wt,.bool tm,.int .i64 ti] 97 (0,0))):=fun W hW=>al.out W (Qac af hW);clear af al aU HA;have ai:=Qaa (Qmb (k:=k) (v:=v) HX.nm HX.wd);have ah:Hid (lnA nm k v wd=nm ++ ⟨#[58]⟩ ++ whX k v wd ++ ⟨#[124]⟩ ++ ltX k):=(rfl:lnA nm k v wd=nm ++ ⟨#[58]⟩ ++ whX k v wd ++ ⟨#[124]⟩ ++ ltX k);have ad:Hid (lnX nm K k v wd wt tm ti=lnD (lnC (lnB (lnA nm k v wd) wt) K) tm ti):=(rfl:lnX nm K k v wd wt tm ti=lnD (lnC (lnB (lnA nm k v wd) wt) K) tm ti);have am:Hid ((nm ++ ⟨#[58]⟩ ++ whX k v wd).size<=90):=by rw [ByteArray.size_append,ByteArray.size_append];have:=HX.nm;have:=ax.out;have:(⟨#[58]⟩:ByteArray).size=1:=rfl;show _<=_;omega
      generalize nm ++ ⟨#[58]⟩ ++ whX k v wd=a0 at ah am ⊢;have ae:Op.stringOp .add a0 ⟨#[124]⟩=pure (.string (a0 ++ ⟨#[124]⟩)):=QbJ (by have:=am.out;have:(⟨#[124]⟩:ByteArray).size=1:=rfl;omega);have aa:∀ l:ByteArray,l.size=1->Op.stringOp .add (a0 ++ ⟨#[124]⟩) l=pure (.string (a0 ++ ⟨#[124]⟩ ++ l)):=fun l hl=>QbJ (by rw [ByteArray.size_append];have:=am.out;have:(⟨#[124]⟩:ByteArray).size=1:=rfl;omega);have q1:=aa ⟨#[99]⟩ rfl;have q2:=aa ⟨#[103]⟩ rfl;have q3:=aa ⟨#[104]⟩ rfl;have q4:=aa ⟨#[115]⟩ rfl;clear aa;have x0:=Qcz (au.out _ (ZZb _ _)) 0 rfl;go_upto_region 8 with fail
      go_cut [6] (fun v' w'=>v'=.string (lnA nm k v wd)/\Hid (Bw w3 w'))
      case first=>
        have bj:=HX.k;have an:Hid (∀ o,Bw w3 (w3.alloc o)):=fun o=>(ZZb _ _).alloc (ZZa _) o;clear HX aY ap aJ ax ad ai;have bb:w.heap.size<w3.heap.size:=by have:=(ZZc.1 (au.out _ (ZZb _ _))).1;exact this
        rcases bj with rfl | rfl | rfl | rfl
        · go_wp2
          go_meet;exact ⟨by rw [ah.out];rfl,Qaa (an.out _)⟩
        · go_wp2
          go_meet;exact ⟨by rw [ah.out];rfl,Qaa (an.out _)⟩
        · go_wp2
          go_meet;exact ⟨by rw [ah.out];rfl,Qaa (an.out _)⟩
        · go_wp2
          go_meet;exact ⟨by rw [ah.out];rfl,Qaa (an.out _)⟩
      case rest=>
        obtain ⟨rfl,ak⟩:=hcut;obtain ⟨w4,a6⟩:∃ w4,wc=w4:=⟨_,rfl⟩;rw [a6] at ak ⊢;clear a6 x0 ae q1 q2 q3 q4 ah am;have a4:=Qaa (Qac a2 ak);have a7:=Qaa (QaA aX ak);have aK:Hid (∀ W,Bw w4 W->W.heap[w.heap.size]?=some (.cells #[.int .i64 k,.string se,.int .i64 v,.string wd,.int .u64 wt,.bool tm,.int .i64 ti] 97 (0,0))):=fun W hW=>au.out W (Qac ak hW);clear ak au a2 aX;generalize lnA nm k v wd=a at ai ad ⊢;obtain ⟨bh,bi⟩:=HX.wt;have x4:=Qcz (aK.out _ (ZZb _ _)) 4 rfl;go_upto_if 44 with fail
        go_cut [6] (fun v' w'=>v'=.string (lnB a wt)/\Hid (Bw w4 w'))
        case first=>
          by_cases aQ:1<wt
          · have HE:Hid (a ++ ⟨#[124,64]⟩ ++ vtx (1000000 / wt)=lnB a wt):=(by unfold lnB;rw [if_pos aQ,Qqb]:a ++ ⟨#[124,64]⟩ ++ vtx (1000000 / wt)=lnB a wt)
            have ae:Op.stringOp .add a ⟨#[124,64]⟩=pure (.string (a ++ ⟨#[124,64]⟩)):=QbJ (by have:=ai.out;have:(⟨#[124,64]⟩:ByteArray).size=2:=rfl;omega);have aa:Op.stringOp .add (a ++ ⟨#[124,64]⟩) (vtx (1000000 / wt))=pure (.string (a ++ ⟨#[124,64]⟩ ++ vtx (1000000 / wt))):=QbJ (by rw [ByteArray.size_append];have:=ai.out;have:=QiA (1000000 / wt);have:(⟨#[124,64]⟩:ByteArray).size=2:=rfl;omega);have hd:Int.tdiv 1000000 wt=1000000 / wt:=Int.tdiv_eq_ediv_of_nonneg (by omega);have bn:0<=1000000 / wt:=Int.ediv_nonneg (by omega) (by omega);have bs:1000000 / wt<=1000000:=Int.ediv_le_self _ (by omega);have bv:IntKind.i64.wrap (1000000 / wt)=1000000 / wt:=by rw [IntKind.wrap_i64];omega
            have bq:IntKind.i64.wrap wt=wt:=by rw [IntKind.wrap_i64];omega
            have hz:(wt == 0)=false:=ZZf.2 (by omega);go_wp2_with fail;refine (Qe9 (1000000 / wt) _).mono ?_;rintro e w5 ⟨rfl,a9⟩;have ag:=Qaa a9;clear a9;go_wp2;go_meet;exact ⟨by rw [HE.out],ag⟩
          · have HE:Hid (a=lnB a wt):=(by unfold lnB;rw [if_neg aQ]:a=lnB a wt)
            go_wp2;go_meet;exact ⟨by rw [<- HE.out],Qaa (Below.refl _ _)⟩
        case rest=>
          obtain ⟨rfl,ag⟩:=hcut;obtain ⟨w5,a1⟩:∃ w5,wc=w5:=⟨_,rfl⟩;rw [a1] at ag ⊢;clear a1 x4;have a5:=Qaa (Qac a4 ag);have aN:=Qaa (QaA a7 ag);have aq:Hid (∀ W,Bw w5 W->W.heap[w.heap.size]?=some (.cells #[.int .i64 k,.string se,.int .i64 v,.string wd,.int .u64 wt,.bool tm,.int .i64 ti] 97 (0,0))):=fun W hW=>aK.out W (Qac ag hW);have aw:=Qaa (QlM (wt:=wt) ai);generalize lnB a wt=b at aw ad ⊢;clear ag aK a4 a7 ai;go_wp2
          go_loopw [6,7] (fun tv i wr=>∃ j:Nat,j<=n/\i=.int .i64 j/\tv=.string (lnP b K j)/\wr=w5) (fun tv i wr=>n - (Go.RowKit.intOf i).toNat)
          case atStart=>exact ⟨0,ZZj _,rfl,rfl,rfl⟩
          case round=>
            obtain ⟨j,hj,rfl,rfl,rfl⟩:=hrel;by_cases bu:j<n
            · obtain ⟨y,hy⟩:∃ y,K[j]?=some y:=⟨K[j]'(by have:=HN.out;omega),ZZe _⟩
              obtain ⟨g,bt,e,ab⟩:=aN.out (by have:=HN.out;omega);subst e;have hc:=ab j y hy;have br:y.size<=20:=HX.K y (ZZn hy);have aM:=QrI (i:=j) aw HX.K HX.n;have bo:(j:Int)<(n:Int):=by omega
              by_cases h0:j=0
              · subst h0
                rw [Nat.add_zero] at hc;have HE:=Qaa (QsE (b:=b) hy);have e0:lnP b K 0=b:=if_pos rfl;rw [e0] at aM ⊢;have ae:Op.stringOp .add b ⟨#[124,35]⟩=pure (.string (b ++ ⟨#[124,35]⟩)):=QbJ (by have:(⟨#[124,35]⟩:ByteArray).size=2:=rfl;omega);have aa:Op.stringOp .add (b ++ ⟨#[124,35]⟩) y=pure (.string (b ++ ⟨#[124,35]⟩ ++ y)):=QbJ (by rw [ByteArray.size_append];have:(⟨#[124,35]⟩:ByteArray).size=2:=rfl;omega);clear ab hy e0;go_wp2;go_roundw
                case rel=>exact ⟨0+1,by omega,by go_num,by rw [HE.out],by first | rfl | trivial⟩
                case measure=>simp [zI];omega
              · have HE:=Qaa (QrE (b:=b) hy (by omega))
                have aI:((j:Int) == 0)=false:=ZZf.2 (by omega);generalize lnP b K j=pj at HE aM ⊢;have ae:Op.stringOp .add pj ⟨#[44]⟩=pure (.string (pj ++ ⟨#[44]⟩)):=QbJ (by have:(⟨#[44]⟩:ByteArray).size=1:=rfl;omega);have aa:Op.stringOp .add (pj ++ ⟨#[44]⟩) y=pure (.string (pj ++ ⟨#[44]⟩ ++ y)):=QbJ (by rw [ByteArray.size_append];have:(⟨#[44]⟩:ByteArray).size=1:=rfl;omega);clear ab hy;go_wp2;go_roundw
                case rel=>exact ⟨j+1,by omega,by go_num,by rw [HE.out],by first | rfl | trivial⟩
                case measure=>simp [zI];omega
            · obtain rfl:n=j:=by omega
              have aO:Hid (lnP b K n=lnC b K):=(by have h:=Quf b K;rw [HN.out] at h;exact h:lnP b K n=lnC b K);rw [aO.out];have av:=Qaa (Qm6 aw HX.K HX.n);generalize lnC b K=c' at av ad ⊢;have x5:=Qcz (aq.out _ (ZZb _ _)) 5 rfl;have x6:=Qcz (aq.out _ (ZZb _ _)) 6 rfl;obtain ⟨bk,bm⟩:=HX.ti;go_upto_if 70 with fail
              go_cut [6] (fun v' w'=>v'=.string (lnX nm K k v wd wt tm ti)/\Hid (Bw wr w'))
              case first=>
                cases tm with
                | true=>
                  have HE:Hid (c' ++ ⟨#[124,84]⟩ ++ dtx ti.toNat=lnX nm K k v wd wt true ti):=(by rw [ad.out];unfold lnD;rw [if_pos rfl,Qqb]:c' ++ ⟨#[124,84]⟩ ++ dtx ti.toNat=lnX nm K k v wd wt true ti);have bw:=Qf9 ti.toNat (by omega);have ae:Op.stringOp .add c' ⟨#[124,84]⟩=pure (.string (c' ++ ⟨#[124,84]⟩)):=QbJ (by have:=av.out;have:(⟨#[124,84]⟩:ByteArray).size=2:=rfl;omega);have aa:Op.stringOp .add (c' ++ ⟨#[124,84]⟩) (dtx ti.toNat)=pure (.string (c' ++ ⟨#[124,84]⟩ ++ dtx ti.toNat)):=QbJ (by rw [ByteArray.size_append];have:=av.out;have:(⟨#[124,84]⟩:ByteArray).size=2:=rfl;omega);go_wp2_with fail;refine (QgJ ti (by omega) (by omega) _).mono ?_;rintro e w6 ⟨rfl,aV⟩;have aj:=Qaa aV;clear aV;go_wp2;go_meet;exact ⟨by rw [HE.out],aj⟩
                | false=>
                  have HE:Hid (c'=lnX nm K k v wd wt false ti):=(by rw [ad.out];rfl:c'=lnX nm K k v wd wt false ti);go_wp2;go_meet;exact ⟨by rw [<- HE.out],Qaa (Below.refl _ _)⟩
              case rest=>
                obtain ⟨rfl,aj⟩:=hcut;obtain ⟨w6,a8⟩:∃ w6,wc=w6:=⟨_,rfl⟩;rw [a8] at aj ⊢;clear a8 x5 x6;have bc:=Qaa (Qac a5 aj);have bf:Hid (∀ W,Bw w6 W->W.heap[w.heap.size]?=some (.cells #[.int .i64 k,.string se,.int .i64 v,.string wd,.int .u64 wt,.bool tm,.int .i64 ti] 97 (0,0))):=fun W hW=>aq.out W (Qac aj hW);clear aj aq a5 aN ad av aO;generalize lnX nm K k v wd wt tm ti=tx at aJ ap ⊢;go_wp2_with fail;refine (QfN tx (by have:=aJ.out;unfold maxLen;omega)).mono ?_;rintro e w7 ⟨s,rfl,hL,aH⟩;have HL:=Qaa hL;have aS:=Qaa (Qac bc aH);have aW:Bw w7 (w7.alloc (.cells #[.int .i64 s.k,.string s.se,.int .i64 s.va,.string s.wd,.int .u64 s.wt,.bool s.td,.int .i64 s.ti,.int .i64 s.c] 122)):=bA;have bd:=Qaa (Qac aS aW);have aG:Hid (∀ o,Bw w (w7.alloc o)):=fun o=>Qac aS ((ZZb _ _).alloc (ZZa _) o);have ac:=bf.out _ aH;have bb:=(ZZc.1 ac).1;have bl:¬ w.heap.size=w7.heap.size:=by omega
                have x0:=Qcz ac 0 rfl;have x1:=Qcz ac 1 rfl;have x2:=Qcz ac 2 rfl;have x3:=Qcz ac 3 rfl;have x4:=Qcz ac 4 rfl;have x5:=Qcz ac 5 rfl;have x6:=Qcz ac 6 rfl;clear aH hL aW ac;unfold Qvi;go_upto_region 21 with fail
                go_cut [87] (fun v' w'=>v'=.bool (!eqL s k se v wd wt tm ti)/\Hid (Bw w w'))
                case first=>
                  by_cases aF:s.c=0
                  · have be:(s.c != 0)=false:=by simp [aF]
                    go_wp2
                    all_goals (go_meet;exact ⟨by simp [eqL, *],Qaa (aG.out _)⟩)
                  · have be:(s.c != 0)=true:=by simp [aF]
                    have HR:Hid ((!eqL s k se v wd wt tm ti)=true):=(by unfold eqL;simp [aF]:(!eqL s k se v wd wt tm ti)=true);go_wp2;go_meet;exact ⟨by rw [HR.out],bd⟩
                case rest=>
                  obtain ⟨rfl,aP⟩:=hcut
                  cases hq:eqL s k se v wd wt tm ti with
                  | true=>
                    have aL:Hid (LxA k se v wd wt tm ti tx):=ap.out tx ⟨s,HL,by rw [hq];rfl⟩;go_wp2;go_ret;exact ⟨_,rfl,aL,aP⟩
                  | false=>
                    have aL:Hid (LxA k se v wd wt tm ti ⟨#[]⟩):=ap.out ⟨#[]⟩ ⟨s,HL,by rw [hq];rfl⟩;go_wp2;go_ret;exact ⟨_,rfl,aL,aP⟩
end
section
theorem LxA.size {r:ByteArray} (h:LxA k se v wd wt tm ti r):r.size<=500:=by
  rcases h with ⟨_,rfl⟩ | ⟨h1,nm,K,hs,s,_,rfl⟩
  · decide
  · have x:=lx_of h1 hs
    have:=Qme (k:=k) (v:=v) (wt:=wt) (tm:=tm) x.nm x.wd x.K x.n x.ti.2
    split
    · exact this
    · decide
end
end Go.Proofs.YtlejlgldgafljaaGreatDoor
