/-
 Parts.
-/
import Derived.Test.YtlejlgldgafljaaGreatDoorKWC
import Derived.Lib.PathFns
import Derived.Lib.TrimByte
set_option maxHeartbeats 8000000
set_option maxRecDepth 10000
set_option linter.all false
namespace Go.Proofs.YtlejlgldgafljaaGreatDoor
open Go.ChangeShapes Go.WideShapes Go.ChangeAt Go.RowKit Go.PlainAid Tryz
section
def smpV (k:Int) (se:ByteArray) (v:Int) (wd:ByteArray) (wt:Int) (tm:Bool) (ti:Int):Value:=.agg #[.int .i64 k,.string se,.int .i64 v,.string wd,.int .u64 wt,.bool tm,.int .i64 ti]
end
variable {w w':World}
variable {g i r:Nat}
variable {T:TypeId}
variable {k ti v wt:Int}
variable {a b nm se wd x:ByteArray}
variable {tm:Bool}
section
theorem cell7M {c0 c1 c2 c3 c4 c5 c6:Value} {fz:Nat×Nat} (h:w.heap[g]?=some (.cells #[c0,c1,c2,c3,c4,c5,c6] T fz)) :
    w.cell? ⟨g,0,none⟩=some c0/\w.cell? ⟨g,1,none⟩=some c1/\w.cell? ⟨g,2,none⟩=some c2/\w.cell? ⟨g,3,none⟩=some c3/\w.cell? ⟨g,4,none⟩=some c4/\w.cell? ⟨g,5,none⟩=some c5/\w.cell? ⟨g,6,none⟩=some c6:=
  ⟨by rw [cell_of_row w g 0 _ _ _ h];rfl,by rw [cell_of_row w g 1 _ _ _ h];rfl,by rw [cell_of_row w g 2 _ _ _ h];rfl,by rw [cell_of_row w g 3 _ _ _ h];rfl,by rw [cell_of_row w g 4 _ _ _ h];rfl,by rw [cell_of_row w g 5 _ _ _ h];rfl,by rw [cell_of_row w g 6 _ _ _ h];rfl⟩
theorem QqQ {o:Obj} (h:w.heap[g]?=some o) (hb:Below w.heap.size w w'):w'.heap[g]?=some o:=by
  rw [hb.block _ (Array.getElem?_eq_some_iff.1 h).1];exact h
structure SBox (w0 w:World) (g:Nat) (k:Int) (se:ByteArray) (v:Int) (wd:ByteArray) (wt:Int) (tm:Bool) (ti:Int) (T:TypeId):Prop where
  row:w.heap[g]?=some (.cells #[.int .i64 k,.string se,.int .i64 v,.string wd,.int .u64 wt,.bool tm,.int .i64 ti] T (0,0))
  bel:Below w0.heap.size w0 w
section
variable {w0 w:World} {g:Nat} {k:Int} {se:ByteArray} {v:Int} {wd:ByteArray} {wt:Int} {tm:Bool} {ti:Int} {T:TypeId}
theorem SBox.made (w:World):SBox w (w.alloc (.cells #[.int .i64 k,.string se,.int .i64 v,.string wd,.int .u64 wt,.bool tm,.int .i64 ti] T)) w.heap.size k se v wd wt tm ti T:=
  ⟨ZZk w _,(ZZb _ _).alloc (ZZa _) _⟩
theorem SBox.past (h:SBox w0 w g k se v wd wt tm ti T) (hb:Below w.heap.size w w'):SBox w0 w' g k se v wd wt tm ti T:=⟨QqQ h.row hb,h.bel.trans (hb.mono h.bel.size)⟩
end
theorem QhS (n lo hi:Int) (w:World):Calls prog 33 #[.int .i64 n,.int .i64 lo,.int .i64 hi] w fun e w'=>e=.returned (.bool (decide (lo<=n) && decide (n<=hi)))/\w'=w:=by
  by_cases h1:lo<=n <;> by_cases h2:n<=hi <;> (go_enter func33,ntmps33;go_wp2;go_ret;exact ⟨by simp [h1,h2],rfl⟩)
theorem Qid (v:Int) (w:World):Calls prog 124 #[.int .i64 v] w fun e w'=>e=.returned (.bool (QrV v))/\w'=w:=by
  go_enter func124,ntmps124;go_wp2_with (go_at_call 33;refine (QhS _ _ _ _).mono ?_;rintro e w1 ⟨rfl,aa⟩;obtain rfl:=aa);go_ret;exact ⟨rfl,rfl⟩
theorem QhE (h:QiM k=true):k=1∨k=2∨k=3∨k=4:=by
  unfold QiM at h;simp only [Bool.and_eq_true,decide_eq_true_eq] at h;omega
theorem Qqy (h:QrV v=false):QbB k se v wd wt tm ti=false:=by
  have hw:QjD k v wd=false:=by
    unfold QjD
    split
    · have:v≠0:=fun e=>by subst e;revert h;decide
      simp [this]
    · simp [h]
  simp [QbB,hw]
theorem QhD (h:wt<1∨1000000<wt):QbB k se v wd wt tm ti=false:=by
  have hw:QcY k wt=false:=by
    unfold QcY;rw [decide_eq_false (show ¬ wt=1 by omega)];rcases h with h | h
    · rw [decide_eq_false (show ¬ 0<wt by omega)];simp
    · rw [decide_eq_false (show ¬ wt<=1000000 by omega)];simp
  simp [QbB,hw]
theorem Qlf (h:(decide (0<=ti) && decide (ti<=1000000000))=false∨tm=false/\ti≠0):QbB k se v wd wt tm ti=false:=by
  have hw:Qgi tm ti=false:=by
    unfold Qgi;rcases h with h | ⟨h1,h2⟩
    · split
      · exact h
      · exact ZZg (fun e=>by subst e;revert h;decide)
    · rw [h1];simp [h2]
  simp [QbB,hw]
theorem Qmf (h1:QiM k=true) (h2:Qbn se=true) (h3:QrV v=true) (h4:1<=wt) (h5:wt<=1000000) (h6:(decide (0<=ti) && decide (ti<=1000000000))=true) (h7:tm=true∨ti=0) :
    QbB k se v wd wt tm ti=if k=4 then decide (v=0) && Qbk wd && decide (wt=1) else decide (wd.size=0) && (decide (k≠2) || decide (wt=1)):=by
  have ht:Qgi tm ti=true:=by
    unfold Qgi
    split
    · exact h6
    · rename_i hn
      rcases h7 with h | h
      · exact absurd h hn
      · exact ZZh h
  unfold QbB;rw [h1,h2,ht];have e0:decide (0<wt)=true:=ZZh (by omega);have e1:decide (wt<=1000000)=true:=ZZh h5;rcases QhE h1 with rfl | rfl | rfl | rfl <;> simp [QjD,QcY,h3,e0,e1]
theorem Qcl (k:Int) (se:ByteArray) (v:Int) (wd:ByteArray) (wt:Int) (tm:Bool) (ti:Int) (hse:se.size<=maxLen) (hwd:wd.size<=maxLen) :
    Calls prog 87 #[smpV k se v wd wt tm ti] w fun e w'=>e=.returned (.bool (QbB k se v wd wt tm ti))/\Below w.heap.size w w':=by
  have HB:=Qaa (SBox.made (k:=k) (se:=se) (v:=v) (wd:=wd) (wt:=wt) (tm:=tm) (ti:=ti) (T:=97) w);unfold smpV;go_enter func87,ntmps87;go_wp2_with fail;refine (QhS _ _ _ _).mono ?_;rintro e w1 ⟨rfl,ab⟩;obtain rfl:=ab;have e1:(decide ((1:Int)<=k) && decide (k<=4))=QiM k:=rfl;rw [e1];clear e1
  cases h1:QiM k with
  | false=>
    have HE:Hid (QbB k se v wd wt tm ti=false):=(by simp [QbB,h1]:QbB k se v wd wt tm ti=false);go_wp2;go_ret;exact ⟨by rw [HE.out];rfl,HB.out.bel⟩
  | true=>
    go_wp2_with fail;refine (QaF se hse).mono ?_;rintro e w2 ⟨rfl,ae⟩;replace HB:=Qaa (HB.out.past ae);clear ae;obtain ⟨c0,c1,c2,c3,c4,c5,c6⟩:=cell7M HB.out.row
    cases h2:Qbn se with
    | false=>
      have HE:Hid (QbB k se v wd wt tm ti=false):=(by simp [QbB,h2]:QbB k se v wd wt tm ti=false);go_wp2;go_ret;exact ⟨by rw [HE.out];rfl,HB.out.bel⟩
    | true=>
      go_wp2_with fail;refine (Qid _ _).mono ?_;rintro e w3 ⟨rfl,ar⟩;obtain rfl:=ar
      cases h3:QrV v with
      | false=>
        have HE:Hid (QbB k se v wd wt tm ti=false):=Qqy h3;go_wp2;go_ret;exact ⟨by rw [HE.out];rfl,HB.out.bel⟩
      | true=>
        by_cases h4:wt<1
        · have HE:Hid (QbB k se v wd wt tm ti=false):=QhD (.inl h4)
          go_wp2;go_ret;exact ⟨by rw [HE.out];rfl,HB.out.bel⟩
        by_cases h5:1000000<wt
        · have HE:Hid (QbB k se v wd wt tm ti=false):=QhD (.inr h5)
          go_wp2;go_ret;exact ⟨by rw [HE.out];rfl,HB.out.bel⟩
        go_wp2_with fail;refine (QhS _ _ _ _).mono ?_;rintro e w4 ⟨rfl,ao⟩;obtain rfl:=ao
        cases h6:(decide ((0:Int)<=ti) && decide (ti<=1000000000)) with
        | false=>
          have HE:Hid (QbB k se v wd wt tm ti=false):=Qlf (.inl h6);clear h6;go_wp2;go_ret;exact ⟨by rw [HE.out];rfl,HB.out.bel⟩
        | true=>
          have H6:=Qaa h6;clear h6
          have ai:(tm=true∨ti=0)∨(tm=false/\ti≠0):=by
            cases tm with
            | true=>exact .inl (.inl rfl)
            | false => by_cases h : ti = 0
                       · exact .inl (.inr h)
                       · exact .inr ⟨rfl,h⟩
          rcases ai with an | ⟨rfl,ah⟩
          · have am:1<=wt:=by omega
            have al:wt<=1000000:=by omega
            by_cases af:k=4
            · have HE:Hid (QbB k se v wd wt tm ti=(decide (v=0) && Qbk wd && decide (wt=1))):=(by rw [Qmf h1 h2 h3 am al H6.out an,if_pos af]:QbB k se v wd wt tm ti=(decide (v=0) && Qbk wd && decide (wt=1)))
              have aq:(k == 4)=true:=by simpa using af
              by_cases ag:v=0
              · have ap:(v == 0)=true:=by simpa using ag
                cases htg:Qbk wd with
                | false=>
                  have HF:Hid (QbB k se v wd wt tm ti=false):=(by rw [HE.out,htg];simp:QbB k se v wd wt tm ti=false);have aa:(tm=true/\True)∨(tm=false/\ti=0):=by cases tm <;> simp_all
                  rcases aa with ⟨rfl,_⟩ | ⟨rfl,rfl⟩
                  all_goals
                    go_wp2_with (go_at_call 125;refine (Qbs _ _ hwd).mono ?_;rintro e w9 ⟨rfl,ad⟩;obtain rfl:=ad;rw [htg]);go_ret;exact ⟨by rw [HF.out];rfl,HB.out.bel⟩
                | true=>
                  have HF:Hid (QbB k se v wd wt tm ti=decide (wt=1)):=(by rw [HE.out,htg,decide_eq_true ag];simp:QbB k se v wd wt tm ti=decide (wt=1));have aa:(tm=true/\True)∨(tm=false/\ti=0):=by cases tm <;> simp_all
                  by_cases ab:wt=1
                  · have ak:Hid (QbB k se v wd wt tm ti=true):=(by rw [HF.out];exact decide_eq_true ab:QbB k se v wd wt tm ti=true)
                    have aj:(wt == 1)=true:=by simpa using ab
                    rcases aa with ⟨rfl,_⟩ | ⟨rfl,rfl⟩
                    all_goals
                      go_wp2_with (go_at_call 125;refine (Qbs _ _ hwd).mono ?_;rintro e w9 ⟨rfl,ad⟩;obtain rfl:=ad;rw [htg]);go_ret;exact ⟨by rw [ak.out];first | rfl | simp [ab],HB.out.bel⟩
                  · have ak:Hid (QbB k se v wd wt tm ti=false):=(by rw [HF.out];exact decide_eq_false ab:QbB k se v wd wt tm ti=false)
                    have aj:(wt == 1)=false:=by simpa using ab
                    rcases aa with ⟨rfl,_⟩ | ⟨rfl,rfl⟩
                    all_goals
                      go_wp2_with (go_at_call 125;refine (Qbs _ _ hwd).mono ?_;rintro e w9 ⟨rfl,ad⟩;obtain rfl:=ad;rw [htg]);go_ret;exact ⟨by rw [ak.out];first | rfl | simp [ab],HB.out.bel⟩
              · have ap:(v == 0)=false:=by simpa using ag
                have HF:Hid (QbB k se v wd wt tm ti=false):=(by rw [HE.out,decide_eq_false ag];rfl:QbB k se v wd wt tm ti=false);have aa:(tm=true/\True)∨(tm=false/\ti=0):=by cases tm <;> simp_all
                rcases aa with ⟨rfl,_⟩ | ⟨rfl,rfl⟩
                all_goals
                  go_wp2;go_ret;exact ⟨by rw [HF.out];rfl,HB.out.bel⟩
            · have HE:Hid (QbB k se v wd wt tm ti=(decide (wd.size=0) && (decide (k≠2) || decide (wt=1)))):=(by rw [Qmf h1 h2 h3 am al H6.out an,if_neg af]:QbB k se v wd wt tm ti=(decide (wd.size=0) && (decide (k≠2) || decide (wt=1))))
              have aq:(k == 4)=false:=by simpa using af
              have aa:(tm=true/\True)∨(tm=false/\ti=0):=by cases tm <;> simp_all
              by_cases h0:wd.size=0
              · have he:=isE0 h0
                by_cases ac:k=2
                · have ae:(k != 2)=false:=by simpa using ac
                  by_cases ab:wt=1
                  · have aj:(wt == 1)=true:=by simpa using ab
                    have HF:Hid (QbB k se v wd wt tm ti=true):=(by rw [HE.out];simp [h0,ab]:QbB k se v wd wt tm ti=true);rcases aa with ⟨rfl,_⟩ | ⟨rfl,rfl⟩
                    all_goals
                      go_wp2;go_ret;exact ⟨by rw [HF.out];first | rfl | simp [ab,he],HB.out.bel⟩
                  · have aj:(wt == 1)=false:=by simpa using ab
                    have HF:Hid (QbB k se v wd wt tm ti=false):=(by rw [HE.out];simp [h0,ab,ac]:QbB k se v wd wt tm ti=false);rcases aa with ⟨rfl,_⟩ | ⟨rfl,rfl⟩
                    all_goals
                      go_wp2;go_ret;exact ⟨by rw [HF.out];first | rfl | simp [ab,he],HB.out.bel⟩
                · have ae:(k != 2)=true:=by simpa using ac
                  have HF:Hid (QbB k se v wd wt tm ti=true):=(by rw [HE.out];simp [h0,ac]:QbB k se v wd wt tm ti=true);rcases aa with ⟨rfl,_⟩ | ⟨rfl,rfl⟩
                  all_goals
                    go_wp2;go_ret;exact ⟨by rw [HF.out];first | rfl | simp [he],HB.out.bel⟩
              · have he:=isE h0
                have HF:Hid (QbB k se v wd wt tm ti=false):=(by rw [HE.out];simp [h0]:QbB k se v wd wt tm ti=false);rcases aa with ⟨rfl,_⟩ | ⟨rfl,rfl⟩
                all_goals
                  go_wp2;go_ret;exact ⟨by rw [HF.out];first | rfl | simp [he],HB.out.bel⟩
          · have av:(ti == 0)=false:=by simpa using ah
            have au:(ti != 0)=true:=by simpa using ah
            have HE:Hid (QbB k se v wd wt false ti=false):=Qlf (.inr ⟨rfl,ah⟩);go_wp2;go_ret;exact ⟨by rw [HE.out];rfl,HB.out.bel⟩
end
variable {L':List UInt8}
section
def dgt (x:Nat):UInt8:=UInt8.ofNat (48+x)
theorem QdH:∀ {x:Nat},x<10->dgt x=48->x=0:=by decide
def six (r:Nat):List UInt8:=[dgt (r / 100000 % 10),dgt (r / 10000 % 10),dgt (r / 1000 % 10),dgt (r / 100 % 10),dgt (r / 10 % 10),dgt (r % 10)]
theorem dec7 (h:r<1000000):Lib.decDigits (1000000+r)=49 :: six r:=by
  have st:∀ a b:Nat,1<=a->Lib.decDigits (10*a+b)=Lib.decDigits (a+b / 10) ++ [dgt (b % 10)]:=fun a b ha=>by
    rw [Qef (by omega),show (10*a+b) / 10=a+b / 10 by omega,show (10*a+b) % 10=b % 10 by omega];rfl
  rw [show 1000000+r=10*100000+r by omega,st _ _ (by omega),show 100000+r / 10=10*10000+r / 10 by omega,st _ _ (by omega),Nat.div_div_eq_div_mul,
    show 10000+r / (10*10)=10*1000+r / 100 by omega,st _ _ (by omega),Nat.div_div_eq_div_mul,
    show 1000+r / (100*10)=10*100+r / 1000 by omega,st _ _ (by omega),Nat.div_div_eq_div_mul,
    show 100+r / (1000*10)=10*10+r / 10000 by omega,st _ _ (by omega),Nat.div_div_eq_div_mul,
    show 10+r / (10000*10)=10*1+r / 100000 by omega,st _ _ (by omega),Nat.div_div_eq_div_mul,
    show 1+r / (100000*10)=1 by omega,Lib.decDigits_one (by omega)]
  rfl
theorem QqU (h:r<1000000) (h0:r≠0):∃ x∈six r,x≠48:=by
  refine Classical.byContradiction fun hn=>h0 ?_;have aa:∀ x∈six r,x=48:=fun x hx=>Classical.byContradiction fun hne=>hn ⟨x,hx,hne⟩;have a1:=QdH (Nat.mod_lt _ (by omega)) (aa (dgt (r / 100000 % 10)) (by simp [six]));have a2:=QdH (Nat.mod_lt _ (by omega)) (aa (dgt (r / 10000 % 10)) (by simp [six]));have a3:=QdH (Nat.mod_lt _ (by omega)) (aa (dgt (r / 1000 % 10)) (by simp [six]));have a4:=QdH (Nat.mod_lt _ (by omega)) (aa (dgt (r / 100 % 10)) (by simp [six]));have a5:=QdH (Nat.mod_lt _ (by omega)) (aa (dgt (r / 10 % 10)) (by simp [six]));have a6:=QdH (Nat.mod_lt _ (by omega)) (aa (dgt (r % 10)) (by simp [six]));omega
theorem Qh4 (L:List UInt8) (c:UInt8):Lib.trimRightB (L ++ [c]) c=Lib.trimRightB L c:=by
  unfold Lib.trimRightB;rw [List.reverse_append];simp
theorem Qhd (L:List UInt8) (x c:UInt8) (h:x≠c):Lib.trimRightB (L ++ [x]) c=L ++ [x]:=by
  unfold Lib.trimRightB;rw [List.reverse_append];simp [h]
def TrR (r:Nat) (L:List UInt8):Prop:=Lib.trimRightB L 48=Lib.trimRightB (six r) 48/\(∃ x∈L,x≠48)/\L.length<=6
theorem Qlo {L:List UInt8} (h:TrR r L):∃ L' x,L=L' ++ [x]:=by
  rcases List.eq_nil_or_concat L with e | ⟨L',x,e⟩
  · obtain ⟨x,hx,_⟩:=h.2.1;rw [e] at hx;cases hx
  · exact ⟨L',x,by rw [e,List.concat_eq_append]⟩
theorem Qk8 (h:TrR r (L' ++ [48])):TrR r L':=by
  refine ⟨by rw [<- h.1,Qh4],?_,by have:=h.2.2;simp at this;omega⟩;obtain ⟨x,hx,aa⟩:=h.2.1;rcases List.mem_append.1 hx with k | k
  · exact ⟨x,k,aa⟩
  · exact absurd (List.mem_singleton.1 k) aa
theorem Qo4 {x:UInt8} (h:TrR r (L' ++ [x])) (hx:x≠48):Lib.trimRightB (six r) 48=L' ++ [x]:=by
  rw [<- h.1,Qhd _ _ _ hx]
theorem Qja (h:r<1000000) (h0:r≠0):TrR r (six r):=⟨rfl,QqU h h0,ZZa _⟩
def ptx (r:Nat):ByteArray:=⟨(Lib.trimRightB (six r) 48).toArray⟩
def dtx (n:Nat):ByteArray:=⟨(Lib.decDigits n).toArray⟩
theorem Qqf (r:Nat):(ptx r).size<=6:=by
  show (Lib.trimRightB (six r) 48).length<=6
  unfold Lib.trimRightB;rw [List.length_reverse];have h:=(List.dropWhile_sublist (fun x:UInt8=>x == 48) (l:=(six r).reverse)).length_le;rw [List.length_reverse] at h;exact h
theorem QfD (n:Nat) (h:n<=9223372036854775807):(dtx n).size<=21:=QnK n h
def sgx (v:Int):ByteArray:=if v<0 then ⟨#[45]⟩ else ⟨#[]⟩
def vtx (v:Int):ByteArray:=
  if -999999999999999999<=v/\v<=999999999999999999 then (if v.natAbs % 1000000=0 then sgx v ++ dtx (v.natAbs / 1000000) else sgx v ++ dtx (v.natAbs / 1000000) ++ ⟨#[46]⟩ ++ ptx (v.natAbs % 1000000)) else ⟨#[]⟩
theorem tail7 (h:r<1000000):(dtx (1000000+r)).extract 1 (dtx (1000000+r)).size=⟨(six r).toArray⟩:=by
  rw [Lib.extract_from];unfold dtx;rw [dec7 h];rfl
end
variable {K:List ByteArray}
section
theorem QbA (h:a.size+b.size<=1000000):Op.stringOp .add a b=pure (.string (a ++ b)):=by
  unfold Op.stringOp
  have:¬ (((a.size+b.size:Nat):Int) > IntKind.i64.max):=by
    have e:IntKind.i64.max=9223372036854775807:=by decide
    rw [e];omega
  simp only;rw [if_neg this]
def whX (k v:Int) (wd:ByteArray):ByteArray:=if k=4 then wd else vtx v
def ltX (k:Int):ByteArray:=if k=1 then ⟨#[99]⟩ else if k=2 then ⟨#[103]⟩ else if k=3 then ⟨#[104]⟩ else ⟨#[115]⟩
def lnA (nm:ByteArray) (k v:Int) (wd:ByteArray):ByteArray:=nm ++ ⟨#[58]⟩ ++ whX k v wd ++ ⟨#[124]⟩ ++ ltX k
def lnB (a:ByteArray) (wt:Int):ByteArray:=if 1<wt then a ++ (⟨#[124,64]⟩ ++ vtx (1000000 / wt)) else a
def lnC (b:ByteArray) (K:List ByteArray):ByteArray:=if K.length=0 then b else b ++ (⟨#[124,35]⟩ ++ ⟨(QaM K).toArray⟩)
def lnD (c:ByteArray) (tm:Bool) (ti:Int):ByteArray:=if tm=true then c ++ (⟨#[124,84]⟩ ++ dtx ti.toNat) else c
def lnX (nm:ByteArray) (K:List ByteArray) (k v:Int) (wd:ByteArray) (wt:Int) (tm:Bool) (ti:Int):ByteArray:=lnD (lnC (lnB (lnA nm k v wd) wt) K) tm ti
theorem QiG (v:Int):(vtx v).size<=40:=by
  unfold vtx
  split
  · rename_i h
    have h1:v.natAbs / 1000000<=9223372036854775807:=by omega
    have h2:=QfD _ h1;have h3:=Qqf (v.natAbs % 1000000);have h4:(sgx v).size<=1:=by unfold sgx;split <;> decide
    split
    · rw [ByteArray.size_append];omega
    · rw [ByteArray.size_append,ByteArray.size_append,ByteArray.size_append]
      have:(⟨#[46]⟩:ByteArray).size=1:=rfl;omega
  · decide
theorem Qq6 (k:Int):(ltX k).size=1:=by unfold ltX;split;rfl;split;rfl;split;rfl;rfl
theorem Qk4 (h:wd.size<=40):(whX k v wd).size<=40:=by unfold whX;split;exact h;exact QiG v
theorem QlO (h:nm.size<=40) (hw:wd.size<=40):(lnA nm k v wd).size<=100:=by
  unfold lnA;have h1:=Qk4 (k:=k) (v:=v) hw;have h2:=Qq6 k;rw [ByteArray.size_append,ByteArray.size_append,ByteArray.size_append,ByteArray.size_append];have e1:(⟨#[58]⟩:ByteArray).size=1:=rfl;have e2:(⟨#[124]⟩:ByteArray).size=1:=rfl;omega
theorem Qli (h:a.size<=100):(lnB a wt).size<=150:=by
  unfold lnB;have:=QiG (1000000 / wt)
  split
  · rw [ByteArray.size_append,ByteArray.size_append]
    have e2:(⟨#[124,64]⟩:ByteArray).size=2:=rfl;omega
  · omega
theorem Qo8 (h:∀ x∈K,x.size<=20) (hK:K.length<=8):(⟨(QaM K).toArray⟩:ByteArray).size<=168:=by
  have:=QeC h
  show (QaM K).toArray.size<=168
  simp only [List.size_toArray];have:K.length*(20+1)<=168:=by omega
  omega
theorem QlM (hb:b.size<=150) (h:∀ x∈K,x.size<=20) (hK:K.length<=8):(lnC b K).size<=400:=by
  unfold lnC;have:=Qo8 h hK
  split
  · omega
  · rw [ByteArray.size_append,ByteArray.size_append]
    have e2:(⟨#[124,35]⟩:ByteArray).size=2:=rfl;omega
theorem Ql0 (h:nm.size<=40) (hw:wd.size<=40) (hk:∀ x∈K,x.size<=20) (hK:K.length<=8) (ht:ti<=1000000000):(lnX nm K k v wd wt tm ti).size<=500:=by
  unfold lnX lnD;have h1:=QlM (Qli (wt:=wt) (QlO (k:=k) (v:=v) h hw)) hk hK;have h2:=QfD ti.toNat (by omega)
  split
  · rw [ByteArray.size_append,ByteArray.size_append]
    have e2:(⟨#[124,84]⟩:ByteArray).size=2:=rfl;omega
  · omega
structure LxO (nm:ByteArray) (K:List ByteArray) (k v:Int) (wd:ByteArray) (wt ti:Int):Prop where
  n:K.length<=8
  nm:nm.size<=40
  K:∀ x∈K,x.size<=20
  k:k=1∨k=2∨k=3∨k=4
  v:-999999999999999999<=v/\v<=999999999999999999
  wd:wd.size<=40
  wt:1<=wt/\wt<=1000000
  ti:0<=ti/\ti<=1000000000
theorem lx_of (h:QbB k se v wd wt tm ti=true) (hs:Qg7 se nm K):LxO nm K k v wd wt ti:=by
  unfold QbB at h;simp only [Bool.and_eq_true] at h;obtain ⟨⟨⟨⟨h1,_⟩,h2⟩,h3⟩,h4⟩:=h
  have a2:(-999999999999999999<=v/\v<=999999999999999999)/\wd.size<=40:=by
    unfold QjD at h2
    split at h2
    · simp only [Bool.and_eq_true,decide_eq_true_eq] at h2
      refine ⟨by omega,?_⟩;have:=h2.2;unfold Qbk at this;simp only [Bool.and_eq_true,decide_eq_true_eq] at this;omega
    · unfold QrV at h2
      simp only [Bool.and_eq_true,decide_eq_true_eq] at h2;exact ⟨h2.1,by omega⟩
  have a3:1<=wt/\wt<=1000000:=by
    unfold QcY at h3;simp only [Bool.and_eq_true,Bool.or_eq_true,decide_eq_true_eq] at h3;omega
  have a4:0<=ti/\ti<=1000000000:=by
    unfold Qgi at h4
    split at h4
    · simpa using h4
    · simp only [decide_eq_true_eq] at h4;omega
  obtain ⟨s1,s2,_,s4,_⟩:=hs
  have n1:nm.size<=40:=by
    unfold QaE at s1;simp only [Bool.and_eq_true,decide_eq_true_eq] at s1;omega
  refine ⟨s4,n1,fun x hx=>?_,QhE h1,a2.1,a2.2,a3,a4⟩;have:=List.all_eq_true.1 s2 x hx;unfold Qbk at this;simp only [Bool.and_eq_true,decide_eq_true_eq] at this;omega
end
section
def pdx (r:Nat):ByteArray:=if r=0 then ⟨#[]⟩ else ⟨#[46]⟩ ++ ptx r
theorem Qub (A:ByteArray) (r:Nat):A ++ pdx r=(if r=0 then A else A ++ ⟨#[46]⟩ ++ ptx r):=by
  unfold pdx;split
  · apply ByteArray.ext;rw [ByteArray.data_append];simp
  · rw [ByteArray.append_assoc]
theorem vtx_at {n:Nat} (hv:-999999999999999999<=v/\v<=999999999999999999) (hn:n=v.natAbs):sgx v ++ dtx (n / 1000000) ++ pdx (n % 1000000)=vtx v:=by
  unfold vtx;rw [if_pos hv,Qub,hn]
end
section
theorem Qcf {cs:Array Value} (h:w.heap[r]?=some (.cells cs T (0,0))) (j:Nat) {v:Value} (e:cs[j]?=some v):w.cell? ⟨r,j,none⟩=some v:=by rw [cell_of_row _ _ j _ _ (0,0) h];exact e
end
section
def eqL (s:Sm) (k:Int) (se:ByteArray) (v:Int) (wd:ByteArray) (wt:Int) (tm:Bool) (ti:Int):Bool:=(s.k == k) && ((s.se.toList == se.toList) && ((s.va == v) && ((s.wd.toList == wd.toList) && ((s.wt == wt) && ((s.td == tm) && (((s.ti:Int) == ti) && (s.c == 0)))))))
def TxR (t:ByteArray) (k:Int) (se:ByteArray) (v:Int) (wd:ByteArray) (wt:Int) (tm:Bool) (ti:Int) (r:ByteArray):Prop:=∃ s,LnR t s/\r=if eqL s k se v wd wt tm ti=true then t else ⟨#[]⟩
def LxA (k:Int) (se:ByteArray) (v:Int) (wd:ByteArray) (wt:Int) (tm:Bool) (ti:Int) (r:ByteArray):Prop:=(QbB k se v wd wt tm ti=false/\r=⟨#[]⟩)∨(QbB k se v wd wt tm ti=true/\∃ nm K,Qg7 se nm K/\TxR (lnX nm K k v wd wt tm ti) k se v wd wt tm ti r)
theorem Qtc (h:QbB k se v wd wt tm ti=true):∃ nm K,Qg7 se nm K:=by
  unfold QbB at h;simp only [Bool.and_eq_true] at h;by_cases hp:QbW se
  · exact hp
  · have:=h.1.1.1.2
    rw [QbO hp] at this
    cases this
end
section
theorem Qk5 (N:Nat) (hN:N<=9223372036854775807) (w:World) :
    Calls prog 101 #[.int .i64 N] w fun e w'=>e=.returned (.string (dtx N))/\Below w.heap.size w w':=by
  by_cases h:N=0
  · subst h
    have HE:Hid (⟨#[48]⟩=dtx 0):=(by unfold dtx;rw [Lib.decDigits_one (by omega)];rfl:⟨#[48]⟩=dtx 0);go_enter func101,ntmps101;go_wp2;go_ret;exact ⟨Qd7 HE,ZZb _ _⟩
  · exact Qdk N h hN w
theorem QgD (z:Int) (h0:0<=z) (h1:z<=9223372036854775807) (w:World) :
    Calls prog 101 #[.int .i64 z] w fun e w'=>e=.returned (.string (dtx z.toNat))/\Below w.heap.size w w':=by
  have:=Qk5 z.toNat (by omega) w
  rwa [Int.toNat_of_nonneg h0] at this
theorem Qt7 (v a b:Int) (w:World) :
    Calls prog 33 #[.int .i64 v,.int .i64 a,.int .i64 b] w fun e w'=>e=.returned (.bool (decide (a<=v) && decide (v<=b)))/\w'=w:=by
  by_cases h1:a<=v <;> by_cases h2:v<=b <;> (go_enter func33,ntmps33;go_wp2;go_ret;exact ⟨by simp [h1,h2],rfl⟩)
theorem QhK (v:Int) (w:World) :
    Calls prog 124 #[.int .i64 v] w fun e w'=>e=.returned (.bool (decide (-999999999999999999<=v) && decide (v<=999999999999999999)))/\w'=w:=by
  go_enter func124,ntmps124;go_wp2_with (go_at_call 33;refine (Qt7 _ _ _ _).mono ?_;rintro e w1 ⟨rfl,hw⟩;obtain rfl:=hw.symm);go_ret;exact ⟨rfl,rfl⟩
theorem Qfd (v:Int) (h:¬ (-999999999999999999<=v/\v<=999999999999999999)) (w:World) :
    Calls prog 119 #[.int .i64 v] w fun e w'=>e=.returned (.string (vtx v))/\Below w.heap.size w w':=by
  have HE:Hid (⟨#[]⟩=vtx v):=(by unfold vtx;rw [if_neg h]:⟨#[]⟩=vtx v)
  have HC:Hid (∀ w,Calls prog 124 #[.int .i64 v] w fun e w'=>e=.returned (.bool false)/\w'=w):=fun w=>by
    have:=QhK v w
    rwa [show (decide (-999999999999999999<=v) && decide (v<=999999999999999999))=false by
      cases h':(decide (-999999999999999999<=v) && decide (v<=999999999999999999)) with
      | false=>rfl
      | true=>exact absurd ⟨of_decide_eq_true (Bool.and_eq_true_iff.1 h').1,of_decide_eq_true (Bool.and_eq_true_iff.1 h').2⟩ h] at this
  clear h;go_enter func119,ntmps119;go_wp2_with (go_at_call 124;refine (HC.out _).mono ?_;rintro e w1 ⟨rfl,hw⟩;obtain rfl:=hw.symm);go_ret;exact ⟨Qd7 HE,ZZb _ _⟩
theorem Qm8 (L:List UInt8) (x:UInt8):bt ⟨(L ++ [x]).toArray⟩ L.length=(x.toNat:Int):=by
  unfold bt;rw [dif_pos (show L.length<ByteArray.size ⟨(L ++ [x]).toArray⟩ by show L.length<(L ++ [x]).length;simp)]
  show (((L ++ [x]).toArray[L.length]'_).toNat:Int)=_
  simp
theorem QlL (L:List UInt8) (x:UInt8):(⟨(L ++ [x]).toArray⟩:ByteArray).extract 0 L.length=⟨L.toArray⟩:=by
  rw [Lib.extract_upto];simp
def strSz:Value->Nat
  | .string s=>s.size
  | _=>0
theorem QfA (v:Int) (h:-999999999999999999<=v/\v<=999999999999999999) (w:World) :
    Calls prog 119 #[.int .i64 v] w fun e w'=>e=.returned (.string (vtx v))/\Below w.heap.size w w':=by
  obtain ⟨n,hn⟩:∃ n,n=v.natAbs:=⟨_,rfl⟩;obtain ⟨q,hq⟩:∃ q,q=n / 1000000:=⟨_,rfl⟩;obtain ⟨r,hr⟩:∃ r,r=n % 1000000:=⟨_,rfl⟩;have ae:r<1000000:=by omega
  have af:q<=9223372036854775807:=by omega
  have HE:Hid (sgx v ++ dtx q ++ pdx r=vtx v):=(by rw [hq,hr];exact vtx_at h hn:sgx v ++ dtx q ++ pdx r=vtx v);have e1:Int.tdiv (n:Int) 1000000=(q:Int):=by rw [hq];rfl
  have e2:Int.tmod (n:Int) 1000000=(r:Int):=by rw [hr];rfl
  have hd:=QfD q af
  have HC:Hid (∀ w,Calls prog 124 #[.int .i64 v] w fun e w'=>e=.returned (.bool true)/\w'=w):=fun w=>by
    have:=QhK v w
    rwa [ZZh h.1,ZZh h.2] at this
  have HQ:Hid (∀ w,Calls prog 101 #[.int .i64 (q:Int)] w fun e w'=>e=.returned (.string (dtx q))/\Below w.heap.size w w'):=fun w=>Qk5 q af w;by_cases hv:v<0
  · have ag:v=-(n:Int):=by omega
    obtain ⟨v0,ab⟩:∃ v0,v0=v:=⟨_,rfl⟩;have HS:Hid (sgx v0=⟨#[45]⟩):=(by rw [ab];exact if_pos hv:sgx v0=⟨#[45]⟩);rw [<- ab] at HE;clear hq hr hn;subst ag;have HV:Hid (v0=-(n:Int)):=ab;have HG:Hid (vtx v0=vtx (-(n:Int))):=(by rw [ab]:vtx v0=vtx (-(n:Int)));rw [<- HG.out];clear ab
    · by_cases hz:r=0
      · have HZ:Hid (pdx r=⟨#[]⟩):=(by unfold pdx;rw [if_pos hz]:pdx r=⟨#[]⟩)
        have ah:((r:Int) == 0)=true:=by simp [hz]
        have HA:Hid (⟨#[45]⟩ ++ dtx q=vtx v0):=(by rw [<- HE.out,HZ.out,HS.out];apply ByteArray.ext;rw [ByteArray.data_append];simp:⟨#[45]⟩ ++ dtx q=vtx v0);clear hz;go_enter func119,ntmps119
        go_wp2_with (first
          | (go_at_call 124;refine (HC.out _).mono ?_;rintro e w0 ⟨rfl,hw⟩;obtain rfl:=hw.symm)
          | (go_at_call 101;refine (HQ.out _).mono ?_;rintro e w1 ⟨rfl,ad⟩))
        go_ret;exact ⟨Qd7 HA,ad⟩
      · have HZ:Hid (pdx r=⟨#[46]⟩ ++ ptx r):=(by unfold pdx;rw [if_neg hz]:pdx r=⟨#[46]⟩ ++ ptx r)
        have ah:((r:Int) == 0)=false:=ZZf.2 (by omega);have HA:Hid (⟨#[45]⟩ ++ dtx q ++ ⟨#[46]⟩ ++ ptx r=vtx v0):=(by rw [<- HE.out,HZ.out,HS.out,ByteArray.append_assoc]:⟨#[45]⟩ ++ dtx q ++ ⟨#[46]⟩ ++ ptx r=vtx v0);have HT:Hid (TrR r (six r)):=Qja ae hz;have hx:(dtx (1000000+r)).extract 1 (dtx (1000000+r)).size=⟨(six r).toArray⟩:=tail7 ae;obtain ⟨S,hS⟩:∃ S,S=dtx (1000000+r):=⟨_,rfl⟩;have aj:S.size=7:=by rw [hS];show (Lib.decDigits (1000000+r)).length=7;rw [dec7 ae];rfl
        have ao:dtx (1000000+(r:Int)).toNat=S:=by rw [hS];congr 1
        have au:(0:Int)<=(q:Int):=by omega
        have ar:(q:Int)<=9223372036854775807:=by omega
        have aq:dtx ((q:Int)).toNat=dtx q:=rfl;rw [<- hS,aj] at hx;clear hz hS;have hB:Below w.heap.size w w:=ZZb _ _;go_enter func119,ntmps119
        go_wp2_with (first
          | (go_at_call 124;refine (HC.out _).mono ?_;rintro e w0 ⟨rfl,hw⟩;obtain rfl:=hw.symm)
          | (go_at_call 101;refine (QgD _ (by omega) (by omega) _).mono ?_;rintro e w1 ⟨rfl,ad⟩;have hB:=hB.trans (ad.mono hB.size)))
        go_loopw [5] (fun d wr=>wr=w1/\∃ L,d=.string ⟨L.toArray⟩/\TrR r L) (fun d wr=>strSz d)
        case atStart=>exact ⟨rfl,six r,rfl,HT⟩
        case round=>
          obtain ⟨am,L,rfl,hR⟩:=hrel;subst am;obtain ⟨L',x,rfl⟩:=Qlo hR;obtain ⟨D,hD⟩:∃ D,D=(⟨(L' ++ [x]).toArray⟩:ByteArray):=⟨_,rfl⟩;have ap:=get_bt D;have an:D.size=L'.length+1:=by rw [hD];show (L' ++ [x]).length=_;simp
          have ac:bt D L'.length=(x.toNat:Int):=by rw [hD];exact Qm8 L' x
          have ak:D.extract 0 L'.length=⟨L'.toArray⟩:=by rw [hD];exact QlL L' x
          have al:L'.length+1<=6:=by have:=hR.2.2;simpa using this
          rw [<- hD];obtain ⟨m,hm⟩:∃ m,m=L'.length:=⟨_,rfl⟩;rw [<- hm] at an ac ak al;by_cases aa:x=48
          · have HR:Hid (TrR r L'):=Qk8 (by rw [aa] at hR;exact hR)
            have ai:(bt D m == 48)=true:=by rw [ac,aa];rfl
            have HM:Hid (L'.length<D.size):=(by omega:L'.length<D.size);clear hR aa hD hm;go_wp2;go_roundw
            case rel=>exact ⟨trivial,L',rfl,HR⟩
            case measure=>exact HM.out
          · have HR:Hid (ptx r=D):=(by rw [hD];unfold ptx;rw [Qo4 hR aa]:ptx r=D)
            have ai:(bt D m == 48)=false:=ZZf.2 (by
              rw [ac];intro e;apply aa;apply UInt8.toNat_inj.1;have:(48:UInt8).toNat=48:=rfl;omega)
            clear hR aa hD hm;go_wp2;go_ret;exact ⟨Qd7 (by rw [<- HA.out,HR.out]),hB⟩
  · have ag:v=(n:Int):=by omega
    obtain ⟨v0,ab⟩:∃ v0,v0=v:=⟨_,rfl⟩;have HS:Hid (sgx v0=⟨#[]⟩):=(by rw [ab];exact if_neg hv:sgx v0=⟨#[]⟩);rw [<- ab] at HE;clear hq hr hn;subst ag;have HV:Hid (v0=(n:Int)):=ab;have HG:Hid (vtx v0=vtx (n:Int)):=(by rw [ab]:vtx v0=vtx (n:Int));rw [<- HG.out];clear ab
    · by_cases hz:r=0
      · have HZ:Hid (pdx r=⟨#[]⟩):=(by unfold pdx;rw [if_pos hz]:pdx r=⟨#[]⟩)
        have ah:((r:Int) == 0)=true:=by simp [hz]
        have HA:Hid (⟨#[]⟩ ++ dtx q=vtx v0):=(by rw [<- HE.out,HZ.out,HS.out];apply ByteArray.ext;rw [ByteArray.data_append];simp:⟨#[]⟩ ++ dtx q=vtx v0);clear hz;go_enter func119,ntmps119
        go_wp2_with (first
          | (go_at_call 124;refine (HC.out _).mono ?_;rintro e w0 ⟨rfl,hw⟩;obtain rfl:=hw.symm)
          | (go_at_call 101;refine (HQ.out _).mono ?_;rintro e w1 ⟨rfl,ad⟩))
        go_ret;exact ⟨Qd7 HA,ad⟩
      · have HZ:Hid (pdx r=⟨#[46]⟩ ++ ptx r):=(by unfold pdx;rw [if_neg hz]:pdx r=⟨#[46]⟩ ++ ptx r)
        have ah:((r:Int) == 0)=false:=ZZf.2 (by omega);have HA:Hid (⟨#[]⟩ ++ dtx q ++ ⟨#[46]⟩ ++ ptx r=vtx v0):=(by rw [<- HE.out,HZ.out,HS.out,ByteArray.append_assoc]:⟨#[]⟩ ++ dtx q ++ ⟨#[46]⟩ ++ ptx r=vtx v0);have HT:Hid (TrR r (six r)):=Qja ae hz;have hx:(dtx (1000000+r)).extract 1 (dtx (1000000+r)).size=⟨(six r).toArray⟩:=tail7 ae;obtain ⟨S,hS⟩:∃ S,S=dtx (1000000+r):=⟨_,rfl⟩;have aj:S.size=7:=by rw [hS];show (Lib.decDigits (1000000+r)).length=7;rw [dec7 ae];rfl
        have ao:dtx (1000000+(r:Int)).toNat=S:=by rw [hS];congr 1
        have au:(0:Int)<=(q:Int):=by omega
        have ar:(q:Int)<=9223372036854775807:=by omega
        have aq:dtx ((q:Int)).toNat=dtx q:=rfl;rw [<- hS,aj] at hx;clear hz hS;have hB:Below w.heap.size w w:=ZZb _ _;go_enter func119,ntmps119
        go_wp2_with (first
          | (go_at_call 124;refine (HC.out _).mono ?_;rintro e w0 ⟨rfl,hw⟩;obtain rfl:=hw.symm)
          | (go_at_call 101;refine (QgD _ (by omega) (by omega) _).mono ?_;rintro e w1 ⟨rfl,ad⟩;have hB:=hB.trans (ad.mono hB.size)))
        go_loopw [5] (fun d wr=>wr=w1/\∃ L,d=.string ⟨L.toArray⟩/\TrR r L) (fun d wr=>strSz d)
        case atStart=>exact ⟨rfl,six r,rfl,HT⟩
        case round=>
          obtain ⟨am,L,rfl,hR⟩:=hrel;subst am;obtain ⟨L',x,rfl⟩:=Qlo hR;obtain ⟨D,hD⟩:∃ D,D=(⟨(L' ++ [x]).toArray⟩:ByteArray):=⟨_,rfl⟩;have ap:=get_bt D;have an:D.size=L'.length+1:=by rw [hD];show (L' ++ [x]).length=_;simp
          have ac:bt D L'.length=(x.toNat:Int):=by rw [hD];exact Qm8 L' x
          have ak:D.extract 0 L'.length=⟨L'.toArray⟩:=by rw [hD];exact QlL L' x
          have al:L'.length+1<=6:=by have:=hR.2.2;simpa using this
          rw [<- hD];obtain ⟨m,hm⟩:∃ m,m=L'.length:=⟨_,rfl⟩;rw [<- hm] at an ac ak al;by_cases aa:x=48
          · have HR:Hid (TrR r L'):=Qk8 (by rw [aa] at hR;exact hR)
            have ai:(bt D m == 48)=true:=by rw [ac,aa];rfl
            have HM:Hid (L'.length<D.size):=(by omega:L'.length<D.size);clear hR aa hD hm;go_wp2;go_roundw
            case rel=>exact ⟨trivial,L',rfl,HR⟩
            case measure=>exact HM.out
          · have HR:Hid (ptx r=D):=(by rw [hD];unfold ptx;rw [Qo4 hR aa]:ptx r=D)
            have ai:(bt D m == 48)=false:=ZZf.2 (by
              rw [ac];intro e;apply aa;apply UInt8.toNat_inj.1;have:(48:UInt8).toNat=48:=rfl;omega)
            clear hR aa hD hm;go_wp2;go_ret;exact ⟨Qd7 (by rw [<- HA.out,HR.out]),hB⟩
theorem QeU (v:Int) (w:World) :
    Calls prog 119 #[.int .i64 v] w fun e w'=>e=.returned (.string (vtx v))/\Below w.heap.size w w':=by
  by_cases h:-999999999999999999<=v/\v<=999999999999999999
  · exact QfA v h w
  · exact Qfd v h w
end
section
def lnP (b:ByteArray) (K:List ByteArray) (i:Nat):ByteArray:=if i=0 then b else b ++ (⟨#[124,35]⟩ ++ ⟨(QaM (K.take i)).toArray⟩)
theorem Qtg (b:ByteArray) (K:List ByteArray):lnP b K K.length=lnC b K:=by
  unfold lnP lnC;rw [List.take_length]
theorem Qn3 (a b c:ByteArray):a ++ b ++ c=a ++ (b ++ c):=ByteArray.append_assoc
theorem QpY (a b:ByteArray):toL (a ++ b)=toL a ++ toL b:=by unfold toL;simp
theorem QqL (h:K[0]?=some x):b ++ ⟨#[124,35]⟩ ++ x=lnP b K 1:=by
  unfold lnP;rw [if_neg (by omega),List.take_add_one,h,Qn3]
  have:(⟨(QaM (K.take 0 ++ (some x).toList)).toArray⟩:ByteArray)=x:=by
    show (⟨(QaM [x]).toArray⟩:ByteArray)=x
    rw [Qda];exact Qfw x
  rw [this]
theorem QrG (h:K[i]?=some x) (h0:0<i):lnP b K i ++ ⟨#[44]⟩ ++ x=lnP b K (i+1):=by
  have hl:=(ZZd.1 h).1;unfold lnP;rw [if_neg (by omega),if_neg (by omega),List.take_add_one,h];rw [show (some x).toList=[x] from rfl,Qfb (fun e=>by have:=congrArg List.length e;rw [List.length_take,List.length_nil] at this;omega)];apply Qa5;simp [QpY,Qa8]
theorem Qrd (hb:b.size<=150) (h:∀ x∈K,x.size<=20) (hK:K.length<=8):(lnP b K i).size<=400:=by
  unfold lnP;have:=Qo8 (K:=K.take i) (fun x hx=>h x (List.mem_of_mem_take hx)) (by rw [List.length_take];omega)
  split
  · omega
  · rw [ByteArray.size_append,ByteArray.size_append]
    have:(⟨#[124,35]⟩:ByteArray).size=2:=rfl;omega
theorem Qju (k:Int) (se:ByteArray) (v:Int) (wd:ByteArray) (wt:Int) (tm:Bool) (ti:Int) (hse:se.size<=maxLen) (hwd:wd.size<=maxLen) :
    Calls prog 84 #[.agg #[.int .i64 k,.string se,.int .i64 v,.string wd,.int .u64 wt,.bool tm,.int .i64 ti]] w fun e w'=>∃ r,e=.returned (.string r)/\LxA k se v wd wt tm ti r/\Below w.heap.size w w':=by
  have aF:Below w.heap.size w (w.alloc (.cells #[.int .i64 k,.string se,.int .i64 v,.string wd,.int .u64 wt,.bool tm,.int .i64 ti] 97)):=(ZZb _ _).alloc (ZZa _) _;have aw:=Qaa (ZZk w (.cells #[.int .i64 k,.string se,.int .i64 v,.string wd,.int .u64 wt,.bool tm,.int .i64 ti] 97));have aL:=Qaa aF;have aU:(w.alloc (.cells #[.int .i64 k,.string se,.int .i64 v,.string wd,.int .u64 wt,.bool tm,.int .i64 ti] 97)).heap.size=w.heap.size+1:=by simp
  clear aF;go_enter func84,ntmps84;go_wp2_with fail;generalize w.alloc (.cells #[.int .i64 k,.string se,.int .i64 v,.string wd,.int .u64 wt,.bool tm,.int .i64 ti] 97)=W0 at aw aL aU ⊢;refine (Qcl k se v wd wt tm ti hse hwd).mono ?_;rintro e w1 ⟨rfl,av⟩;have ax:=Qaa (Qac aL av);have aK:Hid (∀ W,Below w1.heap.size w1 W->W.heap[w.heap.size]?=some (.cells #[.int .i64 k,.string se,.int .i64 v,.string wd,.int .u64 wt,.bool tm,.int .i64 ti] 97 (0,0))):=fun W hW=>(hW.block _ (by have:=av.size;omega)).trans ((av.block _ (by omega)).trans aw);clear av aw aL aU
  cases hq:QbB k se v wd wt tm ti with
  | false=>
    have HQ:Hid (LxA k se v wd wt tm ti ⟨#[]⟩):=.inl ⟨hq,rfl⟩;clear hq;go_wp2;go_ret;exact ⟨_,rfl,HQ,ax⟩
  | true=>
    obtain ⟨bb,K0,aY⟩:=Qtc hq;have aD:=Qaa aY;have aJ:=Qaa hq;clear hq aY;have x1:=Qcf (aK.out _ (ZZb _ _)) 1 rfl;go_wp2_with fail;clear x1;refine (Qft se (by have:=aD.out.2.2.2.2.1;omega)).mono ?_;rintro e w2 ⟨nm,ao,n,c,rfl,hp,aB⟩;obtain ⟨K,hs,hn,hA⟩:=hp ⟨bb,K0,aD⟩;have a9:=Qaa hs;have HX:=Qaa (lx_of aJ hs);have HN:=Qaa hn;have HA:=Qaa hA;have a5:=Qaa (Qac ax aB);have al:Hid (∀ W,Below w2.heap.size w2 W->W.heap[w.heap.size]?=some (.cells #[.int .i64 k,.string se,.int .i64 v,.string wd,.int .u64 wt,.bool tm,.int .i64 ti] 97 (0,0))):=fun W hW=>aK.out W (Qac aB hW);have au:Hid (∀ r,TxR (lnX nm K k v wd wt tm ti) k se v wd wt tm ti r->LxA k se v wd wt tm ti r):=fun r h=>.inr ⟨aJ,nm,K,a9,h⟩;have ay:=Qaa (Ql0 (k:=k) (v:=v) (wt:=wt) (tm:=tm) HX.out.nm HX.out.wd HX.out.K HX.out.n HX.out.ti.2);have aE:=Qaa (Qk4 (k:=k) (v:=v) HX.out.wd);have bp:n<=8:=by have:=HX.out.n;omega
    clear aB aK ax aD aJ hs hn hA hp;have ad:Op.stringOp .add nm ⟨#[58]⟩=pure (.string (nm ++ ⟨#[58]⟩)):=QbA (by have:=HX.out.nm;have:(⟨#[58]⟩:ByteArray).size=1:=rfl;omega);have aa:Op.stringOp .add (nm ++ ⟨#[58]⟩) (whX k v wd)=pure (.string (nm ++ ⟨#[58]⟩ ++ whX k v wd)):=QbA (by rw [ByteArray.size_append];have:=HX.out.nm;have:=aE.out;have:(⟨#[58]⟩:ByteArray).size=1:=rfl;omega);have x0:=Qcf (al.out _ (ZZb _ _)) 0 rfl;have x2:=Qcf (al.out _ (ZZb _ _)) 2 rfl;have x3:=Qcf (al.out _ (ZZb _ _)) 3 rfl;go_upto_if 24 with fail
    go_cut [6] (fun v' w'=>v'=.string (nm ++ ⟨#[58]⟩ ++ whX k v wd)/\Hid (Below w2.heap.size w2 w'))
    case first=>
      by_cases hk:k=4
      · have bf:(k == 4)=true:=by simp [hk]
        have e:whX k v wd=wd:=if_pos hk;rw [e] at aa;have HE:=Qaa e;clear hk e;go_wp2;go_meet;exact ⟨by rw [HE.out],Qaa (Below.refl _ _)⟩
      · have bf:(k == 4)=false:=ZZf.2 hk
        have e:whX k v wd=vtx v:=if_neg hk;rw [e] at aa;have HE:=Qaa e;clear hk e;go_wp2_with fail;refine (QeU v _).mono ?_;rintro e w3 ⟨rfl,aP⟩;have af:=Qaa aP;clear aP;go_wp2;go_meet;exact ⟨by rw [HE.out],af⟩
    case rest=>
      obtain ⟨rfl,af⟩:=hcut;obtain ⟨w3,aQ⟩:∃ w3,wc=w3:=⟨_,rfl⟩;rw [aQ] at af ⊢;clear aQ x0 x2 x3 ad aa;have aX:=Qaa (Qac a5 af);have a8:=Qaa (Qay HA af);have aq:Hid (∀ W,Below w3.heap.size w3 W->W.heap[w.heap.size]?=some (.cells #[.int .i64 k,.string se,.int .i64 v,.string wd,.int .u64 wt,.bool tm,.int .i64 ti] 97 (0,0))):=fun W hW=>al.out W (Qac af hW);clear af al a5 HA;have aj:=Qaa (QlO (k:=k) (v:=v) HX.out.nm HX.out.wd);have ah:Hid (lnA nm k v wd=nm ++ ⟨#[58]⟩ ++ whX k v wd ++ ⟨#[124]⟩ ++ ltX k):=(rfl:lnA nm k v wd=nm ++ ⟨#[58]⟩ ++ whX k v wd ++ ⟨#[124]⟩ ++ ltX k);have ae:Hid (lnX nm K k v wd wt tm ti=lnD (lnC (lnB (lnA nm k v wd) wt) K) tm ti):=(rfl:lnX nm K k v wd wt tm ti=lnD (lnC (lnB (lnA nm k v wd) wt) K) tm ti);have an:Hid ((nm ++ ⟨#[58]⟩ ++ whX k v wd).size<=90):=by rw [ByteArray.size_append,ByteArray.size_append];have:=HX.out.nm;have:=aE.out;have:(⟨#[58]⟩:ByteArray).size=1:=rfl;show _<=_;omega
      generalize nm ++ ⟨#[58]⟩ ++ whX k v wd=a0 at ah an ⊢;have ad:Op.stringOp .add a0 ⟨#[124]⟩=pure (.string (a0 ++ ⟨#[124]⟩)):=QbA (by have:=an.out;have:(⟨#[124]⟩:ByteArray).size=1:=rfl;omega);have aa:∀ l:ByteArray,l.size=1->Op.stringOp .add (a0 ++ ⟨#[124]⟩) l=pure (.string (a0 ++ ⟨#[124]⟩ ++ l)):=fun l hl=>QbA (by rw [ByteArray.size_append];have:=an.out;have:(⟨#[124]⟩:ByteArray).size=1:=rfl;omega);have q1:=aa ⟨#[99]⟩ rfl;have q2:=aa ⟨#[103]⟩ rfl;have q3:=aa ⟨#[104]⟩ rfl;have q4:=aa ⟨#[115]⟩ rfl;clear aa;have x0:=Qcf (aq.out _ (ZZb _ _)) 0 rfl;go_upto_region 8 with fail
      go_cut [6] (fun v' w'=>v'=.string (lnA nm k v wd)/\Hid (Below w3.heap.size w3 w'))
      case first=>
        have bj:=HX.out.k;have ap:Hid (∀ o,Below w3.heap.size w3 (w3.alloc o)):=fun o=>(ZZb _ _).alloc (ZZa _) o;clear HX a9 au ay aE ae aj;have bg:w.heap.size<w3.heap.size:=by have:=(ZZc.1 (aq.out _ (ZZb _ _))).1;exact this
        rcases bj with rfl | rfl | rfl | rfl
        · go_wp2
          go_meet;exact ⟨by rw [ah.out];rfl,Qaa (ap.out _)⟩
        · go_wp2
          go_meet;exact ⟨by rw [ah.out];rfl,Qaa (ap.out _)⟩
        · go_wp2
          go_meet;exact ⟨by rw [ah.out];rfl,Qaa (ap.out _)⟩
        · go_wp2
          go_meet;exact ⟨by rw [ah.out];rfl,Qaa (ap.out _)⟩
      case rest=>
        obtain ⟨rfl,ak⟩:=hcut;obtain ⟨w4,aM⟩:∃ w4,wc=w4:=⟨_,rfl⟩;rw [aM] at ak ⊢;clear aM x0 ad q1 q2 q3 q4 ah an;have aZ:=Qaa (Qac aX ak);have aR:=Qaa (Qay a8 ak);have az:Hid (∀ W,Below w4.heap.size w4 W->W.heap[w.heap.size]?=some (.cells #[.int .i64 k,.string se,.int .i64 v,.string wd,.int .u64 wt,.bool tm,.int .i64 ti] 97 (0,0))):=fun W hW=>aq.out W (Qac ak hW);clear ak aq aX a8;generalize lnA nm k v wd=a at aj ae ⊢;obtain ⟨bc,ba⟩:=HX.out.wt;have x4:=Qcf (az.out _ (ZZb _ _)) 4 rfl;go_upto_if 44 with fail
        go_cut [6] (fun v' w'=>v'=.string (lnB a wt)/\Hid (Below w4.heap.size w4 w'))
        case first=>
          by_cases aW:1<wt
          · have HE:Hid (a ++ ⟨#[124,64]⟩ ++ vtx (1000000 / wt)=lnB a wt):=(by unfold lnB;rw [if_pos aW,Qn3]:a ++ ⟨#[124,64]⟩ ++ vtx (1000000 / wt)=lnB a wt)
            have ad:Op.stringOp .add a ⟨#[124,64]⟩=pure (.string (a ++ ⟨#[124,64]⟩)):=QbA (by have:=aj.out;have:(⟨#[124,64]⟩:ByteArray).size=2:=rfl;omega);have aa:Op.stringOp .add (a ++ ⟨#[124,64]⟩) (vtx (1000000 / wt))=pure (.string (a ++ ⟨#[124,64]⟩ ++ vtx (1000000 / wt))):=QbA (by rw [ByteArray.size_append];have:=aj.out;have:=QiG (1000000 / wt);have:(⟨#[124,64]⟩:ByteArray).size=2:=rfl;omega);have hd:Int.tdiv 1000000 wt=1000000 / wt:=Int.tdiv_eq_ediv_of_nonneg (by omega);have bv:0<=1000000 / wt:=Int.ediv_nonneg (by omega) (by omega);have bn:1000000 / wt<=1000000:=Int.ediv_le_self _ (by omega);have bs:IntKind.i64.wrap (1000000 / wt)=1000000 / wt:=by rw [IntKind.wrap_i64];omega
            have bu:IntKind.i64.wrap wt=wt:=by rw [IntKind.wrap_i64];omega
            have hz:(wt == 0)=false:=ZZf.2 (by omega);go_wp2_with fail;refine (QeU (1000000 / wt) _).mono ?_;rintro e w5 ⟨rfl,aT⟩;have ag:=Qaa aT;clear aT;go_wp2;go_meet;exact ⟨by rw [HE.out],ag⟩
          · have HE:Hid (a=lnB a wt):=(by unfold lnB;rw [if_neg aW]:a=lnB a wt)
            go_wp2;go_meet;exact ⟨by rw [<- HE.out],Qaa (Below.refl _ _)⟩
        case rest=>
          obtain ⟨rfl,ag⟩:=hcut;obtain ⟨w5,a6⟩:∃ w5,wc=w5:=⟨_,rfl⟩;rw [a6] at ag ⊢;clear a6 x4;have a1:=Qaa (Qac aZ ag);have a2:=Qaa (Qay aR ag);have ar:Hid (∀ W,Below w5.heap.size w5 W->W.heap[w.heap.size]?=some (.cells #[.int .i64 k,.string se,.int .i64 v,.string wd,.int .u64 wt,.bool tm,.int .i64 ti] 97 (0,0))):=fun W hW=>az.out W (Qac ag hW);have aC:=Qaa (Qli (wt:=wt) aj);generalize lnB a wt=b at aC ae ⊢;clear ag az aZ aR aj;go_wp2
          go_loopw [6,7] (fun tv i wr=>∃ j:Nat,j<=n/\i=.int .i64 j/\tv=.string (lnP b K j)/\wr=w5) (fun tv i wr=>n - (Go.RowKit.intOf i).toNat)
          case atStart=>exact ⟨0,ZZj _,rfl,rfl,rfl⟩
          case round=>
            obtain ⟨j,hj,rfl,rfl,rfl⟩:=hrel;by_cases bw:j<n
            · obtain ⟨y,hy⟩:∃ y,K[j]?=some y:=⟨K[j]'(by have:=HN.out;omega),ZZe _⟩
              obtain ⟨g,bt,e,ab⟩:=a2.out (by have:=HN.out;omega);subst e;have hc:=ab j y hy;have bk:y.size<=20:=HX.out.K y (ZZn hy);have a4:=Qrd (i:=j) aC HX.out.K HX.out.n;have bq:(j:Int)<(n:Int):=by omega
              by_cases h0:j=0
              · subst h0
                rw [Nat.add_zero] at hc;have HE:=Qaa (QqL (b:=b) hy);have e0:lnP b K 0=b:=if_pos rfl;rw [e0] at a4 ⊢;have ad:Op.stringOp .add b ⟨#[124,35]⟩=pure (.string (b ++ ⟨#[124,35]⟩)):=QbA (by have:(⟨#[124,35]⟩:ByteArray).size=2:=rfl;omega);have aa:Op.stringOp .add (b ++ ⟨#[124,35]⟩) y=pure (.string (b ++ ⟨#[124,35]⟩ ++ y)):=QbA (by rw [ByteArray.size_append];have:(⟨#[124,35]⟩:ByteArray).size=2:=rfl;omega);clear ab hy e0;go_wp2;go_roundw
                case rel=>exact ⟨0+1,by omega,by go_num,by rw [HE.out],by first | rfl | trivial⟩
                case measure=>simp [zI];omega
              · have HE:=Qaa (QrG (b:=b) hy (by omega))
                have aF:((j:Int) == 0)=false:=ZZf.2 (by omega);generalize lnP b K j=pj at HE a4 ⊢;have ad:Op.stringOp .add pj ⟨#[44]⟩=pure (.string (pj ++ ⟨#[44]⟩)):=QbA (by have:(⟨#[44]⟩:ByteArray).size=1:=rfl;omega);have aa:Op.stringOp .add (pj ++ ⟨#[44]⟩) y=pure (.string (pj ++ ⟨#[44]⟩ ++ y)):=QbA (by rw [ByteArray.size_append];have:(⟨#[44]⟩:ByteArray).size=1:=rfl;omega);clear ab hy;go_wp2;go_roundw
                case rel=>exact ⟨j+1,by omega,by go_num,by rw [HE.out],by first | rfl | trivial⟩
                case measure=>simp [zI];omega
            · obtain rfl:n=j:=by omega
              have aO:Hid (lnP b K n=lnC b K):=(by have h:=Qtg b K;rw [HN.out] at h;exact h:lnP b K n=lnC b K);rw [aO.out];have am:=Qaa (QlM aC HX.out.K HX.out.n);generalize lnC b K=c' at am ae ⊢;have x5:=Qcf (ar.out _ (ZZb _ _)) 5 rfl;have x6:=Qcf (ar.out _ (ZZb _ _)) 6 rfl;obtain ⟨bm,bo⟩:=HX.out.ti;go_upto_if 70 with fail
              go_cut [6] (fun v' w'=>v'=.string (lnX nm K k v wd wt tm ti)/\Hid (Below wr.heap.size wr w'))
              case first=>
                cases tm with
                | true=>
                  have HE:Hid (c' ++ ⟨#[124,84]⟩ ++ dtx ti.toNat=lnX nm K k v wd wt true ti):=(by rw [ae.out];unfold lnD;rw [if_pos rfl,Qn3]:c' ++ ⟨#[124,84]⟩ ++ dtx ti.toNat=lnX nm K k v wd wt true ti);have bl:=QfD ti.toNat (by omega);have ad:Op.stringOp .add c' ⟨#[124,84]⟩=pure (.string (c' ++ ⟨#[124,84]⟩)):=QbA (by have:=am.out;have:(⟨#[124,84]⟩:ByteArray).size=2:=rfl;omega);have aa:Op.stringOp .add (c' ++ ⟨#[124,84]⟩) (dtx ti.toNat)=pure (.string (c' ++ ⟨#[124,84]⟩ ++ dtx ti.toNat)):=QbA (by rw [ByteArray.size_append];have:=am.out;have:(⟨#[124,84]⟩:ByteArray).size=2:=rfl;omega);go_wp2_with fail;refine (QgD ti (by omega) (by omega) _).mono ?_;rintro e w6 ⟨rfl,a3⟩;have ai:=Qaa a3;clear a3;go_wp2;go_meet;exact ⟨by rw [HE.out],ai⟩
                | false=>
                  have HE:Hid (c'=lnX nm K k v wd wt false ti):=(by rw [ae.out];rfl:c'=lnX nm K k v wd wt false ti);go_wp2;go_meet;exact ⟨by rw [<- HE.out],Qaa (Below.refl _ _)⟩
              case rest=>
                obtain ⟨rfl,ai⟩:=hcut;obtain ⟨w6,aV⟩:∃ w6,wc=w6:=⟨_,rfl⟩;rw [aV] at ai ⊢;clear aV x5 x6;have bi:=Qaa (Qac a1 ai);have bd:Hid (∀ W,Below w6.heap.size w6 W->W.heap[w.heap.size]?=some (.cells #[.int .i64 k,.string se,.int .i64 v,.string wd,.int .u64 wt,.bool tm,.int .i64 ti] 97 (0,0))):=fun W hW=>ar.out W (Qac ai hW);clear ai ar a1 a2 ae am aO;generalize lnX nm K k v wd wt tm ti=tx at ay au ⊢;go_wp2_with fail;refine (Qfu tx (by have:=ay.out;unfold maxLen;omega)).mono ?_;rintro e w7 ⟨s,rfl,hL,aH⟩;have HL:=Qaa hL;have a7:=Qaa (Qac bi aH);have aS:Below w7.heap.size w7 (w7.alloc (.cells #[.int .i64 s.k,.string s.se,.int .i64 s.va,.string s.wd,.int .u64 s.wt,.bool s.td,.int .i64 s.ti,.int .i64 s.c] 122)):=(ZZb _ _).alloc (ZZa _) _;have bh:=Qaa (Qac a7 aS);have aI:Hid (∀ o,Below w.heap.size w (w7.alloc o)):=fun o=>Qac a7 ((ZZb _ _).alloc (ZZa _) o);have ac:=bd.out _ aH;have bg:=(ZZc.1 ac).1;have br:¬ w.heap.size=w7.heap.size:=by omega
                have x0:=Qcf ac 0 rfl;have x1:=Qcf ac 1 rfl;have x2:=Qcf ac 2 rfl;have x3:=Qcf ac 3 rfl;have x4:=Qcf ac 4 rfl;have x5:=Qcf ac 5 rfl;have x6:=Qcf ac 6 rfl;clear aH hL aS ac;unfold Qud;go_upto_region 21 with fail
                go_cut [87] (fun v' w'=>v'=.bool (!eqL s k se v wd wt tm ti)/\Hid (Below w.heap.size w w'))
                case first=>
                  by_cases aG:s.c=0
                  · have be:(s.c != 0)=false:=by simp [aG]
                    go_wp2
                    all_goals (go_meet;exact ⟨by simp [eqL, *],Qaa (aI.out _)⟩)
                  · have be:(s.c != 0)=true:=by simp [aG]
                    have HR:Hid ((!eqL s k se v wd wt tm ti)=true):=(by unfold eqL;simp [aG]:(!eqL s k se v wd wt tm ti)=true);go_wp2;go_meet;exact ⟨by rw [HR.out],bh⟩
                case rest=>
                  obtain ⟨rfl,aN⟩:=hcut
                  cases hq:eqL s k se v wd wt tm ti with
                  | true=>
                    have aA:Hid (LxA k se v wd wt tm ti tx):=au.out tx ⟨s,HL,by rw [hq];rfl⟩;go_wp2;go_ret;exact ⟨_,rfl,aA,aN⟩
                  | false=>
                    have aA:Hid (LxA k se v wd wt tm ti ⟨#[]⟩):=au.out ⟨#[]⟩ ⟨s,HL,by rw [hq];rfl⟩;go_wp2;go_ret;exact ⟨_,rfl,aA,aN⟩
end
section
theorem LxA.size {r:ByteArray} (h:LxA k se v wd wt tm ti r):r.size<=500:=by
  rcases h with ⟨_,rfl⟩ | ⟨h1,nm,K,hs,s,_,rfl⟩
  · decide
  · have x:=lx_of h1 hs
    have:=Ql0 (k:=k) (v:=v) (wt:=wt) (tm:=tm) x.nm x.wd x.K x.n x.ti.2
    split
    · exact this
    · decide
end
end Go.Proofs.YtlejlgldgafljaaGreatDoor
