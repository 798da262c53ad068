/-
 Parts.
-/
import Derived.Test.YtioohanfodmddaaGreatDoorCWC
import Derived.Lib.PathFns
import Derived.Lib.TrimByte
set_option maxHeartbeats 8000000
set_option maxRecDepth 10000
set_option linter.all false
namespace Go.Proofs.YtioohanfodmddaaGreatDoor
open Go.ChangeShapes Go.WideShapes Go.ChangeAt Go.RowKit Go.PlainAid Tryz
theorem mAh {p:Prop} (h:p:=by
 obtain ⟨ag,L,rfl,hR⟩:=hrel;subst ag;obtain ⟨L',x,rfl⟩:=Qm1 hR;obtain ⟨D,hD⟩:∃ D,D=(⟨(L' ++ [x]).toArray⟩:ByteArray):=⟨_,rfl⟩;have au:=get_bt D;have ah:D.size=L'.length+1:=by rw [hD];show (L' ++ [x]).length=_;simp
 have ac:bt D L'.length=(x.toNat:Int):=by rw [hD];exact Qpk L' x
 have al:D.extract 0 L'.length=⟨L'.toArray⟩:=by rw [hD];exact QmX L' x
 have an:L'.length+1<=6:=by have:=hR.2.2;simpa using this
 rw [<- hD];obtain ⟨m,hm⟩:∃ m,m=L'.length:=⟨_,rfl⟩;rw [<- hm] at ah ac al an;by_cases aa:x=48
 · have HR:Hid (TrR r L'):=Qmc (by rw [aa] at hR;exact hR)
   have am:(bt D m == 48)=true:=by rw [ac,aa];rfl
   have HM:Hid (L'.length<D.size):=Qaa oB;clear hR aa hD hm;go_wp2;go_roundw
   case rel=>exact ⟨trivial,L',rfl,HR⟩
   case measure=>exact HM.out
 · have HR:Hid (ptx r=D):=Qaa (by rw [hD];unfold ptx;rw [Qp1 hR aa])
   have am:(bt D m == 48)=false:=ZZf.2 (by
     rw [ac];intro e;apply aa;apply UInt8.toNat_inj.1;have:(48:UInt8).toNat=48:=rfl;omega)
   clear hR aa hD hm;go_wp2;go_ret;exact ⟨QdB (by rw [<- HA.out,HR.out]),hB⟩):p:=h
theorem mBo {p:Prop} (h:p:=by
 clear hz;go_enter func140,ntmps140
 go_wp2_with (first
   | (go_at_call 131;refine (HC.out _).mono ?_;rintro e w0 ⟨rfl,hw⟩;obtain rfl:=hw.symm)
   | (go_at_call 113;refine (HQ.out _).mono ?_;rintro e w1 ⟨rfl,ad⟩))
 go_ret;exact ⟨QdB HA,ad⟩):p:=h
theorem mBw {p:Prop} (h:p:=by go_wp2;go_ret;exact ⟨by rw [HE.out];rfl,HB.bel⟩):p:=h
theorem mCe {p:Prop} (h:p:=by go_wp2_with (go_at_call 141;refine (Qbp _ _ hwd).mono ?_;rintro e w9 ⟨rfl,ad⟩;obtain rfl:=ad;rw [htg]);go_ret;exact ⟨by rw [ah.out];first | rfl | simp [ab],HB.bel⟩):p:=h
theorem mCv {p:Prop} (h:p:=by go_meet;exact ⟨by rw [ai.out];rfl,Qaa (aq.out _)⟩):p:=h
section
def smpV (k:Int) (se:ByteArray) (v:Int) (wd:ByteArray) (wt:Int) (tm:Bool) (ti:Int):Value:=.agg #[.int .i64 k,.string se,.int .i64 v,.string wd,.int .u64 wt,.bool tm,.int .i64 ti]
end
variable {w w':World}
variable {g i r:Nat}
variable {T:TypeId}
variable {k ti v wt:Int}
variable {a b nm se wd x:ByteArray}
variable {tm:Bool}
section
theorem cell7M {c0 c1 c2 c3 c4 c5 c6:Value} {fz:Nat×Nat} (h:w.heap[g]?=some (.cells #[c0,c1,c2,c3,c4,c5,c6] T fz)) :
    w.cell? ⟨g,0,none⟩=some c0/\w.cell? ⟨g,1,none⟩=some c1/\w.cell? ⟨g,2,none⟩=some c2/\w.cell? ⟨g,3,none⟩=some c3/\w.cell? ⟨g,4,none⟩=some c4/\w.cell? ⟨g,5,none⟩=some c5/\w.cell? ⟨g,6,none⟩=some c6:=
  ⟨by rw [cell_of_row w g 0 _ _ _ h];rfl,by rw [cell_of_row w g 1 _ _ _ h];rfl,by rw [cell_of_row w g 2 _ _ _ h];rfl,by rw [cell_of_row w g 3 _ _ _ h];rfl,by rw [cell_of_row w g 4 _ _ _ h];rfl,by rw [cell_of_row w g 5 _ _ _ h];rfl,by rw [cell_of_row w g 6 _ _ _ h];rfl⟩
theorem QrF {o:Obj} (h:w.heap[g]?=some o) (hb:Bw w w'):w'.heap[g]?=some o:=by
  rw [hb.block _ (Array.getElem?_eq_some_iff.1 h).1];exact h
structure SBox (w0 w:World) (g:Nat) (k:Int) (se:ByteArray) (v:Int) (wd:ByteArray) (wt:Int) (tm:Bool) (ti:Int) (T:TypeId):Prop where
  row:w.heap[g]?=some (.cells #[.int .i64 k,.string se,.int .i64 v,.string wd,.int .u64 wt,.bool tm,.int .i64 ti] T (0,0))
  bel:Bw w0 w
section
variable {w0 w:World} {g:Nat} {k:Int} {se:ByteArray} {v:Int} {wd:ByteArray} {wt:Int} {tm:Bool} {ti:Int} {T:TypeId}
theorem SBox.made (w:World):SBox w (w.alloc (.cells #[.int .i64 k,.string se,.int .i64 v,.string wd,.int .u64 wt,.bool tm,.int .i64 ti] T)) w.heap.size k se v wd wt tm ti T:=
  ⟨ZZk w _,(ZZb _ _).alloc (ZZa _) _⟩
theorem SBox.past (h:SBox w0 w g k se v wd wt tm ti T) (hb:Bw w w'):SBox w0 w' g k se v wd wt tm ti T:=⟨QrF h.row hb,h.bel.trans (hb.mono h.bel.size)⟩
end
theorem Qjp (n lo hi:Int) (w:World):Calls prog 31 #[.int .i64 n,.int .i64 lo,.int .i64 hi] w fun e w'=>e=.returned (.bool (decide (lo<=n) && decide (n<=hi)))/\w'=w:=by
  by_cases h1:lo<=n <;> by_cases h2:n<=hi <;> (go_enter func31,ntmps31;go_wp2;go_ret;exact ⟨by simp [h1,h2],rfl⟩)
theorem Qju (v:Int) (w:World):Calls prog 131 #[.int .i64 v] w fun e w'=>e=.returned (.bool (Qt4 v))/\w'=w:=by
  go_enter func131,ntmps131;go_wp2_with (go_at_call 31;refine (Qjp _ _ _ _).mono ?_;rintro e w1 ⟨rfl,aa⟩;obtain rfl:=aa);exact mBk
theorem Qim (h:Qir k=true):k=1∨k=2∨k=3∨k=4:=by
  unfold Qir at h;simp only [yB,decide_eq_true_eq] at h;omega
theorem Qsm (h:Qt4 v=false):QbC k se v wd wt tm ti=false:=by
  have hw:Qkc k v wd=false:=by
    unfold Qkc
    split
    · have:v≠0:=fun e=>by subst e;revert h;decide
      simp [this]
    · simp [h]
  simp [QbC,hw]
theorem QhY (h:wt<1∨1000000<wt):QbC k se v wd wt tm ti=false:=by
  have hw:Qc0 k wt=false:=by
    unfold Qc0;rw [decide_eq_false (show ¬ wt=1 by omega)];rcases h with h | h
    · rw [decide_eq_false (show ¬ 0<wt by omega)];simp
    · rw [decide_eq_false (show ¬ wt<=1000000 by omega)];simp
  simp [QbC,hw]
theorem Qnr (h:(decide (0<=ti) && decide (ti<=1000000000))=false∨tm=false/\ti≠0):QbC k se v wd wt tm ti=false:=by
  have hw:Qhe tm ti=false:=by
    unfold Qhe;rcases h with h | ⟨h1,h2⟩
    · split
      · exact h
      · exact ZZg (fun e=>by subst e;revert h;decide)
    · rw [h1];simp [h2]
  simp [QbC,hw]
theorem Qmr (h1:Qir k=true) (h2:Qbl se=true) (h3:Qt4 v=true) (h4:1<=wt) (h5:wt<=1000000) (h6:(decide (0<=ti) && decide (ti<=1000000000))=true) (h7:tm=true∨ti=0) :
    QbC k se v wd wt tm ti=if k=4 then decide (v=0) && Qbg wd && decide (wt=1) else decide (wd.size=0) && (decide (k≠2) || decide (wt=1)):=by
  have ht:Qhe tm ti=true:=by
    unfold Qhe
    split
    · exact h6
    · rename_i hn
      rcases h7 with h | h
      · exact absurd h hn
      · exact ZZh h
  unfold QbC;rw [h1,h2,ht];have e0:decide (0<wt)=true:=ZZh oB;have e1:decide (wt<=1000000)=true:=ZZh h5;rcases Qim h1 with rfl | rfl | rfl | rfl <;> simp [Qkc,Qc0,h3,e0,e1]
theorem Qck (k:Int) (se:ByteArray) (v:Int) (wd:ByteArray) (wt:Int) (tm:Bool) (ti:Int) (hse:se.size<=maxLen) (hwd:wd.size<=maxLen) :
    Calls prog 89 #[smpV k se v wd wt tm ti] w fun e w'=>e=.returned (.bool (QbC k se v wd wt tm ti))/\Bw w w':=by
  have HB:=Qaa (SBox.made (k:=k) (se:=se) (v:=v) (wd:=wd) (wt:=wt) (tm:=tm) (ti:=ti) (T:=85) w);unfold smpV;go_enter func89,ntmps89;go_wp2_with fail;refine (Qjp _ _ _ _).mono ?_;rintro e w1 ⟨rfl,ab⟩;obtain rfl:=ab;have e1:(decide ((1:Int)<=k) && decide (k<=4))=Qir k:=rfl;rw [e1];clear e1
  cases h1:Qir k with
  | false=>
    have HE:Hid (QbC k se v wd wt tm ti=false):=Qaa (by simp [QbC,h1]);exact mBw
  | true=>
    go_wp2_with fail;refine (Qdr se hse).mono ?_;rintro e w2 ⟨rfl,af⟩;replace HB:=Qaa (HB.past af);clear af;obtain ⟨c0,c1,c2,c3,c4,c5,c6⟩:=cell7M HB.row
    cases h2:Qbl se with
    | false=>
      have HE:Hid (QbC k se v wd wt tm ti=false):=Qaa (by simp [QbC,h2]);exact mBw
    | true=>
      go_wp2_with fail;refine (Qju _ _).mono ?_;rintro e w3 ⟨rfl,ar⟩;obtain rfl:=ar
      cases h3:Qt4 v with
      | false=>
        have HE:Hid (QbC k se v wd wt tm ti=false):=Qsm h3;exact mBw
      | true=>
        by_cases h4:wt<1
        · have HE:Hid (QbC k se v wd wt tm ti=false):=QhY (.inl h4)
          exact mBw
        by_cases h5:1000000<wt
        · have HE:Hid (QbC k se v wd wt tm ti=false):=QhY (.inr h5)
          exact mBw
        go_wp2_with fail;refine (Qjp _ _ _ _).mono ?_;rintro e w4 ⟨rfl,ao⟩;obtain rfl:=ao
        cases h6:(decide ((0:Int)<=ti) && decide (ti<=1000000000)) with
        | false=>
          have HE:Hid (QbC k se v wd wt tm ti=false):=Qnr (.inl h6);clear h6;exact mBw
        | true=>
          have H6:=Qaa h6;clear h6
          have aj:(tm=true∨ti=0)∨(tm=false/\ti≠0):=by
            cases tm with
            | true=>exact .inl (.inl rfl)
            | false => by_cases h : ti = 0
                       · exact .inl (.inr h)
                       · exact .inr ⟨rfl,h⟩
          rcases aj with am | ⟨rfl,ak⟩
          · have al:1<=wt:=by omega
            have an:wt<=1000000:=oB
            by_cases ae:k=4
            · have HE:Hid (QbC k se v wd wt tm ti=(decide (v=0) && Qbg wd && decide (wt=1))):=Qaa (by rw [Qmr h1 h2 h3 al an H6.out am,if_pos ae])
              have aq:(k == 4)=true:=by simpa using ae
              by_cases ag:v=0
              · have au:(v == 0)=true:=by simpa using ag
                cases htg:Qbg wd with
                | false=>
                  have HF:Hid (QbC k se v wd wt tm ti=false):=Qaa (by rw [HE.out,htg];simp);have aa:(tm=true/\True)∨(tm=false/\ti=0):=by cases tm <;> simp_all
                  rcases aa with ⟨rfl,_⟩ | ⟨rfl,rfl⟩
                  all_goals
                    go_wp2_with (go_at_call 141;refine (Qbp _ _ hwd).mono ?_;rintro e w9 ⟨rfl,ad⟩;obtain rfl:=ad;rw [htg]);go_ret;exact ⟨by rw [HF.out];rfl,HB.bel⟩
                | true=>
                  have HF:Hid (QbC k se v wd wt tm ti=decide (wt=1)):=Qaa (by rw [HE.out,htg,decide_eq_true ag];simp);have aa:(tm=true/\True)∨(tm=false/\ti=0):=by cases tm <;> simp_all
                  by_cases ab:wt=1
                  · have ah:Hid (QbC k se v wd wt tm ti=true):=Qaa (by rw [HF.out];exact decide_eq_true ab)
                    have ai:(wt == 1)=true:=by simpa using ab
                    rcases aa with ⟨rfl,_⟩ | ⟨rfl,rfl⟩
                    all_goals
                      exact mCe
                  · have ah:Hid (QbC k se v wd wt tm ti=false):=Qaa (by rw [HF.out];exact decide_eq_false ab)
                    have ai:(wt == 1)=false:=by simpa using ab
                    rcases aa with ⟨rfl,_⟩ | ⟨rfl,rfl⟩
                    all_goals
                      exact mCe
              · have au:(v == 0)=false:=by simpa using ag
                have HF:Hid (QbC k se v wd wt tm ti=false):=Qaa (by rw [HE.out,decide_eq_false ag];rfl);have aa:(tm=true/\True)∨(tm=false/\ti=0):=by cases tm <;> simp_all
                rcases aa with ⟨rfl,_⟩ | ⟨rfl,rfl⟩
                all_goals
                  go_wp2;go_ret;exact ⟨by rw [HF.out];rfl,HB.bel⟩
            · have HE:Hid (QbC k se v wd wt tm ti=(decide (wd.size=0) && (decide (k≠2) || decide (wt=1)))):=Qaa (by rw [Qmr h1 h2 h3 al an H6.out am,if_neg ae])
              have aq:(k == 4)=false:=by simpa using ae
              have aa:(tm=true/\True)∨(tm=false/\ti=0):=by cases tm <;> simp_all
              by_cases h0:wd.size=0
              · have he:=isE0 h0
                by_cases ac:k=2
                · have af:(k != 2)=false:=by simpa using ac
                  by_cases ab:wt=1
                  · have ai:(wt == 1)=true:=by simpa using ab
                    have HF:Hid (QbC k se v wd wt tm ti=true):=Qaa (by rw [HE.out];simp [h0,ab]);rcases aa with ⟨rfl,_⟩ | ⟨rfl,rfl⟩
                    all_goals
                      go_wp2;go_ret;exact ⟨by rw [HF.out];first | rfl | simp [ab,he],HB.bel⟩
                  · have ai:(wt == 1)=false:=by simpa using ab
                    have HF:Hid (QbC k se v wd wt tm ti=false):=Qaa (by rw [HE.out];simp [h0,ab,ac]);rcases aa with ⟨rfl,_⟩ | ⟨rfl,rfl⟩
                    all_goals
                      go_wp2;go_ret;exact ⟨by rw [HF.out];first | rfl | simp [ab,he],HB.bel⟩
                · have af:(k != 2)=true:=by simpa using ac
                  have HF:Hid (QbC k se v wd wt tm ti=true):=Qaa (by rw [HE.out];simp [h0,ac]);rcases aa with ⟨rfl,_⟩ | ⟨rfl,rfl⟩
                  all_goals
                    go_wp2;go_ret;exact ⟨by rw [HF.out];first | rfl | simp [he],HB.bel⟩
              · have he:=isE h0
                have HF:Hid (QbC k se v wd wt tm ti=false):=Qaa (by rw [HE.out];simp [h0]);rcases aa with ⟨rfl,_⟩ | ⟨rfl,rfl⟩
                all_goals
                  go_wp2;go_ret;exact ⟨by rw [HF.out];first | rfl | simp [he],HB.bel⟩
          · have av:(ti == 0)=false:=by simpa using ak
            have ap:(ti != 0)=true:=by simpa using ak
            have HE:Hid (QbC k se v wd wt false ti=false):=Qnr (.inr ⟨rfl,ak⟩);exact mBw
end
variable {L':List UInt8}
section
def dgt (x:Nat):UInt8:=UInt8.ofNat (48+x)
theorem QdM:∀ {x:Nat},x<10->dgt x=48->x=0:=by decide
def six (r:Nat):List UInt8:=[dgt (r / 100000 % 10),dgt (r / 10000 % 10),dgt (r / 1000 % 10),dgt (r / 100 % 10),dgt (r / 10 % 10),dgt (r % 10)]
theorem dec7 (h:r<1000000):Lib.decDigits (1000000+r)=49 :: six r:=by
  have st:∀ a b:Nat,1<=a->Lib.decDigits (10*a+b)=Lib.decDigits (a+b / 10) ++ [dgt (b % 10)]:=fun a b ha=>by
    rw [Qdl oB,show (10*a+b) / 10=a+b / 10 by omega,show (10*a+b) % 10=b % 10 by omega];rfl
  rw [show 1000000+r=10*100000+r by omega,st _ _ oB,show 100000+r / 10=10*10000+r / 10 by omega,st _ _ oB,Nat.div_div_eq_div_mul,
    show 10000+r / (10*10)=10*1000+r / 100 by omega,st _ _ oB,Nat.div_div_eq_div_mul,
    show 1000+r / (100*10)=10*100+r / 1000 by omega,st _ _ oB,Nat.div_div_eq_div_mul,
    show 100+r / (1000*10)=10*10+r / 10000 by omega,st _ _ oB,Nat.div_div_eq_div_mul,
    show 10+r / (10000*10)=10*1+r / 100000 by omega,st _ _ oB,Nat.div_div_eq_div_mul,
    show 1+r / (100000*10)=1 by omega,Lib.decDigits_one oB]
  rfl
theorem QsP (h:r<1000000) (h0:r≠0):∃ x∈six r,x≠48:=by
  refine Classical.byContradiction fun hn=>h0 ?_;have aa:∀ x∈six r,x=48:=fun x hx=>Classical.byContradiction fun hne=>hn ⟨x,hx,hne⟩;have a1:=QdM (Nat.mod_lt _ oB) (aa (dgt (r / 100000 % 10)) xJ);have a2:=QdM (Nat.mod_lt _ oB) (aa (dgt (r / 10000 % 10)) xJ);have a3:=QdM (Nat.mod_lt _ oB) (aa (dgt (r / 1000 % 10)) xJ);have a4:=QdM (Nat.mod_lt _ oB) (aa (dgt (r / 100 % 10)) xJ);have a5:=QdM (Nat.mod_lt _ oB) (aa (dgt (r / 10 % 10)) xJ);have a6:=QdM (Nat.mod_lt _ oB) (aa (dgt (r % 10)) xJ);omega
theorem QiI (L:List UInt8) (c:UInt8):Lib.trimRightB (L ++ [c]) c=Lib.trimRightB L c:=by
  unfold Lib.trimRightB;rw [List.reverse_append];simp
theorem QhJ (L:List UInt8) (x c:UInt8) (h:x≠c):Lib.trimRightB (L ++ [x]) c=L ++ [x]:=by
  unfold Lib.trimRightB;rw [List.reverse_append];simp [h]
def TrR (r:Nat) (L:List UInt8):Prop:=Lib.trimRightB L 48=Lib.trimRightB (six r) 48/\(∃ x∈L,x≠48)/\L.length<=6
theorem Qm1 {L:List UInt8} (h:TrR r L):∃ L' x,L=L' ++ [x]:=by
  rcases List.eq_nil_or_concat L with e | ⟨L',x,e⟩
  · obtain ⟨x,hx,_⟩:=h.2.1;rw [e] at hx;cases hx
  · exact ⟨L',x,by rw [e,List.concat_eq_append]⟩
theorem Qmc (h:TrR r (L' ++ [48])):TrR r L':=by
  refine ⟨by rw [<- h.1,QiI],?_,by have:=h.2.2;simp at this;omega⟩;obtain ⟨x,hx,aa⟩:=h.2.1;rcases List.mem_append.1 hx with k | k
  · exact ⟨x,k,aa⟩
  · exact absurd (List.mem_singleton.1 k) aa
theorem Qp1 {x:UInt8} (h:TrR r (L' ++ [x])) (hx:x≠48):Lib.trimRightB (six r) 48=L' ++ [x]:=by
  rw [<- h.1,QhJ _ _ _ hx]
theorem QkN (h:r<1000000) (h0:r≠0):TrR r (six r):=⟨rfl,QsP h h0,ZZa _⟩
def ptx (r:Nat):ByteArray:=⟨(Lib.trimRightB (six r) 48).toArray⟩
def dtx (n:Nat):ByteArray:=⟨(Lib.decDigits n).toArray⟩
theorem Qs1 (r:Nat):(ptx r).size<=6:=by
  show (Lib.trimRightB (six r) 48).length<=6
  unfold Lib.trimRightB;rw [List.length_reverse];have h:=(List.dropWhile_sublist (fun x:UInt8=>x == 48) (l:=(six r).reverse)).length_le;rw [List.length_reverse] at h;exact h
theorem Qgk (n:Nat) (h:n<=9223372036854775807):(dtx n).size<=21:=Ql4 n h
def sgx (v:Int):ByteArray:=if v<0 then ⟨#[45]⟩ else ⟨#[]⟩
def vtx (v:Int):ByteArray:=
  if -999999999999999999<=v/\v<=999999999999999999 then (if v.natAbs % 1000000=0 then sgx v ++ dtx (v.natAbs / 1000000) else sgx v ++ dtx (v.natAbs / 1000000) ++ ⟨#[46]⟩ ++ ptx (v.natAbs % 1000000)) else ⟨#[]⟩
theorem tail7 (h:r<1000000):(dtx (1000000+r)).extract 1 (dtx (1000000+r)).size=⟨(six r).toArray⟩:=by
  rw [Lib.extract_from];unfold dtx;rw [dec7 h];rfl
end
variable {K:List ByteArray}
section
theorem QbB (h:a.size+b.size<=1000000):Op.stringOp .add a b=pure (.string (a ++ b)):=by
  unfold Op.stringOp
  have:¬ (((a.size+b.size:Nat):Int) > IntKind.i64.max):=by
    have e:IntKind.i64.max=9223372036854775807:=oF
    rw [e];omega
  simp only;rw [if_neg this]
def whX (k v:Int) (wd:ByteArray):ByteArray:=if k=4 then wd else vtx v
def ltX (k:Int):ByteArray:=if k=1 then ⟨#[99]⟩ else if k=2 then ⟨#[103]⟩ else if k=3 then ⟨#[104]⟩ else ⟨#[115]⟩
def lnA (nm:ByteArray) (k v:Int) (wd:ByteArray):ByteArray:=nm ++ ⟨#[58]⟩ ++ whX k v wd ++ ⟨#[124]⟩ ++ ltX k
def lnB (a:ByteArray) (wt:Int):ByteArray:=if 1<wt then a ++ (⟨#[124,64]⟩ ++ vtx (1000000 / wt)) else a
def lnC (b:ByteArray) (K:List ByteArray):ByteArray:=if K.length=0 then b else b ++ (⟨#[124,35]⟩ ++ ⟨(QaN K).toArray⟩)
def lnD (c:ByteArray) (tm:Bool) (ti:Int):ByteArray:=if tm=true then c ++ (⟨#[124,84]⟩ ++ dtx ti.toNat) else c
def lnX (nm:ByteArray) (K:List ByteArray) (k v:Int) (wd:ByteArray) (wt:Int) (tm:Bool) (ti:Int):ByteArray:=lnD (lnC (lnB (lnA nm k v wd) wt) K) tm ti
theorem Qi8 (v:Int):(vtx v).size<=40:=by
  unfold vtx
  split
  · rename_i h
    have h1:v.natAbs / 1000000<=9223372036854775807:=oB
    have h2:=Qgk _ h1;have h3:=Qs1 (v.natAbs % 1000000);have h4:(sgx v).size<=1:=by unfold sgx;split <;> decide
    split
    · rw [ByteArray.size_append];omega
    · rw [ByteArray.size_append,ByteArray.size_append,ByteArray.size_append]
      have:(⟨#[46]⟩:ByteArray).size=1:=rfl;omega
  · decide
theorem Qs2 (k:Int):(ltX k).size=1:=by unfold ltX;split;rfl;split;rfl;split;rfl;rfl
theorem Qmm (h:wd.size<=40):(whX k v wd).size<=40:=by unfold whX;split;exact h;exact Qi8 v
theorem QnD (h:nm.size<=40) (hw:wd.size<=40):(lnA nm k v wd).size<=100:=by
  unfold lnA;have h1:=Qmm (k:=k) (v:=v) hw;have h2:=Qs2 k;rw [ByteArray.size_append,ByteArray.size_append,ByteArray.size_append,ByteArray.size_append];have e1:(⟨#[58]⟩:ByteArray).size=1:=rfl;have e2:(⟨#[124]⟩:ByteArray).size=1:=rfl;omega
theorem QmA (h:a.size<=100):(lnB a wt).size<=150:=by
  unfold lnB;have:=Qi8 (1000000 / wt)
  split
  · rw [ByteArray.size_append,ByteArray.size_append]
    have e2:(⟨#[124,64]⟩:ByteArray).size=2:=rfl;omega
  · omega
theorem QoD (h:∀ x∈K,x.size<=20) (hK:K.length<=8):(⟨(QaN K).toArray⟩:ByteArray).size<=168:=by
  have:=Qe8 h
  show (QaN K).toArray.size<=168
  simp only [List.size_toArray];have:K.length*(20+1)<=168:=oB
  omega
theorem QmQ (hb:b.size<=150) (h:∀ x∈K,x.size<=20) (hK:K.length<=8):(lnC b K).size<=400:=by
  unfold lnC;have:=QoD h hK
  split
  · omega
  · rw [ByteArray.size_append,ByteArray.size_append]
    have e2:(⟨#[124,35]⟩:ByteArray).size=2:=rfl;omega
theorem Qmp (h:nm.size<=40) (hw:wd.size<=40) (hk:∀ x∈K,x.size<=20) (hK:K.length<=8) (ht:ti<=1000000000):(lnX nm K k v wd wt tm ti).size<=500:=by
  unfold lnX lnD;have h1:=QmQ (QmA (wt:=wt) (QnD (k:=k) (v:=v) h hw)) hk hK;have h2:=Qgk ti.toNat oB
  split
  · rw [ByteArray.size_append,ByteArray.size_append]
    have e2:(⟨#[124,84]⟩:ByteArray).size=2:=rfl;omega
  · omega
structure LxO (nm:ByteArray) (K:List ByteArray) (k v:Int) (wd:ByteArray) (wt ti:Int):Prop where
  n:K.length<=8
  nm:nm.size<=40
  K:∀ x∈K,x.size<=20
  k:k=1∨k=2∨k=3∨k=4
  v:-999999999999999999<=v/\v<=999999999999999999
  wd:wd.size<=40
  wt:1<=wt/\wt<=1000000
  ti:0<=ti/\ti<=1000000000
theorem lx_of (h:QbC k se v wd wt tm ti=true) (hs:QhA se nm K):LxO nm K k v wd wt ti:=by
  unfold QbC at h;simp only [yB] at h;obtain ⟨⟨⟨⟨h1,_⟩,h2⟩,h3⟩,h4⟩:=h
  have a2:(-999999999999999999<=v/\v<=999999999999999999)/\wd.size<=40:=by
    unfold Qkc at h2
    split at h2
    · simp only [yB,decide_eq_true_eq] at h2
      refine ⟨by omega,?_⟩;have:=h2.2;unfold Qbg at this;simp only [yB,decide_eq_true_eq] at this;omega
    · unfold Qt4 at h2
      simp only [yB,decide_eq_true_eq] at h2;exact ⟨h2.1,by omega⟩
  have a3:1<=wt/\wt<=1000000:=by
    unfold Qc0 at h3;simp only [yB,Bool.or_eq_true,decide_eq_true_eq] at h3;omega
  have a4:0<=ti/\ti<=1000000000:=by
    unfold Qhe at h4
    split at h4
    · simpa using h4
    · simp only [decide_eq_true_eq] at h4;omega
  obtain ⟨s1,s2,_,s4,_⟩:=hs
  have n1:nm.size<=40:=by
    unfold QaF at s1;simp only [yB,decide_eq_true_eq] at s1;omega
  refine ⟨s4,n1,fun x hx=>?_,Qim h1,a2.1,a2.2,a3,a4⟩;have:=List.all_eq_true.1 s2 x hx;unfold Qbg at this;simp only [yB,decide_eq_true_eq] at this;omega
end
section
def pdx (r:Nat):ByteArray:=if r=0 then ⟨#[]⟩ else ⟨#[46]⟩ ++ ptx r
theorem QvR (A:ByteArray) (r:Nat):A ++ pdx r=(if r=0 then A else A ++ ⟨#[46]⟩ ++ ptx r):=by
  unfold pdx;split
  · apply ByteArray.ext;rw [ByteArray.data_append];simp
  · rw [ByteArray.append_assoc]
theorem vtx_at {n:Nat} (hv:-999999999999999999<=v/\v<=999999999999999999) (hn:n=v.natAbs):sgx v ++ dtx (n / 1000000) ++ pdx (n % 1000000)=vtx v:=by
  unfold vtx;rw [if_pos hv,QvR,hn]
end
section
theorem Qco {cs:Array Value} (h:w.heap[r]?=some (.cells cs T (0,0))) (j:Nat) {v:Value} (e:cs[j]?=some v):w.cell? ⟨r,j,none⟩=some v:=by rw [cell_of_row _ _ j _ _ (0,0) h];exact e
end
section
def eqL (s:Sm) (k:Int) (se:ByteArray) (v:Int) (wd:ByteArray) (wt:Int) (tm:Bool) (ti:Int):Bool:=(s.k == k) && ((s.se.toList == se.toList) && ((s.va == v) && ((s.wd.toList == wd.toList) && ((s.wt == wt) && ((s.td == tm) && (((s.ti:Int) == ti) && (s.c == 0)))))))
def TxR (t:ByteArray) (k:Int) (se:ByteArray) (v:Int) (wd:ByteArray) (wt:Int) (tm:Bool) (ti:Int) (r:ByteArray):Prop:=∃ s,LnR t s/\r=if eqL s k se v wd wt tm ti=true then t else ⟨#[]⟩
def LxA (k:Int) (se:ByteArray) (v:Int) (wd:ByteArray) (wt:Int) (tm:Bool) (ti:Int) (r:ByteArray):Prop:=(QbC k se v wd wt tm ti=false/\r=⟨#[]⟩)∨(QbC k se v wd wt tm ti=true/\∃ nm K,QhA se nm K/\TxR (lnX nm K k v wd wt tm ti) k se v wd wt tm ti r)
theorem Qvl (h:QbC k se v wd wt tm ti=true):∃ nm K,QhA se nm K:=by
  unfold QbC at h;simp only [yB] at h;by_cases hp:QbX se
  · exact hp
  · have:=h.1.1.1.2
    rw [QbP hp] at this
    cases this
end
section
theorem Qm0 (N:Nat) (hN:N<=9223372036854775807) (w:World) :
    Calls prog 113 #[.int .i64 N] w fun e w'=>e=.returned (.string (dtx N))/\Bw w w':=by
  by_cases h:N=0
  · subst h
    have HE:Hid (⟨#[48]⟩=dtx 0):=Qaa (by unfold dtx;rw [Lib.decDigits_one oB];rfl);go_enter func113,ntmps113;go_wp2;go_ret;exact ⟨QdB HE,ZZb _ _⟩
  · exact Qds N h hN w
theorem QgH (z:Int) (h0:0<=z) (h1:z<=9223372036854775807) (w:World) :
    Calls prog 113 #[.int .i64 z] w fun e w'=>e=.returned (.string (dtx z.toNat))/\Bw w w':=by
  have:=Qm0 z.toNat oB w
  rwa [Int.toNat_of_nonneg h0] at this
theorem Qvw (v a b:Int) (w:World) :
    Calls prog 31 #[.int .i64 v,.int .i64 a,.int .i64 b] w fun e w'=>e=.returned (.bool (decide (a<=v) && decide (v<=b)))/\w'=w:=by
  by_cases h1:a<=v <;> by_cases h2:v<=b <;> (go_enter func31,ntmps31;go_wp2;go_ret;exact ⟨by simp [h1,h2],rfl⟩)
theorem QhS (v:Int) (w:World) :
    Calls prog 131 #[.int .i64 v] w fun e w'=>e=.returned (.bool (decide (-999999999999999999<=v) && decide (v<=999999999999999999)))/\w'=w:=by
  go_enter func131,ntmps131;go_wp2_with (go_at_call 31;refine (Qvw _ _ _ _).mono ?_;rintro e w1 ⟨rfl,hw⟩;obtain rfl:=hw.symm);exact mBk
theorem Qfx (v:Int) (h:¬ (-999999999999999999<=v/\v<=999999999999999999)) (w:World) :
    Calls prog 140 #[.int .i64 v] w fun e w'=>e=.returned (.string (vtx v))/\Bw w w':=by
  have HE:Hid (⟨#[]⟩=vtx v):=Qaa (by unfold vtx;rw [if_neg h])
  have HC:Hid (∀ w,Calls prog 131 #[.int .i64 v] w fun e w'=>e=.returned (.bool false)/\w'=w):=fun w=>by
    have:=QhS v w
    rwa [show (decide (-999999999999999999<=v) && decide (v<=999999999999999999))=false by
      cases h':(decide (-999999999999999999<=v) && decide (v<=999999999999999999)) with
      | false=>rfl
      | true=>exact absurd ⟨of_decide_eq_true (Bool.and_eq_true_iff.1 h').1,of_decide_eq_true (Bool.and_eq_true_iff.1 h').2⟩ h] at this
  clear h;go_enter func140,ntmps140;go_wp2_with (go_at_call 131;refine (HC.out _).mono ?_;rintro e w1 ⟨rfl,hw⟩;obtain rfl:=hw.symm);go_ret;exact ⟨QdB HE,ZZb _ _⟩
theorem Qpk (L:List UInt8) (x:UInt8):bt ⟨(L ++ [x]).toArray⟩ L.length=(x.toNat:Int):=by
  unfold bt;rw [dif_pos (show L.length<ByteArray.size ⟨(L ++ [x]).toArray⟩ by show L.length<(L ++ [x]).length;simp)]
  show (((L ++ [x]).toArray[L.length]'_).toNat:Int)=_
  simp
theorem QmX (L:List UInt8) (x:UInt8):(⟨(L ++ [x]).toArray⟩:ByteArray).extract 0 L.length=⟨L.toArray⟩:=by
  rw [Lib.extract_upto];simp
def strSz:Value->Nat
  | .string s=>s.size
  | _=>0
theorem Qf3 (v:Int) (h:-999999999999999999<=v/\v<=999999999999999999) (w:World) :
    Calls prog 140 #[.int .i64 v] w fun e w'=>e=.returned (.string (vtx v))/\Bw w w':=by
  obtain ⟨n,hn⟩:∃ n,n=v.natAbs:=⟨_,rfl⟩;obtain ⟨q,hq⟩:∃ q,q=n / 1000000:=⟨_,rfl⟩;obtain ⟨r,hr⟩:∃ r,r=n % 1000000:=⟨_,rfl⟩;have ae:r<1000000:=oB
  have af:q<=9223372036854775807:=oB
  have HE:Hid (sgx v ++ dtx q ++ pdx r=vtx v):=Qaa (by rw [hq,hr];exact vtx_at h hn);have e1:Int.tdiv (n:Int) 1000000=(q:Int):=by rw [hq];rfl
  have e2:Int.tmod (n:Int) 1000000=(r:Int):=by rw [hr];rfl
  have hd:=Qgk q af
  have HC:Hid (∀ w,Calls prog 131 #[.int .i64 v] w fun e w'=>e=.returned (.bool true)/\w'=w):=fun w=>by
    have:=QhS v w
    rwa [ZZh h.1,ZZh h.2] at this
  have HQ:Hid (∀ w,Calls prog 113 #[.int .i64 (q:Int)] w fun e w'=>e=.returned (.string (dtx q))/\Bw w w'):=fun w=>Qm0 q af w;by_cases hv:v<0
  · have ai:v=-(n:Int):=by omega
    obtain ⟨v0,ab⟩:∃ v0,v0=v:=⟨_,rfl⟩;have HS:Hid (sgx v0=⟨#[45]⟩):=Qaa (by rw [ab];exact if_pos hv);rw [<- ab] at HE;clear hq hr hn;subst ai;have HV:Hid (v0=-(n:Int)):=ab;have HG:Hid (vtx v0=vtx (-(n:Int))):=Qaa (by rw [ab]);rw [<- HG.out];clear ab
    · by_cases hz:r=0
      · have HZ:Hid (pdx r=⟨#[]⟩):=Qaa (by unfold pdx;rw [if_pos hz])
        have ak:((r:Int) == 0)=true:=by simp [hz]
        have HA:Hid (⟨#[45]⟩ ++ dtx q=vtx v0):=Qaa OD;exact mBo
      · have HZ:Hid (pdx r=⟨#[46]⟩ ++ ptx r):=Qaa (by unfold pdx;rw [if_neg hz])
        have ak:((r:Int) == 0)=false:=ZZf.2 oB;have HA:Hid (⟨#[45]⟩ ++ dtx q ++ ⟨#[46]⟩ ++ ptx r=vtx v0):=Qaa OT;have HT:Hid (TrR r (six r)):=QkN ae hz;have hx:(dtx (1000000+r)).extract 1 (dtx (1000000+r)).size=⟨(six r).toArray⟩:=tail7 ae;obtain ⟨S,hS⟩:∃ S,S=dtx (1000000+r):=⟨_,rfl⟩;have aj:S.size=7:=by rw [hS];show (Lib.decDigits (1000000+r)).length=7;rw [dec7 ae];rfl
        have aq:dtx (1000000+(r:Int)).toNat=S:=by rw [hS];congr 1
        have ar:(0:Int)<=(q:Int):=oB
        have ap:(q:Int)<=9223372036854775807:=oB
        have ao:dtx ((q:Int)).toNat=dtx q:=rfl;rw [<- hS,aj] at hx;clear hz hS;have hB:Bw w w:=ZZb _ _;go_enter func140,ntmps140
        go_wp2_with (first
          | (go_at_call 131;refine (HC.out _).mono ?_;rintro e w0 ⟨rfl,hw⟩;obtain rfl:=hw.symm)
          | (go_at_call 113;refine (QgH _ oB oB _).mono ?_;rintro e w1 ⟨rfl,ad⟩;have hB:=hB.trans (ad.mono hB.size)))
        go_loopw [5] (fun d wr=>wr=w1/\∃ L,d=.string ⟨L.toArray⟩/\TrR r L) (fun d wr=>strSz d)
        case atStart=>exact ⟨rfl,six r,rfl,HT⟩
        case round=>
          exact mAh
  · have ai:v=(n:Int):=by omega
    obtain ⟨v0,ab⟩:∃ v0,v0=v:=⟨_,rfl⟩;have HS:Hid (sgx v0=⟨#[]⟩):=Qaa (by rw [ab];exact if_neg hv);rw [<- ab] at HE;clear hq hr hn;subst ai;have HV:Hid (v0=(n:Int)):=ab;have HG:Hid (vtx v0=vtx (n:Int)):=Qaa (by rw [ab]);rw [<- HG.out];clear ab
    · by_cases hz:r=0
      · have HZ:Hid (pdx r=⟨#[]⟩):=Qaa (by unfold pdx;rw [if_pos hz])
        have ak:((r:Int) == 0)=true:=by simp [hz]
        have HA:Hid (⟨#[]⟩ ++ dtx q=vtx v0):=Qaa OD;exact mBo
      · have HZ:Hid (pdx r=⟨#[46]⟩ ++ ptx r):=Qaa (by unfold pdx;rw [if_neg hz])
        have ak:((r:Int) == 0)=false:=ZZf.2 oB;have HA:Hid (⟨#[]⟩ ++ dtx q ++ ⟨#[46]⟩ ++ ptx r=vtx v0):=Qaa OT;have HT:Hid (TrR r (six r)):=QkN ae hz;have hx:(dtx (1000000+r)).extract 1 (dtx (1000000+r)).size=⟨(six r).toArray⟩:=tail7 ae;obtain ⟨S,hS⟩:∃ S,S=dtx (1000000+r):=⟨_,rfl⟩;have aj:S.size=7:=by rw [hS];show (Lib.decDigits (1000000+r)).length=7;rw [dec7 ae];rfl
        have aq:dtx (1000000+(r:Int)).toNat=S:=by rw [hS];congr 1
        have ar:(0:Int)<=(q:Int):=oB
        have ap:(q:Int)<=9223372036854775807:=oB
        have ao:dtx ((q:Int)).toNat=dtx q:=rfl;rw [<- hS,aj] at hx;clear hz hS;have hB:Bw w w:=ZZb _ _;go_enter func140,ntmps140
        go_wp2_with (first
          | (go_at_call 131;refine (HC.out _).mono ?_;rintro e w0 ⟨rfl,hw⟩;obtain rfl:=hw.symm)
          | (go_at_call 113;refine (QgH _ oB oB _).mono ?_;rintro e w1 ⟨rfl,ad⟩;have hB:=hB.trans (ad.mono hB.size)))
        go_loopw [5] (fun d wr=>wr=w1/\∃ L,d=.string ⟨L.toArray⟩/\TrR r L) (fun d wr=>strSz d)
        case atStart=>exact ⟨rfl,six r,rfl,HT⟩
        case round=>
          exact mAh
theorem Qfg (v:Int) (w:World) :
    Calls prog 140 #[.int .i64 v] w fun e w'=>e=.returned (.string (vtx v))/\Bw w w':=by
  by_cases h:-999999999999999999<=v/\v<=999999999999999999
  · exact Qf3 v h w
  · exact Qfx v h w
end
section
def lnP (b:ByteArray) (K:List ByteArray) (i:Nat):ByteArray:=if i=0 then b else b ++ (⟨#[124,35]⟩ ++ ⟨(QaN (K.take i)).toArray⟩)
theorem QvV (b:ByteArray) (K:List ByteArray):lnP b K K.length=lnC b K:=by
  unfold lnP lnC;rw [List.take_length]
theorem QpT (a b c:ByteArray):a ++ b ++ c=a ++ (b ++ c):=ByteArray.append_assoc
theorem Qsc (a b:ByteArray):toL (a ++ b)=toL a ++ toL b:=by unfold toL;simp
theorem QrV (h:K[0]?=some x):b ++ ⟨#[124,35]⟩ ++ x=lnP b K 1:=by
  unfold lnP;rw [if_neg oB,List.take_add_one,h,QpT]
  have:(⟨(QaN (K.take 0 ++ (some x).toList)).toArray⟩:ByteArray)=x:=by
    show (⟨(QaN [x]).toArray⟩:ByteArray)=x
    rw [Qdw];exact Qee x
  rw [this]
theorem QrI (h:K[i]?=some x) (h0:0<i):lnP b K i ++ ⟨#[44]⟩ ++ x=lnP b K (i+1):=by
  have hl:=(ZZd.1 h).1;unfold lnP;rw [if_neg oB,if_neg oB,List.take_add_one,h];rw [show (some x).toList=[x] from rfl,QfB (fun e=>by have:=congrArg List.length e;rw [List.length_take,List.length_nil] at this;omega)];apply QaW;simp [Qsc,QaQ]
theorem Qr2 (hb:b.size<=150) (h:∀ x∈K,x.size<=20) (hK:K.length<=8):(lnP b K i).size<=400:=by
  unfold lnP;have:=QoD (K:=K.take i) (fun x hx=>h x (List.mem_of_mem_take hx)) (by rw [List.length_take];omega)
  split
  · omega
  · rw [ByteArray.size_append,ByteArray.size_append]
    have:(⟨#[124,35]⟩:ByteArray).size=2:=rfl;omega
theorem Qj7 (k:Int) (se:ByteArray) (v:Int) (wd:ByteArray) (wt:Int) (tm:Bool) (ti:Int) (hse:se.size<=maxLen) (hwd:wd.size<=maxLen) :
    Calls prog 87 #[.agg #[.int .i64 k,.string se,.int .i64 v,.string wd,.int .u64 wt,.bool tm,.int .i64 ti]] w fun e w'=>∃ r,e=.returned (.string r)/\LxA k se v wd wt tm ti r/\Bw w w':=by
  have aB:Bw w (w.alloc (.cells #[.int .i64 k,.string se,.int .i64 v,.string wd,.int .u64 wt,.bool tm,.int .i64 ti] 85)):=bAA;have aF:=Qaa (ZZk w (.cells #[.int .i64 k,.string se,.int .i64 v,.string wd,.int .u64 wt,.bool tm,.int .i64 ti] 85));have aH:=Qaa aB;have a9:(w.alloc (.cells #[.int .i64 k,.string se,.int .i64 v,.string wd,.int .u64 wt,.bool tm,.int .i64 ti] 85)).heap.size=w.heap.size+1:=oE
  clear aB;go_enter func87,ntmps87;go_wp2_with fail;generalize w.alloc _=W0 at aF aH a9 ⊢;refine (Qck k se v wd wt tm ti hse hwd).mono ?_;rintro e w1 ⟨rfl,au⟩;have aG:=Qaa (Qac aH au);have aD:Hid (∀ W,Bw w1 W->W.heap[w.heap.size]?=some (.cells #[.int .i64 k,.string se,.int .i64 v,.string wd,.int .u64 wt,.bool tm,.int .i64 ti] 85 (0,0))):=fun W hW=>(hW.block _ (oA au.size)).trans ((au.block _ oB).trans aF);clear au aF aH a9
  cases hq:QbC k se v wd wt tm ti with
  | false=>
    have HQ:Hid (LxA k se v wd wt tm ti ⟨#[]⟩):=.inl ⟨hq,rfl⟩;clear hq;go_wp2;go_ret;exact ⟨_,rfl,HQ,aG⟩
  | true=>
    obtain ⟨bd,K0,aR⟩:=Qvl hq;have aI:=Qaa aR;have az:=Qaa hq;clear hq aR;have x1:=Qco (aD.out _ (ZZb _ _)) 1 rfl;go_wp2_with fail;clear x1;refine (QfO se (oA aI.2.2.2.2.1)).mono ?_;rintro e w2 ⟨nm,ao,n,c,rfl,hp,aC⟩;obtain ⟨K,hs,hn,hA⟩:=hp ⟨bd,K0,aI⟩;have a8:=Qaa hs;have HX:=Qaa (lx_of az hs);have HN:=Qaa hn;have HA:=Qaa hA;have aU:=Qaa (Qac aG aC);have ak:Hid (∀ W,Bw w2 W->W.heap[w.heap.size]?=some (.cells #[.int .i64 k,.string se,.int .i64 v,.string wd,.int .u64 wt,.bool tm,.int .i64 ti] 85 (0,0))):=fun W hW=>aD.out W (Qac aC hW);have av:Hid (∀ r,TxR (lnX nm K k v wd wt tm ti) k se v wd wt tm ti r->LxA k se v wd wt tm ti r):=fun r h=>.inr ⟨az,nm,K,a8,h⟩;have aJ:=Qaa (Qmp (k:=k) (v:=v) (wt:=wt) (tm:=tm) HX.nm HX.wd HX.K HX.n HX.ti.2);have aw:=Qaa (Qmm (k:=k) (v:=v) HX.wd);have bn:n<=8:=by have:=HX.n;omega
    clear aC aD aG aI az hs hn hA hp;have ae:Op.stringOp .add nm ⟨#[58]⟩=pure (.string (nm ++ ⟨#[58]⟩)):=QbB (by have:=HX.nm;have:(⟨#[58]⟩:ByteArray).size=1:=rfl;omega);have aa:Op.stringOp .add (nm ++ ⟨#[58]⟩) (whX k v wd)=pure (.string (nm ++ ⟨#[58]⟩ ++ whX k v wd)):=QbB (by rw [ByteArray.size_append];have:=HX.nm;have:=aw.out;have:(⟨#[58]⟩:ByteArray).size=1:=rfl;omega);have x0:=Qco (ak.out _ (ZZb _ _)) 0 rfl;have x2:=Qco (ak.out _ (ZZb _ _)) 2 rfl;have x3:=Qco (ak.out _ (ZZb _ _)) 3 rfl;go_upto_if 24 with fail
    go_cut [6] (fun v' w'=>v'=.string (nm ++ ⟨#[58]⟩ ++ whX k v wd)/\Hid (Bw w2 w'))
    case first=>
      by_cases hk:k=4
      · have bf:(k == 4)=true:=by simp [hk]
        have e:whX k v wd=wd:=if_pos hk;rw [e] at aa;have HE:=Qaa e;clear hk e;go_wp2;go_meet;exact ⟨by rw [HE.out],Qaa (Below.refl _ _)⟩
      · have bf:(k == 4)=false:=ZZf.2 hk
        have e:whX k v wd=vtx v:=if_neg hk;rw [e] at aa;have HE:=Qaa e;clear hk e;go_wp2_with fail;refine (Qfg v _).mono ?_;rintro e w3 ⟨rfl,a6⟩;have af:=Qaa a6;clear a6;go_wp2;go_meet;exact ⟨by rw [HE.out],af⟩
    case rest=>
      obtain ⟨rfl,af⟩:=hcut;obtain ⟨w3,a3⟩:∃ w3,wc=w3:=⟨_,rfl⟩;rw [a3] at af ⊢;clear a3 x0 x2 x3 ae aa;have aP:=Qaa (Qac aU af);have aV:=Qaa (QaA HA af);have ar:Hid (∀ W,Bw w3 W->W.heap[w.heap.size]?=some (.cells #[.int .i64 k,.string se,.int .i64 v,.string wd,.int .u64 wt,.bool tm,.int .i64 ti] 85 (0,0))):=fun W hW=>ak.out W (Qac af hW);clear af ak aU HA;have aj:=Qaa (QnD (k:=k) (v:=v) HX.nm HX.wd);have ai:Hid (lnA nm k v wd=nm ++ ⟨#[58]⟩ ++ whX k v wd ++ ⟨#[124]⟩ ++ ltX k):=Qaa (rfl);have ad:Hid (lnX nm K k v wd wt tm ti=lnD (lnC (lnB (lnA nm k v wd) wt) K) tm ti):=Qaa (rfl);have ap:Hid ((nm ++ ⟨#[58]⟩ ++ whX k v wd).size<=90):=by rw [ByteArray.size_append,ByteArray.size_append];have:=HX.nm;have:=aw.out;have:(⟨#[58]⟩:ByteArray).size=1:=rfl;show _<=_;omega
      generalize nm ++ ⟨#[58]⟩ ++ whX k v wd=a0 at ai ap ⊢;have ae:Op.stringOp .add a0 ⟨#[124]⟩=pure (.string (a0 ++ ⟨#[124]⟩)):=QbB (by have:=ap.out;have:(⟨#[124]⟩:ByteArray).size=1:=rfl;omega);have aa:∀ l:ByteArray,l.size=1->Op.stringOp .add (a0 ++ ⟨#[124]⟩) l=pure (.string (a0 ++ ⟨#[124]⟩ ++ l)):=fun l hl=>QbB (by rw [ByteArray.size_append];have:=ap.out;have:(⟨#[124]⟩:ByteArray).size=1:=rfl;omega);have q1:=aa ⟨#[99]⟩ rfl;have q2:=aa ⟨#[103]⟩ rfl;have q3:=aa ⟨#[104]⟩ rfl;have q4:=aa ⟨#[115]⟩ rfl;clear aa;have x0:=Qco (ar.out _ (ZZb _ _)) 0 rfl;go_upto_region 8 with fail
      go_cut [6] (fun v' w'=>v'=.string (lnA nm k v wd)/\Hid (Bw w3 w'))
      case first=>
        have bj:=HX.k;have aq:Hid (∀ o,Bw w3 (w3.alloc o)):=fun o=>(ZZb _ _).alloc (ZZa _) o;clear HX a8 av aJ aw ad aj;have be:w.heap.size<w3.heap.size:=by have:=(ZZc.1 (ar.out _ (ZZb _ _))).1;exact this
        rcases bj with rfl | rfl | rfl | rfl
        · go_wp2
          exact mCv
        · go_wp2
          exact mCv
        · go_wp2
          exact mCv
        · go_wp2
          exact mCv
      case rest=>
        obtain ⟨rfl,al⟩:=hcut;obtain ⟨w4,aZ⟩:∃ w4,wc=w4:=⟨_,rfl⟩;rw [aZ] at al ⊢;clear aZ x0 ae q1 q2 q3 q4 ai ap;have aO:=Qaa (Qac aP al);have a2:=Qaa (QaA aV al);have aL:Hid (∀ W,Bw w4 W->W.heap[w.heap.size]?=some (.cells #[.int .i64 k,.string se,.int .i64 v,.string wd,.int .u64 wt,.bool tm,.int .i64 ti] 85 (0,0))):=fun W hW=>ar.out W (Qac al hW);clear al ar aP aV;generalize lnA nm k v wd=a at aj ad ⊢;obtain ⟨bh,ba⟩:=HX.wt;have x4:=Qco (aL.out _ (ZZb _ _)) 4 rfl;go_upto_if 44 with fail
        go_cut [6] (fun v' w'=>v'=.string (lnB a wt)/\Hid (Bw w4 w'))
        case first=>
          by_cases aN:1<wt
          · have HE:Hid (a ++ ⟨#[124,64]⟩ ++ vtx (1000000 / wt)=lnB a wt):=Qaa (by unfold lnB;rw [if_pos aN,QpT])
            have ae:Op.stringOp .add a ⟨#[124,64]⟩=pure (.string (a ++ ⟨#[124,64]⟩)):=QbB (by have:=aj.out;have:(⟨#[124,64]⟩:ByteArray).size=2:=rfl;omega);have aa:Op.stringOp .add (a ++ ⟨#[124,64]⟩) (vtx (1000000 / wt))=pure (.string (a ++ ⟨#[124,64]⟩ ++ vtx (1000000 / wt))):=QbB (by rw [ByteArray.size_append];have:=aj.out;have:=Qi8 (1000000 / wt);have:(⟨#[124,64]⟩:ByteArray).size=2:=rfl;omega);have hd:Int.tdiv 1000000 wt=1000000 / wt:=Int.tdiv_eq_ediv_of_nonneg oB;have bq:0<=1000000 / wt:=Int.ediv_nonneg oB oB;have bo:1000000 / wt<=1000000:=Int.ediv_le_self _ oB;have bk:IntKind.i64.wrap (1000000 / wt)=1000000 / wt:=by rw [IntKind.wrap_i64];omega
            have br:IntKind.i64.wrap wt=wt:=by rw [IntKind.wrap_i64];omega
            have hz:(wt == 0)=false:=ZZf.2 oB;go_wp2_with fail;refine (Qfg (1000000 / wt) _).mono ?_;rintro e w5 ⟨rfl,aS⟩;have ag:=Qaa aS;clear aS;go_wp2;go_meet;exact ⟨by rw [HE.out],ag⟩
          · have HE:Hid (a=lnB a wt):=Qaa (by unfold lnB;rw [if_neg aN])
            go_wp2;go_meet;exact ⟨by rw [<- HE.out],Qaa (Below.refl _ _)⟩
        case rest=>
          obtain ⟨rfl,ag⟩:=hcut;obtain ⟨w5,aY⟩:∃ w5,wc=w5:=⟨_,rfl⟩;rw [aY] at ag ⊢;clear aY x4;have aT:=Qaa (Qac aO ag);have a4:=Qaa (QaA a2 ag);have an:Hid (∀ W,Bw w5 W->W.heap[w.heap.size]?=some (.cells #[.int .i64 k,.string se,.int .i64 v,.string wd,.int .u64 wt,.bool tm,.int .i64 ti] 85 (0,0))):=fun W hW=>aL.out W (Qac ag hW);have ay:=Qaa (QmA (wt:=wt) aj);generalize lnB a wt=b at ay ad ⊢;clear ag aL aO a2 aj;go_wp2
          go_loopw [6,7] (fun tv i wr=>∃ j:Nat,j<=n/\i=.int .i64 j/\tv=.string (lnP b K j)/\wr=w5) (fun tv i wr=>n - (Go.RowKit.intOf i).toNat)
          case atStart=>exact ⟨0,ZZj _,rfl,rfl,rfl⟩
          case round=>
            obtain ⟨j,hj,rfl,rfl,rfl⟩:=hrel;by_cases bt:j<n
            · obtain ⟨y,hy⟩:∃ y,K[j]?=some y:=⟨K[j]'(oA HN.out),ZZe _⟩
              obtain ⟨g,bs,e,ab⟩:=a4.out (oA HN.out);subst e;have hc:=ab j y hy;have bp:y.size<=20:=HX.K y (ZZn hy);have aX:=Qr2 (i:=j) ay HX.K HX.n;have bv:(j:Int)<(n:Int):=oB
              by_cases h0:j=0
              · subst h0
                rw [Nat.add_zero] at hc;have HE:=Qaa (QrV (b:=b) hy);have e0:lnP b K 0=b:=if_pos rfl;rw [e0] at aX ⊢;have ae:Op.stringOp .add b ⟨#[124,35]⟩=pure (.string (b ++ ⟨#[124,35]⟩)):=QbB (by have:(⟨#[124,35]⟩:ByteArray).size=2:=rfl;omega);have aa:Op.stringOp .add (b ++ ⟨#[124,35]⟩) y=pure (.string (b ++ ⟨#[124,35]⟩ ++ y)):=QbB (by rw [ByteArray.size_append];have:(⟨#[124,35]⟩:ByteArray).size=2:=rfl;omega);clear ab hy e0;go_wp2;go_roundw
                case rel=>exact ⟨0+1,by omega,by go_num,by rw [HE.out],by first | rfl | trivial⟩
                case measure=>simp [zI];omega
              · have HE:=Qaa (QrI (b:=b) hy oB)
                have aB:((j:Int) == 0)=false:=ZZf.2 oB;generalize lnP b K j=pj at HE aX ⊢;have ae:Op.stringOp .add pj ⟨#[44]⟩=pure (.string (pj ++ ⟨#[44]⟩)):=QbB (by have:(⟨#[44]⟩:ByteArray).size=1:=rfl;omega);have aa:Op.stringOp .add (pj ++ ⟨#[44]⟩) y=pure (.string (pj ++ ⟨#[44]⟩ ++ y)):=QbB (by rw [ByteArray.size_append];have:(⟨#[44]⟩:ByteArray).size=1:=rfl;omega);clear ab hy;go_wp2;go_roundw
                case rel=>exact ⟨j+1,by omega,by go_num,by rw [HE.out],by first | rfl | trivial⟩
                case measure=>simp [zI];omega
            · obtain rfl:n=j:=by omega
              have a7:Hid (lnP b K n=lnC b K):=Qaa (by have h:=QvV b K;rw [HN.out] at h;exact h);rw [a7.out];have am:=Qaa (QmQ ay HX.K HX.n);generalize lnC b K=c' at am ad ⊢;have x5:=Qco (an.out _ (ZZb _ _)) 5 rfl;have x6:=Qco (an.out _ (ZZb _ _)) 6 rfl;obtain ⟨bu,bl⟩:=HX.ti;go_upto_if 70 with fail
              go_cut [6] (fun v' w'=>v'=.string (lnX nm K k v wd wt tm ti)/\Hid (Bw wr w'))
              case first=>
                cases tm with
                | true=>
                  have HE:Hid (c' ++ ⟨#[124,84]⟩ ++ dtx ti.toNat=lnX nm K k v wd wt true ti):=Qaa (by rw [ad.out];unfold lnD;rw [if_pos rfl,QpT]);have bm:=Qgk ti.toNat oB;have ae:Op.stringOp .add c' ⟨#[124,84]⟩=pure (.string (c' ++ ⟨#[124,84]⟩)):=QbB (by have:=am.out;have:(⟨#[124,84]⟩:ByteArray).size=2:=rfl;omega);have aa:Op.stringOp .add (c' ++ ⟨#[124,84]⟩) (dtx ti.toNat)=pure (.string (c' ++ ⟨#[124,84]⟩ ++ dtx ti.toNat)):=QbB (by rw [ByteArray.size_append];have:=am.out;have:(⟨#[124,84]⟩:ByteArray).size=2:=rfl;omega);go_wp2_with fail;refine (QgH ti oB oB _).mono ?_;rintro e w6 ⟨rfl,aW⟩;have ah:=Qaa aW;clear aW;go_wp2;go_meet;exact ⟨by rw [HE.out],ah⟩
                | false=>
                  have HE:Hid (c'=lnX nm K k v wd wt false ti):=Qaa (by rw [ad.out];rfl);go_wp2;go_meet;exact ⟨by rw [<- HE.out],Qaa (Below.refl _ _)⟩
              case rest=>
                obtain ⟨rfl,ah⟩:=hcut;obtain ⟨w6,a1⟩:∃ w6,wc=w6:=⟨_,rfl⟩;rw [a1] at ah ⊢;clear a1 x5 x6;have bi:=Qaa (Qac aT ah);have bc:Hid (∀ W,Bw w6 W->W.heap[w.heap.size]?=some (.cells #[.int .i64 k,.string se,.int .i64 v,.string wd,.int .u64 wt,.bool tm,.int .i64 ti] 85 (0,0))):=fun W hW=>an.out W (Qac ah hW);clear ah an aT a4 ad am a7;generalize lnX nm K k v wd wt tm ti=tx at aJ av ⊢;go_wp2_with fail;refine (QfK tx (by have:=aJ.out;unfold maxLen;omega)).mono ?_;rintro e w7 ⟨s,rfl,hL,ax⟩;have HL:=Qaa hL;have aQ:=Qaa (Qac bi ax);have aM:Bw w7 (w7.alloc (.cells #[.int .i64 s.k,.string s.se,.int .i64 s.va,.string s.wd,.int .u64 s.wt,.bool s.td,.int .i64 s.ti,.int .i64 s.c] 87)):=bAA;have bb:=Qaa (Qac aQ aM);have aK:Hid (∀ o,Bw w (w7.alloc o)):=fun o=>Qac aQ ((ZZb _ _).alloc (ZZa _) o);have ac:=bc.out _ ax;have be:=(ZZc.1 ac).1;have bw:¬ w.heap.size=w7.heap.size:=oB
                have x0:=Qco ac 0 rfl;have x1:=Qco ac 1 rfl;have x2:=Qco ac 2 rfl;have x3:=Qco ac 3 rfl;have x4:=Qco ac 4 rfl;have x5:=Qco ac 5 rfl;have x6:=Qco ac 6 rfl;clear ax hL aM ac;unfold Qv8;go_upto_region 21 with fail
                go_cut [87] (fun v' w'=>v'=.bool (!eqL s k se v wd wt tm ti)/\Hid (Bw w w'))
                case first=>
                  by_cases aA:s.c=0
                  · have bg:(s.c != 0)=false:=by simp [aA]
                    go_wp2
                    all_goals (go_meet;exact ⟨by simp [eqL, *],Qaa (aK.out _)⟩)
                  · have bg:(s.c != 0)=true:=by simp [aA]
                    have HR:Hid ((!eqL s k se v wd wt tm ti)=true):=Qaa (by unfold eqL;simp [aA]);go_wp2;go_meet;exact ⟨by rw [HR.out],bb⟩
                case rest=>
                  obtain ⟨rfl,a5⟩:=hcut
                  cases hq:eqL s k se v wd wt tm ti with
                  | true=>
                    have aE:Hid (LxA k se v wd wt tm ti tx):=av.out tx ⟨s,HL,by rw [hq];rfl⟩;go_wp2;go_ret;exact ⟨_,rfl,aE,a5⟩
                  | false=>
                    have aE:Hid (LxA k se v wd wt tm ti ⟨#[]⟩):=av.out ⟨#[]⟩ ⟨s,HL,by rw [hq];rfl⟩;go_wp2;go_ret;exact ⟨_,rfl,aE,a5⟩
end
section
theorem LxA.size {r:ByteArray} (h:LxA k se v wd wt tm ti r):r.size<=500:=by
  rcases h with ⟨_,rfl⟩ | ⟨h1,nm,K,hs,s,_,rfl⟩
  · decide
  · have x:=lx_of h1 hs
    have:=Qmp (k:=k) (v:=v) (wt:=wt) (tm:=tm) x.nm x.wd x.K x.n x.ti.2
    split
    · exact this
    · decide
end
end Go.Proofs.YtioohanfodmddaaGreatDoor
