/-
  Plain facts on the bins of numbers, of no program: the bin of a number, the least number of a bin.
-/
import Derived.Test.YtmjogablacnlgaaGreatDoorOJC
namespace Go.Proofs.YtmjogablacnlgaaGreatDoor
open Go.ChangeShapes Go.WideShapes Go.ChangeAt Go.RowKit
def binW (v:Nat):Nat:=if h:v<256 then v else 128+binW (v / 2)
termination_by v
decreasing_by omega
def lowW (a:Nat):Nat:=if h:a<256 then a else 2*lowW (a - 128)
termination_by a
decreasing_by omega
theorem binW_lt {v:Nat} (h:v<256):binW v=v:=by rw [binW,dif_pos h]
theorem binW_ge {v:Nat} (h:¬ v<256):binW v=128+binW (v / 2):=by rw [binW,dif_neg h]
theorem binW_le (v:Nat):binW v≤v:=by
  induction v using Nat.strongRecOn with
  | ind v ih=>
    by_cases h:v<256
    · rw [binW_lt h];exact Nat.le_refl _
    · rw [binW_ge h];have:=ih (v / 2) (by omega);omega
theorem binW_max:binW 999999999999999999=6878:=by simp [binW]
def binI (v:Int):Int:=if 1≤v∧v≤999999999999999999 then (binW v.toNat:Int) else 0
def lowI (a:Int):Int:=if 1≤a∧a≤7000 then (lowW a.toNat:Int) else 0
theorem binI_yes {v:Int} (h:1≤v) (h2:v≤999999999999999999):binI v=(binW v.toNat:Int):=if_pos ⟨h,h2⟩
theorem binI_no {v:Int} (h:¬ (1≤v∧v≤999999999999999999)):binI v=0:=if_neg h
set_option linter.unusedVariables false
set_option linter.unusedSimpArgs false
set_option maxRecDepth 10000
open Go.PlainAid
theorem ret_i {a b:Int} (h:a=b):Ending.returned (.int .i64 a)=.returned (.int .i64 b):=by rw [h]
theorem c_l01IsB (n a b:Int) (w:World) (hn:I64 n) (ha:I64 a) (hb:I64 b) :
    Calls Tryz.prog 35 #[.int .i64 n,.int .i64 a,.int .i64 b] w fun e w'=>e=.returned (.bool (decide (a≤n∧n≤b)))∧w'=w:=by
  unfold I64 at hn ha hb;by_cases h1:a≤n
  · by_cases h2:n≤b
    · have e:decide (a≤n∧n≤b)=true:=decide_eq_true ⟨h1,h2⟩
      rw [e];go_enter Tryz.func35,Tryz.ntmps35;go_wp2;go_ret;exact ⟨rfl,rfl⟩
    · have e:decide (a≤n∧n≤b)=false:=decide_eq_false (fun h=>h2 h.2)
      rw [e];go_enter Tryz.func35,Tryz.ntmps35;go_wp2;go_ret;exact ⟨rfl,rfl⟩
  · have e:decide (a≤n∧n≤b)=false:=decide_eq_false (fun h=>h1 h.1)
    rw [e];go_enter Tryz.func35,Tryz.ntmps35;go_wp2;go_ret;exact ⟨rfl,rfl⟩
theorem c_s_BinOf (v:Int) (w:World) (hv:I64 v) :
    Calls Tryz.prog 199 #[.int .i64 v] w fun e w'=>e=.returned (.int .i64 (binI v))∧w'=w:=by
  have hv':=hv;unfold I64 at hv;by_cases h:1≤v∧v≤999999999999999999
  · have e1:decide (1≤v∧v≤999999999999999999)=true:=decide_eq_true h
    have HB:Hid (binI v=(binW v.toNat:Int)):=binI_yes h.1 h.2;have HL:Hid (binW v.toNat≤v.toNat):=binW_le _;obtain ⟨h1,h2⟩:=h;go_enter Tryz.func199,Tryz.ntmps199;go_wp2_with (go_at_call 35;refine (c_l01IsB _ _ _ _ hv' (by unfold I64;omega) (by unfold I64;omega)).mono ?_;rintro e w1 ⟨rfl,rfl⟩;rw [e1]);clear e1
    go_loop [0,3] (fun x i=>∃ y k:Nat,x=.int .i64 y∧i=.int .i64 k∧1≤y∧y≤999999999999999999∧Hid (128*k+binW y=binW v.toNat)) (fun x i=>(Go.RowKit.intOf x).toNat)
    case atStart=>exact ⟨v.toNat,0,by rw [Int.toNat_of_nonneg (by omega)],rfl,by omega,by omega,(by omega:128*0+binW v.toNat=binW v.toNat)⟩
    case round=>
      obtain ⟨y,k,rfl,rfl,hy,hy2,HR⟩:=hrel;have hk:k≤999999999999999999:=by have:=HR.out;have:=HL.out;omega
      obtain ⟨z,hz,hz1,hz2⟩:∃ z:Nat,Hid (y / 2=z)∧2*z≤y∧y≤2*z+1:=⟨y / 2,(rfl:y / 2=y / 2),by omega,by omega⟩;have hd:Int.tdiv (y:Int) 2=(z:Int):=by rw [← hz.out];rfl
      by_cases hlt:(y:Int)<256
      · have HF:Hid ((128*(k:Int)+(y:Int))=binI v):=by
          refine (?_:(128*(k:Int)+(y:Int))=binI v);rw [HB.out,← HR.out,binW_lt (by omega)];omega
        have h9:128*k≤999999999999999999:=by have:=HR.out;have:=HL.out;omega
        go_wp2;go_ret;exact ⟨ret_i HF.out,rfl⟩
      · have HN:Hid (128*(k+1)+binW z=binW v.toNat):=by
          refine (?_:128*(k+1)+binW z=binW v.toNat);rw [← HR.out,binW_ge (v:=y) (by omega),hz.out];omega
        go_wp2
        go_round
        case rel=>exact ⟨z,k+1,by rfl,by go_num,by omega,by omega,HN⟩
        case measure=>simp [Go.RowKit.intOf];omega
  · have e1:decide (1≤v∧v≤999999999999999999)=false:=decide_eq_false h
    have HB:Hid (0=binI v):=(binI_no h).symm;clear h;go_enter Tryz.func199,Tryz.ntmps199;go_wp2_with (go_at_call 35;refine (c_l01IsB _ _ _ _ hv' (by unfold I64;omega) (by unfold I64;omega)).mono ?_;rintro e w1 ⟨rfl,rfl⟩;rw [e1]);go_ret;exact ⟨ret_i HB.out,rfl⟩
theorem c_i_BinOf (v:Int) (w:World) (hv:I64 v) :
    Calls Tryz.prog 322 #[.int .i64 v] w fun e w'=>e=.returned (.int .i64 (binI v))∧w'=w:=by
  have hv':=hv;unfold I64 at hv;by_cases h:1≤v∧v≤999999999999999999
  · have HB:Hid (binI v=(binW v.toNat:Int)):=binI_yes h.1 h.2
    have HL:Hid (binW v.toNat≤v.toNat):=binW_le _;obtain ⟨h1,h2⟩:=h;go_enter Tryz.func322,Tryz.ntmps322;go_wp2
    go_loop [0,3] (fun x i=>∃ y k:Nat,x=.int .i64 y∧i=.int .i64 k∧1≤y∧y≤999999999999999999∧Hid (128*k+binW y=binW v.toNat)) (fun x i=>(Go.RowKit.intOf x).toNat)
    case atStart=>exact ⟨v.toNat,0,by rw [Int.toNat_of_nonneg (by omega)],rfl,by omega,by omega,(by omega:128*0+binW v.toNat=binW v.toNat)⟩
    case round=>
      obtain ⟨y,k,rfl,rfl,hy,hy2,HR⟩:=hrel;have hk:k≤999999999999999999:=by have:=HR.out;have:=HL.out;omega
      obtain ⟨z,hz,hz1,hz2⟩:∃ z:Nat,Hid (y / 2=z)∧2*z≤y∧y≤2*z+1:=⟨y / 2,(rfl:y / 2=y / 2),by omega,by omega⟩;have hd:Int.tdiv (y:Int) 2=(z:Int):=by rw [← hz.out];rfl
      by_cases hlt:(y:Int)<256
      · have HF:Hid ((128*(k:Int)+(y:Int))=binI v):=by
          refine (?_:(128*(k:Int)+(y:Int))=binI v);rw [HB.out,← HR.out,binW_lt (by omega)];omega
        have h9:128*k≤999999999999999999:=by have:=HR.out;have:=HL.out;omega
        go_wp2;go_ret;exact ⟨ret_i HF.out,rfl⟩
      · have HN:Hid (128*(k+1)+binW z=binW v.toNat):=by
          refine (?_:128*(k+1)+binW z=binW v.toNat);rw [← HR.out,binW_ge (v:=y) (by omega),hz.out];omega
        go_wp2
        go_round
        case rel=>exact ⟨z,k+1,by rfl,by go_num,by omega,by omega,HN⟩
        case measure=>simp [Go.RowKit.intOf];omega
  · have HB:Hid (0=binI v):=(binI_no h).symm
    have hc:v<1∨¬ v<1∧999999999999999999<v:=by omega
    clear h;rcases hc with h | ⟨h,h2⟩
    all_goals
      go_enter Tryz.func322,Tryz.ntmps322;go_wp2;go_ret;exact ⟨ret_i HB.out,rfl⟩
open Go.Lib
def riseB:Int→List Bn→Bool
  | _,[]=>true
  | last,x :: r=>decide (last<x.1) && decide (x.1≤6878) && decide (x.2≠0) && riseB x.1 r
def binsB (L:List Bn):Bool:=decide (L.length≤30) && riseB 0 L
def lastB (L:List Bn) (k:Nat):Int:=match k with
  | 0=>0
  | j+1=>match L[j]? with
    | some x=>x.1
    | none=>0
theorem lastB_succ {L:List Bn} {k:Nat} {x:Bn} (h:L[k]?=some x):lastB L (k+1)=x.1:=by simp [lastB,h]
theorem rise_drop {L:List Bn} {k:Nat} {x:Bn} (h:L[k]?=some x) (q:Int):riseB q (L.drop k)=(decide (q<x.1) && decide (x.1≤6878) && decide (x.2≠0) && riseB x.1 (L.drop (k+1))):=by
  have hk:=(List.getElem?_eq_some_iff.1 h).1;rw [List.drop_eq_getElem_cons hk,(List.getElem?_eq_some_iff.1 h).2];rfl
theorem binI_max:binI 999999999999999999=6878:=by rw [binI_yes (by omega) (by omega)];exact congrArg Int.ofNat binW_max
theorem ret_b {a b:Bool} (h:a=b):Ending.returned (.bool a)=.returned (.bool b):=by rw [h]
set_option maxHeartbeats 2000000 in
theorem c_i_binsRight {w:World} {ao:Option Addr} {L:List Bn} (cap N:Nat) (hn:L.length=N) (hl:N≤1048576) (hA:BinsAt w ao L) (hok:∀ x∈L,BnOk x) :
    Calls Tryz.prog 321 #[.slice ao N cap] w fun e w'=>e=.returned (.bool (binsB L))∧Below w.heap.size w w':=by
  have HA:=hide hA;have HK:=hide hok;have HN:=hide hn;have hM:=binI_max;by_cases h30:N≤30
  · have HF:Hid (binsB L=riseB 0 L):=(by simp [binsB,hn,h30]:binsB L=riseB 0 L)
    clear hA hok hn;go_enter Tryz.func321,Tryz.ntmps321;go_wp2
    go_loopw [3,11] (fun q i wr=>Below w.heap.size w wr∧∃ (k:Nat) (p:Int),k≤N∧i=.int .i64 k∧q=.int .i64 p∧Hid (riseB 0 L=riseB p (L.drop k))) (fun q i wr=>N - (Go.RowKit.intOf i).toNat)
    case atStart=>exact ⟨Below.refl _ _,0,0,Nat.zero_le _,rfl,rfl,(rfl:riseB 0 L=riseB 0 (L.drop 0))⟩
    case round=>
      obtain ⟨hbel,k,p,hk,rfl,rfl,HR⟩:=hrel;have HB:=hide hbel;by_cases hkn:k<N
      · obtain ⟨⟨a,u⟩,hRk⟩:∃ a,L[k]?=some a:=⟨L[k]'(by have:=HN.out;omega),List.getElem?_eq_getElem _⟩
        obtain ⟨⟨ha1,ha2⟩,hu1,hu2⟩:=HK.out _ (List.mem_of_getElem? hRk);obtain ⟨b,off,rfl,hcell⟩:=HA.out (by have:=HN.out;omega);have hc0:=cell_past hbel (hcell k _ hRk).1;have hc1:=cell_past hbel (hcell k _ hRk).2;have HD:=hide (rise_drop hRk p);have hz:=hbel.size;simp at ha1 ha2 hu1 hu2;clear hbel hcell hRk;have hcs:(a≤p)∨(¬ a≤p∧6878<a)∨(¬ a≤p∧¬ 6878<a∧u=0)∨(¬ a≤p∧¬ 6878<a∧u≠0):=by omega
        rcases hcs with q1 | ⟨q1,q2⟩ | ⟨q1,q2,q3⟩ | ⟨q1,q2,q3⟩
        · have HE:Hid (false=binsB L):=(by rw [HF.out,HR.out,HD.out];simp;intro h;omega:false=binsB L)
          have d1:decide (a≤p)=true:=decide_eq_true q1;go_wp2
          go_quiet (first | (go_at_call 322;refine Calls.quiet_of_same (c_i_BinOf _ _ (by unfold I64;omega))))
          go_wp2;go_ret;exact ⟨ret_b HE.out,bel_drews (HB.out.alloc hz _) _⟩
        · have HE:Hid (false=binsB L):=(by rw [HF.out,HR.out,HD.out];simp;intro _ h;omega:false=binsB L)
          have d1:decide (a≤p)=false:=decide_eq_false q1;have d2:decide (6878<a)=true:=decide_eq_true q2;go_wp2
          go_quiet (first | (go_at_call 322;refine Calls.quiet_of_same (c_i_BinOf _ _ (by unfold I64;omega))))
          go_wp2;go_ret;exact ⟨ret_b HE.out,bel_drews (HB.out.alloc hz _) _⟩
        · have HE:Hid (false=binsB L):=(by rw [HF.out,HR.out,HD.out];simp [q3]:false=binsB L)
          have d1:decide (a≤p)=false:=decide_eq_false q1;have d2:decide (6878<a)=false:=decide_eq_false q2;subst q3;go_wp2
          go_quiet (first | (go_at_call 322;refine Calls.quiet_of_same (c_i_BinOf _ _ (by unfold I64;omega))))
          go_wp2;go_ret;exact ⟨ret_b HE.out,bel_drews (HB.out.alloc hz _) _⟩
        · have HE:Hid (riseB 0 L=riseB a (L.drop (k+1))):=by
            refine (?_:riseB 0 L=riseB a (L.drop (k+1)));rw [HR.out,HD.out,decide_eq_true (by show p<a;omega),decide_eq_true (by show a≤6878;omega),decide_eq_true (by show u≠0;exact q3)];rfl
          have d1:decide (a≤p)=false:=decide_eq_false q1;have d2:decide (6878<a)=false:=decide_eq_false q2;have d3:(u == 0)=false:=beq_eq_false_iff_ne.2 q3;go_wp2
          go_quiet (first | (go_at_call 322;refine Calls.quiet_of_same (c_i_BinOf _ _ (by unfold I64;omega))))
          go_wp2;go_roundw
          case rel=>exact ⟨bel_drews (HB.out.alloc hz _) _,k+1,a,by omega,by go_num,rfl,HE⟩
          case measure=>simp [Go.RowKit.intOf];omega
      · have HE:Hid (true=binsB L):=(by rw [HF.out,HR.out,List.drop_eq_nil_of_le (by have:=HN.out;omega)];rfl:true=binsB L)
        clear hbel;go_wp2;go_ret;exact ⟨ret_b HE.out,HB.out⟩
  · have HE:Hid (false=binsB L):=(by simp [binsB,hn];intro h;omega:false=binsB L)
    clear hA hok hn;go_enter Tryz.func321,Tryz.ntmps321;go_wp2;go_ret;exact ⟨ret_b HE.out,Below.refl _ _⟩
set_option maxHeartbeats 4000000 in
theorem c_s_l03Bins {w:World} {ao:Option Addr} {L:List Bn} (cap N:Nat) (hn:L.length=N) (hl:N≤1048576) (hA:BinsAt w ao L) (hok:∀ x∈L,BnOk x) :
    Calls Tryz.prog 174 #[.slice ao N cap] w fun e w'=>e=.returned (.bool (binsB L))∧Below w.heap.size w w':=by
  have HA:=hide hA;have HK:=hide hok;have HN:=hide hn;have hM:=binI_max;by_cases h30:N≤30
  · have HF:Hid (binsB L=riseB 0 L):=(by simp [binsB,hn,h30]:binsB L=riseB 0 L)
    clear hA hok hn;go_enter Tryz.func174,Tryz.ntmps174;go_wp2
    go_loopw [3] (fun i wr=>Below w.heap.size w wr∧∃ (k:Nat),k≤N∧i=.int .i64 k∧Hid (riseB 0 L=riseB (lastB L k) (L.drop k))∧((k=0∧lastB L k=0)∨(0<k∧1≤lastB L k))) (fun i wr=>N - (Go.RowKit.intOf i).toNat)
    case atStart=>exact ⟨Below.refl _ _,0,Nat.zero_le _,rfl,(rfl:riseB 0 L=riseB 0 (L.drop 0)),.inl ⟨rfl,rfl⟩⟩
    case round=>
      obtain ⟨hbel,k,hk,rfl,HR,hlast⟩:=hrel;have HB:=hide hbel;by_cases hkn:k<N
      · obtain ⟨⟨a,u⟩,hRk⟩:∃ a,L[k]?=some a:=⟨L[k]'(by have:=HN.out;omega),List.getElem?_eq_getElem _⟩
        obtain ⟨⟨ha1,ha2⟩,hu1,hu2⟩:=HK.out _ (List.mem_of_getElem? hRk);obtain ⟨b,off,rfl,hcell⟩:=HA.out (by have:=HN.out;omega);have hc0:=cell_past hbel (hcell k _ hRk).1;have hc1:=cell_past hbel (hcell k _ hRk).2;have HD:=hide (rise_drop hRk (lastB L k));have HL1:=hide (lastB_succ hRk)
        have hprev:0<k→∃ j:Nat,k=j+1∧wr.cell? ⟨b,off+j*2,none⟩=some (.int .i64 (lastB L k)):=fun h0=>by
          obtain ⟨j,rfl⟩:∃ j,k=j+1:=⟨k - 1,by omega⟩;obtain ⟨x,hx⟩:∃ a,L[j]?=some a:=⟨L[j]'(by have:=HN.out;omega),List.getElem?_eq_getElem _⟩;exact ⟨j,rfl,by rw [lastB_succ hx];exact cell_past hbel (hcell j _ hx).1⟩
        have HP:=hide hprev;simp at ha1 ha2 hu1 hu2;clear hbel hcell hRk hprev;obtain ⟨p,hp⟩:∃ p,lastB L k=p:=⟨_,rfl⟩;rw [hp] at HR HD HP hlast;clear hp;have hcs:(a<1)∨(¬ a<1∧6878<a)∨(¬ a<1∧¬ 6878<a∧u=0)∨(¬ a<1∧¬ 6878<a∧u≠0∧k=0)∨(¬ a<1∧¬ 6878<a∧u≠0∧0<k∧a≤p)∨(¬ a<1∧¬ 6878<a∧u≠0∧0<k∧¬ a≤p):=by omega
        rcases hcs with q1 | ⟨q1,q2⟩ | ⟨q1,q2,q3⟩ | ⟨q1,q2,q3,q4⟩ | ⟨q1,q2,q3,q4,q5⟩ | ⟨q1,q2,q3,q4,q5⟩
        · have HE:Hid (false=binsB L):=(by rw [HF.out,HR.out,HD.out];simp;intro h;omega:false=binsB L)
          have d1:decide (a<1)=true:=decide_eq_true q1;clear hlast;go_wp2
          go_quiet (first | (go_at_call 199;refine Calls.quiet_of_same (c_s_BinOf _ _ (by unfold I64;omega))))
          go_wp2;go_ret;exact ⟨ret_b HE.out,bel_drews HB.out _⟩
        · have HE:Hid (false=binsB L):=(by rw [HF.out,HR.out,HD.out];simp;intro _ h;omega:false=binsB L)
          have d1:decide (a<1)=false:=decide_eq_false q1;have d2:decide (6878<a)=true:=decide_eq_true q2;clear hlast;go_wp2
          go_quiet (first | (go_at_call 199;refine Calls.quiet_of_same (c_s_BinOf _ _ (by unfold I64;omega))))
          go_wp2;go_ret;exact ⟨ret_b HE.out,bel_drews HB.out _⟩
        · have HE:Hid (false=binsB L):=(by rw [HF.out,HR.out,HD.out];simp [q3]:false=binsB L)
          have d1:decide (a<1)=false:=decide_eq_false q1;have d2:decide (6878<a)=false:=decide_eq_false q2;clear hlast;subst q3;go_wp2
          go_quiet (first | (go_at_call 199;refine Calls.quiet_of_same (c_s_BinOf _ _ (by unfold I64;omega))))
          go_wp2;go_ret;exact ⟨ret_b HE.out,bel_drews HB.out _⟩
        · have HE:Hid (riseB 0 L=riseB (lastB L (k+1)) (L.drop (k+1))):=by
            refine (?_:riseB 0 L=riseB (lastB L (k+1)) (L.drop (k+1)));rw [HL1.out,HR.out,HD.out,decide_eq_true (by show p<a;omega),decide_eq_true (by show a≤6878;omega),decide_eq_true (by show u≠0;exact q3)];rfl
          have d1:decide (a<1)=false:=decide_eq_false q1;have d2:decide (6878<a)=false:=decide_eq_false q2;have d3:(u == 0)=false:=beq_eq_false_iff_ne.2 q3;have d4:decide (0<k)=false:=decide_eq_false (by omega);clear hlast q4;go_wp2
          go_quiet (first | (go_at_call 199;refine Calls.quiet_of_same (c_s_BinOf _ _ (by unfold I64;omega))))
          go_wp2;go_roundw
          case rel=>exact ⟨bel_drews HB.out _,k+1,by omega,by go_num,HE,by have:=HL1.out;omega⟩
          case measure=>simp [Go.RowKit.intOf];omega
        · have HE:Hid (false=binsB L):=(by rw [HF.out,HR.out,HD.out];simp;intro h;omega:false=binsB L)
          have d1:decide (a<1)=false:=decide_eq_false q1;have d2:decide (6878<a)=false:=decide_eq_false q2;have d3:(u == 0)=false:=beq_eq_false_iff_ne.2 q3;have d4:decide (0<k)=true:=decide_eq_true (by omega);have d5:decide (a≤p)=true:=decide_eq_true q5;obtain ⟨j,hj,hcj⟩:=HP.out q4;have e1:(k:Int) - 1=(j:Int):=by omega
          have hj2:j<N:=by omega
          clear hj;clear hlast;go_wp2
          go_quiet (first | (go_at_call 199;refine Calls.quiet_of_same (c_s_BinOf _ _ (by unfold I64;omega))))
          go_wp2;go_ret;exact ⟨ret_b HE.out,bel_drews HB.out _⟩
        · have HE:Hid (riseB 0 L=riseB (lastB L (k+1)) (L.drop (k+1))):=by
            refine (?_:riseB 0 L=riseB (lastB L (k+1)) (L.drop (k+1)));rw [HL1.out,HR.out,HD.out,decide_eq_true (by show p<a;omega),decide_eq_true (by show a≤6878;omega),decide_eq_true (by show u≠0;exact q3)];rfl
          have d1:decide (a<1)=false:=decide_eq_false q1;have d2:decide (6878<a)=false:=decide_eq_false q2;have d3:(u == 0)=false:=beq_eq_false_iff_ne.2 q3;have d4:decide (0<k)=true:=decide_eq_true (by omega);have d5:decide (a≤p)=false:=decide_eq_false q5;obtain ⟨j,hj,hcj⟩:=HP.out q4;have e1:(k:Int) - 1=(j:Int):=by omega
          have hj2:j<N:=by omega
          clear hj;clear hlast;go_wp2
          go_quiet (first | (go_at_call 199;refine Calls.quiet_of_same (c_s_BinOf _ _ (by unfold I64;omega))))
          go_wp2;go_roundw
          case rel=>exact ⟨bel_drews HB.out _,k+1,by omega,by go_num,HE,by have:=HL1.out;omega⟩
          case measure=>simp [Go.RowKit.intOf];omega
      · have HE:Hid (true=binsB L):=(by rw [HF.out,HR.out,List.drop_eq_nil_of_le (by have:=HN.out;omega)];rfl:true=binsB L)
        clear hbel;go_wp2;go_ret;exact ⟨ret_b HE.out,HB.out⟩
  · have HE:Hid (false=binsB L):=(by simp [binsB,hn];intro h;omega:false=binsB L)
    clear hA hok hn;go_enter Tryz.func174,Tryz.ntmps174;go_wp2;go_ret;exact ⟨ret_b HE.out,Below.refl _ _⟩
def skB (P N:List Bn):Bool:=binsB P && binsB N
theorem c_i_SketchRight {w:World} {z h l:Int} {pa na:Option Addr} {pn pc nn nc:Nat} {P N:List Bn} (hp:P.length=pn) (hn:N.length=nn) (lp:pn≤1048576) (ln:nn≤1048576) (hP:BinsAt w pa P) (hN:BinsAt w na N) (kP:∀ x∈P,BnOk x) (kN:∀ x∈N,BnOk x) :
    Calls Tryz.prog 320 #[.agg #[.int .u64 z,.slice pa pn pc,.slice na nn nc,.int .i64 h,.int .u64 l]] w fun e w'=>e=.returned (.bool (skB P N))∧Below w.heap.size w w':=by
  have HP:=hide hP;have HN:=hide hN;have KP:=hide kP;have KN:=hide kN;have hW:∀ o1,Below w.heap.size w (w.alloc o1):=fun o1=>(Below.refl _ _).alloc (Nat.le_refl _) _;have HW:=hide hW;have hz:∀ o1,(w.alloc o1).heap.size=w.heap.size+1:=fun o1=>by simp
  clear hP hN kP kN hW;by_cases hr:binsB P=true
  · have HF:Hid (skB P N=binsB N):=(by simp [skB,hr]:skB P N=binsB N)
    go_enter Tryz.func320,Tryz.ntmps320;go_wp2_with fail;refine (c_i_binsRight _ _ hp lp (bins_past HP.out (HW.out _)) KP.out).mono ?_;rintro e w1 ⟨rfl,hb1⟩;obtain ⟨hc1,_⟩:=bcell hb1;have hT1:=(HW.out _).trans (hb1.mono (by simp));simp at hc1;have HT1:=hide hT1;clear hb1 hT1;go_wp2_with fail;refine (c_i_binsRight _ _ hn ln (bins_past HN.out HT1.out) KN.out).mono ?_;rintro e w2 ⟨rfl,hb2⟩;have HT2:=hide (chain HT1.out hb2);clear hb2;go_wp2;go_ret;exact ⟨ret_b HF.out.symm,HT2.out⟩
  · have hr:binsB P=false:=by simpa using hr
    have HF:Hid (false=skB P N):=(by simp [skB,hr]:false=skB P N);go_enter Tryz.func320,Tryz.ntmps320;go_wp2_with fail;refine (c_i_binsRight _ _ hp lp (bins_past HP.out (HW.out _)) KP.out).mono ?_;rintro e w1 ⟨rfl,hb1⟩;have HT1:=hide ((HW.out _).trans (hb1.mono (by simp)));clear hb1;go_wp2;go_ret;exact ⟨ret_b HF.out,HT1.out⟩
theorem c_s_SketchRight {w:World} {z h l:Int} {pa na:Option Addr} {pn pc nn nc:Nat} {P N:List Bn} (hp:P.length=pn) (hn:N.length=nn) (lp:pn≤1048576) (ln:nn≤1048576) (hP:BinsAt w pa P) (hN:BinsAt w na N) (kP:∀ x∈P,BnOk x) (kN:∀ x∈N,BnOk x) :
    Calls Tryz.prog 134 #[.agg #[.int .u64 z,.slice pa pn pc,.slice na nn nc,.int .i64 h,.int .u64 l]] w fun e w'=>e=.returned (.bool (skB P N))∧Below w.heap.size w w':=by
  have HP:=hide hP;have HN:=hide hN;have KP:=hide kP;have KN:=hide kN;have hW:∀ o1,Below w.heap.size w (w.alloc o1):=fun o1=>(Below.refl _ _).alloc (Nat.le_refl _) _;have HW:=hide hW;clear hP hN kP kN hW;by_cases hr:binsB P=true
  · have HF:Hid (skB P N=binsB N):=(by simp [skB,hr]:skB P N=binsB N)
    go_enter Tryz.func134,Tryz.ntmps134;go_wp2_with fail;refine (c_s_l03Bins _ _ hp lp (bins_past HP.out (HW.out _)) KP.out).mono ?_;rintro e w1 ⟨rfl,hb1⟩;obtain ⟨hc1,_⟩:=bcell hb1;have hT1:=(HW.out _).trans (hb1.mono (by simp));simp at hc1;have HT1:=hide hT1;clear hb1 hT1;go_wp2_with fail;refine (c_s_l03Bins _ _ hn ln (bins_past HN.out HT1.out) KN.out).mono ?_;rintro e w2 ⟨rfl,hb2⟩;have HT2:=hide (chain HT1.out hb2);clear hb2;go_wp2;go_ret;exact ⟨ret_b HF.out.symm,HT2.out⟩
  · have hr:binsB P=false:=by simpa using hr
    have HF:Hid (false=skB P N):=(by simp [skB,hr]:false=skB P N);go_enter Tryz.func134,Tryz.ntmps134;go_wp2_with fail;refine (c_s_l03Bins _ _ hp lp (bins_past HP.out (HW.out _)) KP.out).mono ?_;rintro e w1 ⟨rfl,hb1⟩;have HT1:=hide ((HW.out _).trans (hb1.mono (by simp)));clear hb1;go_wp2;go_ret;exact ⟨ret_b HF.out,HT1.out⟩
def upN:List Int→Bool
  | []=>true
  | [_]=>true
  | a :: b :: r=>decide (a<b) && upN (b :: r)
theorem up_drop {L:List Int} {k:Nat} {a b:Int} (h:L[k]?=some a) (g:L[k+1]?=some b):upN (L.drop k)=(decide (a<b) && upN (L.drop (k+1))):=by
  have hk:=(List.getElem?_eq_some_iff.1 h).1;have gk:=(List.getElem?_eq_some_iff.1 g).1;rw [List.drop_eq_getElem_cons hk,(List.getElem?_eq_some_iff.1 h).2,List.drop_eq_getElem_cons gk,(List.getElem?_eq_some_iff.1 g).2];rfl
theorem up_end {L:List Int} {k:Nat} (h:L.length≤k+1):upN (L.drop k)=true:=by
  have hl:(L.drop k).length≤1:=by rw [List.length_drop];omega
  match h2:L.drop k,hl with
  | [],_=>rfl
  | [_],_=>rfl
  | _ :: _ :: _,h=>simp at h
def inR (x:Int):Bool:=decide (0≤x) && decide (x≤55)
theorem all_drop {L:List Int} {k:Nat} {a:Int} (h:L[k]?=some a):(L.drop k).all inR=(inR a && (L.drop (k+1)).all inR):=by
  have hk:=(List.getElem?_eq_some_iff.1 h).1;rw [List.drop_eq_getElem_cons hk,(List.getElem?_eq_some_iff.1 h).2];rfl
def exB (E:List Int):Bool:=decide (E.length≤40) && upN E
def regB (R:List Int):Bool:=decide (R.length=64) && R.all inR
def hlB (E R:List Int):Bool:=if R.length=0 then exB E else decide (E.length=0) && regB R
theorem upN_step {L:List Int} {k:Nat} {a b:Int} {B:Bool} (h:L[k]?=some a) (g:L[k+1]?=some b) (e:B=upN (L.drop k)):(b≤a→false=B)∧(¬ b≤a→B=upN (L.drop (k+1))):=by
  rw [up_drop h g] at e;exact ⟨fun q=>by rw [e,decide_eq_false (by omega)];rfl,fun q=>by rw [e,decide_eq_true (by omega),Bool.true_and]⟩
theorem all_step {L:List Int} {k:Nat} {a:Int} {B:Bool} (h:L[k]?=some a) (e:B=(L.drop k).all inR):(a<0∨55<a→false=B)∧(0≤a→a≤55→B=(L.drop (k+1)).all inR):=by
  rw [all_drop h] at e;unfold inR at e
  exact ⟨fun q => by rw [e]; rcases q with q | q
                     · rw [decide_eq_false (by omega)];rfl
                     · rw [decide_eq_false (p:=a≤55) (by omega),Bool.and_false];rfl,fun q q'=>by rw [e,decide_eq_true q,decide_eq_true q'];rfl⟩
set_option maxHeartbeats 1000000 in
theorem c_i_exactRight {w:World} {ao:Option Addr} {L:List Int} (cap N:Nat) (hn:L.length=N) (hl:N≤1048576) (hA:NumsAt .u64 w ao L) :
    Calls Tryz.prog 327 #[.slice ao N cap] w fun e w'=>e=.returned (.bool (exB L))∧Below w.heap.size w w':=by
  have HA:=hide hA;have HN:=hide hn;by_cases h40:N≤40
  · have HF:Hid (exB L=upN L):=(by simp [exB,hn,h40]:exB L=upN L)
    clear hA hn;go_enter Tryz.func327,Tryz.ntmps327;go_wp2
    go_loopw [9] (fun i wr=>Below w.heap.size w wr∧∃ (k:Nat),k≤N∧i=.int .i64 k∧Hid (exB L=upN (L.drop (k - 1)))) (fun i wr=>N - (Go.RowKit.intOf i).toNat)
    case atStart=>exact ⟨Below.refl _ _,0,Nat.zero_le _,rfl,HF⟩
    case round=>
      obtain ⟨hbel,k,hk,rfl,HR⟩:=hrel;have HB:=hide hbel;by_cases hkn:k<N
      · obtain ⟨u,hRk⟩:∃ a,L[k]?=some a:=⟨L[k]'(by have:=HN.out;omega),List.getElem?_eq_getElem _⟩
        obtain ⟨b,off,rfl,hcell⟩:=HA.out (by have:=HN.out;omega);have hc0:=cell_past hbel (hcell k _ hRk);by_cases hk0:k=0
        · subst hk0
          clear hbel hcell hRk;go_wp2
          go_quiet (fail)
          go_wp2;go_roundw
          case rel=>exact ⟨bel_drews HB.out _,1,by omega,by go_num,HR⟩
          case measure=>simp [Go.RowKit.intOf];omega
        · obtain ⟨j,rfl⟩:∃ j,k=j+1:=⟨k - 1,by omega⟩
          obtain ⟨a,hRj⟩:∃ a,L[j]?=some a:=⟨L[j]'(by have:=HN.out;omega),List.getElem?_eq_getElem _⟩;have hc1:=cell_past hbel (hcell j _ hRj);have HU:=hide (upN_step hRj hRk HR.out);clear hbel hcell hRk hRj HR;have hj1:((j+1:Nat):Int) - 1=(j:Int):=by omega
          by_cases q:u≤a
          · have d1:decide (u≤a)=true:=decide_eq_true q
            go_wp2
            go_quiet (fail)
            go_wp2;go_ret;exact ⟨ret_bn (HU.out.1 q),bel_drews HB.out _⟩
          · have d1:decide (u≤a)=false:=decide_eq_false q
            go_wp2
            go_quiet (fail)
            go_wp2;go_roundw
            case rel=>exact ⟨bel_drews HB.out _,j+1+1,by omega,by go_num,HU.out.2 q⟩
            case measure=>simp [Go.RowKit.intOf];omega
      · have HE:Hid (true=exB L):=(by rw [HR.out,up_end (by have:=HN.out;omega)]:true=exB L)
        clear hbel;go_wp2;go_ret;exact ⟨ret_bn HE.out,HB.out⟩
  · have HE:Hid (false=exB L):=(by simp [exB,hn];intro h;omega:false=exB L)
    clear hA hn;go_enter Tryz.func327,Tryz.ntmps327;go_wp2;go_ret;exact ⟨ret_bn HE.out,Below.refl _ _⟩
set_option maxHeartbeats 1000000 in
theorem c_i_regsRight {w:World} {ao:Option Addr} {L:List Int} (cap N:Nat) (hn:L.length=N) (hl:N≤1048576) (hA:NumsAt .i64 w ao L) :
    Calls Tryz.prog 328 #[.slice ao N cap] w fun e w'=>e=.returned (.bool (regB L))∧Below w.heap.size w w':=by
  have HA:=hide hA;have HN:=hide hn;by_cases h64:N=64
  · subst h64
    have HF:Hid (regB L=L.all inR):=(by simp [regB,hn]:regB L=L.all inR);clear hA hn;go_enter Tryz.func328,Tryz.ntmps328;go_wp2
    go_loopw [10] (fun i wr=>Below w.heap.size w wr∧∃ (k:Nat),k≤64∧i=.int .i64 k∧Hid (regB L=(L.drop k).all inR)) (fun i wr=>64 - (Go.RowKit.intOf i).toNat)
    case atStart=>exact ⟨Below.refl _ _,0,Nat.zero_le _,rfl,HF⟩
    case round=>
      obtain ⟨hbel,k,hk,rfl,HR⟩:=hrel;have HB:=hide hbel;by_cases hkn:k<64
      · obtain ⟨u,hRk⟩:∃ a,L[k]?=some a:=⟨L[k]'(by have:=HN.out;omega),List.getElem?_eq_getElem _⟩
        obtain ⟨b,off,rfl,hcell⟩:=HA.out (by have:=HN.out;omega);have hc0:=cell_past hbel (hcell k _ hRk);have HU:=hide (all_step hRk HR.out);clear hbel hcell hRk HR;by_cases q:u<0
        · have d1:decide (u<0)=true:=decide_eq_true q
          go_wp2;go_ret;exact ⟨ret_bn (HU.out.1 (.inl q)),HB.out⟩
        · have d1:decide (u<0)=false:=decide_eq_false q
          by_cases q2:55<u
          · have d2:decide (55<u)=true:=decide_eq_true q2
            go_wp2;go_ret;exact ⟨ret_bn (HU.out.1 (.inr q2)),HB.out⟩
          · have d2:decide (55<u)=false:=decide_eq_false q2
            go_wp2;go_roundw
            case rel=>exact ⟨HB.out,k+1,by omega,by go_num,HU.out.2 (by omega) (by omega)⟩
            case measure=>simp [Go.RowKit.intOf];omega
      · have HE:Hid (true=regB L):=(by rw [HR.out,List.drop_eq_nil_of_le (by have:=HN.out;omega)];rfl:true=regB L)
        clear hbel;go_wp2;go_ret;exact ⟨ret_bn HE.out,HB.out⟩
  · have HE:Hid (false=regB L):=(by simp [regB,hn,h64]:false=regB L)
    have hb:((N:Int) == 64)=false:=beq_eq_false_iff_ne.2 (by omega);clear hA hn;go_enter Tryz.func328,Tryz.ntmps328;go_wp2;go_ret;exact ⟨ret_bn HE.out,Below.refl _ _⟩
set_option maxHeartbeats 1000000 in
theorem c_i_HllRight {w:World} {pa na:Option Addr} {pn pc nn nc:Nat} {P N:List Int} (hp:P.length=pn) (hn:N.length=nn) (lp:pn≤1048576) (ln:nn≤1048576) (hP:NumsAt .u64 w pa P) (hN:NumsAt .i64 w na N) :
    Calls Tryz.prog 326 #[.agg #[.slice pa pn pc,.slice na nn nc]] w fun e w'=>e=.returned (.bool (hlB P N))∧Below w.heap.size w w':=by
  have HP:=hide hP;have HN:=hide hN;have hW:∀ o1,Below w.heap.size w (w.alloc o1):=fun o1=>(Below.refl _ _).alloc (Nat.le_refl _) _;have HW:=hide hW;clear hP hN hW;by_cases h0:nn=0
  · subst h0
    have HF:Hid (exB P=hlB P N):=(by simp [hlB,hn]:exB P=hlB P N);go_enter Tryz.func326,Tryz.ntmps326;go_wp2_with fail;refine (c_i_exactRight _ _ hp lp (nums_past HP.out (HW.out _))).mono ?_;rintro e w1 ⟨rfl,hb1⟩;have HT1:=hide (chain (HW.out _) hb1);clear hb1;go_wp2;go_ret;exact ⟨ret_bn HF.out,HT1.out⟩
  · have hb0:((nn:Int) == 0)=false:=beq_eq_false_iff_ne.2 (by omega)
    by_cases h1:pn=0
    · subst h1
      have HF:Hid (regB N=hlB P N):=(by simp [hlB,hn,h0,hp]:regB N=hlB P N);go_enter Tryz.func326,Tryz.ntmps326;go_wp2_with fail;refine (c_i_regsRight _ _ hn ln (nums_past HN.out (HW.out _))).mono ?_;rintro e w1 ⟨rfl,hb1⟩;have HT1:=hide (chain (HW.out _) hb1);clear hb1;go_wp2;go_ret;exact ⟨ret_bn HF.out,HT1.out⟩
    · have hb1:((pn:Int) == 0)=false:=beq_eq_false_iff_ne.2 (by omega)
      have HF:Hid (false=hlB P N):=(by simp [hlB,hn,h0,hp,h1]:false=hlB P N);go_enter Tryz.func326,Tryz.ntmps326;go_wp2;go_ret;exact ⟨ret_bn HF.out,HW.out _⟩
theorem c_s_l01Is (n lo hi:Int) (w:World) (hn:I64 n) :
    Calls Tryz.prog 35 #[.int .i64 n,.int .i64 lo,.int .i64 hi] w fun e w'=>e=.returned (.bool (decide (lo≤n) && decide (n≤hi)))∧w'=w:=by
  by_cases h:lo≤n
  · have d1:decide (lo≤n)=true:=decide_eq_true h
    go_enter Tryz.func35,Tryz.ntmps35;go_wp2;go_ret;exact ⟨ret_bn (by rw [d1,Bool.true_and]),rfl⟩
  · have d1:decide (lo≤n)=false:=decide_eq_false h
    go_enter Tryz.func35,Tryz.ntmps35;go_wp2;go_ret;exact ⟨rfl,rfl⟩
set_option maxHeartbeats 2000000 in
theorem c_s_HllRight {w:World} {pa na:Option Addr} {pn pc nn nc:Nat} {P N:List Int} (hp:P.length=pn) (hn:N.length=nn) (lp:pn≤1048576) (ln:nn≤1048576) (hP:NumsAt .u64 w pa P) (hN:NumsAt .i64 w na N) (kN:∀ x∈N,I64 x) :
    Calls Tryz.prog 135 #[.agg #[.slice pa pn pc,.slice na nn nc]] w fun e w'=>e=.returned (.bool (hlB P N))∧Below w.heap.size w w':=by
  have HP:=hide hP;have HN:=hide hN;have EP:=hide hp;have EN:=hide hn;have KN:=hide kN;have hW:∀ o1,Below w.heap.size w (w.alloc o1):=fun o1=>(Below.refl _ _).alloc (Nat.le_refl _) _;have HW:=hide hW;clear hP hN hW kN;by_cases h0:nn=0
  · subst h0
    have HF:Hid (hlB P N=(decide (pn≤40) && upN P)):=(by simp [hlB,hn,exB,hp]:hlB P N=(decide (pn≤40) && upN P));clear hp hn;go_enter Tryz.func135,Tryz.ntmps135;go_wp2
    go_loopw [3] (fun i wr=>Below w.heap.size w wr∧HlCell wr w.heap.size (.slice pa pn pc) (.slice na 0 nc)∧∃ (k:Nat),(k≤pn∨k=1)∧1≤k∧i=.int .i64 k∧Hid (upN P=upN (P.drop (k - 1)))) (fun i wr=>pn - (Go.RowKit.intOf i).toNat)
    case atStart=>exact ⟨HW.out _,hl_new _ _ _ _,1,.inr rfl,Nat.le_refl _,rfl,(rfl:upN P=upN (P.drop 0))⟩
    case round=>
      obtain ⟨hbel,hK,k,hk,hk1,rfl,HR⟩:=hrel;have HB:=hide hbel;have HK:=hide hK;by_cases hkn:k<pn
      · obtain ⟨j,rfl⟩:∃ j,k=j+1:=⟨k - 1,by omega⟩
        obtain ⟨u,hRk⟩:∃ a,P[j+1]?=some a:=⟨P[j+1]'(by have:=EP.out;omega),List.getElem?_eq_getElem _⟩;obtain ⟨a,hRj⟩:∃ a,P[j]?=some a:=⟨P[j]'(by have:=EP.out;omega),List.getElem?_eq_getElem _⟩;obtain ⟨b,off,rfl,hcell⟩:=HP.out (by have:=EP.out;omega);have hc0:=cell_past hbel (hcell _ _ hRk);have hc1:=cell_past hbel (hcell j _ hRj);have HU:=hide (upN_step hRj hRk HR.out);have hj1:((j+1:Nat):Int) - 1=(j:Int):=by omega
        clear hbel hcell hRk hRj HR;by_cases q:u≤a
        · have d1:decide (u≤a)=true:=decide_eq_true q
          have HE:Hid (false=hlB P N):=(by rw [HF.out,← HU.out.1 q,Bool.and_false]:false=hlB P N);go_wp2
          go_quiet (fail)
          go_wp2;go_ret;exact ⟨ret_bn HE.out,bel_drews HB.out _⟩
        · have d1:decide (u≤a)=false:=decide_eq_false q
          go_wp2
          go_quiet (fail)
          go_wp2;go_roundw
          case rel=>exact ⟨bel_drews HB.out _,HK.out,j+1+1,by omega,by omega,by go_num,HU.out.2 q⟩
          case measure=>simp [Go.RowKit.intOf];omega
      · have HE:Hid (decide ((pn:Int)≤40)=hlB P N):=(by rw [HF.out,HR.out,up_end (by have:=EP.out;omega),Bool.and_true];exact decide_eq_decide.2 (by omega):decide ((pn:Int)≤40)=hlB P N)
        clear hbel;go_wp2;go_ret;exact ⟨ret_bn HE.out,HB.out⟩
  · have hb0:((nn:Int) == 0)=false:=beq_eq_false_iff_ne.2 (by omega)
    have HF:Hid (hlB P N=(decide (pn=0) && (decide (nn=64) && N.all inR))):=(by simp [hlB,hn,h0,hp,regB]:hlB P N=(decide (pn=0) && (decide (nn=64) && N.all inR)));clear hp hn;go_enter Tryz.func135,Tryz.ntmps135;go_wp2
    go_loopw [4] (fun i wr=>Below w.heap.size w wr∧HlCell wr w.heap.size (.slice pa pn pc) (.slice na nn nc)∧∃ (k:Nat),k≤nn∧i=.int .i64 k∧Hid (N.all inR=(N.drop k).all inR)) (fun i wr=>nn - (Go.RowKit.intOf i).toNat)
    case atStart=>exact ⟨HW.out _,hl_new _ _ _ _,0,Nat.zero_le _,rfl,(rfl:N.all inR=(N.drop 0).all inR)⟩
    case round=>
      obtain ⟨hbel,hK,k,hk,rfl,HR⟩:=hrel;have HB:=hide hbel;have HK:=hide hK;by_cases hkn:k<nn
      · obtain ⟨u,hRk⟩:∃ a,N[k]?=some a:=⟨N[k]'(by have:=EN.out;omega),List.getElem?_eq_getElem _⟩
        obtain ⟨b,off,rfl,hcell⟩:=HN.out (by have:=EN.out;omega);have hc0:=cell_past hbel (hcell k _ hRk);have hu:=KN.out _ (List.mem_of_getElem? hRk);have HU:=hide (all_step hRk HR.out);clear hbel hcell hRk HR;by_cases q:0≤u∧u≤55
        · have d1:(decide (0≤u) && decide (u≤55))=true:=by simp [q.1,q.2]
          have HQ:=hide q;clear q;go_wp2_with (go_at_call 35;refine (c_s_l01Is _ _ _ _ hu).mono ?_;rintro e w1 ⟨rfl,rfl⟩;rw [d1]);go_roundw
          case rel=>exact ⟨HB.out,HK.out,k+1,by omega,by go_num,HU.out.2 HQ.out.1 HQ.out.2⟩
          case measure=>simp [Go.RowKit.intOf];omega
        · have d1:(decide (0≤u) && decide (u≤55))=false:=by rw [Bool.eq_false_iff];intro h;simp at h;exact q h
          have HE:Hid (false=hlB P N):=(by rw [HF.out,← HU.out.1 (by omega),Bool.and_false,Bool.and_false]:false=hlB P N);clear q;go_wp2_with (go_at_call 35;refine (c_s_l01Is _ _ _ _ hu).mono ?_;rintro e w1 ⟨rfl,rfl⟩;rw [d1]);go_ret;exact ⟨ret_bn HE.out,HB.out⟩
      · have hE:hlB P N=(decide (pn=0) && decide (nn=64)):=by rw [HF.out,HR.out,List.drop_eq_nil_of_le (by have:=EN.out;omega)];simp
        by_cases h1:pn=0
        · subst h1
          have HE:Hid (((nn:Int) == 64)=hlB P N):=(by rw [hE];simp only [decide_true,Bool.true_and];by_cases h:nn=64 <;> simp [h] <;> omega:((nn:Int) == 64)=hlB P N);clear hbel hE;go_wp2;go_ret;exact ⟨ret_bn HE.out,HB.out⟩
        · have HE:Hid (false=hlB P N):=(by rw [hE,decide_eq_false h1];rfl:false=hlB P N)
          have hb1:((pn:Int) == 0)=false:=beq_eq_false_iff_ne.2 (by omega);clear hbel hE;go_wp2;go_ret;exact ⟨ret_bn HE.out,HB.out⟩
def valA (v:Int):Bool:=decide (-999999999999999999≤v) && decide (v≤999999999999999999)
def gauB (a t:Int):Bool:=if t=-1 then decide (a=0) else decide (0≤t) && decide (t≤1000000000) && valA a
theorem c_valueRightA (v:Int) (w:World):Calls Tryz.prog 316 #[.int .i64 v] w fun e w'=>e=.returned (.bool (valA v))∧w'=w:=by
  by_cases h1:-999999999999999999≤v <;> by_cases h2:v≤999999999999999999 <;> (go_enter Tryz.func316,Tryz.ntmps316;go_wp2;go_ret;exact ⟨by simp [valA,h1,h2],rfl⟩)
theorem c_l01IsR (n lo hi:Int) (w:World):Calls Tryz.prog 35 #[.int .i64 n,.int .i64 lo,.int .i64 hi] w fun e w'=>e=.returned (.bool (decide (lo≤n) && decide (n≤hi)))∧w'=w:=by
  by_cases h1:lo≤n <;> by_cases h2:n≤hi <;> (go_enter Tryz.func35,Tryz.ntmps35;go_wp2;go_ret;exact ⟨by simp [h1,h2],rfl⟩)
theorem c_l01ValueR (v:Int) (w:World):Calls Tryz.prog 138 #[.int .i64 v] w fun e w'=>e=.returned (.bool (valA v))∧w'=w:=by
  go_enter Tryz.func138,Tryz.ntmps138;go_wp2_with (go_at_call 35;refine (c_l01IsR _ _ _ _).mono ?_;rintro e w1 ⟨rfl,hw1⟩;obtain rfl:=hw1);go_ret;exact ⟨rfl,rfl⟩
theorem c_cright (h l:Int) (w:World):Calls Tryz.prog 312 #[.agg #[.int .i64 h,.int .u64 l]] w fun e w'=>e=.returned (.bool true)∧Below w.heap.size w w':=by
  go_enter Tryz.func312,Tryz.ntmps312;go_wp2;go_ret;exact ⟨rfl,(Below.refl _ _).alloc (Nat.le_refl _) _⟩
theorem c_gright (a t:Int) (w:World):Calls Tryz.prog 315 #[.agg #[.int .i64 a,.int .i64 t]] w fun e w'=>e=.returned (.bool (gauB a t))∧Below w.heap.size w w':=by
  by_cases h1:t=-1
  · have b1:(t == -1)=true:=by simp [h1]
    have HE:Hid (decide (a=0)=gauB a t):=by unfold gauB;rw [if_pos h1];rfl
    clear h1;by_cases h2:a=0
    · go_enter Tryz.func315,Tryz.ntmps315
      go_wp2;go_ret;exact ⟨by rw [← HE.out];simp [h2],(Below.refl _ _).alloc (Nat.le_refl _) _⟩
    · have b2:(a == 0)=false:=beq_eq_false_iff_ne.2 h2
      go_enter Tryz.func315,Tryz.ntmps315;go_wp2;go_ret;exact ⟨by rw [← HE.out];simp [h2],(Below.refl _ _).alloc (Nat.le_refl _) _⟩
  · have b1:(t == -1)=false:=beq_eq_false_iff_ne.2 h1
    have HE:Hid ((decide (0≤t) && decide (t≤1000000000) && valA a)=gauB a t):=by unfold gauB;rw [if_neg h1];rfl
    clear h1;have HB:Hid (∀ o,Below w.heap.size w (w.alloc o)):=fun o=>(Below.refl _ _).alloc (Nat.le_refl _) o;by_cases h2:0≤t
    · by_cases h3:t≤1000000000
      · have HE2:Hid (valA a=gauB a t):=by have:=HE.out;simp [h2,h3] at this;exact this
        go_enter Tryz.func315,Tryz.ntmps315;go_wp2_with (go_at_call 316;refine (c_valueRightA _ _).mono ?_;rintro e w1 ⟨rfl,hw⟩;subst hw);go_ret;exact ⟨ret_bs HE2.out,HB.out _⟩
      · have HE2:Hid (false=gauB a t):=by have:=HE.out;simp [h2,h3] at this;exact this.symm
        go_enter Tryz.func315,Tryz.ntmps315;go_wp2;go_ret;exact ⟨ret_bs HE2.out,HB.out _⟩
    · have HE2:Hid (false=gauB a t):=by have:=HE.out;simp [h2] at this;exact this.symm
      go_enter Tryz.func315,Tryz.ntmps315;go_wp2;go_ret;exact ⟨ret_bs HE2.out,HB.out _⟩
theorem taCC (v:Value) (w:World):(Instr.typeAssert (.iface 266 v) 243 266 true).run Tryz.prog w=.ok (.tuple #[v,.bool true]) w:=by kernel_rfl
theorem taGC (v:Value) (w:World):(Instr.typeAssert (.iface 268 v) 243 266 true).run Tryz.prog w=.ok (.tuple #[.agg #[.int .i64 0,.int .u64 0],.bool false]) w:=by kernel_rfl
theorem taGG (v:Value) (w:World):(Instr.typeAssert (.iface 268 v) 243 268 true).run Tryz.prog w=.ok (.tuple #[v,.bool true]) w:=by kernel_rfl
theorem taHC (v:Value) (w:World):(Instr.typeAssert (.iface 270 v) 243 266 true).run Tryz.prog w=.ok (.tuple #[.agg #[.int .i64 0,.int .u64 0],.bool false]) w:=by kernel_rfl
theorem taHG (v:Value) (w:World):(Instr.typeAssert (.iface 270 v) 243 268 true).run Tryz.prog w=.ok (.tuple #[.agg #[.int .i64 0,.int .i64 0],.bool false]) w:=by kernel_rfl
theorem taHH (v:Value) (w:World):(Instr.typeAssert (.iface 270 v) 243 270 true).run Tryz.prog w=.ok (.tuple #[v,.bool true]) w:=by kernel_rfl
theorem taSC (v:Value) (w:World):(Instr.typeAssert (.iface 272 v) 243 266 true).run Tryz.prog w=.ok (.tuple #[.agg #[.int .i64 0,.int .u64 0],.bool false]) w:=by kernel_rfl
theorem taSG (v:Value) (w:World):(Instr.typeAssert (.iface 272 v) 243 268 true).run Tryz.prog w=.ok (.tuple #[.agg #[.int .i64 0,.int .i64 0],.bool false]) w:=by kernel_rfl
theorem taSH (v:Value) (w:World):(Instr.typeAssert (.iface 272 v) 243 270 true).run Tryz.prog w=.ok (.tuple #[.agg #[.int .u64 0,.slice none 0 0,.slice none 0 0,.int .i64 0,.int .u64 0],.bool false]) w:=by kernel_rfl
theorem taSS (v:Value) (w:World):(Instr.typeAssert (.iface 272 v) 243 272 true).run Tryz.prog w=.ok (.tuple #[v,.bool true]) w:=by kernel_rfl
set_option maxHeartbeats 2000000 in
theorem c_partOfC {g:Ag} {p:Pl} (w:World) (h:g.k=1):Calls Tryz.prog 206 #[.agg (agArr g p)] w fun e w'=>e=.returned (.iface 266 (.agg #[.int .i64 g.h,.int .u64 g.l]))∧Below w.heap.size w w':=by
  have b1:(g.k == 1)=true:=by simp [h]
  clear h;go_enter Tryz.func206,Tryz.ntmps206;go_wp2;go_ret;exact ⟨rfl,(Below.refl _ _).alloc (Nat.le_refl _) _⟩
set_option maxHeartbeats 2000000 in
theorem c_aggWithC (g:Ag) (p:Pl) (w:World):Calls Tryz.prog 208 #[.int .u64 g.s,.iface 266 (.agg #[.int .i64 g.h,.int .u64 g.l])] w fun e w'=>e=.returned (.agg (agArr ⟨1,g.s,g.h,g.l,0,0,0,[],[],0,0,[],[]⟩ ⟨none,0,none,0,none,0,none,0⟩))∧Below w.heap.size w w':=by
  have tC:=taCC (.agg #[.int .i64 g.h,.int .u64 g.l]);go_enter Tryz.func208,Tryz.ntmps208;go_wp2;exact bodyPost_ret (v:=.agg #[.int .i64 1,.int .u64 g.s,.int .i64 g.h,.int .u64 g.l,.int .i64 0,.int .i64 0,.int .u64 0,.slice none 0 0,.slice none 0 0,.int .i64 0,.int .u64 0,.slice none 0 0,.slice none 0 0]) (by simp [results,Tryz.results208,go_sem]) rfl ⟨rfl,((Below.refl _ _).alloc (Nat.le_refl _) _).alloc (by simp) _⟩
set_option maxHeartbeats 2000000 in
theorem c_partOfG {g:Ag} {p:Pl} (w:World) (h:g.k=2):Calls Tryz.prog 206 #[.agg (agArr g p)] w fun e w'=>e=.returned (.iface 268 (.agg #[.int .i64 g.a,.int .i64 g.t]))∧Below w.heap.size w w':=by
  have b1:(g.k == 1)=false:=beq_eq_false_iff_ne.2 (by omega);have b2:(g.k == 2)=true:=by simp [h]
  clear h;go_enter Tryz.func206,Tryz.ntmps206;go_wp2;go_ret;exact ⟨rfl,(Below.refl _ _).alloc (Nat.le_refl _) _⟩
set_option maxHeartbeats 2000000 in
theorem c_aggWithG (g:Ag) (p:Pl) (w:World):Calls Tryz.prog 208 #[.int .u64 g.s,.iface 268 (.agg #[.int .i64 g.a,.int .i64 g.t])] w fun e w'=>e=.returned (.agg (agArr ⟨2,g.s,0,0,g.a,g.t,0,[],[],0,0,[],[]⟩ ⟨none,0,none,0,none,0,none,0⟩))∧Below w.heap.size w w':=by
  have tC:=taGC (.agg #[.int .i64 g.a,.int .i64 g.t]);have tG:=taGG (.agg #[.int .i64 g.a,.int .i64 g.t]);go_enter Tryz.func208,Tryz.ntmps208;go_wp2;exact bodyPost_ret (v:=.agg #[.int .i64 2,.int .u64 g.s,.int .i64 0,.int .u64 0,.int .i64 g.a,.int .i64 g.t,.int .u64 0,.slice none 0 0,.slice none 0 0,.int .i64 0,.int .u64 0,.slice none 0 0,.slice none 0 0]) (by simp [results,Tryz.results208,go_sem]) rfl ⟨rfl,((Below.refl _ _).alloc (Nat.le_refl _) _).alloc (by simp) _⟩
set_option maxHeartbeats 2000000 in
theorem c_partOfH {g:Ag} {p:Pl} (w:World) (h:g.k=3):Calls Tryz.prog 206 #[.agg (agArr g p)] w fun e w'=>e=.returned (.iface 270 (.agg #[.int .u64 g.z,.slice p.pa g.P.length p.pc,.slice p.na g.N.length p.nc,.int .i64 g.x,.int .u64 g.y]))∧Below w.heap.size w w':=by
  have b1:(g.k == 1)=false:=beq_eq_false_iff_ne.2 (by omega);have b2:(g.k == 2)=false:=beq_eq_false_iff_ne.2 (by omega);have b3:(g.k == 3)=true:=by simp [h]
  clear h;go_enter Tryz.func206,Tryz.ntmps206;go_wp2;go_ret;exact ⟨rfl,(Below.refl _ _).alloc (Nat.le_refl _) _⟩
set_option maxHeartbeats 2000000 in
theorem c_aggWithH (g:Ag) (p:Pl) (w:World):Calls Tryz.prog 208 #[.int .u64 g.s,.iface 270 (.agg #[.int .u64 g.z,.slice p.pa g.P.length p.pc,.slice p.na g.N.length p.nc,.int .i64 g.x,.int .u64 g.y])] w fun e w'=>e=.returned (.agg (agArr ⟨3,g.s,0,0,0,0,g.z,g.P,g.N,g.x,g.y,[],[]⟩ ⟨p.pa,p.pc,p.na,p.nc,none,0,none,0⟩))∧Below w.heap.size w w':=by
  have tC:=taHC (.agg #[.int .u64 g.z,.slice p.pa g.P.length p.pc,.slice p.na g.N.length p.nc,.int .i64 g.x,.int .u64 g.y]);have tG:=taHG (.agg #[.int .u64 g.z,.slice p.pa g.P.length p.pc,.slice p.na g.N.length p.nc,.int .i64 g.x,.int .u64 g.y]);have tH:=taHH (.agg #[.int .u64 g.z,.slice p.pa g.P.length p.pc,.slice p.na g.N.length p.nc,.int .i64 g.x,.int .u64 g.y]);go_enter Tryz.func208,Tryz.ntmps208;go_wp2;exact bodyPost_ret (v:=.agg #[.int .i64 3,.int .u64 g.s,.int .i64 0,.int .u64 0,.int .i64 0,.int .i64 0,.int .u64 g.z,.slice p.pa g.P.length p.pc,.slice p.na g.N.length p.nc,.int .i64 g.x,.int .u64 g.y,.slice none 0 0,.slice none 0 0]) (by simp [results,Tryz.results208,go_sem]) rfl ⟨rfl,((Below.refl _ _).alloc (Nat.le_refl _) _).alloc (by simp) _⟩
set_option maxHeartbeats 2000000 in
theorem c_partOfS {g:Ag} {p:Pl} (w:World) (h:g.k=4):Calls Tryz.prog 206 #[.agg (agArr g p)] w fun e w'=>e=.returned (.iface 272 (.agg #[.slice p.ea g.E.length p.ec,.slice p.ra g.R.length p.rc]))∧Below w.heap.size w w':=by
  have b1:(g.k == 1)=false:=beq_eq_false_iff_ne.2 (by omega);have b2:(g.k == 2)=false:=beq_eq_false_iff_ne.2 (by omega);have b3:(g.k == 3)=false:=beq_eq_false_iff_ne.2 (by omega);have b4:(g.k == 4)=true:=by simp [h]
  clear h;go_enter Tryz.func206,Tryz.ntmps206;go_wp2;go_ret;exact ⟨rfl,(Below.refl _ _).alloc (Nat.le_refl _) _⟩
set_option maxHeartbeats 2000000 in
theorem c_aggWithS (g:Ag) (p:Pl) (w:World):Calls Tryz.prog 208 #[.int .u64 g.s,.iface 272 (.agg #[.slice p.ea g.E.length p.ec,.slice p.ra g.R.length p.rc])] w fun e w'=>e=.returned (.agg (agArr ⟨4,g.s,0,0,0,0,0,[],[],0,0,g.E,g.R⟩ ⟨none,0,none,0,p.ea,p.ec,p.ra,p.rc⟩))∧Below w.heap.size w w':=by
  have tC:=taSC (.agg #[.slice p.ea g.E.length p.ec,.slice p.ra g.R.length p.rc]);have tG:=taSG (.agg #[.slice p.ea g.E.length p.ec,.slice p.ra g.R.length p.rc]);have tH:=taSH (.agg #[.slice p.ea g.E.length p.ec,.slice p.ra g.R.length p.rc]);have tS:=taSS (.agg #[.slice p.ea g.E.length p.ec,.slice p.ra g.R.length p.rc]);go_enter Tryz.func208,Tryz.ntmps208;go_wp2;exact bodyPost_ret (v:=.agg #[.int .i64 4,.int .u64 g.s,.int .i64 0,.int .u64 0,.int .i64 0,.int .i64 0,.int .u64 0,.slice none 0 0,.slice none 0 0,.int .i64 0,.int .u64 0,.slice p.ea g.E.length p.ec,.slice p.ra g.R.length p.rc]) (by simp [results,Tryz.results208,go_sem]) rfl ⟨rfl,((Below.refl _ _).alloc (Nat.le_refl _) _).alloc (by simp) _⟩
set_option maxHeartbeats 2000000 in
theorem c_partOf0 {g:Ag} {p:Pl} (w:World) (h1:¬ g.k=1) (h2:¬ g.k=2) (h3:¬ g.k=3) (h4:¬ g.k=4):Calls Tryz.prog 206 #[.agg (agArr g p)] w fun e w'=>e=.returned .nilIface∧Below w.heap.size w w':=by
  have b1:(g.k == 1)=false:=beq_eq_false_iff_ne.2 h1;have b2:(g.k == 2)=false:=beq_eq_false_iff_ne.2 h2;have b3:(g.k == 3)=false:=beq_eq_false_iff_ne.2 h3;have b4:(g.k == 4)=false:=beq_eq_false_iff_ne.2 h4;clear h1 h2 h3 h4;go_enter Tryz.func206,Tryz.ntmps206;go_wp2;go_ret;exact ⟨rfl,(Below.refl _ _).alloc (Nat.le_refl _) _⟩
end Go.Proofs.YtmjogablacnlgaaGreatDoor
