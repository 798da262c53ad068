/-
 Numbers in digits. Of no program's walk.
-/
import Derived.Lib.ItoaLen
import Derived.Laws.BytesArg
import Derived.Test.YtiiclgcpagdekaaGreatDoorFCN
namespace Go.Proofs.YtiiclgcpagdekaaGreatDoor
set_option linter.unusedVariables false
set_option linter.unusedSimpArgs false
open Go.ChangeShapes Go.WideShapes Go.ChangeAt Go.RowKit Go.PlainAid
theorem dec_ten {n:Nat} (h:¬ n<10):Lib.decDigits n=Lib.decDigits (n / 10) ++ [UInt8.ofNat (48+n % 10)]:=by
 rw [Lib.decDigits,dif_neg h]
def DecR (N m:Nat) (D:List UInt8):Prop:=(m=0→D=Lib.decDigits N)∧(m≠0→Lib.decDigits m ++ D=Lib.decDigits N)
theorem decR_step {N m:Nat} {D:List UInt8} (h:DecR N m D) (hm:m≠0):DecR N (m / 10) (UInt8.ofNat (48+m % 10) :: D):=by
 have h2:=h.2 hm
 by_cases k:m<10
 ·rw [Lib.decDigits_one k] at h2
  refine ⟨fun _=>by rw [Nat.mod_eq_of_lt k];exact h2,fun h0=>absurd (Nat.div_eq_of_lt k) h0⟩
 ·rw [dec_ten k,List.append_assoc] at h2
  exact ⟨fun h0=>by omega,fun _=>h2⟩
theorem decR_len {N m:Nat} {D:List UInt8} (h:DecR N m D) (hN:(Lib.decDigits N).length≤21):D.length≤21:=by
 by_cases k:m=0
 ·rw [h.1 k];exact hN
 ·have:=congrArg List.length (h.2 k);simp at this;omega
theorem dec_len (N:Nat) (h:N≤9223372036854775807):(Lib.decDigits N).length≤21:=by
 have:=Lib.itoa_length_le (N:Int) (by omega) (by omega)
 have e:Lib.itoa (N:Int)=Lib.decDigits N:=by unfold Lib.itoa;rw [if_neg (by omega)];simp
 rw [e] at this;exact this
theorem ret_str {a b:ByteArray} (h:a=b):Ending.returned (.string a)=.returned (.string b):=by rw [h]
theorem str_cat (b:UInt8) (D:List UInt8):(⟨#[b]⟩:ByteArray) ++ ⟨D.toArray⟩=⟨(b :: D).toArray⟩:=by
 apply ByteArray.ext;rw [ByteArray.data_append];simp
set_option maxRecDepth 10000
theorem str_addH {a b:ByteArray} (h:a.size+b.size≤1000000):Op.stringOp .add a b=pure (.string (a ++ b)):=by
 unfold Op.stringOp
 have:¬ (((a.size+b.size:Nat):Int) > IntKind.i64.max):=by
  have e:IntKind.i64.max=9223372036854775807:=by decide
  rw [e];omega
 simp only [if_neg this]
def mtx (k:Nat):ByteArray:=⟨#[109]⟩ ++ ⟨(Lib.decDigits k).toArray⟩
set_option maxRecDepth 10000 in
set_option maxHeartbeats 1000000 in
theorem c_markText (N:Nat) (hN0:1≤N) (hN:N≤100000000) (w:World) :
  Calls Tryz.prog 65 #[.int .i64 N] w fun e w'=>e=.returned (.string (mtx N))∧Below w.heap.size w w':=by
 have hb1:¬ ((N:Int)≤0):=by omega
 go_enter Tryz.func65,Tryz.ntmps65
 go_wp2
 go_loopw [0,3] (fun n o wr=>∃ (m:Nat) (D:List UInt8),m≤N∧n=.int .i64 m∧o=.string ⟨D.toArray⟩∧DecR N m D∧Below w.heap.size w wr) (fun n o wr=>(Go.RowKit.intOf n).toNat)
 case atStart=>exact ⟨N,[],Nat.le_refl _,rfl,rfl,⟨fun h=>absurd h (by omega),fun _=>by simp⟩,Below.refl _ _⟩
 case round=>
  obtain ⟨m,D,hm,rfl,rfl,hR,hbel⟩:=hrel
  have hln:=decR_len hR (dec_len N (by omega))
  have hD:(⟨D.toArray⟩:ByteArray).size=D.length:=rfl
  by_cases k:m=0
  ·subst k
   have HR:Hid (DecR N 0 D):=hR
   have hadd:Op.stringOp .add ⟨#[109]⟩ ⟨D.toArray⟩=pure (.string ((⟨#[109]⟩:ByteArray) ++ ⟨D.toArray⟩)):=str_addH (by rw [hD];show 1+_≤_;omega)
   clear hR
   go_wp2
   go_ret
   exact ⟨ret_str (by rw [HR.out.1 rfl];rfl),hbel⟩
  ·obtain ⟨d,hd⟩:∃ d,d=m % 10:=⟨_,rfl⟩
   obtain ⟨q,hq⟩:∃ q,q=m / 10:=⟨_,rfl⟩
   have HR:Hid (DecR N q (UInt8.ofNat (48+d) :: D)):=by rw [hd,hq];exact decR_step hR k
   have e1:Int.tmod (m:Int) 10=(d:Int):=by rw [hd];rfl
   have e2:Int.tdiv (m:Int) 10=(q:Int):=by rw [hq];rfl
   have hk:(0:Int)<(m:Int):=by omega
   have hd9:d<10:=by omega
   have hqm:q<m:=by omega
   have e4:IntKind.u8.wrap (48+(d:Int))=48+(d:Int):=IntWalk.u8_in _ ⟨by omega,by omega⟩
   obtain ⟨B,hB⟩:∃ B,B=strOfNums [48+(d:Int)]:=⟨_,rfl⟩
   have kc:=run_convert_bytes_arg (P:=Tryz.prog) (wr.alloc (.cells #[.int .u8 (48+(d:Int))] 5)) 62 5 Tryz.underlying62 Tryz.underlying5 wr.heap.size 0 1 1 [48+(d:Int)] rfl (fun i hi=>by
      obtain rfl:i=0:=by omega
      simp) 9 Tryz.underlying9
   rw [← hB] at kc
   have hB1:B.size=1:=by rw [hB];rfl
   have HB:Hid (B ++ ⟨D.toArray⟩=(⟨(UInt8.ofNat (48+d) :: D).toArray⟩:ByteArray)):=(by
    rw [hB,← str_cat];congr 1;:B ++ ⟨D.toArray⟩=(⟨(UInt8.ofNat (48+d) :: D).toArray⟩:ByteArray))
   have HL:Hid (Below w.heap.size w wr):=hbel
   have hz:=hbel.size
   clear hR hd hq k hB hbel
   go_wp2
   go_roundw
   case rel=>exact ⟨q,UInt8.ofNat (48+d) :: D,by omega,rfl,by rw [HB.out],HR.out,HL.out.alloc (by omega) _⟩
   case measure=>simp [Go.RowKit.intOf];omega
open Go.Lib
def agTot (g:Ag):Nat:=g.P.length+g.N.length+g.E.length+g.R.length
def ceTot:List Ce→Nat
 | []=>0
 | c :: L=>agTot c.g+ceTot L
def cst (c:Ce):Nat:=11+2*c.g.P.length+2*c.g.N.length+c.g.E.length+c.g.R.length
def mkC (k:Nat) (c:Ce):Ce:=
 ⟨((k:Nat):Int),mtx (k+1),⟨((k+2:Nat):Int),((k+3:Nat):Int),((k+4:Nat):Int),((k+5:Nat):Int),((k+6:Nat):Int),((k+7:Nat):Int),((k+8:Nat):Int),mkbs (k+9) c.g.P.length,mkbs (k+9+2*c.g.P.length) c.g.N.length,((k+9+2*c.g.P.length+2*c.g.N.length:Nat):Int),((k+10+2*c.g.P.length+2*c.g.N.length:Nat):Int),mkn (k+11+2*c.g.P.length+2*c.g.N.length) c.g.E.length,mkn (k+11+2*c.g.P.length+2*c.g.N.length+c.g.E.length) c.g.R.length⟩,c.p⟩
def totC:List Ce→Nat
 | []=>0
 | c :: L=>cst c+totC L
def mkCs:Nat→List Ce→List Ce
 | _,[]=>[]
 | k,c :: L=>mkC k c :: mkCs (k+cst c) L
theorem mkCs_len:∀ (k:Nat) (L:List Ce),(mkCs k L).length=L.length
 | _,[]=>rfl
 | k,c :: L=>by rw [mkCs,List.length_cons,mkCs_len,List.length_cons]
theorem totC_app:∀ (L M:List Ce),totC (L ++ M)=totC L+totC M
 | [],M=>by simp [totC]
 | c :: L,M=>by rw [List.cons_append,totC,totC_app L M,totC];omega
theorem totC_take {L:List Ce} {i:Nat} {c:Ce} (h:L[i]?=some c):totC (L.take (i+1))=totC (L.take i)+cst c:=by
 rw [List.take_add_one,h,totC_app];simp [totC]
theorem mkCs_app:∀ (k:Nat) (L M:List Ce),mkCs k (L ++ M)=mkCs k L ++ mkCs (k+totC L) M
 | k,[],M=>by simp [mkCs,totC]
 | k,c :: L,M=>by rw [List.cons_append,mkCs,mkCs_app,mkCs,totC,List.cons_append,show k+cst c+totC L=k+(cst c+totC L) by omega]
theorem totC_mono (L:List Ce) (i:Nat):totC (L.take i)≤totC L:=by
 have:=totC_app (L.take i) (L.drop i)
 rw [List.take_append_drop] at this
 omega
def ovC (k0:Nat) (L:List Ce) (i:Nat):List Ce:=mkCs k0 (L.take i) ++ L.drop i
theorem ovC_len (k0:Nat) (L:List Ce) (i:Nat) (h:i≤L.length):(ovC k0 L i).length=L.length:=by simp [ovC,mkCs_len];omega
theorem ovC_zero (k0:Nat) (L:List Ce):ovC k0 L 0=L:=by simp [ovC,mkCs]
theorem ovC_all (k0:Nat) (L:List Ce):ovC k0 L L.length=mkCs k0 L:=by simp [ovC]
theorem ovC_at {k0:Nat} {L:List Ce} {i:Nat} {c:Ce} (h:L[i]?=some c):(ovC k0 L i)[i]?=some c:=by
 have hi:=(List.getElem?_eq_some_iff.1 h).1
 have hl:(mkCs k0 (L.take i)).length=i:=by rw [mkCs_len];simp;omega
 unfold ovC
 rw [List.getElem?_append_right (by omega),hl,Nat.sub_self,List.getElem?_drop]
 simpa using h
theorem ovC_set {k0:Nat} {L:List Ce} {i:Nat} {c:Ce} (h:L[i]?=some c):(ovC k0 L i).set i (mkC (k0+totC (L.take i)) c)=ovC k0 L (i+1):=by
 have hi:=(List.getElem?_eq_some_iff.1 h).1
 have hl:(mkCs k0 (L.take i)).length=i:=by rw [mkCs_len];simp;omega
 unfold ovC
 rw [List.set_append_right _ _ (by omega),hl,Nat.sub_self,List.drop_eq_getElem_cons hi,List.set_cons_zero,List.take_add_one,h,mkCs_app]
 simp [mkCs]
theorem flC_set:∀ (L:List Ce) (i:Nat) (c c':Ce) (j:Nat) (u:Value),j<15→L[i]?=some c→ceL c'=(ceL c).set j u→(flC L).set (i*15+j) u=flC (L.set i c')
 | [],i,c,c',j,u,hj,h,e=>by simp at h
 | x :: xs,0,c,c',j,u,hj,h,e=>by
  obtain rfl:x=c:=by simpa using h
  rw [flC_cons,List.set_append_left _ _ (by rw [ceL_len];omega),List.set_cons_zero,flC_cons,e,Nat.zero_mul,Nat.zero_add]
 | x :: xs,i+1,c,c',j,u,hj,h,e=>by
  rw [flC_cons,List.set_append_right _ _ (by rw [ceL_len];omega),ceL_len,List.set_cons_succ,flC_cons,← flC_set xs i c c' j u hj (by simpa using h) e,show (i+1)*15+j - 15=i*15+j by omega]
theorem flC_same:∀ (L:List Ce) (i:Nat) (c c':Ce),L[i]?=some c→ceL c'=ceL c→flC (L.set i c')=flC L
 | [],i,c,c',h,e=>by simp at h
 | x :: xs,0,c,c',h,e=>by
  obtain rfl:x=c:=by simpa using h
  rw [List.set_cons_zero,flC_cons,flC_cons,e]
 | x :: xs,i+1,c,c',h,e=>by
  rw [List.set_cons_succ,flC_cons,flC_cons,flC_same xs i c c' (by simpa using h) e]
theorem OwnC.put1 {w:World} {B g cp n i j:Nat} {L:List Ce} {c c':Ce} {u:Value} (h:OwnC w B (.slice (some ⟨g,0,none⟩) n cp) L) (hn:L.length=n) (hc:L[i]?=some c) (hj:j<15) (e:ceL c'=(ceL c).set j u):OwnC (w.setCell ⟨g,i*15+j,none⟩ u) B (.slice (some ⟨g,0,none⟩) n cp) (L.set i c'):=by
 subst hn
 have q:=(World.ownsRow.stored h (i*15+j) u).1
 rw [flC_set L i c c' j u hj hc e] at q
 show World.ownsRow _ _ _ _ _ _ _
 rw [List.length_set]
 exact q
theorem OwnC.re {w:World} {B i:Nat} {v:Value} {L:List Ce} {c c':Ce} (h:OwnC w B v L) (hc:L[i]?=some c) (e:ceL c'=ceL c):OwnC w B v (L.set i c'):=by
 show World.ownsRow _ _ _ _ _ _ _
 rw [List.length_set,flC_same L i c c' hc e]
 exact h
theorem CesO.upd {w w':World} {B i:Nat} {L:List Ce} {c c':Ce} {r:Option Nat} (h:CesO w B L) (hc:L[i]?=some c) (hg:w.grownBy w' r) (hr:∀ k,r=some k→AgBlk c.g c.p k) (hb:∀ k,AgBlk c'.g c'.p k→AgBlk c.g c.p k) (ho:AgO w' B c'.g c'.p):CesO w' B (L.set i c'):=by
 obtain ⟨hi,hci⟩:=List.getElem?_eq_some_iff.1 hc
 have far:∀ j (hj:j<L.length),j≠i→ApC c L[j]:=fun j hj hne=>by
  rcases Nat.lt_or_gt_of_ne hne with q | q
  ·have:=(List.pairwise_iff_getElem.1 h.ap) j i hj hi q
   rw [hci] at this;exact this.symm
  ·have:=(List.pairwise_iff_getElem.1 h.ap) i j hi hj q
   rw [hci] at this;exact this
 have hS:GrownS w w' (fun k=>r=some k):=⟨hg.os,hg.tape,hg.output,hg.size,fun k hk hn=>hg.block k hk (fun e=>hn e.symm)⟩
 refine ⟨fun d hd=>?_,List.pairwise_iff_getElem.2 (fun a b ha hb' hab=>?_)⟩
 ·obtain ⟨j,hj,e⟩:=List.getElem_of_mem hd
  have hj':j<L.length:=by simpa using hj
  rw [List.getElem_set] at e
  by_cases q:i=j
  ·rw [if_pos q] at e;rw [← e];exact ho
  ·rw [if_neg q] at e
   rw [← e]
   exact (h.o _ (List.getElem_mem hj')).keptS hS (fun k k1 k2=>far j hj' (fun e=>q e.symm) k (hr k k2) k1)
 ·have ha2:a<L.length:=by simpa using ha
  have hb2:b<L.length:=by simpa using hb'
  rw [List.getElem_set,List.getElem_set]
  by_cases q1:i=a
  ·rw [if_pos q1,if_neg (by omega)]
   exact fun k k1 k2=>far b hb2 (by omega) k (hb k k1) k2
  ·rw [if_neg q1]
   by_cases q2:i=b
   ·rw [if_pos q2]
    exact fun k k1 k2=>far a ha2 (by omega) k (hb k k2) k1
   ·rw [if_neg q2]
    exact (List.pairwise_iff_getElem.1 h.ap) a b ha2 hb2 hab
theorem AgO.re {w:World} {B:Nat} {g g':Ag} {p:Pl} (h:AgO w B g p) (h1:g'.P=g.P) (h2:g'.N=g.N) (h3:g'.E=g.E) (h4:g'.R=g.R):AgO w B g' p:=by
 obtain ⟨a,b,c,d,e⟩:=h
 exact ⟨by rw [h1];exact a,by rw [h2];exact b,by rw [h1,h2];exact c,by rw [h3];exact d,by rw [h4];exact e⟩
theorem blk_same {g g':Ag} {p:Pl}:∀ k,AgBlk g' p k→AgBlk g p k:=fun k h=>by
 obtain ⟨pa,pc,na,nc,ea,ec,ra,rc⟩:=p
 unfold AgBlk at h ⊢
 cases pa <;> cases na <;> cases ea <;> cases ra <;> exact h
def Ty (w:World) (v:Value) (T:TypeId):Prop:=∀ k,v.ownBlock=some k→∃ cur fz,w.heap[k]?=some (.cells cur T fz)
theorem Ty.ne {w:World} {u v:Value} {T T':TypeId} (h:Ty w u T) (h':Ty w v T') (hT:T≠T'):∀ k,u.ownBlock=some k→v.ownBlock≠some k:=fun k e1 e2=>by
 obtain ⟨c,f,q⟩:=h k e1
 obtain ⟨c',f',q'⟩:=h' k e2
 rw [q] at q'
 injection q' with q'
 injection q' with _ q'
 exact hT q'
theorem OwnB.ty {w:World} {B n:Nat} {v:Value} {L:List Bn} (h:OwnB w B v n L):Ty w v 166:=fun k e=>by
 rcases h.2 with ⟨e1,_⟩ | ⟨b,off,c,cur,e1,h1,h2,h3⟩
 ·rw [e1] at e;cases e
 ·rw [e1] at e
  obtain rfl:b=k:=Option.some.inj e
  exact ⟨_,_,h2⟩
theorem own_ty {w:World} {B n sz:Nat} {T:TypeId} {v:Value} {xs:List Value} (h:w.ownsRow B T sz v n xs):Ty w v T:=fun k e=>by
 rcases h.2 with ⟨e1,_⟩ | ⟨b,c,cur,e1,h1,h2,h3⟩
 ·rw [e1] at e;cases e
 ·rw [e1] at e
  obtain rfl:b=k:=Option.some.inj e
  exact ⟨_,_,h2⟩
theorem gS {w w':World} {r:Option Nat} (hg:w.grownBy w' r):GrownS w w' (fun k=>r=some k):=⟨hg.os,hg.tape,hg.output,hg.size,fun k hk hn=>hg.block k hk (fun e=>hn e.symm)⟩
theorem AgO.mP {w w':World} {B n k0:Nat} {g:Ag} {p:Pl} (h:AgO w B g p) (hn:n=g.P.length) (ho:OwnB w' B (.slice p.pa n p.pc) n (mkbs k0 n)) (hg:w.grownBy w' (Value.slice p.pa n p.pc).ownBlock):AgO w' B { g with P:=mkbs k0 n } p:=by
 subst hn
 have e:(mkbs k0 g.P.length).length=g.P.length:=mkbs_len _ _
 refine ⟨by show OwnB _ _ (.slice p.pa (mkbs k0 g.P.length).length p.pc) (mkbs k0 g.P.length).length _;rw [e];exact ho,h.N.keptS (gS hg) (fun k q1 q2=>h.ap k q2 q1),by show Apart (.slice p.pa (mkbs k0 g.P.length).length p.pc) _;rw [e];exact h.ap,h.E.keptS (gS hg) (fun k q1 q2=>Ty.ne (own_ty h.E.2) h.P.ty (by decide) k q1 q2),h.R.keptS (gS hg) (fun k q1 q2=>Ty.ne (own_ty h.R.2) h.P.ty (by decide) k q1 q2)⟩
theorem AgO.mN {w w':World} {B n k0:Nat} {g:Ag} {p:Pl} (h:AgO w B g p) (hn:n=g.N.length) (ho:OwnB w' B (.slice p.na n p.nc) n (mkbs k0 n)) (hg:w.grownBy w' (Value.slice p.na n p.nc).ownBlock):AgO w' B { g with N:=mkbs k0 n } p:=by
 subst hn
 have e:(mkbs k0 g.N.length).length=g.N.length:=mkbs_len _ _
 refine ⟨h.P.keptS (gS hg) (fun k q1 q2=>h.ap k q1 q2),by show OwnB _ _ (.slice p.na (mkbs k0 g.N.length).length p.nc) (mkbs k0 g.N.length).length _;rw [e];exact ho,by show Apart _ (.slice p.na (mkbs k0 g.N.length).length p.nc);rw [e];exact h.ap,h.E.keptS (gS hg) (fun k q1 q2=>Ty.ne (own_ty h.E.2) h.N.ty (by decide) k q1 q2),h.R.keptS (gS hg) (fun k q1 q2=>Ty.ne (own_ty h.R.2) h.N.ty (by decide) k q1 q2)⟩
theorem AgO.mE {w w':World} {B n k0:Nat} {g:Ag} {p:Pl} (h:AgO w B g p) (hn:n=g.E.length) (ho:OwnN .u64 25 w' B (.slice p.ea n p.ec) n (mkn k0 n)) (hg:w.grownBy w' (Value.slice p.ea n p.ec).ownBlock):AgO w' B { g with E:=mkn k0 n } p:=by
 subst hn
 have e:(mkn k0 g.E.length).length=g.E.length:=mkn_len _ _
 refine ⟨h.P.keptS (gS hg) (fun k q1 q2=>Ty.ne h.P.ty (own_ty h.E.2) (by decide) k q1 q2),h.N.keptS (gS hg) (fun k q1 q2=>Ty.ne h.N.ty (own_ty h.E.2) (by decide) k q1 q2),h.ap,by show OwnN _ _ _ _ (.slice p.ea (mkn k0 g.E.length).length p.ec) (mkn k0 g.E.length).length _;rw [e];exact ho,h.R.keptS (gS hg) (fun k q1 q2=>Ty.ne (own_ty h.R.2) (own_ty h.E.2) (by decide) k q1 q2)⟩
theorem AgO.mR {w w':World} {B n k0:Nat} {g:Ag} {p:Pl} (h:AgO w B g p) (hn:n=g.R.length) (ho:OwnN .i64 2 w' B (.slice p.ra n p.rc) n (mkn k0 n)) (hg:w.grownBy w' (Value.slice p.ra n p.rc).ownBlock):AgO w' B { g with R:=mkn k0 n } p:=by
 subst hn
 have e:(mkn k0 g.R.length).length=g.R.length:=mkn_len _ _
 refine ⟨h.P.keptS (gS hg) (fun k q1 q2=>Ty.ne h.P.ty (own_ty h.R.2) (by decide) k q1 q2),h.N.keptS (gS hg) (fun k q1 q2=>Ty.ne h.N.ty (own_ty h.R.2) (by decide) k q1 q2),h.ap,h.E.keptS (gS hg) (fun k q1 q2=>Ty.ne (own_ty h.E.2) (own_ty h.R.2) (by decide) k q1 q2),by show OwnN _ _ _ _ (.slice p.ra (mkn k0 g.R.length).length p.rc) (mkn k0 g.R.length).length _;rw [e];exact ho⟩
def CBlk (v:Value) (L:List Ce) (k:Nat):Prop:=v.ownBlock=some k∨∃ c∈L,AgBlk c.g c.p k
structure MkS (w W:World) (B:Nat) (v:Value) (L0 M:List Ce):Prop where
 r:OwnC W B v M
 o:CesO W B M
 g:GrownS w W (CBlk v L0)
theorem MkS.past {w W W':World} {B:Nat} {v:Value} {L0 M:List Ce} (h:MkS w W B v L0 M) (hb:Below W.heap.size W W'):MkS w W' B v L0 M:=⟨h.r.past hb,h.o.past hb,(h.g.trans (GrownS.ofBelow hb)).weak (fun k q=>q.elim id (fun f=>f.elim))⟩
theorem MkS.put1 {w W:World} {B gg cp n i j:Nat} {L0 M:List Ce} {c c':Ce} {u:Value} (h:MkS w W B (.slice (some ⟨gg,0,none⟩) n cp) L0 M) (hn:M.length=n) (hc:M[i]?=some c) (hj:j<15) (e:ceL c'=(ceL c).set j u) (hp:c'.p=c.p) (h1:c'.g.P=c.g.P) (h2:c'.g.N=c.g.N) (h3:c'.g.E=c.g.E) (h4:c'.g.R=c.g.R):MkS w (W.setCell ⟨gg,i*15+j,none⟩ u) B (.slice (some ⟨gg,0,none⟩) n cp) L0 (M.set i c'):=by
 have hg:W.grownBy (W.setCell ⟨gg,i*15+j,none⟩ u) (some gg):=⟨rfl,rfl,rfl,(KeepsWalks.setCell W _ u).size,fun a _ hk=>Below.heap_setCell _ _ _ a (fun e=>hk (by rw [e]))⟩
 have o1:CesO (W.setCell ⟨gg,i*15+j,none⟩ u) B M:=h.o.row h.r hg
 have ho:=(o1.o c (List.mem_of_getElem? hc)).re h1 h2 h3 h4
 refine ⟨h.r.put1 hn hc hj e,o1.upd hc (World.grownBy.refl _ none) (fun k q=>by cases q) (by rw [hp];exact blk_same) (by rw [hp];exact ho),(h.g.trans (gS hg)).weak (fun k q=>q.elim id (fun f=>.inl f))⟩
theorem MkS.lst {w W W':World} {B i:Nat} {v:Value} {L0 M:List Ce} {c:Ce} {g':Ag} {r:Option Nat} (h:MkS w W B v L0 M) (hc:M[i]?=some c) (hg:W.grownBy W' r) (hr:∀ k,r=some k→AgBlk c.g c.p k) (h0:∀ k,AgBlk c.g c.p k→∃ d∈L0,AgBlk d.g d.p k) (e:ceL ⟨c.n,c.s,g',c.p⟩=ceL c) (ho:AgO W' B g' c.p):MkS w W' B v L0 (M.set i ⟨c.n,c.s,g',c.p⟩):=by
 have hm:=List.mem_of_getElem? hc
 refine ⟨OwnC.re (World.ownsRow.kept h.r hg ?_) hc e,h.o.upd hc hg hr blk_same ho,(h.g.trans (gS hg)).weak (fun k q=>q.elim id (fun f=>.inr (h0 k (hr k f))))⟩
 cases q:v.ownBlock with
 | none=>exact .inl rfl
 | some j=>exact .inr (fun e=>h.r.ne (h.o.o c hm) j (hr j e.symm) q)
end Go.Proofs.YtiiclgcpagdekaaGreatDoor
