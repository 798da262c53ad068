/-
 Parts.
-/
import Derived.Test.YtdbaabbmcfnjbaaGreatDoorDWD
import Derived.Test.YtdbaabbmcfnjbaaGreatDoorDWF
set_option maxRecDepth 10000
set_option maxHeartbeats 4000000
set_option linter.all false
namespace Go.Proofs.YtdbaabbmcfnjbaaGreatDoor
open Go.ChangeShapes Go.WideShapes Go.ChangeAt Go.RowKit Go.PlainAid Go.Lib Go.Maps Tryz
theorem infoSn:(prog.info? 60).map (fun i=>(i.zero,i.size,i.bytes))=some (some (.agg #[.string ByteArray.empty,.slice none 0 0]),2,40):=by kernel_rfl
def pnB (L:List ByteArray) (a b:Int):Bool:=Qaj L && inB a 1 1000 && inB b 0 1000
def PnA (w:World) (L:List ByteArray) (a b:Int) (e:Ending) (w':World):Prop:=
 ∃ v R a' b',e=.returned (.agg #[v,.int .i64 a',.int .i64 b',.int .i64 0,.int .i64 0])/\(R,a',b')=(if pnB L a b then (L,a,b) else ([],0,0))/\OwnS w' w.heap.size v R/\Below w.heap.size w w'
variable {w w' wr:World}
variable {L:List ByteArray}
variable {a b:Int}
theorem Qn3 (h:pnB L a b=false) (hb:Below w.heap.size w w'):PnA w L a b (.returned (.agg #[.slice none 0 0,.int .i64 0,.int .i64 0,.int .i64 0,.int .i64 0])) w':=
 ⟨_,[],0,0,rfl,by rw [h];rfl,World.ownsRow_nil _ _ _ _,hb⟩
structure PnI (w wr:World) (g B:Nat) (L:List ByteArray) (a b:Int) (k:Nat) (v:Value):Prop where
 r:wr.ownsRow B 60 2 v k (fl Qsy (L.take k))
 x:wr.heap[g]?=some (.cells #[v,.int .i64 a,.int .i64 b,.int .i64 0,.int .i64 0] 35 (0,0))
 y:wr.heap[w.heap.size]?=some (.cells #[.slice none 0 0,.int .i64 0,.int .i64 0,.int .i64 0,.int .i64 0] 35 (0,0))
 b:Below w.heap.size w wr
 g0:w.heap.size<g
 g1:g<B
variable {B g k r:Nat}
variable {u:ByteArray}
theorem Qrv (h:L[k]?=some u):L.take (k+1)=L.take k ++ [u]:=by rw [List.take_add_one,h];rfl
variable {v:Value}
theorem PnI.step {w1:World} {v':Value} (h:PnI w wr g B L a b k v) (hu:L[k]?=some u) (hk:k<=L.length)
  (hown:w1.ownsRow B 60 2 v' (k+1) (fl Qsy (L.take k) ++ Qsy u)) (hg:(wr.alloc (.cells #[.string u,.slice none 0 0] 60)).grownBy w1 v.ownBlock) :
  PnI w (w1.setCell ⟨g,0,none⟩ v') g B L a b (k+1) v'/\w1.heap[g]?=some (.cells #[v,.int .i64 a,.int .i64 b,.int .i64 0,.int .i64 0] 35 (0,0)):=by
 have a1:Below wr.heap.size wr (wr.alloc (.cells #[.string u,.slice none 0 0] 60)):=(ZZb _ _).alloc (ZZa _) _;have aa:∀ j,v.ownBlock=some j->B<=j:=fun j hj=>(World.ownsRow.lt h.r j hj).1;have lg:=(ZZc.1 h.x).1;have ly:=(ZZc.1 h.y).1;have eg:=h.g0;have ab:=h.g1
 have x1:w1.heap[g]?=some (.cells #[v,.int .i64 a,.int .i64 b,.int .i64 0,.int .i64 0] 35 (0,0)):=by
  rw [hg.block g (Nat.lt_of_lt_of_le lg a1.size) (fun e=>by have:=aa g e.symm;omega),a1.block g lg];exact h.x
 have y1:w1.heap[w.heap.size]?=some (.cells #[.slice none 0 0,.int .i64 0,.int .i64 0,.int .i64 0,.int .i64 0] 35 (0,0)):=by
  rw [hg.block _ (Nat.lt_of_lt_of_le ly a1.size) (fun e=>by have:=aa _ e.symm;omega),a1.block _ ly];exact h.y
 have b1:Below w.heap.size w w1:=(Qac h.b a1).grown hg (Qac h.b a1).size (fun j hj=>by have:=aa j hj;omega);refine ⟨⟨?_,?_,?_,b1.setCell (show w.heap.size<=g by omega) _,h.g0,h.g1⟩,x1⟩
 ·rw [Qrv hu,QdK,QlC]
  refine World.ownsRow.kept hown (Qal _ _ _ _) ?_
  cases q:v'.ownBlock with
  | none=>exact .inl rfl
  | some j=>exact .inr (fun e=>by cases e;have:=(World.ownsRow.lt hown g q).1;omega)
 ·exact ZZl _ _ _ _ _ _ x1
 ·rw [Below.heap_setCell _ _ _ _ (by show w.heap.size≠g;omega)];exact y1
variable {T:TypeId}
theorem QsD {cs:Array Value} (h:w.heap[r]?=some (.cells cs T (0,0))) (j:Nat) (e:cs[j]?=some v):w.cell? ⟨r,j,none⟩=some v:=by rw [cell_of_row _ _ j _ _ (0,0) h];exact e
theorem QqY {u0 u1 u2 u3 u4:Value} (h:w.heap[r]?=some (.cells #[u0,u1,u2,u3,u4] T (0,0))) (v0 v1 v2 v3 v4:Value) :
  (((((w.setCell ⟨r,0,none⟩ v0).setCell ⟨r,1,none⟩ v1).setCell ⟨r,2,none⟩ v2).setCell ⟨r,3,none⟩ v3).setCell ⟨r,4,none⟩ v4).heap[r]?=some (.cells #[v0,v1,v2,v3,v4] T (0,0)):=
 ZZl _ r 4 _ _ v4 (ZZl _ r 3 _ _ v3 (ZZl _ r 2 _ _ v2 (ZZl _ r 1 _ _ v1 (ZZl _ r 0 _ _ v0 h))))
theorem QtY {j:Nat} (hj:j≠r) (v0 v1 v2 v3 v4:Value) :
  (((((w.setCell ⟨r,0,none⟩ v0).setCell ⟨r,1,none⟩ v1).setCell ⟨r,2,none⟩ v2).setCell ⟨r,3,none⟩ v3).setCell ⟨r,4,none⟩ v4).heap[j]?=w.heap[j]?:=by
 rw [Below.heap_setCell _ _ _ _ hj,Below.heap_setCell _ _ _ _ hj,Below.heap_setCell _ _ _ _ hj,Below.heap_setCell _ _ _ _ hj,Below.heap_setCell _ _ _ _ hj]
theorem PnI.fin (h:PnI w wr g B L a b L.length v) (hb:pnB L a b=true) (h2:∀ j,j≠w.heap.size->w'.heap[j]?=wr.heap[j]?) (h3:Below w.heap.size w w'):PnA w L a b (.returned (.agg #[v,.int .i64 a,.int .i64 b,.int .i64 0,.int .i64 0])) w':=by
 refine ⟨v,L,a,b,rfl,by rw [hb];rfl,?_,h3⟩;have r:=h.r;rw [List.take_of_length_le (Nat.le_refl _)] at r;have g0:=h.g0;have g1:=h.g1;refine OwnS.le (B:=B) ?_ (by omega);refine ⟨r.1,?_⟩;rcases r.2 with h | ⟨g,ab,aa,e,h1,h4,h5⟩
 ·exact .inl h
 ·exact .inr ⟨g,ab,aa,e,h1,by rw [h2 g (by omega)];exact h4,h5⟩
variable {ao:Option Addr}
theorem Qkv (cap:Nat) (a b:Int) (hl:L.length<=1048576) (hu:∀ u∈L,u.size<=1048576) (hA:Qaw w ao L) :
  Calls prog 10 #[.slice ao L.length cap,.int .i64 a,.int .i64 b] w (PnA w L a b):=by
 obtain ⟨i0,hi,av,ax,aA⟩:=info_parts infoSn;have HA:=Qaa hA;have HU:=Qaa hu;have B0:Hid (Below w.heap.size w (w.alloc (.cells #[.slice none 0 0,.int .i64 0,.int .i64 0,.int .i64 0,.int .i64 0] 35))):=(ZZb _ _).alloc (ZZa _) _;have Y0:=Qaa (ZZk w (.cells #[.slice none 0 0,.int .i64 0,.int .i64 0,.int .i64 0,.int .i64 0] 35));obtain ⟨N,hN⟩:∃ N,L.length=N:=⟨_,rfl⟩;have HN:=Qaa hN;have HL:Hid (N<=1048576):=by rw [<- hN];exact hl
 rw [hN];clear hA hu hN hl;go_enter func10,ntmps10;go_wp2_with fail;generalize w.alloc (.cells #[.slice none 0 0,.int .i64 0,.int .i64 0,.int .i64 0,.int .i64 0] 35)=W0 at B0 Y0 ⊢;rw [<- HN.out];refine (QcV cap (by rw [HN.out];exact HL.out) HU (QaB HA B0)).mono ?_;rintro e w1 ⟨rfl,ak⟩;rw [HN.out];have B1:=Qaa (Qac B0 ak);have Y1:Hid (w1.heap[w.heap.size]?=_):=(ak.block _ (ZZc.1 Y0).1).trans Y0;clear ak B0 Y0
 cases hm:Qaj L with
 | false=>
  have HP:Hid (pnB L a b=false):=by show _=_;unfold pnB;rw [hm];simp
  clear hm;obtain ⟨y0,y1,y2,y3,y4⟩:=cA5 Y1;obtain ⟨f0,f1,f2,f3,f4⟩:=fA5 Y1;go_wp2_with fail;have ab:=ZZa w.heap.size;have R5:=QqY Y1 (.slice none 0 0) (.int .i64 0) (.int .i64 0) (.int .i64 0) (.int .i64 0);obtain ⟨q0,q1,q2,q3,q4⟩:=cA5 R5;clear y0 y1 y2 y3 y4 f0 f1 f2 f3 f4;exact bodyPost_ret (v:=.agg #[.slice none 0 0,.int .i64 0,.int .i64 0,.int .i64 0,.int .i64 0]) (by simp [results,results10,go_sem,q0,q1,q2,q3,q4]) rfl (Qn3 HP (((((B1.out.setCell ab _).setCell ab _).setCell ab _).setCell ab _).setCell ab _))
 | true=>
  have HM:=Qaa hm;clear hm;go_wp2_with fail;refine (Qfw a 1 1000 _).mono ?_;rintro e w2 ⟨rfl,hw⟩;obtain rfl:=hw.symm;rw [show (decide (1<=a) && decide (a<=1000))=inB a 1 1000 from rfl]
  cases ha:inB a 1 1000 with
  | false=>
   have HP:Hid (pnB L a b=false):=by show _=_;unfold pnB;rw [ha];simp
   clear ha;obtain ⟨y0,y1,y2,y3,y4⟩:=cA5 Y1;obtain ⟨f0,f1,f2,f3,f4⟩:=fA5 Y1;go_wp2_with fail;have ab:=ZZa w.heap.size;have R5:=QqY Y1 (.slice none 0 0) (.int .i64 0) (.int .i64 0) (.int .i64 0) (.int .i64 0);obtain ⟨q0,q1,q2,q3,q4⟩:=cA5 R5;clear y0 y1 y2 y3 y4 f0 f1 f2 f3 f4;exact bodyPost_ret (v:=.agg #[.slice none 0 0,.int .i64 0,.int .i64 0,.int .i64 0,.int .i64 0]) (by simp [results,results10,go_sem,q0,q1,q2,q3,q4]) rfl (Qn3 HP (((((B1.out.setCell ab _).setCell ab _).setCell ab _).setCell ab _).setCell ab _))
  | true=>
   have aw:=Qaa ha;clear ha;go_wp2_with fail;refine (Qfw b 0 1000 _).mono ?_;rintro e w3 ⟨rfl,hw⟩;obtain rfl:=hw.symm;rw [show (decide (0<=b) && decide (b<=1000))=inB b 0 1000 from rfl]
   cases af:inB b 0 1000 with
   | false=>
    have HP:Hid (pnB L a b=false):=by show _=_;unfold pnB;rw [af];simp
    clear af;obtain ⟨y0,y1,y2,y3,y4⟩:=cA5 Y1;obtain ⟨f0,f1,f2,f3,f4⟩:=fA5 Y1;go_wp2_with fail;have ab:=ZZa w.heap.size;have R5:=QqY Y1 (.slice none 0 0) (.int .i64 0) (.int .i64 0) (.int .i64 0) (.int .i64 0);obtain ⟨q0,q1,q2,q3,q4⟩:=cA5 R5;clear y0 y1 y2 y3 y4 f0 f1 f2 f3 f4;exact bodyPost_ret (v:=.agg #[.slice none 0 0,.int .i64 0,.int .i64 0,.int .i64 0,.int .i64 0]) (by simp [results,results10,go_sem,q0,q1,q2,q3,q4]) rfl (Qn3 HP (((((B1.out.setCell ab _).setCell ab _).setCell ab _).setCell ab _).setCell ab _))
   | true=>
    have HP:Hid (pnB L a b=true):=by show _=_;unfold pnB;rw [af,aw.out,HM.out];rfl
    have aj:=(ZZc.1 Y1).1;have ah:Below w1.heap.size w1 (w1.alloc (.cells #[.slice none 0 0,.int .i64 a,.int .i64 b,.int .i64 0,.int .i64 0] 35)):=(ZZb _ _).alloc (ZZa _) _;have I0:Hid (PnI w (w1.alloc (.cells #[.slice none 0 0,.int .i64 a,.int .i64 b,.int .i64 0,.int .i64 0] 35)) w1.heap.size (w1.heap.size+1) L a b 0 (.slice none 0 0)):=⟨World.ownsRow_nil _ _ _ _,ZZk w1 _,(ah.block _ aj).trans Y1,Qac B1 ah,aj,Nat.lt_succ_self _⟩;clear af aj ah;go_wp2_with fail;generalize w1.alloc (.cells #[.slice none 0 0,.int .i64 a,.int .i64 b,.int .i64 0,.int .i64 0] 35)=W3 at I0 ⊢;generalize w1.heap.size=g at I0 ⊢
    go_loopw [8] (fun i wr=>∃ (k:Nat) (v:Value),k<=N/\i=.int .i64 k/\Hid (PnI w wr g (g+1) L a b k v)) (fun i wr=>N - (Go.RowKit.intOf i).toNat)
    case atStart=>exact ⟨0,_,ZZj _,rfl,I0⟩
    case round=>
     clear I0;obtain ⟨k,v,hk,rfl,HI⟩:=hrel;obtain ⟨va,vc,ev⟩:=Qag HI.out.r;subst ev;by_cases aF:k<N
     ·obtain ⟨bb,al,e,ad⟩:=HA.out (by have:=HN.out;omega)
      subst e;obtain ⟨u,ag⟩:∃ u,L[k]?=some u:=⟨L[k]'(by have:=HN.out;omega),ZZe _⟩;have hc:=Qab HI.out.b (ad k u ag);have af:bb<g+1:=by have:=World.block_lt_of_cell? _ _ (ad k u ag);have:=HI.out.g0;exact Nat.lt_trans ‹_› (Nat.lt_succ_of_lt ‹_›)
      have x0:=QsD HI.out.x 0 rfl;have az:(k:Int)<(N:Int):=by omega
      have HR:=Qaa HI.out.r;have HS:=Qaa (fun v' w1=>HI.out.step (v':=v') (w1:=w1) ag (by have:=HN.out;omega));have aD:=HL.out;have ar:g+1<=wr.heap.size:=(ZZc.1 HI.out.x).1;have aC:=Qaa (World.ownsRow.drew HR);clear ag ad;go_upto_region 7 with fail;have ae:(fun W=>Below (g+1) wr W) wr.drew:=(ZZb _ _).drew;refine Qao (fun W=>Below (g+1) wr W) 10 (by kernel_rfl) ?_;refine tkS 0 (.pointer (some ⟨g,0,none⟩)) ae ?_;refine tkL 1 (.slice va k vc) ae (fun W hW=>?_) ?_
      ·have q:=(hW.cell (p:=⟨g,0,none⟩) (Nat.lt_succ_self _)).trans x0
       clear hW;go_simp
      refine tkS 2 (.slice (some ⟨bb,al,none⟩) N cap) ae ?_;simp only [sX];refine tkS 3 (.int .i64 k) ae ?_;refine tkS 4 (.pointer (some ⟨bb,al+k,none⟩)) ae ?_;refine tkL 5 (.string u) ae (fun W hW=>?_) ?_
      ·have q:=(hW.cell (p:=⟨bb,al+k,none⟩) af).trans hc
       clear hW;go_simp
      simp only [sX];refine tkS 6 (.agg #[.string u,.slice none 0 0]) ae ?_;simp only [sX];have an:Hid (Below (g+1) wr (wr.alloc (.cells #[.string u,.slice none 0 0] 60)).drew):=((ZZb _ _).alloc ar _).drew;refine onE 7 fun K hK=>?_;go_simp;refine gK hK an.out ?_
      try simp only [sX]
      refine onE 8 fun K hK=>?_;rw [if_pos (by rfl)];refine wp_append_own _ (.tmp 33) (.tmp 39) 33 rfl (g+1) 60 i0 (.agg #[.string ByteArray.empty,.slice none 0 0]) 2 40 underlying33 hi av ax aA rfl (by decide) _ _ _ rfl (World.ownsRow.drew (World.ownsRow.alloc HR _)) ⟨wr.heap.size,0,none⟩ 1 1 (Qsy u) rfl rfl (Qav (cs:=#[.string u,.slice none 0 0]) rfl) (Qqp _) (by unfold maxLen;omega) (by omega) (by simp;omega) ?_;intro v' w1 ac aa ai;obtain ⟨hn,am⟩:=HS.out v' w1 ac ⟨aa.os,aa.tape,aa.output,aa.size,aa.block⟩;have au:=Qaa hn;have c0:=QsD am 0 rfl;have f0:=fzR 0 am;have aq:Hid (Below (g+1) wr w1):=an.out.grown aa (Nat.le_trans ar an.out.size) (fun j hj=>(World.ownsRow.lt HR j hj).1);obtain ⟨aE,aB,ay⟩:=Qag ac;subst ay;clear ac aa ai am hn hc;refine gK hK aq.out ?_
      try simp only [sX]
      refine tkS 9 (.pointer (some ⟨g,0,none⟩)) aq ?_;simp only [sX];refine onE 10 fun K hK=>?_;go_simp;refine hK.out _ _ (fun h=>absurd rfl h) ?_
      try simp only [sX]
      refine dnE ?_ _;clear c0 f0;go_wp2;go_roundw
      case rel=>exact ⟨k+1,_,by omega,by go_num,au⟩
      case measure=>simp [zI];omega
     ·obtain rfl:k=N:=by omega
      obtain ⟨x0,x1,x2,x3,x4⟩:=cA5 HI.out.x;obtain ⟨y0,y1,y2,y3,y4⟩:=cA5 HI.out.y;obtain ⟨f0,f1,f2,f3,f4⟩:=fA5 HI.out.y;go_wp2_with fail;clear x0 x1 x2 x3 x4 y0 y1 y2 y3 y4 f0 f1 f2 f3 f4;have ab:=ZZa w.heap.size;have R5:=QqY HI.out.y (.slice va k vc) (.int .i64 a) (.int .i64 b) (.int .i64 0) (.int .i64 0);obtain ⟨q0,q1,q2,q3,q4⟩:=cA5 R5;refine bodyPost_ret (v:=.agg #[.slice va k vc,.int .i64 a,.int .i64 b,.int .i64 0,.int .i64 0]) (by simp [results,results10,go_sem,q0,q1,q2,q3,q4]) rfl ?_;have ap:=HI.out;rw [<- HN.out] at ap ⊢;exact ap.fin HP (fun j hj=>QtY hj _ _ _ _ _) (((((HI.out.b.setCell ab _).setCell ab _).setCell ab _).setCell ab _).setCell ab _)
section
def CodeAt (W:World) (B:Nat) (ao:Option Addr) (ln:Nat):Prop:=
 ln<=1048576/\(0<ln->∃ b off,ao=some ⟨b,off,none⟩/\b<B/\∀ i,i<ln->∃ x:Int,W.cell? ⟨b,off+i,none⟩=some (.int .u8 x)/\0<=x/\x<=255)
end
section
end
section
def isI:Value->Bool
 | .int .i64 y=>decide (-9223372036854775808<=y) && decide (y<=9223372036854775807)
 | _=>false
def allI (cs:Array Value):Bool:=cs.toList.all isI
def isS (m:Nat):Value->Bool
 | .string u=>decide (u.size<=m)
 | _=>false
end
section
end
section
section
variable {W:World} {B ln cap s:Nat} {ao:Option Addr} {w wr:World} {v:Value} {L:List ByteArray}
end
end
section
end
section
end
section
section
variable {W:World} {B ln cap s:Nat} {ao:Option Addr} {w wr:World} {b:Nat} {x:Sx}
end
end
section
end
section
end
section
def lwF (w:World) (ao:Option Addr) (ln k:Nat) (m:Int):Int:=if ln=0 then 0 else match ao with
 | some a=>match w.cell? ⟨a.block,a.off+k % ln,none⟩ with
  | some (.int .u8 x)=>Int.tmod x m
  | _=>0
 | none=>0
end
section
end
def GdK (k:Int) (KM:List (ByteArray×List (Int×ByteArray×Ag))):Prop:=KM.length<=14/\∀ x∈KM,x.1.size<=1048576/\(x.2.length:Int)<=300+k/\∀ c∈x.2,AgOk c.2.2/\AgSm c.2.2/\c.2.1.size<=maxLen
def PcB (k:Int) (p:Pi):Prop:=-1<=p.c/\p.c<=1000000001/\0<=p.d/\p.d<=1000000001+k
theorem GdK.weak1 {KM:List (ByteArray×List (Int×ByteArray×Ag))} (h:GdK 0 KM):GdK 1 KM:=⟨h.1,fun x hx=>⟨(h.2 x hx).1,by have:=(h.2 x hx).2.1;omega,(h.2 x hx).2.2⟩⟩
variable {M:List Sd}
theorem GdK.sh {k:Int} (h:GdK k (M.map Sd.key)) {s:Sd} (hs:s∈M):s.nm.size<=1048576/\(s.L.length:Int)<=300+k/\∀ c∈s.L,AgOk c.g/\AgSm c.g/\c.s.size<=maxLen:=by
 obtain ⟨h1,h2,h3⟩:=h.2 s.key (List.mem_map_of_mem hs);refine ⟨h1,by simpa [Sd.key] using h2,fun c hc=>h3 c.key (List.mem_map_of_mem hc)⟩
theorem GdK.pp {k:Int} (hk:k<=1) {B' n cp:Nat} (h:GdK k (M.map Sd.key)) (r:OwnD w B (.slice ao n cp) M) (o:LvO w B' M):PpI w ao n M:=
 ⟨QhL r,⟨by have:=h.1;rw [List.length_map] at this;omega,fun s hs=>by have:=(h.sh hs).2.1;omega,fun s hs c hc=>((h.sh hs).2.2 c hc).2.1,fun s hs=>(h.sh hs).1⟩,fun s hs c hc=>⟨((h.sh hs).2.2 c hc).1,((h.sh hs).2.2 c hc).2.2,o.plg s hs c hc⟩,r.at o⟩
section
variable {K:Int} {W w wr w1:World} {B ln cap s b n cp n' cp' B2:Nat} {ao ax ax':Option Addr} {p q:Pi} {M M':List Sd}
end
end Go.Proofs.YtdbaabbmcfnjbaaGreatDoor
