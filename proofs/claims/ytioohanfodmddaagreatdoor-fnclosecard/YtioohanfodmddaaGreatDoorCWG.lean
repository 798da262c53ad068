/-
 Parts.
-/
import Derived.Test.YtioohanfodmddaaGreatDoorCWF
set_option maxRecDepth 10000
set_option maxHeartbeats 16000000
set_option linter.all false
namespace Go.Proofs.YtioohanfodmddaaGreatDoor
open Go.ChangeShapes Go.WideShapes Go.ChangeAt Go.RowKit Go.PlainAid Go.Lib Go.Maps Tryz
theorem mAm {p:Prop} (h:p:=by
 have ag:=Qaa (HC.out _ (ZZb _ _)).1;obtain ⟨x0,x1,x2,x3,x4,x5,x6,x7,x8,x9,am,ai,aj⟩:=Qde ag;obtain ⟨y0,y1,y2,y3,y4,y5,y6⟩:=QeD (HC.out _ (ZZb _ _)).2.1;go_wp2_with fail;clear x0 x1 x2 x3 x4 x5 x6 x7 x8 x9 am ai aj y0 y1 y2 y3 y4 y5 y6;refine (Qdq SM PL (QaD HA ad)).mono ?_;rintro e wc ⟨vc,oc,rfl,ac,⟨pc,rfl,hO⟩,aa⟩;have HO:=Qaa hO;have al:=Qaa ac;have ae:=Qaa (Qac ad aa);have ab:=Qaa (HC.out _ aa).2.2;have az:=ad.size;clear hO aa ac;obtain ⟨q0,q1,q2,q3,q4,q5,q6,q7,q8,q9,ah,ak,af⟩:=Qde ab;obtain ⟨f0,f1,f2,f3,f4,f5,f6,f7,f8,f9,ax,aw,av⟩:=Qhr ab;go_wp2;refine bodyPost_ret (v:=.agg (Qau oc pc)) (by simp [results,results50,go_sem,q0,q1,q2,q3,q4,q5,q6,q7,q8,q9,ah,ak,af]) rfl (AgRes.mk (o:=oc) (p:=pc) (Qqh al HQ) ?_ ?_)
 ·refine AgO.le (B:=w2.heap.size) ?_ oB
  repeat (refine AgO.below ?_ oB _)
  exact HO.out
 ·repeat (refine Below.setCell ?_ oJ _)
  exact ae.out):p:=h
theorem mAn {p:Prop} (h:p:=by obtain ⟨y0,y1,y2,y3,y4⟩:=cA5 Y1;obtain ⟨f0,f1,f2,f3,f4⟩:=fA5 Y1;go_wp2_with fail;have aa:=ZZa w.heap.size;have R5:=QpR Y1 (.slice none 0 0) (.int .i64 0) (.int .i64 0) (.int .i64 0) (.int .i64 0);obtain ⟨q0,q1,q2,q3,q4⟩:=cA5 R5;clear y0 y1 y2 y3 y4 f0 f1 f2 f3 f4;exact bodyPost_ret (v:=.agg zAd) (by simp [results,results43,go_sem,q0,q1,q2,q3,q4]) rfl (Qqt HP (((((B1.setCell aa _).setCell aa _).setCell aa _).setCell aa _).setCell aa _))):p:=h
theorem mC3 {p:Prop} (h:p:=by
 unfold Qf5
 split
 ·rename_i h
  exact ⟨by show -1<=p.c+n;have:=hp.1;omega,by show p.c+n<=1000000001;omega,hp.2.2⟩
 ·exact hp):p:=h
theorem infoSn:(prog.info? 71).map (fun i=>(i.zero,i.size,i.bytes))=some (some (.agg zAe),2,40):=oG
def pnB (L:List ByteArray) (a b:Int):Bool:=Qaj L && inB a 1 1000 && inB b 0 1000
def PnA (w:World) (L:List ByteArray) (a b:Int) (e:Ending) (w':World):Prop:=
 ∃ v R a' b',e=.returned (.agg #[v,.int .i64 a',.int .i64 b',.int .i64 0,.int .i64 0])/\(R,a',b')=(if pnB L a b then (L,a,b) else ([],0,0))/\OwnS w' w.heap.size v R/\Bw w w'
variable {w w' wr:World}
variable {L R:List ByteArray}
variable {a b:Int}
theorem Qqt (h:pnB L a b=false) (hb:Bw w w'):PnA w L a b (.returned (.agg zAd)) w':=
 ⟨_,[],0,0,rfl,by rw [h];rfl,World.ownsRow_nil _ _ _ _,hb⟩
structure PnI (w wr:World) (g B:Nat) (L:List ByteArray) (a b:Int) (k:Nat) (v:Value):Prop where
 r:wr.ownsRow B 71 2 v k (fl Qtr (L.take k))
 x:wr.heap[g]?=some (.cells #[v,.int .i64 a,.int .i64 b,.int .i64 0,.int .i64 0] 25 (0,0))
 y:wr.heap[w.heap.size]?=some (.cells zAd 25 (0,0))
 b:Bw w wr
 g0:w.heap.size<g
 g1:g<B
variable {B g j k r:Nat}
variable {u:ByteArray}
theorem Qs3 (h:L[k]?=some u):L.take (k+1)=L.take k ++ [u]:=by rw [List.take_add_one,h];rfl
variable {u0 u1 u2 u3 u4 v:Value}
theorem PnI.step {w1:World} {v':Value} (h:PnI w wr g B L a b k v) (hu:L[k]?=some u) (hk:k<=L.length)
  (hown:w1.ownsRow B 71 2 v' (k+1) (fl Qtr (L.take k) ++ Qtr u)) (hg:(wr.alloc (.cells #[.string u,.slice none 0 0] 71)).grownBy w1 v.ownBlock) :
  PnI w (w1.setCell ⟨g,0,none⟩ v') g B L a b (k+1) v'/\w1.heap[g]?=some (.cells #[v,.int .i64 a,.int .i64 b,.int .i64 0,.int .i64 0] 25 (0,0)):=by
 have a1:Bw wr (wr.alloc (.cells #[.string u,.slice none 0 0] 71)):=bAA;have aa:∀ j,v.ownBlock=some j->B<=j:=fun j hj=>(World.ownsRow.lt h.r j hj).1;have lg:=(ZZc.1 h.x).1;have ly:=(ZZc.1 h.y).1;have eg:=h.g0;have ab:=h.g1
 have x1:w1.heap[g]?=some (.cells #[v,.int .i64 a,.int .i64 b,.int .i64 0,.int .i64 0] 25 (0,0)):=by
  rw [hg.block g (Nat.lt_of_lt_of_le lg a1.size) (fun e=>by have:=aa g e.symm;omega),a1.block g lg];exact h.x
 have y1:w1.heap[w.heap.size]?=some (.cells zAd 25 (0,0)):=by
  rw [hg.block _ (Nat.lt_of_lt_of_le ly a1.size) (fun e=>by have:=aa _ e.symm;omega),a1.block _ ly];exact h.y
 have b1:Bw w w1:=(Qac h.b a1).grown hg (Qac h.b a1).size (fun j hj=>by have:=aa j hj;omega);refine ⟨⟨?_,?_,?_,b1.setCell (show w.heap.size<=g by omega) _,h.g0,h.g1⟩,x1⟩
 ·rw [Qs3 hu,Qip,Qrq]
  refine World.ownsRow.kept hown (Qah _ _ _ _) ?_
  cases q:v'.ownBlock with
  | none=>exact .inl rfl
  | some j=>exact .inr (fun e=>by cases e;have:=(World.ownsRow.lt hown g q).1;omega)
 ·exact ZZl _ _ _ _ _ _ x1
 ·rw [Below.heap_setCell _ _ _ _ (by show w.heap.size≠g;omega)];exact y1
variable {T:TypeId}
theorem QtA {cs:Array Value} (h:w.heap[r]?=some (.cells cs T (0,0))) (j:Nat) (e:cs[j]?=some v):w.cell? ⟨r,j,none⟩=some v:=by rw [cell_of_row _ _ j _ _ (0,0) h];exact e
theorem QpR (h:w.heap[r]?=some (.cells #[u0,u1,u2,u3,u4] T (0,0))) (v0 v1 v2 v3 v4:Value) :
  (((((w.setCell ⟨r,0,none⟩ v0).setCell ⟨r,1,none⟩ v1).setCell ⟨r,2,none⟩ v2).setCell ⟨r,3,none⟩ v3).setCell ⟨r,4,none⟩ v4).heap[r]?=some (.cells #[v0,v1,v2,v3,v4] T (0,0)):=
 ZZl _ r 4 _ _ v4 (ZZl _ r 3 _ _ v3 (ZZl _ r 2 _ _ v2 (ZZl _ r 1 _ _ v1 (ZZl _ r 0 _ _ v0 h))))
theorem Qqa (hj:j≠r) (v0 v1 v2 v3 v4:Value) :
  (((((w.setCell ⟨r,0,none⟩ v0).setCell ⟨r,1,none⟩ v1).setCell ⟨r,2,none⟩ v2).setCell ⟨r,3,none⟩ v3).setCell ⟨r,4,none⟩ v4).heap[j]?=w.heap[j]?:=by
 rw [Below.heap_setCell _ _ _ _ hj,Below.heap_setCell _ _ _ _ hj,Below.heap_setCell _ _ _ _ hj,Below.heap_setCell _ _ _ _ hj,Below.heap_setCell _ _ _ _ hj]
theorem PnI.fin (h:PnI w wr g B L a b L.length v) (hb:pnB L a b=true) (h2:∀ j,j≠w.heap.size->w'.heap[j]?=wr.heap[j]?) (h3:Bw w w'):PnA w L a b (.returned (.agg #[v,.int .i64 a,.int .i64 b,.int .i64 0,.int .i64 0])) w':=by
 refine ⟨v,L,a,b,rfl,by rw [hb];rfl,?_,h3⟩;have r:=h.r;rw [List.take_of_length_le (Nat.le_refl _)] at r;have g0:=h.g0;have g1:=h.g1;refine OwnS.le (B:=B) ?_ oB;refine ⟨r.1,?_⟩;rcases r.2 with h | ⟨g,aa,ab,e,h1,h4,h5⟩
 ·exact .inl h
 ·exact .inr ⟨g,aa,ab,e,h1,by rw [h2 g oB];exact h4,h5⟩
variable {ao:Option Addr}
theorem QlX (cap:Nat) (a b:Int) (hl:L.length<=1048576) (hu:∀ u∈L,u.size<=1048576) (hA:Qat w ao L) :
  Calls prog 43 #[.slice ao L.length cap,.int .i64 a,.int .i64 b] w (PnA w L a b):=by
 obtain ⟨i0,hi,aA,av,ax⟩:=info_parts infoSn;have HA:=Qaa hA;have HU:=Qaa hu;have B0:Hid (Bw w (w.alloc (.cells zAd 25))):=bAA;have Y0:=Qaa (ZZk w (.cells zAd 25));obtain ⟨N,hN⟩:∃ N,L.length=N:=⟨_,rfl⟩;have HN:=Qaa hN;have HL:Hid (N<=1048576):=by rw [<- hN];exact hl
 rw [hN];clear hA hu hN hl;go_enter func43,ntmps43;go_wp2_with fail;generalize w.alloc _=W0 at B0 Y0 ⊢;rw [<- HN.out];refine (Qc9 cap (by rw [HN.out];exact HL.out) HU (QaA HA B0)).mono ?_;rintro e w1 ⟨rfl,aj⟩;rw [HN.out];have B1:=Qaa (Qac B0 aj);have Y1:Hid (w1.heap[w.heap.size]?=_):=(aj.block _ (ZZc.1 Y0).1).trans Y0;clear aj B0 Y0
 cases hm:Qaj L with
 | false=>
  have HP:Hid (pnB L a b=false):=by show _=_;unfold pnB;rw [hm];simp
  clear hm;exact mAn
 | true=>
  have HM:=Qaa hm;clear hm;go_wp2_with fail;refine (Qga a 1 1000 _).mono ?_;rintro e w2 ⟨rfl,hw⟩;obtain rfl:=hw.symm;rw [show (decide (1<=a) && decide (a<=1000))=inB a 1 1000 from rfl]
  cases ha:inB a 1 1000 with
  | false=>
   have HP:Hid (pnB L a b=false):=by show _=_;unfold pnB;rw [ha];simp
   clear ha;exact mAn
  | true=>
   have au:=Qaa ha;clear ha;go_wp2_with fail;refine (Qga b 0 1000 _).mono ?_;rintro e w3 ⟨rfl,hw⟩;obtain rfl:=hw.symm;rw [show (decide (0<=b) && decide (b<=1000))=inB b 0 1000 from rfl]
   cases af:inB b 0 1000 with
   | false=>
    have HP:Hid (pnB L a b=false):=by show _=_;unfold pnB;rw [af];simp
    clear af;exact mAn
   | true=>
    have HP:Hid (pnB L a b=true):=by show _=_;unfold pnB;rw [af,au.out,HM.out];rfl
    have ah:=(ZZc.1 Y1).1;have am:Bw w1 (w1.alloc (.cells #[.slice none 0 0,.int .i64 a,.int .i64 b,.int .i64 0,.int .i64 0] 25)):=bAA;have I0:Hid (PnI w (w1.alloc (.cells #[.slice none 0 0,.int .i64 a,.int .i64 b,.int .i64 0,.int .i64 0] 25)) w1.heap.size (w1.heap.size+1) L a b 0 (.slice none 0 0)):=⟨World.ownsRow_nil _ _ _ _,ZZk w1 _,(am.block _ ah).trans Y1,Qac B1 am,ah,Nat.lt_succ_self _⟩;clear af ah am;go_wp2_with fail;generalize w1.alloc _=W3 at I0 ⊢;generalize w1.heap.size=g at I0 ⊢
    go_loopw [8] (fun i wr=>∃ (k:Nat) (v:Value),k<=N/\i=.int .i64 k/\Hid (PnI w wr g (g+1) L a b k v)) (fun i wr=>N - (Go.RowKit.intOf i).toNat)
    case atStart=>exact ⟨0,_,ZZj _,rfl,I0⟩
    case round=>
     clear I0;obtain ⟨k,v,hk,rfl,HI⟩:=hrel;obtain ⟨va,vc,ev⟩:=Qan HI.r;subst ev;by_cases aB:k<N
     ·obtain ⟨bb,an,e,ac⟩:=HA.out (oA HN.out)
      subst e;obtain ⟨u,ag⟩:∃ u,L[k]?=some u:=⟨L[k]'(oA HN.out),ZZe _⟩;have hc:=Qab HI.b (ac k u ag);have af:bb<g+1:=by have:=World.block_lt_of_cell? _ _ (ac k u ag);have:=HI.g0;exact Nat.lt_trans ‹_› (Nat.lt_succ_of_lt ‹_›)
      have x0:=QtA HI.x 0 rfl;have az:(k:Int)<(N:Int):=oB
      have HR:=Qaa HI.r;have HS:=Qaa (fun v' w1=>HI.step (v':=v') (w1:=w1) ag (oA HN.out));have aC:=HL.out;have ar:g+1<=wr.heap.size:=(ZZc.1 HI.x).1;have aF:=Qaa (World.ownsRow.drew HR);clear ag ac;go_upto_region 7 with fail;have ae:(fun W=>Below (g+1) wr W) wr.drew:=(ZZb _ _).drew;refine Qal (fun W=>Below (g+1) wr W) 10 oG ?_;refine tkS 0 (.pointer (some ⟨g,0,none⟩)) ae ?_;refine tkL 1 (.slice va k vc) ae (fun W hW=>?_) ?_
      ·have q:=(hW.cell (p:=⟨g,0,none⟩) (Nat.lt_succ_self _)).trans x0
       exact mAo
      refine tkS 2 (.slice (some ⟨bb,an,none⟩) N cap) ae ?_;simp only [sX];refine tkS 3 (.int .i64 k) ae ?_;refine tkS 4 (.pointer (some ⟨bb,an+k,none⟩)) ae ?_;refine tkL 5 (.string u) ae (fun W hW=>?_) ?_
      ·have q:=(hW.cell (p:=⟨bb,an+k,none⟩) af).trans hc
       exact mAo
      simp only [sX];refine tkS 6 (.agg #[.string u,.slice none 0 0]) ae ?_;simp only [sX];have al:Hid (Below (g+1) wr (wr.alloc (.cells #[.string u,.slice none 0 0] 71)).drew):=((ZZb _ _).alloc ar _).drew;refine onE 7 fun K hK=>?_;go_simp;refine gK hK al.out ?_
      try simp only [sX]
      refine onE 8 fun K hK=>?_;rw [if_pos oR];refine wp_append_own _ (.tmp 33) (.tmp 39) 23 rfl (g+1) 71 i0 (.agg zAe) 2 40 underlying23 hi aA av ax rfl oF _ _ _ rfl (World.ownsRow.drew (World.ownsRow.alloc HR _)) ⟨wr.heap.size,0,none⟩ 1 1 (Qtr u) rfl rfl (Qav (cs:=#[.string u,.slice none 0 0]) rfl) (Qsi _) oC oB oH ?_;intro v' w1 ad ab ak;obtain ⟨hn,ai⟩:=HS.out v' w1 ad ⟨ab.os,ab.tape,ab.output,ab.size,ab.block⟩;have ay:=Qaa hn;have c0:=QtA ai 0 rfl;have f0:=fzR 0 ai;have aq:Hid (Below (g+1) wr w1):=al.grown ab (Nat.le_trans ar al.size) (fun j hj=>(World.ownsRow.lt HR j hj).1);obtain ⟨aD,aE,aw⟩:=Qan ad;subst aw;clear ad ab ak ai hn hc;refine gK hK aq.out ?_
      try simp only [sX]
      refine tkS 9 (.pointer (some ⟨g,0,none⟩)) aq ?_;simp only [sX];refine onE 10 fun K hK=>?_;go_simp;refine hK.out _ _ (fun h=>absurd rfl h) ?_
      try simp only [sX]
      refine dnE ?_ _;clear c0 f0;go_wp2;go_roundw
      case rel=>exact ⟨k+1,_,by omega,by go_num,ay⟩
      case measure=>simp [zI];omega
     ·obtain rfl:k=N:=by omega
      obtain ⟨x0,x1,x2,x3,x4⟩:=cA5 HI.x;obtain ⟨y0,y1,y2,y3,y4⟩:=cA5 HI.y;obtain ⟨f0,f1,f2,f3,f4⟩:=fA5 HI.y;go_wp2_with fail;clear x0 x1 x2 x3 x4 y0 y1 y2 y3 y4 f0 f1 f2 f3 f4;have aa:=ZZa w.heap.size;have R5:=QpR HI.y (.slice va k vc) (.int .i64 a) (.int .i64 b) (.int .i64 0) (.int .i64 0);obtain ⟨q0,q1,q2,q3,q4⟩:=cA5 R5;refine bodyPost_ret (v:=.agg #[.slice va k vc,.int .i64 a,.int .i64 b,.int .i64 0,.int .i64 0]) (by simp [results,results43,go_sem,q0,q1,q2,q3,q4]) rfl ?_;have ap:=HI.out;rw [<- HN.out] at ap ⊢;exact ap.fin HP (fun j hj=>Qqa hj _ _ _ _ _) (((((HI.b.setCell aa _).setCell aa _).setCell aa _).setCell aa _).setCell aa _)
def GdK (k:Int) (KM:List (ByteArray×List (Int×ByteArray×Ag))):Prop:=KM.length<=14/\∀ x∈KM,x.1.size<=1048576/\(x.2.length:Int)<=300+k/\∀ c∈x.2,AgOk c.2.2/\AgSm c.2.2/\c.2.1.size<=maxLen
def PcB (k:Int) (p:Pi):Prop:=-1<=p.c/\p.c<=1000000001/\0<=p.d/\p.d<=1000000001+k
variable {p q:Pi}
theorem PcB.weak1 (h:PcB 0 p):PcB 1 p:=⟨h.1,h.2.1,h.2.2.1,by have:=h.2.2.2;omega⟩
variable {KM:List (ByteArray×List (Int×ByteArray×Ag))}
theorem GdK.weak1 (h:GdK 0 KM):GdK 1 KM:=⟨h.1,fun x hx=>⟨(h.2 x hx).1,by have:=(h.2 x hx).2.1;omega,(h.2 x hx).2.2⟩⟩
variable {M S:List Sd}
theorem GdK.sh {k:Int} (h:GdK k (M.map Sd.key)) {s:Sd} (hs:s∈M):s.nm.size<=1048576/\(s.L.length:Int)<=300+k/\∀ c∈s.L,AgOk c.g/\AgSm c.g/\c.s.size<=maxLen:=by
 obtain ⟨h1,h2,h3⟩:=h.2 s.key (List.mem_map_of_mem hs);refine ⟨h1,by simpa [Sd.key] using h2,fun c hc=>h3 c.key (List.mem_map_of_mem hc)⟩
theorem GdK.pp {k:Int} (hk:k<=1) {B' n cp:Nat} (h:GdK k (M.map Sd.key)) (r:OwnD w B (.slice ao n cp) M) (o:LvO w B' M):PpI w ao n M:=
 ⟨Qc7 r,⟨by have:=h.1;rw [yA] at this;omega,fun s hs=>by have:=(h.sh hs).2.1;omega,fun s hs c hc=>((h.sh hs).2.2 c hc).2.1,fun s hs=>(h.sh hs).1⟩,fun s hs c hc=>⟨((h.sh hs).2.2 c hc).1,((h.sh hs).2.2 c hc).2.2,o.plg s hs c hc⟩,r.at o⟩
variable {KC:List (Int×ByteArray×Ag)}
theorem LiR.good (g:GdK 0 (S.map Sd.key)) (hp:PcB 0 p) (h:LiR S p q KM KC 0):GdK 0 KM/\PcB 0 q:=by
 rcases h.2 with ⟨h,_⟩ | ⟨_,_,rfl,hn,hg⟩
 ·exact absurd rfl h
 ·have hl:=congrArg List.length hn
  rw [yA,yA] at hl;have aa:=g.1;rw [yA] at aa;refine ⟨⟨by omega,fun x hx=>?_⟩,hp⟩;obtain ⟨s,hs,e⟩:=List.mem_map.1 (hn ▸ List.mem_map_of_mem hx:x.1∈S.map Sd.nm);exact ⟨by rw [<- e];exact (g.sh hs).1,by have:=(hg x hx).1;omega,(hg x hx).2⟩
theorem ClR.good (g:GdK 0 (S.map Sd.key)) (hp:PcB 0 p) (h:ClR S p q KM KC 0):GdK 0 KM/\PcB 0 q:=by
 unfold ClR at h
 split at h
 ·exact absurd h.1 oF
 ·rename_i c1
  split at h
  ·exact absurd h.1 oF
  ·obtain ⟨_,rfl,rfl,_⟩:=h
   have ab:Qbq S p=true:=by cases q:Qbq S p;exact absurd q c1;rfl
   obtain ⟨_,_,_,_,_,_,d1,d2⟩:=Qci ab;have aa:=g.1;rw [yA] at aa;refine ⟨⟨by rw [yA];exact aa,fun x hx=>?_⟩,hp.1,hp.2.1,by show 0<=p.d+1;omega,by show p.d+1<=1000000001+0;omega⟩;obtain ⟨s,hs,rfl⟩:=List.mem_map.1 hx;obtain ⟨a1,a2,a3⟩:=g.sh hs;refine ⟨a1,?_,fun c hc=>?_⟩
   ·show ((((s.L.filter _).map Ce.key).length:Nat):Int)<=300+0
    rw [yA];have:=List.length_filter_le (fun c=>!isW p.d c) s.L;omega
   ·obtain ⟨d,hd,rfl⟩:=List.mem_map.1 hc
    exact a3 d (List.mem_filter.1 hd).1
theorem JnR.good {mm:ByteArray} (g:GdK 0 (S.map Sd.key)) (hp:PcB 0 p) (hm:mm.size<=1048576) (h:JnR S p mm q KM KC 0):GdK 0 KM/\PcB 0 q:=by
 have h:=h.1;unfold MbR at h
 split at h
 ·rename_i c;exact absurd h.1.symm c
 ·split at h
  ·exact absurd h.1 oF
  ·split at h
   ·exact absurd h.1 oF
   ·rename_i c0 _ c8
    obtain ⟨_,rfl,L,_,pm,rfl⟩:=h
    have ab:Qbq S q=true:=by
     cases e:Qbq S q with
     | true=>rfl
     | false=>
      refine absurd ?_ c0;unfold mfC
      split
      ·decide
      ·rw [if_pos (.inl e)];decide
    have ac:S.length<12:=by simpa using c8
    have hl:=pm.length_eq;rw [yA,yA] at hl
    have la:(QaK S).length<=60:=by
     have h:=(QaP ab).2.l;have e:(fcS S).length=(QaK S).length:=by unfold QaK fcS;simp [List.length_flatMap]
     omega
    refine ⟨⟨by rw [yA];exact Qv2 _ _ 14 (by rw [yA];omega),fun x hx=>?_⟩,hp⟩;obtain ⟨u,hu,rfl⟩:=List.mem_map.1 hx;refine ⟨?_,?_,fun c hc=>?_⟩
    ·rcases mem_insT.1 hu with rfl | hu
     ·exact hm
     ·obtain ⟨s,hs,rfl⟩:=List.mem_map.1 hu
      exact (g.sh hs).1
    ·show ((((L.filter _).map Ce.key).length:Nat):Int)<=300+0
     rw [yA];have:=List.length_filter_le (Qd5 (QcI (S.map Sd.nm) mm) u) L;omega
    ·obtain ⟨d,hd,rfl⟩:=List.mem_map.1 hc
     have hm:d.key∈(QaK S).map Ce.key:=pm.mem_iff.1 (List.mem_map_of_mem (List.mem_filter.1 hd).1);obtain ⟨f,hf,e⟩:=List.mem_map.1 hm;obtain ⟨s,hs,aa⟩:=Qbt hf;have:=(g.sh hs).2.2 f aa;rw [<- e];exact this
theorem Qrs {n:Int} (hp:PcB 0 p):PcB 0 (Qf5 S p n):=by
 exact mC3
theorem Qpq (W:World) (G:Nat) (a b c d e:Value):GrownS W (((((W.setCell ⟨G,0,none⟩ a).setCell ⟨G,1,none⟩ b).setCell ⟨G,2,none⟩ c).setCell ⟨G,3,none⟩ d).setCell ⟨G,4,none⟩ e) (fun k=>k=G):=by
 have s:∀ (X:World) j u,GrownS X (X.setCell ⟨G,j,none⟩ u) (fun k=>k=G):=fun X j u=>(grS (Qah X G j u)).weak (fun k e=>by injection e with e;exact e.symm);exact (((((s _ _ _).trans (s _ _ _)).trans (s _ _ _)).trans (s _ _ _)).trans (s _ _ _)) |>.weak (fun k q=>by rcases q with (((q | q) | q) | q) | q <;> exact q)
structure DP (K:Int) (W:World) (B:Nat) (ao:Option Addr) (ln cap s:Nat) (w wr:World) (b:Nat) (ax:Option Addr) (n cp:Nat) (p:Pi) (M:List Sd):Prop where
 src:Src W B ao ln cap s wr
 gr:w.grownBy wr (some s)
 hs:s<w.heap.size
 res:wr.heap[w.heap.size]?=some (.cells (Qae (.slice none 0 0) q0) 25 (0,0))
 row:wr.heap[b]?=some (.cells (Qae (.slice ax n cp) p) 25 (0,0))
 lb:w.heap.size<b
 r:OwnD wr (w.heap.size+1) (.slice ax n cp) M
 o:LvO wr (w.heap.size+1) M
 nb:∀ j,QjA (.slice ax n cp) M j->j≠b
 gd:GdK K (M.map Sd.key)
 pc:PcB K p
section
variable {K:Int} {W w wr w1:World} {B ln cap s b n cp n' cp' B2:Nat} {ao ax ax':Option Addr} {p q:Pi} {M M':List Sd}
theorem DP.step (h:DP K W B ao ln cap s w wr b ax n cp p M) (hS:Src W B ao ln cap s w1) (hg:wr.grownBy w1 (some s)):DP K W B ao ln cap s w w1 b ax n cp p M:=by
 have z:=(ZZc.1 h.row).1;have z2:=h.lb;have z3:=h.hs;have g:GrownS wr w1 (fun k=>k=s):=(grS hg).weak (fun k e=>by injection e with e;exact e.symm);have hp:=PpB.of h.r h.o;exact ⟨hS,h.gr.trans hg,h.hs,(hg.block _ oB (fun e=>by cases e;omega)).trans h.res,(hg.block _ z (fun e=>by cases e;omega)).trans h.row,h.lb,h.r.keptS g (fun k q e=>by have:=(hp.hi k (.inl q)).1;omega),h.o.keptS g (fun x hx k q e=>by have:=(hp.hi k (.inr ⟨x,hx,q⟩)).1;omega),h.nb,h.gd,h.pc⟩
theorem DP.past (h:DP K W B ao ln cap s w wr b ax n cp p M) (hb:Bw wr w1):DP K W B ao ln cap s w w1 b ax n cp p M:=
 h.step (QaO h.src hb) ⟨hb.os,hb.tape,hb.output,hb.size,fun j hj _=>hb.block j hj⟩
theorem DP.pp (h:DP K W B ao ln cap s w wr b ax n cp p M) (hk:K<=1:=by omega):PpI wr ax n M:=GdK.pp hk h.gd h.r h.o
theorem DP.put (h:DP K W B ao ln cap s w wr b ax n cp p M) (r:OwnD wr B2 (.slice ax' n' cp') M') (o:LvO wr B2 M') (hB:b<B2) (gd:GdK K (M'.map Sd.key)) (pc:PcB K q) :
  DP K W B ao ln cap s w (((((wr.setCell ⟨b,0,none⟩ (.slice ax' n' cp')).setCell ⟨b,1,none⟩ (.int .i64 q.a)).setCell ⟨b,2,none⟩ (.int .i64 q.b)).setCell ⟨b,3,none⟩ (.int .i64 q.c)).setCell ⟨b,4,none⟩ (.int .i64 q.d)) b ax' n' cp' q M':=by
 have z2:=h.lb;have z3:=h.hs;have g:=Qpq wr b (.slice ax' n' cp') (.int .i64 q.a) (.int .i64 q.b) (.int .i64 q.c) (.int .i64 q.d)
 have hb:Below (s+1) wr (((((wr.setCell ⟨b,0,none⟩ (.slice ax' n' cp')).setCell ⟨b,1,none⟩ (.int .i64 q.a)).setCell ⟨b,2,none⟩ (.int .i64 q.b)).setCell ⟨b,3,none⟩ (.int .i64 q.c)).setCell ⟨b,4,none⟩ (.int .i64 q.d)):=by
  repeat (refine Below.setCell ?_ (by simpa using (by omega:s+1<=b)) _)
  exact ZZb _ _
 have aa:Below w.heap.size wr (((((wr.setCell ⟨b,0,none⟩ (.slice ax' n' cp')).setCell ⟨b,1,none⟩ (.int .i64 q.a)).setCell ⟨b,2,none⟩ (.int .i64 q.b)).setCell ⟨b,3,none⟩ (.int .i64 q.c)).setCell ⟨b,4,none⟩ (.int .i64 q.d)):=by
  repeat (refine Below.setCell ?_ (by simpa using (by omega:w.heap.size<=b)) _)
  exact ZZb _ _
 have hp:=PpB.of r o;exact ⟨Qbk h.src hb oB,QaC h.gr aa,h.hs,(Qqa oB _ _ _ _ _).trans h.res,QpR h.row _ _ _ _ _,h.lb,(r.keptS g (fun k q e=>by have:=(hp.hi k (.inl q)).1;omega)).le oB,(o.keptS g (fun x hx k q e=>by have:=(hp.hi k (.inr ⟨x,hx,q⟩)).1;omega)).le oB,fun j q e=>by have:=(hp.hi j q).1;omega,gd,pc⟩
end
def DrawnP (W:World) (B:Nat) (ao:Option Addr) (ln cap s:Nat) (w:World) (e:Ending) (w':World):Prop:=
 ∃ ax n cp p M,e=.returned (.agg (Qae (.slice ax n cp) p))/\Src W B ao ln cap s w'/\w.grownBy w' (some s)/\OwnD w' (w.heap.size+1) (.slice ax n cp) M/\LvO w' (w.heap.size+1) M/\GdK 1 (M.map Sd.key)/\PcB 1 p
theorem QqC {c:Nat} {lo:Option Addr} (h:w.ownsRow B 9 1 (.slice lo L.length c) L.length (L.map Value.string)):Qat w lo L:=fun h0=>by
 obtain ⟨g,c',e⟩:=Qb3 h h0;injection e with e1 e2 e3;subst e1;subst e3;exact QdX h h0
def mk0 (u:ByteArray):Sd:=⟨u,[],none,0⟩
theorem Quc (R:List ByteArray):flS (R.map mk0)=fl Qtr R:=by
 unfold flS fl;rw [List.flatMap_map]
 rfl
theorem Qtd (R:List ByteArray):QaK (R.map mk0)=[]:=by
 unfold QaK;rw [List.flatMap_map];exact List.flatMap_eq_nil_iff.2 (fun u _=>rfl)
theorem QrL (h:OwnS w B v R):OwnD w B v (R.map mk0)/\LvO w B (R.map mk0):=by
 refine ⟨?_,fun s hs=>?_,?_,by rw [Qtd];exact CesO.nil _ _⟩
 ·unfold OwnD
  rw [Quc,yA];exact h
 ·obtain ⟨u,_,rfl⟩:=List.mem_map.1 hs
  exact OwnC.nil _ _
 ·refine List.pairwise_map.2 ((List.pairwise_of_forall (fun a b k q=>?_)))
  cases q
theorem gd_new (hl:R.length<=14) (hu:∀ u∈R,u.size<=10):GdK 0 ((R.map mk0).map Sd.key):=by
 refine ⟨by rw [yA,yA];exact hl,fun x hx=>?_⟩;rw [List.map_map] at hx;obtain ⟨u,h,rfl⟩:=List.mem_map.1 hx;exact ⟨by have:=hu u h;show u.size<=1048576;omega,by show ((0:Nat):Int)<=300+0;omega,fun c hc=>by cases hc⟩
structure DY (K:Int) (W:World) (B:Nat) (ao:Option Addr) (ln cap s:Nat) (w wr:World) (b:Nat) (ax:Option Addr) (n cp:Nat) (p:Pi) (M:List Sd) (G:Nat) (a':Option Addr) (n' c':Nat) (q:Pi) (dd:Option Addr) (m f:Nat) (cd:Int):Prop where
 d:DP K W B ao ln cap s w wr b ax n cp p M
 y:wr.heap[G]?=some (.cells (Qax (.slice a' n' c') q (.slice dd m f) cd) 29 (0,0))
 r:∃ B2 M',b<B2/\OwnD wr B2 (.slice a' n' c') M'/\LvO wr B2 M'/\(cd=0->GdK K (M'.map Sd.key)/\PcB K q)
section
variable {K:Int} {W w wr w1:World} {B ln cap s b n cp n' c' B2 G m f:Nat} {ao ax a' d:Option Addr} {p q:Pi} {M M':List Sd} {cd:Int}
theorem DP.far (h:DP K W B ao ln cap s w wr b ax n cp p M) (hG:b<G) (hM:∀ j,QjA (.slice ax n cp) M j->j≠G) (v0 v1 v2 v3 v4 v5 v6:Value) :
  DP K W B ao ln cap s w (((((((wr.setCell ⟨G,0,none⟩ v0).setCell ⟨G,1,none⟩ v1).setCell ⟨G,2,none⟩ v2).setCell ⟨G,3,none⟩ v3).setCell ⟨G,4,none⟩ v4).setCell ⟨G,5,none⟩ v5).setCell ⟨G,6,none⟩ v6) b ax n cp p M:=by
 have z2:=h.lb;have z3:=h.hs;have g:=QjO wr G v0 v1 v2 v3 v4 v5 v6;have hb:Below b wr (((((((wr.setCell ⟨G,0,none⟩ v0).setCell ⟨G,1,none⟩ v1).setCell ⟨G,2,none⟩ v2).setCell ⟨G,3,none⟩ v3).setCell ⟨G,4,none⟩ v4).setCell ⟨G,5,none⟩ v5).setCell ⟨G,6,none⟩ v6):=g.below (ZZb _ _) (by have:=(ZZc.1 h.row).1;omega) (fun k e=>by omega);exact ⟨Qbk h.src hb oB,QaC h.gr (hb.mono oB),h.hs,g.row h.res oB,g.row h.row oB,h.lb,h.r.keptS g (fun k q e=>hM k (.inl q) e),h.o.keptS g (fun x hx k q e=>hM k (.inr ⟨x,hx,q⟩) e),h.nb,h.gd,h.pc⟩
theorem DY.of (h:DP K W B ao ln cap s w wr b ax n cp p M) (hG:b<G) (hM:∀ j,QjA (.slice ax n cp) M j->j≠G) {u5 u6:Value} (y:wr.heap[G]?=some (.cells #[u0,u1,u2,u3,u4,u5,u6] 29 (0,0)))
  (hB:b<B2) (r:OwnD wr B2 (.slice a' n' c') M') (o:LvO wr B2 M') (hN:∀ j,QjA (.slice a' n' c') M' j->j≠G) (g:cd=0->GdK K (M'.map Sd.key)/\PcB K q) :
  DY K W B ao ln cap s w (((((((wr.setCell ⟨G,0,none⟩ (.slice a' n' c')).setCell ⟨G,1,none⟩ (.int .i64 q.a)).setCell ⟨G,2,none⟩ (.int .i64 q.b)).setCell ⟨G,3,none⟩ (.int .i64 q.c)).setCell ⟨G,4,none⟩ (.int .i64 q.d)).setCell ⟨G,5,none⟩ (.slice d m f)).setCell ⟨G,6,none⟩ (.int .i64 cd)) b ax n cp p M G a' n' c' q d m f cd:=by
 have g7:=QjO wr G (.slice a' n' c') (.int .i64 q.a) (.int .i64 q.b) (.int .i64 q.c) (.int .i64 q.d) (.slice d m f) (.int .i64 cd);refine ⟨h.far hG hM _ _ _ _ _ _ _,?_,B2,M',hB,r.keptS g7 (fun k q e=>hN k (.inl q) e),o.keptS g7 (fun x hx k q e=>hN k (.inr ⟨x,hx,q⟩) e),g⟩;have s0:=ZZl wr G 0 _ _ (.slice a' n' c') y;simp only [List.setIfInBounds_toArray,List.set_cons_zero] at s0;have s1:=ZZl _ G 1 _ _ (.int .i64 q.a) s0;simp only [List.setIfInBounds_toArray,List.set_cons_zero,List.set_cons_succ] at s1;have s2:=ZZl _ G 2 _ _ (.int .i64 q.b) s1;simp only [List.setIfInBounds_toArray,List.set_cons_zero,List.set_cons_succ] at s2;have s3:=ZZl _ G 3 _ _ (.int .i64 q.c) s2;simp only [List.setIfInBounds_toArray,List.set_cons_zero,List.set_cons_succ] at s3;have s4:=ZZl _ G 4 _ _ (.int .i64 q.d) s3;simp only [List.setIfInBounds_toArray,List.set_cons_zero,List.set_cons_succ] at s4;have s5:=ZZl _ G 5 _ _ (.slice d m f) s4;simp only [List.setIfInBounds_toArray,List.set_cons_zero,List.set_cons_succ] at s5;have s6:=ZZl _ G 6 _ _ (.int .i64 cd) s5;simp only [List.setIfInBounds_toArray,List.set_cons_zero,List.set_cons_succ] at s6;exact s6
theorem DY.put (h:DY K W B ao ln cap s w wr b ax n cp p M G a' n' c' q d m f cd) (e:cd=0):∃ M',DP K W B ao ln cap s w (((((wr.setCell ⟨b,0,none⟩ (.slice a' n' c')).setCell ⟨b,1,none⟩ (.int .i64 q.a)).setCell ⟨b,2,none⟩ (.int .i64 q.b)).setCell ⟨b,3,none⟩ (.int .i64 q.c)).setCell ⟨b,4,none⟩ (.int .i64 q.d)) b a' n' c' q M':=by
 obtain ⟨B2,M',hB,r,o,g⟩:=h.r;exact ⟨M',h.d.put r o hB (g e).1 (g e).2⟩
theorem DP.lt (h:DP K W B ao ln cap s w wr b ax n cp p M):∀ j,QjA (.slice ax n cp) M j->j≠wr.heap.size:=fun j q e=>by
 have:=((PpB.of h.r h.o).hi j q).2;omega
theorem DP.bl (h:DP K W B ao ln cap s w wr b ax n cp p M):b<wr.heap.size:=(ZZc.1 h.row).1
theorem DP.rowS (h:DP K W B ao ln cap s w wr b ax n cp p M) (hg:wr.grownBy w1 (some s)) (hG:b<G) {r:Obj} (y:wr.heap[G]?=some r):w1.heap[G]?=some r:=by
 have z2:=h.lb;have z3:=h.hs;exact (hg.block G (ZZc.1 y).1 (fun e=>by cases e;omega)).trans y
end
section
variable {K:Int} {W w wr w1:World} {B ln cap s b n cp i gs:Nat} {ao ax:Option Addr} {p q:Pi} {M:List Sd} {t:Sd} {u:ByteArray}
theorem DP.fin (h:DP K W B ao ln cap s w wr b ax n cp p M) (v0 v1 v2 v3 v4:Value) {X:World} (hX:X=((((wr.setCell ⟨w.heap.size,0,none⟩ v0).setCell ⟨w.heap.size,1,none⟩ v1).setCell ⟨w.heap.size,2,none⟩ v2).setCell ⟨w.heap.size,3,none⟩ v3).setCell ⟨w.heap.size,4,none⟩ v4) :
  Src W B ao ln cap s X/\w.grownBy X (some s)/\OwnD X (w.heap.size+1) (.slice ax n cp) M/\LvO X (w.heap.size+1) M:=by
 have z3:=h.hs;have g:=Qpq wr w.heap.size v0 v1 v2 v3 v4;rw [<- hX] at g;have hz:=h.gr.size;have hb:Below w.heap.size wr X:=g.below ((ZZb _ _).mono hz) oB (fun k e=>by omega);have hp:=PpB.of h.r h.o;exact ⟨Qbk h.src hb h.hs,QaC h.gr hb,h.r.keptS g (fun k q e=>by have:=(hp.hi k (.inl q)).1;omega),h.o.keptS g (fun x hx k q e=>by have:=(hp.hi k (.inr ⟨x,hx,q⟩)).1;omega)⟩
theorem DP.weak (h:DP 0 W B ao ln cap s w wr b ax n cp p M):DP 1 W B ao ln cap s w wr b ax n cp p M:=
 ⟨h.src,h.gr,h.hs,h.res,h.row,h.lb,h.r,h.o,h.nb,h.gd.weak1,h.pc.1,h.pc.2.1,h.pc.2.2.1,by have:=h.pc.2.2.2;omega⟩
theorem DP.setb (h:DP 0 W B ao ln cap s w wr b ax n cp p M) (j:Nat) (u:Value) (e:(Qae (.slice ax n cp) p).setIfInBounds j u=Qae (.slice ax n cp) q) (pc:PcB 1 q):DP 1 W B ao ln cap s w (wr.setCell ⟨b,j,none⟩ u) b ax n cp q M:=by
 have z2:=h.lb;have z3:=h.hs;have g:GrownS wr (wr.setCell ⟨b,j,none⟩ u) (fun k=>k=b):=(grS (Qah wr b j u)).weak (fun k e=>by injection e with e;exact e.symm);have hb:Below b wr (wr.setCell ⟨b,j,none⟩ u):=(ZZb _ _).setCell (by show b<=b;omega) _;refine ⟨Qbk h.src hb oB,QaC h.gr (hb.mono oB),h.hs,g.row h.res oB,?_,h.lb,h.r.keptS g (fun k q e=>h.nb k (.inl q) e),h.o.keptS g (fun x hx k q e=>h.nb k (.inr ⟨x,hx,q⟩) e),h.nb,h.gd.weak1,pc⟩;rw [<- e];exact ZZl wr b j _ _ u h.row
theorem DP.sets (h:DP 0 W B ao ln cap s w wr b (some ⟨gs,0,none⟩) n cp p M) {t':Sd} {u:Value} (ht:M[i]?=some t) (hj:j<2) (e:sdL t'=(sdL t).set j u) (hr:OwnC wr (w.heap.size+1) (slS t') t'.L) (ho:CesO wr (w.heap.size+1) t'.L)
  (hap:∀ x,x∈M.take i∨x∈M.drop (i+1)->∀ k,Qf2 (slS x) x.L k->¬ Qf2 (slS t') t'.L k) (hgs:∀ k,Qf2 (slS t') t'.L k->k≠gs/\k≠b) (hg:t'.nm.size<=1048576/\(t'.L.length:Int)<=301/\∀ c∈t'.L,AgOk c.g/\AgSm c.g/\c.s.size<=maxLen) :
  ∃ M2,DP 1 W B ao ln cap s w (wr.setCell ⟨gs,i*2+j,none⟩ u) b (some ⟨gs,0,none⟩) n cp p M2:=by
 have z2:=h.lb;have z3:=h.hs;obtain ⟨hi,em⟩:=ZZd.1 ht;have hM:M=M.take i ++ t :: M.drop (i+1):=by rw [<- em,<- List.drop_eq_getElem_cons hi,List.take_append_drop]
 have aa:M.set i t'=M.take i ++ t' :: M.drop (i+1):=by rw [List.set_eq_take_append_cons_drop,if_pos hi]
 have ae:=World.ownsRow.lt h.r gs rfl;have af:gs≠b:=h.nb gs (.inl rfl);have g:GrownS wr (wr.setCell ⟨gs,i*2+j,none⟩ u) (fun k=>k=gs):=(grS (Qah wr gs (i*2+j) u)).weak (fun k e=>by injection e with e;exact e.symm);have hb:Below (w.heap.size+1) wr (wr.setCell ⟨gs,i*2+j,none⟩ u):=(Below.refl _ _).setCell (by simpa using ae.1) _;have r2:=h.r.put1 (Qc7 h.r) ht hj e;have ab:∀ x∈M,∀ k,Qf2 (slS x) x.L k->¬ k=gs:=fun x hx k q e=>h.r.neB h.o hx k q oT;have ad:=h.o;rw [hM] at ad;have o1:LvO wr (w.heap.size+1) (M.take i ++ t' :: M.drop (i+1)):=ad.swap hr ho hap;refine ⟨M.set i t',Qbk h.src hb oB,QaC h.gr (hb.mono oB),h.hs,g.row h.res oB,g.row h.row (fun e=>af e.symm),h.lb,r2,?_,fun k q=>?_,?_,h.weak.pc⟩
 ·rw [aa]
  refine o1.keptS g (fun x hx k q ek=>?_);rcases List.mem_append.1 hx with hx | hx
  ·exact ab x (ZZo hx) k q ek
  ·rcases List.mem_cons.1 hx with rfl | hx
   ·exact (hgs k q).1 ek
   ·exact ab x (ZZp hx) k q ek
 ·rw [aa] at q
  rcases q with q | ⟨x,hx,q⟩
  ·exact h.nb k (.inl q)
  ·rcases List.mem_append.1 hx with hx | hx
   ·exact h.nb k (.inr ⟨x,ZZo hx,q⟩)
   ·rcases List.mem_cons.1 hx with rfl | hx
    ·exact (hgs k q).2
    ·exact h.nb k (.inr ⟨x,ZZp hx,q⟩)
 ·have ac:=h.gd.1
  rw [yA] at ac;refine ⟨by rw [yA,List.length_set];exact ac,fun x hx=>?_⟩;obtain ⟨y,hy,rfl⟩:=List.mem_map.1 hx;rcases List.mem_or_eq_of_mem_set hy with hy | rfl
  ·exact h.gd.weak1.2 _ (List.mem_map_of_mem hy)
  ·refine ⟨hg.1,by show (((y.L.map Ce.key).length:Nat):Int)<=300+1;rw [yA];have:=hg.2.1;omega,fun c hc=>?_⟩
   obtain ⟨d,hd,rfl⟩:=List.mem_map.1 hc;exact hg.2.2 d hd
theorem DP.name (h:DP 0 W B ao ln cap s w wr b (some ⟨gs,0,none⟩) n cp p M) (ht:M[i]?=some t) (hu:u.size<=1048576):∃ M2,DP 1 W B ao ln cap s w (wr.setCell ⟨gs,i*2,none⟩ (.string u)) b (some ⟨gs,0,none⟩) n cp p M2:=by
 obtain ⟨hi,em⟩:=ZZd.1 ht;have hM:M=M.take i ++ t :: M.drop (i+1):=by rw [<- em,<- List.drop_eq_getElem_cons hi,List.take_append_drop]
 have hm:=ZZn ht;have aa:=h.o;rw [hM] at aa;exact h.sets (t':=⟨u,t.L,t.ao,t.cp⟩) (j:=0) ht oB rfl (h.o.r t hm) (Qk6 h.o.o hm:CesO wr (w.heap.size+1) t.L) (fun x hx k q=>aa.apart (List.mem_append.2 hx) k q) (fun k q=>⟨fun e=>h.r.neB h.o hm k q oT,h.nb k (.inr ⟨t,hm,q⟩)⟩) ⟨hu,by have:=(h.gd.sh hm).2.1;show (t.L.length:Int)<=301;omega,(h.gd.sh hm).2.2⟩
theorem DP.app {wr0:World} {c:Ce} {a':Option Addr} {c' m:Nat} (h0:DP 0 W B ao ln cap s w wr0 b (some ⟨gs,0,none⟩) n cp p M) (hb:Bw wr0 wr) (hc:AgO wr wr0.heap.size c.g c.p) (ht:M[i]?=some t) (hok:AgOk c.g/\AgSm c.g/\c.s.size<=maxLen)
  (hown:w1.ownsRow (w.heap.size+1) 46 15 (.slice a' m c') (t.L.length+1) (flC t.L ++ ceL c)) (hg:(wr.alloc (.cells (Qao c) 46)).grownBy w1 (slS t).ownBlock) (hloc:(Value.slice a' m c').ownBlock=(slS t).ownBlock∨(Value.slice a' m c').ownBlock=some (wr.alloc (.cells (Qao c) 46)).heap.size) :
  ∃ M2,DP 1 W B ao ln cap s w (w1.setCell ⟨gs,i*2+1,none⟩ (.slice a' m c')) b (some ⟨gs,0,none⟩) n cp p M2:=by
 have h:=h0.past hb;have hm:=ZZn ht;have z0:=hb.size;have z2:=h.lb;have zb:=h0.bl;have hu:=h.o.r t hm;have hB:w.heap.size+1<=wr.heap.size:=oB
 obtain ⟨f1,f2,f3⟩:=Qgx hu hB hg hloc
 have gA:GrownS wr w1 (fun k=>(slS t).ownBlock=some k):=by
  have a1:Bw wr (wr.alloc (.cells (Qao c) 46)):=bAA;refine ⟨hg.os.trans a1.os,hg.tape.trans a1.tape,hg.output.trans a1.output,Nat.le_trans a1.size hg.size,fun k hk hn=>(hg.block k (Nat.lt_of_lt_of_le hk a1.size) (fun e=>hn e.symm)).trans (a1.block k hk)⟩
 obtain ⟨hi,em⟩:=ZZd.1 ht;have hM:M=M.take i ++ t :: M.drop (i+1):=by rw [<- em,<- List.drop_eq_getElem_cons hi,List.take_append_drop]
 have ho:=h.o;rw [hM] at ho;have ag:∀ x,x∈M.take i∨x∈M.drop (i+1)->∀ k,Qf2 (slS x) x.L k->¬ Qf2 (slS t) t.L k:=fun x hx k q=>ho.apart (List.mem_append.2 hx) k q;have ltX:∀ x∈M,∀ k,Qf2 (slS x) x.L k->k<wr0.heap.size:=fun x hx k q=>((PpB.of h0.r h0.o).hi k (.inr ⟨x,hx,q⟩)).2;have ac:∀ x,x∈M.take i∨x∈M.drop (i+1)->x∈M:=fun x hx=>hx.elim ZZo ZZp
 have o0:=ho.swap (s:=mk0 t.nm) (OwnC.nil _ _) (CesO.nil _ _) (fun x hx k _ q=>by
  rcases q with q | ⟨d,hd,_⟩
  ·cases q
  ·cases hd)
 have o1:LvO w1 (w.heap.size+1) (M.take i ++ mk0 t.nm :: M.drop (i+1)):=by
  refine ⟨fun x hx=>?_,o0.rap,f2 _ o0.o⟩;have go:∀ x,x∈M.take i∨x∈M.drop (i+1)->OwnC w1 (w.heap.size+1) (slS x) x.L:=fun x hx=>(f1 _ _ (h.o.r x (ac x hx)) (fun k q1 q2=>ag x hx k (.inl q1) (.inl q2))).1;rcases List.mem_append.1 hx with hx | hx
  ·exact go x (.inl hx)
  ·rcases List.mem_cons.1 hx with rfl | hx
   ·exact OwnC.nil _ _
   ·exact go x (.inr hx)
 have al:CesO wr wr0.heap.size [c]:=⟨fun d hd=>by rw [List.mem_singleton.1 hd];exact hc,List.pairwise_singleton _ _⟩;have ai:CesO w1 (w.heap.size+1) (t.L ++ [c]):=f2 _ (CesO.app (Qk6 h0.o.o hm) hb oB al);have rT:=OwnC.mk hown;have aj:(t.L ++ [c]).length=m:=Qb8 rT;subst aj;have ah:=World.ownsRow.lt h0.r gs rfl;have ak:gs≠b:=h.nb gs (.inl rfl);have aa:∀ x∈M,∀ k,Qf2 (slS x) x.L k->¬ k=gs:=fun x hx k q e=>h.r.neB h.o hx k q oT
 have ad:∀ k,Qf2 (.slice a' (t.L ++ [c]).length c') (t.L ++ [c]) k->Qf2 (slS t) t.L k∨wr0.heap.size<=k:=fun k q=>by
  rcases q with q | ⟨d,hd,q⟩
  ·rcases hloc with e | e
   ·exact .inl (.inl (e ▸ q))
   ·right
    rw [e] at q;injection q with q;rw [<- q,World.size_alloc];omega
  ·rcases List.mem_append.1 hd with hd | hd
   ·exact .inl (.inr ⟨d,hd,q⟩)
   ·rw [List.mem_singleton.1 hd] at q
    exact .inr (hc.lt q).1
 have o2:LvO w1 (w.heap.size+1) (M.take i ++ ⟨t.nm,t.L ++ [c],a',c'⟩ :: M.drop (i+1)):=o1.swap rT ai (fun x hx k q1 q2=>by
  rcases ad k q2 with q | q
  ·exact ag x hx k q1 q
  ·have:=ltX x (ac x hx) k q1
   omega)
 have r1:OwnD w1 (w.heap.size+1) (.slice (some ⟨gs,0,none⟩) n cp) M:=h.r.keptS gA (fun k q e=>by
  have q:gs=k:=Option.some.inj q;exact aa t hm k (.inl e) q.symm)
 have r2:=r1.put1 (j:=1) (s':=⟨t.nm,t.L ++ [c],a',c'⟩) (u:=.slice a' (t.L ++ [c]).length c') (Qc7 r1) ht oB rfl;have g2:GrownS w1 (w1.setCell ⟨gs,i*2+1,none⟩ (.slice a' (t.L ++ [c]).length c')) (fun k=>k=gs):=(grS (Qah w1 gs (i*2+1) _)).weak (fun k e=>by injection e with e;exact e.symm);have ab:M.set i ⟨t.nm,t.L ++ [c],a',c'⟩=M.take i ++ ⟨t.nm,t.L ++ [c],a',c'⟩ :: M.drop (i+1):=by rw [List.set_eq_take_append_cons_drop,if_pos hi]
 have af:Below (w.heap.size+1) wr (w1.setCell ⟨gs,i*2+1,none⟩ (.slice a' (t.L ++ [c]).length c')):=(f3 wr (Below.refl _ _)).setCell (by simpa using ah.1) _;have tl:=(World.ownsRow.lt hu);have z3:=h.hs;refine ⟨M.set i ⟨t.nm,t.L ++ [c],a',c'⟩,Qbk h.src af oB,QaC h.gr (af.mono oB),h.hs,g2.row (gA.row h.res (fun e=>by have:=(tl _ e).1;omega)) oB,g2.row (gA.row h.row (fun e=>h.nb b (.inr ⟨t,hm,.inl e⟩) rfl)) (fun e=>ak e.symm),h.lb,r2,?_,fun k q=>?_,?_,h.weak.pc⟩
 ·rw [ab]
  refine o2.keptS g2 (fun x hx k q ek=>?_);rcases List.mem_append.1 hx with hx | hx
  ·exact aa x (ZZo hx) k q ek
  ·rcases List.mem_cons.1 hx with rfl | hx
   ·rcases ad k q with q | q
    ·exact aa t hm k q ek
    ·omega
   ·exact aa x (ZZp hx) k q ek
 ·rw [ab] at q
  rcases q with q | ⟨x,hx,q⟩
  ·exact h.nb k (.inl q)
  ·rcases List.mem_append.1 hx with hx | hx
   ·exact h.nb k (.inr ⟨x,ZZo hx,q⟩)
   ·rcases List.mem_cons.1 hx with rfl | hx
    ·rcases ad k q with q | q
     ·exact h.nb k (.inr ⟨t,hm,q⟩)
     ·omega
    ·exact h.nb k (.inr ⟨x,ZZp hx,q⟩)
 ·have ae:=h.gd.1
  rw [yA] at ae;refine ⟨by rw [yA,List.length_set];exact ae,fun x hx=>?_⟩;obtain ⟨y,hy,rfl⟩:=List.mem_map.1 hx;rcases List.mem_or_eq_of_mem_set hy with hy | rfl
  ·exact h.gd.weak1.2 _ (List.mem_map_of_mem hy)
  ·obtain ⟨s1,s2,s3⟩:=h.gd.sh hm
   refine ⟨s1,by show ((((t.L ++ [c]).map Ce.key).length:Nat):Int)<=300+1;rw [yA,List.length_append];simp only [List.length_singleton];omega,fun e he=>?_⟩;obtain ⟨d,hd,rfl⟩:=List.mem_map.1 he;rcases List.mem_append.1 (hd:d∈t.L ++ [c]) with hd | hd
   ·exact s3 d hd
   ·rw [List.mem_singleton.1 hd];exact hok
end
variable {x:Sx}
section
theorem Qqe {g:Ag} (h:¬ (agB g=true/\x.B=true/\g.k=x.k)):Qbv g x g:=by unfold Qbv;rw [if_neg h]
end
section
theorem QeD {b:Nat} (h:w.heap[b]?=some (.cells (Qa0 x) T (0,0))):w.cell? ⟨b,0,none⟩=some (.int .i64 x.k)/\w.cell? ⟨b,1,none⟩=some (.string x.se)/\w.cell? ⟨b,2,none⟩=some (.int .i64 x.v)/\w.cell? ⟨b,3,none⟩=some (.string x.wd)/\w.cell? ⟨b,4,none⟩=some (.int .u64 x.wt)/\w.cell? ⟨b,5,none⟩=some (.bool x.tm)/\w.cell? ⟨b,6,none⟩=some (.int .i64 x.ti):=
 ⟨Qe9 h 0 rfl,Qe9 h 1 rfl,Qe9 h 2 rfl,Qe9 h 3 rfl,Qe9 h 4 rfl,Qe9 h 5 rfl,Qe9 h 6 rfl⟩
end
section
theorem Qqh {g o:Ag} (h:o=g) (k:Qbv g x g):Qbv g x o:=by rw [h];exact k
theorem Qot {g:Ag} {p:Pl} (x:Sx) (ok:AgOk g) (ox:x.Ok) (sm:AgSm g) (pl:PlG g p) (hA:AgAt w g p) :
  Calls prog 50 #[.agg (Qau g p),.agg (Qa0 x)] w fun e w'=>AgRes w (Qbv g x) e w':=by
 have OK:=Qaa ok;have OX:=Qaa ox;have SM:=Qaa sm;have PL:=Qaa pl;have HA:=Qaa hA;obtain ⟨ar,ay,au⟩:=Qqd w g p x;clear ok ox sm pl hA;go_enter func50,ntmps50;go_wp2_with fail;generalize ((w.alloc _).alloc _).alloc _=W0 at ar ay au ⊢;refine (QfM (g:=g) (p:=p) OK SM (QaD HA ar)).mono ?_;rintro e w1 ⟨rfl,ap⟩;have an:Hid (∀ W,Bw w1 W->W.heap[w.heap.size]?=some (.cells (Qau g p) 44 (0,0))/\W.heap[w.heap.size+1]?=some (.cells (Qa0 x) 85 (0,0))/\W.heap[w.heap.size+1+1]?=some (.cells z13 44 (0,0))):=fun W hW=>ay.out W (Qac ap hW);have aq:=Qaa (Qac ar ap);have aA:w.heap.size+1+1+1<=w1.heap.size:=by have:=ap.size;have:=au.out;omega
 clear ap ay au ar
 cases hq:agB g with
 | false=>
  have HQ:Hid (Qbv g x g):=Qqe (fun h=>by rw [hq] at h;cases h.1);have ag:=Qaa (an.out _ (ZZb _ _)).1;obtain ⟨x0,x1,x2,x3,x4,x5,x6,x7,x8,x9,am,ai,aj⟩:=Qde ag;obtain ⟨y0,y1,y2,y3,y4,y5,y6⟩:=QeD (an.out _ (ZZb _ _)).2.1;go_wp2_with fail;clear x0 x1 x2 x3 x4 x5 x6 x7 x8 x9 am ai aj y0 y1 y2 y3 y4 y5 y6;refine (Qdq SM PL (QaD HA aq)).mono ?_;rintro e wc ⟨vc,oc,rfl,ac,⟨pc,rfl,hO⟩,aa⟩;have HO:=Qaa hO;have al:=Qaa ac;have ae:=Qaa (Qac aq aa);have ab:=Qaa (an.out _ aa).2.2;have az:=aq.size;clear hO aa ac;obtain ⟨q0,q1,q2,q3,q4,q5,q6,q7,q8,q9,ah,ak,af⟩:=Qde ab;obtain ⟨f0,f1,f2,f3,f4,f5,f6,f7,f8,f9,ax,aw,av⟩:=Qhr ab;go_wp2;refine bodyPost_ret (v:=.agg (Qau oc pc)) (by simp [results,results50,go_sem,q0,q1,q2,q3,q4,q5,q6,q7,q8,q9,ah,ak,af]) rfl (AgRes.mk (o:=oc) (p:=pc) (Qqh al HQ) ?_ ?_)
  ·refine AgO.le (B:=w1.heap.size) ?_ oB
   repeat (refine AgO.below ?_ oB _)
   exact HO.out
  ·repeat (refine Below.setCell ?_ oJ _)
   exact ae.out
 | true=>
  obtain ⟨y0,y1,y2,y3,y4,y5,y6⟩:=QeD (an.out _ (ZZb _ _)).2.1;go_wp2_with fail;clear y0 y1 y2 y3 y4 y5 y6;refine (Qck x.k x.se x.v x.wd x.wt x.tm x.ti OX.se OX.wd).mono ?_;rintro e w2 ⟨rfl,ao⟩;have HC:Hid (∀ W,Bw w2 W->W.heap[w.heap.size]?=some (.cells (Qau g p) 44 (0,0))/\W.heap[w.heap.size+1]?=some (.cells (Qa0 x) 85 (0,0))/\W.heap[w.heap.size+1+1]?=some (.cells z13 44 (0,0))):=fun W hW=>an.out W (Qac ao hW);have ad:=Qaa (Qac aq ao);have aB:=ao.size;clear ao an
  cases hs:QbC x.k x.se x.v x.wd x.wt x.tm x.ti with
  | false=>
   have HQ:Hid (Qbv g x g):=Qqe (fun h=>by have:=h.2.1;unfold Sx.B at this;rw [hs] at this;cases this);exact mAm
  | true=>
   by_cases hk:g.k=x.k
   ·have HG:Hid (agB g=true/\x.B=true/\g.k=x.k):=⟨hq,hs,hk⟩
    have hb:(g.k != x.k)=false:=by simp [hk]
    clear hq hs hk;have ag:=Qaa (HC.out _ (ZZb _ _)).1;obtain ⟨x0,x1,x2,x3,x4,x5,x6,x7,x8,x9,am,ai,aj⟩:=Qde ag;obtain ⟨y0,y1,y2,y3,y4,y5,y6⟩:=QeD (HC.out _ (ZZb _ _)).2.1;go_wp2_with fail;clear x0 x1 x2 x3 x4 x5 x6 x7 x8 x9 am ai aj y0 y1 y2 y3 y4 y5 y6;refine (Qig x HG.1 HG.2.1 HG.2.2 OK OX SM PL (QaD HA ad)).mono ?_;rintro e wc ⟨vc,oc,rfl,ac,⟨pc,rfl,hO⟩,aa⟩;have HO:=Qaa hO;have al:=Qaa ac;have ae:=Qaa (Qac ad aa);have ab:=Qaa (HC.out _ aa).2.2;have az:=ad.size;clear hO aa ac;obtain ⟨q0,q1,q2,q3,q4,q5,q6,q7,q8,q9,ah,ak,af⟩:=Qde ab;obtain ⟨f0,f1,f2,f3,f4,f5,f6,f7,f8,f9,ax,aw,av⟩:=Qhr ab;go_wp2;refine bodyPost_ret (v:=.agg (Qau oc pc)) (by simp [results,results50,go_sem,q0,q1,q2,q3,q4,q5,q6,q7,q8,q9,ah,ak,af]) rfl (AgRes.mk (o:=oc) (p:=pc) (al.out) ?_ ?_)
    ·refine AgO.le (B:=w2.heap.size) ?_ oB
     repeat (refine AgO.below ?_ oB _)
     exact HO.out
    ·repeat (refine Below.setCell ?_ oJ _)
     exact ae.out
   ·have hb:(g.k != x.k)=true:=by simp;exact hk
    have HQ:Hid (Qbv g x g):=Qqe (fun h=>hk h.2.2);exact mAm
end
end Go.Proofs.YtioohanfodmddaaGreatDoor
