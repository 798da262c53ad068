/-
 Cells that are copied and placed, and rows of them: a part of other texts, for the pipes.
-/
import Derived.Test.YtmjogablacnlgaaGreatDoorORB
import Derived.DeepKeys4
import Derived.Laws.OwnMore
import Derived.Maps.AppendAt
import Derived.Maps.RangeWalk
namespace Go.Proofs.YtmjogablacnlgaaGreatDoor
set_option linter.unusedVariables false
set_option linter.unusedSimpArgs false
section
open Go.ChangeShapes Go.WideShapes Go.ChangeAt Go.RowKit Go.PlainAid Go.Lib Go.Maps
set_option maxRecDepth 10000
def SameKey (c d:Ce):Prop:=c.n=d.n∧c.s=d.s
end
section
open Go.ChangeShapes Go.WideShapes Go.ChangeAt Go.RowKit Go.PlainAid Go.Maps
set_option maxRecDepth 10000
def HlOut (w:World) (B:Nat) (v:Value) (E R:List Int):Prop:=∃ p n,v=.agg #[p,n]∧w.ownsRow B 56 1 p E.length (E.map (Value.int .u64))∧w.ownsRow B 2 1 n R.length (R.map (Value.int .i64))
end
section
open Go.ChangeShapes Go.WideShapes Go.ChangeAt Go.RowKit Go.PlainAid Go.Maps
set_option maxRecDepth 10000
def Flat (ao:Option Addr):Prop:=ao=none∨∃ b off,ao=some ⟨b,off,none⟩
theorem nums_nil {kd:IntKind} {w:World} {L:List Int} (h:NumsAt kd w none L):L=[]:=by
 cases L with
 | nil=>rfl
 | cons x r=>obtain ⟨b,off,e,_⟩:=h (by simp);cases e
theorem two_cell (w:World) (T1 T3:TypeId) (p n x y:Value) (w1:World) (hb:Below ((w.alloc (.cells #[p,n] T1)).alloc (.cells #[x,y] T3)).heap.size ((w.alloc (.cells #[p,n] T1)).alloc (.cells #[x,y] T3)) w1):HlCell w1 w.heap.size p n∧w1.heap[w.heap.size+1]?=some (.cells #[x,y] T3 (0,0)):=by
 have k0:=hl_new w T1 p n;have a1:∀ (W:World) o,Below W.heap.size W (W.alloc o):=fun W o=>(Below.refl _ _).alloc (Nat.le_refl _) _;have h2:=heap_alloc_new (w.alloc (.cells #[p,n] T1)) (.cells #[x,y] T3);simp only [World.size_alloc] at h2;exact ⟨hl_past (hl_past k0 (a1 _ _)) hb,(hb.block _ (by simp)).trans h2⟩
end
section
open Go.ChangeShapes Go.WideShapes Go.ChangeAt Go.RowKit Go.PlainAid Go.Maps
set_option maxRecDepth 10000
theorem nums_nw {kd:IntKind} {w:World} {ao:Option Addr} {L:List Int} (h:NumsAt kd w ao L):∀ ad,ao=some ad→∀ j u,(L.map (Value.int kd))[j]?=some u→w.cell? (ad.add j)=some u:=fun ad e j u hu=>by
 rw [List.getElem?_map] at hu;obtain ⟨x,hx,rfl⟩:=Option.map_eq_some_iff.1 hu;obtain ⟨b,off,e2,hc⟩:=h (by have:=(List.getElem?_eq_some_iff.1 hx).1;omega);rw [e] at e2;cases e2;rw [Addr.add_lit];exact hc j x hx
theorem one_map (kd:IntKind) (L:List Int):∀ u∈L.map (Value.int kd),u.oneCell'=true:=fun u hu=>by
 simp at hu;obtain ⟨x,_,rfl⟩:=hu;rfl
theorem own_ltB {w:World} {B n:Nat} {e:TypeId} {s:Nat} {v:Value} {xs:List Value} (h:w.ownsRow B e s v n xs):∀ k,v.ownBlock=some k→B≤k:=fun k hk=>by
 rcases h.2 with ⟨rfl,_⟩ | ⟨g,c,_,rfl,h1,_⟩
 ·cases hk
 ·have:g=k:=Option.some.inj hk
  omega
end
section
open Go.ChangeShapes Go.WideShapes Go.ChangeAt Go.RowKit Go.PlainAid Go.Maps
set_option maxRecDepth 10000
theorem nil_len {kd:IntKind} {w:World} {ao:Option Addr} {L:List Int} {n:Nat} (h:NumsAt kd w ao L) (hn:L.length=n) (e:ao=none):n=0:=by
 subst e;rw [← hn,nums_nil h];rfl
theorem wp_append_nilN {P:Program} (w:World) {o:Oper} {a:Act} {K:Act→World→Prop} {Q:Exit→Act→World→Prop} (s x:Operand) (t:TypeId)
  (ho:o.op=.call { callee:=.builtin .append,args:=#[s,x],argTypes:=#[t,t] })
  (base:Nat) (e:TypeId) (i:TypeInfo) (z:Value) (size bytes:Nat) (ht:P.underlying t=some (.slice e)) (hi:P.info? e=some i) (hz:i.zero=some z)
  (hsize:i.size=size) (hby:i.bytes=bytes) (hzs:z.cells.size=size) (hsz:0<size)
  (v:Value) (n:Nat) (xs:List Value) (hs:a.eval s=v) (hown:w.ownsRow base e size v n xs)
  (xo:Option Addr) (m c:Nat) (news:List Value) (hx:a.eval x=.slice xo m c) (hl:news.length=m*size) (hno:xo=none→m=0∧c=0) (hnews:∀ ad,xo=some ad→∀ j u,news[j]?=some u→w.cell? (ad.add j)=some u) (h1:∀ u∈news,u.oneCell'=true)
  (h63:n+m≤maxLen) (hbytes:(n+m)*bytes≤140737488355328) (hbase:base≤w.heap.size)
  (h:∀ v' w',w'.ownsRow base e size v' (n+m) (xs ++ news)→w.grownBy w' v.ownBlock→K (a.put o.dst v') w'):o.wp P a w K Q:=by
 cases xo with
 | some ad=>exact wp_append_own w s x t ho base e i z size bytes ht hi hz hsize hby hzs hsz v n xs hs hown ad m c news hx hl (hnews ad rfl) h1 h63 hbytes hbase (fun v' w' q1 q2 _=>h v' w' q1 q2)
 | none=>
  obtain ⟨rfl,rfl⟩:=hno rfl;obtain rfl:news=[]:=List.eq_nil_of_length_eq_zero (by rw [hl,Nat.zero_mul]);have hr:=run_append_owned_none (P:=P) (w:=w) base t o.type e i size ht hi v n xs hown;unfold Oper.wp execOp;simp only [ho,resolve,invoke,builtin,Sem.run_bind,Sem.run_pure,Result.andThen_ok,List.map_toArray,List.map_cons,List.map_nil,hs,hx,hr];exact h v w (by rw [Nat.add_zero,List.append_nil];exact hown) (World.grownBy.refl _ _)
theorem own_apart {w:World} {B B' s s' n n':Nat} {T T':TypeId} {v v':Value} {xs xs':List Value} (h:w.ownsRow B T s v n xs) (g:w.ownsRow B' T' s' v' n' xs') (hT:T≠T'):v.ownBlock=none∨v.ownBlock≠v'.ownBlock:=by
 rcases h.2 with ⟨rfl,_⟩ | ⟨b,c,cur,rfl,_,h2,_⟩
 ·exact .inl rfl
 ·rcases g.2 with ⟨rfl,_⟩ | ⟨b',c',cur',rfl,_,g2,_⟩
  ·exact .inr (by simp [Value.ownBlock])
  ·refine .inr (fun e=>?_)
   have e:b=b':=Option.some.inj e;subst e;rw [h2] at g2;injection g2 with g2;injection g2 with _ g3 _;exact hT g3
set_option maxHeartbeats 4000000 in
theorem c_s_CopyH {w:World} {ea ra:Option Addr} {n c m d:Nat} {E R:List Int} (h1:E.length=n) (h2:R.length=m) (l1:n≤1048576) (l2:m≤1048576) (c1:ea=none→c=0) (c2:ra=none→d=0) (hE:NumsAt .u64 w ea E) (hR:NumsAt .i64 w ra R) :
  Calls Tryz.prog 143 #[.agg #[.slice ea n c,.slice ra m d]] w fun e w'=>∃ v,e=.returned v∧HlOut w' w.heap.size v E R∧Below w.heap.size w w':=by
 obtain ⟨i0,hi,hz0,hz1,hz2⟩:=info_parts infoUint64S;obtain ⟨j0,hj,hy0,hy1,hy2⟩:=info_parts infoInt64S;have HE:=hide hE;have HR:=hide hR;have H1:=hide h1;have H2:=hide h2;have C1:=hide c1;have C2:=hide c2;have HBa:Hid (∀ o1 o2,Below w.heap.size w ((w.alloc o1).alloc o2)):=fun o1 o2=>((Below.refl _ _).alloc (Nat.le_refl _) _).alloc (by simp) _;clear hE hR h1 h2 c1 c2;go_enter Tryz.func143,Tryz.ntmps143;go_wp2_with fail;generalize hW0:(w.alloc (Obj.cells #[.slice ea n c,.slice ra m d] 65)).alloc (Obj.cells #[.slice none 0 0,.slice none 0 0] 65)=W0;have T0:Below w.heap.size w W0:=by rw [← hW0];exact HBa.out _ _
 have KR:=two_cell w 65 65 (.slice ea n c) (.slice ra m d) (.slice none 0 0) (.slice none 0 0) W0 (by rw [hW0];exact Below.refl _ _);have hsz0:W0.heap.size=w.heap.size+2:=by rw [← hW0];simp
 clear hW0;have HT0:=hide T0;have hC:∀ W,Below W0.heap.size W0 W→HlCell W w.heap.size (.slice ea n c) (.slice ra m d)∧W.heap[w.heap.size+1]?=some (.cells #[.slice none 0 0,.slice none 0 0] 65 (0,0)):=fun W hW=>⟨hl_past KR.1 hW,by rw [hW.block _ (by omega)];exact KR.2⟩;have HC:=hide hC;clear T0 hC KR;have HSd:Hid (Below W0.heap.size W0 W0.drew):=(Below.refl _ _).drew;refine regionK (fun W=>Below W0.heap.size W0 W) 9 (by kernel_rfl) ?_;generalize W0.drew=Wd at HSd ⊢;refine tkL (i:=1) (v:=.pointer (some ⟨w.heap.size,0,none⟩)) rfl rfl HSd.out (fun W hW=>?_) ?_
 ·obtain ⟨⟨x0,x1⟩,_⟩:=HC.out W hW
  clear hW;go_simp
 try simp only [List.setIfInBounds_toArray,List.set_cons_zero,List.set_cons_succ]
 refine tkL (i:=2) (v:=.slice ea n c) rfl rfl HSd.out (fun W hW=>?_) ?_
 ·obtain ⟨⟨x0,x1⟩,_⟩:=HC.out W hW
  clear hW;go_simp
 try simp only [List.setIfInBounds_toArray,List.set_cons_zero,List.set_cons_succ]
 refine tkL (i:=5) (v:=.pointer (some ⟨w.heap.size,1,none⟩)) rfl rfl HSd.out (fun W hW=>?_) ?_
 ·obtain ⟨⟨x0,x1⟩,_⟩:=HC.out W hW
  clear hW;go_simp
 try simp only [List.setIfInBounds_toArray,List.set_cons_zero,List.set_cons_succ]
 refine tkL (i:=6) (v:=.slice ra m d) rfl rfl HSd.out (fun W hW=>?_) ?_
 ·obtain ⟨⟨x0,x1⟩,_⟩:=HC.out W hW
  clear hW;go_simp
 try simp only [List.setIfInBounds_toArray,List.set_cons_zero,List.set_cons_succ]
 refine twoK (i:=0) (j:=4) (by kernel_rfl) rfl rfl (fun K hK=>?_) (fun K hK=>?_)
 ·go_simp
  refine hK.out _ _ (fun _=>HSd.out.alloc HSd.out.size _) ?_;clear hK K
  try simp only [Act.put,sA,sB,sC]
  obtain ⟨s1,es1⟩:∃ s,s=Wd.heap.size:=⟨_,rfl⟩;have M1:(Wd.alloc (.cells #[] 56)).ownsRow W0.heap.size 56 1 (.slice (some ⟨s1,0,none⟩) 0 0) 0 []:=by rw [es1];exact World.ownsRow_made Wd #[] 0 HSd.out.size (Nat.zero_le _) rfl
  have S1:Hid (Below W0.heap.size W0 (Wd.alloc (.cells #[] 56))):=HSd.out.alloc HSd.out.size _;have O1:=hide M1;rw [← es1];generalize Wd.alloc (.cells #[] 56)=Wa1 at *;clear M1 es1;refine twoK (i:=3) (j:=4) (by kernel_rfl) rfl rfl (fun K hK=>?_) (fun K hK=>?_)
  ·rw [if_pos (by rfl)]
   refine wp_append_nilN _ (.tmp 3) (.tmp 5) 62 rfl W0.heap.size 56 i0 (.int .u64 0) 1 8 Tryz.underlying62 hi hz0 hz1 hz2 rfl (by decide) _ _ _ rfl O1.out ea n c (E.map (Value.int .u64)) rfl (by simp [H1.out]) (fun e=>⟨nil_len HE.out H1.out e,C1.out e⟩) (nums_nw (nums_past HE.out (chain HT0.out S1.out))) (one_map _ _) (by unfold maxLen;omega) (by omega) S1.out.size ?_;intro v2 wb2 hown2 hgrow2;simp only [Nat.zero_add,List.nil_append] at hown2;obtain ⟨a2,b2,rfl⟩:=own_any hown2;have O2:=hide hown2;have S2:=hide (S1.out.grown hgrow2 S1.out.size (fun j hj=>own_ltB O1.out j hj));refine hK.out _ _ (fun _=>S2.out) ?_;clear hK K
   try simp only [Act.put,sA,sB,sC]
   clear hown2 hgrow2;refine onE (i:=4) rfl (fun K hK=>?_);go_simp;refine hK.out _ _ (fun _=>S2.out.alloc S2.out.size _) ?_;clear hK K
   try simp only [Act.put,sA,sB,sC]
   obtain ⟨s3,es3⟩:∃ s,s=wb2.heap.size:=⟨_,rfl⟩;have M3:(wb2.alloc (.cells #[] 2)).ownsRow W0.heap.size 2 1 (.slice (some ⟨s3,0,none⟩) 0 0) 0 []:=by rw [es3];exact World.ownsRow_made wb2 #[] 0 S2.out.size (Nat.zero_le _) rfl
   have S3:Hid (Below W0.heap.size W0 (wb2.alloc (.cells #[] 2))):=S2.out.alloc S2.out.size _;have Q3u:=hide (O2.out.alloc (.cells #[] 2));have O3:=hide M3;rw [← es3];generalize wb2.alloc (.cells #[] 2)=Wa3 at *;clear M3 es3;refine onE (i:=7) rfl (fun K hK=>?_);rw [if_pos (by rfl)];refine wp_append_nilN _ (.tmp 7) (.tmp 9) 63 rfl W0.heap.size 2 j0 (.int .i64 0) 1 8 Tryz.underlying63 hj hy0 hy1 hy2 rfl (by decide) _ _ _ rfl O3.out ra m d (R.map (Value.int .i64)) rfl (by simp [H2.out]) (fun e=>⟨nil_len HR.out H2.out e,C2.out e⟩) (nums_nw (nums_past HR.out (chain HT0.out S3.out))) (one_map _ _) (by unfold maxLen;omega) (by omega) S3.out.size ?_;intro v4 wb4 hown4 hgrow4;simp only [Nat.zero_add,List.nil_append] at hown4;obtain ⟨a4,b4,rfl⟩:=own_any hown4;have O4:=hide hown4;have S4:=hide (S3.out.grown hgrow4 S3.out.size (fun j hj=>own_ltB O3.out j hj));have Q4u:=hide (Q3u.out.kept hgrow4 (own_apart Q3u.out O3.out (by decide)));refine hK.out _ _ (fun _=>S4.out) ?_;clear hK K
   try simp only [Act.put,sA,sB,sC]
   clear hown4 hgrow4;refine tkL (i:=8) (v:=.agg #[.slice a2 n b2,.slice a4 m b4]) rfl rfl S4.out (fun W hW=>?_) ?_
   ·obtain ⟨⟨x0,x1⟩,_⟩:=HC.out W hW
    clear hW;go_simp
   try simp only [List.setIfInBounds_toArray,List.set_cons_zero,List.set_cons_succ]
   have R2:=(HC.out _ S4.out).2;have q0:wb4.cell? ⟨w.heap.size+1,0,none⟩=some (.slice none 0 0):=by rw [cell_of_row _ _ 0 _ _ (0,0) R2];rfl
   have q1:wb4.cell? ⟨w.heap.size+1,1,none⟩=some (.slice none 0 0):=by rw [cell_of_row _ _ 1 _ _ (0,0) R2];rfl
   have f0:=fzR 0 R2;have f1:=fzR 1 R2;refine onE (i:=9) rfl (fun K hK=>?_);go_simp;refine hK.out _ _ (fun h=>absurd rfl h) ?_;clear hK K
   try simp only [Act.put,sA,sB,sC]
   refine doneK (by kernel_rfl) ?_ _;go_wp2;refine bodyPost_ret (v:=.agg #[.slice a2 n b2,.slice a4 m b4]) (by simp [results,Tryz.results143,go_sem,q0,q1]) rfl ⟨_,rfl,⟨_,_,rfl,?_,?_⟩,?_⟩
   ·refine own_le (B:=W0.heap.size) ?_ (by omega)
    repeat (refine ownsRow_setCell_below ?_ (by simp;omega) _)
    rw [H1.out];exact Q4u.out
   ·refine own_le (B:=W0.heap.size) ?_ (by omega)
    repeat (refine ownsRow_setCell_below ?_ (by simp;omega) _)
    rw [H2.out];exact O4.out
   ·repeat (refine Below.setCell ?_ (by simp <;> omega) _)
    exact chain HT0.out S4.out
  ·go_simp
   refine hK.out _ _ (fun _=>S1.out.alloc S1.out.size _) ?_;clear hK K
   try simp only [Act.put,sA,sB,sC]
   obtain ⟨s2,es2⟩:∃ s,s=Wa1.heap.size:=⟨_,rfl⟩;have M2:(Wa1.alloc (.cells #[] 2)).ownsRow W0.heap.size 2 1 (.slice (some ⟨s2,0,none⟩) 0 0) 0 []:=by rw [es2];exact World.ownsRow_made Wa1 #[] 0 S1.out.size (Nat.zero_le _) rfl
   have S2:Hid (Below W0.heap.size W0 (Wa1.alloc (.cells #[] 2))):=S1.out.alloc S1.out.size _;have Q2u:=hide (O1.out.alloc (.cells #[] 2));have O2:=hide M2;rw [← es2];generalize Wa1.alloc (.cells #[] 2)=Wa2 at *;clear M2 es2;refine onE (i:=3) rfl (fun K hK=>?_);rw [if_pos (by rfl)];refine wp_append_nilN _ (.tmp 3) (.tmp 5) 62 rfl W0.heap.size 56 i0 (.int .u64 0) 1 8 Tryz.underlying62 hi hz0 hz1 hz2 rfl (by decide) _ _ _ rfl Q2u.out ea n c (E.map (Value.int .u64)) rfl (by simp [H1.out]) (fun e=>⟨nil_len HE.out H1.out e,C1.out e⟩) (nums_nw (nums_past HE.out (chain HT0.out S2.out))) (one_map _ _) (by unfold maxLen;omega) (by omega) S2.out.size ?_;intro v3 wb3 hown3 hgrow3;simp only [Nat.zero_add,List.nil_append] at hown3;obtain ⟨a3,b3,rfl⟩:=own_any hown3;have O3:=hide hown3;have S3:=hide (S2.out.grown hgrow3 S2.out.size (fun j hj=>own_ltB Q2u.out j hj));have Q3i:=hide (O2.out.kept hgrow3 (own_apart O2.out Q2u.out (by decide)));refine hK.out _ _ (fun _=>S3.out) ?_;clear hK K
   try simp only [Act.put,sA,sB,sC]
   clear hown3 hgrow3;refine onE (i:=7) rfl (fun K hK=>?_);rw [if_pos (by rfl)];refine wp_append_nilN _ (.tmp 7) (.tmp 9) 63 rfl W0.heap.size 2 j0 (.int .i64 0) 1 8 Tryz.underlying63 hj hy0 hy1 hy2 rfl (by decide) _ _ _ rfl Q3i.out ra m d (R.map (Value.int .i64)) rfl (by simp [H2.out]) (fun e=>⟨nil_len HR.out H2.out e,C2.out e⟩) (nums_nw (nums_past HR.out (chain HT0.out S3.out))) (one_map _ _) (by unfold maxLen;omega) (by omega) S3.out.size ?_;intro v4 wb4 hown4 hgrow4;simp only [Nat.zero_add,List.nil_append] at hown4;obtain ⟨a4,b4,rfl⟩:=own_any hown4;have O4:=hide hown4;have S4:=hide (S3.out.grown hgrow4 S3.out.size (fun j hj=>own_ltB Q3i.out j hj));have Q4u:=hide (O3.out.kept hgrow4 (own_apart O3.out Q3i.out (by decide)));refine hK.out _ _ (fun _=>S4.out) ?_;clear hK K
   try simp only [Act.put,sA,sB,sC]
   clear hown4 hgrow4;refine tkL (i:=8) (v:=.agg #[.slice a3 n b3,.slice a4 m b4]) rfl rfl S4.out (fun W hW=>?_) ?_
   ·obtain ⟨⟨x0,x1⟩,_⟩:=HC.out W hW
    clear hW;go_simp
   try simp only [List.setIfInBounds_toArray,List.set_cons_zero,List.set_cons_succ]
   have R2:=(HC.out _ S4.out).2;have q0:wb4.cell? ⟨w.heap.size+1,0,none⟩=some (.slice none 0 0):=by rw [cell_of_row _ _ 0 _ _ (0,0) R2];rfl
   have q1:wb4.cell? ⟨w.heap.size+1,1,none⟩=some (.slice none 0 0):=by rw [cell_of_row _ _ 1 _ _ (0,0) R2];rfl
   have f0:=fzR 0 R2;have f1:=fzR 1 R2;refine onE (i:=9) rfl (fun K hK=>?_);go_simp;refine hK.out _ _ (fun h=>absurd rfl h) ?_;clear hK K
   try simp only [Act.put,sA,sB,sC]
   refine doneK (by kernel_rfl) ?_ _;go_wp2;refine bodyPost_ret (v:=.agg #[.slice a3 n b3,.slice a4 m b4]) (by simp [results,Tryz.results143,go_sem,q0,q1]) rfl ⟨_,rfl,⟨_,_,rfl,?_,?_⟩,?_⟩
   ·refine own_le (B:=W0.heap.size) ?_ (by omega)
    repeat (refine ownsRow_setCell_below ?_ (by simp;omega) _)
    rw [H1.out];exact Q4u.out
   ·refine own_le (B:=W0.heap.size) ?_ (by omega)
    repeat (refine ownsRow_setCell_below ?_ (by simp;omega) _)
    rw [H2.out];exact O4.out
   ·repeat (refine Below.setCell ?_ (by simp <;> omega) _)
    exact chain HT0.out S4.out
 ·go_simp
  refine hK.out _ _ (fun _=>HSd.out.alloc HSd.out.size _) ?_;clear hK K
  try simp only [Act.put,sA,sB,sC]
  obtain ⟨s1,es1⟩:∃ s,s=Wd.heap.size:=⟨_,rfl⟩;have M1:(Wd.alloc (.cells #[] 2)).ownsRow W0.heap.size 2 1 (.slice (some ⟨s1,0,none⟩) 0 0) 0 []:=by rw [es1];exact World.ownsRow_made Wd #[] 0 HSd.out.size (Nat.zero_le _) rfl
  have S1:Hid (Below W0.heap.size W0 (Wd.alloc (.cells #[] 2))):=HSd.out.alloc HSd.out.size _;have O1:=hide M1;rw [← es1];generalize Wd.alloc (.cells #[] 2)=Wa1 at *;clear M1 es1;refine onE (i:=0) rfl (fun K hK=>?_);go_simp;refine hK.out _ _ (fun _=>S1.out.alloc S1.out.size _) ?_;clear hK K
  try simp only [Act.put,sA,sB,sC]
  obtain ⟨s2,es2⟩:∃ s,s=Wa1.heap.size:=⟨_,rfl⟩;have M2:(Wa1.alloc (.cells #[] 56)).ownsRow W0.heap.size 56 1 (.slice (some ⟨s2,0,none⟩) 0 0) 0 []:=by rw [es2];exact World.ownsRow_made Wa1 #[] 0 S1.out.size (Nat.zero_le _) rfl
  have S2:Hid (Below W0.heap.size W0 (Wa1.alloc (.cells #[] 56))):=S1.out.alloc S1.out.size _;have Q2i:=hide (O1.out.alloc (.cells #[] 56));have O2:=hide M2;rw [← es2];generalize Wa1.alloc (.cells #[] 56)=Wa2 at *;clear M2 es2;refine onE (i:=3) rfl (fun K hK=>?_);rw [if_pos (by rfl)];refine wp_append_nilN _ (.tmp 3) (.tmp 5) 62 rfl W0.heap.size 56 i0 (.int .u64 0) 1 8 Tryz.underlying62 hi hz0 hz1 hz2 rfl (by decide) _ _ _ rfl O2.out ea n c (E.map (Value.int .u64)) rfl (by simp [H1.out]) (fun e=>⟨nil_len HE.out H1.out e,C1.out e⟩) (nums_nw (nums_past HE.out (chain HT0.out S2.out))) (one_map _ _) (by unfold maxLen;omega) (by omega) S2.out.size ?_;intro v3 wb3 hown3 hgrow3;simp only [Nat.zero_add,List.nil_append] at hown3;obtain ⟨a3,b3,rfl⟩:=own_any hown3;have O3:=hide hown3;have S3:=hide (S2.out.grown hgrow3 S2.out.size (fun j hj=>own_ltB O2.out j hj));have Q3i:=hide (Q2i.out.kept hgrow3 (own_apart Q2i.out O2.out (by decide)));refine hK.out _ _ (fun _=>S3.out) ?_;clear hK K
  try simp only [Act.put,sA,sB,sC]
  clear hown3 hgrow3;refine onE (i:=7) rfl (fun K hK=>?_);rw [if_pos (by rfl)];refine wp_append_nilN _ (.tmp 7) (.tmp 9) 63 rfl W0.heap.size 2 j0 (.int .i64 0) 1 8 Tryz.underlying63 hj hy0 hy1 hy2 rfl (by decide) _ _ _ rfl Q3i.out ra m d (R.map (Value.int .i64)) rfl (by simp [H2.out]) (fun e=>⟨nil_len HR.out H2.out e,C2.out e⟩) (nums_nw (nums_past HR.out (chain HT0.out S3.out))) (one_map _ _) (by unfold maxLen;omega) (by omega) S3.out.size ?_;intro v4 wb4 hown4 hgrow4;simp only [Nat.zero_add,List.nil_append] at hown4;obtain ⟨a4,b4,rfl⟩:=own_any hown4;have O4:=hide hown4;have S4:=hide (S3.out.grown hgrow4 S3.out.size (fun j hj=>own_ltB Q3i.out j hj));have Q4u:=hide (O3.out.kept hgrow4 (own_apart O3.out Q3i.out (by decide)));refine hK.out _ _ (fun _=>S4.out) ?_;clear hK K
  try simp only [Act.put,sA,sB,sC]
  clear hown4 hgrow4;refine tkL (i:=8) (v:=.agg #[.slice a3 n b3,.slice a4 m b4]) rfl rfl S4.out (fun W hW=>?_) ?_
  ·obtain ⟨⟨x0,x1⟩,_⟩:=HC.out W hW
   clear hW;go_simp
  try simp only [List.setIfInBounds_toArray,List.set_cons_zero,List.set_cons_succ]
  have R2:=(HC.out _ S4.out).2;have q0:wb4.cell? ⟨w.heap.size+1,0,none⟩=some (.slice none 0 0):=by rw [cell_of_row _ _ 0 _ _ (0,0) R2];rfl
  have q1:wb4.cell? ⟨w.heap.size+1,1,none⟩=some (.slice none 0 0):=by rw [cell_of_row _ _ 1 _ _ (0,0) R2];rfl
  have f0:=fzR 0 R2;have f1:=fzR 1 R2;refine onE (i:=9) rfl (fun K hK=>?_);go_simp;refine hK.out _ _ (fun h=>absurd rfl h) ?_;clear hK K
  try simp only [Act.put,sA,sB,sC]
  refine doneK (by kernel_rfl) ?_ _;go_wp2;refine bodyPost_ret (v:=.agg #[.slice a3 n b3,.slice a4 m b4]) (by simp [results,Tryz.results143,go_sem,q0,q1]) rfl ⟨_,rfl,⟨_,_,rfl,?_,?_⟩,?_⟩
  ·refine own_le (B:=W0.heap.size) ?_ (by omega)
   repeat (refine ownsRow_setCell_below ?_ (by simp;omega) _)
   rw [H1.out];exact Q4u.out
  ·refine own_le (B:=W0.heap.size) ?_ (by omega)
   repeat (refine ownsRow_setCell_below ?_ (by simp;omega) _)
   rw [H2.out];exact O4.out
  ·repeat (refine Below.setCell ?_ (by simp <;> omega) _)
   exact chain HT0.out S4.out
end
section
open Go.ChangeShapes Go.WideShapes Go.ChangeAt Go.RowKit Go.PlainAid Go.Maps
set_option maxRecDepth 10000
theorem nums_own {kd:IntKind} {w:World} {B n c:Nat} {ao:Option Addr} {T:TypeId} {L:List Int} (h:w.ownsRow B T 1 (.slice ao n c) L.length (L.map (Value.int kd))):NumsAt kd w ao L∧Flat ao∧n=L.length∧n≤c∧c≤maxLen∧(ao=none→c=0):=by
 rcases h.2 with ⟨e,h0⟩ | ⟨g,cap,cur,e,h1,h2,h3,h4,h5,h6⟩
 ·cases e
  exact ⟨fun h=>by omega,.inl rfl,h0.symm,Nat.le_refl _,Nat.zero_le _,fun _=>rfl⟩
 ·cases e
  refine ⟨fun _=>⟨g,0,rfl,fun i x hx=>?_⟩,.inr ⟨g,0,rfl⟩,rfl,h3,h4,fun e=>by cases e⟩;have hi:=(List.getElem?_eq_some_iff.1 hx).1;rw [Nat.zero_add,h.cellAt i (by omega),List.getElem?_map,hx];rfl
end
section
open Go.ChangeShapes Go.WideShapes Go.ChangeAt Go.RowKit Go.PlainAid Go.Lib
set_option maxRecDepth 10000
def OwnB (w:World) (B:Nat) (v:Value) (n:Nat) (L:List Bn):Prop:=n=L.length∧((v=.slice none 0 0∧n=0)∨∃ b off c cur,v=.slice (some ⟨b,off,none⟩) n c∧B≤b∧w.heap[b]?=some (.cells cur 128 (0,0))∧(∀ (j:Nat) (q:Value),(fl encB L)[j]?=some q→cur[off+j]?=some q)∧n≤c∧c≤maxLen∧off+c*2≤cur.size)
theorem OwnB.past {w w':World} {B:Nat} {v:Value} {n:Nat} {L:List Bn} (h:OwnB w B v n L) (hb:Below w.heap.size w w'):OwnB w' B v n L:=by
 refine ⟨h.1,?_⟩;rcases h.2 with h | ⟨b,off,c,cur,e,h1,h2,h3⟩
 ·exact .inl h
 ·exact .inr ⟨b,off,c,cur,e,h1,by rw [hb.block b (Array.getElem?_eq_some_iff.1 h2).1];exact h2,h3⟩
theorem OwnB.any {w:World} {B:Nat} {v:Value} {n:Nat} {L:List Bn} (h:OwnB w B v n L):∃ ao c,v=.slice ao n c:=by
 rcases h.2 with ⟨e,e2⟩ | ⟨b,off,c,cur,e,_⟩
 ·subst e2;exact ⟨_,_,e⟩
 ·exact ⟨_,_,e⟩
theorem OwnB.at {w:World} {B:Nat} {n c:Nat} {ao:Option Addr} {L:List Bn} (h:OwnB w B (.slice ao n c) n L):BinsAt w ao L:=fun h0=>by
 rcases h.2 with ⟨e,e2⟩ | ⟨b,off,c,cur,e,h1,h2,h3⟩
 ·have:=h.1;omega
 ·cases e
  refine ⟨b,off,rfl,fun i x hx=>?_⟩;have e0:=fl_at encB2 L i x 0 (by omega) hx;have e1:=fl_at encB2 L i x 1 (by omega) hx;rw [Nat.add_zero] at e0;exact ⟨by rw [cell_of_row w b _ _ _ (0,0) h2];exact h3.1 _ _ e0,by rw [cell_of_row w b _ _ _ (0,0) h2,Nat.add_assoc];exact h3.1 _ _ e1⟩
theorem OwnB.of {w:World} {B:Nat} {v:Value} {n:Nat} {L:List Bn} (h:w.ownsRow B 128 2 v n (fl encB L)) (hn:n=L.length):OwnB w B v n L:=by
 refine ⟨hn,?_⟩;rcases h.2 with ⟨e,e2⟩ | ⟨g,cap,cur,e,h1,h2,h3,h4,h5,h6⟩
 ·exact .inl ⟨e,e2⟩
 ·refine .inr ⟨g,0,cap,cur,e,h1,h2,fun j q hq=>?_,h3,h4,by omega⟩
  rw [← h6,List.getElem?_take] at hq
  split at hq
  ·rw [Nat.zero_add];rwa [Array.getElem?_toList] at hq
  ·cases hq
end
section
open Go.ChangeShapes Go.WideShapes Go.ChangeAt Go.RowKit Go.PlainAid Go.Lib
set_option maxRecDepth 10000
theorem OwnB.le {w:World} {B B':Nat} {v:Value} {n:Nat} {L:List Bn} (h:OwnB w B v n L) (hb:B'≤B):OwnB w B' v n L:=by
 refine ⟨h.1,?_⟩;rcases h.2 with h | ⟨b,off,c,cur,e,h1,h2,h3⟩
 ·exact .inl h
 ·exact .inr ⟨b,off,c,cur,e,Nat.le_trans hb h1,h2,h3⟩
theorem OwnB.lt {w:World} {B:Nat} {v:Value} {n:Nat} {L:List Bn} (h:OwnB w B v n L):∀ k,v.ownBlock=some k→B≤k∧k<w.heap.size:=fun k e=>by
 rcases h.2 with ⟨e1,_⟩ | ⟨b,off,c,cur,e1,h1,h2,h3⟩
 ·rw [e1] at e;cases e
 ·rw [e1] at e;cases e;exact ⟨h1,(Array.getElem?_eq_some_iff.1 h2).1⟩
theorem OwnB.ne {w:World} {B:Nat} {v:Value} {n:Nat} {L:List Bn} (h:OwnB w B v n L) {r:Nat} {cs:Array Value} {T:TypeId} {fz:Nat×Nat} (hr:w.heap[r]?=some (.cells cs T fz)) (hT:T≠128):v.ownBlock≠some r:=fun e=>by
 rcases h.2 with ⟨e1,_⟩ | ⟨b,off,c,cur,e1,h1,h2,h3⟩
 ·rw [e1] at e;cases e
 ·rw [e1] at e;cases e;rw [h2] at hr;cases hr;exact hT rfl
theorem OwnB.kept {w w':World} {B:Nat} {v:Value} {n:Nat} {L:List Bn} {r:Option Nat} (h:OwnB w B v n L) (hg:w.grownBy w' r) (hne:v.ownBlock=none∨v.ownBlock≠r):OwnB w' B v n L:=by
 refine ⟨h.1,?_⟩;rcases h.2 with h | ⟨b,off,c,cur,e,h1,h2,h3⟩
 ·exact .inl h
 ·refine .inr ⟨b,off,c,cur,e,h1,?_,h3⟩
  rw [hg.block b (Array.getElem?_eq_some_iff.1 h2).1 (fun e2=>by
   rw [e] at hne;rcases hne with h | h
   ·cases h
   ·exact h e2)]
  exact h2
theorem OwnB.set {w:World} {B:Nat} {v:Value} {n:Nat} {L:List Bn} (h:OwnB w B v n L) {a:Addr} (hne:v.ownBlock≠some a.block) (u:Value):OwnB (w.setCell a u) B v n L:=
 h.kept (r:=some a.block) ⟨rfl,rfl,rfl,by simp [World.setCell],fun k hk hn=>Below.heap_setCell _ _ _ _ (fun e=>hn (by rw [e]))⟩ (.inr hne)
def Apart (p n:Value):Prop:=∀ k,p.ownBlock=some k→n.ownBlock≠some k
def SkOut (w:World) (B:Nat) (v:Value) (z:Int) (P N:List Bn) (h l:Int):Prop:=∃ p n pn nn,v=.agg #[.int .u64 z,p,n,.int .i64 h,.int .u64 l]∧OwnB w B p pn P∧OwnB w B n nn N∧Apart p n
abbrev zeroSk:Array Value:=#[.int .u64 0,.slice none 0 0,.slice none 0 0,.int .i64 0,.int .u64 0]
theorem cell5 {w:World} {r:Nat} {T:TypeId} {u0 u1 u2 u3 u4:Value} (h:w.heap[r]?=some (.cells #[u0,u1,u2,u3,u4] T (0,0))) :
  w.cell? ⟨r,0,none⟩=some u0∧w.cell? ⟨r,1,none⟩=some u1∧w.cell? ⟨r,2,none⟩=some u2∧w.cell? ⟨r,3,none⟩=some u3∧w.cell? ⟨r,4,none⟩=some u4:=
 ⟨by rw [cell_of_row w r 0 _ _ (0,0) h];rfl,by rw [cell_of_row w r 1 _ _ (0,0) h];rfl,by rw [cell_of_row w r 2 _ _ (0,0) h];rfl,by rw [cell_of_row w r 3 _ _ (0,0) h];rfl,by rw [cell_of_row w r 4 _ _ (0,0) h];rfl⟩
end
section
open Go.ChangeShapes Go.WideShapes Go.ChangeAt Go.RowKit Go.PlainAid Go.Lib
set_option maxRecDepth 10000
theorem bins_list {w:World} {A:Addr} {L:List Bn} (hA:BinsAt w (some A) L):∀ j z,(fl encB L)[j]?=some z→w.cell? (A.add j)=some z:=fun j z hz=>by
 have hj:=(List.getElem?_eq_some_iff.1 hz).1;rw [fl_len encB2] at hj;obtain ⟨b,off,e,hcell⟩:=hA (by omega)
 cases e
 obtain ⟨x,hx⟩:∃ x,L[j / 2]?=some x:=⟨L[j / 2]'(by omega),List.getElem?_eq_getElem (by omega)⟩;have h1:=fl_at encB2 L (j / 2) x (j % 2) (by omega) hx;rw [show j / 2*2+j % 2=j by omega,hz] at h1;have hc:=hcell (j / 2) x hx;rw [Addr.add_lit];have:j % 2=0∨j % 2=1:=by omega
 rcases this with e | e
 ·rw [e] at h1;rw [show off+j=off+j / 2*2 by omega,hc.1];simpa [encB] using h1.symm
 ·rw [e] at h1;rw [show off+j=off+j / 2*2+1 by omega,hc.2];simpa [encB] using h1.symm
theorem bins_nil {w:World} {L:List Bn} {n:Nat} (h:BinsAt w none L) (hn:L.length=n):n=0:=by
 rcases Nat.eq_zero_or_pos n with e | e
 ·exact e
 ·obtain ⟨b,off,e1,_⟩:=h (by omega);cases e1
theorem wpList_append_nil {P:Program} (w:World) {ops:Array Oper} {rest:List Oper} {o:Oper} {a:Act} {Q:Exit→Act→World→Prop} (hgd:o.guard=none) (s x:Operand) (t:TypeId)
  (ho:o.op=.call { callee:=.builtin .append,args:=#[s,x],argTypes:=#[t,t] })
  (base:Nat) (e:TypeId) (i:TypeInfo) (z:Value) (size bytes:Nat) (ht:P.underlying t=some (.slice e)) (hi:P.info? e=some i) (hz:i.zero=some z)
  (hsize:i.size=size) (hby:i.bytes=bytes) (hzs:z.cells.size=size) (hsz:0<size)
  (v:Value) (n:Nat) (xs:List Value) (hs:a.eval s=v) (hown:w.ownsRow base e size v n xs)
  (xo:Option Addr) (m c:Nat) (news:List Value) (hx:a.eval x=.slice xo m c) (hl:news.length=m*size) (hno:xo=none→m=0∧c=0) (hnews:∀ ad,xo=some ad→∀ j u,news[j]?=some u→w.cell? (ad.add j)=some u) (h1:∀ u∈news,u.oneCell'=true)
  (h63:n+m≤maxLen) (hbytes:(n+m)*bytes≤140737488355328) (hbase:base≤w.heap.size)
  (h:∀ v' w',w'.ownsRow base e size v' (n+m) (xs ++ news)→w.grownBy w' v.ownBlock→(v'=.slice none 0 0↔v=.slice none 0 0∧m=0)→wpList P ops Q rest (a.put o.dst v') w'):wpList P ops Q (o :: rest) a w:=by
 cases xo with
 | some ad=>exact wpList_append_own w hgd s x t ho base e i z size bytes ht hi hz hsize hby hzs hsz v n xs hs hown ad m c news hx hl (hnews ad rfl) h1 h63 hbytes hbase h
 | none=>
  obtain ⟨rfl,rfl⟩:=hno rfl;obtain rfl:news=[]:=List.eq_nil_of_length_eq_zero (by rw [hl,Nat.zero_mul]);refine wpList_plain hgd fun _ hK=>?_;have hr:=run_append_owned_none (P:=P) (w:=w) base t o.type e i size ht hi v n xs hown;unfold Oper.wp execOp;simp only [ho,resolve,invoke,builtin,Sem.run_bind,Sem.run_pure,Result.andThen_ok,List.map_toArray,List.map_cons,List.map_nil,hs,hx,hr];exact hK _ _ (h v w (by rw [Nat.add_zero,List.append_nil];exact hown) (World.grownBy.refl _ _) (by simp))
structure CopyAt (w w1:World) (z h l:Int) (n1 n:Value) (pn:Nat) (P:List Bn):Prop where
 bel:∀ o,Below w.heap.size w ((w1.setCell ⟨w.heap.size,1,none⟩ n1).alloc o)
 made:((w1.setCell ⟨w.heap.size,1,none⟩ n1).alloc (.cells #[] 128)).ownsRow w1.heap.size 128 2 (.slice (some ⟨w1.heap.size,0,none⟩) 0 0) 0 []
 grow:∀ {o W},((w1.setCell ⟨w.heap.size,1,none⟩ n1).alloc o).grownBy W (some w1.heap.size)→Below w.heap.size w W∧W.heap[w.heap.size]?=some (.cells #[.int .u64 z,n1,n,.int .i64 h,.int .u64 l] 61 (0,0))∧W.heap[w.heap.size+1]?=some (.cells zeroSk 61 (0,0))∧OwnB W w.heap.size n1 pn P
 lt:∀ k,n1.ownBlock=some k→k<w1.heap.size
 le:w.heap.size≤w1.heap.size
theorem copy_step {w w1:World} {z h l:Int} {p n1 n:Value} {pn:Nat} {P:List Bn} (hT:Below w.heap.size w w1) (hR:w1.heap[w.heap.size]?=some (.cells #[.int .u64 z,p,n,.int .i64 h,.int .u64 l] 61 (0,0))) (hS:w1.heap[w.heap.size+1]?=some (.cells zeroSk 61 (0,0))) (hO:OwnB w1 w.heap.size n1 pn P) (hz:w.heap.size+1+1<w1.heap.size):CopyAt w w1 z h l n1 n pn P:=by
 have hB:Below w.heap.size w (w1.setCell ⟨w.heap.size,1,none⟩ n1):=hT.setCell (Nat.le_refl _) _;refine ⟨fun o=>hB.alloc (by simp;omega) o,?_,fun {o W} hg=>?_,fun k e=>(hO.lt k e).2,by omega⟩
 ·have:=World.ownsRow_made (base:=w1.heap.size) (e:=128) (size:=2) (w1.setCell ⟨w.heap.size,1,none⟩ n1) #[] 0 (by simp) (Nat.zero_le _) rfl
  simpa using this
 ·have hb:Below w1.heap.size (w1.setCell ⟨w.heap.size,1,none⟩ n1) W:=((Below.refl _ _).alloc (by simp) o).grown hg (by simp) (fun k e=>by cases e;exact Nat.le_refl _)
  have hb':Below (w1.setCell ⟨w.heap.size,1,none⟩ n1).heap.size (w1.setCell ⟨w.heap.size,1,none⟩ n1) W:=hb.mono (by simp);refine ⟨hB.trans (hb.mono (by omega)),?_,?_,(hO.set (hO.ne hR (by decide)) _).past hb'⟩
  ·rw [hb.block _ (by omega)];exact heap_setCell_same w1 w.heap.size 1 _ _ _ hR
  ·rw [hb.block _ (by omega),heap_setCell_other _ _ _ _ (by simp)];exact hS
set_option maxHeartbeats 2000000 in
theorem c_s_l03Copy {w:World} {z h l:Int} {pa na:Option Addr} {pn pc nn nc:Nat} {P N:List Bn} (hp:P.length=pn) (hn:N.length=nn) (lp:pn≤1048576) (ln:nn≤1048576) (hP:BinsAt w pa P) (hN:BinsAt w na N) (cA:pa=none→pc=0) (cA':na=none→nc=0) :
  Calls Tryz.prog 142 #[.agg #[.int .u64 z,.slice pa pn pc,.slice na nn nc,.int .i64 h,.int .u64 l]] w fun e w'=>∃ v,e=.returned v∧SkOut w' w.heap.size v z P N h l∧Below w.heap.size w w':=by
 obtain ⟨i0,hi,hz0,hz1,hz2⟩:=info_parts infoBin;have HP:=hide hP;have HN:=hide hN;have EP:=hide hp;have EN:=hide hn;have CA:=hide cA;have CA':=hide cA';clear hP hN hp hn cA cA';have hW:∀ o1 o2 o3,Below w.heap.size w (((w.alloc o1).alloc o2).alloc o3):=fun o1 o2 o3=>(((Below.refl _ _).alloc (Nat.le_refl _) _).alloc (by simp) _).alloc (by simp;omega) _;have HW:=hide hW
 have hM:∀ o1 o2,(((w.alloc o1).alloc o2).alloc (.cells #[] 128)).ownsRow w.heap.size 128 2 (.slice (some ⟨w.heap.size+1+1,0,none⟩) 0 0) 0 []:=fun o1 o2=>by
  have:=World.ownsRow_made (base:=w.heap.size) (e:=128) (size:=2) ((w.alloc o1).alloc o2) #[] 0 (by simp;omega) (Nat.zero_le _) rfl
  simpa using this
 have HM:=hide hM
 have hG:∀ o3 W,(((w.alloc (.cells #[.int .u64 z,.slice pa pn pc,.slice na nn nc,.int .i64 h,.int .u64 l] 61)).alloc (.cells zeroSk 61)).alloc o3).grownBy W (some (w.heap.size+1+1))→Below w.heap.size w W∧W.heap[w.heap.size]?=some (.cells #[.int .u64 z,.slice pa pn pc,.slice na nn nc,.int .i64 h,.int .u64 l] 61 (0,0))∧W.heap[w.heap.size+1]?=some (.cells zeroSk 61 (0,0))∧w.heap.size+1+1<W.heap.size:=fun o3 W hg=>by
  have hb:Below (w.heap.size+1+1) (((w.alloc (.cells #[.int .u64 z,.slice pa pn pc,.slice na nn nc,.int .i64 h,.int .u64 l] 61)).alloc (.cells zeroSk 61)).alloc o3) W:=(Below.refl _ _).grown hg (by simp) (fun k e=>by cases e;exact Nat.le_refl _);refine ⟨(hW _ _ _).grown hg (by simp;omega) (fun k e=>by cases e;omega),?_,?_,by have:=hg.size;simp at this;omega⟩
  ·rw [hb.block _ (by omega)]
   have h2:Below (w.heap.size+1) (w.alloc (.cells #[.int .u64 z,.slice pa pn pc,.slice na nn nc,.int .i64 h,.int .u64 l] 61)) (((w.alloc (.cells #[.int .u64 z,.slice pa pn pc,.slice na nn nc,.int .i64 h,.int .u64 l] 61)).alloc (.cells zeroSk 61)).alloc o3):=((Below.refl _ _).alloc (by simp) _).alloc (by simp) _;rw [h2.block _ (by omega)];exact heap_alloc_new w _
  ·rw [hb.block _ (by omega)]
   exact mid_row w _ _ _ _
 have HG:=hide hG;clear hW hM hG;go_enter Tryz.func142,Tryz.ntmps142
 go_wp2_with (first
  | (at_builtin;refine wpList_append_nil _ rfl (.tmp 3) (.tmp 5) 59 rfl w.heap.size 128 i0 (.agg #[.int .i64 0,.int .u64 0]) 2 16 Tryz.underlying59 hi hz0 hz1 hz2 rfl (by decide) _ _ _ rfl (HM.out _ _) pa pn pc (fl encB P) rfl (by rw [fl_len encB2,EP.out]) (fun e=>⟨bins_nil (e ▸ HP.out) EP.out,CA.out e⟩) (fun A e=>bins_list (e ▸ bins_past HP.out (HW.out _ _ _))) (fl_oneB _) (by unfold maxLen;omega) (by omega) (by simp;omega) ?_;intro v1 w1 hown1 hgrow1 hnil1;simp only [Nat.zero_add,List.nil_append] at hown1;obtain ⟨ao1,c1,rfl⟩:=own_any hown1;obtain ⟨hT1,hR1,hS1,hz1'⟩:=HG.out _ _ hgrow1;obtain ⟨k0,k1,k2,k3,k4⟩:=cell5 hR1;have f1:=frozen_of_row w1 w.heap.size 1 _ _ hR1;have hO1:=OwnB.of hown1 EP.out.symm;have L1:=hide (copy_step hT1 hR1 hS1 hO1 hz1');have hk2:∀ o,((w1.setCell ⟨w.heap.size,1,none⟩ (.slice ao1 pn c1)).alloc o).cell? ⟨w.heap.size,2,none⟩=some (.slice na nn nc):=(fun o=>cell_on (by rw [World.cell?_setCell_other _ _ _ _ (by simp)];exact k2) o);clear hown1 hgrow1 hnil1 hT1 hR1 hS1 hO1)
  | (at_builtin;refine wpList_append_nil _ rfl (.tmp 8) (.tmp 10) 59 rfl w1.heap.size 128 i0 (.agg #[.int .i64 0,.int .u64 0]) 2 16 Tryz.underlying59 hi hz0 hz1 hz2 rfl (by decide) _ _ _ rfl L1.out.made na nn nc (fl encB N) rfl (by rw [fl_len encB2,EN.out]) (fun e=>⟨bins_nil (e ▸ HN.out) EN.out,CA'.out e⟩) (fun A e=>bins_list (e ▸ bins_past HN.out (L1.out.bel _))) (fl_oneB _) (by unfold maxLen;omega) (by omega) (by simp) ?_;intro v2 w2 hown2 hgrow2 hnil2;simp only [Nat.zero_add,List.nil_append] at hown2;obtain ⟨ao2,c2,rfl⟩:=own_any hown2;obtain ⟨hT2,hR2,hS2,hP2⟩:=L1.out.grow hgrow2;obtain ⟨y0,y1,y2,y3,y4⟩:=cell5 hR2;have f2:=frozen_of_row w2 w.heap.size 2 _ _ hR2;have hO2':=OwnB.of hown2 EN.out.symm;have hO2:=hO2'.le (B':=w.heap.size) L1.out.le;obtain ⟨r0,r1,r2,r3,r4⟩:=cell5 hS2;have e0:=frozen_of_row w2 (w.heap.size+1) 0 _ _ hS2;have e1:=frozen_of_row w2 (w.heap.size+1) 1 _ _ hS2;have e2:=frozen_of_row w2 (w.heap.size+1) 2 _ _ hS2;have e3:=frozen_of_row w2 (w.heap.size+1) 3 _ _ hS2;have e4:=frozen_of_row w2 (w.heap.size+1) 4 _ _ hS2;have hap3:Apart (.slice ao1 pn c1) (.slice ao2 nn c2):=(fun k a1 a2=>by have q1:=L1.out.lt k a1;have q2:=(hO2'.lt k a2).1;omega);have T2:=hide hT2;have S2:=hide hS2;have R2:=hide hR2;have P2:=hide hP2;have O2:=hide hO2;have Ap:=hide hap3;clear hown2 hgrow2 hnil2 hT2 hS2 hR2 hP2 hO2 hO2' hap3))
 refine bodyPost_ret (v:=.agg #[.int .u64 z,.slice ao1 pn c1,.slice ao2 nn c2,.int .i64 h,.int .u64 l]) (by simp [results,Tryz.results142,go_sem,r0,r1,r2,r3,r4]) rfl ⟨_,rfl,⟨_,_,pn,nn,rfl,?_,?_,Ap.out⟩,?_⟩
 ·have n1:=P2.out.ne S2.out (by decide)
  have n2:=P2.out.ne R2.out (by decide);exact (((((P2.out.set n2 _).set n1 _).set n1 _).set n1 _).set n1 _).set n1 _
 ·have n1:=O2.out.ne S2.out (by decide)
  have n2:=O2.out.ne R2.out (by decide);exact (((((O2.out.set n2 _).set n1 _).set n1 _).set n1 _).set n1 _).set n1 _
 ·repeat (refine Below.setCell ?_ (by simp <;> omega) _)
  exact T2.out
end
section
open Go.ChangeShapes Go.WideShapes Go.ChangeAt Go.RowKit Go.PlainAid
variable {kd:IntKind} {T:TypeId} {w w':World} {B n:Nat} {v:Value} {L:List Int}
set_option maxRecDepth 10000
def OwnN (kd:IntKind) (T:TypeId) (w:World) (B:Nat) (v:Value) (n:Nat) (L:List Int):Prop:=n=L.length∧w.ownsRow B T 1 v n (L.map (Value.int kd))
theorem OwnN.any (h:OwnN kd T w B v n L):∃ ao c,v=.slice ao n c:=own_any h.2
theorem OwnN.past (h:OwnN kd T w B v n L) (hb:Below w.heap.size w w'):OwnN kd T w' B v n L:=⟨h.1,own_past h.2 hb⟩
theorem OwnN.le {B':Nat} (h:OwnN kd T w B v n L) (hb:B'≤B):OwnN kd T w B' v n L:=⟨h.1,own_le h.2 hb⟩
theorem OwnN.at {c:Nat} {ao:Option Addr} (h:OwnN kd T w B (.slice ao n c) n L):NumsAt kd w ao L:=by
 have h2:=h.2;rw [h.1] at h2;exact (nums_own h2).1
theorem OwnN.lt (h:OwnN kd T w B v n L):∀ k,v.ownBlock=some k→B≤k∧k<w.heap.size:=fun k e=>by
 rcases h.2.2 with ⟨rfl,_⟩ | ⟨g,c,cur,rfl,h1,h2,_⟩
 ·cases e
 ·have:g=k:=Option.some.inj e
  subst this;exact ⟨h1,(Array.getElem?_eq_some_iff.1 h2).1⟩
theorem OwnN.cells {k:Nat} {x:Int} (h:OwnN kd T w B v n L) (hk:L[k]?=some x):∃ b c,v=.slice (some ⟨b,0,none⟩) n c∧w.cell? ⟨b,k,none⟩=some (.int kd x)∧w.frozen? ⟨b,k,none⟩=false:=by
 have hkl:=(List.getElem?_eq_some_iff.1 hk).1;have hn:=h.1;rcases h.2.2 with ⟨_,h0⟩ | ⟨g,c,cur,rfl,h1,h2,_⟩
 ·omega
 ·exact ⟨g,c,rfl,by rw [h.2.cellAt k (by omega),List.getElem?_map,hk];rfl,frozen_of_row w g _ _ _ h2⟩
theorem OwnN.put {b c k:Nat} (h:OwnN kd T w B (.slice (some ⟨b,0,none⟩) n c) n L) (x:Int):OwnN kd T (w.setCell ⟨b,k,none⟩ (.int kd x)) B (.slice (some ⟨b,0,none⟩) n c) n (L.set k x):=by
 refine ⟨by rw [List.length_set];exact h.1,?_⟩;rw [List.map_set];exact (h.2.stored k _).1
def mkn (k0 n:Nat):List Int:=(List.range n).map fun i=>((k0+i:Nat):Int)
theorem mkn_len (k0 n:Nat):(mkn k0 n).length=n:=by simp [mkn]
end
section
open Go.ChangeShapes Go.WideShapes Go.ChangeAt Go.RowKit Go.PlainAid Go.Lib
set_option maxRecDepth 10000
structure AgO (w:World) (B:Nat) (o:Ag) (p:Pl):Prop where
 P:OwnB w B (.slice p.pa o.P.length p.pc) o.P.length o.P
 N:OwnB w B (.slice p.na o.N.length p.nc) o.N.length o.N
 ap:Apart (.slice p.pa o.P.length p.pc) (.slice p.na o.N.length p.nc)
 E:OwnN .u64 56 w B (.slice p.ea o.E.length p.ec) o.E.length o.E
 R:OwnN .i64 2 w B (.slice p.ra o.R.length p.rc) o.R.length o.R
def AgOut (w:World) (B:Nat) (v:Value) (o:Ag):Prop:=∃ p,v=.agg (agArr o p)∧AgO w B o p
def agZero:Ag:=⟨0,0,0,0,0,0,0,[],[],0,0,[],[]⟩
theorem cellK {w:World} {r:Nat} {cs:Array Value} {T:TypeId} (h:w.heap[r]?=some (.cells cs T (0,0))) (j:Nat) {v:Value} (e:cs[j]?=some v):w.cell? ⟨r,j,none⟩=some v:=by rw [cell_of_row _ _ j _ _ (0,0) h];exact e
end
section
open Go.ChangeShapes Go.WideShapes Go.ChangeAt Go.RowKit Go.PlainAid Go.Lib
set_option maxRecDepth 10000
abbrev pl0:Pl:=⟨none,0,none,0,none,0,none,0⟩
theorem OwnB.below {w:World} {B n r j:Nat} {v:Value} {L:List Bn} (h:OwnB w B v n L) (hr:r<B) (u:Value):OwnB (w.setCell ⟨r,j,none⟩ u) B v n L:=h.set (fun e=>by have:=(h.lt r e).1;omega) u
theorem OwnN.below {kd:IntKind} {T:TypeId} {w:World} {B n r j:Nat} {v:Value} {L:List Int} (h:OwnN kd T w B v n L) (hr:r<B) (u:Value):OwnN kd T (w.setCell ⟨r,j,none⟩ u) B v n L:=⟨h.1,ownsRow_setCell_below h.2 (by simpa using hr) u⟩
theorem AgO.below {w:World} {B r j:Nat} {o:Ag} {p:Pl} (h:AgO w B o p) (hr:r<B) (u:Value):AgO (w.setCell ⟨r,j,none⟩ u) B o p:=⟨h.P.below hr u,h.N.below hr u,h.ap,h.E.below hr u,h.R.below hr u⟩
theorem AgO.le {w:World} {B B':Nat} {o:Ag} {p:Pl} (h:AgO w B o p) (hb:B'≤B):AgO w B' o p:=⟨h.P.le hb,h.N.le hb,h.ap,h.E.le hb,h.R.le hb⟩
theorem AgO.past {w w':World} {B:Nat} {o:Ag} {p:Pl} (h:AgO w B o p) (hb:Below w.heap.size w w'):AgO w' B o p:=⟨h.P.past hb,h.N.past hb,h.ap,h.E.past hb,h.R.past hb⟩
theorem AgO.at {w:World} {B:Nat} {o:Ag} {p:Pl} (h:AgO w B o p):AgAt w o p:=⟨h.P.at,h.N.at,h.E.at,h.R.at⟩
def AgRes (w:World) (Q:Ag→Prop) (e:Ending) (w':World):Prop:=∃ v o,e=.returned v∧Q o∧AgOut w' w.heap.size v o∧Below w.heap.size w w'
theorem AgRes.mk {w w':World} {Q:Ag→Prop} {o:Ag} {p:Pl} (q:Q o) (h:AgO w' w.heap.size o p) (b:Below w.heap.size w w'):AgRes w Q (.returned (.agg (agArr o p))) w':=⟨_,o,rfl,q,⟨p,rfl,h⟩,b⟩
end
section
open Go.ChangeShapes Go.WideShapes Go.ChangeAt Go.RowKit Go.PlainAid Go.Lib
set_option maxRecDepth 10000
theorem OwnB.cells {w:World} {B n k:Nat} {v:Value} {L:List Bn} {x:Bn} (h:OwnB w B v n L) (hk:L[k]?=some x) :
  ∃ b off c,v=.slice (some ⟨b,off,none⟩) n c∧w.cell? ⟨b,off+k*2,none⟩=some (.int .i64 x.1)∧w.cell? ⟨b,off+k*2+1,none⟩=some (.int .u64 x.2)∧w.frozen? ⟨b,off+k*2,none⟩=false∧w.frozen? ⟨b,off+k*2+1,none⟩=false∧b<w.heap.size:=by
 have hkl:=(List.getElem?_eq_some_iff.1 hk).1;have hl:=h.1;obtain ⟨ao,c,rfl⟩:=h.any;obtain ⟨b,off,rfl,hc⟩:=h.at (by omega);rcases h.2 with ⟨e,_⟩ | ⟨b',off',c',cur,e,h1,h2,h3⟩
 ·cases e
 ·cases e
  exact ⟨b,off,c,rfl,(hc k x hk).1,(hc k x hk).2,frozen_of_row w b _ _ _ h2,frozen_of_row w b _ _ _ h2,(Array.getElem?_eq_some_iff.1 h2).1⟩
end
section
open Go.ChangeShapes Go.WideShapes Go.ChangeAt Go.RowKit Go.PlainAid
set_option maxRecDepth 10000
structure GrownS (w w':World) (S:Nat→Prop):Prop where
 os:w'.os=w.os
 tape:w'.tape=w.tape
 output:w'.output=w.output
 size:w.heap.size≤w'.heap.size
 block:∀ k,k<w.heap.size→¬ S k→w'.heap[k]?=w.heap[k]?
theorem GrownS.trans {w w1 w2:World} {S T:Nat→Prop} (h:GrownS w w1 S) (g:GrownS w1 w2 T):GrownS w w2 (fun k=>S k∨T k):=
 ⟨g.os.trans h.os,g.tape.trans h.tape,g.output.trans h.output,Nat.le_trans h.size g.size,fun k hk hn=>by
  rw [g.block k (Nat.lt_of_lt_of_le hk h.size) (fun e=>hn (.inr e)),h.block k hk (fun e=>hn (.inl e))]⟩
theorem GrownS.below {w0 w w':World} {B:Nat} {S:Nat→Prop} (h:Below B w0 w) (hB:B≤w.heap.size) (hg:GrownS w w' S) (h1:∀ k,S k→B≤k):Below B w0 w':=
 ⟨hg.os.trans h.os,hg.tape.trans h.tape,hg.output.trans h.output,Nat.le_trans h.size hg.size,fun k hk=>by
  rw [hg.block k (by omega) (fun e=>by have:=h1 k e;omega)];exact h.block k hk⟩
theorem GrownS.row {w w':World} {S:Nat→Prop} {g:Nat} {o:Obj} (hg:GrownS w w' S) (h:w.heap[g]?=some o) (h1:¬ S g):w'.heap[g]?=some o:=by
 rw [hg.block g (Array.getElem?_eq_some_iff.1 h).1 h1];exact h
theorem OwnB.keptS {w w':World} {B n:Nat} {v:Value} {L:List Bn} {S:Nat→Prop} (h:OwnB w B v n L) (hg:GrownS w w' S) (h1:∀ k,v.ownBlock=some k→¬ S k):OwnB w' B v n L:=by
 refine ⟨h.1,?_⟩;rcases h.2 with h | ⟨b,off,c,cur,e,h2,h3,h4⟩
 ·exact .inl h
 ·refine .inr ⟨b,off,c,cur,e,h2,?_,h4⟩
  rw [hg.block b (Array.getElem?_eq_some_iff.1 h3).1 (h1 b (by rw [e];rfl))];exact h3
theorem OwnN.keptS {kd:IntKind} {T:TypeId} {w w':World} {B n:Nat} {v:Value} {L:List Int} {S:Nat→Prop} (h:OwnN kd T w B v n L) (hg:GrownS w w' S) (h1:∀ k,v.ownBlock=some k→¬ S k):OwnN kd T w' B v n L:=by
 refine ⟨h.1,h.2.1,?_⟩;rcases h.2.2 with h | ⟨b,c,cur,e,h2,h3,h4⟩
 ·exact .inl h
 ·refine .inr ⟨b,c,cur,e,h2,?_,h4⟩
  rw [hg.block b (Array.getElem?_eq_some_iff.1 h3).1 (h1 b (by rw [e];rfl))];exact h3
def AgBlk (o:Ag) (p:Pl) (k:Nat):Prop:=((Value.slice p.pa o.P.length p.pc).ownBlock=some k∨(Value.slice p.na o.N.length p.nc).ownBlock=some k)∨((Value.slice p.ea o.E.length p.ec).ownBlock=some k∨(Value.slice p.ra o.R.length p.rc).ownBlock=some k)
theorem AgO.lt {w:World} {B k:Nat} {o:Ag} {p:Pl} (h:AgO w B o p) (hk:AgBlk o p k):B≤k∧k<w.heap.size:=by
 rcases hk with (e | e) | (e | e)
 ·exact h.P.lt k e
 ·exact h.N.lt k e
 ·exact h.E.lt k e
 ·exact h.R.lt k e
theorem AgO.keptS {w w':World} {B:Nat} {o:Ag} {p:Pl} {S:Nat→Prop} (h:AgO w B o p) (hg:GrownS w w' S) (h1:∀ k,AgBlk o p k→¬ S k):AgO w' B o p:=
 ⟨h.P.keptS hg (fun k e=>h1 k (.inl (.inl e))),h.N.keptS hg (fun k e=>h1 k (.inl (.inr e))),h.ap,h.E.keptS hg (fun k e=>h1 k (.inr (.inl e))),h.R.keptS hg (fun k e=>h1 k (.inr (.inr e)))⟩
end
section
open Go.ChangeShapes Go.WideShapes Go.ChangeAt Go.RowKit Go.PlainAid Go.Lib Go.Maps
set_option maxRecDepth 10000
def ApC (c d:Ce):Prop:=∀ k,AgBlk c.g c.p k→¬ AgBlk d.g d.p k
theorem ApC.symm {c d:Ce} (h:ApC c d):ApC d c:=fun k h1 h2=>h k h2 h1
structure CesO (w:World) (B:Nat) (L:List Ce):Prop where
 o:∀ c∈L,AgO w B c.g c.p
 ap:L.Pairwise ApC
theorem CesO.nil (w:World) (B:Nat):CesO w B []:=⟨by simp,.nil⟩
theorem CesO.past {w w':World} {B:Nat} {L:List Ce} (h:CesO w B L) (hb:Below w.heap.size w w'):CesO w' B L:=⟨fun c hc=>(h.o c hc).past hb,h.ap⟩
theorem CesO.le {w:World} {B B':Nat} {L:List Ce} (h:CesO w B L) (hb:B'≤B):CesO w B' L:=⟨fun c hc=>(h.o c hc).le hb,h.ap⟩
theorem CesO.perm {w:World} {B:Nat} {L M:List Ce} (h:CesO w B L) (p:L.Perm M):CesO w B M:=
 ⟨fun c hc=>h.o c (p.mem_iff.2 hc),(p.pairwise_iff (fun {a b} (q:ApC a b)=>q.symm)).1 h.ap⟩
theorem CesO.keptS {w w':World} {B:Nat} {L:List Ce} {S:Nat→Prop} (h:CesO w B L) (hg:GrownS w w' S) (h1:∀ c∈L,∀ k,AgBlk c.g c.p k→¬ S k):CesO w' B L:=
 ⟨fun c hc=>(h.o c hc).keptS hg (h1 c hc),h.ap⟩
theorem CesO.grown {w w':World} {B s:Nat} {L:List Ce} (h:CesO w B L) (hg:w.grownBy w' (some s)) (hs:s<B):CesO w' B L:=
 h.keptS (S:=fun k=>k=s) ⟨hg.os,hg.tape,hg.output,hg.size,fun k hk hn=>hg.block k hk (fun e=>hn (by cases e;rfl))⟩ (fun c hc k e q=>by
  have:=((h.o c hc).lt e).1;omega)
theorem CesO.add {w w':World} {B:Nat} {L:List Ce} {c:Ce} (h:CesO w B L) (hb:Below w.heap.size w w') (hB:B≤w.heap.size) (ho:AgO w' w.heap.size c.g c.p):CesO w' B (c :: L):=by
 refine ⟨fun d hd=>?_,List.pairwise_cons.2 ⟨fun d hd k h1 h2=>?_,h.ap⟩⟩
 ·rcases List.mem_cons.1 hd with rfl | hd
  ·exact ho.le hB
  ·exact (h.o d hd).past hb
 ·have k1:=(ho.lt h1).1
  have k2:=((h.o d hd).lt h2).2;omega
theorem CesO.sub {w:World} {B:Nat} {L M:List Ce} (h:CesO w B L) (s:M.Sublist L):CesO w B M:=⟨fun c hc=>h.o c (s.subset hc),h.ap.sublist s⟩
theorem CesO.at {w:World} {B:Nat} {L:List Ce} (h:CesO w B L):∀ c∈L,AgAt w c.g c.p:=fun c hc=>(h.o c hc).at
theorem cAh_trans {a b c:Ce} (h:cAh a b=true) (k:cAh b c=true):cAh a c=true:=by
 unfold cAh at *;simp only [Bool.or_eq_true,Bool.and_eq_true,decide_eq_true_eq,beq_iff_eq] at *;rcases h with h | ⟨h1,h2⟩ <;> rcases k with k | ⟨k1,k2⟩
 ·exact .inl (by omega)
 ·exact .inl (by omega)
 ·exact .inl (by omega)
 ·exact .inr ⟨by omega,strLt_trans h2 k2⟩
theorem cAh_irr (a:Ce):cAh a a=false:=by
 unfold cAh;simp [strLt_irr]
theorem cAh_ant {a b:Ce} (h:cAh a b=true):cAh b a=false:=by
 cases q:cAh b a
 ·rfl
 ·have:=cAh_trans h q
  rw [cAh_irr] at this;cases this
theorem cAh_tot {a b:Ce} (h:cAh a b=false) (k:cAh b a=false):SameKey a b:=by
 unfold cAh at h k;simp only [Bool.or_eq_false_iff,Bool.and_eq_false_iff,decide_eq_false_iff_not,beq_eq_false_iff_ne] at h k;have e:a.n=b.n:=by omega
 refine ⟨e,?_⟩;rcases h.2 with q | q
 ·exact absurd e q
 ·rcases k.2 with q2 | q2
  ·exact absurd e.symm q2
  ·rcases strLt_tot q with q3 | q3
   ·rw [q3] at q2;cases q2
   ·exact q3
theorem cAh_ne {a b:Ce} (h:cAh a b=true):¬ SameKey a b:=by
 rintro ⟨e1,e2⟩;unfold cAh at h;rw [e1,e2] at h;simp [strLt_irr] at h
def AscC (L:List Ce):Prop:=L.Pairwise (fun c d=>cAh c d=true)
theorem AscC.ap {L:List Ce} (h:AscC L):L.Pairwise (fun c d=>¬ SameKey c d):=h.imp cAh_ne
theorem cRs_asc:∀ {L:List Ce} {b:Option Ce},cRs b L=true→(∀ c∈L,cRi c=true)∧AscC L∧(∀ b',b=some b'→∀ c∈L,cAh b' c=true)
 | [],b,_=>⟨by simp,.nil,by simp⟩
 | c :: L,none,h=>by
  unfold cRs at h;simp only [Bool.and_eq_true] at h;obtain ⟨h1,h2,h3⟩:=cRs_asc h.2;refine ⟨fun d hd=>?_,List.pairwise_cons.2 ⟨h3 c rfl,h2⟩,fun b' e=>by cases e⟩;rcases List.mem_cons.1 hd with rfl | hd
  ·exact h.1
  ·exact h1 d hd
 | c :: L,some b,h=>by
  unfold cRs at h;simp only [Bool.and_eq_true] at h;obtain ⟨h1,h2,h3⟩:=cRs_asc h.2;refine ⟨fun d hd=>?_,List.pairwise_cons.2 ⟨h3 c rfl,h2⟩,fun b' e d hd=>?_⟩
  ·rcases List.mem_cons.1 hd with rfl | hd
   ·exact h.1.1
   ·exact h1 d hd
  ·cases e
   rcases List.mem_cons.1 hd with rfl | hd
   ·exact h.1.2
   ·exact cAh_trans h.1.2 (h3 c rfl d hd)
theorem asc_cRs:∀ {L:List Ce} {b:Option Ce},(∀ c∈L,cRi c=true)→AscC L→(∀ b',b=some b'→∀ c∈L,cAh b' c=true)→cRs b L=true
 | [],b,_,_,_=>by cases b <;> rfl
 | c :: L,none,h1,h2,h3=>by
  obtain ⟨q1,q2⟩:=List.pairwise_cons.1 h2;unfold cRs;rw [h1 c (by simp),asc_cRs (fun d hd=>h1 d (List.mem_cons_of_mem _ hd)) q2 (fun b' e d hd=>by cases e;exact q1 d hd)]
  rfl
 | c :: L,some b,h1,h2,h3=>by
  obtain ⟨q1,q2⟩:=List.pairwise_cons.1 h2;unfold cRs;rw [h1 c (by simp),h3 b rfl c (by simp),asc_cRs (fun d hd=>h1 d (List.mem_cons_of_mem _ hd)) q2 (fun b' e d hd=>by cases e;exact q1 d hd)]
  rfl
theorem csR_iff {L:List Ce}:csR L=true↔L.length≤60∧(∀ c∈L,cRi c=true)∧AscC L:=by
 unfold csR;simp only [Bool.and_eq_true,decide_eq_true_eq];constructor
 ·rintro ⟨h1,h2⟩
  obtain ⟨q1,q2,_⟩:=cRs_asc h2;exact ⟨h1,q1,q2⟩
 ·rintro ⟨h1,h2,h3⟩
  exact ⟨h1,asc_cRs h2 h3 (by simp)⟩
def ceL (c:Ce):List Value:=(ceArr c).toList
theorem ceL_len (c:Ce):(ceL c).length=15:=rfl
theorem ceL_one (c:Ce):∀ v∈ceL c,v.oneCell'=true:=by
 intro v hv;simp [ceL] at hv;rcases hv with rfl | rfl | rfl | rfl | rfl | rfl | rfl | rfl | rfl | rfl | rfl | rfl | rfl | rfl | rfl <;> rfl
end
section
open Go.ChangeShapes Go.WideShapes Go.ChangeAt Go.RowKit Go.PlainAid Go.Lib Go.Shelf
open Go.Sort hiding Below
set_option maxRecDepth 10000
def flC (xs:List Ce):List Value:=xs.flatMap ceL
theorem flC_app (xs ys:List Ce):flC (xs ++ ys)=flC xs ++ flC ys:=by simp [flC]
theorem flC_one (x:Ce):flC [x]=ceL x:=by simp [flC]
theorem flC_cons (x:Ce) (xs:List Ce):flC (x :: xs)=ceL x ++ flC xs:=by simp [flC]
theorem flC_len:∀ xs:List Ce,(flC xs).length=xs.length*15
 | []=>rfl
 | x :: xs=>by rw [flC_cons,List.length_append,ceL_len,flC_len xs,List.length_cons];omega
theorem flC_at:∀ (xs:List Ce) (i:Nat) (x:Ce) (c:Nat),c<15→xs[i]?=some x→(flC xs)[i*15+c]?=(ceL x)[c]?
 | [],i,x,c,hc,h=>by simp at h
 | y :: xs,0,x,c,hc,h=>by
  obtain rfl:y=x:=by simpa using h
  rw [flC_cons,List.getElem?_append_left (by rw [ceL_len];omega),Nat.zero_mul,Nat.zero_add]
 | y :: xs,i+1,x,c,hc,h=>by
  rw [flC_cons,List.getElem?_append_right (by rw [ceL_len];omega),ceL_len,show (i+1)*15+c - 15=i*15+c by omega];exact flC_at xs i x c hc (by simpa using h)
def OwnC (w:World) (B:Nat) (v:Value) (L:List Ce):Prop:=w.ownsRow B 69 15 v L.length (flC L)
theorem OwnC.nil (w:World) (B:Nat):OwnC w B (.slice none 0 0) []:=World.ownsRow_nil _ _ _ _
theorem OwnC.past {w w':World} {B:Nat} {v:Value} {L:List Ce} (h:OwnC w B v L) (hb:Below w.heap.size w w'):OwnC w' B v L:=
 World.ownsRow.kept (row:=none) h ⟨hb.os,hb.tape,hb.output,hb.size,fun i hi _=>hb.block i hi⟩ (by cases v.ownBlock <;> simp)
theorem OwnC.le {w:World} {B B':Nat} {v:Value} {L:List Ce} (h:OwnC w B v L) (hb:B'≤B):OwnC w B' v L:=by
 refine ⟨h.1,?_⟩;rcases h.2 with q | ⟨g,cap,cur,e,q1,q2⟩
 ·exact .inl q
 ·exact .inr ⟨g,cap,cur,e,Nat.le_trans hb q1,q2⟩
theorem OwnC.form {w:World} {B:Nat} {v:Value} {L:List Ce} (h:OwnC w B v L):∃ ao cp,v=.slice ao L.length cp∧(ao=none→cp=0):=by
 rcases h.2 with ⟨e,q⟩ | ⟨g,cap,cur,e,q1,q2⟩
 ·exact ⟨none,0,by rw [q];exact e,fun _=>rfl⟩
 ·exact ⟨_,cap,e,fun h=>by cases h⟩
theorem own_cells {w:World} {B g cp:Nat} {L:List Ce} (h:OwnC w B (.slice (some ⟨g,0,none⟩) L.length cp) L) {i:Nat} {c:Ce} (hc:L[i]?=some c):CeCell w g (0+i*15) c:=by
 have hi:=(List.getElem?_eq_some_iff.1 hc).1
 have q:∀ j v,j<15→(ceL c)[j]?=some v→w.cell? ⟨g,0+i*15+j,none⟩=some v:=fun j v hj e=>by
  rw [Nat.zero_add,World.ownsRow.cellAt h (i*15+j) (by omega),flC_at L i c j hj hc];exact e
 exact ⟨q 0 _ (by omega) rfl,q 1 _ (by omega) rfl,q 2 _ (by omega) rfl,q 3 _ (by omega) rfl,q 4 _ (by omega) rfl,q 5 _ (by omega) rfl,q 6 _ (by omega) rfl,q 7 _ (by omega) rfl,q 8 _ (by omega) rfl,q 9 _ (by omega) rfl,q 10 _ (by omega) rfl,q 11 _ (by omega) rfl,q 12 _ (by omega) rfl,q 13 _ (by omega) rfl,q 14 _ (by omega) rfl⟩
theorem OwnC.at {w:World} {B n cp:Nat} {ao:Option Addr} {L:List Ce} (h:OwnC w B (.slice ao n cp) L) (hg:∀ c∈L,AgAt w c.g c.p):CesAt w ao L:=by
 refine ⟨fun h0=>?_,hg⟩;rcases h.2 with ⟨e,q⟩ | ⟨g,cap,cur,e,q1,q2⟩
 ·omega
 ·injection e with e1 e2 e3
  subst e1;subst e2;subst e3;exact ⟨g,0,rfl,fun i c hc=>own_cells h hc⟩
end
section
open Go.ChangeShapes Go.WideShapes Go.ChangeAt Go.RowKit Go.PlainAid Go.Lib Go.Shelf Go.Maps
open Go.Sort hiding Below
set_option maxRecDepth 10000
theorem infoCe:∃ i0,Tryz.prog.info? 69=some i0∧i0.zero=some (.agg zeroCe)∧i0.size=15∧i0.bytes=192:=by
 obtain ⟨i0,h1,h2,h3,h4⟩:=info_parts infoCell;exact ⟨i0,h1,h2,h3,h4⟩
theorem new_cellsC {W:World} {c:Ce} {t:TypeId} (j:Nat) (u:Value) (hj:(ceL c)[j]?=some u):(W.alloc (.cells (ceArr c) t)).cell? ((⟨W.heap.size,0,none⟩:Addr).add j)=some u:=by
 have hb:(W.alloc (.cells (ceArr c) t)).heap[W.heap.size]?=some (.cells (ceArr c) t (0,0)):=heap_alloc_new W _;rw [Addr.add_lit,Nat.zero_add,cell_of_row _ W.heap.size j _ _ (0,0) hb]
 simpa [ceL] using hj
end
section
open Go.ChangeShapes Go.WideShapes Go.ChangeAt Go.RowKit Go.PlainAid Go.Lib
set_option maxRecDepth 10000
theorem box_szs (w:World) (o o':Obj):((w.alloc o).alloc o').heap.size=w.heap.size+1+1:=by simp
structure PlG (g:Ag) (p:Pl):Prop where
 cP:p.pa=none→p.pc=0
 cN:p.na=none→p.nc=0
 cE:p.ea=none→p.ec=0
 cR:p.ra=none→p.rc=0
 fE:Flat p.ea
 fR:Flat p.ra
 lE:g.E.length≤p.ec
 mE:p.ec≤maxLen
end
section
open Go.ChangeShapes Go.WideShapes Go.ChangeAt Go.RowKit Go.PlainAid Go.Lib
set_option maxRecDepth 10000
abbrev z13:Array Value:=#[.int .i64 0,.int .u64 0,.int .i64 0,.int .u64 0,.int .i64 0,.int .i64 0,.int .u64 0,.slice none 0 0,.slice none 0 0,.int .i64 0,.int .u64 0,.slice none 0 0,.slice none 0 0]
theorem box_ag (w:World) (g:Ag) (p:Pl):Hid (Below w.heap.size w ((w.alloc (.cells (agArr g p) 67)).alloc (.cells z13 67)))∧Hid (∀ W,Below ((w.alloc (.cells (agArr g p) 67)).alloc (.cells z13 67)).heap.size ((w.alloc (.cells (agArr g p) 67)).alloc (.cells z13 67)) W→W.heap[w.heap.size]?=some (.cells (agArr g p) 67 (0,0))∧W.heap[w.heap.size+1]?=some (.cells z13 67 (0,0))):=by
 have a1:∀ (W:World) o,Below W.heap.size W (W.alloc o):=fun W o=>(Below.refl _ _).alloc (Nat.le_refl _) _;have k0:=heap_alloc_new w (.cells (agArr g p) 67);have k1:=heap_alloc_new (w.alloc (.cells (agArr g p) 67)) (.cells z13 67);simp only [World.size_alloc] at k1;exact ⟨hide (chain (a1 _ _) (a1 _ _)),hide (fun W hW=>⟨(hW.block _ (by simp;omega)).trans (((a1 _ _).block _ (by simp)).trans k0),(hW.block _ (by simp)).trans k1⟩)⟩
theorem copy_mid {w w1:World} {g:Ag} {p:Pl} {pa na:Option Addr} {pc nc B:Nat} (ha:w1.heap[w.heap.size]?=some (.cells (agArr g p) 67 (0,0))) (hz:w1.heap[w.heap.size+1]?=some (.cells z13 67 (0,0))) (hb:Below w.heap.size w w1) (hs:B≤w1.heap.size) (o1:OwnB w1 B (.slice pa g.P.length pc) g.P.length g.P) (o2:OwnB w1 B (.slice na g.N.length nc) g.N.length g.N) (hB:w.heap.size<B) :
  Hid (Below w.heap.size w (((((w1.setCell ⟨w.heap.size,6,none⟩ (.int .u64 g.z)).setCell ⟨w.heap.size,7,none⟩ (.slice pa g.P.length pc)).setCell ⟨w.heap.size,8,none⟩ (.slice na g.N.length nc)).setCell ⟨w.heap.size,9,none⟩ (.int .i64 g.x)).setCell ⟨w.heap.size,10,none⟩ (.int .u64 g.y)))∧Hid ((((((w1.setCell ⟨w.heap.size,6,none⟩ (.int .u64 g.z)).setCell ⟨w.heap.size,7,none⟩ (.slice pa g.P.length pc)).setCell ⟨w.heap.size,8,none⟩ (.slice na g.N.length nc)).setCell ⟨w.heap.size,9,none⟩ (.int .i64 g.x)).setCell ⟨w.heap.size,10,none⟩ (.int .u64 g.y)).heap[w.heap.size]?=some (.cells (agArr g ⟨pa,pc,na,nc,p.ea,p.ec,p.ra,p.rc⟩) 67 (0,0)))∧Hid ((((((w1.setCell ⟨w.heap.size,6,none⟩ (.int .u64 g.z)).setCell ⟨w.heap.size,7,none⟩ (.slice pa g.P.length pc)).setCell ⟨w.heap.size,8,none⟩ (.slice na g.N.length nc)).setCell ⟨w.heap.size,9,none⟩ (.int .i64 g.x)).setCell ⟨w.heap.size,10,none⟩ (.int .u64 g.y)).heap[w.heap.size+1]?=some (.cells z13 67 (0,0)))∧Hid (B≤(((((w1.setCell ⟨w.heap.size,6,none⟩ (.int .u64 g.z)).setCell ⟨w.heap.size,7,none⟩ (.slice pa g.P.length pc)).setCell ⟨w.heap.size,8,none⟩ (.slice na g.N.length nc)).setCell ⟨w.heap.size,9,none⟩ (.int .i64 g.x)).setCell ⟨w.heap.size,10,none⟩ (.int .u64 g.y)).heap.size)∧Hid (OwnB (((((w1.setCell ⟨w.heap.size,6,none⟩ (.int .u64 g.z)).setCell ⟨w.heap.size,7,none⟩ (.slice pa g.P.length pc)).setCell ⟨w.heap.size,8,none⟩ (.slice na g.N.length nc)).setCell ⟨w.heap.size,9,none⟩ (.int .i64 g.x)).setCell ⟨w.heap.size,10,none⟩ (.int .u64 g.y)) B (.slice pa g.P.length pc) g.P.length g.P∧OwnB (((((w1.setCell ⟨w.heap.size,6,none⟩ (.int .u64 g.z)).setCell ⟨w.heap.size,7,none⟩ (.slice pa g.P.length pc)).setCell ⟨w.heap.size,8,none⟩ (.slice na g.N.length nc)).setCell ⟨w.heap.size,9,none⟩ (.int .i64 g.x)).setCell ⟨w.heap.size,10,none⟩ (.int .u64 g.y)) B (.slice na g.N.length nc) g.N.length g.N):=by
 have h0:(w1.setCell ⟨w.heap.size,6,none⟩ (.int .u64 g.z)).heap[w.heap.size]?=some (.cells #[.int .i64 g.k,.int .u64 g.s,.int .i64 g.h,.int .u64 g.l,.int .i64 g.a,.int .i64 g.t,.int .u64 g.z,.slice p.pa g.P.length p.pc,.slice p.na g.N.length p.nc,.int .i64 g.x,.int .u64 g.y,.slice p.ea g.E.length p.ec,.slice p.ra g.R.length p.rc] 67 (0,0)):=heap_setCell_same _ w.heap.size 6 _ _ _ ha;have h1:((w1.setCell ⟨w.heap.size,6,none⟩ (.int .u64 g.z)).setCell ⟨w.heap.size,7,none⟩ (.slice pa g.P.length pc)).heap[w.heap.size]?=some (.cells #[.int .i64 g.k,.int .u64 g.s,.int .i64 g.h,.int .u64 g.l,.int .i64 g.a,.int .i64 g.t,.int .u64 g.z,.slice pa g.P.length pc,.slice p.na g.N.length p.nc,.int .i64 g.x,.int .u64 g.y,.slice p.ea g.E.length p.ec,.slice p.ra g.R.length p.rc] 67 (0,0)):=heap_setCell_same _ w.heap.size 7 _ _ _ h0;have h2:(((w1.setCell ⟨w.heap.size,6,none⟩ (.int .u64 g.z)).setCell ⟨w.heap.size,7,none⟩ (.slice pa g.P.length pc)).setCell ⟨w.heap.size,8,none⟩ (.slice na g.N.length nc)).heap[w.heap.size]?=some (.cells #[.int .i64 g.k,.int .u64 g.s,.int .i64 g.h,.int .u64 g.l,.int .i64 g.a,.int .i64 g.t,.int .u64 g.z,.slice pa g.P.length pc,.slice na g.N.length nc,.int .i64 g.x,.int .u64 g.y,.slice p.ea g.E.length p.ec,.slice p.ra g.R.length p.rc] 67 (0,0)):=heap_setCell_same _ w.heap.size 8 _ _ _ h1;have h3:((((w1.setCell ⟨w.heap.size,6,none⟩ (.int .u64 g.z)).setCell ⟨w.heap.size,7,none⟩ (.slice pa g.P.length pc)).setCell ⟨w.heap.size,8,none⟩ (.slice na g.N.length nc)).setCell ⟨w.heap.size,9,none⟩ (.int .i64 g.x)).heap[w.heap.size]?=some (.cells #[.int .i64 g.k,.int .u64 g.s,.int .i64 g.h,.int .u64 g.l,.int .i64 g.a,.int .i64 g.t,.int .u64 g.z,.slice pa g.P.length pc,.slice na g.N.length nc,.int .i64 g.x,.int .u64 g.y,.slice p.ea g.E.length p.ec,.slice p.ra g.R.length p.rc] 67 (0,0)):=heap_setCell_same _ w.heap.size 9 _ _ _ h2;have h4:(((((w1.setCell ⟨w.heap.size,6,none⟩ (.int .u64 g.z)).setCell ⟨w.heap.size,7,none⟩ (.slice pa g.P.length pc)).setCell ⟨w.heap.size,8,none⟩ (.slice na g.N.length nc)).setCell ⟨w.heap.size,9,none⟩ (.int .i64 g.x)).setCell ⟨w.heap.size,10,none⟩ (.int .u64 g.y)).heap[w.heap.size]?=some (.cells #[.int .i64 g.k,.int .u64 g.s,.int .i64 g.h,.int .u64 g.l,.int .i64 g.a,.int .i64 g.t,.int .u64 g.z,.slice pa g.P.length pc,.slice na g.N.length nc,.int .i64 g.x,.int .u64 g.y,.slice p.ea g.E.length p.ec,.slice p.ra g.R.length p.rc] 67 (0,0)):=heap_setCell_same _ w.heap.size 10 _ _ _ h3;refine ⟨hide ?_,hide h4,hide ?_,hide ?_,hide ⟨?_,?_⟩⟩
 ·repeat (refine Below.setCell ?_ (by simp) _)
  exact hb
 ·repeat (rw [heap_setCell_other _ _ _ _ (by simp)])
  exact hz
 ·simpa [World.setCell] using hs
 ·repeat (refine OwnB.below ?_ hB _)
  exact o1
 ·repeat (refine OwnB.below ?_ hB _)
  exact o2
set_option maxHeartbeats 8000000 in
theorem c_l07Copy {w:World} {g:Ag} {p:Pl} (sm:AgSm g) (pl:PlG g p) (hA:AgAt w g p) :
  Calls Tryz.prog 110 #[.agg (agArr g p)] w fun e w'=>AgRes w (fun o=>o=g) e w':=by
 have SM:=hide sm;have PL:=hide pl;have HA:=hide hA;clear sm pl hA;obtain ⟨HT0,HC⟩:=box_ag w g p;have hsz:=box_szs w (.cells (agArr g p) 67) (.cells z13 67);go_enter Tryz.func110,Tryz.ntmps110;go_wp2_with fail;generalize (w.alloc (.cells (agArr g p) 67)).alloc (.cells z13 67)=W0 at HT0 HC hsz ⊢;refine (c_s_l03Copy rfl rfl SM.out.P SM.out.N (bins_past HA.out.P HT0.out) (bins_past HA.out.N HT0.out) PL.out.cP PL.out.cN).mono ?_;rintro e w1 ⟨v1,rfl,⟨vp,vn,pn,nn,rfl,o1,o2,hap⟩,hb1⟩;obtain ⟨pa,pc,rfl⟩:=o1.any;obtain ⟨na,nc,rfl⟩:=o2.any;obtain rfl:=o1.1;obtain rfl:=o2.1;have HB1:=hide hb1;have HR1:=hide (HC.out _ hb1);have HO1:=hide (And.intro o1 (And.intro o2 hap));have hz1:=hb1.size;clear o1 o2 hap hb1;have q0:=cellK HR1.out.1 0 rfl;have q1:=cellK HR1.out.1 1 rfl;have q2:=cellK HR1.out.1 2 rfl;have q3:=cellK HR1.out.1 3 rfl;have q4:=cellK HR1.out.1 4 rfl;have q5:=cellK HR1.out.1 5 rfl;have q6:=cellK HR1.out.1 6 rfl;have q7:=cellK HR1.out.1 7 rfl;have q8:=cellK HR1.out.1 8 rfl;have q9:=cellK HR1.out.1 9 rfl;have q10:=cellK HR1.out.1 10 rfl;have q11:=cellK HR1.out.1 11 rfl;have q12:=cellK HR1.out.1 12 rfl;have f0:=fzR 0 HR1.out.1;have f1:=fzR 1 HR1.out.1;have f2:=fzR 2 HR1.out.1;have f3:=fzR 3 HR1.out.1;have f4:=fzR 4 HR1.out.1;have f5:=fzR 5 HR1.out.1;have f6:=fzR 6 HR1.out.1;have f7:=fzR 7 HR1.out.1;have f8:=fzR 8 HR1.out.1;have f9:=fzR 9 HR1.out.1;have f10:=fzR 10 HR1.out.1;have f11:=fzR 11 HR1.out.1;have f12:=fzR 12 HR1.out.1;have z0:=cellK HR1.out.2 0 rfl;have z1:=cellK HR1.out.2 1 rfl;have z2:=cellK HR1.out.2 2 rfl;have z3:=cellK HR1.out.2 3 rfl;have z4:=cellK HR1.out.2 4 rfl;have z5:=cellK HR1.out.2 5 rfl;have z6:=cellK HR1.out.2 6 rfl;have z7:=cellK HR1.out.2 7 rfl;have z8:=cellK HR1.out.2 8 rfl;have z9:=cellK HR1.out.2 9 rfl;have z10:=cellK HR1.out.2 10 rfl;have z11:=cellK HR1.out.2 11 rfl;have z12:=cellK HR1.out.2 12 rfl;have k0:=fzR 0 HR1.out.2;have k1:=fzR 1 HR1.out.2;have k2:=fzR 2 HR1.out.2;have k3:=fzR 3 HR1.out.2;have k4:=fzR 4 HR1.out.2;have k5:=fzR 5 HR1.out.2;have k6:=fzR 6 HR1.out.2;have k7:=fzR 7 HR1.out.2;have k8:=fzR 8 HR1.out.2;have k9:=fzR 9 HR1.out.2;have k10:=fzR 10 HR1.out.2;have k11:=fzR 11 HR1.out.2;have k12:=fzR 12 HR1.out.2;go_wp2_with fail;clear q0 q1 q2 q3 q4 q5 q6 q7 q8 q9 q10 q11 q12 f0 f1 f2 f3 f4 f5 f6 f7 f8 f9 f10 f11 f12 z0 z1 z2 z3 z4 z5 z6 z7 z8 z9 z10 z11 z12 k0 k1 k2 k3 k4 k5 k6 k7 k8 k9 k10 k11 k12;obtain ⟨HB2,HRa,HRz,HZ2,HOs⟩:=copy_mid (pa:=pa) (pc:=pc) (na:=na) (nc:=nc) HR1.out.1 HR1.out.2 (chain HT0.out HB1.out) (by omega) HO1.out.1 HO1.out.2.1 (show w.heap.size<W0.heap.size by omega);generalize ((((w1.setCell ⟨w.heap.size,6,none⟩ (.int .u64 g.z)).setCell ⟨w.heap.size,7,none⟩ (.slice pa g.P.length pc)).setCell ⟨w.heap.size,8,none⟩ (.slice na g.N.length nc)).setCell ⟨w.heap.size,9,none⟩ (.int .i64 g.x)).setCell ⟨w.heap.size,10,none⟩ (.int .u64 g.y)=W2 at HB2 HRa HRz HZ2 HOs ⊢;refine (c_s_CopyH rfl rfl SM.out.E SM.out.R PL.out.cE PL.out.cR (nums_past HA.out.E HB2.out) (nums_past HA.out.R HB2.out)).mono ?_;rintro e w3 ⟨v3,rfl,⟨ve,vr,rfl,o3,o4⟩,hb3⟩;obtain ⟨ea,ec,rfl⟩:=own_any o3;obtain ⟨ra,rc,rfl⟩:=own_any o4;have HO2:=hide (And.intro (own_le (B':=W0.heap.size) o3 (by have:=HZ2.out;omega)) (own_le (B':=W0.heap.size) o4 (by have:=HZ2.out;omega)));have HO3:=hide (And.intro (HOs.out.1.past hb3) (And.intro (HOs.out.2.past hb3) HO1.out.2.2));have HT3:=hide (chain HB2.out hb3);have R3:=(hb3.block _ (Array.getElem?_eq_some_iff.1 HRa.out).1).trans HRa.out;have R4:=(hb3.block _ (Array.getElem?_eq_some_iff.1 HRz.out).1).trans HRz.out;clear o3 o4 hb3;have q0:=cellK R3 0 rfl;have q1:=cellK R3 1 rfl;have q2:=cellK R3 2 rfl;have q3:=cellK R3 3 rfl;have q4:=cellK R3 4 rfl;have q5:=cellK R3 5 rfl;have q6:=cellK R3 6 rfl;have q7:=cellK R3 7 rfl;have q8:=cellK R3 8 rfl;have q9:=cellK R3 9 rfl;have q10:=cellK R3 10 rfl;have q11:=cellK R3 11 rfl;have q12:=cellK R3 12 rfl;have f0:=fzR 0 R3;have f1:=fzR 1 R3;have f2:=fzR 2 R3;have f3:=fzR 3 R3;have f4:=fzR 4 R3;have f5:=fzR 5 R3;have f6:=fzR 6 R3;have f7:=fzR 7 R3;have f8:=fzR 8 R3;have f9:=fzR 9 R3;have f10:=fzR 10 R3;have f11:=fzR 11 R3;have f12:=fzR 12 R3;have z0:=cellK R4 0 rfl;have z1:=cellK R4 1 rfl;have z2:=cellK R4 2 rfl;have z3:=cellK R4 3 rfl;have z4:=cellK R4 4 rfl;have z5:=cellK R4 5 rfl;have z6:=cellK R4 6 rfl;have z7:=cellK R4 7 rfl;have z8:=cellK R4 8 rfl;have z9:=cellK R4 9 rfl;have z10:=cellK R4 10 rfl;have z11:=cellK R4 11 rfl;have z12:=cellK R4 12 rfl;have k0:=fzR 0 R4;have k1:=fzR 1 R4;have k2:=fzR 2 R4;have k3:=fzR 3 R4;have k4:=fzR 4 R4;have k5:=fzR 5 R4;have k6:=fzR 6 R4;have k7:=fzR 7 R4;have k8:=fzR 8 R4;have k9:=fzR 9 R4;have k10:=fzR 10 R4;have k11:=fzR 11 R4;have k12:=fzR 12 R4;clear R3 R4;go_wp2;refine bodyPost_ret (v:=.agg (agArr g ⟨pa,pc,na,nc,ea,ec,ra,rc⟩)) (by simp [results,Tryz.results110,go_sem,q0,q1,q2,q3,q4,q5,q6,q7,q8,q9,q10,q11,q12,z0,z1,z2,z3,z4,z5,z6,z7,z8,z9,z10,z11,z12]) rfl (AgRes.mk (o:=g) (p:=⟨pa,pc,na,nc,ea,ec,ra,rc⟩) rfl ?_ ?_)
 ·refine AgO.le (B:=W0.heap.size) ?_ (by omega)
  repeat (refine AgO.below ?_ (by omega) _)
  exact ⟨HO3.out.1,HO3.out.2.1,HO3.out.2.2,⟨rfl,HO2.out.1⟩,⟨rfl,HO2.out.2⟩⟩
 ·repeat (refine Below.setCell ?_ (by simp <;> omega) _)
  exact HT3.out
end
section
open Go.ChangeShapes Go.WideShapes Go.ChangeAt Go.RowKit Go.PlainAid Go.Lib Go.Maps
set_option maxRecDepth 10000
theorem key_mem {L M:List Ce} (h:M.map Ce.key=L.map Ce.key) {d:Ce} (hd:d∈M):∃ c∈L,c.n=d.n∧c.s=d.s∧c.g=d.g:=by
 have:d.key∈L.map Ce.key:=by rw [← h];exact List.mem_map.2 ⟨d,hd,rfl⟩
 obtain ⟨c,hc,e⟩:=List.mem_map.1 this;unfold Ce.key at e;injection e with e1 e2;injection e2 with e2 e3;exact ⟨c,hc,e1,e2,e3⟩
end
section
open Go.ChangeShapes Go.WideShapes Go.ChangeAt Go.RowKit Go.PlainAid Go.Lib Go.Maps
set_option maxRecDepth 10000
theorem row15 {w:World} {r:Nat} {T:TypeId} {a b u0 u1 u2 u3 u4 u5 u6 u7 u8 u9 u10 u11 u12 v0 v1 v2 v3 v4 v5 v6 v7 v8 v9 v10 v11 v12:Value} (h:w.heap[r]?=some (.cells #[a,b,u0,u1,u2,u3,u4,u5,u6,u7,u8,u9,u10,u11,u12] T (0,0))) :
  (((((((((((((w.setCell ⟨r,2,none⟩ v0).setCell ⟨r,3,none⟩ v1).setCell ⟨r,4,none⟩ v2).setCell ⟨r,5,none⟩ v3).setCell ⟨r,6,none⟩ v4).setCell ⟨r,7,none⟩ v5).setCell ⟨r,8,none⟩ v6).setCell ⟨r,9,none⟩ v7).setCell ⟨r,10,none⟩ v8).setCell ⟨r,11,none⟩ v9).setCell ⟨r,12,none⟩ v10).setCell ⟨r,13,none⟩ v11).setCell ⟨r,14,none⟩ v12).heap[r]?=some (.cells #[a,b,v0,v1,v2,v3,v4,v5,v6,v7,v8,v9,v10,v11,v12] T (0,0)):=by
 have h0:(w.setCell ⟨r,2,none⟩ v0).heap[r]?=some (.cells #[a,b,v0,u1,u2,u3,u4,u5,u6,u7,u8,u9,u10,u11,u12] T (0,0)):=heap_setCell_same _ r 2 _ _ v0 h;have h1:((w.setCell ⟨r,2,none⟩ v0).setCell ⟨r,3,none⟩ v1).heap[r]?=some (.cells #[a,b,v0,v1,u2,u3,u4,u5,u6,u7,u8,u9,u10,u11,u12] T (0,0)):=heap_setCell_same _ r 3 _ _ v1 h0;have h2:(((w.setCell ⟨r,2,none⟩ v0).setCell ⟨r,3,none⟩ v1).setCell ⟨r,4,none⟩ v2).heap[r]?=some (.cells #[a,b,v0,v1,v2,u3,u4,u5,u6,u7,u8,u9,u10,u11,u12] T (0,0)):=heap_setCell_same _ r 4 _ _ v2 h1;have h3:((((w.setCell ⟨r,2,none⟩ v0).setCell ⟨r,3,none⟩ v1).setCell ⟨r,4,none⟩ v2).setCell ⟨r,5,none⟩ v3).heap[r]?=some (.cells #[a,b,v0,v1,v2,v3,u4,u5,u6,u7,u8,u9,u10,u11,u12] T (0,0)):=heap_setCell_same _ r 5 _ _ v3 h2;have h4:(((((w.setCell ⟨r,2,none⟩ v0).setCell ⟨r,3,none⟩ v1).setCell ⟨r,4,none⟩ v2).setCell ⟨r,5,none⟩ v3).setCell ⟨r,6,none⟩ v4).heap[r]?=some (.cells #[a,b,v0,v1,v2,v3,v4,u5,u6,u7,u8,u9,u10,u11,u12] T (0,0)):=heap_setCell_same _ r 6 _ _ v4 h3;have h5:((((((w.setCell ⟨r,2,none⟩ v0).setCell ⟨r,3,none⟩ v1).setCell ⟨r,4,none⟩ v2).setCell ⟨r,5,none⟩ v3).setCell ⟨r,6,none⟩ v4).setCell ⟨r,7,none⟩ v5).heap[r]?=some (.cells #[a,b,v0,v1,v2,v3,v4,v5,u6,u7,u8,u9,u10,u11,u12] T (0,0)):=heap_setCell_same _ r 7 _ _ v5 h4;have h6:(((((((w.setCell ⟨r,2,none⟩ v0).setCell ⟨r,3,none⟩ v1).setCell ⟨r,4,none⟩ v2).setCell ⟨r,5,none⟩ v3).setCell ⟨r,6,none⟩ v4).setCell ⟨r,7,none⟩ v5).setCell ⟨r,8,none⟩ v6).heap[r]?=some (.cells #[a,b,v0,v1,v2,v3,v4,v5,v6,u7,u8,u9,u10,u11,u12] T (0,0)):=heap_setCell_same _ r 8 _ _ v6 h5;have h7:((((((((w.setCell ⟨r,2,none⟩ v0).setCell ⟨r,3,none⟩ v1).setCell ⟨r,4,none⟩ v2).setCell ⟨r,5,none⟩ v3).setCell ⟨r,6,none⟩ v4).setCell ⟨r,7,none⟩ v5).setCell ⟨r,8,none⟩ v6).setCell ⟨r,9,none⟩ v7).heap[r]?=some (.cells #[a,b,v0,v1,v2,v3,v4,v5,v6,v7,u8,u9,u10,u11,u12] T (0,0)):=heap_setCell_same _ r 9 _ _ v7 h6;have h8:(((((((((w.setCell ⟨r,2,none⟩ v0).setCell ⟨r,3,none⟩ v1).setCell ⟨r,4,none⟩ v2).setCell ⟨r,5,none⟩ v3).setCell ⟨r,6,none⟩ v4).setCell ⟨r,7,none⟩ v5).setCell ⟨r,8,none⟩ v6).setCell ⟨r,9,none⟩ v7).setCell ⟨r,10,none⟩ v8).heap[r]?=some (.cells #[a,b,v0,v1,v2,v3,v4,v5,v6,v7,v8,u9,u10,u11,u12] T (0,0)):=heap_setCell_same _ r 10 _ _ v8 h7;have h9:((((((((((w.setCell ⟨r,2,none⟩ v0).setCell ⟨r,3,none⟩ v1).setCell ⟨r,4,none⟩ v2).setCell ⟨r,5,none⟩ v3).setCell ⟨r,6,none⟩ v4).setCell ⟨r,7,none⟩ v5).setCell ⟨r,8,none⟩ v6).setCell ⟨r,9,none⟩ v7).setCell ⟨r,10,none⟩ v8).setCell ⟨r,11,none⟩ v9).heap[r]?=some (.cells #[a,b,v0,v1,v2,v3,v4,v5,v6,v7,v8,v9,u10,u11,u12] T (0,0)):=heap_setCell_same _ r 11 _ _ v9 h8;have h10:(((((((((((w.setCell ⟨r,2,none⟩ v0).setCell ⟨r,3,none⟩ v1).setCell ⟨r,4,none⟩ v2).setCell ⟨r,5,none⟩ v3).setCell ⟨r,6,none⟩ v4).setCell ⟨r,7,none⟩ v5).setCell ⟨r,8,none⟩ v6).setCell ⟨r,9,none⟩ v7).setCell ⟨r,10,none⟩ v8).setCell ⟨r,11,none⟩ v9).setCell ⟨r,12,none⟩ v10).heap[r]?=some (.cells #[a,b,v0,v1,v2,v3,v4,v5,v6,v7,v8,v9,v10,u11,u12] T (0,0)):=heap_setCell_same _ r 12 _ _ v10 h9;have h11:((((((((((((w.setCell ⟨r,2,none⟩ v0).setCell ⟨r,3,none⟩ v1).setCell ⟨r,4,none⟩ v2).setCell ⟨r,5,none⟩ v3).setCell ⟨r,6,none⟩ v4).setCell ⟨r,7,none⟩ v5).setCell ⟨r,8,none⟩ v6).setCell ⟨r,9,none⟩ v7).setCell ⟨r,10,none⟩ v8).setCell ⟨r,11,none⟩ v9).setCell ⟨r,12,none⟩ v10).setCell ⟨r,13,none⟩ v11).heap[r]?=some (.cells #[a,b,v0,v1,v2,v3,v4,v5,v6,v7,v8,v9,v10,v11,u12] T (0,0)):=heap_setCell_same _ r 13 _ _ v11 h10;have h12:(((((((((((((w.setCell ⟨r,2,none⟩ v0).setCell ⟨r,3,none⟩ v1).setCell ⟨r,4,none⟩ v2).setCell ⟨r,5,none⟩ v3).setCell ⟨r,6,none⟩ v4).setCell ⟨r,7,none⟩ v5).setCell ⟨r,8,none⟩ v6).setCell ⟨r,9,none⟩ v7).setCell ⟨r,10,none⟩ v8).setCell ⟨r,11,none⟩ v9).setCell ⟨r,12,none⟩ v10).setCell ⟨r,13,none⟩ v11).setCell ⟨r,14,none⟩ v12).heap[r]?=some (.cells #[a,b,v0,v1,v2,v3,v4,v5,v6,v7,v8,v9,v10,v11,v12] T (0,0)):=heap_setCell_same _ r 14 _ _ v12 h11;exact h12
theorem below_15 {w:World} {K r:Nat} {v0 v1 v2 v3 v4 v5 v6 v7 v8 v9 v10 v11 v12:Value} (hK:K≤r):Below K w (((((((((((((w.setCell ⟨r,2,none⟩ v0).setCell ⟨r,3,none⟩ v1).setCell ⟨r,4,none⟩ v2).setCell ⟨r,5,none⟩ v3).setCell ⟨r,6,none⟩ v4).setCell ⟨r,7,none⟩ v5).setCell ⟨r,8,none⟩ v6).setCell ⟨r,9,none⟩ v7).setCell ⟨r,10,none⟩ v8).setCell ⟨r,11,none⟩ v9).setCell ⟨r,12,none⟩ v10).setCell ⟨r,13,none⟩ v11).setCell ⟨r,14,none⟩ v12):=by
 repeat (refine Below.setCell ?_ hK _)
 exact Below.refl _ _
theorem AgO.kept15 {w:World} {B r:Nat} {o:Ag} {p:Pl} {v0 v1 v2 v3 v4 v5 v6 v7 v8 v9 v10 v11 v12:Value} (h:AgO w B o p) (hr:r<B):AgO (((((((((((((w.setCell ⟨r,2,none⟩ v0).setCell ⟨r,3,none⟩ v1).setCell ⟨r,4,none⟩ v2).setCell ⟨r,5,none⟩ v3).setCell ⟨r,6,none⟩ v4).setCell ⟨r,7,none⟩ v5).setCell ⟨r,8,none⟩ v6).setCell ⟨r,9,none⟩ v7).setCell ⟨r,10,none⟩ v8).setCell ⟨r,11,none⟩ v9).setCell ⟨r,12,none⟩ v10).setCell ⟨r,13,none⟩ v11).setCell ⟨r,14,none⟩ v12) B o p:=by
 repeat (refine AgO.below ?_ hr _)
 exact h
theorem OwnC.ne {w:World} {B B':Nat} {v:Value} {M:List Ce} {o:Ag} {p:Pl} (h:OwnC w B v M) (ha:AgO w B' o p):∀ k,AgBlk o p k→v.ownBlock≠some k:=fun k hk e=>by
 rcases h.2 with ⟨rfl,_⟩ | ⟨g,cap,cur,rfl,q1,q2,q3⟩
 ·cases e
 ·obtain rfl:g=k:=Option.some.inj e
  rcases hk with (hk | hk) | (hk | hk)
  ·exact ha.P.ne q2 (by decide) hk
  ·exact ha.N.ne q2 (by decide) hk
  ·rcases ha.E.2.2 with ⟨e',_⟩ | ⟨b,c,cur',e',h2,h3,h4⟩
   ·rw [e'] at hk;cases hk
   ·rw [e'] at hk
    obtain rfl:b=g:=Option.some.inj hk;rw [q2] at h3;injection h3 with h3;injection h3 with _ h3
    revert h3;decide
  ·rcases ha.R.2.2 with ⟨e',_⟩ | ⟨b,c,cur',e',h2,h3,h4⟩
   ·rw [e'] at hk;cases hk
   ·rw [e'] at hk
    obtain rfl:b=g:=Option.some.inj hk;rw [q2] at h3;injection h3 with h3;injection h3 with _ h3
    revert h3;decide
theorem CesO.row {w w':World} {B B':Nat} {v:Value} {L M:List Ce} (h:CesO w B L) (ho:OwnC w B' v M) (hg:w.grownBy w' v.ownBlock):CesO w' B L:=
 h.keptS (S:=fun k=>v.ownBlock=some k) ⟨hg.os,hg.tape,hg.output,hg.size,fun k hk hn=>hg.block k hk (fun e=>hn e.symm)⟩ (fun c hc k e=>ho.ne (h.o c hc) k e)
def ApV (u v:Value):Prop:=∀ k,u.ownBlock=some k→v.ownBlock≠some k
theorem OwnC.kept {w w':World} {B:Nat} {u v:Value} {L:List Ce} (h:OwnC w B u L) (hg:w.grownBy w' v.ownBlock) (ha:ApV u v):OwnC w' B u L:=
 World.ownsRow.kept h hg (by
  cases q:u.ownBlock with
  | none=>exact .inl rfl
  | some j=>exact .inr (fun e=>ha j q e.symm))
structure CpI (w wr:World) (L:List Ce) (k:Nat) (v:Value) (M:List Ce):Prop where
 r:OwnC wr w.heap.size v M
 o:CesO wr w.heap.size M
 ky:M.map Ce.key=(L.take k).map Ce.key
 b:Below w.heap.size w wr
theorem OwnC.made (w:World) (cs:Array Value) (h:cs.size=0):OwnC (w.alloc (.cells cs 69)) w.heap.size (.slice (some ⟨w.heap.size,0,none⟩) 0 0) []:=by
 have hb:=heap_alloc_new w (.cells cs 69);exact ⟨rfl,.inr ⟨_,0,cs,rfl,Nat.le_refl _,hb,Nat.le_refl _,Nat.zero_le _,by simpa using h,by simp [flC]⟩⟩
theorem CpI.len {w wr:World} {L M:List Ce} {k:Nat} {v:Value} (h:CpI w wr L k v M) (hk:k≤L.length):M.length=k:=by
 have:=congrArg List.length h.ky;simp at this;omega
theorem CpI.step {w wr w1 W2:World} {L M:List Ce} {k:Nat} {u:Value} {c:Ce} {q:Pl} (h:CpI w wr L k u M) (hc:L[k]?=some c) (hb1:Below wr.heap.size wr w1) (ho:AgO w1 wr.heap.size c.g q) (hb2:Below wr.heap.size w1 W2) (ho2:AgO W2 (wr.heap.size+1) c.g q)
  (v':Value) (w3:World) (hown:w3.ownsRow w.heap.size 69 15 v' (M.length+1) (flC M ++ ceL ⟨c.n,c.s,c.g,q⟩)) (hg:(W2.alloc (.cells (ceArr ⟨c.n,c.s,c.g,q⟩) 69)).grownBy w3 u.ownBlock):CpI w w3 L (k+1) v' (M ++ [⟨c.n,c.s,c.g,q⟩]):=by
 have hbr:Below wr.heap.size wr W2:=hb1.trans hb2;have hb4:Below wr.heap.size wr (W2.alloc (.cells (ceArr ⟨c.n,c.s,c.g,q⟩) 69)):=hbr.alloc hbr.size _;have hbw:Below w.heap.size w (W2.alloc (.cells (ceArr ⟨c.n,c.s,c.g,q⟩) 69)):=h.b.trans (hb4.mono h.b.size);have a2:Below W2.heap.size W2 (W2.alloc (.cells (ceArr ⟨c.n,c.s,c.g,q⟩) 69)):=(Below.refl _ _).alloc (Nat.le_refl _) _;have hO:=(h.o.add hb4 h.b.size (c:=⟨c.n,c.s,c.g,q⟩) ((ho2.past a2).le (Nat.le_succ _)));have hR:OwnC (W2.alloc (.cells (ceArr ⟨c.n,c.s,c.g,q⟩) 69)) w.heap.size u M:=h.r.past hb4;have hp:(⟨c.n,c.s,c.g,q⟩ :: M:List Ce).Perm (M ++ [⟨c.n,c.s,c.g,q⟩]):=(List.perm_append_singleton _ _).symm;refine ⟨?_,(hO.row hR hg).perm hp,?_,hbw.grown hg hbw.size (fun j hj=>(World.ownsRow.lt h.r j hj).1)⟩
 ·show w3.ownsRow _ _ _ _ _ _
  rw [List.length_append,flC_app,flC_one];exact hown
 ·rw [List.map_append,h.ky,List.take_add_one,hc,List.map_append];rfl
set_option maxHeartbeats 8000000 in
theorem c_l08CopyS {w:World} {ao:Option Addr} {N ca:Nat} {L:List Ce} (hN:L.length=N) (lN:N≤1048576) (sm:∀ c∈L,AgSm c.g) (pl:∀ c∈L,PlG c.g c.p) (hA:CesAt w ao L) :
  Calls Tryz.prog 87 #[.slice ao N ca] w fun e w'=>∃ v M,e=.returned v∧OwnC w' w.heap.size v M∧CesO w' w.heap.size M∧M.map Ce.key=L.map Ce.key∧Below w.heap.size w w'∧v≠.slice none 0 0:=by
 obtain ⟨i0,hi,hz0,hz1,hz2⟩:=infoCe;have HA:=hide hA;have HN:=hide hN;have SM:=hide sm;have PL:=hide pl;have M0:∀ cs:Array Value,cs.size=0→CpI w (w.alloc (.cells cs 69)) L 0 (.slice (some ⟨w.heap.size,0,none⟩) 0 0) []:=fun cs hcs=>⟨OwnC.made w cs hcs,CesO.nil _ _,by simp,(Below.refl _ _).alloc (Nat.le_refl _) _⟩;have M0:=hide M0;clear hA hN sm pl;go_enter Tryz.func87,Tryz.ntmps87;go_wp2
 go_loopw [3,4] (fun v i wr=>∃ (k:Nat) (M:List Ce),k≤N∧i=.int .i64 k∧Hid (CpI w wr L k v M)∧Hid (v≠.slice none 0 0)) (fun v i wr=>N - (Go.RowKit.intOf i).toNat)
 case atStart=>exact ⟨0,[],Nat.zero_le _,rfl,M0.out _ rfl,hide (fun e=>by cases e)⟩
 case round=>
  clear M0;obtain ⟨k,M,hk,rfl,HI,HNn⟩:=hrel;by_cases hkn:k<N
  ·obtain ⟨g,off,e,hcell⟩:=HA.out.1 (by have:=HN.out;omega)
   obtain ⟨c,hc⟩:∃ c,L[k]?=some c:=⟨L[k]'(by have:=HN.out;omega),List.getElem?_eq_getElem _⟩;subst e;obtain ⟨x0,x1,x2,x3,x4,x5,x6,x7,x8,x9,x10,x11,x12,x13,x14⟩:=cec_past (hcell k c hc) HI.out.b;have hm:=List.mem_of_getElem? hc;have HC:=hide hc;have SC:=hide (SM.out c hm);have PC:=hide (PL.out c hm);have AC:=hide (ag_past (HA.out.2 c hm) HI.out.b);have HB0:Hid (Below wr.heap.size wr (wr.alloc (.cells (ceArr c) 69))):=(Below.refl _ _).alloc (Nat.le_refl _) _;have HX:=hide (heap_alloc_new wr (.cells (ceArr c) 69));have HS0:Hid ((wr.alloc (.cells (ceArr c) 69)).heap.size=wr.heap.size+1):=by show _=_;simp
   have hkni:(k:Int)<(N:Int):=by omega
   clear hcell hc hm;go_wp2_with fail;clear x0 x1 x2 x3 x4 x5 x6 x7 x8 x9 x10 x11 x12 x13 x14;generalize wr.alloc (.cells (ceArr c) 69)=W0 at HB0 HX HS0 ⊢;refine (c_l07Copy SC.out PC.out (ag_past AC.out HB0.out)).mono ?_;rintro e w1 ⟨v,o,rfl,rfl,⟨q,rfl,ho⟩,hb1⟩;have hrow:w1.heap[wr.heap.size]?=some (.cells (ceArr c) 69 (0,0)):=(hb1.block _ (by have:=HS0.out;omega)).trans HX.out;have HB1:=hide (chain HB0.out hb1);have HO:=hide (ho.le (show wr.heap.size≤W0.heap.size from HB0.out.size));have HO1:Hid (AgO w1 (wr.heap.size+1) c.g q):=by rw [← HS0.out];exact ho
   have f2:=fzR 2 hrow;have c2:=cellKC hrow 2 rfl;have f3:=fzR 3 hrow;have c3:=cellKC hrow 3 rfl;have f4:=fzR 4 hrow;have c4:=cellKC hrow 4 rfl;have f5:=fzR 5 hrow;have c5:=cellKC hrow 5 rfl;have f6:=fzR 6 hrow;have c6:=cellKC hrow 6 rfl;have f7:=fzR 7 hrow;have c7:=cellKC hrow 7 rfl;have f8:=fzR 8 hrow;have c8:=cellKC hrow 8 rfl;have f9:=fzR 9 hrow;have c9:=cellKC hrow 9 rfl;have f10:=fzR 10 hrow;have c10:=cellKC hrow 10 rfl;have f11:=fzR 11 hrow;have c11:=cellKC hrow 11 rfl;have f12:=fzR 12 hrow;have c12:=cellKC hrow 12 rfl;have f13:=fzR 13 hrow;have c13:=cellKC hrow 13 rfl;have f14:=fzR 14 hrow;have c14:=cellKC hrow 14 rfl;have HR2:=hide (row15 (v0:=.int .i64 c.g.k) (v1:=.int .u64 c.g.s) (v2:=.int .i64 c.g.h) (v3:=.int .u64 c.g.l) (v4:=.int .i64 c.g.a) (v5:=.int .i64 c.g.t) (v6:=.int .u64 c.g.z) (v7:=.slice q.pa c.g.P.length q.pc) (v8:=.slice q.na c.g.N.length q.nc) (v9:=.int .i64 c.g.x) (v10:=.int .u64 c.g.y) (v11:=.slice q.ea c.g.E.length q.ec) (v12:=.slice q.ra c.g.R.length q.rc) hrow);have HB2:Hid (Below wr.heap.size w1 (((((((((((((w1.setCell ⟨wr.heap.size,2,none⟩ (.int .i64 c.g.k)).setCell ⟨wr.heap.size,3,none⟩ (.int .u64 c.g.s)).setCell ⟨wr.heap.size,4,none⟩ (.int .i64 c.g.h)).setCell ⟨wr.heap.size,5,none⟩ (.int .u64 c.g.l)).setCell ⟨wr.heap.size,6,none⟩ (.int .i64 c.g.a)).setCell ⟨wr.heap.size,7,none⟩ (.int .i64 c.g.t)).setCell ⟨wr.heap.size,8,none⟩ (.int .u64 c.g.z)).setCell ⟨wr.heap.size,9,none⟩ (.slice q.pa c.g.P.length q.pc)).setCell ⟨wr.heap.size,10,none⟩ (.slice q.na c.g.N.length q.nc)).setCell ⟨wr.heap.size,11,none⟩ (.int .i64 c.g.x)).setCell ⟨wr.heap.size,12,none⟩ (.int .u64 c.g.y)).setCell ⟨wr.heap.size,13,none⟩ (.slice q.ea c.g.E.length q.ec)).setCell ⟨wr.heap.size,14,none⟩ (.slice q.ra c.g.R.length q.rc))):=below_15 (Nat.le_refl _);have HO2:Hid (AgO (((((((((((((w1.setCell ⟨wr.heap.size,2,none⟩ (.int .i64 c.g.k)).setCell ⟨wr.heap.size,3,none⟩ (.int .u64 c.g.s)).setCell ⟨wr.heap.size,4,none⟩ (.int .i64 c.g.h)).setCell ⟨wr.heap.size,5,none⟩ (.int .u64 c.g.l)).setCell ⟨wr.heap.size,6,none⟩ (.int .i64 c.g.a)).setCell ⟨wr.heap.size,7,none⟩ (.int .i64 c.g.t)).setCell ⟨wr.heap.size,8,none⟩ (.int .u64 c.g.z)).setCell ⟨wr.heap.size,9,none⟩ (.slice q.pa c.g.P.length q.pc)).setCell ⟨wr.heap.size,10,none⟩ (.slice q.na c.g.N.length q.nc)).setCell ⟨wr.heap.size,11,none⟩ (.int .i64 c.g.x)).setCell ⟨wr.heap.size,12,none⟩ (.int .u64 c.g.y)).setCell ⟨wr.heap.size,13,none⟩ (.slice q.ea c.g.E.length q.ec)).setCell ⟨wr.heap.size,14,none⟩ (.slice q.ra c.g.R.length q.rc)) (wr.heap.size+1) c.g q):=HO1.out.kept15 (Nat.lt_succ_self _);clear hrow hb1 ho HX HS0 HO1;go_upto_region 7 with fail;clear f2 c2 f3 c3 f4 c4 f5 c5 f6 c6 f7 c7 f8 c8 f9 c9 f10 c10 f11 c11 f12 c12 f13 c13 f14 c14;generalize (((((((((((((w1.setCell ⟨wr.heap.size,2,none⟩ (.int .i64 c.g.k)).setCell ⟨wr.heap.size,3,none⟩ (.int .u64 c.g.s)).setCell ⟨wr.heap.size,4,none⟩ (.int .i64 c.g.h)).setCell ⟨wr.heap.size,5,none⟩ (.int .u64 c.g.l)).setCell ⟨wr.heap.size,6,none⟩ (.int .i64 c.g.a)).setCell ⟨wr.heap.size,7,none⟩ (.int .i64 c.g.t)).setCell ⟨wr.heap.size,8,none⟩ (.int .u64 c.g.z)).setCell ⟨wr.heap.size,9,none⟩ (.slice q.pa c.g.P.length q.pc)).setCell ⟨wr.heap.size,10,none⟩ (.slice q.na c.g.N.length q.nc)).setCell ⟨wr.heap.size,11,none⟩ (.int .i64 c.g.x)).setCell ⟨wr.heap.size,12,none⟩ (.int .u64 c.g.y)).setCell ⟨wr.heap.size,13,none⟩ (.slice q.ea c.g.E.length q.ec)).setCell ⟨wr.heap.size,14,none⟩ (.slice q.ra c.g.R.length q.rc))=W2 at HR2 HB2 HO2 ⊢;have y0:=cellKC HR2.out 0 rfl;have y1:=cellKC HR2.out 1 rfl;have y2:=cellKC HR2.out 2 rfl;have y3:=cellKC HR2.out 3 rfl;have y4:=cellKC HR2.out 4 rfl;have y5:=cellKC HR2.out 5 rfl;have y6:=cellKC HR2.out 6 rfl;have y7:=cellKC HR2.out 7 rfl;have y8:=cellKC HR2.out 8 rfl;have y9:=cellKC HR2.out 9 rfl;have y10:=cellKC HR2.out 10 rfl;have y11:=cellKC HR2.out 11 rfl;have y12:=cellKC HR2.out 12 rfl;have y13:=cellKC HR2.out 13 rfl;have y14:=cellKC HR2.out 14 rfl;have HF:=hide (HI.out.step HC.out HB1.out HO.out HB2.out HO2.out);have hML:M.length=k:=HI.out.len (by have:=HN.out;omega);have HML:=hide hML;have hRW:OwnC W2 w.heap.size u3 M:=HI.out.r.past (HB1.out.trans HB2.out);have HRW:=hide hRW;have hzs:w.heap.size≤W2.heap.size:=by have:=HI.out.b.size;have:=(HB1.out.trans HB2.out).size;omega
   clear hML hRW HR2;go_wp2_with (at_builtin;refine wpList_append_own _ rfl _ _ 36 rfl w.heap.size 69 i0 (.agg zeroCe) 15 192 Tryz.underlying36 hi hz0 hz1 hz2 rfl (by decide) _ _ _ rfl (World.ownsRow.alloc HRW.out _) ⟨W2.heap.size,0,none⟩ 1 1 (ceL ⟨c.n,c.s,c.g,q⟩) rfl rfl ?c1 ?c2 ?c3 ?c4 ?c5 ?_)
   case c1=>exact new_cellsC (c:=⟨c.n,c.s,c.g,q⟩)
   case c2=>exact ceL_one _
   case c3=>have:=HML.out;unfold maxLen;omega
   case c4=>have:=HML.out;omega
   case c5=>simp;omega
   intro v' w3 hown' hgrow hnil;have HN3:Hid (v'≠.slice none 0 0):=hnil;clear hnil;have HF3:=hide (HF.out v' w3 hown' hgrow);clear hown' hgrow HF;go_wp2;go_roundw
   case rel=>exact ⟨k+1,_,by omega,by go_num,HF3,HN3⟩
   case measure=>simp [Go.RowKit.intOf];omega
  ·have eL:L.take k=L:=List.take_of_length_le (by have:=HN.out;omega)
   obtain rfl:k=N:=by omega
   have HF:Hid (M.map Ce.key=L.map Ce.key):=by have:=HI.out.ky;rw [eL] at this;exact this
   clear eL hk hkn;go_wp2;go_ret;exact ⟨_,M,rfl,HI.out.r,HI.out.o,HF.out,HI.out.b,HNn.out⟩
end
section
open Go.ChangeShapes Go.WideShapes Go.ChangeAt Go.RowKit Go.PlainAid Go.Lib Go.Maps
set_option maxRecDepth 10000
theorem ApV.symm {u v:Value} (h:ApV u v):ApV v u:=fun k h1 h2=>h k h2 h1
theorem OwnC.mk {w:World} {B:Nat} {v:Value} {F:List Ce} {c:Ce} (h:w.ownsRow B 69 15 v (F.length+1) (flC F ++ ceL c)):OwnC w B v (F ++ [c]):=by
 show w.ownsRow _ _ _ _ _ _
 rw [List.length_append,flC_app,flC_one];exact h
end
section
open Go.ChangeShapes Go.WideShapes Go.ChangeAt Go.RowKit Go.PlainAid Go.Lib
set_option maxRecDepth 10000
def Ty (w:World) (v:Value) (T:TypeId):Prop:=∀ k,v.ownBlock=some k→∃ cur fz,w.heap[k]?=some (.cells cur T fz)
theorem Ty.ne {w:World} {u v:Value} {T T':TypeId} (h:Ty w u T) (h':Ty w v T') (hT:T≠T'):∀ k,u.ownBlock=some k→v.ownBlock≠some k:=fun k e1 e2=>by
 obtain ⟨c,f,q⟩:=h k e1;obtain ⟨c',f',q'⟩:=h' k e2;rw [q] at q';injection q' with q';injection q' with _ q';exact hT q'
theorem OwnB.ty {w:World} {B n:Nat} {v:Value} {L:List Bn} (h:OwnB w B v n L):Ty w v 128:=fun k e=>by
 rcases h.2 with ⟨e1,_⟩ | ⟨b,off,c,cur,e1,h1,h2,h3⟩
 ·rw [e1] at e;cases e
 ·rw [e1] at e
  obtain rfl:b=k:=Option.some.inj e;exact ⟨_,_,h2⟩
theorem own_ty {w:World} {B n sz:Nat} {T:TypeId} {v:Value} {xs:List Value} (h:w.ownsRow B T sz v n xs):Ty w v T:=fun k e=>by
 rcases h.2 with ⟨e1,_⟩ | ⟨b,c,cur,e1,h1,h2,h3⟩
 ·rw [e1] at e;cases e
 ·rw [e1] at e
  obtain rfl:b=k:=Option.some.inj e;exact ⟨_,_,h2⟩
theorem gS {w w':World} {r:Option Nat} (hg:w.grownBy w' r):GrownS w w' (fun k=>r=some k):=⟨hg.os,hg.tape,hg.output,hg.size,fun k hk hn=>hg.block k hk (fun e=>hn e.symm)⟩
theorem AgO.mE {w w':World} {B n k0:Nat} {g:Ag} {p:Pl} (h:AgO w B g p) (hn:n=g.E.length) (ho:OwnN .u64 56 w' B (.slice p.ea n p.ec) n (mkn k0 n)) (hg:w.grownBy w' (Value.slice p.ea n p.ec).ownBlock):AgO w' B { g with E:=mkn k0 n } p:=by
 subst hn;have e:(mkn k0 g.E.length).length=g.E.length:=mkn_len _ _;refine ⟨h.P.keptS (gS hg) (fun k q1 q2=>Ty.ne h.P.ty (own_ty h.E.2) (by decide) k q1 q2),h.N.keptS (gS hg) (fun k q1 q2=>Ty.ne h.N.ty (own_ty h.E.2) (by decide) k q1 q2),h.ap,by show OwnN _ _ _ _ (.slice p.ea (mkn k0 g.E.length).length p.ec) (mkn k0 g.E.length).length _;rw [e];exact ho,h.R.keptS (gS hg) (fun k q1 q2=>Ty.ne (own_ty h.R.2) (own_ty h.E.2) (by decide) k q1 q2)⟩
end
section
open Go.ChangeShapes Go.WideShapes Go.ChangeAt Go.RowKit Go.PlainAid Go.Lib Go.Maps
set_option maxRecDepth 10000
structure ShI (w:World) (ao:Option Addr) (N:Nat) (L:List Ce):Prop where
 hN:L.length=N
 lN:N≤1048576
 ok:∀ c∈L,AgOk c.g
 sm:∀ c∈L,AgSm c.g
 ss:∀ c∈L,c.s.size≤maxLen
 pl:∀ c∈L,PlG c.g c.p
 mem:CesAt w ao L
theorem ShI.past {w w':World} {ao:Option Addr} {N:Nat} {L:List Ce} (h:ShI w ao N L) (hb:Below w.heap.size w w'):ShI w' ao N L:=⟨h.hN,h.lN,h.ok,h.sm,h.ss,h.pl,ces_past h.mem hb⟩
theorem asc_key:∀ {L M:List Ce},M.map Ce.key=L.map Ce.key→AscC L→AscC M
 | [],[],_,_=>.nil
 | c :: L,d :: M,h,k=>by
  simp only [List.map_cons,List.cons.injEq] at h;obtain ⟨k1,k2⟩:=List.pairwise_cons.1 k;refine List.pairwise_cons.2 ⟨fun x hx=>?_,asc_key h.2 k2⟩;have:x.key∈L.map Ce.key:=by rw [← h.2];exact List.mem_map.2 ⟨x,hx,rfl⟩
  obtain ⟨y,hy,e⟩:=List.mem_map.1 this;rw [cAh_key h.1 e.symm];exact k1 y hy
 | [],_ :: _,h,_=>by simp at h
 | _ :: _,[],h,_=>by simp at h
theorem map_len {L M:List Ce} (h:M.map Ce.key=L.map Ce.key):M.length=L.length:=by
 have:=congrArg List.length h
 simpa using this
end
section
open Go.ChangeShapes Go.WideShapes Go.ChangeAt Go.RowKit Go.PlainAid Go.Lib
set_option maxRecDepth 10000
theorem OwnC.keptS {w w':World} {B:Nat} {v:Value} {L:List Ce} {S:Nat→Prop} (h:OwnC w B v L) (hg:GrownS w w' S) (h1:∀ k,v.ownBlock=some k→¬ S k):OwnC w' B v L:=by
 refine ⟨h.1,?_⟩;rcases h.2 with q | ⟨g,cap,cur,e,q1,q2,q3⟩
 ·exact .inl q
 ·exact .inr ⟨g,cap,cur,e,q1,hg.row q2 (h1 g (by rw [e];rfl)),q3⟩
end
section
open Go.ChangeShapes Go.WideShapes Go.ChangeAt Go.RowKit Go.PlainAid Go.Lib
variable {w w':World} {lo hi:Nat} {ar ap:Option Addr} {n1 n2 c1 c2:Nat} {R O:List Ce}
set_option maxRecDepth 10000
theorem AgO.plgX {w:World} {B:Nat} {g:Ag} {p:Pl} (h:AgO w B g p):PlG g p:=by
 have fb:∀ {ao:Option Addr} {n c:Nat} {L:List Bn},OwnB w B (.slice ao n c) n L→ao=none→c=0:=fun {ao n c L} o e=>by
  rcases o.2 with ⟨q,_⟩ | ⟨b,off,c',cur,q,_⟩
  ·cases q;rfl
  ·cases q;cases e
 have fn:∀ {kd:IntKind} {T:TypeId} {ao:Option Addr} {n c:Nat} {L:List Int},OwnN kd T w B (.slice ao n c) n L→(ao=none→c=0)∧Flat ao∧n≤c∧c≤maxLen:=fun {kd T ao n c L} o=>by
  rcases o.2.2 with ⟨q,q0⟩ | ⟨b,c',cur,q,_,_,q1,q2,_⟩
  ·cases q;exact ⟨fun _=>rfl,.inl rfl,Nat.le_refl _,Nat.zero_le _⟩
  ·cases q;exact ⟨(fun e=>by cases e),.inr ⟨_,_,rfl⟩,q1,q2⟩
 exact ⟨fb h.P,fb h.N,(fn h.E).1,(fn h.R).1,(fn h.E).2.1,(fn h.R).2.1,(fn h.E).2.2.1,(fn h.E).2.2.2⟩
structure CeQ (L:List Ce):Prop where
 ok:∀ c∈L,AgOk c.g
 sm:∀ c∈L,AgSm c.g
 ss:∀ c∈L,c.s.size≤maxLen
end
section
open Go.ChangeShapes Go.WideShapes Go.ChangeAt Go.RowKit Go.PlainAid Go.Lib Go.Maps
set_option maxRecDepth 10000
def kC (n:Int) (s:ByteArray):Ce:=⟨n,s,agZero,⟨none,0,none,0,none,0,none,0⟩⟩
def loF (n:Int) (s:ByteArray) (c:Ce):Bool:=cAh c (kC n s)
def hiF (n:Int) (s:ByteArray) (c:Ce):Bool:=cAh (kC n s) c
def HasK (L:List Ce) (n:Int) (s:ByteArray):Prop:=∃ c∈L,c.n=n∧c.s=s
theorem cAh_left {a b c:Ce} (h:SameKey a b):cAh a c=cAh b c:=by unfold cAh;rw [h.1,h.2]
theorem cAh_right {a b c:Ce} (h:SameKey a b):cAh c a=cAh c b:=by unfold cAh;rw [h.1,h.2]
theorem yes_split {L:List Ce} {c:Ce} (hL:AscC L) (hc:c∈L):L=L.filter (loF c.n c.s) ++ c :: L.filter (hiF c.n c.s):=by
 obtain ⟨A,B,rfl⟩:=List.append_of_mem hc;obtain ⟨a1,a2,a3⟩:=List.pairwise_append.1 hL;obtain ⟨b1,b2⟩:=List.pairwise_cons.1 a2;have k:SameKey (kC c.n c.s) c:=⟨rfl,rfl⟩;have e1:A.filter (loF c.n c.s)=A:=List.filter_eq_self.2 (fun x hx=>by unfold loF;rw [cAh_right k];exact a3 x hx c (by simp));have e2:A.filter (hiF c.n c.s)=[]:=List.filter_eq_nil_iff.2 (fun x hx=>by unfold hiF;rw [cAh_left k,cAh_ant (a3 x hx c (by simp))];simp);have e3:B.filter (loF c.n c.s)=[]:=List.filter_eq_nil_iff.2 (fun x hx=>by unfold loF;rw [cAh_right k,cAh_ant (b1 x hx)];simp);have e4:B.filter (hiF c.n c.s)=B:=List.filter_eq_self.2 (fun x hx=>by unfold hiF;rw [cAh_left k];exact b1 x hx);have f1:loF c.n c.s c=false:=by unfold loF;rw [cAh_right k,cAh_irr]
 have f2:hiF c.n c.s c=false:=by unfold hiF;rw [cAh_left k,cAh_irr]
 rw [List.filter_append,List.filter_append,List.filter_cons,List.filter_cons,f1,f2,e1,e2,e3,e4];simp
theorem put_asc {L:List Ce} {c:Ce} (hL:AscC L):AscC (L.filter (loF c.n c.s) ++ c :: L.filter (hiF c.n c.s)):=by
 have k:SameKey (kC c.n c.s) c:=⟨rfl,rfl⟩
 have lo:∀ x∈L.filter (loF c.n c.s),cAh x c=true:=fun x hx=>by
  have:=(List.mem_filter.1 hx).2;unfold loF at this;rw [cAh_right k] at this;exact this
 have hi:∀ x∈L.filter (hiF c.n c.s),cAh c x=true:=fun x hx=>by
  have:=(List.mem_filter.1 hx).2;unfold hiF at this;rw [cAh_left k] at this;exact this
 refine List.pairwise_append.2 ⟨hL.filter _,List.pairwise_cons.2 ⟨hi,hL.filter _⟩,fun a ha b hb=>?_⟩;rcases List.mem_cons.1 hb with rfl | hb
 ·exact lo a ha
 ·exact cAh_trans (lo a ha) (hi b hb)
end
section
open Go.ChangeShapes Go.WideShapes Go.ChangeAt Go.RowKit Go.PlainAid Go.Lib
set_option maxRecDepth 10000
structure PlcA (L:List Ce) (n:Int) (s:ByteArray) (k:Nat) (is:Bool):Prop where
 le:k≤L.length
 lo:∀ i c,i<k→L[i]?=some c→loF n s c=true
 hi:∀ c,L[k]?=some c→loF n s c=false
 yes:is=true→∃ c,L[k]?=some c∧c.n=n∧c.s=s
 no:is=false→∀ c,L[k]?=some c→¬ (c.n=n∧c.s=s)
theorem loF_step {L:List Ce} {n:Int} {s:ByteArray} {k:Nat} {c:Ce} (h:∀ i c,i<k→L[i]?=some c→loF n s c=true) (hc:L[k]?=some c) (hl:loF n s c=true):∀ i c,i<k+1→L[i]?=some c→loF n s c=true:=by
 intro i d hi hd;by_cases e:i=k
 ·subst e;rw [hc] at hd;injection hd with hd;subst hd;exact hl
 ·exact h i d (by omega) hd
theorem plc_at {L:List Ce} {n:Int} {s:ByteArray} {k:Nat} {c:Ce} (h:∀ i c,i<k→L[i]?=some c→loF n s c=true) (hc:L[k]?=some c) (hl:loF n s c=false) (is:Bool) (hs:is=true↔(c.n=n∧c.s=s)):PlcA L n s k is where
 le:=by have:=(List.getElem?_eq_some_iff.1 hc).1;omega
 lo:=h
 hi:=fun d hd=>by rw [hc] at hd;injection hd with hd;subst hd;exact hl
 yes:=fun e=>⟨c,hc,hs.1 e⟩
 no:=fun e d hd q=>by
  rw [hc] at hd;injection hd with hd;subst hd;rw [hs.2 q] at e;cases e
theorem plc_end {L:List Ce} {n:Int} {s:ByteArray} {k:Nat} (h:∀ i c,i<k→L[i]?=some c→loF n s c=true) (hk:k=L.length):PlcA L n s k false where
 le:=by omega
 lo:=h
 hi:=fun d hd=>by have:=(List.getElem?_eq_some_iff.1 hd).1;omega
 yes:=fun e=>by cases e
 no:=fun e d hd=>by have:=(List.getElem?_eq_some_iff.1 hd).1;omega
set_option maxHeartbeats 8000000 in
theorem c_l08Place {w:World} {ao:Option Addr} {N ca:Nat} {L:List Ce} (n:Int) (s:ByteArray) (hN:L.length=N) (lN:N≤1048576) (hA:CesAt w ao L) :
  Calls Tryz.prog 98 #[.slice ao N ca,.int .i64 n,.string s] w fun e w'=>∃ (k:Nat) (is:Bool),e=.returned (.tuple #[.int .i64 k,.bool is])∧PlcA L n s k is∧Below w.heap.size w w':=by
 have HA:=hide hA;have HN:=hide hN;clear hA hN;go_enter Tryz.func98,Tryz.ntmps98;go_wp2
 go_loopw [8] (fun i wr=>∃ k:Nat,k≤N∧i=.int .i64 k∧Hid (∀ i c,i<k→L[i]?=some c→loF n s c=true)∧Hid (Below w.heap.size w wr)) (fun i wr=>N - (Go.RowKit.intOf i).toNat)
 case atStart=>exact ⟨0,Nat.zero_le _,rfl,hide (fun i c h=>absurd h (Nat.not_lt_zero _)),Below.refl _ _⟩
 case round=>
  obtain ⟨k,hk,rfl,HP,HBl⟩:=hrel;by_cases hkn:k<N
  ·have hkni:(k:Int)<(N:Int):=by omega
   obtain ⟨b,off,e,hcell⟩:=HA.out.1 (by have:=HN.out;omega);subst e;obtain ⟨c,hc⟩:∃ c,L[k]?=some c:=⟨L[k]'(by have:=HN.out;omega),List.getElem?_eq_getElem _⟩;have HC:=hide hc;obtain ⟨x0,x1,x2,x3,x4,x5,x6,x7,x8,x9,x10,x11,x12,x13,x14⟩:=cec_past (hcell k c hc) HBl.out;have HCe:=hide (cec_past (hcell k c hc) HBl.out);clear hcell hc
   cases hl:loF n s c with
   | true=>
    have hl':(decide (c.n<n) || ((c.n == n) && strLt c.s s))=true:=hl;have HL:=hide hl;have HL':=hide hl';clear hl hl';go_wp2_with (go_at_call 104;refine (c_l08Ahead c _ _ _).mono ?_;rintro e w1 ⟨rfl,hb1⟩;rw [HL'.out]);go_roundw
    case rel=>exact ⟨k+1,by omega,by go_num,hide (loF_step HP.out HC.out HL.out),hide (chain HBl.out hb1)⟩
    case measure=>simp [Go.RowKit.intOf];omega
   | false=>
    have hl':(decide (c.n<n) || ((c.n == n) && strLt c.s s))=false:=hl;have HL:=hide hl;have HL':=hide hl';clear hl hl';by_cases hn:c.n=n
    ·have bn:(c.n == n)=true:=by simp [hn]
     by_cases hs:c.s=s
     ·have bs:(c.s.toList == s.toList)=true:=by rw [hs];simp
      have HR:=hide (plc_at HP.out HC.out HL.out true ⟨fun _=>⟨hn,hs⟩,fun _=>rfl⟩);clear hn hs;go_upto_region 4 with (go_at_call 104;refine (c_l08Ahead c _ _ _).mono ?_;rintro e w1 ⟨rfl,hb1⟩;rw [HL'.out]);obtain ⟨y0,y1,_⟩:=cec_past HCe.out hb1;have HB1:=hide (chain HBl.out hb1);clear x0 x1 x2 x3 x4 x5 x6 x7 x8 x9 x10 x11 x12 x13 x14 hb1
      go_region_held3 (fun W=>W.cell? ⟨b,off+k*15,none⟩=some (.int .i64 c.n)∧W.cell? ⟨b,off+k*15+1,none⟩=some (.string c.s)∧Hid (Below w.heap.size w W))
       (exact ⟨by simpa using y0,by simpa using y1,hide HB1.out.drew⟩)
       (fail)
      go_wp2;go_ret2;exact ⟨k,true,rfl,HR.out,(by first | exact HB1.out.drew | exact HBl.out.drew)⟩
     ·have bs:(c.s.toList == s.toList)=false:=beq_eq_false_iff_ne.2 (fun e=>hs (by rw [ByteArray.toList_eq,ByteArray.toList_eq] at e;exact ByteArray.ext (Array.toList_inj.1 e)))
      have HR:=hide (plc_at HP.out HC.out HL.out false ⟨(fun e=>by cases e),fun e=>absurd e.2 hs⟩);clear hn hs;go_upto_region 4 with (go_at_call 104;refine (c_l08Ahead c _ _ _).mono ?_;rintro e w1 ⟨rfl,hb1⟩;rw [HL'.out]);obtain ⟨y0,y1,_⟩:=cec_past HCe.out hb1;have HB1:=hide (chain HBl.out hb1);clear x0 x1 x2 x3 x4 x5 x6 x7 x8 x9 x10 x11 x12 x13 x14 hb1
      go_region_held3 (fun W=>W.cell? ⟨b,off+k*15,none⟩=some (.int .i64 c.n)∧W.cell? ⟨b,off+k*15+1,none⟩=some (.string c.s)∧Hid (Below w.heap.size w W))
       (exact ⟨by simpa using y0,by simpa using y1,hide HB1.out.drew⟩)
       (fail)
      go_wp2;go_ret2;exact ⟨k,false,rfl,HR.out,(by first | exact HB1.out.drew | exact HBl.out.drew)⟩
    ·have bn:(c.n == n)=false:=by simp [hn]
     have HR:=hide (plc_at HP.out HC.out HL.out false ⟨(fun e=>by cases e),fun e=>absurd e.1 hn⟩);clear hn;go_upto_region 4 with (go_at_call 104;refine (c_l08Ahead c _ _ _).mono ?_;rintro e w1 ⟨rfl,hb1⟩;rw [HL'.out]);obtain ⟨y0,y1,_⟩:=cec_past HCe.out hb1;have HB1:=hide (chain HBl.out hb1);clear x0 x1 x2 x3 x4 x5 x6 x7 x8 x9 x10 x11 x12 x13 x14 hb1;have HS0:(fun W=>W.cell? ⟨b,off+k*15,none⟩=some (.int .i64 c.n)∧True) w1.drew:=⟨by simpa using y0,trivial⟩;refine regionK (fun W=>W.cell? ⟨b,off+k*15,none⟩=some (.int .i64 c.n)∧True) 99 (by kernel_rfl) ?_;refine tkS (i:=0) (v:=.int .i64 k) rfl rfl HS0 ?_;refine tkS (i:=1) (v:=.int .i64 k) rfl rfl HS0 ?_;refine tkS (i:=2) (v:=.slice (some ⟨b,off,none⟩) N ca) rfl rfl HS0 ?_;simp only [sA,sB,sC];refine tkS (i:=3) (v:=.int .i64 N) rfl rfl HS0 ?_;refine tkS (i:=4) (v:=.bool true) rfl rfl HS0 ?_;refine tkS (i:=5) (v:=.bool true) rfl rfl HS0 ?_;simp only [sA,sB,sC];refine tkS (i:=6) (v:=.slice (some ⟨b,off,none⟩) N ca) rfl rfl HS0 ?_;refine tkS (i:=7) (v:=.int .i64 k) rfl rfl HS0 ?_;refine tkS (i:=8) (v:=.pointer (some ⟨b,off+k*15,none⟩)) rfl rfl HS0 ?_;simp only [sA,sB,sC];refine tkS (i:=9) (v:=.pointer (some ⟨b,off+k*15,none⟩)) rfl rfl HS0 ?_;refine tkL (i:=10) (v:=.int .i64 c.n) rfl rfl HS0 (fun W hW=>?_) ?_
     ·obtain ⟨z0,z1⟩:=hW
      go_simp
     refine tkS (i:=11) (v:=.int .i64 n) rfl rfl HS0 ?_;simp only [sA,sB,sC];refine tkS (i:=12) (v:=.bool false) rfl rfl HS0 ?_;refine tkS (i:=13) (v:=.bool false) rfl rfl HS0 ?_;refine tkS (i:=14) (v:=.bool false) rfl rfl HS0 ?_;simp only [sA,sB,sC];refine tkS (i:=23) (v:=.int .i64 k) rfl rfl HS0 ?_;refine tkU (i:=15) rfl rfl HS0 ?_;refine tkU (i:=16) rfl rfl HS0 ?_;simp only [sA,sB,sC];refine tkU (i:=17) rfl rfl HS0 ?_;refine tkU (i:=18) rfl rfl HS0 ?_;refine tkU (i:=19) rfl rfl HS0 ?_;simp only [sA,sB,sC];refine tkU (i:=20) rfl rfl HS0 ?_;refine tkU (i:=21) rfl rfl HS0 ?_;refine tkS (i:=22) (v:=.bool false) rfl rfl HS0 ?_;simp only [sA,sB,sC];refine tkS (i:=24) (v:=.bool false) rfl rfl HS0 ?_;simp only [sA,sB,sC];refine doneK (by kernel_rfl) ?_ _;go_wp2;go_ret2;exact ⟨k,.inl ⟨rfl,HR.out,HB1.out.drew⟩⟩
  ·have HR:=hide (plc_end HP.out (by have:=HN.out;omega))
   have hkf:decide ((k:Int)<(N:Int))=false:=decide_eq_false (by omega);go_upto_region 4 with fail;have HS0:(fun _=>True) wr.drew:=trivial;refine regionK (fun _=>True) 99 (by kernel_rfl) ?_;refine tkS (i:=0) (v:=.int .i64 k) rfl rfl HS0 ?_;refine tkS (i:=1) (v:=.int .i64 k) rfl rfl HS0 ?_;refine tkS (i:=2) (v:=.slice ao N ca) rfl rfl HS0 ?_;simp only [sA,sB,sC];refine tkS (i:=3) (v:=.int .i64 N) rfl rfl HS0 ?_;refine tkS (i:=4) (v:=.bool false) rfl rfl HS0 ?_;refine tkS (i:=5) (v:=.bool false) rfl rfl HS0 ?_;simp only [sA,sB,sC];refine tkU (i:=6) rfl rfl HS0 ?_;refine tkU (i:=7) rfl rfl HS0 ?_;refine tkU (i:=8) rfl rfl HS0 ?_;simp only [sA,sB,sC];refine tkU (i:=9) rfl rfl HS0 ?_;refine tkU (i:=10) rfl rfl HS0 ?_;refine tkU (i:=11) rfl rfl HS0 ?_;simp only [sA,sB,sC];refine tkU (i:=12) rfl rfl HS0 ?_;refine tkS (i:=13) (v:=.bool false) rfl rfl HS0 ?_;refine tkS (i:=14) (v:=.bool false) rfl rfl HS0 ?_;simp only [sA,sB,sC];refine tkS (i:=23) (v:=.int .i64 k) rfl rfl HS0 ?_;refine tkU (i:=15) rfl rfl HS0 ?_;refine tkU (i:=16) rfl rfl HS0 ?_;simp only [sA,sB,sC];refine tkU (i:=17) rfl rfl HS0 ?_;refine tkU (i:=18) rfl rfl HS0 ?_;refine tkU (i:=19) rfl rfl HS0 ?_;simp only [sA,sB,sC];refine tkU (i:=20) rfl rfl HS0 ?_;refine tkU (i:=21) rfl rfl HS0 ?_;refine tkS (i:=22) (v:=.bool false) rfl rfl HS0 ?_;simp only [sA,sB,sC];refine tkS (i:=24) (v:=.bool false) rfl rfl HS0 ?_;simp only [sA,sB,sC];refine doneK (by kernel_rfl) ?_ _;go_wp2;go_ret2;exact ⟨k,.inl ⟨rfl,HR.out,HBl.out.drew⟩⟩
end
section
set_option maxRecDepth 10000
theorem plc_drop {L:List Ce} {n:Int} {s:ByteArray} {k:Nat} {is:Bool} (hL:AscC L) (h:PlcA L n s k is) {x:Ce} (hx:x∈L.drop k):loF n s x=false∧(is=false→¬ (x.n=n∧x.s=s)):=by
 obtain ⟨d,B,e⟩:∃ d B,L.drop k=d :: B:=by
  cases q:L.drop k with
  | nil=>rw [q] at hx;simp at hx
  | cons d B=>exact ⟨d,B,rfl⟩
 have hd:L[k]?=some d:=by
  have:=congrArg List.head? e
  simpa [List.head?_drop] using this
 have asc:AscC (d :: B):=e ▸ hL.sublist (List.drop_sublist k L);rw [e] at hx;rcases List.mem_cons.1 hx with rfl | hx
 ·exact ⟨h.hi _ hd,fun q=>h.no q _ hd⟩
 ·have lt:=(List.pairwise_cons.1 asc).1 x hx
  constructor
  ·cases q:loF n s x
   ·rfl
   ·have:=cAh_trans lt q
    exact absurd (h.hi d hd) (by rw [show loF n s d=true from this];simp)
  ·intro _ q
   have:loF n s d=true:=by
    have k1:SameKey (kC n s) x:=⟨q.1.symm,q.2.symm⟩;unfold loF;rw [cAh_right k1];exact lt
   exact absurd (h.hi d hd) (by rw [this];simp)
theorem plc_take {L:List Ce} {n:Int} {s:ByteArray} {k:Nat} {is:Bool} (hL:AscC L) (h:PlcA L n s k is):L.take k=L.filter (loF n s):=by
 have e1:(L.take k).filter (loF n s)=L.take k:=List.filter_eq_self.2 (fun x hx=>by
  obtain ⟨i,hi,rfl⟩:=List.mem_iff_getElem.1 hx;rw [List.length_take] at hi;refine h.lo i _ (by omega) ?_;rw [List.getElem_take,List.getElem?_eq_getElem])
 have e2:(L.drop k).filter (loF n s)=[]:=List.filter_eq_nil_iff.2 (fun x hx=>by rw [(plc_drop hL h hx).1];simp);have e3:=congrArg (List.filter (loF n s)) (List.take_append_drop k L);rw [List.filter_append,e1,e2,List.append_nil] at e3;exact e3
theorem plc_no {L:List Ce} {n:Int} {s:ByteArray} {k:Nat} (hL:AscC L) (h:PlcA L n s k false):L.drop k=L.filter (hiF n s)∧¬ HasK L n s:=by
 have key:∀ x∈L.drop k,hiF n s x=true:=fun x hx=>by
  obtain ⟨q1,q2⟩:=plc_drop hL h hx
  cases q:hiF n s x
  ·exact absurd (cAh_tot q1 q) (q2 rfl)
  ·rfl
 have tk:=plc_take hL h;have lo:∀ x∈L.take k,loF n s x=true:=fun x hx=>by rw [tk] at hx;exact (List.mem_filter.1 hx).2
 have e1:(L.take k).filter (hiF n s)=[]:=List.filter_eq_nil_iff.2 (fun x hx=>by
  rw [show hiF n s x=false from cAh_ant (lo x hx)];simp)
 have e2:(L.drop k).filter (hiF n s)=L.drop k:=List.filter_eq_self.2 key;constructor
 ·have e3:=congrArg (List.filter (hiF n s)) (List.take_append_drop k L)
  rw [List.filter_append,e1,e2,List.nil_append] at e3;exact e3
 ·rintro ⟨c,hc,q⟩
  rw [← List.take_append_drop k L] at hc;rcases List.mem_append.1 hc with hc | hc
  ·have l1:=lo c hc
   have k1:SameKey (kC n s) c:=⟨q.1.symm,q.2.symm⟩;unfold loF at l1;rw [cAh_right k1,cAh_irr] at l1;cases l1
  ·exact (plc_drop hL h hc).2 rfl q
theorem plc_yes {L:List Ce} {n:Int} {s:ByteArray} {k:Nat} (hL:AscC L) (h:PlcA L n s k true):∃ c,L[k]?=some c∧c∈L∧c.n=n∧c.s=s∧L.drop (k+1)=L.filter (hiF n s):=by
 obtain ⟨c,hc,rfl,rfl⟩:=h.yes rfl;have hm:=List.mem_of_getElem? hc;have e:=yes_split hL hm;rw [← plc_take hL h] at e;have e2:=List.take_append_drop k L;have e3:L.drop k=c :: L.filter (hiF c.n c.s):=List.append_cancel_left (e2.trans e);refine ⟨c,hc,hm,rfl,rfl,?_⟩;have e4:=congrArg (List.drop 1) e3;rw [List.drop_drop] at e4
 simpa [Nat.add_comm] using e4
end
section
open Go.ChangeShapes Go.WideShapes Go.ChangeAt Go.RowKit Go.PlainAid Go.Lib Go.Maps
set_option maxRecDepth 10000
theorem row_pastP {w w':World} {r:Nat} {b:Obj} (h:w.heap[r]?=some b) (hb:Below w.heap.size w w'):w'.heap[r]?=some b:=(hb.block _ (Array.getElem?_eq_some_iff.1 h).1).trans h
end
section
open Go.ChangeShapes Go.WideShapes Go.ChangeAt Go.RowKit Go.PlainAid Go.Lib Go.Maps
set_option maxRecDepth 10000
theorem CesO.app {w w':World} {B:Nat} {L M:List Ce} (h:CesO w B L) (hb:Below w.heap.size w w') (hB:B≤w.heap.size) (hM:CesO w' w.heap.size M):CesO w' B (L ++ M):=by
 refine ⟨fun d hd=>?_,List.pairwise_append.2 ⟨h.ap,hM.ap,fun c hc d hd k h1 h2=>?_⟩⟩
 ·rcases List.mem_append.1 hd with hd | hd
  ·exact (h.o d hd).past hb
  ·exact (hM.o d hd).le hB
 ·have k1:=((h.o c hc).lt h1).2
  have k2:=((hM.o d hd).lt h2).1;omega
theorem OwnC.src {w:World} {B:Nat} {v:Value} {M:List Ce} (h:OwnC w B v M) (hn:v≠.slice none 0 0):∃ g cp,v=.slice (some ⟨g,0,none⟩) M.length cp∧∀ j u,(flC M)[j]?=some u→w.cell? ((⟨g,0,none⟩:Addr).add j)=some u:=by
 rcases h.2 with ⟨e,_⟩ | ⟨g,cap,cur,e,q1,q2⟩
 ·exact absurd e hn
 ·subst e
  refine ⟨g,cap,rfl,fun j u hu=>?_⟩;have hj:=(List.getElem?_eq_some_iff.1 hu).1;rw [flC_len] at hj;rw [Addr.add_lit,Nat.zero_add,World.ownsRow.cellAt h j hj];exact hu
theorem flC_oneC (M:List Ce):∀ u∈flC M,u.oneCell'=true:=fun u hu=>by
 obtain ⟨m,_,h⟩:=List.mem_flatMap.1 hu;exact ceL_one m u h
end
section
open Go.ChangeShapes Go.WideShapes Go.ChangeAt Go.RowKit Go.PlainAid Go.Lib Go.Maps
set_option maxRecDepth 10000
theorem key3 {c d:Ce} (h:c.key=d.key):c.n=d.n∧c.s=d.s∧c.g=d.g:=by
 unfold Ce.key at h;simp only [Prod.mk.injEq] at h;exact h
end
section
open Go.ChangeShapes Go.WideShapes Go.ChangeAt Go.RowKit Go.PlainAid Go.Lib Go.Maps
set_option maxRecDepth 10000
theorem drop_one {L:List Ce} {k:Nat} {c:Ce} (hc:L[k]?=some c):L.drop k=c :: L.drop (k+1):=by
 obtain ⟨hi,e⟩:=List.getElem?_eq_some_iff.1 hc;rw [← e,← List.drop_eq_getElem_cons hi]
structure InsI (w W:World) (vn:Value) (Fn:List Ce) (vo:Value) (R:List Ce) (vm:Value) (Mo X:List Ce):Prop where
 n:OwnC W w.heap.size vn Fn
 r:OwnC W w.heap.size vo R
 m:OwnC W w.heap.size vm Mo
 a1:ApV vn vo
 a2:ApV vn vm
 a3:ApV vo vm
 o:CesO W w.heap.size X
 b:Below w.heap.size w W
 ne:vn≠.slice none 0 0
theorem InsI.past {w W W':World} {vn vo vm:Value} {Fn R Mo X:List Ce} (h:InsI w W vn Fn vo R vm Mo X) (hb:Below W.heap.size W W'):InsI w W' vn Fn vo R vm Mo X:=
 ⟨h.n.past hb,h.r.past hb,h.m.past hb,h.a1,h.a2,h.a3,h.o.past hb,chain h.b hb,h.ne⟩
theorem InsI.app {w W w1:World} {vn vo vm v':Value} {Fn R Mo X G:List Ce} (h:InsI w W vn Fn vo R vm Mo X) (hown:w1.ownsRow w.heap.size 69 15 v' (Fn.length+G.length) (flC Fn ++ flC G)) (hg:W.grownBy w1 vn.ownBlock) (hnil:v'=.slice none 0 0↔vn=.slice none 0 0∧G.length=0) (hloc:v'.ownBlock=vn.ownBlock∨v'.ownBlock=some W.heap.size):InsI w w1 v' (Fn ++ G) vo R vm Mo X:=by
 have far:∀ {u:Value} {L:List Ce},OwnC W w.heap.size u L→ApV vn u→ApV v' u:=fun {u L} hu ha k hk e=>by
  rcases hloc with q | q
  ·rw [q] at hk;exact ha k hk e
  ·rw [q] at hk
   have:=(World.ownsRow.lt hu k e).2;injection hk with hk;omega
 refine ⟨?_,h.r.kept hg h.a1.symm,h.m.kept hg h.a2.symm,far h.r h.a1,far h.m h.a2,h.a3,h.o.row h.n hg,h.b.grown hg h.b.size (fun j hj=>(World.ownsRow.lt h.n j hj).1),fun e=>h.ne (hnil.1 e).1⟩
 show w1.ownsRow _ _ _ _ _ _
 rw [List.length_append,flC_app];exact hown
theorem src_take {w:World} {B g n cp:Nat} {R:List Ce} {i:Nat} (h:OwnC w B (.slice (some ⟨g,0,none⟩) n cp) R) (hn:R.length=n) (hi:i≤n):∀ j u,(flC (R.take i))[j]?=some u→w.cell? ((⟨g,0,none⟩:Addr).add j)=some u:=by
 subst hn;intro j u hu;have hj:=(List.getElem?_eq_some_iff.1 hu).1;rw [flC_len,List.length_take] at hj;have hmul:min i R.length*15≤R.length*15:=Nat.mul_le_mul_right _ (Nat.min_le_right _ _);rw [Addr.add_lit,Nat.zero_add,World.ownsRow.cellAt h j (by omega)];have e:flC R=flC (R.take i) ++ flC (R.drop i):=by rw [← flC_app,List.take_append_drop]
 rw [e,List.getElem?_append_left (by rw [flC_len,List.length_take];omega)];exact hu
theorem src_drop {w:World} {B g n cp:Nat} {R:List Ce} {i:Nat} (h:OwnC w B (.slice (some ⟨g,0,none⟩) n cp) R) (hn:R.length=n) (hi:i≤n):∀ j u,(flC (R.drop i))[j]?=some u→w.cell? ((⟨g,i*15,none⟩:Addr).add j)=some u:=by
 subst hn;intro j u hu;have hj:=(List.getElem?_eq_some_iff.1 hu).1;rw [flC_len,List.length_drop] at hj
 have hlt:i*15+j<R.length*15:=by
  have:(R.length - i)*15=R.length*15 - i*15:=Nat.sub_mul _ _ _;omega
 rw [Addr.add_lit,World.ownsRow.cellAt h (i*15+j) hlt];have e:flC R=flC (R.take i) ++ flC (R.drop i):=by rw [← flC_app,List.take_append_drop]
 have l:(flC (R.take i)).length=i*15:=by rw [flC_len,List.length_take,Nat.min_eq_left hi]
 rw [e,List.getElem?_append_right (by rw [l];omega),l,Nat.add_sub_cancel_left];exact hu
theorem src_none {w:World} {R:List Ce} {i:Nat} {ad:Addr} (hi:R.length≤i):∀ j u,(flC (R.drop i))[j]?=some u→w.cell? (ad.add j)=some u:=by
 intro j u hu;rw [List.drop_of_length_le hi] at hu;simp [flC] at hu
end
end Go.Proofs.YtmjogablacnlgaaGreatDoor
