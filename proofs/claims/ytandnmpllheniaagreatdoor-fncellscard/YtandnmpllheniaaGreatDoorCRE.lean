/-
 Parts.
-/
import Derived.Test.YtandnmpllheniaaGreatDoorCRC
set_option linter.all false
set_option maxHeartbeats 16000000
namespace Go.Proofs.YtandnmpllheniaaGreatDoor
open Go.ChangeShapes Go.WideShapes Go.ChangeAt Go.RowKit Go.PlainAid Go.Lib Go.Maps
set_option maxRecDepth 10000
theorem OwnC.putAg {w:World} {B g cp n i:Nat} {L:List Ce} {c:Ce} {o:Ag} {q:Pl} (h0:OwnC w B (.slice (some ⟨g,0,none⟩) n cp) L) (hn:L.length=n) (hc:L[i]?=some c) :
  OwnC (((((((((((((w.setCell ⟨g,i*15+2,none⟩ (.int .i64 o.k)).setCell ⟨g,i*15+3,none⟩ (.int .u64 o.s)).setCell ⟨g,i*15+4,none⟩ (.int .i64 o.h)).setCell ⟨g,i*15+5,none⟩ (.int .u64 o.l)).setCell ⟨g,i*15+6,none⟩ (.int .i64 o.a)).setCell ⟨g,i*15+7,none⟩ (.int .i64 o.t)).setCell ⟨g,i*15+8,none⟩ (.int .u64 o.z)).setCell ⟨g,i*15+9,none⟩ (.slice q.pa o.P.length q.pc)).setCell ⟨g,i*15+10,none⟩ (.slice q.na o.N.length q.nc)).setCell ⟨g,i*15+11,none⟩ (.int .i64 o.x)).setCell ⟨g,i*15+12,none⟩ (.int .u64 o.y)).setCell ⟨g,i*15+13,none⟩ (.slice q.ea o.E.length q.ec)).setCell ⟨g,i*15+14,none⟩ (.slice q.ra o.R.length q.rc)) B (.slice (some ⟨g,0,none⟩) n cp) (L.set i ⟨c.n,c.s,o,q⟩):=by
 have hi:i<L.length:=(ZZd.1 hc).1;have h1:=OwnC.put1 (j:=2) (c:=(⟨c.n,c.s,⟨c.g.k,c.g.s,c.g.h,c.g.l,c.g.a,c.g.t,c.g.z,c.g.P,c.g.N,c.g.x,c.g.y,c.g.E,c.g.R⟩,⟨c.p.pa,c.p.pc,c.p.na,c.p.nc,c.p.ea,c.p.ec,c.p.ra,c.p.rc⟩⟩:Ce)) (c':=(⟨c.n,c.s,⟨o.k,c.g.s,c.g.h,c.g.l,c.g.a,c.g.t,c.g.z,c.g.P,c.g.N,c.g.x,c.g.y,c.g.E,c.g.R⟩,⟨c.p.pa,c.p.pc,c.p.na,c.p.nc,c.p.ea,c.p.ec,c.p.ra,c.p.rc⟩⟩:Ce)) (u:=.int .i64 o.k) h0 (by simp [hn]) hc (by decide) rfl;have h2:=OwnC.put1 (j:=3) (c:=(⟨c.n,c.s,⟨o.k,c.g.s,c.g.h,c.g.l,c.g.a,c.g.t,c.g.z,c.g.P,c.g.N,c.g.x,c.g.y,c.g.E,c.g.R⟩,⟨c.p.pa,c.p.pc,c.p.na,c.p.nc,c.p.ea,c.p.ec,c.p.ra,c.p.rc⟩⟩:Ce)) (c':=(⟨c.n,c.s,⟨o.k,o.s,c.g.h,c.g.l,c.g.a,c.g.t,c.g.z,c.g.P,c.g.N,c.g.x,c.g.y,c.g.E,c.g.R⟩,⟨c.p.pa,c.p.pc,c.p.na,c.p.nc,c.p.ea,c.p.ec,c.p.ra,c.p.rc⟩⟩:Ce)) (u:=.int .u64 o.s) h1 (by simp [hn]) (List.getElem?_set_self hi) (by decide) rfl;rw [List.set_set] at h2;have h3:=OwnC.put1 (j:=4) (c:=(⟨c.n,c.s,⟨o.k,o.s,c.g.h,c.g.l,c.g.a,c.g.t,c.g.z,c.g.P,c.g.N,c.g.x,c.g.y,c.g.E,c.g.R⟩,⟨c.p.pa,c.p.pc,c.p.na,c.p.nc,c.p.ea,c.p.ec,c.p.ra,c.p.rc⟩⟩:Ce)) (c':=(⟨c.n,c.s,⟨o.k,o.s,o.h,c.g.l,c.g.a,c.g.t,c.g.z,c.g.P,c.g.N,c.g.x,c.g.y,c.g.E,c.g.R⟩,⟨c.p.pa,c.p.pc,c.p.na,c.p.nc,c.p.ea,c.p.ec,c.p.ra,c.p.rc⟩⟩:Ce)) (u:=.int .i64 o.h) h2 (by simp [hn]) (List.getElem?_set_self hi) (by decide) rfl;rw [List.set_set] at h3;have h4:=OwnC.put1 (j:=5) (c:=(⟨c.n,c.s,⟨o.k,o.s,o.h,c.g.l,c.g.a,c.g.t,c.g.z,c.g.P,c.g.N,c.g.x,c.g.y,c.g.E,c.g.R⟩,⟨c.p.pa,c.p.pc,c.p.na,c.p.nc,c.p.ea,c.p.ec,c.p.ra,c.p.rc⟩⟩:Ce)) (c':=(⟨c.n,c.s,⟨o.k,o.s,o.h,o.l,c.g.a,c.g.t,c.g.z,c.g.P,c.g.N,c.g.x,c.g.y,c.g.E,c.g.R⟩,⟨c.p.pa,c.p.pc,c.p.na,c.p.nc,c.p.ea,c.p.ec,c.p.ra,c.p.rc⟩⟩:Ce)) (u:=.int .u64 o.l) h3 (by simp [hn]) (List.getElem?_set_self hi) (by decide) rfl;rw [List.set_set] at h4;have h5:=OwnC.put1 (j:=6) (c:=(⟨c.n,c.s,⟨o.k,o.s,o.h,o.l,c.g.a,c.g.t,c.g.z,c.g.P,c.g.N,c.g.x,c.g.y,c.g.E,c.g.R⟩,⟨c.p.pa,c.p.pc,c.p.na,c.p.nc,c.p.ea,c.p.ec,c.p.ra,c.p.rc⟩⟩:Ce)) (c':=(⟨c.n,c.s,⟨o.k,o.s,o.h,o.l,o.a,c.g.t,c.g.z,c.g.P,c.g.N,c.g.x,c.g.y,c.g.E,c.g.R⟩,⟨c.p.pa,c.p.pc,c.p.na,c.p.nc,c.p.ea,c.p.ec,c.p.ra,c.p.rc⟩⟩:Ce)) (u:=.int .i64 o.a) h4 (by simp [hn]) (List.getElem?_set_self hi) (by decide) rfl;rw [List.set_set] at h5;have h6:=OwnC.put1 (j:=7) (c:=(⟨c.n,c.s,⟨o.k,o.s,o.h,o.l,o.a,c.g.t,c.g.z,c.g.P,c.g.N,c.g.x,c.g.y,c.g.E,c.g.R⟩,⟨c.p.pa,c.p.pc,c.p.na,c.p.nc,c.p.ea,c.p.ec,c.p.ra,c.p.rc⟩⟩:Ce)) (c':=(⟨c.n,c.s,⟨o.k,o.s,o.h,o.l,o.a,o.t,c.g.z,c.g.P,c.g.N,c.g.x,c.g.y,c.g.E,c.g.R⟩,⟨c.p.pa,c.p.pc,c.p.na,c.p.nc,c.p.ea,c.p.ec,c.p.ra,c.p.rc⟩⟩:Ce)) (u:=.int .i64 o.t) h5 (by simp [hn]) (List.getElem?_set_self hi) (by decide) rfl;rw [List.set_set] at h6;have h7:=OwnC.put1 (j:=8) (c:=(⟨c.n,c.s,⟨o.k,o.s,o.h,o.l,o.a,o.t,c.g.z,c.g.P,c.g.N,c.g.x,c.g.y,c.g.E,c.g.R⟩,⟨c.p.pa,c.p.pc,c.p.na,c.p.nc,c.p.ea,c.p.ec,c.p.ra,c.p.rc⟩⟩:Ce)) (c':=(⟨c.n,c.s,⟨o.k,o.s,o.h,o.l,o.a,o.t,o.z,c.g.P,c.g.N,c.g.x,c.g.y,c.g.E,c.g.R⟩,⟨c.p.pa,c.p.pc,c.p.na,c.p.nc,c.p.ea,c.p.ec,c.p.ra,c.p.rc⟩⟩:Ce)) (u:=.int .u64 o.z) h6 (by simp [hn]) (List.getElem?_set_self hi) (by decide) rfl;rw [List.set_set] at h7;have h8:=OwnC.put1 (j:=9) (c:=(⟨c.n,c.s,⟨o.k,o.s,o.h,o.l,o.a,o.t,o.z,c.g.P,c.g.N,c.g.x,c.g.y,c.g.E,c.g.R⟩,⟨c.p.pa,c.p.pc,c.p.na,c.p.nc,c.p.ea,c.p.ec,c.p.ra,c.p.rc⟩⟩:Ce)) (c':=(⟨c.n,c.s,⟨o.k,o.s,o.h,o.l,o.a,o.t,o.z,o.P,c.g.N,c.g.x,c.g.y,c.g.E,c.g.R⟩,⟨q.pa,q.pc,c.p.na,c.p.nc,c.p.ea,c.p.ec,c.p.ra,c.p.rc⟩⟩:Ce)) (u:=.slice q.pa o.P.length q.pc) h7 (by simp [hn]) (List.getElem?_set_self hi) (by decide) rfl;rw [List.set_set] at h8;have h9:=OwnC.put1 (j:=10) (c:=(⟨c.n,c.s,⟨o.k,o.s,o.h,o.l,o.a,o.t,o.z,o.P,c.g.N,c.g.x,c.g.y,c.g.E,c.g.R⟩,⟨q.pa,q.pc,c.p.na,c.p.nc,c.p.ea,c.p.ec,c.p.ra,c.p.rc⟩⟩:Ce)) (c':=(⟨c.n,c.s,⟨o.k,o.s,o.h,o.l,o.a,o.t,o.z,o.P,o.N,c.g.x,c.g.y,c.g.E,c.g.R⟩,⟨q.pa,q.pc,q.na,q.nc,c.p.ea,c.p.ec,c.p.ra,c.p.rc⟩⟩:Ce)) (u:=.slice q.na o.N.length q.nc) h8 (by simp [hn]) (List.getElem?_set_self hi) (by decide) rfl;rw [List.set_set] at h9;have aa:=OwnC.put1 (j:=11) (c:=(⟨c.n,c.s,⟨o.k,o.s,o.h,o.l,o.a,o.t,o.z,o.P,o.N,c.g.x,c.g.y,c.g.E,c.g.R⟩,⟨q.pa,q.pc,q.na,q.nc,c.p.ea,c.p.ec,c.p.ra,c.p.rc⟩⟩:Ce)) (c':=(⟨c.n,c.s,⟨o.k,o.s,o.h,o.l,o.a,o.t,o.z,o.P,o.N,o.x,c.g.y,c.g.E,c.g.R⟩,⟨q.pa,q.pc,q.na,q.nc,c.p.ea,c.p.ec,c.p.ra,c.p.rc⟩⟩:Ce)) (u:=.int .i64 o.x) h9 (by simp [hn]) (List.getElem?_set_self hi) (by decide) rfl;rw [List.set_set] at aa;have ab:=OwnC.put1 (j:=12) (c:=(⟨c.n,c.s,⟨o.k,o.s,o.h,o.l,o.a,o.t,o.z,o.P,o.N,o.x,c.g.y,c.g.E,c.g.R⟩,⟨q.pa,q.pc,q.na,q.nc,c.p.ea,c.p.ec,c.p.ra,c.p.rc⟩⟩:Ce)) (c':=(⟨c.n,c.s,⟨o.k,o.s,o.h,o.l,o.a,o.t,o.z,o.P,o.N,o.x,o.y,c.g.E,c.g.R⟩,⟨q.pa,q.pc,q.na,q.nc,c.p.ea,c.p.ec,c.p.ra,c.p.rc⟩⟩:Ce)) (u:=.int .u64 o.y) aa (by simp [hn]) (List.getElem?_set_self hi) (by decide) rfl;rw [List.set_set] at ab;have ad:=OwnC.put1 (j:=13) (c:=(⟨c.n,c.s,⟨o.k,o.s,o.h,o.l,o.a,o.t,o.z,o.P,o.N,o.x,o.y,c.g.E,c.g.R⟩,⟨q.pa,q.pc,q.na,q.nc,c.p.ea,c.p.ec,c.p.ra,c.p.rc⟩⟩:Ce)) (c':=(⟨c.n,c.s,⟨o.k,o.s,o.h,o.l,o.a,o.t,o.z,o.P,o.N,o.x,o.y,o.E,c.g.R⟩,⟨q.pa,q.pc,q.na,q.nc,q.ea,q.ec,c.p.ra,c.p.rc⟩⟩:Ce)) (u:=.slice q.ea o.E.length q.ec) ab (by simp [hn]) (List.getElem?_set_self hi) (by decide) rfl;rw [List.set_set] at ad;have ac:=OwnC.put1 (j:=14) (c:=(⟨c.n,c.s,⟨o.k,o.s,o.h,o.l,o.a,o.t,o.z,o.P,o.N,o.x,o.y,o.E,c.g.R⟩,⟨q.pa,q.pc,q.na,q.nc,q.ea,q.ec,c.p.ra,c.p.rc⟩⟩:Ce)) (c':=(⟨c.n,c.s,⟨o.k,o.s,o.h,o.l,o.a,o.t,o.z,o.P,o.N,o.x,o.y,o.E,o.R⟩,⟨q.pa,q.pc,q.na,q.nc,q.ea,q.ec,q.ra,q.rc⟩⟩:Ce)) (u:=.slice q.ra o.R.length q.rc) ad (by simp [hn]) (List.getElem?_set_self hi) (by decide) rfl;rw [List.set_set] at ac;exact ac
theorem Qkf {w:World} {g i:Nat} {o:Ag} {q:Pl}:w.grownBy (((((((((((((w.setCell ⟨g,i*15+2,none⟩ (.int .i64 o.k)).setCell ⟨g,i*15+3,none⟩ (.int .u64 o.s)).setCell ⟨g,i*15+4,none⟩ (.int .i64 o.h)).setCell ⟨g,i*15+5,none⟩ (.int .u64 o.l)).setCell ⟨g,i*15+6,none⟩ (.int .i64 o.a)).setCell ⟨g,i*15+7,none⟩ (.int .i64 o.t)).setCell ⟨g,i*15+8,none⟩ (.int .u64 o.z)).setCell ⟨g,i*15+9,none⟩ (.slice q.pa o.P.length q.pc)).setCell ⟨g,i*15+10,none⟩ (.slice q.na o.N.length q.nc)).setCell ⟨g,i*15+11,none⟩ (.int .i64 o.x)).setCell ⟨g,i*15+12,none⟩ (.int .u64 o.y)).setCell ⟨g,i*15+13,none⟩ (.slice q.ea o.E.length q.ec)).setCell ⟨g,i*15+14,none⟩ (.slice q.ra o.R.length q.rc)) (some g):=
 ((((((((((((Qau _ _ _ _).trans (Qau _ _ _ _)).trans (Qau _ _ _ _)).trans (Qau _ _ _ _)).trans (Qau _ _ _ _)).trans (Qau _ _ _ _)).trans (Qau _ _ _ _)).trans (Qau _ _ _ _)).trans (Qau _ _ _ _)).trans (Qau _ _ _ _)).trans (Qau _ _ _ _)).trans (Qau _ _ _ _)).trans (Qau _ _ _ _)
theorem Qn0 {L:List Ce} {i:Nat} {c c':Ce} (hc:L[i]?=some c):L.set i c'=L.take i ++ c' :: L.drop (i+1)/\L=L.take i ++ c :: L.drop (i+1):=by
 obtain ⟨hi,e⟩:=ZZd.1 hc;constructor
 ·rw [List.set_eq_take_append_cons_drop,if_pos hi]
 ·rw [<- e,<- List.drop_eq_getElem_cons hi,List.take_append_drop]
theorem Qia {L:List Ce} {k:Nat} {c:Ce} (hc:L[k]?=some c):L.drop k=c :: L.drop (k+1):=by
 obtain ⟨hi,e⟩:=ZZd.1 hc;rw [<- e,<- List.drop_eq_getElem_cons hi]
structure CnJ (w wr:World) (a b:List Ce) (k:Nat) (vo:Value) (R:List Ce) (vm:Value) (Mo:List Ce):Prop where
 r:OwnC wr w.heap.size vo R
 m:OwnC wr w.heap.size vm Mo
 ap:ApV vo vm
 o:CesO wr w.heap.size (R ++ Mo.drop k)
 asc:AscC R
 mg:Mgs a (b.take k) R
 q:CnQ R
 ne:vo≠.slice none 0 0
 b:Below w.heap.size w wr
theorem CnJ.past {w wr w':World} {a b:List Ce} {k:Nat} {vo vm:Value} {R Mo:List Ce} (h:CnJ w wr a b k vo R vm Mo) (hb:Below wr.heap.size wr w'):CnJ w w' a b k vo R vm Mo:=
 ⟨h.r.past hb,h.m.past hb,h.ap,h.o.past hb,h.asc,h.mg,h.q,h.ne,Qac h.b hb⟩
theorem CnJ.at {w wr:World} {a b:List Ce} {k n cp:Nat} {ao:Option Addr} {vm:Value} {R Mo:List Ce} (h:CnJ w wr a b k (.slice ao n cp) R vm Mo):Qb7 wr ao R:=OwnC.at h.r (fun c hc=>(h.o.o c (List.mem_append_left _ hc)).at)
theorem CnJ.set {w wr w6:World} {a b:List Ce} {k i g n cp:Nat} {vm:Value} {R Mo:List Ce} {c d cb:Ce} {o:Ag} {q:Pl} (h:CnJ w wr a b k (.slice (some ⟨g,0,none⟩) n cp) R vm Mo) (hn:R.length=n) (hc:Mo[k]?=some c) (hb:b[k]?=some cb) (ek:c.key=cb.key) (hp:PlcA R c.n c.s i true) (hd:R[i]?=some d) (e1:d.n=c.n) (e2:d.s=c.s) (e3:d.g.k=c.g.k) (hq:AgOk c.g/\AgSm c.g/\agB c.g=true/\QbR c.n c.s) (hm:AgMrg d.g c.g o) (hb6:Below wr.heap.size wr w6) (ho:AgO w6 wr.heap.size o q) :
  CnJ w ((((((((((((((w6.setCell ⟨g,i*15+2,none⟩ (.int .i64 o.k)).setCell ⟨g,i*15+3,none⟩ (.int .u64 o.s)).setCell ⟨g,i*15+4,none⟩ (.int .i64 o.h)).setCell ⟨g,i*15+5,none⟩ (.int .u64 o.l)).setCell ⟨g,i*15+6,none⟩ (.int .i64 o.a)).setCell ⟨g,i*15+7,none⟩ (.int .i64 o.t)).setCell ⟨g,i*15+8,none⟩ (.int .u64 o.z)).setCell ⟨g,i*15+9,none⟩ (.slice q.pa o.P.length q.pc)).setCell ⟨g,i*15+10,none⟩ (.slice q.na o.N.length q.nc)).setCell ⟨g,i*15+11,none⟩ (.int .i64 o.x)).setCell ⟨g,i*15+12,none⟩ (.int .u64 o.y)).setCell ⟨g,i*15+13,none⟩ (.slice q.ea o.E.length q.ec)).setCell ⟨g,i*15+14,none⟩ (.slice q.ra o.R.length q.rc))) a b (k+1) (.slice (some ⟨g,0,none⟩) n cp) (R.set i ⟨d.n,d.s,o,q⟩) vm Mo:=by
 obtain ⟨s1,s2⟩:=Qn0 (c':=⟨d.n,d.s,o,q⟩) hd;have aa:=ZZn hd
 have pt:PtL R c.n c.s o (R.set i ⟨d.n,d.s,o,q⟩):=by
  have:=Qkm (o:=o) (q:=q) h.asc hp (rfl:(R.take i).map Ce.key=(R.take i).map Ce.key) rfl;rw [s1,e1,e2];rw [List.append_assoc] at this;exact this
 have ms:MsA R c (R.set i ⟨d.n,d.s,o,q⟩):=.inl ⟨d,o,aa,e1,e2,e3,hm,pt⟩;have r6:=h.r.past hb6;have bw:Below w.heap.size w w6:=Qac h.b hb6;have gl:=fun j (hj:(Value.slice (some ⟨g,0,none⟩) n cp).ownBlock=some j)=>(World.ownsRow.lt h.r j hj).1
 have hO:CesO w6 w.heap.size (R.set i ⟨d.n,d.s,o,q⟩ ++ Mo.drop (k+1)):=by
  have sub:(R.take i ++ R.drop (i+1) ++ Mo.drop (k+1)).Sublist (R ++ Mo.drop k):=by
   refine List.Sublist.append ?_ ?_
   ·conv=>rhs;rw [s2]
    exact List.Sublist.append (List.Sublist.refl _) (List.sublist_cons_self _ _)
   ·rw [Qia hc];exact List.sublist_cons_self _ _
  have h1:=(h.o.sub sub).add (c:=⟨d.n,d.s,o,q⟩) hb6 h.b.size ho;refine h1.perm ?_;rw [s1,List.append_assoc,List.append_assoc,List.cons_append];exact List.perm_middle.symm
 refine ⟨r6.putAg hn hd,?_,h.ap,hO.row r6 Qkf,ms.asc h.asc,?_,h.q.step ms hq.1 hq.2.1 hq.2.2.1 hq.2.2.2,h.ne,?_⟩
 ·exact (h.m.past hb6).kept (v:=.slice (some ⟨g,0,none⟩) n cp) Qkf h.ap.symm
 ·rw [List.take_add_one,hb];exact .snoc _ _ _ _ h.mg (ms.keys rfl ek rfl)
 ·exact bw.grown (Qkf (g:=g)) (bw.size) (fun j hj=>gl j hj)
structure InsI (w W:World) (vn:Value) (Fn:List Ce) (vo:Value) (R:List Ce) (vm:Value) (Mo X:List Ce):Prop where
 n:OwnC W w.heap.size vn Fn
 r:OwnC W w.heap.size vo R
 m:OwnC W w.heap.size vm Mo
 a1:ApV vn vo
 a2:ApV vn vm
 a3:ApV vo vm
 o:CesO W w.heap.size X
 b:Below w.heap.size w W
 ne:vn≠.slice none 0 0
theorem InsI.past {w W W':World} {vn vo vm:Value} {Fn R Mo X:List Ce} (h:InsI w W vn Fn vo R vm Mo X) (hb:Below W.heap.size W W'):InsI w W' vn Fn vo R vm Mo X:=
 ⟨h.n.past hb,h.r.past hb,h.m.past hb,h.a1,h.a2,h.a3,h.o.past hb,Qac h.b hb,h.ne⟩
theorem InsI.app {w W w1:World} {vn vo vm v':Value} {Fn R Mo X G:List Ce} (h:InsI w W vn Fn vo R vm Mo X) (hown:w1.ownsRow w.heap.size 51 15 v' (Fn.length+G.length) (flC Fn ++ flC G)) (hg:W.grownBy w1 vn.ownBlock) (hnil:v'=.slice none 0 0↔vn=.slice none 0 0/\G.length=0) (hloc:v'.ownBlock=vn.ownBlock∨v'.ownBlock=some W.heap.size):InsI w w1 v' (Fn ++ G) vo R vm Mo X:=by
 have aa:∀ {u:Value} {L:List Ce},OwnC W w.heap.size u L->ApV vn u->ApV v' u:=fun {u L} hu ha k hk e=>by
  rcases hloc with q | q
  ·rw [q] at hk;exact ha k hk e
  ·rw [q] at hk
   have:=(World.ownsRow.lt hu k e).2;injection hk with hk;omega
 refine ⟨?_,h.r.kept hg h.a1.symm,h.m.kept hg h.a2.symm,aa h.r h.a1,aa h.m h.a2,h.a3,h.o.row h.n hg,h.b.grown hg h.b.size (fun j hj=>(World.ownsRow.lt h.n j hj).1),fun e=>h.ne (hnil.1 e).1⟩
 show w1.ownsRow _ _ _ _ _ _
 rw [List.length_append,QeI];exact hown
theorem CnJ.ins {w wr:World} {a b:List Ce} {k i:Nat} {vo vm:Value} {R Mo:List Ce} {c cb:Ce} (h:CnJ w wr a b k vo R vm Mo) (hc:Mo[k]?=some c) (hb:b[k]?=some cb) (ek:c.key=cb.key) (hp:PlcA R c.n c.s i false) (hq:AgOk c.g/\AgSm c.g/\agB c.g=true/\QbR c.n c.s) {w9:World} {v9:Value} (hi:InsI w w9 v9 ((R.take i ++ [c]) ++ R.drop i) vo R vm Mo (R ++ Mo.drop k)) :
  CnJ w w9 a b (k+1) v9 ((R.take i ++ [c]) ++ R.drop i) vm Mo:=by
 have pt:PtL R c.n c.s c.g ((R.take i ++ [c]) ++ R.drop i):=by
  have:=QmL (o:=c.g) (q:=c.p) h.asc hp (rfl:(R.take i).map Ce.key=(R.take i).map Ce.key) rfl;exact this
 have ms:MsA R c ((R.take i ++ [c]) ++ R.drop i):=.inr ⟨(Qof h.asc hp).2,pt⟩;refine ⟨hi.n,hi.m,hi.a2,hi.o.perm ?_,ms.asc h.asc,?_,h.q.step ms hq.1 hq.2.1 hq.2.2.1 hq.2.2.2,hi.ne,hi.b⟩
 ·rw [Qia hc]
  have p1:(R ++ c :: Mo.drop (k+1)).Perm (c :: (R ++ Mo.drop (k+1))):=List.perm_middle
  have p2:((R.take i ++ [c]) ++ R.drop i).Perm (c :: R):=by
   have e:(R.take i ++ [c]) ++ R.drop i=R.take i ++ c :: R.drop i:=by rw [List.append_assoc];rfl
   rw [e];refine List.perm_middle.trans ?_;rw [List.take_append_drop]
  exact p1.trans ((p2.append_right _).symm)
 ·rw [List.take_add_one,hb];exact .snoc _ _ _ _ h.mg (ms.keys rfl ek rfl)
theorem Qpd {w:World} {B g n cp:Nat} {R:List Ce} {i:Nat} (h:OwnC w B (.slice (some ⟨g,0,none⟩) n cp) R) (hn:R.length=n) (hi:i<=n):∀ j u,(flC (R.take i))[j]?=some u->w.cell? ((⟨g,0,none⟩:Addr).add j)=some u:=by
 subst hn;intro j u hu;have hj:=(ZZd.1 hu).1;rw [QbM,List.length_take] at hj;have aa:min i R.length*15<=R.length*15:=Nat.mul_le_mul_right _ (Nat.min_le_right _ _);rw [Addr.add_lit,Nat.zero_add,World.ownsRow.cellAt h j (by omega)];have e:flC R=flC (R.take i) ++ flC (R.drop i):=by rw [<- QeI,List.take_append_drop]
 rw [e,List.getElem?_append_left (by rw [QbM,List.length_take];omega)];exact hu
theorem QoE {w:World} {B g n cp:Nat} {R:List Ce} {i:Nat} (h:OwnC w B (.slice (some ⟨g,0,none⟩) n cp) R) (hn:R.length=n) (hi:i<=n):∀ j u,(flC (R.drop i))[j]?=some u->w.cell? ((⟨g,i*15,none⟩:Addr).add j)=some u:=by
 subst hn;intro j u hu;have hj:=(ZZd.1 hu).1;rw [QbM,List.length_drop] at hj
 have aa:i*15+j<R.length*15:=by
  have:(R.length - i)*15=R.length*15 - i*15:=Nat.sub_mul _ _ _;omega
 rw [Addr.add_lit,World.ownsRow.cellAt h (i*15+j) aa];have e:flC R=flC (R.take i) ++ flC (R.drop i):=by rw [<- QeI,List.take_append_drop]
 have l:(flC (R.take i)).length=i*15:=by rw [QbM,List.length_take,Nat.min_eq_left hi]
 rw [e,List.getElem?_append_right (by rw [l];omega),l,Nat.add_sub_cancel_left];exact hu
theorem QoH {w:World} {R:List Ce} {i:Nat} {ad:Addr} (hi:R.length<=i):∀ j u,(flC (R.drop i))[j]?=some u->w.cell? (ad.add j)=some u:=by
 intro j u hu;rw [List.drop_of_length_le hi] at hu;simp [flC] at hu
def MoA (w:World) (a b:List Ce) (e:Ending) (w':World):Prop:=
 ∃ v ok,e=.returned (.tuple #[v,.bool ok])/\((ok=true/\∃ R,Mgs a b R/\OwnC w' w.heap.size v R/\CesO w' w.heap.size R/\CnQ R/\v≠.slice none 0 0)∨(ok=false/\v=.slice none 0 0/\∃ k c M,b[k]?=some c/\Mgs a (b.take k) M/\MsB M c))/\Below w.heap.size w w'
theorem MoA.bad {w w':World} {a b M:List Ce} {k:Nat} {c:Ce} (h1:b[k]?=some c) (h2:Mgs a (b.take k) M) (h3:MsB M c) (hb:Below w.heap.size w w'):MoA w a b (.returned (.tuple #[.slice none 0 0,.bool false])) w':=⟨_,_,rfl,.inr ⟨rfl,rfl,k,c,M,h1,h2,h3⟩,hb⟩
theorem Qmj {w:World} {ao bo:Option Addr} {N K ca cb:Nat} {a b:List Ce} (hI:ShI w ao N a) (hJ:ShI w bo K b) (hasc:AscC a) (hqa:CnQ a) (hqb:CnQ b) (sN:N<=2000) (sK:K<=2000) :
  Calls Tryz.prog 55 #[.slice ao N ca,.slice bo K cb] w (MoA w a b):=by
 obtain ⟨i0,hi,aV,aP,aW⟩:=QjD;have II:=Qaa hI;have JJ:=Qaa hJ;have AS:=Qaa hasc;have QA:=Qaa hqa;have QB:=Qaa hqb;have aC:Hid (∀ (X:World) o,Below X.heap.size X (X.alloc o)):=fun X o=>(ZZb _ _).alloc (ZZa _) _;clear hI hJ hasc hqa hqb;go_enter Tryz.func55,Tryz.ntmps55;go_wp2_with fail;refine (QbP II.out.hN II.out.lN II.out.sm II.out.pl II.out.mem).mono ?_;rintro e w1 ⟨v1,A1,rfl,br,bb,be,a2,a9⟩;have aY:=Qaa br;have a4:=Qaa bb;have aT:=Qaa be;have aK:=Qaa a2;have bf:=Qaa a9;clear br bb be a2 a9;go_wp2_with fail;refine (QbP JJ.out.hN JJ.out.lN JJ.out.sm JJ.out.pl (Qa1 JJ.out.mem aK)).mono ?_;rintro e w2 ⟨v2,Mo,rfl,aL,bd,a0,ai,bP⟩;obtain ⟨mo,mc,rfl,_⟩:=aL.form;have aX:Mo.length=K:=(QcS a0).trans JJ.out.hN;have aZ:=Qaa aX;have bD:=Qaa a0;rw [aX] at aL ⊢
 have I0:Hid (CnJ w w2 a b 0 v1 A1 (.slice mo K mc) Mo):=by
  refine ⟨aY.out.past ai,aL.le aK.out.size,fun j h1 h2=>?_,?_,Qfz aT AS,.nil _ aT,QA.out.keys aT,bf,Qac aK ai⟩
  ·have l1:=(World.ownsRow.lt aY j h1).2
   have l2:=(World.ownsRow.lt aL j h2).1;omega
  ·rw [List.drop_zero];exact a4.out.app ai aK.out.size bd
 have lN:=II.out.lN;have lK:=JJ.out.lN;clear aL bd a0 ai bP aX aY a4 aT aK bf;go_wp2
 go_loopw [6,8] (fun vo i wr=>∃ (k:Nat) (R:List Ce),k<=K/\i=.int .i64 k/\Hid (CnJ w wr a b k vo R (.slice mo K mc) Mo)) (fun vo i wr=>K - (Go.RowKit.intOf i).toNat)
 case atStart=>exact ⟨0,A1,ZZj _,rfl,I0⟩
 case round=>
  clear I0;obtain ⟨k,R,hk,rfl,HI⟩:=hrel;obtain ⟨g,cp,ev,_⟩:=HI.out.r.src HI.out.ne;subst ev;have bL:R.length<=N+k:=by have h1:=HI.out.mg.len AS;have h2:=List.length_take_le k b;have:=II.out.hN;omega
  have bI:R.length<=cp:=QjU HI.out.r;have bT:cp<=9223372036854775807:=Qis HI.out.r;obtain ⟨n,hn⟩:∃ n,R.length=n:=⟨_,rfl⟩;rw [hn] at HI bL bI ⊢;have ah:=Qaa hn;clear hn;by_cases bx:k<K
  ·have bC:(k:Int)<(K:Int):=by omega
   obtain ⟨c,hc⟩:∃ c,Mo[k]?=some c:=⟨Mo[k]'(by have:=aZ.out;omega),ZZe _⟩;obtain ⟨a7,aN⟩:∃ c,b[k]?=some c:=⟨b[k]'(by have:=JJ.out.hN;omega),ZZe _⟩
   have ek:c.key=a7.key:=by
    have e2:(Mo.map Ce.key)[k]?=(b.map Ce.key)[k]?:=by rw [bD.out]
    rw [List.getElem?_map,List.getElem?_map,hc,aN] at e2
    simpa using e2
   have aR:OwnC wr w.heap.size (.slice mo K mc) Mo:=HI.out.m;obtain ⟨gm,cm,em⟩:=Qff aR (by have:=aZ.out;omega);injection em with em1 em2 em3;subst em1;rw [<- aZ.out] at aR;have aG:=QdJ aR hc;rw [Nat.zero_add] at aG;obtain ⟨x0,x1,x2,x3,x4,x5,x6,x7,x8,x9,bG,bw,bR,bH,bK⟩:=aG;have HC:=Qaa hc;have aO:=Qaa aN;have EK:=Qaa ek;obtain ⟨k1,k2,k3⟩:=key3 ek;have aE:=ZZn aN;have QC:Hid (AgOk c.g/\AgSm c.g/\agB c.g=true/\QbR c.n c.s):=by show _/\_;rw [k1,k2,k3];exact ⟨QB.out.ok _ aE,QB.out.sm _ aE,QB.out.rt _ aE,QB.out.ky _ aE⟩
   have ba:c∈R ++ Mo.drop k:=List.mem_append_right _ (by rw [Qia hc];simp);have AC:=Qaa (HI.out.o.o c ba);have X1:=Qaa (ZZk wr (.cells (Qap c) 51));have aQ:=Qaa (HI.out.past (aC.out wr (.cells (Qap c) 51)));have A1:=Qaa (AC.out.past (aC.out wr (.cells (Qap c) 51)));clear hc aN ek aR k1 k2 k3 aE ba em2 em3;go_upto_region 7 with fail;clear x0 x1 x2 x3 x4 x5 x6 x7 x8 x9 bG bw bR bH bK;generalize wr.alloc (.cells (Qap c) 51)=W1 at X1 aQ A1 ⊢;generalize wr.heap.size=rc at X1 ⊢;clear HI AC;have x0:=Qay X1 0 rfl;have x1:=Qay X1 1 rfl;go_wp2_with fail;clear x0 x1;refine (QhE c.n c.s ah (by omega) aQ.out.at).mono ?_;rintro e w2 ⟨kk,is,rfl,hp,ai⟩;have HP:=Qaa hp;have ab:=Qaa (aQ.out.past ai);have A2:=Qaa (A1.out.past ai);have X2:=Qaa (Qal X1 ai);have bh:kk<=n:=by have:=hp.le;have:=ah.out;omega
   clear hp ai aQ A1 X1
   cases is with
   | true=>
    obtain ⟨d,hd,a8,e1,e2,_⟩:=Qkc ab.out.asc HP;have hr:=ab.out.r;rw [<- ah.out] at hr;have aG:=QdJ hr hd;rw [Nat.zero_add] at aG;obtain ⟨y0,y1,y2,y3,y4,y5,y6,y7,y8,y9,bg,bq,bp,bi,bc⟩:=aG;have bV:kk<n:=by have:=(ZZd.1 hd).1;have:=ah.out;omega
    have bv:(kk:Int)<(n:Int):=by omega
    have HD:=Qaa hd;have aM:=Qaa a8;have E1:=Qaa e1;have E2:=Qaa e2;have z2:=Qay X2 2 rfl;clear hd a8 e1 e2 hr;by_cases ax:d.g.k=c.g.k
    ·have bk:(d.g.k == c.g.k)=true:=by simp [ax]
     have HK:=Qaa ax;clear ax;go_upto_region 8 with fail
     go_region_held3 (fun W=>W.cell? ⟨g,kk*15+2,none⟩=some (.int .i64 d.g.k)/\W.cell? ⟨rc,2,none⟩=some (.int .i64 c.g.k))
      (exact ⟨by simpa using y2,by simpa using z2⟩)
      (fail)
     go_upto_region 11 with fail;have aa:(fun W=>Below w2.heap.size w2 W) w2.drew.drew:=(ZZb _ _).drew.drew;refine Qaj (fun W=>Below w2.heap.size w2 W) 12 (by kernel_rfl) ?_;refine tkS 0 (.slice (some ⟨g,0,none⟩) n cp) aa ?_;refine tkS 1 (.int .i64 kk) aa ?_;refine tkS 2 (.slice (some ⟨g,0,none⟩) n cp) aa ?_;simp only [sX];refine tkS 3 (.int .i64 kk) aa ?_;refine tkS 4 (.pointer (some ⟨g,kk*15,none⟩)) aa ?_;refine tkS 5 (.pointer (some ⟨g,kk*15+2,none⟩)) aa ?_;simp only [sX];refine tkL 6 (.agg (Qak d.g d.p)) aa (fun W hW=>?_) ?_
     ·have q2:=Qab hW y2
      have q3:=Qab hW y3;have q4:=Qab hW y4;have q5:=Qab hW y5;have q6:=Qab hW y6;have q7:=Qab hW y7;have q8:=Qab hW y8;have q9:=Qab hW y9;have aA:=Qab hW bg;have aB:=Qab hW bq;have aD:=Qab hW bp;have aF:=Qab hW bi;have az:=Qab hW bc;clear hW;go_simp
     refine tkS 7 (.pointer (some ⟨rc,2,none⟩)) aa ?_;refine tkL 8 (.agg (Qak c.g c.p)) aa (fun W hW=>?_) ?_
     ·have GG:=Qal X2 hW
      have q2:=Qad GG 2 rfl;have q3:=Qad GG 3 rfl;have q4:=Qad GG 4 rfl;have q5:=Qad GG 5 rfl;have q6:=Qad GG 6 rfl;have q7:=Qad GG 7 rfl;have q8:=Qad GG 8 rfl;have q9:=Qad GG 9 rfl;have aA:=Qad GG 10 rfl;have aB:=Qad GG 11 rfl;have aD:=Qad GG 12 rfl;have aF:=Qad GG 13 rfl;have az:=Qad GG 14 rfl;clear GG;clear hW;go_simp
     simp only [sX];refine onE 9 fun K hK=>?_;go_simp;have AD:AgO w2 w.heap.size d.g d.p:=ab.out.o.o d (List.mem_append_left _ aM);refine (QpE ⟨ab.out.q.rt d aM,QC.out.2.2.1,HK⟩ (ab.out.q.ok d aM) QC.out.1 (Qao AD.at (aa:Below w2.heap.size w2 _)) (Qao A2.out.at (aa:Below w2.heap.size w2 _)) AD.plgP.cE).mono ?_;rintro e w6 ⟨v,o,rfl,bl,⟨q,rfl,ho⟩,bn⟩;have ac:Hid (Below w2.heap.size w2 w6):=(aa:Below w2.heap.size w2 _).trans (bn.mono (ZZa _));have bA:=Qaa bl;have bu:Hid (AgO w6 w2.heap.size o q):=ho;clear bl ho bn AD;dsimp only;refine gK hK ac.out ?_
     try simp only [sX]
     refine onE 10 fun K hK=>?_;go_simp;refine gK hK ac.out ?_
     try simp only [sX]
     refine tkS 11 (.pointer (some ⟨g,kk*15+2,none⟩)) ac ?_;simp only [sX];have ag:Hid (w6.ownsRow w.heap.size 51 15 (.slice (some ⟨g,0,none⟩) n cp) n (flC R)):=by have:=ab.out.r.past ac;unfold OwnC at this;rw [ah.out] at this;exact this
     have HF:=Qaa (ab.out.set ah HC aO EK HP HD E1 E2 HK QC bA ac bu);have q2:=Qab ac y2;have f2:=World.ownsRow.frozenAt ag (kk*15+2);have q3:=Qab ac y3;have f3:=World.ownsRow.frozenAt ag (kk*15+3);have q4:=Qab ac y4;have f4:=World.ownsRow.frozenAt ag (kk*15+4);have q5:=Qab ac y5;have f5:=World.ownsRow.frozenAt ag (kk*15+5);have q6:=Qab ac y6;have f6:=World.ownsRow.frozenAt ag (kk*15+6);have q7:=Qab ac y7;have f7:=World.ownsRow.frozenAt ag (kk*15+7);have q8:=Qab ac y8;have f8:=World.ownsRow.frozenAt ag (kk*15+8);have q9:=Qab ac y9;have f9:=World.ownsRow.frozenAt ag (kk*15+9);have aA:=Qab ac bg;have bF:=World.ownsRow.frozenAt ag (kk*15+10);have aB:=Qab ac bq;have bQ:=World.ownsRow.frozenAt ag (kk*15+11);have aD:=Qab ac bp;have bN:=World.ownsRow.frozenAt ag (kk*15+12);have aF:=Qab ac bi;have bJ:=World.ownsRow.frozenAt ag (kk*15+13);have az:=Qab ac bc;have bO:=World.ownsRow.frozenAt ag (kk*15+14);refine onE 12 fun K hK=>?_;go_simp;clear q2 f2 q3 f3 q4 f4 q5 f5 q6 f6 q7 f7 q8 f8 q9 f9 aA bF aB bQ aD bN aF bJ az bO;refine hK.out _ _ (fun h=>absurd rfl h) ?_
     try simp only [sX]
     refine dnE ?_ _;go_wp2;go_roundw
     case rel=>exact ⟨k+1,_,by omega,by go_num,HF⟩
     case measure=>simp [zI];omega
    ·have HB:Hid (MsB R a7):=by
      obtain ⟨k1,k2,k3⟩:=key3 EK;exact ⟨d,aM,by rw [E1.out,k1],by rw [E2.out,k2],by rw [<- k3];exact ax⟩
     have bk:(d.g.k == c.g.k)=false:=by simp [ax]
     clear ax;go_upto_region 8 with fail
     go_region_held3 (fun W=>W.cell? ⟨g,kk*15+2,none⟩=some (.int .i64 d.g.k)/\W.cell? ⟨rc,2,none⟩=some (.int .i64 c.g.k))
      (exact ⟨by simpa using y2,by simpa using z2⟩)
      (fail)
     go_wp2;go_ret2;exact MoA.bad aO ab.out.mg HB ab.out.b.drew
   | false=>
    go_upto_region 8 with fail;have aa:(fun _=>True) w2.drew:=trivial;refine Qaj (fun _=>True) 99 (by kernel_rfl) ?_;refine tkS 0 (.bool false) aa ?_;refine tkS 1 (.bool false) aa ?_;refine tkU 2 aa ?_;simp only [sX];refine tkU 3 aa ?_;refine tkU 4 aa ?_;refine tkU 5 aa ?_;simp only [sX];refine tkU 6 aa ?_;refine tkU 7 aa ?_;refine tkU 8 aa ?_;simp only [sX];refine tkU 9 aa ?_;refine tkU 10 aa ?_;refine tkU 11 aa ?_;simp only [sX];refine tkS 12 (.bool false) aa ?_;simp only [sX];refine dnE ?_ _;have bW:(0:Int)<=(kk:Int):=by omega
    have bS:(kk:Int)<=(cp:Int):=by omega
    have bE:(kk:Int)<=(n:Int):=by omega
    have aU:Hid (InsI w (w2.alloc (.cells #[] 51)) (.slice (some ⟨w2.heap.size,0,none⟩) 0 0) [] (.slice (some ⟨g,0,none⟩) n cp) R (.slice (some ⟨gm,0,none⟩) K mc) Mo (R ++ Mo.drop k)):=by
     have al:=aC.out w2 (.cells #[] 51);refine ⟨(OwnC.made w2 #[] rfl).le ab.out.b.size,ab.out.r.past al,ab.out.m.past al,fun j h1 h2=>?_,fun j h1 h2=>?_,ab.out.ap,ab.out.o.past al,Qac ab.out.b al,fun e=>by cases e⟩
     ·injection h1 with h1;have:=(World.ownsRow.lt ab.out.r j h2).2;simp only at h1;omega
     ·injection h1 with h1;have:=(World.ownsRow.lt ab.out.m j h2).2;simp only at h1;omega
    have bt:(R.take kk).length=kk:=by rw [List.length_take];have:=ah.out;omega
    have aq:=Qaa bt;clear bt;have bM:w.heap.size<=w2.heap.size:=ab.out.b.size;have X3:=Qaa (Qal X2 (aC.out w2 (.cells #[] 51)));go_wp2_with (at_builtin;refine wpList_append_own_at _ rfl _ _ 23 rfl w.heap.size 51 i0 (.agg Qch) 15 192 Tryz.underlying23 hi aV aP aW rfl (by decide) _ _ _ rfl aU.out.n ⟨g,0,none⟩ kk cp (flC (R.take kk)) rfl ?c0 (Qpd aU.out.r ah bh) (Qdh _) ?c3 ?c4 ?c5 ?_)
    case c0=>rw [QbM,aq.out]
    case c3=>unfold maxLen;omega
    case c4=>omega
    case c5=>omega
    intro v5 w5 an av ak am;have aS:=Qaa (aU.out.app (G:=R.take kk) (v':=v5) (w1:=w5) (by rw [aq.out];simpa using an) ⟨av.os,av.tape,av.output,av.size,av.block⟩ (by rw [aq.out];simpa using ak) (by simpa using am));have X5:Hid (w5.heap[rc]?=_):=(av.block rc (Array.getElem?_eq_some_iff.1 X3).1 (fun e=>by injection e with e;have:=(Array.getElem?_eq_some_iff.1 X2).1;simp only at e;omega)).trans X3;clear an av ak am aU X3;obtain ⟨q0,q1,q2,q3,q4,q5,q6,q7,q8,q9,aA,aB,aD,aF,az⟩:=Qoz X5;have a3:=Qaa (aS.out.past (aC.out w5 (.cells (Qap c) 51)));have bB:w.heap.size<=w5.heap.size:=aS.out.b.size;have bz:Hid (([] ++ R.take kk).length=kk):=by rw [List.nil_append];exact aq.out
    have bj:w5.ownsRow w.heap.size 51 15 v5 kk (flC (R.take kk)):=by have:=aS.out.n;rw [List.nil_append] at this;unfold OwnC at this;rw [aq.out] at this;exact this
    have bs:=Qaa bj;clear bj;go_wp2_with (at_builtin;refine wpList_append_own_at _ rfl _ _ 23 rfl w.heap.size 51 i0 (.agg Qch) 15 192 Tryz.underlying23 hi aV aP aW rfl (by decide) _ _ _ rfl (World.ownsRow.alloc bs _) ⟨w5.heap.size,0,none⟩ 1 1 (ceL c) rfl rfl ?c1 (Qdi _) ?c3 ?c4 ?c5 ?_)
    case c1=>exact Qb2
    case c3=>unfold maxLen;omega
    case c4=>omega
    case c5=>simp;omega
    intro v7 w7 au a6 aj ar;have aI:=Qaa (a3.out.app (G:=[c]) (v':=v7) (w1:=w7) (by rw [bz.out,List.nil_append,QiH];exact au) a6 (by simpa using aj) (by simpa using ar));clear au a6 aj ar aS a3 bs X5 q0 q1 q2 q3 q4 q5 q6 q7 q8 q9 aA aB aD aF az;have aH:w.heap.size<=w7.heap.size:=aI.out.b.size;have bm:(R.drop kk).length=n - kk:=by rw [List.length_drop,ah.out]
    have aw:=Qaa bm;clear bm;have a5:w7.ownsRow w.heap.size 51 15 v7 (kk+1) (flC (R.take kk ++ [c])):=by have:=aI.out.n;rw [List.nil_append] at this;unfold OwnC at this;rw [List.length_append,aq.out] at this;exact this
    have a1:=Qaa a5;clear a5;by_cases bU:cp=kk
    ·go_wp2_with (at_builtin;refine wpList_append_own_at _ rfl _ _ 23 rfl w.heap.size 51 i0 (.agg Qch) 15 192 Tryz.underlying23 hi aV aP aW rfl (by decide) _ _ _ rfl a1 ⟨g,0,none⟩ (n - kk) 0 (flC (R.drop kk)) rfl ?c0 (QoH (by have:=ah.out;omega)) (Qdh _) ?c3 ?c4 aH ?_)
     case c0=>rw [QbM,aw.out]
     case c3=>unfold maxLen;omega
     case c4=>omega
     intro v9 w9 af ay ae ad;have aJ:=Qaa (aI.out.app (G:=R.drop kk) (v':=v9) (w1:=w9) (by rw [aw.out,List.nil_append,List.length_append,aq.out];exact af) ay (by rw [aw.out];exact ae) ad);rw [List.nil_append] at aJ;have HF:=Qaa (ab.out.ins HC aO EK HP QC aJ);clear af ay ae ad;go_wp2;go_roundw
     case rel=>exact ⟨k+1,_,by omega,by go_num,HF⟩
     case measure=>simp [zI];omega
    ·go_wp2_with (at_builtin;refine wpList_append_own_at _ rfl _ _ 23 rfl w.heap.size 51 i0 (.agg Qch) 15 192 Tryz.underlying23 hi aV aP aW rfl (by decide) _ _ _ rfl a1 ⟨g,kk*15,none⟩ (n - kk) (cp - kk) (flC (R.drop kk)) rfl ?c0 (QoE aI.out.r ah bh) (Qdh _) ?c3 ?c4 aH ?_)
     case c0=>rw [QbM,aw.out]
     case c3=>unfold maxLen;omega
     case c4=>omega
     intro v9 w9 af ay ae ad;have aJ:=Qaa (aI.out.app (G:=R.drop kk) (v':=v9) (w1:=w9) (by rw [aw.out,List.nil_append,List.length_append,aq.out];exact af) ay (by rw [aw.out];exact ae) ad);rw [List.nil_append] at aJ;have HF:=Qaa (ab.out.ins HC aO EK HP QC aJ);clear af ay ae ad;go_wp2;go_roundw
     case rel=>exact ⟨k+1,_,by omega,by go_num,HF⟩
     case measure=>simp [zI];omega
  ·obtain rfl:k=K:=by omega
   have eb:b.take k=b:=List.take_of_length_le (by have:=JJ.out.hN;omega);have HF:Hid (Mgs a b R/\OwnC wr w.heap.size (.slice (some ⟨g,0,none⟩) n cp) R/\CesO wr w.heap.size R/\CnQ R):=⟨by have:=HI.out.mg;rw [eb] at this;exact this,HI.out.r,HI.out.o.sub (List.sublist_append_left _ _),HI.out.q⟩;clear eb hk bx;go_wp2;go_ret2;exact ⟨_,true,rfl,.inl ⟨rfl,R,HF.out.1,HF.out.2.1,HF.out.2.2.1,HF.out.2.2.2,fun e=>by cases e⟩,HI.out.b⟩
theorem Qea {w w':World} {a b:List Ce} (h:MgA a b []) (hb:Below w.heap.size w w'):MgP w a b (.returned (.slice (some ⟨w'.heap.size,0,none⟩) 0 0)) (w'.alloc (.cells #[] 51)):=
 ⟨_,[],rfl,h,(OwnC.made w' #[] rfl).le hb.size,CesO.nil _ _,Qac hb ((ZZb _ _).alloc (ZZa _) _)⟩
theorem QlE {L:List Ce} (h:400<L.length):csR L=false:=by
 cases q:csR L with
 | false=>rfl
 | true=>have:=(csR_iff.1 q).1;omega
theorem Qhx {w:World} {ao bo:Option Addr} {N K ca cb:Nat} {a b:List Ce} (hI:ShI w ao N a) (hJ:ShI w bo K b) :
  Calls Tryz.prog 17 #[.slice ao N ca,.slice bo K cb] w (MgP w a b):=by
 have II:=Qaa hI;have JJ:=Qaa hJ;clear hI hJ;by_cases hN:400<N
 ·have HA:Hid (MgA a b []):=MgA.no (fun q=>by have:=QlE (L:=a) (by have:=II.out.hN;omega);rw [this] at q;cases q.1)
  have ai:(400:Int)<(N:Int):=by omega
  clear hN;go_enter Tryz.func17,Tryz.ntmps17;go_wp2;go_ret;exact Qea HA (ZZb _ _)
 have ai:¬ (400:Int)<(N:Int):=by omega
 by_cases hK:400<K
 ·have HA:Hid (MgA a b []):=MgA.no (fun q=>by have:=QlE (L:=b) (by have:=JJ.out.hN;omega);rw [this] at q;cases q.2)
  have ag:(400:Int)<(K:Int):=by omega
  clear hN hK;go_enter Tryz.func17,Tryz.ntmps17;go_wp2;go_ret;exact Qea HA (ZZb _ _)
 have ag:¬ (400:Int)<(K:Int):=by omega
 have sN:Hid (N<=2000/\K<=2000):=by show _/\_;omega
 clear hN hK;go_enter Tryz.func17,Tryz.ntmps17;go_wp2_with fail;refine (QbH II.out.hN II.out.lN II.out.ok II.out.sm II.out.ss II.out.mem).mono ?_;rintro e w1 ⟨rfl,ae⟩;have ac:=Qaa ae;clear ae
 cases h1:csR a with
 | false=>
  have HA:Hid (MgA a b []):=MgA.no (fun q=>by rw [h1] at q;cases q.1);clear h1;go_wp2;go_ret;exact Qea HA ac
 | true=>
  have H1:=Qaa h1;clear h1;go_wp2_with fail;refine (QbH JJ.out.hN JJ.out.lN JJ.out.ok JJ.out.sm JJ.out.ss (Qa1 JJ.out.mem ac)).mono ?_;rintro e w2 ⟨rfl,af⟩;have aa:=Qaa (Qac ac af);clear af ac
  cases h2:csR b with
  | false=>
   have HA:Hid (MgA a b []):=MgA.no (fun q=>by rw [h2] at q;cases q.2);clear h2;go_wp2;go_ret;exact Qea HA aa
  | true=>
   have HH:Hid (csR a=true/\csR b=true):=⟨H1,h2⟩;clear h2;go_wp2_with fail;refine (Qmj (II.out.past aa) (JJ.out.past aa) (csR_iff.1 HH.out.1).2.2 (Qjh II HH.out.1) (Qjh JJ HH.out.2) sN.out.1 sN.out.2).mono ?_;rintro e w3 ⟨v,ok,rfl,hm,ab⟩;have ad:=Qaa (Qac aa ab);rcases hm with ⟨rfl,R,hg,hr,ho,_,_⟩ | ⟨rfl,rfl,k,c,M,h4,h5,h6⟩
   ·obtain ⟨ar,cr,rfl,_⟩:=hr.form
    have HG:=Qaa hg;have HR:=Qaa (hr.le aa.out.size);have HO:=Qaa (ho.le aa.out.size);by_cases hl:60<R.length
    ·have HA:Hid (MgA a b []):=MgA.long HH HG (by omega)
     have ah:(60:Int)<(R.length:Int):=by omega
     clear hg hr ho hl ab;go_wp2;go_ret;exact Qea HA ad
    ·have HA:Hid (MgA a b R):=MgA.ok HH HG (by omega)
     have ah:¬ (60:Int)<(R.length:Int):=by omega
     clear hg hr ho hl ab;go_wp2;go_ret;exact ⟨_,R,rfl,HA,HR,HO,ad⟩
   ·have HA:Hid (MgA a b []):=MgA.bad HH h4 h5 h6
    clear h4 h5 h6 ab;go_wp2;go_ret;exact Qea HA ad
theorem Mgs.cnq {A B R:List Ce} (h:Mgs A B R) (qa:CnQ A) (qb:CnQ B):CnQ R:=by
 induction h with
 | nil R h=>exact qa.keys h
 | snoc B R R' c h s ih=>
  have hc:c∈B ++ [c]:=by simp
  exact (ih ⟨fun d hd=>qb.ok d (by simp [hd]),fun d hd=>qb.sm d (by simp [hd]),fun d hd=>qb.rt d (by simp [hd]),fun d hd=>qb.ky d (by simp [hd])⟩).step s (qb.ok c hc) (qb.sm c hc) (qb.rt c hc) (qb.ky c hc)
structure MnB (R:List Ce):Prop where
 l:R.length<=1048576
 sm:∀ c∈R,AgSm c.g
 t:1+QrF R<=50000000
end Go.Proofs.YtandnmpllheniaaGreatDoor
