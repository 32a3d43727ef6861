import Derived.Deep.RegionHeld3
import Derived.Test.YtncccmeomcaabaaGreatD19
set_option linter.all false
namespace Go.Proofs.YtncccmeomcaabaaGreat
open Go.RowKit Classical
set_option maxRecDepth 100000
set_option maxHeartbeats 8000000 in
theorem argMark_le (M:Mn)(base g0 g1 g2 g3 g4 g5 g6:Nat)(ms':List Md)(w0 W6 W:qw)(h:MnR W6 base M g0 g1 g2 g3 g4 g5 g6 ms')(t:MnT w0 M)(b:MnB M)(hb:qY W6 W):
 qC 12 #[.agg (qK M g0 g1 g2 g3 g4 g5 g6),qI 1] W fun e w'=>∃ k:Nat,e=.returned (qI k)/\Turn (fun j=>base<=j/\j<W6.heap.size) W w'/\k<=20000000:=by
 obtain ⟨V,hV,bV,kV⟩:=nwb W (qK M g0 g1 g2 g3 g4 g5 g6) 43;have b6:=hb.trans (bV.mono hb.size);have hV6:=h.bw b6;obtain ⟨W',hx,hx1⟩:=h.x;obtain ⟨q0,q1,q2,q3,q4,q5,q6⟩:=h.b;have l6:=(h.h.lt g6 rfl).2;have hs:=hb.size;have mr:=(aNf (aCo h.m h.n t.m) (aCo hx h.n t.m)).kept (Mkd.bw b6);have c3:=aH5 h.m h.n t.m;have bs:=b.s;obtain ⟨_,z2,z3⟩:=aJ3 h.m h.n t.m (by omega);have C0:=zh (tO _ g0 M.mn M.mn 1 ms' _ V mr (by omega) z2 z3 b.n);generalize upS (gG ms' fun i=>bnF (ms'.getD i aK)) M.mn=u at C0 c3;have i1:OI V base (qS (qP g1) M.kn M.kn) M.kz:=by have e:=t.k.1;have:=hV6.k.oi (base:=base) (by omega) (by have:=t.k.2.1;omega) t.k.2.2.1;rw [e] at this;exact this
 have i2:gK V base (qS (qP g2) M.fn M.fn) (qS (qP g3) M.rn M.rn) (qS (qP g4) M.on M.on) M.fz M.rz M.oz:=⟨lS hV6.f t.f.1 (by omega) (by have:=t.f.2.1;omega) t.f.2.2.1,lS hV6.r t.r.1 (by omega) (by have:=t.r.2.1;omega) t.r.2.2.1,lS hV6.o t.o.1 (by omega) (by have:=t.o.2.1;omega) t.o.2.2.1,fun k j hk hj=>by simp [Value.ownBlock] at hk hj;omega,fun k j hk hj=>by simp [Value.ownBlock] at hk hj;omega,fun k j hk hj=>by simp [Value.ownBlock] at hk hj;omega⟩;have i3:=hV6.l;have i4:=hV6.h;have HQ:=zh (xA q0 (xA q1 (xA q2 (xA q3 (xA q4 (xA q5 (xA q6 (xA l6 hs))))))));have HW':=zh hx1;have HZ:=zh (xA (show Turn (fun j=>base<=j/\j<W6.heap.size) W V/\Blk V W.heap.size (qK M g0 g1 g2 g3 g4 g5 g6) 43 from ⟨aJ bV,kV⟩) (xA i1 (xA i2 (xA i3 i4))));have HV:=zh hV;obtain ⟨p0,p1,p2,p3,p4,p5,p6,p7,p8,p9,p10,p11,p12,p13,p14⟩:=kV.mc;clear hV bV kV b6 hV6 hx hx1 q0 q1 q2 q3 q4 q5 q6 l6 hs mr z2 z3 i1 i2 i3 i4 h t b hb;go_enter Tryz.func12,Tryz.ntmps12
 go_wp2_with (rw [<- HV.o])
 refine C0.o.mono ?_;rintro e w1 ⟨rfl,mk⟩
 have HZ1:=zh (show (Turn (fun j=>base<=j/\j<W6.heap.size) W w1/\Blk w1 W.heap.size (qK M g0 g1 g2 g3 g4 g5 g6) 43)/\(OI w1 base (qS (qP g1) M.kn M.kn) M.kz)/\(gK w1 base (qS (qP g2) M.fn M.fn) (qS (qP g3) M.rn M.rn) (qS (qP g4) M.on M.on) M.fz M.rz M.oz)/\(OG 142 4 bY w1 base (qS (qP g5) M.ln M.ln) M.lz)/\OG 135 4 bC w1 base (qS (qP g6) M.hn M.hn) M.hz from by
  obtain ⟨⟨T0,k0⟩,i1,i2,i3,i4⟩:=HZ.o;have q:=HQ.o;have q':=HW'.o;have T:=mk.turn;have ns:∀ k,g1<=k->¬ ((Sm W6 g0 k/\Sm W' g0 k)\/k=g0):=fun k hk s=>by rcases s with ⟨_,s⟩|s;exact absurd s.2.1 (by omega);omega
  exact ⟨⟨T0.trans (T.mono (fun j hj=>by rcases hj with ⟨s,_⟩|s;exact ⟨by have:=s.1;omega,s.2.1⟩;exact ⟨by omega,by omega⟩)),aF T k0 (ns _ (by omega))⟩,aV T i1 (fun k hk=>ns k (by simp only [Value.ownBlock,Option.some.injEq] at hk;omega)),dM i2 T (fun j hj=>ns j (by rcases hj with hk|hk|hk<;>(simp only [Value.ownBlock,Option.some.injEq] at hk;omega))),i3.kept T (fun k hk=>ns k (by simp only [Value.ownBlock,Option.some.injEq] at hk;omega)),i4.kept T (fun k hk=>ns k (by simp only [Value.ownBlock,Option.some.injEq] at hk;omega))⟩)
 clear mk p0 p1 p2 p3 p4 p5 p6 p7 p8 p9 p10 p11 p12 p13 p14 HZ C0 HV;have C1:=zh (tQ M.pc (qP g1) M.kn M.kn base _ (1+u) w1 HZ1.o.2.1 (by omega) (by omega));obtain ⟨p0,p1,p2,p3,p4,p5,p6,p7,p8,p9,p10,p11,p12,p13,p14⟩:=HZ1.o.1.2.mc;go_wp2_with fail
 refine C1.o.mono ?_;rintro e w2 ⟨rfl,_,T⟩
 have HZ2:=zh (show (Turn (fun j=>base<=j/\j<W6.heap.size) W w2/\Blk w2 W.heap.size (qK M g0 g1 g2 g3 g4 g5 g6) 43)/\(gK w2 base (qS (qP g2) M.fn M.fn) (qS (qP g3) M.rn M.rn) (qS (qP g4) M.on M.on) M.fz M.rz M.oz)/\(OG 142 4 bY w2 base (qS (qP g5) M.ln M.ln) M.lz)/\OG 135 4 bC w2 base (qS (qP g6) M.hn M.hn) M.hz from by
  obtain ⟨⟨T0,k0⟩,i1,i2,i3,i4⟩:=HZ1.o;have q:=HQ.o;have ns:∀ k,g1<k->¬ (qS (qP g1) M.kn M.kn).ownBlock=some k:=fun k hk' hk=>by simp only [Value.ownBlock,Option.some.injEq] at hk;omega
  exact ⟨⟨T0.trans (T.mono (fun j hk=>⟨by simp only [Value.ownBlock,Option.some.injEq] at hk;omega,by simp only [Value.ownBlock,Option.some.injEq] at hk;omega⟩)),aF T k0 (ns _ (by omega))⟩,dM i2 T (fun j hj=>ns j (by rcases hj with hk|hk|hk<;>(simp only [Value.ownBlock,Option.some.injEq] at hk;omega))),i3.kept T (fun k hk=>ns k (by simp only [Value.ownBlock,Option.some.injEq] at hk;omega)),i4.kept T (fun k hk=>ns k (by simp only [Value.ownBlock,Option.some.injEq] at hk;omega))⟩)
 clear T p0 p1 p2 p3 p4 p5 p6 p7 p8 p9 p10 p11 p12 p13 p14 HZ1 C1;have C2:=zh (yT (qP g2) (qP g3) (qP g4) M.fn M.fn M.rn M.rn M.on M.on base _ _ _ (1+u+M.kn) w2 (rP HZ2.o.2.1) (by omega));obtain ⟨p0,p1,p2,p3,p4,p5,p6,p7,p8,p9,p10,p11,p12,p13,p14⟩:=HZ2.o.1.2.mc;go_wp2_with fail
 refine C2.o.mono ?_;rintro e w3 ⟨rfl,_,T⟩
 have HZ3:=zh (show (Turn (fun j=>base<=j/\j<W6.heap.size) W w3/\Blk w3 W.heap.size (qK M g0 g1 g2 g3 g4 g5 g6) 43)/\(OG 142 4 bY w3 base (qS (qP g5) M.ln M.ln) M.lz)/\OG 135 4 bC w3 base (qS (qP g6) M.hn M.hn) M.hz from by
  obtain ⟨⟨T0,k0⟩,i2,i3,i4⟩:=HZ2.o;have q:=HQ.o;have rg:∀ j,rK (qS (qP g2) M.fn M.fn) (qS (qP g3) M.rn M.rn) (qS (qP g4) M.on M.on) j->g2<=j/\j<=g4:=fun j hj=>by rcases hj with hk|hk|hk<;>(simp only [Value.ownBlock,Option.some.injEq] at hk;omega)
  exact ⟨⟨T0.trans (T.mono (fun j hk=>by have:=rg j hk;omega)),aF T k0 (fun s=>by have:=rg _ s;omega)⟩,i3.kept T (fun k hk s=>by have:=rg _ s;simp only [Value.ownBlock,Option.some.injEq] at hk;omega),i4.kept T (fun k hk s=>by have:=rg _ s;simp only [Value.ownBlock,Option.some.injEq] at hk;omega)⟩)
 clear T p0 p1 p2 p3 p4 p5 p6 p7 p8 p9 p10 p11 p12 p13 p14 HZ2 C2;have C3:=zh (mG (qP g5) M.ln M.ln base _ (1+u+M.kn+M.fn+M.rn+M.on) w3 HZ3.o.2.1 (by omega) (by omega));obtain ⟨p0,p1,p2,p3,p4,p5,p6,p7,p8,p9,p10,p11,p12,p13,p14⟩:=HZ3.o.1.2.mc;go_wp2_with fail
 refine C3.o.mono ?_;rintro e w4 ⟨rfl,_,T⟩
 have HZ4:=zh (show (Turn (fun j=>base<=j/\j<W6.heap.size) W w4/\Blk w4 W.heap.size (qK M g0 g1 g2 g3 g4 g5 g6) 43)/\OG 135 4 bC w4 base (qS (qP g6) M.hn M.hn) M.hz from by
  obtain ⟨⟨T0,k0⟩,i3,i4⟩:=HZ3.o;have q:=HQ.o
  exact ⟨⟨T0.trans (T.mono (fun j hk=>⟨by simp only [Value.ownBlock,Option.some.injEq] at hk;omega,by simp only [Value.ownBlock,Option.some.injEq] at hk;omega⟩)),aF T k0 (fun hk=>by simp only [Value.ownBlock,Option.some.injEq] at hk;omega)⟩,i4.kept T (fun k hk s=>by simp only [Value.ownBlock,Option.some.injEq] at hk s;omega)⟩)
 clear T p0 p1 p2 p3 p4 p5 p6 p7 p8 p9 p10 p11 p12 p13 p14 HZ3 C3;have C4:=zh (kY (qP g6) M.hn M.hn base _ (1+u+M.kn+M.fn+M.rn+M.on+4*M.ln) w4 HZ4.o.2 (by omega) (by omega));obtain ⟨p0,p1,p2,p3,p4,p5,p6,p7,p8,p9,p10,p11,p12,p13,p14⟩:=HZ4.o.1.2.mc;go_wp2_with fail
 refine C4.o.mono ?_;rintro e w5 ⟨rfl,_,T⟩
 have HF:=zh (show Turn (fun j=>base<=j/\j<W6.heap.size) W w5 from by
  have q:=HQ.o
  exact HZ4.o.1.1.trans (T.mono (fun j hk=>⟨by simp only [Value.ownBlock,Option.some.injEq] at hk;omega,by simp only [Value.ownBlock,Option.some.injEq] at hk;omega⟩)))
 clear T p0 p1 p2 p3 p4 p5 p6 p7 p8 p9 p10 p11 p12 p13 p14 HZ4 C4;go_wp2;go_ret;exact ⟨1+u+M.kn+M.fn+M.rn+M.on+4*M.ln+4*M.hn,by go_num,HF.o,by omega⟩
