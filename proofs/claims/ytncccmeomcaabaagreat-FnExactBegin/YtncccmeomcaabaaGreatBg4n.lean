import Derived.Deep.RegionHeld3
import Derived.Test.YtncccmeomcaabaaGreatD20
import Derived.Test.YtncccmeomcaabaaGreatD19
import Derived.Test.YtncccmeomcaabaaGreatBg2
import Derived.Test.YtncccmeomcaabaaGreatBgo
import Derived.Test.YtncccmeomcaabaaGreatBgd
set_option linter.all false
namespace Go.Proofs.YtncccmeomcaabaaGreat
open Go.RowKit Classical
set_option maxRecDepth 100000
set_option maxHeartbeats 16000000 in
theorem sBegin_no (M:Mn)(g b1 o1 b2 o2 b3 o3 b4 o4:Nat)(Ls:List (PMod×Mb))(s:ByteArray)(a:qO)(n cap:Nat)(az:qi)(w:World)(h:MnD w M)(H:MnS w M g b1 o1 b2 o2 b3 o3 b4 o4 Ls)(hs:s.size<=1048576)(ha:IS w a n cap az)(hw:¬ begW M s az):Calls Tryz.prog 14 #[.agg (qA M),.string s,qS a n cap] w (MQ w (.bool false) M.cn):=by
 obtain ⟨U,hU⟩:=eqx ((w.alloc (.cells (qA M) 43)).alloc (.cells qZ 43));have bU:qY w U:=by rw [hU];exact bal.alloc (by simp) _
 have kM:Blk U w.heap.size (qA M) 43:=by rw [hU];exact (Blk.new _ _ _).alloc _
 have kR:Blk U (w.heap.size+1) z15 43:=by rw [hU];have:=Blk.new (w.alloc (.cells (qA M) 43)) z15 43;simpa [z15] using this
 have HVL:=zh (aK8 M U (h.bw bU));have HMS:=zh (fun (X:World) (hX:qY U X)=>xA ((h.bw bU).bw hX) ((H.bw bU).bw hX));have HK:=zh (fun (X:World) (hX:qY U X)=>xA (kM.bw hX) (xA (kR.bw hX) ((ha.bw bU).bw hX)));have HRS:=zh (fun (ok:MOk M) (X:World) (hX:qY U X)=>((h.m.bw bU).bw hX).resS (eQ.1 ok.l).2.2.2.1 (by have:=(ok.cv h).cf.2.1;have e:M.cn.ps.length=M.mn:=(bT M.ms).trans h.m.s.1;omega) s hs);have hal:=ha.1;have hn0:=ha.2.1;have HW:=zh hw;have HU:=zh hU;have HBU:=zh bU;obtain ⟨x0,x1,x2,x3,x4,x5,x6,x7,x8,x9,x10,x11,x12,x13,x14⟩:=kM.mc;unfold maxLen at hn0;clear hU bU kM kR h H ha hw;go_enter Tryz.func14,Tryz.ntmps14
 go_wp2_with (rw [<- HU.o])
 refine HVL.o.mono ?_;rintro e X0 ⟨hb0,y0,n0,d0,i1,y2,n2,d2,i3,i4,y5,n5,d5,bb,rfl,hbb,hly⟩;obtain ⟨w1,hw1,b1',kl⟩:=nwb X0 #[qS y0 n0 d0,qI i1,qS y2 n2 d2,qI i3,qI i4,qS y5 n5 d5] 71;have HB1:=zh (hb0.trans (b1'.mono hb0.size));have HVV:=zh hw1;clear x0 x1 x2 x3 x4 x5 x6 x7 x8 x9 x10 x11 x12 x13 x14 HVL HU hw1;rcases bb with _|_
 focus
  have HB0:=zh HB1.o;clear hb0 hbb hly b1' kl HB1
 rotate_left
 focus
  obtain ⟨Y,eY,hY,kY⟩:∃ Y:Lyb,Y.L=M.L/\Y.T w1/\Blk w1 X0.heap.size (qL Y.L Y.a0 Y.xs.length Y.c0 Y.a2 Y.L.slots.length Y.c2 Y.a5 Y.ts.length Y.c5) 71:=by
   obtain ⟨a0,c0,xs,a2,c2,a5,c5,ts,ely,lyt⟩:=hly rfl;refine ⟨⟨M.L,a0,c0,xs,a2,c2,a5,c5,ts⟩,rfl,lyt.bw b1',?_⟩;rw [ely] at kl;exact kl
  have HY:=zh (fun (X:World) (hX:qY w1 X)=>xA (hY.bw hX) (kY.bw hX));have HO:=zh (xA (hbb.1 rfl) eY);have m0:=(HK.o w1 HB1.o).1.mc.1;obtain ⟨T,hT⟩:=eqx (iD M.cn.ps s);have hR0:=HRS.o HO.o.1 w1 HB1.o;rw [show iD (aE M.ms) s=T from hT.symm] at hR0;have HR:=zh hR0;have HT:=zh hT;clear hb0 hbb hly b1' kl hR0 hT eY hY kY HRS;rcases T with _|⟨m,b,t⟩
  focus
   unfold tgV at HR;go_wp2_with (rw [<- HVV.o])
   refine HR.o.mono ?_;rintro e X1 ⟨rfl,hb1⟩;have HB0:=zh (show qY U (X1.alloc (.cells (qT 0 0 0) 58)) from HB1.o.trans (Below.mono (hb1.trans (Below.mono bal hb1.size)) HB1.o.size));clear hb1 m0 HR HVV
  rotate_left
  focus
   unfold tgV at HR;dsimp only at HR;go_wp2_with (rw [<- HVV.o])
   refine HR.o.mono ?_;rintro e X1 ⟨rfl,hb1⟩;obtain ⟨V,hV,bV,kV⟩:=nwb X1 (qT m b t) 58;have B1:=hb1.trans (bV.mono hb1.size);have B2:=HB1.o.trans (B1.mono HB1.o.size);clear HVV m0 HR;have HVV:=zh hV;by_cases c4:4<n
   focus
    have HB0:=zh B2;have c4':(4:Int)<(n:Int):=by omega
    clear hal hb1 hV bV kV B1 B2 c4
   rotate_left
   focus
    have c4':¬ (4:Int)<(n:Int):=by omega
    have HTK:=zh (lB M m b t V (HMS.o V B2).1);have HBV:=zh (xA B1 (xA B2 kV));obtain ⟨t0,t1,t2,_⟩:=kV.three;obtain ⟨m0,m1,m2,m3,m4,m5,m6,m7,m8,m9,m10,m11,m12,m13,m14⟩:=(HK.o V B2).1.mc;clear hb1 hV bV kV B1 B2;have c0:¬ (tgk (aE M.ms) m b t/\M.tn<1000000000):=fun c0=>HW.o ⟨HO.o.1,(show az.length<=4 by omega),_,HT.o.symm,c0.2,c0.1⟩;rw [xS c0] at HTK;go_wp2_with (rw [<- HVV.o])
    refine HTK.o.mono ?_;rintro e X2 ⟨rfl,hb2⟩;have HB0:=zh (show qY U X2 from HBV.o.2.1.trans (hb2.mono HBV.o.2.1.size));clear hb2 c0 t0 t1 t2 m0 m1 m2 m3 m4 m5 m6 m7 m8 m9 m10 m11 m12 m13 m14 HTK HBV HVV
 all_goals
  obtain ⟨m0,m1,m2,m3,m4,m5,m6,m7,m8,m9,m10,m11,m12,m13,m14⟩:=(HK.o _ HB0.o).1.mc;have HCM:=zh (jI M g b1 o1 b2 o2 b3 o3 b4 o4 Ls _ (HMS.o _ HB0.o).2);go_wp2_with (rw [<- HVV.o])
  refine HCM.o.mono ?_;rintro e Xc ⟨hbc,N',base,mid,L,β,rfl,hm,hq1,hq2⟩;unfold mnV;have kr:=(HK.o _ HB0.o).2.1.bw hbc;have KR:=kr;unfold z15 at KR;obtain ⟨r0,r1,r2,r3,r4,r5,r6,r7,r8,r9,r10,r11,r12,r13,r14⟩:=KR.mc;have rf:=KR.frozen
  have HF:=zh (show MQ w (.bool false) M.cn (.returned (.tuple #[.agg (qA N'),.bool false])) (stM Xc (w.heap.size+1) N') from by
   have B:=HBU.o.trans (HB0.o.mono HBU.o.size)
   exact kP (B.trans (hbc.mono B.size)) kr (by omega) hm (xM B.size hq1))
  have HKR:=zh kr;clear m0 m1 m2 m3 m4 m5 m6 m7 m8 m9 m10 m11 m12 m13 m14 hbc hm hq1 hq2 kr KR HCM;go_wp2;exact lH N' rfl HKR.o rfl rfl HF.o
