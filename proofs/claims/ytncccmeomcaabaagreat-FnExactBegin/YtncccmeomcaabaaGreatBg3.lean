import Derived.Test.YtncccmeomcaabaaGreatD20
import Derived.Test.YtncccmeomcaabaaGreatC18
import Derived.Test.YtncccmeomcaabaaGreatBg2
import Derived.Test.YtncccmeomcaabaaGreatBgd
set_option linter.all false
namespace Go.Proofs.YtncccmeomcaabaaGreat
open Go.RowKit Classical
set_option maxRecDepth 100000
set_option maxHeartbeats 8000000 in
theorem iBegin_any (M:Mn)(g b1 o1 b2 o2 b3 o3 b4 o4:Nat)(Ls:List (PMod×Mb))(s:ByteArray)(a:qO)(n cap:Nat)(az:qi)(w:World)(h:MnD w M)(H:MnS w M g b1 o1 b2 o2 b3 o3 b4 o4 Ls)(hs:s.size<=1048576)(ha:IS w a n cap az):Calls Tryz.prog 16 #[.agg (qA M),.string s,qS a n cap] w (MQ w (.bool (begB M s az)) (begF M s az)):=by
 obtain ⟨U,hU⟩:=eqx ((w.alloc (.cells (qA M) 43)).alloc (.cells qZ 43));have bU:qY w U:=by rw [hU];exact bal.alloc (by simp) _
 have kM:Blk U w.heap.size (qA M) 43:=by rw [hU];exact (Blk.new _ _ _).alloc _
 have kR:Blk U (w.heap.size+1) z15 43:=by rw [hU];have:=Blk.new (w.alloc (.cells (qA M) 43)) z15 43;simpa [z15] using this
 have HNM:=zh (tG M g b1 o1 b2 o2 b3 o3 b4 o4 Ls U (h.bw bU) (H.bw bU));have HMS:=zh (fun (X:World) (hX:qY U X)=>(H.bw bU).bw hX);have HK:=zh (fun (X:World) (hX:qY U X)=>xA (kM.bw hX) (xA (kR.bw hX) ((ha.bw bU).bw hX)));have HV:=zh (fun (ok:MOk M)=>ok.cv h);have HRS:=zh (fun (ok:MOk M) (X:World) (hX:qY U X)=>((h.m.bw bU).bw hX).resI (eQ.1 ok.l).2.2.2.1 (by have:=(ok.cv h).cf.2.1;have e:M.cn.ps.length=M.mn:=(bT M.ms).trans h.m.s.1;omega) s hs);have hal:=ha.1;have hn0:=ha.2.1;have HU:=zh hU;have HBU:=zh bU;obtain ⟨x0,x1,x2,x3,x4,x5,x6,x7,x8,x9,x10,x11,x12,x13,x14⟩:=kM.mc;unfold maxLen at hn0;clear hU bU kM kR h H ha;go_enter Tryz.func16,Tryz.ntmps16
 go_wp2_with (rw [<- HU.o])
 refine HNM.o.mono ?_;rintro e X0 (⟨ok,rfl,hb0⟩|⟨ok,w1,G,Y,N,a13,n13,c13,vr,rfl,hbw,hMg,hYL⟩)
 focus
  have HB0:=zh hb0;have HEB:=zh (begB_no (M:=M) (s:=s) (az:=az) (fun q=>ok q.1));clear hb0 ok hal x0 x1 x2 x3 x4 x5 x6 x7 x8 x9 x10 x11 x12 x13 x14 HNM HU
 rotate_left;have hB0:qY U X0:=hbw.trans (hMg.b.mono hbw.size);clear x0 x1 x2 x3 x4 x5 x6 x7 x8 x9 x10 x11 x12 x13 x14 HNM HU;by_cases c4:4<n
 focus
  have HB0:=zh hB0;have HEB:=zh (begB_no (M:=M) (s:=s) (az:=az) (fun q=>by have:=q.2.1;omega));have c4':(4:Int)<(n:Int):=by omega
  clear ok hal hbw hMg hYL hB0 c4
 rotate_left;have c4':¬ (4:Int)<(n:Int):=by omega
 obtain ⟨m0,_⟩:=(HK.o X0 hB0).1.mc;have HR0:=zh (HRS.o ok X0 hB0);have HTK:=zh (fun (X:World) (hX:qY X0 X) (m b t:Int)=>wZ w1 G Y M.cn N (qS a13 n13 c13) vr m b t X (hMg.bw hX) (HV.o ok).cf.2.1);have HMG:=zh (fun (X:World) (hX:qY X0 X)=>hMg.bw hX);have HO:=zh (xA ok (xA hbw (xA hYL (xA hB0 (show az.length<=4 by omega)))));obtain ⟨T,hT⟩:=eqx (iD M.cn.ps s);have HT:=zh hT;have hR0:=HR0.o;rw [show iD (aE M.ms) s=T from hT.symm] at hR0;have HR:=zh hR0;clear ok hbw hMg hYL hB0 hT hR0 HR0 HRS c4;rcases T with _|⟨m,b,t⟩
 focus
  unfold tgV at HR;go_wp2_with fail
  refine HR.o.mono ?_;rintro e X1 ⟨rfl,hb1⟩;have HEB:=zh (begB_no (M:=M) (s:=s) (az:=az) (fun q=>by obtain ⟨t,e,_⟩:=q.2.2;rw [<- HT.o] at e;cases e));have HB0:=zh (show qY U (X1.alloc (.cells (qT 0 0 0) 58)) from HO.o.2.2.2.1.trans (Below.mono (hb1.trans (Below.mono bal hb1.size)) HO.o.2.2.2.1.size));clear hb1 m0 HR
 rotate_left
 focus
  unfold tgV at HR;dsimp only at HR;go_wp2_with fail
  refine HR.o.mono ?_;rintro e X1 ⟨rfl,hb1⟩;obtain ⟨V,hV,bV,kV⟩:=nwb X1 (qT m b t) 58;have B1:=hb1.trans (bV.mono hb1.size);obtain ⟨t0,t1,t2,_⟩:=kV.three;have HV1:=zh hV;have HT1:=zh (HTK.o V B1 m b t);have HKV:=zh (xA B1 kV);clear hb1 hV bV kV B1 m0 HR HTK;by_cases c0:M.cn.tn<1000000000/\tgk M.cn.ps m b t
  .rw [xR c0] at HT1;have HEB:=zh (xA (begB_iff.2 ⟨HO.o.1,HO.o.2.2.2.2,_,HT.o.symm,c0⟩) c0);clear c0;go_wp2_with (rw [<- HV1.o])
   refine HT1.o.mono ?_;rintro e X2 ⟨rfl,hb2⟩;have B2:=HKV.o.1.trans (hb2.mono HKV.o.1.size);have k2:=HKV.o.2.bw hb2;have HFG:=zh (forget_any w1 G Y M.cn N (qS a13 n13 c13) vr X2 (HMG.o X2 B2) (by rw [HO.o.2.2.1];exact HV.o HO.o.1));have HK2:=zh k2;clear hb2 B2 k2 t0 t1 t2 HT1 HV1 HKV HMG;go_wp2_with fail
   refine HFG.o.mono ?_;rintro e X3 ⟨rfl,⟨M3,h3⟩,T3⟩;have k3:=T3.blk HK2.o (by unfold gkd;decide);have B3:=HO.o.2.1.trans (h3.b.mono HO.o.2.1.size);have HSE:=zh (aAg Y.L Y.a0 Y.c0 Y.xs Y.a2 Y.c2 Y.a5 Y.c5 Y.ts X3 h3.ly);have hD:wfi (dB Y.L):=by have:=(HV.o HO.o.1).st.1;rw [<- HO.o.2.2.1] at this;unfold wfi;omega
   have HFR:=zh (fun (X:World) (hX:qY X3 X)=>firstRegs_any a n cap az (dB Y.L) X ((HK.o X3 B3).2.2.bw hX) (by omega) hD);have HM3:=zh (fun (X:World) (hX:qY X3 X)=>xA (h3.bw hX) (k3.bw hX));have x15:X3.cell? (qR G 15)=some (qS Y.a0 Y.xs.length Y.c0):=h3.k.cell 15;have x16:X3.cell? (qR G 16)=some (qI Y.L.stack):=h3.k.cell 16;have x17:X3.cell? (qR G 17)=some (qS Y.a2 Y.L.slots.length Y.c2):=h3.k.cell 17;have x18:X3.cell? (qR G 18)=some (qI Y.L.flash):=h3.k.cell 18;have x19:X3.cell? (qR G 19)=some (qI Y.L.ram):=h3.k.cell 19;have x20:X3.cell? (qR G 20)=some (qS Y.a5 Y.ts.length Y.c5):=h3.k.cell 20;have HB3:=zh B3;clear h3 T3 k3 B3 hD HFG HK2;go_wp2_with fail
   refine HSE.o.mono ?_;rintro e X4 ⟨rfl,hb4⟩;have HB4:=zh hb4;clear hb4 HSE x15 x16 x17 x18 x19 x20;go_wp2_with fail
   refine (HFR.o X4 HB4.o).mono ?_;rintro e X5 ⟨rfl,q5,hb5⟩;have B5:=HB4.o.trans (hb5.mono HB4.o.size);obtain ⟨h5,k5⟩:=HM3.o X5 B5;have hG:G<X4.heap.size:=(HM3.o X4 HB4.o).1.k.lt;have x6:=h5.k.e6;have f6:=h5.k.frozen 6;obtain ⟨V6,hV6⟩:=eqx (X5.setCell (qR G 6) (qS (qP X4.heap.size) 8 8));have h6:Mg w1 V6 G Y (fgC M.cn Y.L az) { M3 with ka:=qP X4.heap.size,kn:=8,kc:=8,kz:=(rgF az az.length).set 6 (dB Y.L) } (qS a13 n13 c13) vr:=by rw [hV6,hal];unfold fgC;rw [hal];exact h5.rgs q5 hG
   have k6:Blk V6 X1.heap.size (qT m b t) 58:=by rw [hV6];exact k5.other _ _ (fun e=>by have e':X1.heap.size=G:=e;rw [e'] at k5;exact absurd (aH k5 h5.k) (by decide))
   obtain ⟨t0,t1,t2,_⟩:=k6.three;have HEN:=zh (aI4 w1 G Y _ _ _ _ m b t V6 h6 (by rw [HO.o.2.2.1];exact fgC_cv (HV.o HO.o.1) az));have HV6:=zh hV6;clear q5 hb5 B5 h5 k5 hG hV6 h6 k6 HM3 HFR;go_wp2_with (rw [<- HV6.o])
   refine HEN.o.mono ?_;intro e X7 he;unfold EtP at he;rw [if_pos (show (fgC M.cn Y.L az).tn<1000000000/\tgk (fgC M.cn Y.L az).ps m b t from HEB.o.2)] at he;obtain ⟨rfl,M',vr',hMg,_⟩:=he;have HB1:=zh (show qY U X7 from HO.o.2.1.trans (hMg.b.mono HO.o.2.1.size));have HAN:=zh (aF7 w1 G Y _ M' a13 n13 c13 vr' X7 hMg);have HMX:=zh hMg.m;clear hMg HEN HV6 t0 t1 t2 x6 f6;go_wp2_with fail
   refine HAN.o.mono ?_;rintro e X8 ⟨rfl,hb2⟩;have kr:=(HK.o X7 HB1.o).2.1.bw hb2;have KR:=kr;unfold z15 at KR;obtain ⟨r0,r1,r2,r3,r4,r5,r6,r7,r8,r9,r10,r11,r12,r13,r14⟩:=KR.mc;have rf:=KR.frozen
   have HF:=zh (show MQ w (.bool (begB M s az)) (begF M s az) (.returned (.tuple #[.agg (qA M'),.bool true])) (stM X8 (w.heap.size+1) M') from by
    obtain ⟨base,mid,L,β,hm,hq1,hq2⟩:=HMX.o;have B2:=HBU.o.trans ((HB1.o.trans (hb2.mono HB1.o.size)).mono HBU.o.size);unfold begF;rw [HEB.o.1,if_pos rfl,<- HT.o,<- HO.o.2.2.1]
    exact kP B2 kr (by omega) (hm.bw hb2) (xM (HBU.o.trans (HO.o.2.1.mono HBU.o.size)).size hq1))
   have HKR:=zh kr;clear hb2 kr KR HAN HMX;go_wp2;exact lH M' rfl HKR.o rfl rfl HF.o
  rw [xS c0] at HT1;have HEB:=zh (begB_no (M:=M) (s:=s) (az:=az) (fun q=>by obtain ⟨t',e,q⟩:=q.2.2;rw [<- HT.o] at e;cases e;exact c0 q));clear c0;go_wp2_with (rw [<- HV1.o])
  refine HT1.o.mono ?_;rintro e X2 ⟨rfl,hb2⟩;have HB0:=zh (show qY U X2 from by have B2:=HKV.o.1.trans (hb2.mono HKV.o.1.size);exact HO.o.2.2.2.1.trans (B2.mono HO.o.2.2.2.1.size));clear hb2 t0 t1 t2 HT1 HV1 HKV HMG
 all_goals
  obtain ⟨m0,m1,m2,m3,m4,m5,m6,m7,m8,m9,m10,m11,m12,m13,m14⟩:=(HK.o _ HB0.o).1.mc;have HCM:=zh (jX M g b1 o1 b2 o2 b3 o3 b4 o4 Ls _ (HMS.o _ HB0.o));go_wp2_with (rw [<- HVV.o])
  refine HCM.o.mono ?_;rintro e Xc ⟨hbc,N',base,mid,L,β,rfl,hm,hq1,hq2⟩;unfold mnV;have kr:=(HK.o _ HB0.o).2.1.bw hbc;have KR:=kr;unfold z15 at KR;obtain ⟨r0,r1,r2,r3,r4,r5,r6,r7,r8,r9,r10,r11,r12,r13,r14⟩:=KR.mc;have rf:=KR.frozen
  have HF:=zh (show MQ w (.bool (begB M s az)) (begF M s az) (.returned (.tuple #[.agg (qA N'),.bool false])) (stM Xc (w.heap.size+1) N') from by
   have B:=HBU.o.trans (HB0.o.mono HBU.o.size);unfold begF;rw [HEB.o,if_neg (by decide)]
   exact kP (B.trans (hbc.mono B.size)) kr (by omega) hm (xM B.size hq1))
  have HKR:=zh kr;clear m0 m1 m2 m3 m4 m5 m6 m7 m8 m9 m10 m11 m12 m13 m14 hbc hm hq1 hq2 kr KR HCM;go_wp2;exact lH N' rfl HKR.o rfl rfl HF.o
