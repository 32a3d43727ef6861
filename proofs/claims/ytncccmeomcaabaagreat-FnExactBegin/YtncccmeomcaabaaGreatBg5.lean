import Derived.Deep.RegionHeld3
import Derived.Test.YtncccmeomcaabaaGreatD21
import Derived.Test.YtncccmeomcaabaaGreatBg4
import Derived.Test.YtncccmeomcaabaaGreatBg3
import Derived.Test.YtncccmeomcaabaaGreatBgm
set_option linter.all false
namespace Go.Proofs.YtncccmeomcaabaaGreat
open Go.RowKit Classical
set_option maxRecDepth 100000
theorem begB_cp {M:Mn}{g0 g1 g2 g3 g4 g5 g6:Nat}{ms':List Md}(e:aE ms'=aE M.ms)(s:ByteArray)(az:qi):begB (M.cp g0 g1 g2 g3 g4 g5 g6 ms') s az=begB M s az/\begF (M.cp g0 g1 g2 g3 g4 g5 g6 ms') s az=begF M s az:=by
 have eL:(M.cp g0 g1 g2 g3 g4 g5 g6 ms').L=M.L:=by unfold Mn.L;show lkL (aE ms') M.cs M.cw M.ck M.cd=_;rw [e]
 have q:begW (M.cp g0 g1 g2 g3 g4 g5 g6 ms') s az=begW M s az:=by unfold begW;rw [propext (aKr e),aLy e]
 have r:=xJ.2 (begB_iff.trans ((iff_of_eq q).trans begB_iff.symm));refine ⟨r,?_⟩;unfold begF;rw [r,aLy e,eL]
theorem begF_mkn {M:Mn}{w:qw}(d:MnD w M)(s:ByteArray)(az:qi):mkn (begF M s az)<=mkn M.cn/\(begF M s az).ps=aE M.ms:=by
 unfold begF;by_cases c:begB M s az=true
 .rw [if_pos c];obtain ⟨ok,_,t,ht,_,hp⟩:=begB_iff.1 c;have hv:=ok.cv d;rw [ht];obtain ⟨q1,q2⟩:=aLt (C:=fgC M.cn M.L az) (L:=M.L) (m:=t.1) (b:=t.2.1) (fgC_cv hv az) hp.1 t.2.2;refine ⟨?_,q2⟩;show mkn (gJ (fgC M.cn M.L az) M.L t.1 t.2.1 t.2.2)<=_;rw [q1];obtain ⟨⟨s0,s1,s2⟩,s3,_⟩:=hv.st;have e1:(fgC M.cn M.L az).rz.length=M.cn.rz.length:=lR _ _ _ (by rw [List.length_replicate];omega);have e2:(fgC M.cn M.L az).kz.length=M.cn.kz.length:=by show ((rgF az az.length).set 6 _).length=_;rw [List.length_set,rgF_len,hv.g]
  unfold mkn;rw [e1,e2];show 1+(M.cn.ps.map szc).sum+_+M.cn.fz.length+_+0+4*M.cn.lz.length+4*0<=_;omega
 .rw [if_neg c];exact ⟨aN,rfl⟩
theorem beg_cp {F:Nat}(HF:∀ (M:Mn) (g b1 o1 b2 o2 b3 o3 b4 o4:Nat) (Ls:List (PMod×Mb)) (s:ByteArray) (a:qO) (n cap:Nat) (az:qi) (w:qw),MnD w M->MnS w M g b1 o1 b2 o2 b3 o3 b4 o4 Ls->s.size<=1048576->IS w a n cap az->qC F #[.agg (qA M),.string s,qS a n cap] w (MQ w (.bool (begB M s az)) (begF M s az))){M:Mn}{w0:qw}(t0:MnT w0 M)(b0:MnB M){s:ByteArray}(hs:s.size<=1048576){a:qO}{n cap:Nat}{az:qi}(lo:Nat)(X:qw)(bs g0 g1 g2 g3 g4 g5 g6:Nat)(ms':List Md)(r:MnR X bs M g0 g1 g2 g3 g4 g5 g6 ms')(ha:IS X a n cap az)(hl:lo<=X.heap.size):qC F #[.agg (qK M g0 g1 g2 g3 g4 g5 g6),.string s,qS a n cap] X (fun e w'=>qY X w'/\∃ N:Mn,e=.returned (.tuple #[.agg (qA N),.bool (begB M s az)])/\RX (begF M s az) lo N w'):=by
 have e:=aCn r.m r.n t0.m.1;refine (HF (M.cp g0 g1 g2 g3 g4 g5 g6 ms') g0 g1 0 g2 0 g3 0 g4 0 (ms'.map Md.mb) s a n cap az X (r.mnd t0 b0) (r.mns t0 b0) hs ha).mono ?_;rintro e' w' ⟨hb,N,base,mid,L,β,rfl,hm,hq⟩;rw [(begB_cp e s az).1];rw [(begB_cp e s az).2] at hm;exact ⟨hb,N,rfl,base,mid,L,β,hm,xM hl hq⟩
set_option maxHeartbeats 16000000 in
theorem exactBegin_walk (M:Mn)(s:ByteArray)(a:qO)(n cap:Nat)(az:qi)(w:qw)(h:MnT w M)(hs:s.size<=maxLen)(ha:IS w a n cap az):qC 4 #[.agg (qA M),.string s,qS a n cap] w (qB w (.bool true)):=by
 obtain ⟨U,hU,bU,kM⟩:=nwb w (qA M) 34;have HSZ:=zh (vR M U (h.bw bU));have HT:=zh h;have hal:=ha.1;have hnm:=ha.2.1;have HWZ:=zh ha.2.2.1;have HIS:=zh (fun (X:qw) (hX:qY U X)=>(ha.bw bU).bw hX);unfold maxLen at hs hnm;have HU:=zh hU;have HB:=zh bU;have HK:=zh (fun (X:qw) (hX:qY U X)=>kM.bw hX);obtain ⟨m0,m1,m2,m3,m4,m5,m6,m7,m8,m9,m10,m11,m12,m13,m14⟩:=kM.mc;clear hU bU kM h ha;by_cases cs:1048576<s.size
 .have cs':(1048576:Int)<(s.size:Int):=by omega
  go_enter Tryz.func4,Tryz.ntmps4
  go_wp2_with (rw [<- HU.o])
  go_ret;exact ⟨rfl,HB.o⟩
 have cs':¬ (1048576:Int)<(s.size:Int):=by omega
 by_cases cn:1048576<n
 .have cn':(1048576:Int)<(n:Int):=by omega
  go_enter Tryz.func4,Tryz.ntmps4
  go_wp2_with (rw [<- HU.o])
  go_ret;exact ⟨rfl,HB.o⟩
 have cn':¬ (1048576:Int)<(n:Int):=by omega
 go_enter Tryz.func4,Tryz.ntmps4
 go_wp2_with (rw [<- HU.o])
 refine HSZ.o.mono ?_;rintro e X1 ⟨z,rfl,hz,hb⟩;have HBW:=zh hb;clear hb HSZ HU m0 m1 m2 m3 m4 m5 m6 m7 m8 m9 m10 m11 m12 m13 m14;generalize Value.agg (qA M)=vM0;by_cases cz:z<0
 .clear hz;go_wp2;go_ret;exact ⟨rfl,HB.o.trans (HBW.o.mono HB.o.size)⟩
 have HMB:=zh (hz (by omega));clear hz;have HTO:=zh (fun (X:qw) (hX:qY U X)=>(vK M X ((HT.o.bw HB.o).bw hX) HMB.o).mono (fun e w' he=>show ∃ g0 g1 g2 g3 g4 g5 g6 ms',e=.returned (.agg (qK M g0 g1 g2 g3 g4 g5 g6))/\MnR w' X.heap.size M g0 g1 g2 g3 g4 g5 g6 ms'/\qY X w' from he));have HTI:=zh (fun (X:qw) (hX:qY U X)=>(iY a n cap az X (HIS.o X hX) (by omega)).mono (fun e w' he=>show e=.returned (qS (qP X.heap.size) n n)/\(∀ Z,qY w' Z->RowI Z X.heap.size az/\IS Z (qP X.heap.size) n n az)/\qY X w' from ⟨he.1,fun Z hZ=>⟨he.2.1.bw hZ,(he.2.1.bw hZ).is (by rw [hal];unfold maxLen;omega) HWZ.o n n hal⟩,he.2.2⟩));obtain ⟨B,hB⟩:=eqx (begB M s az);obtain ⟨C,hC⟩:=eqx (begF M s az);have HSE:=zh (fun (lo:Nat) (X:qw) (bs g0 g1 g2 g3 g4 g5 g6:Nat) (ms':List Md) (r:MnR X bs M g0 g1 g2 g3 g4 g5 g6 ms') (g:Nat) (ha:IS X (qP g) n n az) (hl:lo<=X.heap.size)=>beg_cp sBegin_any HT.o HMB.o (s:=s) (by omega) lo X bs g0 g1 g2 g3 g4 g5 g6 ms' r ha hl);have HIE:=zh (fun (lo:Nat) (X:qw) (bs g0 g1 g2 g3 g4 g5 g6:Nat) (ms':List Md) (r:MnR X bs M g0 g1 g2 g3 g4 g5 g6 ms') (g:Nat) (ha:IS X (qP g) n n az) (hl:lo<=X.heap.size)=>beg_cp iBegin_any HT.o HMB.o (s:=s) (by omega) lo X bs g0 g1 g2 g3 g4 g5 g6 ms' r ha hl);rw [<- hB,<- hC] at HSE HIE
 have HCB:=zh (fun (X:qw) (bs g0 g1 g2 g3 g4 g5 g6:Nat) (ms':List Md) (r:MnR X bs M g0 g1 g2 g3 g4 g5 g6 ms')=>show mkn C<=4194305/\C.ps.length<=1048576 from by
  have e:=aCn r.m r.n HT.o.m.1;obtain ⟨q1,q2⟩:=begF_mkn (r.mnd HT.o HMB.o) s az;rw [(begB_cp e s az).2,aLy e] at q1;rw [(begB_cp e s az).2] at q2;rw [hC];refine ⟨by have:=aNg HT.o HMB.o;omega,?_⟩;rw [q2,show aE (M.cp g0 g1 g2 g3 g4 g5 g6 ms').ms=aE M.ms from e,bT,HT.o.m.1]
  exact HMB.o.n)
 clear hB hC;have hBB:(B !=B)=false:=by cases B<;>rfl
 obtain ⟨m0,m1,m2,m3,m4,m5,m6,m7,m8,m9,m10,m11,m12,m13,m14⟩:=(HK.o X1 HBW.o).mc;go_wp2_with fail
 refine (HTO.o X1 HBW.o).mono ?_;rintro e X2 ⟨g0,g1,g2,g3,g4,g5,g6,ms2,rfl,r2,hb2⟩;have HX2:=zh (xA r2 hb2);clear r2 hb2 m0 m1 m2 m3 m4 m5 m6 m7 m8 m9 m10 m11 m12 m13 m14;go_wp2_with fail
 refine (HTI.o X2 (HBW.o.trans (HX2.o.2.mono HBW.o.size))).mono ?_;rintro e Xi ⟨rfl,ri,hbi⟩;have HXi:=zh (xA (HX2.o.1.bw hbi) (xA (HX2.o.2.trans (hbi.mono HX2.o.2.size)) (ri Xi brf).2));clear ri hbi HX2;go_wp2_with fail
 refine (HSE.o X1.heap.size Xi _ g0 g1 g2 g3 g4 g5 g6 ms2 HXi.o.1 _ HXi.o.2.2 HXi.o.2.1.size).mono ?_;rintro e X3 ⟨hb3,M5,rfl,rx5⟩;obtain ⟨W5,hW5,bA5,k5⟩:=nwb X3 (qA M5) 43;have B3:=HXi.o.2.1.trans (hb3.mono HXi.o.2.1.size);have B5:=B3.trans (bA5.mono B3.size);have HB5:=zh (HBW.o.trans (B5.mono HBW.o.size));have HF5:=zh (fun (X:qw) (hX:qY W5 X)=>show Blk X X3.heap.size (qA M5) 43/\RX C X1.heap.size M5 X from ⟨k5.bw hX,(rx5.bw bA5).bw hX⟩);have hgb:X3.heap.size<W5.heap.size:=k5.lt;have HW5:=zh hW5;obtain ⟨m0,m1,m2,m3,m4,m5,m6,m7,m8,m9,m10,m11,m12,m13,m14⟩:=(HK.o W5 HB5.o).mc;generalize Value.agg (qA M)=vM1;generalize Value.agg (qK M g0 g1 g2 g3 g4 g5 g6)=vK1;clear hb3 rx5 hW5 bA5 k5 B3 B5 HXi HSE HBW;go_wp2_with (rw [<- HW5.o])
 as_aux_lemma=>
  refine (HTO.o W5 HB5.o).mono ?_;rintro e X6 ⟨g0,g1,g2,g3,g4,g5,g6,ms6,rfl,r6,hb6⟩;obtain ⟨W6,hW6,bA,kA⟩:=nwb X6 (qK M g0 g1 g2 g3 g4 g5 g6) 43;have HN:=zh (HCB.o X6 _ g0 g1 g2 g3 g4 g5 g6 ms6 r6);have HBA:=zh bA;have HR:=zh r6;have HR6:=zh (fun (X:qw) (hX:qY W6 X)=>show MnR X W5.heap.size M g0 g1 g2 g3 g4 g5 g6 ms6 from (r6.bw bA).bw hX);have HK6:=zh (fun (X:qw) (hX:qY W6 X)=>kA.bw hX);have HB56:=zh (hb6.trans (bA.mono hb6.size));have hx6:X6.heap.size<W6.heap.size:=kA.lt;have hx5:W5.heap.size<=X6.heap.size:=hb6.size;have HW6:=zh hW6;clear r6 hb6 bA kA hW6 m0 m1 m2 m3 m4 m5 m6 m7 m8 m9 m10 m11 m12 m13 m14 HCB HW5;generalize Value.agg (qA M)=v6M;go_wp2_with (rw [<- HW6.o])
  refine (HTI.o W6 (HB5.o.trans (HB56.o.mono HB5.o.size))).mono ?_;rintro e Wi ⟨rfl,ri,hbi⟩;have HRI:=zh ri;have HBI:=zh hbi;have hxi:W6.heap.size<Wi.heap.size:=(ri Wi brf).1.lt;obtain ⟨p0,p1,p2,p3,p4,p5,p6,p7,p8,p9,p10,p11,p12,p13,p14⟩:=(HK6.o Wi hbi).mc;clear ri hbi HW6;go_wp2_with fail
  refine (HIE.o Wi.heap.size Wi _ g0 g1 g2 g3 g4 g5 g6 ms6 (HR6.o Wi HBI.o) _ (HRI.o Wi brf).2 aN).mono ?_;rintro e X7 ⟨hb7,M7,rfl,rx7⟩;obtain ⟨W7,hW7,bA7,k7⟩:=nwb X7 (qA M7) 43;have B7:=hb7.trans (bA7.mono hb7.size);have rx7':=rx7.bw bA7;have HBi7:=zh B7;have B67:=HBI.o.trans (B7.mono HBI.o.size);have HB67:=zh B67;have HB57:=zh (HB56.o.trans (B67.mono HB56.o.size));have HF7:=zh (fun (X:qw) (hX:qY W7 X)=>show Blk X X7.heap.size (qA M7) 43/\RX C Wi.heap.size M7 X from ⟨k7.bw hX,rx7'.bw hX⟩);have hg7:Wi.heap.size<=X7.heap.size:=hb7.size;have HE8:=zh (eA M7 M5 W7 (rx7'.mnd HN.o.2) ((HF5.o W7 HB57.o).2.mnd HN.o.2) (rx7'.sam (HF5.o W7 HB57.o).2));have HW7:=zh hW7;clear p0 p1 p2 p3 p4 p5 p6 p7 p8 p9 p10 p11 p12 p13 p14;obtain ⟨p0,p1,p2,p3,p4,p5,p6,p7,p8,p9,p10,p11,p12,p13,p14⟩:=k7.mc;obtain ⟨r0,r1,r2,r3,r4,r5,r6,r7,r8,r9,r10,r11,r12,r13,r14⟩:=(HF5.o W7 HB57.o).1.mc;generalize Value.agg (qK M g0 g1 g2 g3 g4 g5 g6)=v6C;clear hb7 rx7 hW7 bA7 k7 B7 B67 rx7';go_wp2_with (rw [<- HW7.o])
  as_aux_lemma=>
   refine HE8.o.mono ?_;rintro e W8 ⟨rfl,hb8⟩;have HB78:=zh hb8;have HB68:=zh (HB67.o.trans (hb8.mono HB67.o.size));clear hb8 HE8 p0 p1 p2 p3 p4 p5 p6 p7 p8 p9 p10 p11 p12 p13 p14 r0 r1 r2 r3 r4 r5 r6 r7 r8 r9 r10 r11 r12 r13 r14;generalize Value.agg (qA M7)=v8N;generalize Value.agg (qA M5)=v8M
   have HK8:=zh (fun (X:qw) (hX:qY W8 X)=>show Blk X X6.heap.size (qK M g0 g1 g2 g3 g4 g5 g6) 43/\Blk X w.heap.size (qA M) 34 from by
    have q:=HB68.o.trans (hX.mono HB68.o.size)
    exact ⟨HK6.o X q,HK.o X (HB5.o.trans ((HB56.o.trans (q.mono HB56.o.size)).mono HB5.o.size))⟩)
   have HB8:=zh (HB5.o.trans ((HB56.o.trans (HB68.o.mono HB56.o.size)).mono HB5.o.size));go_wp2_with fail
   refine wp_region_held_drew (S:=(fun X=>Blk X X6.heap.size (qK M g0 g1 g2 g3 g4 g5 g6) 43/\Blk X w.heap.size (qA M) 34)) (by kernel_rfl) ?_ (fun hHeld=>?_)
   .exact HK8.o _ brf.drew
   refine tkV 0 _ rfl (fun w hSw=>pS hSw.1 rfl) ?_;try simp only [yD,yE,yF,Act.put,yA,yB,yC]
   refine tkV 1 _ rfl (fun w hSw=>aOu hSw.2 rfl) ?_;try simp only [yD,yE,yF,Act.put,yA,yB,yC]
   refine wpAnyH_ready (rs:=[2]) (by kernel_rfl) (by simp) (AllReadyH.cons rfl (fun K hK=>?_) AllReadyH.nil);go_simp;refine (HTO.o _ HB8.o.drew).mono ?_;rintro e X9 ⟨k0,k1,k2,k3,k4,k5,k6,ms3,rfl,hr,hb⟩;have HX9:=zh ((Below.refl W8.heap.size W8).drew.trans (hb.mono (Below.refl W8.heap.size W8).drew.size))
   have HE1:=zh (show qC 11 #[.agg (qK M g0 g1 g2 g3 g4 g5 g6),.agg (qK M k0 k1 k2 k3 k4 k5 k6)] X9 (fun e w'=>e=.returned (.bool true)/\qY X9 w') from
    eA (M.cp g0 g1 g2 g3 g4 g5 g6 ms6) (M.cp k0 k1 k2 k3 k4 k5 k6 ms3) X9 ((HR6.o X9 (HB68.o.trans (HX9.o.mono HB68.o.size))).mnd HT.o HMB.o) (hr.mnd HT.o HMB.o) (aPe HT.o (HR6.o X9 (HB68.o.trans (HX9.o.mono HB68.o.size))) hr (RowM.same HT.o.m HR.o.m HR.o.n hr.m hr.n)))
   clear hb hr;try go_wp2_with fail
   refine hK.out _ _ ?_ (fun hHeld=>?_)
   .exact HK8.o _ HX9.o
   clear hK K;try simp only [yD,yE,yF,Act.put,yA,yB,yC]
   refine wpAnyH_ready (rs:=[3]) (by kernel_rfl) (by simp) (AllReadyH.cons rfl (fun K hK=>?_) AllReadyH.nil);go_simp;refine HE1.o.mono ?_;rintro e X10 ⟨rfl,hb⟩;have HX10:=zh (HX9.o.trans (hb.mono HX9.o.size));clear hb;try go_wp2_with fail
   refine hK.out _ _ ?_ (fun hHeld=>?_)
   .exact HK8.o _ HX10.o
   clear hK K;try simp only [yD,yE,yF,Act.put,yA,yB,yC]
   refine tkV 4 ?_ rfl ?_ ?_;rotate_left
   ·(intro w hSw;(try dsimp only at hSw);go_simp;try with_reducible rfl)
   try simp only [yD,yE,yF,Act.put,yA,yB,yC]
   refine wpAnyH_done (by kernel_rfl) ?_ _;have HB610:=zh (HB68.o.trans (HX10.o.mono HB68.o.size));have HB710:=zh (HB78.o.trans (HX10.o.mono HB78.o.size));have HBi10:=zh (HBi7.o.trans (HB710.o.mono HBi7.o.size));clear hHeld HE1;generalize Value.agg (qK M g0 g1 g2 g3 g4 g5 g6)=v10C;generalize Value.agg (qA M)=v10M;generalize Value.agg (qK M k0 k1 k2 k3 k4 k5 k6)=v10N;go_wp2_with fail
   refine (HTI.o X10 (HB8.o.trans (HX10.o.mono HB8.o.size))).mono ?_;rintro e X11 ⟨rfl,ri,hbi⟩;have CE:=zh (jO (qP W6.heap.size) (qP X10.heap.size) n n n n az az X11 (HRI.o X11 (HBi10.o.trans (hbi.mono HBi10.o.size))).2 (ri X11 brf).2);rw [show decide (az=az)=true by simp] at CE;have HB11:=zh hbi;clear ri hbi;go_wp2_with fail
   refine CE.o.mono ?_;rintro e Xe ⟨rfl,hbe⟩;have BE:=HB11.o.trans (hbe.mono HB11.o.size);have HXe:=zh (HX10.o.trans (BE.mono HX10.o.size));have HB6e:=zh (HB610.o.trans (BE.mono HB610.o.size));have HB7e:=zh (HB710.o.trans (BE.mono HB710.o.size));have HBie:=zh (HBi10.o.trans (BE.mono HBi10.o.size));have CX:=zh (argMark_le M W5.heap.size g0 g1 g2 g3 g4 g5 g6 ms6 w X6 Xe HR.o HT.o HMB.o (HBA.o.trans (HB6e.o.mono HBA.o.size)));obtain ⟨m0,m1,m2,m3,m4,m5,m6,m7,m8,m9,m10,m11,m12,m13,m14⟩:=(HK8.o Xe HXe.o).1.mc;clear hbe BE HK8 HX9 HX10 CE HB11 HB610 HB710 HBi10;go_wp2_with fail
   refine CX.o.mono ?_;rintro e Wm ⟨kk,rfl,tm,hkk⟩;have rm:RowI Wm W6.heap.size az:=aF tm (HRI.o Xe HBie.o).1 (fun q=>by have:=q.2;omega);have om:=rm.oi (base:=W6.heap.size) aN (by rw [hal];unfold maxLen;omega) HWZ.o;rw [hal] at om;have CI:=zh (fU (qP W6.heap.size) n n W6.heap.size az kk Wm om (by omega) hkk);have HTM:=zh tm;clear rm om tm;go_wp2_with fail
   refine CI.o.mono ?_;rintro e W12 ⟨rfl,_,ti⟩;have t12:Turn (fun j=>W5.heap.size<=j/\j<Wi.heap.size) Xe W12:=(HTM.o.mono (fun j hj=>⟨hj.1,by omega⟩)).trans (ti.mono (fun j hj=>by have e:W6.heap.size=j:=(by simpa [Value.ownBlock] using hj);omega));clear ti CI HTM;generalize Value.agg (qK M g0 g1 g2 g3 g4 g5 g6)=v12C
   have HB512:=zh (show qY W5 W12 from by
    have q:=HB56.o.trans (HB6e.o.mono HB56.o.size)
    exact aG q t12 (fun j hj=>hj.1) q.size)
   have HF12:=zh (show Blk W12 X7.heap.size (qA M7) 43/\RX C Wi.heap.size M7 W12 from by
    have q:=HF7.o Xe HB7e.o
    exact ⟨aF t12 q.1 (fun s=>by have:=s.2;omega),q.2.turn t12 (fun j hj=>by have:=hj.2;omega)⟩)
   have hk0:¬ ((kk+n:Nat):Int)<0:=by omega
   obtain ⟨p0,p1,p2,p3,p4,p5,p6,p7,p8,p9,p10,p11,p12,p13,p14⟩:=HF12.o.1.mc;obtain ⟨r0,r1,r2,r3,r4,r5,r6,r7,r8,r9,r10,r11,r12,r13,r14⟩:=(HF5.o W12 HB512.o).1.mc;have HE12:=zh (eA M7 M5 W12 (HF12.o.2.mnd HN.o.2) ((HF5.o W12 HB512.o).2.mnd HN.o.2) (HF12.o.2.sam (HF5.o W12 HB512.o).2));clear t12 m0 m1 m2 m3 m4 m5 m6 m7 m8 m9 m10 m11 m12 m13 m14 CX HB6e HB7e HBie HK6 HR6 HR HBA HB68 HB78 HB67 HB57 HF7;go_wp2_with fail
   refine HE12.o.mono ?_;rintro e W13 ⟨rfl,hb13⟩;have HF13:Zh (Blk W13 X7.heap.size (qA M7) 43/\RX C Wi.heap.size M7 W13):=⟨HF12.o.1.bw hb13,HF12.o.2.bw hb13⟩;have HB513:=zh (HB512.o.trans (hb13.mono HB512.o.size));clear hb13 HE12 p0 p1 p2 p3 p4 p5 p6 p7 p8 p9 p10 p11 p12 p13 p14 r0 r1 r2 r3 r4 r5 r6 r7 r8 r9 r10 r11 r12 r13 r14;obtain ⟨nb,ni,nL,nβ,O13,nlo⟩:=HF13.o.2;obtain ⟨cn1,cn2⟩:=O13.cnt;have ln1:=O13.len
   have ln2:M7.mn<=1048576:=by
    have h2:=congrArg List.length O13.e;rw [xH] at h2;have:=HN.o.2;omega
   have CM:=zh (qN M7 nb _ (nL.map hdP) nβ _ _ _ _ _ _ W13 O13.mno (by rw [xH];exact ln1) (by rw [cn1];exact HN.o.1) cn2 ln2);have HCN:=zh (xA cn1 (xA cn2 (xA ln2 nlo)));rw [cn1] at CM;generalize hKQ:mkn C=KQ at CM;have HKQ:=zh hKQ;clear hKQ cn1 cn2 ln1 ln2 O13 nlo;obtain ⟨p0,p1,p2,p3,p4,p5,p6,p7,p8,p9,p10,p11,p12,p13,p14⟩:=HF13.o.1.mc;generalize Value.agg (qA M7)=v13N;generalize Value.agg (qA M5)=v13M;go_wp2_with fail
   refine CM.o.mono ?_;rintro e W14 ⟨rfl,⟨L14,O14,D14⟩,t14⟩;generalize Value.agg (qA M7)=v14N;have k14:=aF t14 HF13.o.1 (fun q=>by obtain ⟨_,cs,t,kq,hq⟩:=q;exact hq (aH kq HF13.o.1));have HN14:Zh (qY W5 W14):=aG HB513.o t14 (fun j hj=>by have:=hj.1.1;have:=HCN.o.2.2.2;omega) HB513.o.size;have CH:=zh (rG M7 nb _ L14 nβ W14 O14 D14 (by rw [HCN.o.1];exact HN.o.1) HCN.o.2.1 HCN.o.2.2.1);rw [HCN.o.1,HKQ.o] at CH;clear p0 p1 p2 p3 p4 p5 p6 p7 p8 p9 p10 p11 p12 p13 p14 O14 D14 t14 CM;obtain ⟨p0,p1,p2,p3,p4,p5,p6,p7,p8,p9,p10,p11,p12,p13,p14⟩:=k14.mc;clear k14;have hKQ0:¬ ((KQ:Nat):Int)<0:=by omega
   have hKQ1:(((KQ:Nat):Int) !=((KQ:Nat):Int))=false:=by simp
   go_wp2_with fail
   refine CH.o.mono ?_;rintro e W15 ⟨rfl,hb15⟩;have HB515:=zh (HN14.o.trans (hb15.mono HN14.o.size));have HBW:=zh (HB5.o.trans (HB515.o.mono HB5.o.size));have HI15:=zh (HIE.o W15.heap.size);clear p0 p1 p2 p3 p4 p5 p6 p7 p8 p9 p10 p11 p12 p13 p14 hb15 CH HN14 HF13 HF12 HB513 HB512 HCN HKQ HW7;generalize Value.agg (qA M7)=v15N;obtain ⟨m0,m1,m2,m3,m4,m5,m6,m7,m8,m9,m10,m11,m12,m13,m14⟩:=(HK.o W15 HBW.o).mc;go_wp2_with fail
   as_aux_lemma=>
    refine (HTO.o W15 HBW.o).mono ?_;rintro e X16 ⟨h0,h1,h2,h3,h4,h5,h6,ms7,rfl,r7,hb7⟩;have HX7:=zh (xA r7 hb7);clear r7 hb7 m0 m1 m2 m3 m4 m5 m6 m7 m8 m9 m10 m11 m12 m13 m14;go_wp2_with fail
    refine (HTI.o X16 (HBW.o.trans (HX7.o.2.mono HBW.o.size))).mono ?_;rintro e Xj ⟨rfl,ri,hbi⟩;have HXj:=zh (xA (HX7.o.1.bw hbi) (xA (HX7.o.2.trans (hbi.mono HX7.o.2.size)) (ri Xj brf).2));clear ri hbi HX7;go_wp2_with fail
    refine (HI15.o Xj _ h0 h1 h2 h3 h4 h5 h6 ms7 HXj.o.1 _ HXj.o.2.2 HXj.o.2.1.size).mono ?_;rintro e X17 ⟨hb8,M9,rfl,rx9⟩;obtain ⟨W16,hW16,bA9,k9⟩:=nwb X17 (qA M9) 43;have B8:=HXj.o.2.1.trans (hb8.mono HXj.o.2.1.size);have B9:=B8.trans (bA9.mono B8.size);have rx9':=rx9.bw bA9;have HB516:=zh (HB515.o.trans (B9.mono HB515.o.size));have HE16:=zh (eA M9 M5 W16 (rx9'.mnd HN.o.2) ((HF5.o W16 HB516.o).2.mnd HN.o.2) (rx9'.sam (HF5.o W16 HB516.o).2));have HW16:=zh hW16;obtain ⟨p0,p1,p2,p3,p4,p5,p6,p7,p8,p9,p10,p11,p12,p13,p14⟩:=k9.mc;obtain ⟨r0,r1,r2,r3,r4,r5,r6,r7,r8,r9,r10,r11,r12,r13,r14⟩:=(HF5.o W16 HB516.o).1.mc;clear hb8 rx9 hW16 bA9 k9 B8 B9 rx9' HI15 HTO HIE HXj;go_wp2_with (rw [<- HW16.o])
    refine HE16.o.mono ?_;rintro e W17 ⟨rfl,hb17⟩;have HE:=zh (HB.o.trans ((HB5.o.trans ((HB516.o.trans (hb17.mono HB516.o.size)).mono HB5.o.size)).mono HB.o.size));clear p0 p1 p2 p3 p4 p5 p6 p7 p8 p9 p10 p11 p12 p13 p14 r0 r1 r2 r3 r4 r5 r6 r7 r8 r9 r10 r11 r12 r13 r14 hb17 HE16;go_wp2;go_ret;exact ⟨rfl,HE.o⟩
