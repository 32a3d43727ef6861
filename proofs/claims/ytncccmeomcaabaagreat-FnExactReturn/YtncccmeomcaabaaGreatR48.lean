import Derived.Test.YtncccmeomcaabaaGreatR46
import Derived.Test.YtncccmeomcaabaaGreatR47
set_option linter.all false
set_option maxHeartbeats 16000000
namespace Go.Proofs.YtncccmeomcaabaaGreat
open Go.RowKit Classical
set_option maxRecDepth 100000
variable {M:Mn}{g0 g1 g2 g3 g4 g5 g6:Nat}{ms':List Md}
theorem aFt (e:aE ms'=aE M.ms):jU (M.cp g0 g1 g2 g3 g4 g5 g6 ms')=jU M:=by
 have q:(MOk (M.cp g0 g1 g2 g3 g4 g5 g6 ms')/\(M.cp g0 g1 g2 g3 g4 g5 g6 ms').hz.length≠0/\(M.cp g0 g1 g2 g3 g4 g5 g6 ms').tn<1000000000)=(MOk M/\M.hz.length≠0/\M.tn<1000000000):=by
  rw [propext (aOr e)];rfl
 exact xJ.2 (retB_iff.trans ((iff_of_eq q).trans retB_iff.symm))
theorem zN (e:aE ms'=aE M.ms):iW (M.cp g0 g1 g2 g3 g4 g5 g6 ms')=iW M:=by
 have eL:(M.cp g0 g1 g2 g3 g4 g5 g6 ms').L=M.L:=by unfold Mn.L;show lkL (aE ms') M.cs M.cw M.ck M.cd=_;rw [e]
 unfold iW;rw [aFt e,aNy e,eL]
theorem aI8 {w:qw}(d:MnD w M):mkn (iW M)<=mkn M.cn/\(iW M).ps=aE M.ms:=by
 unfold iW;by_cases c:jU M=true
 .rw [if_pos c];obtain ⟨ok,h0,_⟩:=retB_iff.1 c;have hv:=ok.cv d;have hf:=ok.h.2 (M.hz.length-1) (by omega);obtain ⟨q1,q2⟩:=aKx (C:=aJf M.cn) (L:=M.L) (m:=(lFr M.cn).1) (b:=(lFr M.cn).2.1) ⟨hv.k,hv.e,hv.b,hv.r,hv.g,hv.s,hv.n,hv.t⟩ hf.1.1 (lFr M.cn).2.2.1;refine ⟨?_,q2⟩;have e:mkn (nR M.cn M.L)=mkn (aHa M.cn M.L):=by unfold nR mkn;dsimp only;rw [List.length_set]
  rw [e];unfold aHa;rw [q1];unfold mkn aJf;dsimp only;rw [List.length_take];omega
 .rw [if_neg c];exact ⟨aN,rfl⟩
theorem aI7 {F:Nat}(HF:∀ (M:Mn) (g b1 o1 b2 o2 b3 o3 b4 o4:Nat) (Ls:List (PMod×Mb)) (w:qw),MnD w M->MnS w M g b1 o1 b2 o2 b3 o3 b4 o4 Ls->qC F #[.agg (qA M)] w (MQ w (.bool (jU M)) (iW M))){w0:qw}(t0:MnT w0 M)(b0:MnB M)(lo:Nat)(X:qw)(bs g0 g1 g2 g3 g4 g5 g6:Nat)(ms':List Md)(r:MnR X bs M g0 g1 g2 g3 g4 g5 g6 ms')(hl:lo<=X.heap.size):qC F #[.agg (qK M g0 g1 g2 g3 g4 g5 g6)] X (fun e w'=>qY X w'/\∃ N:Mn,e=.returned (.tuple #[.agg (qA N),.bool (jU M)])/\RX (iW M) lo N w'):=by
 have e:=aB0 r.m r.n t0.m.1;refine (HF (M.cp g0 g1 g2 g3 g4 g5 g6 ms') g0 g1 0 g2 0 g3 0 g4 0 (ms'.map Md.mb) X (r.mnd t0 b0) (r.mns t0 b0)).mono ?_;rintro e' w' ⟨hb,N,base,mid,L,β,rfl,hm,hq⟩;rw [aFt e];rw [zN e] at hm;exact ⟨hb,N,rfl,base,mid,L,β,hm,xM hl hq⟩
theorem oN (M:Mn)(w:qw)(h:MnT w M):qC 3 #[.agg (qA M)] w (qB w (.bool true)):=by
 obtain ⟨U,hU,bU,kM⟩:=nwb w (qA M) 34;have HSZ:=zh (uT M U (h.bw bU));have HT:=zh h;have HU:=zh hU;have HB:=zh bU;have HK:=zh (fun (X:qw) (hX:qY U X)=>kM.bw hX);obtain ⟨m0,m1,m2,m3,m4,m5,m6,m7,m8,m9,m10,m11,m12,m13,m14⟩:=kM.mc;clear hU bU kM h;go_enter Tryz.func3,Tryz.ntmps3
 go_wp2_with (rw [<- HU.o])
 refine HSZ.o.mono ?_;rintro e X1 ⟨z,rfl,hz,hb⟩;have HBW:=zh hb;clear hb HSZ HU m0 m1 m2 m3 m4 m5 m6 m7 m8 m9 m10 m11 m12 m13 m14;generalize Value.agg (qA M)=vM0;by_cases cz:z<0
 .clear hz;go_wp2;go_ret;exact ⟨rfl,HB.o.trans (HBW.o.mono HB.o.size)⟩
 have HMB:=zh (hz (by omega));clear hz;have HTO:=zh (fun (X:qw) (hX:qY U X)=>(uM M X ((HT.o.bw HB.o).bw hX) HMB.o).mono (fun e w' he=>show ∃ g0 g1 g2 g3 g4 g5 g6 ms',e=.returned (.agg (qK M g0 g1 g2 g3 g4 g5 g6))/\MnR w' X.heap.size M g0 g1 g2 g3 g4 g5 g6 ms'/\qY X w' from he));obtain ⟨B,hB⟩:=eqx (jU M);obtain ⟨C,hC⟩:=eqx (iW M);have HSE:=zh (fun (lo:Nat) (X:qw) (bs g0 g1 g2 g3 g4 g5 g6:Nat) (ms':List Md) (r:MnR X bs M g0 g1 g2 g3 g4 g5 g6 ms') (hl:lo<=X.heap.size)=>aI7 aBx HT.o HMB.o lo X bs g0 g1 g2 g3 g4 g5 g6 ms' r hl);have HIE:=zh (fun (lo:Nat) (X:qw) (bs g0 g1 g2 g3 g4 g5 g6:Nat) (ms':List Md) (r:MnR X bs M g0 g1 g2 g3 g4 g5 g6 ms') (hl:lo<=X.heap.size)=>aI7 aCu HT.o HMB.o lo X bs g0 g1 g2 g3 g4 g5 g6 ms' r hl);rw [<- hB,<- hC] at HSE HIE
 have HCB:=zh (fun (X:qw) (bs g0 g1 g2 g3 g4 g5 g6:Nat) (ms':List Md) (r:MnR X bs M g0 g1 g2 g3 g4 g5 g6 ms')=>show mkn C<=4194305/\C.ps.length<=1048576 from by
  have e:=aB0 r.m r.n HT.o.m.1;obtain ⟨q1,q2⟩:=aI8 (r.mnd HT.o HMB.o);rw [zN e,aNy e] at q1;rw [zN e] at q2;rw [hC];refine ⟨xM q1 (aOu HT.o HMB.o),?_⟩;rw [q2,show aE (M.cp g0 g1 g2 g3 g4 g5 g6 ms').ms=aE M.ms from e,bQ,HT.o.m.1]
  exact HMB.o.n)
 clear hB hC;have hBB:(B !=B)=false:=by cases B<;>rfl
 obtain ⟨m0,m1,m2,m3,m4,m5,m6,m7,m8,m9,m10,m11,m12,m13,m14⟩:=(HK.o X1 HBW.o).mc;go_wp2_with fail
 refine (HTO.o X1 HBW.o).mono ?_;rintro e X2 ⟨g0,g1,g2,g3,g4,g5,g6,ms2,rfl,r2,hb2⟩;have HX2:=zh (xA r2 hb2);clear r2 hb2 m0 m1 m2 m3 m4 m5 m6 m7 m8 m9 m10 m11 m12 m13 m14;go_wp2_with fail
 refine (HSE.o X1.heap.size X2 _ g0 g1 g2 g3 g4 g5 g6 ms2 HX2.o.1 HX2.o.2.size).mono ?_;rintro e X3 ⟨hb3,M5,rfl,rx5⟩;obtain ⟨W5,hW5,bA5,k5⟩:=nwb X3 (qA M5) 43;have B3:=HX2.o.2.trans (hb3.mono HX2.o.2.size);have B5:=B3.trans (bA5.mono B3.size);have HB5:=zh (HBW.o.trans (B5.mono HBW.o.size));have HF5:=zh (fun (X:qw) (hX:qY W5 X)=>show Blk X X3.heap.size (qA M5) 43/\RX C X1.heap.size M5 X from ⟨k5.bw hX,(rx5.bw bA5).bw hX⟩);have hgb:X3.heap.size<W5.heap.size:=k5.lt;have HW5:=zh hW5;obtain ⟨m0,m1,m2,m3,m4,m5,m6,m7,m8,m9,m10,m11,m12,m13,m14⟩:=(HK.o W5 HB5.o).mc;generalize Value.agg (qA M)=vM1;generalize Value.agg (qK M g0 g1 g2 g3 g4 g5 g6)=vK1;clear hb3 rx5 hW5 bA5 k5 B3 B5 HX2 HSE HBW;go_wp2_with (rw [<- HW5.o])
 as_aux_lemma=>
  refine (HTO.o W5 HB5.o).mono ?_;rintro e X6 ⟨g0,g1,g2,g3,g4,g5,g6,ms6,rfl,r6,hb6⟩;obtain ⟨W6,hW6,bA,kA⟩:=nwb X6 (qK M g0 g1 g2 g3 g4 g5 g6) 43;have HN:=zh (HCB.o X6 _ g0 g1 g2 g3 g4 g5 g6 ms6 r6);have HBA:=zh bA;have HR:=zh r6;have HR6:=zh (fun (X:qw) (hX:qY W6 X)=>show MnR X W5.heap.size M g0 g1 g2 g3 g4 g5 g6 ms6 from (r6.bw bA).bw hX);have HK6:=zh (fun (X:qw) (hX:qY W6 X)=>kA.bw hX);have HB56:=zh (hb6.trans (bA.mono hb6.size));have hx6:X6.heap.size<W6.heap.size:=kA.lt;have hx5:W5.heap.size<=X6.heap.size:=hb6.size;have HW6:=zh hW6;clear r6 hb6 bA kA hW6 m0 m1 m2 m3 m4 m5 m6 m7 m8 m9 m10 m11 m12 m13 m14 HCB HW5;obtain ⟨p0,p1,p2,p3,p4,p5,p6,p7,p8,p9,p10,p11,p12,p13,p14⟩:=(HK6.o W6 brf).mc;generalize Value.agg (qA M)=v6M;go_wp2_with (rw [<- HW6.o])
  refine (HIE.o W6.heap.size W6 _ g0 g1 g2 g3 g4 g5 g6 ms6 (HR6.o W6 brf) aN).mono ?_;rintro e X7 ⟨hb7,M7,rfl,rx7⟩;obtain ⟨W7,hW7,bA7,k7⟩:=nwb X7 (qA M7) 43;have B7:=hb7.trans (bA7.mono hb7.size);have rx7':=rx7.bw bA7;have HB67:=zh B7;have HB57:=zh (HB56.o.trans (B7.mono HB56.o.size));have HF7:=zh (fun (X:qw) (hX:qY W7 X)=>show Blk X X7.heap.size (qA M7) 43/\RX C W6.heap.size M7 X from ⟨k7.bw hX,rx7'.bw hX⟩);have hg7:W6.heap.size<=X7.heap.size:=hb7.size;have HE8:=zh (dV M7 M5 W7 (rx7'.mnd HN.o.2) ((HF5.o W7 HB57.o).2.mnd HN.o.2) (rx7'.sam (HF5.o W7 HB57.o).2));have HW7:=zh hW7;clear p0 p1 p2 p3 p4 p5 p6 p7 p8 p9 p10 p11 p12 p13 p14;obtain ⟨p0,p1,p2,p3,p4,p5,p6,p7,p8,p9,p10,p11,p12,p13,p14⟩:=k7.mc;obtain ⟨r0,r1,r2,r3,r4,r5,r6,r7,r8,r9,r10,r11,r12,r13,r14⟩:=(HF5.o W7 HB57.o).1.mc;generalize Value.agg (qK M g0 g1 g2 g3 g4 g5 g6)=v6C;clear hb7 rx7 hW7 bA7 k7 B7 rx7' HW6;go_wp2_with (rw [<- HW7.o])
  as_aux_lemma=>
   refine HE8.o.mono ?_;rintro e W8 ⟨rfl,hb8⟩;have HB78:=zh hb8;have HB68:=zh (HB67.o.trans (hb8.mono HB67.o.size));clear hb8 HE8 p0 p1 p2 p3 p4 p5 p6 p7 p8 p9 p10 p11 p12 p13 p14 r0 r1 r2 r3 r4 r5 r6 r7 r8 r9 r10 r11 r12 r13 r14;generalize Value.agg (qA M7)=v8N;generalize Value.agg (qA M5)=v8M
   have HK8:=zh (fun (X:qw) (hX:qY W8 X)=>show Blk X X6.heap.size (qK M g0 g1 g2 g3 g4 g5 g6) 43/\Blk X w.heap.size (qA M) 34 from by
    have q:=HB68.o.trans (hX.mono HB68.o.size)
    exact ⟨HK6.o X q,HK.o X (HB5.o.trans ((HB56.o.trans (q.mono HB56.o.size)).mono HB5.o.size))⟩)
   have HB8:=zh (HB5.o.trans ((HB56.o.trans (HB68.o.mono HB56.o.size)).mono HB5.o.size));go_wp2_with fail
   refine wp_region_held_drew (S:=(fun X=>Blk X X6.heap.size (qK M g0 g1 g2 g3 g4 g5 g6) 43/\Blk X w.heap.size (qA M) 34)) (by kernel_rfl) ?_ (fun hHeld=>?_)
   .exact HK8.o _ brf.drew
   refine tkV 0 _ rfl (fun w hSw=>sZ hSw.1 rfl) ?_;try simp only [yD,yE,yF,Act.put,yA,yB,yC]
   refine tkV 1 _ rfl (fun w hSw=>aPo hSw.2 rfl) ?_;try simp only [yD,yE,yF,Act.put,yA,yB,yC]
   refine wpAnyH_ready (rs:=[2]) (by kernel_rfl) (by simp) (AllReadyH.cons rfl (fun K hK=>?_) AllReadyH.nil);go_simp;refine (HTO.o _ HB8.o.drew).mono ?_;rintro e X9 ⟨k0,k1,k2,k3,k4,k5,k6,ms3,rfl,hr,hb⟩;have HX9:=zh ((Below.refl W8.heap.size W8).drew.trans (hb.mono (Below.refl W8.heap.size W8).drew.size))
   have HE1:=zh (show qC 11 #[.agg (qK M g0 g1 g2 g3 g4 g5 g6),.agg (qK M k0 k1 k2 k3 k4 k5 k6)] X9 (fun e w'=>e=.returned (.bool true)/\qY X9 w') from
    dV (M.cp g0 g1 g2 g3 g4 g5 g6 ms6) (M.cp k0 k1 k2 k3 k4 k5 k6 ms3) X9 ((HR6.o X9 (HB68.o.trans (HX9.o.mono HB68.o.size))).mnd HT.o HMB.o) (hr.mnd HT.o HMB.o) (aOd HT.o (HR6.o X9 (HB68.o.trans (HX9.o.mono HB68.o.size))) hr (RowM.same HT.o.m HR.o.m HR.o.n hr.m hr.n)))
   clear hb hr;try go_wp2_with fail
   refine hK.out _ _ ?_ (fun hHeld=>?_)
   .exact HK8.o _ HX9.o
   clear hK K;try simp only [yD,yE,yF,Act.put,yA,yB,yC]
   refine wpAnyH_ready (rs:=[3]) (by kernel_rfl) (by simp) (AllReadyH.cons rfl (fun K hK=>?_) AllReadyH.nil);go_simp;refine HE1.o.mono ?_;rintro e X10 ⟨rfl,hb⟩;have HX10:=zh (HX9.o.trans (hb.mono HX9.o.size));clear hb;try go_wp2_with fail
   refine hK.out _ _ ?_ (fun hHeld=>?_)
   .exact HK8.o _ HX10.o
   clear hK K;try simp only [yD,yE,yF,Act.put,yA,yB,yC]
   refine tkV 4 ?_ rfl ?_ ?_;rotate_left
   ·(intro w hSw;(try dsimp only at hSw);go_simp;try with_reducible rfl)
   try simp only [yD,yE,yF,Act.put,yA,yB,yC]
   refine wpAnyH_done (by kernel_rfl) ?_ _;have HB610:=zh (HB68.o.trans (HX10.o.mono HB68.o.size));have HB710:=zh (HB78.o.trans (HX10.o.mono HB78.o.size));have CX:=zh (aDf M W5.heap.size g0 g1 g2 g3 g4 g5 g6 ms6 w X6 X10 HR.o HT.o HMB.o (HBA.o.trans (HB610.o.mono HBA.o.size)));obtain ⟨m0,m1,m2,m3,m4,m5,m6,m7,m8,m9,m10,m11,m12,m13,m14⟩:=(HK8.o X10 HX10.o).1.mc;clear hHeld HK8 HE1 HX9 HX10;generalize Value.agg (qK M g0 g1 g2 g3 g4 g5 g6)=v10C;generalize Value.agg (qA M)=v10M;generalize Value.agg (qK M k0 k1 k2 k3 k4 k5 k6)=v10N;go_wp2_with fail
   refine CX.o.mono ?_;rintro e W12 ⟨kk,rfl,t12⟩;generalize Value.agg (qK M g0 g1 g2 g3 g4 g5 g6)=v12C
   have HB512:=zh (show qY W5 W12 from by
    have q:=HB56.o.trans (HB610.o.mono HB56.o.size)
    exact aG q t12 (fun j hj=>hj.1) q.size)
   have HF12:=zh (show Blk W12 X7.heap.size (qA M7) 43/\RX C W6.heap.size M7 W12 from by
    have q:=HF7.o X10 HB710.o
    exact ⟨aF t12 q.1 (fun s=>by have:=s.2;omega),q.2.turn t12 (fun j hj=>by have:=hj.2;omega)⟩)
   have hk0:¬ ((kk:Nat):Int)<0:=by omega
   obtain ⟨p0,p1,p2,p3,p4,p5,p6,p7,p8,p9,p10,p11,p12,p13,p14⟩:=HF12.o.1.mc;obtain ⟨r0,r1,r2,r3,r4,r5,r6,r7,r8,r9,r10,r11,r12,r13,r14⟩:=(HF5.o W12 HB512.o).1.mc;have HE12:=zh (dV M7 M5 W12 (HF12.o.2.mnd HN.o.2) ((HF5.o W12 HB512.o).2.mnd HN.o.2) (HF12.o.2.sam (HF5.o W12 HB512.o).2));clear t12 m0 m1 m2 m3 m4 m5 m6 m7 m8 m9 m10 m11 m12 m13 m14 CX HB610 HB710 HK6 HR6 HR HBA HB68 HB78 HB67 HB57 HF7;go_wp2_with fail
   refine HE12.o.mono ?_;rintro e W13 ⟨rfl,hb13⟩;have HF13:Zh (Blk W13 X7.heap.size (qA M7) 43/\RX C W6.heap.size M7 W13):=⟨HF12.o.1.bw hb13,HF12.o.2.bw hb13⟩;have HB513:=zh (HB512.o.trans (hb13.mono HB512.o.size));clear hb13 HE12 p0 p1 p2 p3 p4 p5 p6 p7 p8 p9 p10 p11 p12 p13 p14 r0 r1 r2 r3 r4 r5 r6 r7 r8 r9 r10 r11 r12 r13 r14;obtain ⟨nb,ni,nL,nβ,O13,nlo⟩:=HF13.o.2;obtain ⟨cn1,cn2⟩:=O13.cnt;have ln1:=O13.len
   have ln2:M7.mn<=1048576:=by
    have h2:=congrArg List.length O13.e;rw [xH] at h2;have:=HN.o.2;omega
   have CM:=zh (pN M7 nb _ (nL.map hdP) nβ _ _ _ _ _ _ W13 O13.mno (by rw [xH];exact ln1) (by rw [cn1];exact HN.o.1) cn2 ln2);have HCN:=zh (xA cn1 (xA cn2 (xA ln2 nlo)));rw [cn1] at CM;generalize hKQ:mkn C=KQ at CM;have HKQ:=zh hKQ;clear hKQ cn1 cn2 ln1 ln2 O13 nlo;obtain ⟨p0,p1,p2,p3,p4,p5,p6,p7,p8,p9,p10,p11,p12,p13,p14⟩:=HF13.o.1.mc;generalize Value.agg (qA M7)=v13N;generalize Value.agg (qA M5)=v13M;go_wp2_with fail
   refine CM.o.mono ?_;rintro e W14 ⟨rfl,⟨L14,O14,D14⟩,t14⟩;generalize Value.agg (qA M7)=v14N;have k14:=aF t14 HF13.o.1 (fun q=>by obtain ⟨_,cs,t,kq,hq⟩:=q;exact hq (aI kq HF13.o.1));have HN14:Zh (qY W5 W14):=aG HB513.o t14 (fun j hj=>by have:=hj.1.1;have:=HCN.o.2.2.2;omega) HB513.o.size;have CH:=zh (pU M7 nb _ L14 nβ W14 O14 D14 (by rw [HCN.o.1];exact HN.o.1) HCN.o.2.1 HCN.o.2.2.1);rw [HCN.o.1,HKQ.o] at CH;clear p0 p1 p2 p3 p4 p5 p6 p7 p8 p9 p10 p11 p12 p13 p14 O14 D14 t14 CM;obtain ⟨p0,p1,p2,p3,p4,p5,p6,p7,p8,p9,p10,p11,p12,p13,p14⟩:=k14.mc;clear k14;have hKQ0:¬ ((KQ:Nat):Int)<0:=by omega
   have hKQ1:(((KQ:Nat):Int) !=((KQ:Nat):Int))=false:=by simp
   go_wp2_with fail
   refine CH.o.mono ?_;rintro e W15 ⟨rfl,hb15⟩;have HB515:=zh (HN14.o.trans (hb15.mono HN14.o.size));have HBW:=zh (HB5.o.trans (HB515.o.mono HB5.o.size));have HI15:=zh (HIE.o W15.heap.size);clear p0 p1 p2 p3 p4 p5 p6 p7 p8 p9 p10 p11 p12 p13 p14 hb15 CH HN14 HF13 HF12 HB513 HB512 HCN HKQ HW7;generalize Value.agg (qA M7)=v15N;obtain ⟨m0,m1,m2,m3,m4,m5,m6,m7,m8,m9,m10,m11,m12,m13,m14⟩:=(HK.o W15 HBW.o).mc;go_wp2_with fail
   as_aux_lemma=>
    refine (HTO.o W15 HBW.o).mono ?_;rintro e X16 ⟨h0,h1,h2,h3,h4,h5,h6,ms7,rfl,r7,hb7⟩;have HX7:=zh (xA r7 hb7);clear r7 hb7 m0 m1 m2 m3 m4 m5 m6 m7 m8 m9 m10 m11 m12 m13 m14;go_wp2_with fail
    refine (HI15.o X16 _ h0 h1 h2 h3 h4 h5 h6 ms7 HX7.o.1 HX7.o.2.size).mono ?_;rintro e X17 ⟨hb8,M9,rfl,rx9⟩;obtain ⟨W16,hW16,bA9,k9⟩:=nwb X17 (qA M9) 43;have B8:=HX7.o.2.trans (hb8.mono HX7.o.2.size);have B9:=B8.trans (bA9.mono B8.size);have rx9':=rx9.bw bA9;have HB516:=zh (HB515.o.trans (B9.mono HB515.o.size));have HE16:=zh (dV M9 M5 W16 (rx9'.mnd HN.o.2) ((HF5.o W16 HB516.o).2.mnd HN.o.2) (rx9'.sam (HF5.o W16 HB516.o).2));have HW16:=zh hW16;obtain ⟨p0,p1,p2,p3,p4,p5,p6,p7,p8,p9,p10,p11,p12,p13,p14⟩:=k9.mc;obtain ⟨r0,r1,r2,r3,r4,r5,r6,r7,r8,r9,r10,r11,r12,r13,r14⟩:=(HF5.o W16 HB516.o).1.mc;clear hb8 rx9 hW16 bA9 k9 B8 B9 rx9' HI15 HTO HIE HX7;go_wp2_with (rw [<- HW16.o])
    refine HE16.o.mono ?_;rintro e W17 ⟨rfl,hb17⟩;have HE:=zh (HB.o.trans ((HB5.o.trans ((HB516.o.trans (hb17.mono HB516.o.size)).mono HB5.o.size)).mono HB.o.size));clear p0 p1 p2 p3 p4 p5 p6 p7 p8 p9 p10 p11 p12 p13 p14 r0 r1 r2 r3 r4 r5 r6 r7 r8 r9 r10 r11 r12 r13 r14 hb17 HE16;go_wp2;go_ret;exact ⟨rfl,HE.o⟩
end Go.Proofs.YtncccmeomcaabaaGreat
namespace Go.Proofs.YtncccmeomcaabaaGreat
open Go.ChangeShapes Go.WideShapes Go.ChangeAt Go.RowKit Classical
variable {base fuel:Nat}{cs:List Value}{held:Bool}
set_option maxRecDepth 100000 in
theorem aLe {H:Type}{enc:TypeId×Value->H}{w:qw}{base:Nat}{held:Bool}{spare:Nat->Bool}{fuel:Nat}{cs:List Value}{x:DataW H×List MemPlace}
 (h:DataW.trod enc Tryz.prog w base spare held fuel 144 cs=some x):∃ g:SlT,cs=bR g:=by
 obtain ⟨xs,n,_,_,hl,hlen,hf⟩:=DataW.trod_struct Tryz.underlying144 h;have e6:Tryz.prog.cellsOf 144=4:=by kernel_rfl
 rw [e6] at hl
 match xs,hlen,cs,hl with
 | [y0,y1,y2,y3],_,[c0,c1,c2,c3],_=>
 have k0:=hf 0 _ rfl;have k1:=hf 1 _ rfl;have k2:=hf 2 _ rfl;have k3:=hf 3 _ rfl;have e3:Tryz.prog.cellsOf 3=1:=by kernel_rfl
 have e4:Tryz.prog.cellsOf 4=1:=by kernel_rfl
 simp [e3,e4] at k0 k1 k2 k3;obtain ⟨a0,h0,_⟩:=DataW.trod_bool Tryz.underlying4 k0;obtain ⟨a1,h1,_,wb⟩:=DataW.trod_int Tryz.underlying3 k1;obtain ⟨a2,h2,_,wc⟩:=DataW.trod_int Tryz.underlying3 k2;obtain ⟨a3,h3,_,wd⟩:=DataW.trod_int Tryz.underlying3 k3;simp at h0 h1 h2 h3;subst h0 h1 h2 h3;exact ⟨(a0,a1,a2,a3),rfl⟩
set_option maxRecDepth 100000 in
theorem aFf {H:Type}{enc:TypeId×Value->H}{w:qw}{x:DataW H×List MemPlace}
 (h:DataW.trod enc Tryz.prog w base (fun _=>true) held fuel 31 cs=some x):∃ a n cap zs,cs=[qS a n cap]/\QS bR zSl w a n cap zs:=by
 have e1:Tryz.prog.cellsOf 144=4:=by kernel_rfl
 rcases Deep.open_slice Tryz.underlying31 h with ⟨hcs,_⟩|⟨a,len,cap,m,n,D,Pl,hcs,hb,hl,hm,hmm,hx,hd⟩
 .exact ⟨none,0,0,[],hcs,rfl,xC _,fun h=>absurd rfl h,aN⟩
 .simp at hmm;rw [hmm] at hd;rw [e1] at hd
  obtain ⟨G,hG⟩:=Deep.choose_lt (α:=SlT) (p:=fun i g=>∃ cs',w.cells? base (a.add (i*4)) 4=some cs'/\cs'=bR g) (n:=len) (fun i hi=>by
   obtain ⟨cs',h1,h2⟩:=hd i (by omega);obtain ⟨s,e⟩:=aLe h2
   exact ⟨s,cs',h1,e⟩)
  have hgi:∀ i,i<len->((List.range len).map G).getD i zSl=G i:=fun i hi=>by simp [xB,hi]
  refine ⟨some a,len,cap,(List.range len).map G,hcs,by simp,by omega,?_,hl⟩;intro hn;obtain ⟨b,off,spot⟩:=a
  have hspot:spot=none:=by
   obtain ⟨cs',h1,h2⟩:=hG 0 (by omega);have:=(World.cells?_some h1).2.2 0 (by omega);rw [h2] at this;simpa [Addr.add,bR] using World.cell?_spot this
  subst hspot;refine ⟨b,off,rfl,fun i hi j v hv=>?_⟩;obtain ⟨cs',h1,h2⟩:=hG i hi;have hc:=(World.cells?_some h1).2.2;rw [h2] at hc;rw [hgi i hi] at hv;simp only [aFe] at hc
  have hj:j<4:=by
   rcases Nat.lt_or_ge j 4 with h|h
   .exact h
   .rw [xO (by rw [bM];exact h)] at hv;cases hv
  rw [hc j (by omega),<- hv]
set_option maxRecDepth 100000 in
theorem aLh {H:Type}{enc:TypeId×Value->H}{w:qw}{base:Nat}{held:Bool}{spare:Nat->Bool}{fuel:Nat}{cs:List Value}{x:DataW H×List MemPlace}
 (h:DataW.trod enc Tryz.prog w base spare held fuel 146 cs=some x):∃ g:FrT,cs=cO g:=by
 obtain ⟨xs,n,_,_,hl,hlen,hf⟩:=DataW.trod_struct Tryz.underlying146 h;have e6:Tryz.prog.cellsOf 146=4:=by kernel_rfl
 rw [e6] at hl
 match xs,hlen,cs,hl with
 | [y0,y1,y2,y3],_,[c0,c1,c2,c3],_=>
 have k0:=hf 0 _ rfl;have k1:=hf 1 _ rfl;have k2:=hf 2 _ rfl;have k3:=hf 3 _ rfl;have e3:Tryz.prog.cellsOf 3=1:=by kernel_rfl
 have e4:Tryz.prog.cellsOf 4=1:=by kernel_rfl
 simp [e3,e4] at k0 k1 k2 k3;obtain ⟨a0,h0,_,wa⟩:=DataW.trod_int Tryz.underlying3 k0;obtain ⟨a1,h1,_,wb⟩:=DataW.trod_int Tryz.underlying3 k1;obtain ⟨a2,h2,_,wc⟩:=DataW.trod_int Tryz.underlying3 k2;obtain ⟨a3,h3,_,wd⟩:=DataW.trod_int Tryz.underlying3 k3;simp at h0 h1 h2 h3;subst h0 h1 h2 h3;exact ⟨(a0,a1,a2,a3),rfl⟩
set_option maxRecDepth 100000 in
theorem aFh {H:Type}{enc:TypeId×Value->H}{w:qw}{x:DataW H×List MemPlace}
 (h:DataW.trod enc Tryz.prog w base (fun _=>true) held fuel 32 cs=some x):∃ a n cap zs,cs=[qS a n cap]/\QS cO zFr w a n cap zs:=by
 have e1:Tryz.prog.cellsOf 146=4:=by kernel_rfl
 rcases Deep.open_slice Tryz.underlying32 h with ⟨hcs,_⟩|⟨a,len,cap,m,n,D,Pl,hcs,hb,hl,hm,hmm,hx,hd⟩
 .exact ⟨none,0,0,[],hcs,rfl,xC _,fun h=>absurd rfl h,aN⟩
 .simp at hmm;rw [hmm] at hd;rw [e1] at hd
  obtain ⟨G,hG⟩:=Deep.choose_lt (α:=FrT) (p:=fun i g=>∃ cs',w.cells? base (a.add (i*4)) 4=some cs'/\cs'=cO g) (n:=len) (fun i hi=>by
   obtain ⟨cs',h1,h2⟩:=hd i (by omega);obtain ⟨s,e⟩:=aLh h2
   exact ⟨s,cs',h1,e⟩)
  have hgi:∀ i,i<len->((List.range len).map G).getD i zFr=G i:=fun i hi=>by simp [xB,hi]
  refine ⟨some a,len,cap,(List.range len).map G,hcs,by simp,by omega,?_,hl⟩;intro hn;obtain ⟨b,off,spot⟩:=a
  have hspot:spot=none:=by
   obtain ⟨cs',h1,h2⟩:=hG 0 (by omega);have:=(World.cells?_some h1).2.2 0 (by omega);rw [h2] at this;simpa [Addr.add,cO] using World.cell?_spot this
  subst hspot;refine ⟨b,off,rfl,fun i hi j v hv=>?_⟩;obtain ⟨cs',h1,h2⟩:=hG i hi;have hc:=(World.cells?_some h1).2.2;rw [h2] at hc;rw [hgi i hi] at hv;simp only [aFe] at hc
  have hj:j<4:=by
   rcases Nat.lt_or_ge j 4 with h|h
   .exact h
   .rw [xO (by rw [cQ];exact h)] at hv;cases hv
  rw [hc j (by omega),<- hv]
theorem aNa {α:Type}{cs:Array α}(h:cs.size=15):∃ c0 c1 c2 c3 c4 c5 c6 c7 c8 c9 c10 c11 c12 c13 c14,cs=#[c0,c1,c2,c3,c4,c5,c6,c7,c8,c9,c10,c11,c12,c13,c14]:=by
 obtain ⟨l⟩:=cs
 match l,h with
 | [c0,c1,c2,c3,c4,c5,c6,c7,c8,c9,c10,c11,c12,c13,c14],_=>exact ⟨c0,c1,c2,c3,c4,c5,c6,c7,c8,c9,c10,c11,c12,c13,c14,rfl⟩
theorem aA6 {H:Type}{enc:TypeId×Value->H}{w:qw}{base:Nat}{held:Bool}{spare:Nat->Bool}{fuel:Nat}{c0 c1 c2 c3:Value}{x:DataW H×List MemPlace}
 (h:DataW.trod enc Tryz.prog w base spare held fuel 24 [c0,c1,c2,c3]=some x):∃ a0 a1 a2 a3,c0=qI a0/\c1=qI a1/\c2=qI a2/\c3=qI a3:=by
 obtain ⟨xs,n,_,_,hl,hlen,hf⟩:=DataW.trod_struct Tryz.underlying24 h
 match xs,hlen with
 | [y0,y1,y2,y3],_=>
 have k0:=hf 0 _ rfl;have k1:=hf 1 _ rfl;have k2:=hf 2 _ rfl;have k3:=hf 3 _ rfl;have e3:Tryz.prog.cellsOf 3=1:=by kernel_rfl
 simp [e3] at k0 k1 k2 k3;obtain ⟨a0,h0,_,_⟩:=DataW.trod_int Tryz.underlying3 k0;obtain ⟨a1,h1,_,_⟩:=DataW.trod_int Tryz.underlying3 k1;obtain ⟨a2,h2,_,_⟩:=DataW.trod_int Tryz.underlying3 k2;obtain ⟨a3,h3,_,_⟩:=DataW.trod_int Tryz.underlying3 k3;simp at h0 h1 h2 h3;exact ⟨a0,a1,a2,a3,h0,h1,h2,h3⟩
theorem aE2 {H:Type}{enc:TypeId×Value->H}{w:qw}{base:Nat}{held:Bool}{fuel:Nat}{c0 c1:Value}{x:DataW H×List MemPlace}
 (h:DataW.trod enc Tryz.prog w base (fun _=>true) held fuel 27 [c0,c1]=some x):∃ pc a n c zs,c0=qI pc/\c1=qS a n c/\IS w a n c zs:=by
 obtain ⟨xs,n,_,_,hl,hlen,hf⟩:=DataW.trod_struct Tryz.underlying27 h
 match xs,hlen with
 | [y0,y1],_=>
 have k0:=hf 0 _ rfl;have k1:=hf 1 _ rfl;have e3:Tryz.prog.cellsOf 3=1:=by kernel_rfl
 have e4:Tryz.prog.cellsOf 25=1:=by kernel_rfl
 simp [e3,e4] at k0 k1;obtain ⟨a0,h0,_,_⟩:=DataW.trod_int Tryz.underlying3 k0;obtain ⟨a1,n1,d1,x1,h1,b1⟩:=aEn k1;simp at h0 h1;exact ⟨a0,a1,n1,d1,x1,h0,h1,b1⟩
theorem aHr {H:Type}{enc:TypeId×Value->H}{w:qw}{base:Nat}{held:Bool}{fuel:Nat}{c0 c1 c2:Value}{x:DataW H×List MemPlace}
 (h:DataW.trod enc Tryz.prog w base (fun _=>true) held fuel 30 [c0,c1,c2]=some x):∃ a1 n1 d1 x1 a2 n2 d2 x2 a3 n3 d3 x3,c0=qS a1 n1 d1/\c1=qS a2 n2 d2/\c2=qS a3 n3 d3/\BS w a1 n1 d1 x1/\BS w a2 n2 d2 x2/\BS w a3 n3 d3 x3:=by
 obtain ⟨xs,n,_,_,hl,hlen,hf⟩:=DataW.trod_struct Tryz.underlying30 h
 match xs,hlen with
 | [y0,y1,y2],_=>
 have k0:=hf 0 _ rfl;have k1:=hf 1 _ rfl;have k2:=hf 2 _ rfl;have e3:Tryz.prog.cellsOf 28=1:=by kernel_rfl
 simp [e3] at k0 k1 k2;obtain ⟨a1,n1,d1,x1,e1,b1⟩:=jH k0;obtain ⟨a2,n2,d2,x2,e2,b2⟩:=jH k1;obtain ⟨a3,n3,d3,x3,e3,b3⟩:=jH k2;simp at e1 e2 e3;exact ⟨a1,n1,d1,x1,a2,n2,d2,x2,a3,n3,d3,x3,e1,e2,e3,b1,b2,b3⟩
set_option maxRecDepth 100000 in
theorem aAc {H:Type}{enc:TypeId×Value->H}{w:qw}{base b0:Nat}{held:Bool}{r:Reach}{v:Value}{d:DataW H}{p:List MemPlace}
 (hv:Value.okWide Tryz.prog w r b0 34 v) (h:DataW.Trod enc Tryz.prog w base (fun _=>true) held 34 v d p):
 ∃ M:Mn,v=.agg (qA M)/\MnT w M:=by
 obtain ⟨cs,rfl,hsz⟩:=okWide_struct Tryz.underlying34 hv;obtain ⟨c0,c1,c2,c3,c4,c5,c6,c7,c8,c9,c10,c11,c12,c13,c14,rfl⟩:=aNa (hsz.trans (by kernel_rfl));obtain ⟨fuel,hf⟩:=h;obtain ⟨xs,n,_,_,hl,hlen,hf⟩:=DataW.trod_struct Tryz.underlying34 hf
 match xs,hlen with
 | [y0,y1,y2,y3,y4,y5,y6,y7,y8],_=>
 have k0:=hf 0 _ rfl;have k1:=hf 1 _ rfl;have k2:=hf 2 _ rfl;have k3:=hf 3 _ rfl;have k4:=hf 4 _ rfl;have k5:=hf 5 _ rfl;have k6:=hf 6 _ rfl;have k7:=hf 7 _ rfl;have k8:=hf 8 _ rfl;have e1:Tryz.prog.cellsOf 3=1:=by kernel_rfl
 have e2:Tryz.prog.cellsOf 22=1:=by kernel_rfl
 have e3:Tryz.prog.cellsOf 24=4:=by kernel_rfl
 have e4:Tryz.prog.cellsOf 27=2:=by kernel_rfl
 have e5:Tryz.prog.cellsOf 30=3:=by kernel_rfl
 have e6:Tryz.prog.cellsOf 31=1:=by kernel_rfl
 have e7:Tryz.prog.cellsOf 32=1:=by kernel_rfl
 simp [Value.cells,e1,e2,e3,e4,e5,e6,e7] at k0 k1 k2 k3 k4 k5 k6 k7 k8;obtain ⟨ma,mn,mc,ms,h0,w0⟩:=aD2 k0;obtain ⟨cs,cw,ck,cd,h1a,h1b,h1c,h1d⟩:=aA6 k1;obtain ⟨pc,ka,kn,kc,kz,h2a,h2b,w2⟩:=aE2 k2;obtain ⟨fa,fn,fc,fz,ra,rn,rc,rz,oa,on,oc,oz,h3a,h3b,h3c,w3,w4,w5⟩:=aHr k3;obtain ⟨md,h4,_,_⟩:=DataW.trod_int Tryz.underlying3 k4;obtain ⟨bk,h5,_,_⟩:=DataW.trod_int Tryz.underlying3 k5;obtain ⟨la,ln,lc,lz,h6,w6⟩:=aFf k6;obtain ⟨ha,hn,hc,hz,h7,w7⟩:=aFh k7;obtain ⟨tn,h8,_,_⟩:=DataW.trod_int Tryz.underlying3 k8;simp at h0 h4 h5 h6 h7 h8;subst h0 h1a h1b h1c h1d h2a h2b h3a h3b h3c h4 h5 h6 h7 h8;exact ⟨⟨ma,mn,mc,ms,cs,cw,ck,cd,pc,ka,kn,kc,kz,fa,fn,fc,fz,ra,rn,rc,rz,oa,on,oc,oz,md,bk,la,ln,lc,lz,ha,hn,hc,hz,tn⟩,rfl,w0,w2,w3,w4,w5,w6,w7⟩
