import Derived.Test.YtncccmeomcaabaaGreatC22
set_option linter.all false
set_option maxHeartbeats 16000000
namespace Go.Proofs.YtncccmeomcaabaaGreat
open Go.RowKit Classical
open Go.Proofs.Tryz
set_option maxRecDepth 100000
theorem aE6 (M:Mn)(g b1 o1 b2 o2 b3 o3 b4 o4:Nat)(Ls:List (PMod×Mb))(Y:Lyb)(m b t:Int)(w:World)(h:MnD w M)(H:MnS w M g b1 o1 b2 o2 b3 o3 b4 o4 Ls)(hl:Y.T w)(eY:Y.L=M.L)(ok:MOk M)(hc:atB M.cn Y.L M.pc=true/\M.tn<1000000000/\tgk (aE M.ms) m b t)(hd:(M.hn:Int)<M.cd):Calls prog 69 #[.agg (qA M),.agg (qL Y.L Y.a0 Y.xs.length Y.c0 Y.a2 Y.L.slots.length Y.c2 Y.a5 Y.ts.length Y.c5),.agg (qT m b t)] w (MQ w (qI 0) (aF5 M.cn Y.L m b t)):=by
 have hv:Cv M.cn Y.L:=by rw [eY];exact ok.cv h
 obtain ⟨hpc,hcd⟩:=ok.pcd;obtain ⟨U,hU,bU,kM,kL,kT,kR⟩:=vB M Y m b t w;have HCP:=zh (jI M g b1 o1 b2 o2 b3 o3 b4 o4 Ls U (H.bw bU));have HKU:=zh (xA kM (xA kL (xA kT kR)));have HIX:=zh (fun (X:World) (hX:qY U X)=>lC M Y M.pc X ((h.bw bU).bw hX) ((hl.bw bU).bw hX) hv hpc);have HTK:=zh (fun (X:World) (hX:qY U X)=>lB M m b t X ((h.bw bU).bw hX));obtain ⟨R,hR⟩:=eqx (atB M.cn Y.L M.pc);obtain ⟨A,hA⟩:=eqx (awy M.cn Y.L M.pc);rw [<- hR,<- hA] at HIX;obtain rfl:R=true:=by rw [hR];exact hc.1
 have HC:=zh (xA hc.2.2 hc.2.1);have HD:=zh (xA (h.bw bU) (xA (hl.bw bU) hv));obtain ⟨D,hD⟩:=eqx (M.kz.getD 7 0);have HPS:=zh (show psC M.cn Y.L={ M.cn with hz:=M.hz++[(M.md,M.bk,A/4,D)] } by unfold psC;rw [hA,hD];rfl)
 have HRG:=zh (show ∃ gk ok,M.ka=some ⟨gk,ok,none⟩/\(M.kn=8)/\U.cell? ⟨gk,ok+7,none⟩=some (qI D) from by
  have e8:M.kn=8:=by have:=hv.g;have e:=h.k.1;show M.kn=8;rw [<- e];exact this
  obtain ⟨gk,ok,e,hc⟩:=(h.k.bw bU).2.2.2.1 (by omega);refine ⟨gk,ok,e,e8,?_⟩;rw [hD]
  exact hc 7 (by omega))
 have HHN:=zh (xA h.h.1 hcd);have c1:=hd;have HU:=zh hU;have HBU:=zh bU;obtain ⟨m0,m1,m2,m3,m4,m5,m6,m7,m8,m9,m10,m11,m12,m13,m14⟩:=kM.mc;clear hU bU kM kL kT kR h H hl eY ok hv hpc hcd hA hR hc hD hd;go_enter func69,ntmps69
 go_wp2_with (rw [<- HU.o])
 refine HCP.o.mono ?_;rintro e X1 ⟨hb1,N,base,mid,L,β,rfl,hm,hq1,hq2⟩;unfold mnV;obtain ⟨V,hV,bV,kA⟩:=nwb X1 (qA N) 43;have bUV:=hb1.trans (bV.mono hb1.size);have HB1:=zh (HBU.o.trans (bUV.mono HBU.o.size));have HBV:=zh bUV;have HK:=zh (fun (X:World) (hX:qY V X)=>xA ((HKU.o.1.bw bUV).bw hX) (xA ((HKU.o.2.1.bw bUV).bw hX) (xA ((HKU.o.2.2.1.bw bUV).bw hX) (xA ((HKU.o.2.2.2.bw bUV).bw hX) (kA.bw hX)))));have HA:=zh (xA (hm.bw bV) (xA hq1 (xA hq2 (xA hb1.size HKU.o.2.2.2.lt))));have HV:=zh hV;clear m0 m1 m2 m3 m4 m5 m6 m7 m8 m9 m10 m11 m12 m13 m14 hb1 hm hq1 hq2 hV bV kA bUV HCP HU;obtain ⟨m0,m1,m2,m3,m4,m5,m6,m7,m8,m9,m10,m11,m12,m13,m14⟩:=(HK.o V brf).1.mc;obtain ⟨l0,l1,l2,l3,l4,l5⟩:=(HK.o V brf).2.1.z6;go_wp2_with (rw [<- HV.o])
 refine (HIX.o V HBV.o).mono ?_;rintro e X2 ⟨rfl,hb2⟩;have HB2:=zh hb2;clear m0 m1 m2 m3 m4 m5 m6 m7 m8 m9 m10 m11 m12 m13 m14 l0 l1 l2 l3 l4 l5 hb2 HIX HV;obtain ⟨m0,m1,m2,m3,m4,m5,m6,m7,m8,m9,m10,m11,m12,m13,m14⟩:=(HK.o X2 HB2.o).1.mc;obtain ⟨t0,t1,t2,_⟩:=(HK.o X2 HB2.o).2.2.1.three;have HT2:=zh (HTK.o X2 (HBV.o.trans (HB2.o.mono HBV.o.size)));rw [xR HC.o] at HT2;clear HTK;go_wp2_with fail
 refine HT2.o.mono ?_;rintro e X3 ⟨rfl,hb3⟩;have HB3:=zh (HB2.o.trans (hb3.mono HB2.o.size));clear hb3 t0 t1 t2 HT2;clear m0 m1 m2 m3 m4 m5 m6 m7 m8 m9 m10 m11 m12 m13 m14;obtain ⟨m0,m1,m2,m3,m4,m5,m6,m7,m8,m9,m10,m11,m12,m13,m14⟩:=(HK.o X3 HB3.o).1.mc;have c1':¬ M.cd<=(M.hn:Int):=by omega
 have hN:M.hn<=100:=by have:M.cd<=100:=HHN.o.2;omega
 obtain ⟨gk,ok',ek,e8,u7⟩:=HRG.o;have hgU:gk<U.heap.size:=xD U _ u7;have u7:=aB (HBV.o.trans (HB3.o.mono HBV.o.size)) u7;rw [ek,e8] at m6;have hmX:=HA.o.1.bw HB3.o;have en:N.hn=M.hn:=by rw [gY hmX.h];exact HHN.o.1
 have kA:=(HK.o X3 HB3.o).2.2.2.2;have a13:X3.cell? ⟨X1.heap.size,13,none⟩=some (qS N.ha M.hn N.hc):=by rw [<- en];exact kA.cell 13
 have b13:(X3.alloc (.cells (qW M.md M.bk (A/4) D) 135)).cell? ⟨X1.heap.size,13,none⟩=some (qS N.ha M.hn N.hc):=by rw [<- en];exact (kA.alloc _).cell 13
 have HOW:=zh (fun (Z:World) (hZ:qY X3 Z)=>show (Z.alloc (.cells (qW M.md M.bk (A/4) D) 135)).ownsRow mid 135 4 (qS N.ha M.hn N.hc) M.hn (M.hz.flatMap bC) from by
  have:=(hmX.h.bw hZ).bw (w':=Z.alloc (.cells (qW M.md M.bk (A/4) D) 135)) bal;unfold OG at this;rw [en,show M.cn.hz=M.hz from rfl,HHN.o.1] at this
  exact this)
 have HNW:=zh (fun (Z:World)=>bJ Z (qW M.md M.bk (A/4) D) 135 (bC (M.md,M.bk,A/4,D)) rfl)
 have HSZ:=zh (fun (Z:World) (hZ:qY X3 Z)=>show mid<=(Z.alloc (.cells (qW M.md M.bk (A/4) D) 135)).heap.size from by
  have:=hZ.size;have:=HB3.o.size;have:=(HK.o V brf).2.2.2.2.lt;have:=HA.o.2.2.1;simp
  omega)
 have HPU:=zh (fun (Z:World) (hZ:qY X3 Z) (g c:Nat) (w4:World) (hown:w4.ownsRow mid 135 4 (qS (qP g) (M.hn+1) c) (M.hn+1) (M.hz.flatMap bC++bC (M.md,M.bk,A/4,D))) (hgr:(Z.alloc (.cells (qW M.md M.bk (A/4) D) 135)).grownBy w4 (qS N.ha M.hn N.hc).ownBlock)=>show Blk w4 X1.heap.size (qA N) 43/\qY U w4/\MxO w4 base mid (psC M.cn Y.L) { N with ha:=qP g,hn:=M.hn+1,hc:=c,hz:=M.hz++[(M.md,M.bk,A/4,D)] } L β/\(w4.cell? ⟨w.heap.size,10,none⟩=some (qI M.md)/\w4.cell? ⟨w.heap.size,11,none⟩=some (qI M.bk)/\w4.cell? ⟨w.heap.size,6,none⟩=some (qS (some ⟨gk,ok',none⟩) 8 M.kc)/\w4.cell? ⟨gk,ok'+7,none⟩=some (qI D)) from by
  have B:=hZ.trans ((bal (w:=Z) (o:=(.cells (qW M.md M.bk (A/4) D) 135))).mono hZ.size);have mA:=hmX.bw B;rw [<- en] at hgr;have BU:=(HBV.o.trans (HB3.o.mono HBV.o.size)).trans (B.mono (HBV.o.trans (HB3.o.mono HBV.o.size)).size)
  refine ⟨cM (kA.bw B) hgr (fun e=>by
   obtain ⟨_,k1⟩:=aD mA.h e.symm
   exact absurd (aH k1 (kA.bw B)) (by decide)),vD BU hgr (fun k hk=>by have:=(mA.h.lt k hk).1;have:=mA.bm;have:=HA.o.2.1;omega),by rw [HPS.o];exact mA.push hgr (aGu HHN.o.1 hown),?_⟩
  have kM4:=cM ((HK.o X3 HB3.o).1.bw B) hgr (fun e=>by
   obtain ⟨_,k1⟩:=aD mA.h e.symm
   exact absurd (aH k1 ((HK.o X3 HB3.o).1.bw B)) (by decide))
  exact ⟨kM4.cell 10,kM4.cell 11,by rw [<- ek,<- e8];exact kM4.cell 6,hgr.cell (aB B u7) (fun e=>by have:=(mA.h.lt gk e.symm).1;have:=mA.bm;have:=HA.o.2.1;omega)⟩)
 obtain ⟨iF,hiF,hiF0,hiF1,hiF2⟩:=info_parts uB;have HEN:=zh (fun (W5:World) (N1:Mn) (hm5:MxO W5 base mid (psC M.cn Y.L) N1 L β) (b5:qY U W5)=>aDc U base mid L β Y _ N1 m b t W5 hm5 b5 HA.o.2.1 HD.o.2.1 ⟨HD.o.2.2.k,HD.o.2.2.e,HD.o.2.2.b,HD.o.2.2.r,HD.o.2.2.g,HD.o.2.2.s,HD.o.2.2.n,HD.o.2.2.t⟩ HC.o.2 HC.o.1);have n1:¬ gk=X1.heap.size:=by have:=HA.o.2.2.2.1;omega
 have n2:¬ X1.heap.size=gk:=by have:=HA.o.2.2.2.1;omega
 have n3:¬ w.heap.size=X1.heap.size:=by have:=HA.o.2.2.2.1;have:=HA.o.2.2.2.2;omega
 have n4:¬ X1.heap.size=w.heap.size:=by have:=HA.o.2.2.2.1;have:=HA.o.2.2.2.2;omega
 clear hmX en kA ek e8 HRG hgU m0 m1 m2 m3 m5 m7 m8 m9 m12 m14;go_wp2_with fail
 apply aQv (F:=fun (g4 c4:Nat) (W5:World)=>Blk W5 X1.heap.size (qA { N with ha:=qP g4,hn:=M.hn+1,hc:=c4,hz:=M.hz++[(M.md,M.bk,A/4,D)] }) 43/\qY U W5/\MxO W5 base mid (psC M.cn Y.L) { N with ha:=qP g4,hn:=M.hn+1,hc:=c4,hz:=M.hz++[(M.md,M.bk,A/4,D)] } L β)
 .intro REST0;have REST:=zh REST0;clear REST0;refine wp_region_held_drew (S:=fun w'=>w'.cell? ⟨w.heap.size,10,none⟩=some (qI M.md)/\w'.cell? ⟨w.heap.size,11,none⟩=some (qI M.bk)/\w'.cell? ⟨w.heap.size,6,none⟩=some (qS (some ⟨gk,ok',none⟩) 8 M.kc)/\w'.cell? ⟨gk,ok'+7,none⟩=some (qI D)) (by kernel_rfl) ?_ (fun hHeld=>?_)
  .go_keep
  refine tkV 0 ?_ rfl ?_ ?_;rotate_left
  ·(intro w hSw;(try dsimp only at hSw);go_simp;try with_reducible rfl)
  try simp only [yD,yE,yF,Act.put,yA,yB,yC]
  refine tkV 2 ?_ rfl ?_ ?_;rotate_left
  ·(intro w hSw;(try dsimp only at hSw);go_simp;try with_reducible rfl)
  try simp only [yD,yE,yF,Act.put,yA,yB,yC]
  refine tkV 3 ?_ rfl ?_ ?_;rotate_left
  ·(intro w hSw;(try dsimp only at hSw);go_simp;try with_reducible rfl)
  try simp only [yD,yE,yF,Act.put,yA,yB,yC]
  refine tkV 4 ?_ rfl ?_ ?_;rotate_left
  ·(intro w hSw;(try dsimp only at hSw);go_simp;try with_reducible rfl)
  try simp only [yD,yE,yF,Act.put,yA,yB,yC]
  refine tkV 5 ?_ rfl ?_ ?_;rotate_left
  ·(intro w hSw;(try dsimp only at hSw);go_simp;try with_reducible rfl)
  try simp only [yD,yE,yF,Act.put,yA,yB,yC]
  refine tkV 6 ?_ rfl ?_ ?_;rotate_left
  ·(intro w hSw;(try dsimp only at hSw);go_simp;try with_reducible rfl)
  try simp only [yD,yE,yF,Act.put,yA,yB,yC]
  refine tkV 7 ?_ rfl ?_ ?_;rotate_left
  ·(intro w hSw;(try dsimp only at hSw);go_simp;try with_reducible rfl)
  try simp only [yD,yE,yF,Act.put,yA,yB,yC]
  refine tkV 8 ?_ rfl ?_ ?_;rotate_left
  ·(intro w hSw;(try dsimp only at hSw);go_simp;try with_reducible rfl)
  try simp only [yD,yE,yF,Act.put,yA,yB,yC]
  refine tkV 9 ?_ rfl ?_ ?_;rotate_left
  ·(intro w hSw;(try dsimp only at hSw);go_simp;try with_reducible rfl)
  try simp only [yD,yE,yF,Act.put,yA,yB,yC]
  refine tkV 10 ?_ rfl ?_ ?_;rotate_left
  ·(intro w hSw;(try dsimp only at hSw);go_simp;try with_reducible rfl)
  try simp only [yD,yE,yF,Act.put,yA,yB,yC]
  refine tkV 11 ?_ rfl ?_ ?_;rotate_left
  ·(intro w hSw;(try dsimp only at hSw);go_simp;try with_reducible rfl)
  try simp only [yD,yE,yF,Act.put,yA,yB,yC]
  refine tkV 12 ?_ rfl ?_ ?_;rotate_left
  ·(intro w hSw;(try dsimp only at hSw);go_simp;try with_reducible rfl)
  try simp only [yD,yE,yF,Act.put,yA,yB,yC]
  have hHd:=hHeld;refine wpAnyH_ready (rs:=[1,13]) (by kernel_rfl) (by simp) (AllReadyH.cons rfl (fun K hK=>?_) (AllReadyH.cons rfl (fun K hK=>?_) AllReadyH.nil))
  focus
   go_simp;refine hK.out _ _ ?_ (fun hHeld=>?_)
   .exact hHd
   clear hK K;try simp only [yD,yE,yF,Act.put,yA,yB,yC]
   refine wpAnyH_ready (rs:=[13]) (by kernel_rfl) (by simp) (AllReadyH.cons rfl (fun K hK=>?_) AllReadyH.nil);go_simp;refine hK.out _ _ ?_ (fun hHeld=>?_)
   ·(try dsimp only);go_keep
   clear hK K;try simp only [yD,yE,yF,Act.put,yA,yB,yC]
  rotate_left
  focus
   go_simp;refine hK.out _ _ ?_ (fun hHeld=>?_)
   ·(try dsimp only);go_keep
   clear hK K;try simp only [yD,yE,yF,Act.put,yA,yB,yC]
   refine wpAnyH_ready (rs:=[1]) (by kernel_rfl) (by simp) (AllReadyH.cons rfl (fun K hK=>?_) AllReadyH.nil);go_simp;refine hK.out _ _ ?_ (fun hHeld=>?_)
   .assumption
   clear hK K;try simp only [yD,yE,yF,Act.put,yA,yB,yC]
  all_goals
   refine wpAnyH_ready (rs:=[14]) (by kernel_rfl) (by simp) (AllReadyH.cons rfl (fun K hK=>?_) AllReadyH.nil);refine step_append_lies _ (by rfl) _ _ 41 (by rfl) mid 135 iF _ 4 _ underlying41 hiF hiF0 hiF1 hiF2 rfl (by decide) (qS N.ha M.hn N.hc) M.hn (M.hz.flatMap bC) (by rfl) (by first|exact HOW.o _ brf|exact HOW.o _ brf.drew) ⟨X3.heap.size,0,none⟩ 1 1 (bC (M.md,M.bk,A/4,D)) (by rfl) (by rfl) (by first|exact HNW.o X3|exact HNW.o X3.drew) (by intro u hu;simp [bC] at hu;rcases hu with rfl|rfl|rfl|rfl<;>rfl) (by decide) (by unfold maxLen;omega) (by omega) (by first|exact HSZ.o _ brf|exact HSZ.o _ brf.drew) _ rfl ?_;intro g4 c4 w4 hown hgr _ _;have HPX:=zh (by first|exact HPU.o _ brf _ _ _ hown hgr|exact HPU.o _ brf.drew _ _ _ hown hgr);have p4:=HPX.o.1.e13;have f4:=HPX.o.1.frozen 13;obtain ⟨y10,y11,y6,y7⟩:=HPX.o.2.2.2;clear hown hgr;refine hK.out _ _ ?_ (fun hHeld=>?_)
   .exact ⟨y10,y11,y6,y7⟩
   clear hK K;try simp only [yD,yE,yF,Act.put,yA,yB,yC]
   refine tkV 15 ?_ rfl ?_ ?_;rotate_left
   ·(intro w hSw;(try dsimp only at hSw);go_simp;try with_reducible rfl)
   try simp only [yD,yE,yF,Act.put,yA,yB,yC]
   refine wpAnyH_ready (rs:=[16]) (by kernel_rfl) (by simp) (AllReadyH.cons rfl (fun K hK=>?_) AllReadyH.nil);go_simp;refine hK.out _ _ ?_ (fun hHeld=>?_)
   ·(try dsimp only);go_keep
   clear hK K;try simp only [yD,yE,yF,Act.put,yA,yB,yC]
   refine wpAnyH_done (by kernel_rfl) ?_ _
   have HFX:=zh (show Blk (w4.setCell ⟨X1.heap.size,13,none⟩ (qS (qP g4) (M.hn+1) c4)) X1.heap.size (qA { N with ha:=qP g4,hn:=M.hn+1,hc:=c4,hz:=M.hz++[(M.md,M.bk,A/4,D)] }) 43/\qY U (w4.setCell ⟨X1.heap.size,13,none⟩ (qS (qP g4) (M.hn+1) c4))/\MxO (w4.setCell ⟨X1.heap.size,13,none⟩ (qS (qP g4) (M.hn+1) c4)) base mid (psC M.cn Y.L) { N with ha:=qP g4,hn:=M.hn+1,hc:=c4,hz:=M.hz++[(M.md,M.bk,A/4,D)] } L β from by
    have T5:=aC w4 X1.heap.size 13 (qS (qP g4) (M.hn+1) c4)
    exact ⟨HPX.o.1.set 13 (qS (qP g4) (M.hn+1) c4),aG HPX.o.2.1 T5 (fun j hj=>by have:=HA.o.2.2.2.1;omega) HPX.o.2.1.size,HPX.o.2.2.1.tm (iZ HPX.o.1 T5)⟩)
   generalize w4.setCell ⟨X1.heap.size,13,none⟩ (qS (qP g4) (M.hn+1) c4)=W5 at HFX ⊢;exact REST.o g4 c4 W5 HFX.o
 .rintro g4 c4 W5 ⟨k5,b5,hm5⟩;show Exit.then _ _ _ _ _
  obtain ⟨N1,hN1⟩:=eqx ({ N with ha:=qP g4,hn:=M.hn+1,hc:=c4,hz:=M.hz++[(M.md,M.bk,A/4,D)] }:Mn);rw [<- hN1] at k5 hm5;have HL:=zh (HEN.o W5 N1 hm5 b5);obtain ⟨p0,p1,p2,p3,p4',p5,p6,p7,p8,p9,p10,p11,p12,p13,p14⟩:=k5.mc;obtain ⟨l0,l1,l2,l3,l4,l5⟩:=(HKU.o.2.1.bw b5).z6;obtain ⟨t0,t1,t2,_⟩:=(HKU.o.2.2.1.bw b5).three;clear hN1 k5 b5 hm5 HOW HNW HSZ HPU HEN a13 b13 u7 m4 m6 m10 m11 m13 n1 n2 n3 n4;go_wp2_with fail
  refine HL.o.mono ?_;rintro e X4 ⟨M',rfl,hm4,hb4,_⟩;have kr:=HKU.o.2.2.2.bw hb4;have KR:=kr;unfold z15 at KR;obtain ⟨r0,r1,r2,r3,r4,r5,r6,r7,r8,r9,r10,r11,r12,r13,r14⟩:=KR.mc;have rf:=KR.frozen
  have HF:=zh (show MQ w (qI 0) (aF5 M.cn Y.L m b t) (.returned (.tuple #[.agg (qA M'),qI 0])) (stM X4 (w.heap.size+1+1+1) M') from by
   exact kP (HBU.o.trans (hb4.mono HBU.o.size)) kr (by omega) hm4 (xM HBU.o.size HA.o.2.1))
  have HKR:=zh kr;clear hm4 hb4 kr KR HL;go_wp2;exact lH M' rfl HKR.o rfl rfl HF.o
theorem aE8 (M:Mn)(g b1 o1 b2 o2 b3 o3 b4 o4:Nat)(Ls:List (PMod×Mb))(Y:Lyb)(m b t:Int)(w:World)(h:MnD w M)(H:MnS w M g b1 o1 b2 o2 b3 o3 b4 o4 Ls)(hl:Y.T w)(eY:Y.L=M.L)(ok:MOk M):Calls prog 69 #[.agg (qA M),.agg (qL Y.L Y.a0 Y.xs.length Y.c0 Y.a2 Y.L.slots.length Y.c2 Y.a5 Y.ts.length Y.c5),.agg (qT m b t)] w (MQ w (qI (lJ M.cn Y.L m b t)) (if lJ M.cn Y.L m b t=0 then aF5 M.cn Y.L m b t else M.cn)):=by
 have e:(M.cn.hz.length:Int)=M.hn:=by rw [show M.cn.hz.length=M.hn from h.h.1]
 unfold lJ;rw [e];by_cases c:atB M.cn Y.L M.cn.pc=true/\M.cn.tn<1000000000/\tgk M.cn.ps m b t
 .rw [if_pos c];by_cases d:(M.hn:Int)<M.cd
  .rw [if_pos (show (M.hn:Int)<M.cn.cd from d),if_pos rfl];exact aE6 M g b1 o1 b2 o2 b3 o3 b4 o4 Ls Y m b t w h H hl eY ok c d
  .rw [if_neg (show ¬ (M.hn:Int)<M.cn.cd from d),if_neg (by decide)];exact aBe M g b1 o1 b2 o2 b3 o3 b4 o4 Ls Y m b t w h H hl eY ok c d
 .rw [if_neg c,if_neg (by decide)];exact aE7 M g b1 o1 b2 o2 b3 o3 b4 o4 Ls Y m b t w h H hl eY ok c
theorem aH1 (M:Mn)(g b1 o1 b2 o2 b3 o3 b4 o4:Nat)(Ls:List (PMod×Mb))(m b t:Int)(w:World)(h:MnD w M)(H:MnS w M g b1 o1 b2 o2 b3 o3 b4 o4 Ls):Calls prog 22 #[.agg (qA M),.agg (qT m b t)] w (MQ w (qI (iN M m b t)) (iO M m b t)):=by
 obtain ⟨U,hU⟩:=eqx (((w.alloc (.cells (qA M) 43)).alloc (.cells (qT m b t) 58)).alloc (.cells qZ 43));have bU:qY w U:=by rw [hU];exact (bal.alloc (by simp) _).alloc (by simp;omega) _
 have kM:Blk U w.heap.size (qA M) 43:=by rw [hU];exact ((Blk.new _ _ _).alloc _).alloc _
 have kT:Blk U (w.heap.size+1) (qT m b t) 58:=by rw [hU];have:=(Blk.new (w.alloc (.cells (qA M) 43)) (qT m b t) 58).alloc (.cells qZ 43);simpa using this
 have kR:Blk U (w.heap.size+1+1) z15 43:=by rw [hU];have:=Blk.new ((w.alloc (.cells (qA M) 43)).alloc (.cells (qT m b t) 58)) z15 43;simpa [z15] using this
 have HVL:=zh (aK8 M U (h.bw bU));have HMS:=zh (fun (X:World) (hX:qY U X)=>xA ((h.bw bU).bw hX) ((H.bw bU).bw hX));have HK:=zh (fun (X:World) (hX:qY U X)=>xA (kM.bw hX) (xA (kR.bw hX) (kT.bw hX)));have HU:=zh hU;have HBU:=zh bU;obtain ⟨x0,x1,x2,x3,x4,x5,x6,x7,x8,x9,x10,x11,x12,x13,x14⟩:=kM.mc;clear hU bU kM kT kR h H;go_enter func22,ntmps22
 go_wp2_with (rw [<- HU.o])
 refine HVL.o.mono ?_;rintro e X0 ⟨hb0,y0,n0,d0,i1,y2,n2,d2,i3,i4,y5,n5,d5,bb,rfl,hbb,hly⟩;obtain ⟨w1,hw1,b1',kl⟩:=nwb X0 #[qS y0 n0 d0,qI i1,qS y2 n2 d2,qI i3,qI i4,qS y5 n5 d5] 71;have HB1:=zh (hb0.trans (b1'.mono hb0.size));have HW1:=zh hw1;clear x0 x1 x2 x3 x4 x5 x6 x7 x8 x9 x10 x11 x12 x13 x14 HVL HU hw1;obtain ⟨m0,m1,m2,m3,m4,m5,m6,m7,m8,m9,m10,m11,m12,m13,m14⟩:=(HK.o w1 HB1.o).1.mc;by_cases c:MOk M
 .obtain rfl:bb=true:=hbb.2 c;obtain ⟨a0,c0,xs,a2,c2,a5,c5,ts,ely,lyt⟩:=hly rfl;have HLR:=zh (aE8 M g b1 o1 b2 o2 b3 o3 b4 o4 Ls ⟨M.L,a0,c0,xs,a2,c2,a5,c5,ts⟩ m b t w1 (HMS.o w1 HB1.o).1 (HMS.o w1 HB1.o).2 (lyt.bw b1') rfl c);dsimp only at HLR;unfold mV at ely;rw [<- ely] at HLR;rw [show (if lJ M.cn M.L m b t=0 then aF5 M.cn M.L m b t else M.cn)=iO M m b t by unfold iO;rw [lW c],<- lW c] at HLR;obtain ⟨l0,l1,l2,l3,l4,l5⟩:=kl.z6;obtain ⟨t0,t1,t2,_⟩:=(HK.o w1 HB1.o).2.2.three;clear hb0 hbb hly b1' kl ely lyt c;generalize iN M m b t=K at *;generalize iO M m b t=Q at *;go_wp2_with (rw [<- HW1.o])
  refine HLR.o.mono ?_;rintro e Xc ⟨hbc,N',base,mid,L,β,rfl,hm,hq1⟩;unfold mnV;have kr:=(HK.o _ HB1.o).2.1.bw hbc;have KR:=kr;unfold z15 at KR;obtain ⟨r0,r1,r2,r3,r4,r5,r6,r7,r8,r9,r10,r11,r12,r13,r14⟩:=KR.mc;have rf:=KR.frozen
  have HF:=zh (show MQ w (qI K) Q (.returned (.tuple #[.agg (qA N'),qI K])) (stM Xc (w.heap.size+1+1) N') from by
   have B:=HBU.o.trans (HB1.o.mono HBU.o.size)
   exact kP (B.trans (hbc.mono B.size)) kr (by omega) hm (xM B.size hq1))
  have HKR:=zh kr;clear m0 m1 m2 m3 m4 m5 m6 m7 m8 m9 m10 m11 m12 m13 m14 l0 l1 l2 l3 l4 l5 t0 t1 t2 hbc hm hq1 kr KR HLR;go_wp2;exact lH N' rfl HKR.o rfl rfl HF.o
 obtain rfl:bb=false:=by cases bb;rfl;exact absurd (hbb.1 rfl) c
 have HCM:=zh (jI M g b1 o1 b2 o2 b3 o3 b4 o4 Ls w1 (HMS.o w1 HB1.o).2);have HEB:=zh (nZ (m:=m) (b:=b) (t:=t) c);clear hb0 hbb hly b1' kl c;go_wp2_with (rw [<- HW1.o])
 refine HCM.o.mono ?_;rintro e Xc ⟨hbc,N',base,mid,L,β,rfl,hm,hq1,hq2⟩;unfold mnV;have kr:=(HK.o _ HB1.o).2.1.bw hbc;have KR:=kr;unfold z15 at KR;obtain ⟨r0,r1,r2,r3,r4,r5,r6,r7,r8,r9,r10,r11,r12,r13,r14⟩:=KR.mc;have rf:=KR.frozen
 have HF:=zh (show MQ w (qI (iN M m b t)) (iO M m b t) (.returned (.tuple #[.agg (qA N'),qI 2])) (stM Xc (w.heap.size+1+1) N') from by
  have B:=HBU.o.trans (HB1.o.mono HBU.o.size);unfold iO;rw [HEB.o,if_neg (by decide)]
  exact kP (B.trans (hbc.mono B.size)) kr (by omega) hm (xM B.size hq1))
 have HKR:=zh kr;clear m0 m1 m2 m3 m4 m5 m6 m7 m8 m9 m10 m11 m12 m13 m14 hbc hm hq1 hq2 kr KR HCM;go_wp2;exact lH N' rfl HKR.o rfl rfl HF.o
