import Derived.Test.YtncccmeomcaabaaGreatP39
import Derived.Test.YtncccmeomcaabaaGreatP40
set_option linter.all false
namespace Go.Proofs.YtncccmeomcaabaaGreat
open Go.RowKit Classical
set_option maxRecDepth 100000
variable {M:Mn}
theorem aHm {w0:qw}(t0:MnT w0 M)(b0:MnB M)(m b t:Int)(lo:Nat)(X:qw)(bs g0 g1 g2 g3 g4 g5 g6:Nat)(ms':List Md)(r:MnR X bs M g0 g1 g2 g3 g4 g5 g6 ms')(hl:lo<=X.heap.size):qC 19 #[.agg (qK M g0 g1 g2 g3 g4 g5 g6),.agg (qT m b t)] X (fun e w'=>qY X w'/\∃ N:Mn,e=.returned (.tuple #[.agg (qA N),.bool (oS M m b t)])/\RX (lM M m b t) lo N w'):=by
 have e:=rZ r.m r.n t0.m.1;refine (aD6 (M.cp g0 g1 g2 g3 g4 g5 g6 ms') g0 g1 0 g2 0 g3 0 g4 0 (ms'.map Md.mb) m b t X (r.mnd t0 b0) (r.mns t0 b0)).mono ?_;rintro e' w' ⟨hb,N,base,mid,L,β,rfl,hm,hq⟩;rw [aBg e];rw [rJ e] at hm;exact ⟨hb,N,rfl,base,mid,L,β,hm,xM hl hq⟩
theorem aIj {w0:qw}(t0:MnT w0 M)(b0:MnB M)(m b t:Int)(lo:Nat)(X:qw)(bs g0 g1 g2 g3 g4 g5 g6:Nat)(ms':List Md)(r:MnR X bs M g0 g1 g2 g3 g4 g5 g6 ms')(hl:lo<=X.heap.size):qC 21 #[.agg (qK M g0 g1 g2 g3 g4 g5 g6),.agg (qT m b t)] X (fun e w'=>qY X w'/\∃ N:Mn,e=.returned (.tuple #[.agg (qA N),.bool (oS M m b t)])/\RX (lM M m b t) lo N w'):=by
 have e:=rZ r.m r.n t0.m.1;refine (aE7 (M.cp g0 g1 g2 g3 g4 g5 g6 ms') g0 g1 0 g2 0 g3 0 g4 0 (ms'.map Md.mb) m b t X (r.mnd t0 b0) (r.mns t0 b0)).mono ?_;rintro e' w' ⟨hb,N,base,mid,L,β,rfl,hm,hq⟩;rw [aBg e];rw [rJ e] at hm;exact ⟨hb,N,rfl,base,mid,L,β,hm,xM hl hq⟩
set_option maxHeartbeats 16000000 in
theorem qG (M:Mn)(m b t:Int)(w:qw)(h:MnT w M):qC 5 #[.agg (qA M),.agg (qT m b t)] w (qB w (.bool true)):=by
 obtain ⟨U,hU⟩:=eqx ((w.alloc (.cells (qA M) 34)).alloc (.cells (qT m b t) 56));have bU:qY w U:=by rw [hU];exact bal.alloc (by simp) _
 have kM:Blk U w.heap.size (qA M) 34:=by rw [hU];exact (Blk.new _ _ _).alloc _
 have kT:Blk U (w.heap.size+1) (qT m b t) 56:=by rw [hU];have:=Blk.new (w.alloc (.cells (qA M) 34)) (qT m b t) 56;simpa using this
 have HSZ:=zh (vF M U (h.bw bU));have HT:=zh h;have HU:=zh hU;have HB:=zh bU;have HK:=zh (fun (X:qw) (hX:qY U X)=>show Blk X w.heap.size (qA M) 34/\(X.cell? (qR (w.heap.size+1) 0)=some (qI m)/\X.cell? (qR (w.heap.size+1) 1)=some (qI b)/\X.cell? (qR (w.heap.size+1) 2)=some (qI t)) from ⟨kM.bw hX,(kT.bw hX).cell 0,(kT.bw hX).cell 1,(kT.bw hX).cell 2⟩);obtain ⟨m0,m1,m2,m3,m4,m5,m6,m7,m8,m9,m10,m11,m12,m13,m14⟩:=kM.mc;clear hU bU kM kT h;go_enter Tryz.func5,Tryz.ntmps5
 go_wp2_with (rw [<- HU.o])
 refine HSZ.o.mono ?_;rintro e X1 ⟨z,rfl,hz,hb⟩;have HBW:=zh hb;clear hb HSZ HU m0 m1 m2 m3 m4 m5 m6 m7 m8 m9 m10 m11 m12 m13 m14;generalize Value.agg (qA M)=vM0;generalize Value.agg (qT m b t)=vT0;by_cases cz:z<0
 .clear hz;go_wp2;go_ret;exact ⟨rfl,HB.o.trans (HBW.o.mono HB.o.size)⟩
 have HMB:=zh (hz (by omega));clear hz;have HTO:=zh (fun (X:qw) (hX:qY U X)=>(uY M X ((HT.o.bw HB.o).bw hX) HMB.o).mono (fun e w' he=>show ∃ g0 g1 g2 g3 g4 g5 g6 ms',e=.returned (.agg (qK M g0 g1 g2 g3 g4 g5 g6))/\MnR w' X.heap.size M g0 g1 g2 g3 g4 g5 g6 ms'/\qY X w' from he));obtain ⟨B,hB⟩:=eqx (oS M m b t);obtain ⟨C,hC⟩:=eqx (lM M m b t);have HSE:=zh (fun (lo:Nat) (X:qw) (bs g0 g1 g2 g3 g4 g5 g6:Nat) (ms':List Md) (r:MnR X bs M g0 g1 g2 g3 g4 g5 g6 ms') (hl:lo<=X.heap.size)=>show qC 19 #[.agg (qK M g0 g1 g2 g3 g4 g5 g6),.agg (qT m b t)] X (fun e w'=>qY X w'/\∃ N:Mn,e=.returned (.tuple #[.agg (qA N),.bool B])/\RX C lo N w') from by rw [hB,hC];exact aHm HT.o HMB.o m b t lo X bs g0 g1 g2 g3 g4 g5 g6 ms' r hl);have HIE:=zh (fun (lo:Nat) (X:qw) (bs g0 g1 g2 g3 g4 g5 g6:Nat) (ms':List Md) (r:MnR X bs M g0 g1 g2 g3 g4 g5 g6 ms') (hl:lo<=X.heap.size)=>show qC 21 #[.agg (qK M g0 g1 g2 g3 g4 g5 g6),.agg (qT m b t)] X (fun e w'=>qY X w'/\∃ N:Mn,e=.returned (.tuple #[.agg (qA N),.bool B])/\RX C lo N w') from by rw [hB,hC];exact aIj HT.o HMB.o m b t lo X bs g0 g1 g2 g3 g4 g5 g6 ms' r hl)
 have HCB:=zh (fun (X:qw) (bs g0 g1 g2 g3 g4 g5 g6:Nat) (ms':List Md) (r:MnR X bs M g0 g1 g2 g3 g4 g5 g6 ms')=>show mkn C<=4194305/\C.ps.length<=1048576 from by
  have e:=rZ r.m r.n HT.o.m.1;obtain ⟨q1,q2⟩:=aLd (r.mnd HT.o HMB.o) m b t;rw [rJ e,aOe e] at q1;rw [rJ e] at q2;rw [hC];refine ⟨by rw [q1];exact aPc HT.o HMB.o,?_⟩;rw [q2,show aD (M.cp g0 g1 g2 g3 g4 g5 g6 ms').ms=aD M.ms from e,bR,HT.o.m.1]
  exact HMB.o.n)
 clear hB hC;have hBB:(B !=B)=false:=by cases B<;>rfl
 have HC1:=zh (fun (X:qw) (hX:qY X1 X)=>HK.o X (HBW.o.trans (hX.mono HBW.o.size)));have HS1:=zh (HSE.o X1.heap.size);go_wp2_with fail
 refine aPx (fun j=>[22,23,24,25,26,21,27,28,6,1000,7].getD j 0) [22,23,24,25,26,21,27,28,6,7] (show SlG 11 9 (fun j=>[22,23,24,25,26,21,27,28,6,1000,7].getD j 0) [22,23,24,25,26,21,27,28,6,7] 96 from aD1 _ _ _ _ _ (by decide)) rfl (fun args X=>by go_simp) (by decide) rfl rfl ⟨_,_,_,rfl,by simp⟩ ⟨_,_,_,rfl,by simp⟩ ⟨_,_,_,rfl,by simp⟩ ⟨_,_,_,rfl,by simp⟩ ⟨_,_,_,rfl,by simp⟩ ⟨_,_,_,rfl,by simp⟩ ⟨_,_,_,rfl,by simp⟩ ⟨_,_,_,rfl,by simp⟩ ⟨_,_,_,rfl,by simp⟩ ⟨_,_,_,rfl,by simp⟩ ⟨_,_,_,rfl,by simp⟩ (by kernel_rfl) HC1.o (fun X hX=>HTO.o X (HBW.o.trans (hX.mono HBW.o.size))) HS1.o aN ?_
 as_aux_lemma=>
  intro W5 M5 gb y hF x1 x2;replace x1:=show y 6=_ from x1;replace x2:=show y 7=_ from x2;simp only [sB,Act.put,yA,yB,yC];rw [x1,x2];generalize y 22=u22;generalize y 23=u23;generalize y 24=u24;generalize y 25=u25;generalize y 26=u26;generalize y 21=u21;generalize y 27=u27;generalize y 28=u28;clear x1 x2 y;show Exit.then _ _ _ _ _
  have HB5:=zh (HBW.o.trans (hF.1.mono HBW.o.size));have HF5:=zh (fun (X:qw) (hX:qY W5 X)=>show Blk X gb (qA M5) 43/\RX C X1.heap.size M5 X from ⟨hF.2.2.1.bw hX,hF.2.2.2.bw hX⟩);have hgb:gb<W5.heap.size:=hF.2.2.1.lt;obtain ⟨m0,m1,m2,m3,m4,m5,m6,m7,m8,m9,m10,m11,m12,m13,m14⟩:=(HK.o W5 HB5.o).1.mc;clear hF HC1 HS1 HBW HSE;go_wp2_with fail
  refine (HTO.o W5 HB5.o).mono ?_;rintro e X6 ⟨g0,g1,g2,g3,g4,g5,g6,ms6,rfl,r6,hb6⟩;obtain ⟨W6,hW6,bA,kA⟩:=nwb X6 (qK M g0 g1 g2 g3 g4 g5 g6) 43;have HN:=zh (HCB.o X6 _ g0 g1 g2 g3 g4 g5 g6 ms6 r6);have HBA:=zh bA;have HR:=zh r6;have HR6:=zh (fun (X:qw) (hX:qY W6 X)=>show MnR X W5.heap.size M g0 g1 g2 g3 g4 g5 g6 ms6 from (r6.bw bA).bw hX);have HK6:=zh (fun (X:qw) (hX:qY W6 X)=>kA.bw hX);have HB56:=zh (hb6.trans (bA.mono hb6.size));have hx6:X6.heap.size<W6.heap.size:=kA.lt;have hx5:W5.heap.size<=X6.heap.size:=hb6.size;have HW6:=zh hW6;have HC6:=zh (fun (X:qw) (hX:qY W6 X)=>xA (HK6.o X hX) (HK.o X (HB5.o.trans ((HB56.o.trans (hX.mono HB56.o.size)).mono HB5.o.size))).2);have HI6:=zh (HIE.o W6.heap.size);clear r6 hb6 bA kA hW6 m0 m1 m2 m3 m4 m5 m6 m7 m8 m9 m10 m11 m12 m13 m14 HCB;go_wp2_with (rw [<- HW6.o])
  generalize Value.agg (qA M)=v6M;generalize Value.agg (qK M g0 g1 g2 g3 g4 g5 g6)=v6C;refine aQk (fun j=>[32,33,34,35,31,36,37,9,1000,10].getD j 0) [32,33,34,35,31,36,37,9,10] (show SlG 10 8 (fun j=>[32,33,34,35,31,36,37,9,1000,10].getD j 0) [32,33,34,35,31,36,37,9,10] 96 from aD1 _ _ _ _ _ (by decide)) rfl (fun args X=>by go_simp) (by decide) rfl rfl ⟨_,_,_,rfl,by simp⟩ ⟨_,_,_,rfl,by simp⟩ ⟨_,_,_,rfl,by simp⟩ ⟨_,_,_,rfl,by simp⟩ ⟨_,_,_,rfl,by simp⟩ ⟨_,_,_,rfl,by simp⟩ ⟨_,_,_,rfl,by simp⟩ ⟨_,_,_,rfl,by simp⟩ ⟨_,_,_,rfl,by simp⟩ ⟨_,_,_,rfl,by simp⟩ (by kernel_rfl) HC6.o (fun X hX _=>HI6.o X _ g0 g1 g2 g3 g4 g5 g6 ms6 (HR6.o X hX) hX.size) aN ?_
  as_aux_lemma=>
   intro W7 M7 g7 y hF x1 x2;replace x1:=show y 9=_ from x1;replace x2:=show y 10=_ from x2;simp only [sB,Act.put,yA,yB,yC];rw [x1,x2];generalize y 32=u32;generalize y 33=u33;generalize y 34=u34;generalize y 35=u35;generalize y 31=u31;generalize y 36=u36;generalize y 37=u37;clear x1 x2 y;show Exit.then _ _ _ _ _
   have HB67:=zh hF.1;have HB57:=zh (HB56.o.trans (hF.1.mono HB56.o.size));have HF7:=zh (fun (X:qw) (hX:qY W7 X)=>show Blk X g7 (qA M7) 43/\RX C W6.heap.size M7 X from ⟨hF.2.2.1.bw hX,hF.2.2.2.bw hX⟩);have hg7:W6.heap.size<=g7:=hF.2.1;have HE8:=zh (dY M7 M5 W7 (hF.2.2.2.mnd HN.o.2) ((HF5.o W7 HB57.o).2.mnd HN.o.2) (hF.2.2.2.sam (HF5.o W7 HB57.o).2));obtain ⟨p0,p1,p2,p3,p4,p5,p6,p7,p8,p9,p10,p11,p12,p13,p14⟩:=hF.2.2.1.mc;obtain ⟨r0,r1,r2,r3,r4,r5,r6,r7,r8,r9,r10,r11,r12,r13,r14⟩:=(HF5.o W7 HB57.o).1.mc;clear hF HI6 HW6;go_wp2_with fail
   refine HE8.o.mono ?_;rintro e W8 ⟨rfl,hb8⟩;have HB78:=zh hb8;have HB68:=zh (HB67.o.trans (hb8.mono HB67.o.size));clear hb8 HE8 p0 p1 p2 p3 p4 p5 p6 p7 p8 p9 p10 p11 p12 p13 p14 r0 r1 r2 r3 r4 r5 r6 r7 r8 r9 r10 r11 r12 r13 r14;generalize Value.agg (qA M7)=v8N;generalize Value.agg (qA M5)=v8M
   have HK8:=zh (fun (X:qw) (hX:qY W8 X)=>show Blk X X6.heap.size (qK M g0 g1 g2 g3 g4 g5 g6) 43/\Blk X w.heap.size (qA M) 34 from by
    have q:=HB68.o.trans (hX.mono HB68.o.size)
    exact ⟨HK6.o X q,(HK.o X (HB5.o.trans ((HB56.o.trans (q.mono HB56.o.size)).mono HB5.o.size))).1⟩)
   have HB8:=zh (HB5.o.trans ((HB56.o.trans (HB68.o.mono HB56.o.size)).mono HB5.o.size));go_wp2_with fail
   refine wp_region_held_drew (S:=(fun X=>Blk X X6.heap.size (qK M g0 g1 g2 g3 g4 g5 g6) 43/\Blk X w.heap.size (qA M) 34)) (by kernel_rfl) ?_ (fun hHeld=>?_)
   .exact HK8.o _ brf.drew
   refine tkV 0 _ rfl (fun w hSw=>pF hSw.1 rfl) ?_;try simp only [yD,yE,yF,Act.put,yA,yB,yC]
   refine tkV 1 _ rfl (fun w hSw=>aN9 hSw.2 rfl) ?_;try simp only [yD,yE,yF,Act.put,yA,yB,yC]
   refine wpAnyH_ready (rs:=[2]) (by kernel_rfl) (by simp) (AllReadyH.cons rfl (fun K hK=>?_) AllReadyH.nil);go_simp;refine (HTO.o _ HB8.o.drew).mono ?_;rintro e X9 ⟨k0,k1,k2,k3,k4,k5,k6,ms3,rfl,hr,hb⟩;have HX9:=zh ((Below.refl W8.heap.size W8).drew.trans (hb.mono (Below.refl W8.heap.size W8).drew.size))
   have HE1:=zh (show qC 11 #[.agg (qK M g0 g1 g2 g3 g4 g5 g6),.agg (qK M k0 k1 k2 k3 k4 k5 k6)] X9 (fun e w'=>e=.returned (.bool true)/\qY X9 w') from
    dY (M.cp g0 g1 g2 g3 g4 g5 g6 ms6) (M.cp k0 k1 k2 k3 k4 k5 k6 ms3) X9 ((HR6.o X9 (HB68.o.trans (HX9.o.mono HB68.o.size))).mnd HT.o HMB.o) (hr.mnd HT.o HMB.o) (aOu HT.o (HR6.o X9 (HB68.o.trans (HX9.o.mono HB68.o.size))) hr (RowM.same HT.o.m HR.o.m HR.o.n hr.m hr.n)))
   clear hb hr;try go_wp2_with fail
   refine hK.out _ _ ?_ (fun hHeld=>?_)
   .exact HK8.o _ HX9.o
   clear hK K;try simp only [yD,yE,yF,Act.put,yA,yB,yC]
   refine wpAnyH_ready (rs:=[3]) (by kernel_rfl) (by simp) (AllReadyH.cons rfl (fun K hK=>?_) AllReadyH.nil);go_simp;refine HE1.o.mono ?_;rintro e X10 ⟨rfl,hb⟩;have HX10:=zh (HX9.o.trans (hb.mono HX9.o.size));clear hb;try go_wp2_with fail
   refine hK.out _ _ ?_ (fun hHeld=>?_)
   .exact HK8.o _ HX10.o
   clear hK K;try simp only [yD,yE,yF,Act.put,yA,yB,yC]
   refine tkV 4 ?_ rfl ?_ ?_;rotate_left
   ·(intro w hSw;(try dsimp only at hSw);go_simp;try with_reducible rfl)
   try simp only [yD,yE,yF,Act.put,yA,yB,yC]
   refine wpAnyH_done (by kernel_rfl) ?_ _;have HB610:=zh (HB68.o.trans (HX10.o.mono HB68.o.size));have HB710:=zh (HB78.o.trans (HX10.o.mono HB78.o.size));have CX:=zh (aDs M W5.heap.size g0 g1 g2 g3 g4 g5 g6 ms6 w X6 X10 HR.o HT.o HMB.o (HBA.o.trans (HB610.o.mono HBA.o.size)));obtain ⟨m0,m1,m2,m3,m4,m5,m6,m7,m8,m9,m10,m11,m12,m13,m14⟩:=(HK8.o X10 HX10.o).1.mc;clear hHeld HK8 HE1 HX9 HX10;generalize Value.agg (qK M g0 g1 g2 g3 g4 g5 g6)=v10C;generalize Value.agg (qA M)=v10M;generalize Value.agg (qK M k0 k1 k2 k3 k4 k5 k6)=v10N;go_wp2_with fail
   refine CX.o.mono ?_;rintro e W12 ⟨kk,rfl,t12⟩;generalize Value.agg (qK M g0 g1 g2 g3 g4 g5 g6)=v12C
   have HB512:=zh (show qY W5 W12 from by
    have q:=HB56.o.trans (HB610.o.mono HB56.o.size)
    exact aG q t12 (fun j hj=>hj.1) q.size)
   have HF12:=zh (show Blk W12 g7 (qA M7) 43/\RX C W6.heap.size M7 W12 from by
    have q:=HF7.o X10 HB710.o
    exact ⟨aF t12 q.1 (fun s=>by have:=s.2;omega),q.2.turn t12 (fun j hj=>by have:=hj.2;omega)⟩)
   have hk0:¬ ((kk:Nat):Int)<0:=by omega
   obtain ⟨p0,p1,p2,p3,p4,p5,p6,p7,p8,p9,p10,p11,p12,p13,p14⟩:=HF12.o.1.mc;obtain ⟨r0,r1,r2,r3,r4,r5,r6,r7,r8,r9,r10,r11,r12,r13,r14⟩:=(HF5.o W12 HB512.o).1.mc;have HE12:=zh (dY M7 M5 W12 (HF12.o.2.mnd HN.o.2) ((HF5.o W12 HB512.o).2.mnd HN.o.2) (HF12.o.2.sam (HF5.o W12 HB512.o).2));clear t12 m0 m1 m2 m3 m4 m5 m6 m7 m8 m9 m10 m11 m12 m13 m14 CX HB610 HB710 HK6 HR6 HR HBA HB68 HB78 HB67 HB57 HC6 HF7;go_wp2_with fail
   refine HE12.o.mono ?_;rintro e W13 ⟨rfl,hb13⟩;have HF13:Zh (Blk W13 g7 (qA M7) 43/\RX C W6.heap.size M7 W13):=⟨HF12.o.1.bw hb13,HF12.o.2.bw hb13⟩;have HB513:=zh (HB512.o.trans (hb13.mono HB512.o.size));clear hb13 HE12 p0 p1 p2 p3 p4 p5 p6 p7 p8 p9 p10 p11 p12 p13 p14 r0 r1 r2 r3 r4 r5 r6 r7 r8 r9 r10 r11 r12 r13 r14;obtain ⟨nb,ni,nL,nβ,O13,nlo⟩:=HF13.o.2;obtain ⟨cn1,cn2⟩:=O13.cnt;have ln1:=O13.len
   have ln2:M7.mn<=1048576:=by
    have h2:=congrArg List.length O13.e;rw [xH] at h2;have:=HN.o.2;omega
   have CM:=zh (pT M7 nb _ (nL.map hdP) nβ _ _ _ _ _ _ W13 O13.mno (by rw [xH];exact ln1) (by rw [cn1];exact HN.o.1) cn2 ln2);have HCN:=zh (xA cn1 (xA cn2 (xA ln2 nlo)));rw [cn1] at CM;generalize hKQ:mkn C=KQ at CM;have HKQ:=zh hKQ;clear hKQ cn1 cn2 ln1 ln2 O13 nlo;obtain ⟨p0,p1,p2,p3,p4,p5,p6,p7,p8,p9,p10,p11,p12,p13,p14⟩:=HF13.o.1.mc;generalize Value.agg (qA M7)=v13N;generalize Value.agg (qA M5)=v13M;go_wp2_with fail
   refine CM.o.mono ?_;rintro e W14 ⟨rfl,⟨L14,O14,D14⟩,t14⟩;generalize Value.agg (qA M7)=v14N;have k14:=aF t14 HF13.o.1 (fun q=>by obtain ⟨_,cs,t,kq,hq⟩:=q;exact hq (aI kq HF13.o.1));have HN14:Zh (qY W5 W14):=aG HB513.o t14 (fun j hj=>by have:=hj.1.1;have:=HCN.o.2.2.2;omega) HB513.o.size;have CH:=zh (qD M7 nb _ L14 nβ W14 O14 D14 (by rw [HCN.o.1];exact HN.o.1) HCN.o.2.1 HCN.o.2.2.1);rw [HCN.o.1,HKQ.o] at CH;clear p0 p1 p2 p3 p4 p5 p6 p7 p8 p9 p10 p11 p12 p13 p14 O14 D14 t14 CM;obtain ⟨p0,p1,p2,p3,p4,p5,p6,p7,p8,p9,p10,p11,p12,p13,p14⟩:=k14.mc;clear k14;have hKQ0:¬ ((KQ:Nat):Int)<0:=by omega
   have hKQ1:(((KQ:Nat):Int) !=((KQ:Nat):Int))=false:=by simp
   go_wp2_with fail
   refine CH.o.mono ?_;rintro e W15 ⟨rfl,hb15⟩;have HB515:=zh (HN14.o.trans (hb15.mono HN14.o.size));have HBW:=zh (HB5.o.trans (HB515.o.mono HB5.o.size));have HC15:=zh (fun (X:qw) (hX:qY W15 X)=>HK.o X (HBW.o.trans (hX.mono HBW.o.size)));have HI15:=zh (HIE.o W15.heap.size);clear p0 p1 p2 p3 p4 p5 p6 p7 p8 p9 p10 p11 p12 p13 p14 hb15 CH HN14 HF13 HF12 HB513 HB512 HCN HKQ;generalize Value.agg (qA M7)=v15N;go_wp2_with fail
   refine aPx (fun j=>[80,81,82,83,84,79,85,86,14,1000,15].getD j 0) [80,81,82,83,84,79,85,86,14,15] (show SlG 11 9 (fun j=>[80,81,82,83,84,79,85,86,14,1000,15].getD j 0) [80,81,82,83,84,79,85,86,14,15] 96 from aD1 _ _ _ _ _ (by decide)) rfl (fun args X=>by go_simp) (by decide) rfl rfl ⟨_,_,_,rfl,by simp⟩ ⟨_,_,_,rfl,by simp⟩ ⟨_,_,_,rfl,by simp⟩ ⟨_,_,_,rfl,by simp⟩ ⟨_,_,_,rfl,by simp⟩ ⟨_,_,_,rfl,by simp⟩ ⟨_,_,_,rfl,by simp⟩ ⟨_,_,_,rfl,by simp⟩ ⟨_,_,_,rfl,by simp⟩ ⟨_,_,_,rfl,by simp⟩ ⟨_,_,_,rfl,by simp⟩ (by kernel_rfl) HC15.o (fun X hX=>HTO.o X (HBW.o.trans (hX.mono HBW.o.size))) HI15.o aN ?_
   as_aux_lemma=>
    intro W16 M9 g9 y hF x1 x2;replace x1:=show y 14=_ from x1;replace x2:=show y 15=_ from x2;simp only [sB,Act.put,yA,yB,yC];rw [x1,x2];generalize y 80=u80;generalize y 81=u81;generalize y 82=u82;generalize y 83=u83;generalize y 84=u84;generalize y 79=u79;generalize y 85=u85;generalize y 86=u86;clear x1 x2 y;show Exit.then _ _ _ _ _
    have HB516:=zh (HB515.o.trans (hF.1.mono HB515.o.size));obtain ⟨p0,p1,p2,p3,p4,p5,p6,p7,p8,p9,p10,p11,p12,p13,p14⟩:=hF.2.2.1.mc;obtain ⟨r0,r1,r2,r3,r4,r5,r6,r7,r8,r9,r10,r11,r12,r13,r14⟩:=(HF5.o W16 HB516.o).1.mc;have HE16:=zh (dY M9 M5 W16 (hF.2.2.2.mnd HN.o.2) ((HF5.o W16 HB516.o).2.mnd HN.o.2) (hF.2.2.2.sam (HF5.o W16 HB516.o).2));clear hF HI15 HC15 HTO HIE;go_wp2_with fail
    refine HE16.o.mono ?_;rintro e W17 ⟨rfl,hb17⟩;have HE:=zh (HB.o.trans ((HB5.o.trans ((HB516.o.trans (hb17.mono HB516.o.size)).mono HB5.o.size)).mono HB.o.size));clear p0 p1 p2 p3 p4 p5 p6 p7 p8 p9 p10 p11 p12 p13 p14 r0 r1 r2 r3 r4 r5 r6 r7 r8 r9 r10 r11 r12 r13 r14 hb17 HE16;go_wp2;go_ret;exact ⟨rfl,HE.o⟩
