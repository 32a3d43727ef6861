import Derived.Deep.RegionHeld3
import Derived.Test.YtncccmeomcaabaaGreatD20
import Derived.Test.YtncccmeomcaabaaGreatD19
import Derived.Test.YtncccmeomcaabaaGreatBg2
import Derived.Test.YtncccmeomcaabaaGreatBgo
import Derived.Test.YtncccmeomcaabaaGreatBgd
set_option linter.all false
namespace Go.Proofs.YtncccmeomcaabaaGreat
open Go.RowKit Classical
set_option maxRecDepth 100000
structure Bgs (w2 W:qw)(q:Nat)(C:Cn)(M:Mn):Prop where
 b:qY w2 W
 g:w2.heap.size<=q
 k:Blk W q (qA M) 43
 m:∃ base mid Ls β,MxO W base mid C M Ls β/\w2.heap.size<=base/\mid<=q
section
variable {w2 W W':qw}{q:Nat}{C C':Cn}{M M':Mn}
theorem MxO.grz {base mid:Nat}{Ls:List (PMod×Mb)}{β:Nat->Nat}(h:MxO W base mid C M Ls β):MxO W base mid C { M with rz:=C.rz } Ls β:=⟨h.m,h.e,h.k,h.q,h.l,h.h,h.bm,h.bh,h.vs,⟨h.vz.1,h.vz.2.1,h.vz.2.2.1,rfl,h.vz.2.2.2.2⟩⟩
theorem Bgs.bw (h:Bgs w2 W q C M)(hb:qY W W'):Bgs w2 W' q C M:=by
 obtain ⟨base,mid,Ls,β,m,hm⟩:=h.m;exact ⟨h.b.trans (hb.mono h.b.size),h.g,h.k.bw hb,⟨base,mid,Ls,β,m.bw hb,hm⟩⟩
theorem Bgs.put (h:Bgs w2 W q C M)(i:Nat)(v:Value)(e:(qA M:Array Value).setIfInBounds i v=qA M')(hm:∃ base mid Ls β,MxO W base mid C' M' Ls β/\w2.heap.size<=base/\mid<=q):Bgs w2 (W.setCell (qR q i) v) q C' M':=by
 have T:=aC W q i v;obtain ⟨base,mid,Ls,β,m,h1⟩:=hm;have k:=h.k.set i v;rw [e] at k;exact ⟨aG h.b T (fun j hj=>by have:=h.g;omega) h.b.size,h.g,k,⟨base,mid,Ls,β,m.tm (iZ h.k T),h1⟩⟩
theorem Bgs.ram (h:Bgs w2 W q C M){g:Nat}(e:M.ra=qP g)(i:Nat)(hi:i<M.rn):((∃ u,W.cell? (qR g i)=some u)/\W.frozen? (qR g i)=false/\¬ g=q/\¬ q=g)/\Bgs w2 (W.setCell (qR g i) (.int .u8 0)) q { C with rz:=C.rz.set i 0 } { M with rz:=C.rz.set i 0 }:=by
 obtain ⟨base,mid,Ls,β,m,h1,h2⟩:=h.m;have o:=m.q.2.1;rw [e] at o;obtain ⟨cs,kb⟩:=aD o.1 (k:=g) rfl;have T:=aC W g i (.int .u8 0);have n1:g≠q:=fun s=>by rw [s] at kb;exact absurd (aH kb h.k) (by decide)
 have lo:=(o.lt g rfl).1;have bm:=m.bm;have c:=o.bs.at i hi;rw [Nat.zero_add] at c;exact ⟨⟨⟨_,c⟩,kb.frozen i,n1,fun s=>n1 s.symm⟩,⟨aG h.b T (fun j hj=>by omega) h.b.size,h.g,aF T h.k (fun s=>n1 s.symm),⟨base,mid,Ls,β,m.ram e T (by rw [e];exact oM o i hi 0 (by decide)),h1,h2⟩⟩⟩
theorem Bgs.reg (h:Bgs w2 W q C M){g:Nat}(e:M.ka=qP g)(i:Nat)(hi:i<M.kn)(z:Int)(hz:wfi z):((∃ u,W.cell? (qR g i)=some u)/\W.frozen? (qR g i)=false/\¬ g=q/\¬ q=g/\w2.heap.size<=g)/\Bgs w2 (W.setCell (qR g i) (qI z)) q { C with kz:=C.kz.set i z } { M with kz:=C.kz.set i z }:=by
 obtain ⟨base,mid,Ls,β,m,h1,h2⟩:=h.m;have o:=m.k;rw [e] at o;obtain ⟨cs,kb⟩:=aD o.1 (k:=g) rfl;have T:=aC W g i (qI z);have n1:g≠q:=fun s=>by rw [s] at kb;exact absurd (aH kb h.k) (by decide)
 have lo:=(o.lt g rfl).1;have bm:=m.bm;have c:=o.is.at i hi;rw [Nat.zero_add] at c;exact ⟨⟨⟨_,c⟩,kb.frozen i,n1,fun s=>n1 s.symm,by omega⟩,⟨aG h.b T (fun j hj=>by omega) h.b.size,h.g,aF T h.k (fun s=>n1 s.symm),⟨base,mid,Ls,β,m.reg e i hi z hz,h1,h2⟩⟩⟩
end
theorem ovr_zset (zs:qi)(f k:Nat)(h:f+k<zs.length):(ovr zs f (List.replicate k 0)).set (f+k) 0=ovr zs f (List.replicate (k+1) 0):=by
 apply List.ext_getElem?;intro p;rw [List.getElem?_set,aGr _ _ _ _ (by simp;omega),lR _ _ _ (by simp;omega),aGr _ _ _ _ (by simp;omega)];simp only [List.length_replicate,List.getElem?_replicate];by_cases c:f+k=p
 .rw [if_pos c,if_pos h,if_pos (by omega),if_pos (by omega)]
 .rw [if_neg c];by_cases c2:f<=p/\p<f+k
  .rw [if_pos c2,if_pos (by omega),if_pos (by omega),if_pos (by omega)]
  .rw [if_neg c2,if_neg (by omega)]
set_option maxHeartbeats 16000000 in
theorem sBegin_yes (M:Mn)(g b1 o1 b2 o2 b3 o3 b4 o4:Nat)(Ls:List (PMod×Mb))(s:ByteArray)(a:qO)(n cap:Nat)(az:qi)(w:World)(h:MnD w M)(H:MnS w M g b1 o1 b2 o2 b3 o3 b4 o4 Ls)(hs:s.size<=1048576)(ha:IS w a n cap az)(hw:begW M s az):Calls Tryz.prog 14 #[.agg (qA M),.string s,qS a n cap] w (MQ w (.bool true) (begF M s az)):=by
 obtain ⟨U,hU⟩:=eqx ((w.alloc (.cells (qA M) 43)).alloc (.cells qZ 43));have bU:qY w U:=by rw [hU];exact bal.alloc (by simp) _
 have kM:Blk U w.heap.size (qA M) 43:=by rw [hU];exact (Blk.new _ _ _).alloc _
 have kR:Blk U (w.heap.size+1) z15 43:=by rw [hU];have:=Blk.new (w.alloc (.cells (qA M) 43)) z15 43;simpa [z15] using this
 have HVL:=zh (aK8 M U (h.bw bU));have HMS:=zh (fun (X:World) (hX:qY U X)=>xA ((h.bw bU).bw hX) ((H.bw bU).bw hX));have HK:=zh (fun (X:World) (hX:qY U X)=>xA (kM.bw hX) (xA (kR.bw hX) ((ha.bw bU).bw hX)));have HV:=zh (fun (ok:MOk M)=>ok.cv h);have HRS:=zh (fun (ok:MOk M) (X:World) (hX:qY U X)=>((h.m.bw bU).bw hX).resS (eQ.1 ok.l).2.2.2.1 (by have:=(ok.cv h).cf.2.1;have e:M.cn.ps.length=M.mn:=(bT M.ms).trans h.m.s.1;omega) s hs);have hal:=ha.1;have hn0:=ha.2.1;have HWF:=zh ha.2.2.1;have HBB:=zh (begB_iff.2 hw);obtain ⟨ok,h4,⟨m,b,t⟩,hT,htn,htg⟩:=hw;have HOK:=zh ok;have HT:=zh hT;have HEB:=zh (show tgk (aE M.ms) m b t/\M.tn<1000000000 from ⟨htg,htn⟩);have c4':¬ (4:Int)<(n:Int):=by omega
 have HU:=zh hU;have HBU:=zh bU;obtain ⟨x0,x1,x2,x3,x4,x5,x6,x7,x8,x9,x10,x11,x12,x13,x14⟩:=kM.mc;unfold maxLen at hn0;clear hU bU kM kR h H ha ok hT htn htg h4;go_enter Tryz.func14,Tryz.ntmps14
 go_wp2_with (rw [<- HU.o])
 refine HVL.o.mono ?_;rintro e X0 ⟨hb0,y0,n0,d0,i1,y2,n2,d2,i3,i4,y5,n5,d5,bb,rfl,hbb,hly⟩;obtain ⟨w1,hw1,b1',kl⟩:=nwb X0 #[qS y0 n0 d0,qI i1,qS y2 n2 d2,qI i3,qI i4,qS y5 n5 d5] 71;have HB1:=zh (hb0.trans (b1'.mono hb0.size));have HVV:=zh hw1;clear x0 x1 x2 x3 x4 x5 x6 x7 x8 x9 x10 x11 x12 x13 x14 HVL HU hw1;obtain rfl:bb=true:=hbb.2 HOK.o
 obtain ⟨Y,eY,hY,kY⟩:∃ Y:Lyb,Y.L=M.L/\Y.T w1/\Blk w1 X0.heap.size (qL Y.L Y.a0 Y.xs.length Y.c0 Y.a2 Y.L.slots.length Y.c2 Y.a5 Y.ts.length Y.c5) 71:=by
  obtain ⟨a0,c0,xs,a2,c2,a5,c5,ts,ely,lyt⟩:=hly rfl;refine ⟨⟨M.L,a0,c0,xs,a2,c2,a5,c5,ts⟩,rfl,lyt.bw b1',?_⟩;rw [ely] at kl;exact kl
 have HY:=zh (fun (X:World) (hX:qY w1 X)=>xA (hY.bw hX) (kY.bw hX));have HO:=zh (xA HOK.o eY);have m0:=(HK.o w1 HB1.o).1.mc.1;have hR0:=HRS.o HO.o.1 w1 HB1.o;rw [show iD (aE M.ms) s=some (m,b,t) from HT.o] at hR0;have HR:=zh hR0;clear hb0 hbb hly b1' kl hR0 eY hY kY HRS;unfold tgV at HR;dsimp only at HR;go_wp2_with (rw [<- HVV.o])
 refine HR.o.mono ?_;rintro e X1 ⟨rfl,hb1⟩;obtain ⟨V,hV,bV,kV⟩:=nwb X1 (qT m b t) 58;have B1:=hb1.trans (bV.mono hb1.size);have B2:=HB1.o.trans (B1.mono HB1.o.size);clear HVV m0 HR;have HVV:=zh hV;have HTK:=zh (lB M m b t V (HMS.o V B2).1);have HBV:=zh (xA B1 (xA B2 kV));obtain ⟨t0,t1,t2,_⟩:=kV.three;obtain ⟨m0,m1,m2,m3,m4,m5,m6,m7,m8,m9,m10,m11,m12,m13,m14⟩:=(HK.o V B2).1.mc;clear hb1 hV bV kV B1 B2;rw [xR HEB.o] at HTK;go_wp2_with (rw [<- HVV.o])
 refine HTK.o.mono ?_;rintro e X2 ⟨rfl,hb2⟩;have b12:=HBV.o.1.trans (hb2.mono HBV.o.1.size);have HB2:=zh (xA b12 (xA (HB1.o.trans (b12.mono HB1.o.size)) (HBV.o.2.2.bw hb2)));have HCP:=zh (jI M g b1 o1 b2 o2 b3 o3 b4 o4 Ls X2 (HMS.o X2 HB2.o.2.1).2);clear hb2 b12 t0 t1 t2 m0 m1 m2 m3 m4 m5 m6 m7 m8 m9 m10 m11 m12 m13 m14 HTK HBV HVV;obtain ⟨m0,m1,m2,m3,m4,m5,m6,m7,m8,m9,m10,m11,m12,m13,m14⟩:=(HK.o X2 HB2.o.2.1).1.mc;go_wp2_with fail
 refine HCP.o.mono ?_;rintro e X3 ⟨hb3,N,base,mid,L,β,rfl,hm,hq1,hq2⟩;unfold mnV;obtain ⟨V3,hV3,bV3,kA⟩:=nwb X3 (qA N) 43;have S3:Bgs X2 V3 X3.heap.size M.cn N:=⟨hb3.trans (bV3.mono hb3.size),hb3.size,kA,⟨base,mid,L,β,hm.bw bV3,hq1,hq2⟩⟩;have sV3:X3.heap.size<V3.heap.size:=kA.lt;obtain ⟨V4,hV4⟩:=eqx (V3.alloc (.cells #[] 135));have S4:Bgs X2 V4 X3.heap.size M.cn N:=by rw [hV4];exact S3.bw bal
 have x13:=S4.k.e13;have f13:=S4.k.frozen 13;obtain ⟨V5,hV5⟩:=eqx (V4.setCell (qR X3.heap.size 13) (qS (qP V3.heap.size) 0 0))
 have S5:Bgs X2 V5 X3.heap.size { M.cn with hz:=[] } { N with ha:=qP V3.heap.size,hn:=0,hc:=0,hz:=[] }:=by
  obtain ⟨base,mid,Ls,β,x,h1,h2⟩:=S4.m;rw [hV5];exact S4.put 13 _ rfl ⟨base,mid,Ls,β,x.hfr (by rw [hV4];exact bK _ _ _ V3 _ (by omega)),h1,h2⟩
 have sV5:X3.heap.size<V5.heap.size:=S5.k.lt;obtain ⟨V6,hV6⟩:=eqx (V5.alloc (.cells #[] 5));have S6:Bgs X2 V6 X3.heap.size { M.cn with hz:=[] } { N with ha:=qP V3.heap.size,hn:=0,hc:=0,hz:=[] }:=by rw [hV6];exact S5.bw bal
 have x9:=S6.k.e9;have f9:=S6.k.frozen 9;obtain ⟨V7,hV7⟩:=eqx (V6.setCell (qR X3.heap.size 9) (qS (qP V5.heap.size) 0 0));obtain ⟨N7,hN7⟩:=eqx ({ N with ha:=qP V3.heap.size,hn:=0,hc:=0,hz:=[],oa:=qP V5.heap.size,on:=0,oc:=0,oz:=[] }:Mn)
 have S7:Bgs X2 V7 X3.heap.size { M.cn with hz:=[],oz:=[] } { N7 with rz:=M.cn.rz }:=by
  obtain ⟨base,mid,Ls,β,x,h1,h2⟩:=S5.m;rw [hV7,hN7]
  exact S6.put 9 _ rfl ⟨base,mid,Ls,β,MxO.grz ((x.bw (by rw [hV6];exact bal)).oot (by rw [hV6];exact ob_new _ _ (by omega)) (fun k j e f=>by
   have f':V5.heap.size=j:=by simpa [Value.ownBlock] using f
   rw [<- f'];rcases e with e|e
   .exact (x.q.1.lt k e).2
   .exact (x.q.2.1.lt k e).2)),h1,h2⟩
 obtain ⟨⟨s0,s1,s2⟩,s3,_⟩:=(HV.o HO.o.1).st;rw [<- HO.o.2] at s0 s1 s2 s3;have hor:OB X3 mid (qS N.ra N.rn N.rc) M.cn.rz:=hm.q.2.1;obtain ⟨r1,r2,r3⟩:=ob_form hor;obtain ⟨F,hF⟩:=eqx (Y.L.stack-65536).toNat;obtain ⟨K,hK⟩:=eqx (dB Y.L-Y.L.stack).toNat;have HFK:=zh (xA hF hK);have HD:=zh (show dB Y.L=Y.L.stack+(K:Int)/\Y.L.stack=65536+(F:Int) from ⟨by omega,by omega⟩);have HN7:=zh (show N7.ra=N.ra/\N7.rn=N.rn/\N7.rc=N.rc by rw [hN7];exact ⟨rfl,rfl,rfl⟩);have hKF:F+K<=N.rn:=by omega
 have hs0:65536<=Y.L.stack:=by omega
 have hs1:Y.L.stack<=100000:=by omega
 have hF0:F<=40000:=by omega
 have hK0:K<=40000:=by omega
 have HLE:=zh (fun (X:qw) (hX:qY X2 X)=>show qC 60 #[.agg (qL Y.L Y.a0 Y.xs.length Y.c0 Y.a2 Y.L.slots.length Y.c2 Y.a5 Y.ts.length Y.c5)] X (fun e w'=>e=.returned (qI (dB Y.L))/\qY X w') from tY Y.L Y.a0 Y.c0 Y.xs Y.a2 Y.c2 Y.a5 Y.c5 Y.ts X (HY.o X (HB2.o.1.trans (hX.mono HB2.o.1.size))).1);have HLY:=zh (fun (X:qw) (hX:qY X2 X)=>show X.cell? (qR X0.heap.size 0)=some (qS Y.a0 Y.xs.length Y.c0)/\X.cell? (qR X0.heap.size 1)=some (qI Y.L.stack)/\X.cell? (qR X0.heap.size 2)=some (qS Y.a2 Y.L.slots.length Y.c2)/\X.cell? (qR X0.heap.size 3)=some (qI Y.L.flash)/\X.cell? (qR X0.heap.size 4)=some (qI Y.L.ram)/\X.cell? (qR X0.heap.size 5)=some (qS Y.a5 Y.ts.length Y.c5) from (HY.o X (HB2.o.1.trans (hX.mono HB2.o.1.size))).2.z6);obtain ⟨l0,l1,l2,l3,l4,l5⟩:=HLY.o V7 S7.b;have HS7:=zh S7;have HV3:=zh hV3;have HV4:=zh hV4;have HV5:=zh hV5;have HV6:=zh hV6;have HV7:=zh hV7;have HR3:=zh r3;have HR1:=zh r1;clear hb3 hm hq1 hq2 hV3 bV3 kA S3 hV4 S4 hV5 S5 hV6 S6 hV7 S7 hN7 hor hF hK r1 r2 r3 s0 s1 s2 s3 sV3 sV5 HCP;go_wp2_with (first|rw [<- HV3.o]|rw [<- HV4.o]|rw [<- HV5.o]|rw [<- HV6.o]|rw [<- HV7.o])
 clear x13 f13 x9 f9 l0 l1 l2 l3 l4 l5 m0 m1 m2 m3 m4 m5 m6 m7 m8 m9 m10 m11 m12 m13 m14 HV3 HV4 HV5 HV6 HV7;generalize X3.heap.size=q at *;obtain ⟨C1,hC1⟩:=eqx (fun (k:Nat)=>({ M.cn with hz:=[],oz:=[],rz:=ovr M.cn.rz F (List.replicate k 0) }:Cn));have HC1:=zh hC1;obtain ⟨N1,hN1⟩:=eqx (fun (k:Nat)=>({ N7 with rz:=ovr M.cn.rz F (List.replicate k 0) }:Mn));have HN1:=zh hN1;clear hC1 hN1;go_loopw [13] (fun x wr=>∃ k:Nat,k<=K/\x=qI (Y.L.stack+(k:Int))/\Bgs X2 wr q (C1 k) (N1 k)) (fun x _=>K-(intOf x-Y.L.stack).toNat)
 .refine ⟨0,xC _,by rw [Int.natCast_zero,Int.add_zero],?_⟩;rw [HC1.o,HN1.o];have e0:ovr M.cn.rz F (List.replicate 0 0)=M.cn.rz:=by simp [ovr]
  dsimp only;rw [e0];exact HS7.o
 .obtain ⟨k,hk,rfl,S⟩:=hrel;obtain ⟨l0,l1,l2,l3,l4,l5⟩:=HLY.o wr S.b;have HL:=zh (HLE.o wr S.b);clear HS7;by_cases hlt:k<K
  .obtain ⟨gr,hgr⟩:=HR3.o.resolve_left (fun q=>by omega);obtain ⟨p,hp⟩:=eqx (F+k)
   have HSr:=zh (fun (X:qw) (hX:qY wr X)=>show (X.cell? (qR q 8)=some (qS (qP gr) N.rn N.rc))/\((∃ u,X.cell? (qR gr p)=some u)/\X.frozen? (qR gr p)=false/\¬ gr=q/\¬ q=gr)/\Bgs X2 (X.setCell (qR gr p) (.int .u8 0)) q (C1 (k+1)) (N1 (k+1)) from by
    have Sx:=S.bw hX;have eN:N1 k={ N7 with rz:=ovr M.cn.rz F (List.replicate k 0) }:=by rw [HN1.o]
    have c8:=Sx.k.e8;rw [eN] at c8;have h1:=Sx.ram (g:=gr) (by rw [eN];exact HN7.o.1.trans hgr) p (by rw [eN];show p<N7.rn;rw [HN7.o.2.1];omega);refine ⟨?_,h1.1,?_⟩
    .rw [c8];show some (qS N7.ra N7.rn N7.rc)=_;rw [HN7.o.1,HN7.o.2.1,HN7.o.2.2,hgr]
    .have h2:=h1.2;rw [HC1.o,HN1.o] at h2 ⊢;dsimp only at h2 ⊢;have hz:=ovr_zset M.cn.rz F k (by have:=HR1.o;omega);rw [hp] at h2 ⊢;rw [hz] at h2
     exact h2)
   have hpi:Y.L.stack+(k:Int)-65536=(p:Int):=by have:=HD.o;omega
   have hdl:Y.L.stack+(k:Int)<dB Y.L:=by have:=HD.o;omega
   have hpn:p<N.rn:=by omega
   have hpb:p<=100000:=by omega
   have hkb:k<=40000:=by omega
   clear hp;go_wp2_with fail
   refine HL.o.mono ?_;rintro e Xr ⟨rfl,hbr⟩;obtain ⟨x8,⟨⟨u,cu⟩,cf,n1,n2⟩,Sn⟩:=HSr.o Xr hbr;have HSn:=zh Sn;clear Sn S l0 l1 l2 l3 l4 l5 hbr HSr;go_wp2
   go_roundw
   .exact ⟨k+1,by omega,by congr 1;omega,HSn.o⟩
   .simp [intOf];omega
  .obtain ⟨i0,hi,hz0,hz1,hz2⟩:=info_parts jV;have hdl:¬ Y.L.stack+(k:Int)<dB Y.L:=by have:=HD.o;omega
   have HkK:Zh (k=K):=by show k=K;omega
   have HNB:=zh (show N1 k={ N7 with rz:=ovr M.cn.rz F (List.replicate k 0) } by rw [HN1.o]);have HSx:=zh (fun (X:qw) (hX:qY wr X)=>S.bw hX);clear S hF0;go_wp2_with fail
   refine HL.o.mono ?_;rintro e Xr ⟨rfl,hbr⟩;have HBr:=zh hbr;clear hbr l0 l1 l2 l3 l4 l5;go_wp2_with (at_make;refine wpList_make_full _ rfl _ _ 25 rfl Xr.heap.size 3 i0 (qI 0) 1 Tryz.underlying25 hi hz0 hz1 .i64 .i64 _ _ 8 rfl rfl rfl rfl (by rw [hz2];omega) (by unfold maxLen;omega) aN ?_;intro w8 hown hgr8;have S8:=(HSx.o Xr HBr.o).bw (aW hgr8);have x6:=S8.k.e6;have f6:=S8.k.frozen 6)
   have o8:=(jD hown).oi (base:=Xr.heap.size) aN (by decide) (fun z hz=>by rw [List.eq_of_mem_replicate hz];unfold wfi;decide);rw [List.length_replicate] at o8
   have S9:Bgs X2 (w8.setCell (qR q 6) (qS (qP Xr.heap.size) 8 8)) q { C1 k with kz:=rgF az 0 } { N1 k with ka:=qP Xr.heap.size,kn:=8,kc:=8,kz:=rgF az 0 }:=by
    have hlt:q<Xr.heap.size:=(HSx.o Xr HBr.o).k.lt;obtain ⟨base,mid,Ls,β,x,h1,h2⟩:=S8.m;exact S8.put 6 _ rfl ⟨base,mid,Ls,β,x.rgs (o8.mono (by omega)),h1,h2⟩
   have HS9:=zh S9;have n20:¬ Xr.heap.size=q:=by have:=(HSx.o Xr HBr.o).k.lt;omega
   generalize Xr.heap.size=gk at *;clear hown hgr8 S8 x6 f6 o8 S9 hi hz0 hz1 hz2 HSx HBr;go_loopw [14] (fun x wr=>∃ j:Nat,j<=n/\x=qI j/\Bgs X2 wr q { C1 k with kz:=rgF az j } { N1 k with ka:=qP gk,kn:=8,kc:=8,kz:=rgF az j }) (qf n)
   .exact ⟨0,xC _,rfl,HS9.o⟩
   .obtain ⟨j,hj,rfl,S⟩:=hrel;clear HS9;generalize wr=wo at *;have y6:wo.cell? (qR q 6)=some (qS (qP gk) 8 8):=S.k.e6;have BUo:=HB2.o.2.1.trans (S.b.mono HB2.o.2.1.size);by_cases hlt:j<n
    .obtain ⟨ba,off,rfl,hd⟩:=(HK.o wo BUo).2.2.2.2.2.1 (by omega);have hdU:=(HK.o U brf).2.2.at j hlt;have hbU:ba<U.heap.size:=xD U _ hdU;have hsU:=HB2.o.2.1.size;have hck:=hd j hlt;have hz:wfi (az.getD j 0):=HWF.o _ (by rw [xB,List.getElem?_eq_getElem (by omega)];exact List.getElem_mem _);have HL1:=zh (fun (X:qw)=>uA (az.getD j 0) X hz);obtain ⟨⟨⟨u,cu⟩,cf,n1,n2,n3⟩,Sn⟩:=S.reg (g:=gk) rfl j (show j<8 by omega) (az.getD j 0%4294967296) (by unfold wfi;omega);have HSn:=zh (show Bgs X2 (wo.setCell (qR gk j) (qI (az.getD j 0%4294967296))).drew q { C1 k with kz:=rgF az (j+1) } { N1 k with ka:=qP gk,kn:=8,kc:=8,kz:=rgF az (j+1) } from Sn.bw brf.drew);have n4:¬ ba=gk:=by omega
     have n5:¬ gk=ba:=by omega
     have hj8:(j:Int)<8:=by omega
     have hjn:(j:Int)<(n:Int):=by omega
     generalize az.getD j 0=z at *;clear S Sn hd hdU hbU hsU n3 BUo hal hz HWF HL HLE HLY;go_wp2_with fail
     go_region_held3 (fun w'=>w'.cell? (qR q 6)=some (qS (qP gk) 8 8)/\w'.cell? (qR ba (off+j))=some (qI z)) (go_keep)
      (first
        | (go_at_call 61;refine (HL1.o _).mono ?_;rintro e Xw ⟨rfl,rfl⟩))
     go_wp2
     go_roundw
     .exact ⟨j+1,by omega,by go_num,HSn.o⟩
     .simp [qf,intOf];omega
    .have hjn:¬ (j:Int)<(n:Int):=by omega
     have hwD:wfi (dB Y.L):=by have:=HD.o;unfold wfi;omega
     obtain ⟨M10,hM10⟩:=eqx ({ N1 k with ka:=qP gk,kn:=8,kc:=8,kz:=(rgF az j).set 6 (dB Y.L) }:Mn);have HKA:=zh (show M10.ka=qP gk/\M10.kn=8/\M10.kc=8 by rw [hM10];exact ⟨rfl,rfl,rfl⟩)
     have HSf:=zh (fun (X:qw) (hX:qY wo X)=>show X.cell? (qR q 6)=some (qS (qP gk) 8 8)/\((∃ u,X.cell? (qR gk 6)=some u)/\X.frozen? (qR gk 6)=false/\¬ gk=q/\¬ q=gk/\X2.heap.size<=gk)/\Bgs X2 (X.setCell (qR gk 6) (qI (dB Y.L))) q (fgC M.cn Y.L az) M10 from by
      have Sx:=S.bw hX;have r:=Sx.reg (g:=gk) rfl 6 (show 6<8 by decide) (dB Y.L) hwD;refine ⟨Sx.k.e6,r.1,?_⟩
      have e:fgC M.cn Y.L az={ C1 k with kz:=(rgF az j).set 6 (dB Y.L) }:=by
       rw [HC1.o];unfold fgC fgA;rw [<- HFK.o.1,<- HFK.o.2,HkK.o,hal,show j=n by omega]
      rw [e,hM10]
      exact r.2)
     have hX0:X0.heap.size<X2.heap.size:=by have:=(HY.o X2 HB2.o.1).2.lt;exact this
     have HEN:=zh (fun (Z:qw) (hZ:Bgs X2 Z q (fgC M.cn Y.L az) M10)=>show qC 62 #[.agg (qA M10),.agg (qL Y.L Y.a0 Y.xs.length Y.c0 Y.a2 Y.L.slots.length Y.c2 Y.a5 Y.ts.length Y.c5),.agg (qT m b t)] Z (fun e w'=>∃ M',e=.returned (.agg (qA M'))/\(∃ base mid L β,MxO w' base mid (gJ (fgC M.cn Y.L az) Y.L m b t) M' L β/\X2.heap.size<=base)/\qY X2 w') from by
      obtain ⟨base,mid,L,β,mm,h1,h2⟩:=hZ.m;refine (aDc X2 base mid L β Y _ M10 m b t Z mm hZ.b h1 (HY.o X2 HB2.o.1).1 (by rw [HO.o.2];exact fgC_cv (HV.o HO.o.1) az) HEB.o.2 HEB.o.1).mono ?_;rintro e w' ⟨M',he,hm',hb',_⟩
      exact ⟨M',he,⟨base,mid,L,β,hm',h1⟩,hb'⟩)
     obtain ⟨l0,l1,l2,l3,l4,l5⟩:=HLY.o wo S.b;have HLF:=zh (fun (X:qw) (hX:qY wo X)=>(HLE.o X (S.b.trans (hX.mono S.b.size))).mono (fun e w' he=>show e=.returned (qI (dB Y.L))/\qY wo w' from ⟨he.1,hX.trans (he.2.mono hX.size)⟩));have HSb:=zh S.b;clear S BUo hM10 HLE HL HWF HN1 HC1 HNB;go_wp2_with fail
     go_region_held3 (fun w'=>w'.cell? (qR q 6)=some (qS (qP gk) 8 8)/\w'.cell? (qR X0.heap.size 0)=some (qS Y.a0 Y.xs.length Y.c0)/\w'.cell? (qR X0.heap.size 1)=some (qI Y.L.stack)/\w'.cell? (qR X0.heap.size 2)=some (qS Y.a2 Y.L.slots.length Y.c2)/\w'.cell? (qR X0.heap.size 3)=some (qI Y.L.flash)/\w'.cell? (qR X0.heap.size 4)=some (qI Y.L.ram)/\w'.cell? (qR X0.heap.size 5)=some (qS Y.a5 Y.ts.length Y.c5)) (go_keep)
      (first
        | (go_at_call 60;first
            | with_reducible refine (HLF.o _ brf).mono ?_
            | with_reducible refine (HLF.o _ brf.drew).mono ?_
           rintro e Xe ⟨rfl,hbe⟩;obtain ⟨l0,l1,l2,l3,l4,l5⟩:=HLY.o Xe (HSb.o.trans (hbe.mono HSb.o.size));obtain ⟨y6,⟨⟨u,cu⟩,cf,n1,n2,n3⟩,Sf⟩:=HSf.o Xe hbe;have HSF:=zh Sf;have n4:¬ X0.heap.size=gk:=(by omega);have n5:¬ gk=X0.heap.size:=(by omega);clear Sf hbe))
     clear y6 cu cf l0 l1 l2 l3 l4 l5;obtain ⟨m0,m1,m2,m3,m4,m5,m6,m7,m8,m9,m10,m11,m12,m13,m14⟩:=HSF.o.k.mc;obtain ⟨l0,l1,l2,l3,l4,l5⟩:=HLY.o _ HSF.o.b;obtain ⟨t0,t1,t2,_⟩:=(HB2.o.2.2.bw HSF.o.b).three;have HBF:=zh (show begF M s az=gJ (fgC M.cn Y.L az) Y.L m b t by unfold begF;rw [HBB.o,if_pos rfl,show iD M.cn.ps s=some (m,b,t) from HT.o,<- HO.o.2];rfl);have h9:=HEN.o _ HSF.o;unfold qA at h9;rw [HKA.o.1,HKA.o.2.1,HKA.o.2.2] at h9 m6;have HE9:=zh h9;clear h9;clear HSf HEN HLF HLY HSb;go_wp2_with fail
     refine HE9.o.mono ?_;rintro e X9 ⟨M',rfl,⟨base,mid,L,β,hm9,hq9⟩,hb9⟩;have B9:=HB2.o.2.1.trans (hb9.mono HB2.o.2.1.size);have kr:=(HK.o X9 B9).2.1;have KR:=kr;unfold z15 at KR;obtain ⟨r0,r1,r2,r3,r4,r5,r6,r7,r8,r9,r10,r11,r12,r13,r14⟩:=KR.mc;have rf:=KR.frozen
     have HF:=zh (show MQ w (.bool true) (begF M s az) (.returned (.tuple #[.agg (qA M'),.bool true])) (stM X9 (w.heap.size+1) M') from by
      rw [HBF.o]
      exact kP (HBU.o.trans (B9.mono HBU.o.size)) kr (by omega) hm9 (xM (HBU.o.trans (HB2.o.2.1.mono HBU.o.size)).size hq9))
     have HKR:=zh kr;clear m0 m1 m2 m3 m4 m5 m6 m7 m8 m9 m10 m11 m12 m13 m14 l0 l1 l2 l3 l4 l5 t0 t1 t2 hm9 hq9 hb9 B9 kr KR HE9 HSF;go_wp2;exact lH M' rfl HKR.o rfl rfl HF.o
