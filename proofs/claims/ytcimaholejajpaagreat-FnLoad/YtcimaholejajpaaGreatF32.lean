import Derived.Test.YtcimaholejajpaaGreatF28
import Derived.Test.YtcimaholejajpaaGreatF31
set_option linter.all false
namespace Go.Proofs.YtcimaholejajpaaGreat
open Go.RowKit
open Go.Proofs.Tryz
set_option maxRecDepth 100000
theorem aG8 {W:qw}{base mid:Nat}{C:Lc}{M:Mn}{L:List (PMod×Mb)}{β:Nat->Nat}(h:LdO W base mid C M L β)(hC:LdB C):(M.mn<=4/\M.ln<=4/\M.hn=0)/\∀ i,i<M.mn->(M.ms.getD i zMd).bn<=100/\(M.ms.getD i zMd).im<=100/\(M.ms.getD i zMd).en<=100:=by
 have hl:=h.len hC;have hd:=h.mnd hC;have n1:=iL h.l;have n2:=iL h.h;refine ⟨⟨by omega,by have:=hC.n;omega,n2⟩,fun i hi=>?_⟩;have hm:=hd.m.d i hi
 have hP:bI (M.ms.getD i zMd).pm=0:=by
  refine hC.v _ ?_;have e:aF M.ms=C.ps:=by rw [h.vz.1,h.m.pms];exact h.e
  rw [<- e,<- cD (by have:=hd.m.s.1;omega)];rw [xB,List.getElem?_eq_getElem (by rw [bQ];have:=hd.m.s.1;omega)];exact List.getElem_mem _
 obtain ⟨v1,v2,v3,v4,_⟩:=bS hP;have l1:(M.ms.getD i zMd).pm.es.length=(M.ms.getD i zMd).en:=hm.e.1;have l2:(M.ms.getD i zMd).pm.ss.length=(M.ms.getD i zMd).im:=hm.i.1;have l3:(M.ms.getD i zMd).pm.bl.length=(M.ms.getD i zMd).bn:=by have:=hm.b.1;unfold Md.pm;simpa using this
 omega
set_option maxHeartbeats 8000000 in
theorem aA9 (a:qO)(n c:Nat)(zs:qi)(w:qw)(h:BS w a n c zs):qC 3 #[qS a n c] w (qB w (.bool true)):=by
 have hmx:=h.2.1;unfold maxLen at hmx;by_cases cn:1048576<n
 .have cn':(1048576:Int)<(n:Int):=by omega
  clear h;go_enter func3,ntmps3
  go_wp2;go_ret;exact ⟨rfl,brf⟩
 have cn':¬ (1048576:Int)<(n:Int):=by omega
 have HDL:=zh (zM a n c zs w h);clear h;go_enter func3,ntmps3
 go_wp2_with fail
 refine HDL.o.mono ?_;rintro e w1 ⟨g,m,cp,gs,cz,bl,x1,x2,x3,x4,rfl,I,hm,b1⟩;obtain ⟨V1,hV1,bV1,kC⟩:=nwb w1 (qW x1 x2 x3 x4) 25;have CS:=zh (aEp g m cp gs cz bl x1 x2 x3 x4 V1 (I.bw bV1) (by omega));have HK:=zh (fun (X:qw) (hX:qY V1 X)=>xA (kC.bw hX) ((I.bw bV1).bw hX));have HB1:=zh (b1.trans (bV1.mono b1.size));have HV1:=zh hV1;obtain ⟨c0,c1,c2,c3⟩:=kC.z4;clear I b1 hV1 bV1 kC HDL;go_wp2_with (rw [<- HV1.o])
 refine CS.o.mono ?_;rintro e w2 ⟨hb2,M2,base2,mid2,L2,β2,rfl,O2,hq2,_⟩;unfold mnV;obtain ⟨V2,hV2,bV2,k2⟩:=nwb w2 (qA M2) 37;have b12:=hb2.trans (bV2.mono hb2.size);have CI:=zh ((aFg g m cp gs cz bl x1 x2 x3 x4 V2 (HK.o V2 b12).2 (by omega)).mono (fun e w' he=>aMq he));have HO2:=zh (fun (X:qw) (hX:qY V2 X)=>xA (k2.bw hX) ((O2.bw bV2).bw hX));have HB2:=zh (HB1.o.trans (b12.mono HB1.o.size));have HV2:=zh hV2;clear c0 c1 c2 c3;obtain ⟨c0,c1,c2,c3⟩:=(HK.o V2 b12).1.z4;clear hb2 O2 hq2 hV2 bV2 k2 b12 CS HV1 HK;go_wp2_with (rw [<- HV2.o])
 refine CI.o.mono ?_;rintro e w3 ⟨hb3,M3,base3,mid3,L3,β3,rfl,O3,hq3,_⟩;unfold mnV;obtain ⟨V3,hV3,bV3,k3⟩:=nwb w3 (qA M3) 37;have b23:=hb3.trans (bV3.mono hb3.size);have O3':=O3.bw bV3;obtain ⟨k2,O2⟩:=HO2.o V3 b23;have HC:=aMr (zsL bl) m x1 x2 x3 x4;obtain ⟨⟨s1,s2,s3⟩,s4⟩:=aG8 O3' HC;have HSM:=zh (nV M3 M2 V3 (O3'.mnd HC) (O2.mnd HC) (O3'.sam O2 HC) s3 s1 s2 s4);have HMO:=zh (fun (X:qw) (hX:qY V3 X)=>sI M3 X ((O3'.mnd HC).bw hX));have HY:=zh (fun (h0:(ldc (zsL bl) m x1 x2 x3 x4).1=0)=>aMs O3' h0);have HN:=zh (fun (h0:(ldc (zsL bl) m x1 x2 x3 x4).1≠0)=>aNr O3' h0);have HB3:=zh (HB2.o.trans (b23.mono HB2.o.size));have HK3:=zh (fun (X:qw) (hX:qY V3 X)=>xA (k3.bw hX).mc (k2.bw hX).mc);have HV3:=zh hV3;generalize (ldc (zsL bl) m x1 x2 x3 x4).1=C0 at *;generalize (ldc (zsL bl) m x1 x2 x3 x4).2=P0 at *;obtain ⟨⟨m0,m1,m2,m3,m4,m5,m6,m7,m8,m9,m10,m11,m12,m13,m14⟩,p0,p1,p2,p3,p4,p5,p6,p7,p8,p9,p10,p11,p12,p13,p14⟩:=HK3.o V3 brf;have hC0:(C0 !=C0)=false:=by simp
 have hP0:(((P0:Nat):Int) !=((P0:Nat):Int))=false:=by simp
 clear hb3 O3 hq3 hV3 bV3 k3 k2 O2 O3' b23 HC s1 s2 s3 s4 c0 c1 c2 c3 CI HV2 HO2 HB1 HB2;by_cases c0:C0=0
 .have hok:=HY.o c0;have hne:(C0 !=0)=false:=by simp [c0]
  have HOK:=zh hok;clear HY HN hok c0;go_wp2_with (rw [<- HV3.o])
  refine HSM.o.mono ?_;rintro e w4 ⟨rfl,hb4⟩;clear m0 m1 m2 m3 m4 m5 m6 m7 m8 m9 m10 m11 m12 m13 m14 p0 p1 p2 p3 p4 p5 p6 p7 p8 p9 p10 p11 p12 p13 p14;obtain ⟨m0,m1,m2,m3,m4,m5,m6,m7,m8,m9,m10,m11,m12,m13,m14⟩:=(HK3.o w4 hb4).1;have HM4:=zh (HMO.o w4 hb4);have HB4:=zh (HB3.o.trans (hb4.mono HB3.o.size));clear hb4 HSM HMO HV3 HK3;go_wp2_with fail
  refine HM4.o.mono ?_;intro e w5 he;obtain ⟨rfl,hb5⟩:=nY he true (by simp [HOK.o]);have HE:=zh (HB4.o.trans (hb5.mono HB4.o.size));clear he hb5 m0 m1 m2 m3 m4 m5 m6 m7 m8 m9 m10 m11 m12 m13 m14;go_wp2;go_ret;exact ⟨rfl,HE.o⟩
 .obtain ⟨hmn,hno⟩:=HN.o c0;have hne:(C0 !=0)=true:=by simpa using c0
  have hm0:(((M3.mn:Nat):Int)==0)=true:=by simp [hmn]
  have HNO:=zh hno;clear HY HN hmn hno c0;go_wp2_with (rw [<- HV3.o])
  refine (HMO.o V3 brf).mono ?_;intro e w5 he;obtain ⟨rfl,hb5⟩:=nY he false (by simp [HNO.o]);have HE:=zh (HB3.o.trans (hb5.mono HB3.o.size));clear he hb5 m0 m1 m2 m3 m4 m5 m6 m7 m8 m9 m10 m11 m12 m13 m14 p0 p1 p2 p3 p4 p5 p6 p7 p8 p9 p10 p11 p12 p13 p14;go_wp2;go_ret;exact ⟨rfl,HE.o⟩
