import Derived.Test.YtncccmeomcaabaaGreatR34
import Derived.Test.YtncccmeomcaabaaGreatR39
set_option linter.all false
namespace Go.Proofs.YtncccmeomcaabaaGreat
open Go.RowKit Classical
open Go.Proofs.Tryz
set_option maxRecDepth 100000
theorem iN {W:qw}{G:Nat}(k1:Blk W G zL 71)(v0 v1 v2 v3 v4 v5:Value)(b:Bool)(Q:Ending->World->Prop)(tmps:Array Value)(h2:tmps[2]?=some (.pointer (qP G)))(h3:tmps[3]?=some (.bool b))(hQ:Q (.returned (.tuple #[.agg #[v0,v1,v2,v3,v4,v5],.bool b])) (st6 W G v0 v1 v2 v3 v4 v5)):
 bodyPost prog f90 Q Exit.ret ⟨tmps,[]⟩ (st6 W G v0 v1 v2 v3 v4 v5):=by
 have k:=jI k1 v0 v1 v2 v3 v4 v5;obtain ⟨t0,t1,t2,t3,t4,t5⟩:=k.z6;refine bodyPost_ret_by (v:=.tuple #[.agg #[v0,v1,v2,v3,v4,v5],.bool b]) ?_ rfl hQ;simp [results,results90,go_sem,h2,h3,t0,t1,t2,t3,t4,t5]
set_option maxHeartbeats 64000000 in
theorem pI (M:Mn)(w:qw)(h:MnD w M):qC 90 #[.agg (qA M)] w (VlP w M):=by
 obtain ⟨U,hU,bU,kU⟩:=nwb w (qA M) 43;obtain ⟨V,hV,bV,kV⟩:=nwb U qz 71;have BV:=bU.trans (bV.mono bU.size);have kU':=kU.bw bV;have hUs:w.heap.size<=U.heap.size:=bU.size;have hUV:U.heap.size<V.heap.size:=kV.lt;obtain ⟨L,hL⟩:=eqx (M.L);have HLB:=zh (show LayB L from by rw [hL];exact qQ _ _ _ _ _);have HLV:=zh (show wfi L.stack/\wfi L.flash/\wfi L.ram from by rw [hL];exact aF5 _ _ _ _ _)
 have HLK:=zh (show qC 153 #[qS M.ma M.mn M.mc,.agg (qW M.cs M.cw M.ck M.cd)] V (fun e w'=>qY V w'/\∃ a0 c0 xs a2 c2 a5 c5 ts,e=.returned (.tuple #[.agg (qJ L a0 xs c0 a2 c2 a5 ts c5),qI (lkc (aE M.ms) M.cs M.cw M.ck M.cd)])/\LayO w' V.heap.size L a0 c0 xs a2 c2 a5 c5 ts) from by
  have:=wV M.ma M.mn M.mc M.ms M.cs M.cw M.ck M.cd V (h.m.bw BV);unfold LkM mF at this;rw [show lkL (aE M.ms) M.cs M.cw M.ck M.cd=L from hL.symm] at this
  exact this)
 have HLO:=zh (fun (e:lkc (aE M.ms) M.cs M.cw M.ck M.cd=0)=>show Lok (aE M.ms) L from by
  have:=aEc e;rw [hL];unfold Mn.L lkL;rw [if_pos e]
  exact this)
 have HDV:=zh (h.bw BV);have HU:=zh hU;have HV:=zh hV;have HB:=zh BV;have HEL:=zh hL;have HUS:=zh (xA hUs hUV);have HK:=zh (fun (X:qw) (hX:qY V X)=>xA (kU'.bw hX) (kV.bw hX));have HEN:=zh (fun (X:qw) (hX:qY V X) (v0 v1 v2 v3 v4 v5:Value)=>show qY w (st6 X U.heap.size v0 v1 v2 v3 v4 v5) from aG (BV.trans (hX.mono BV.size)) (cD _ _ _ _ _ _ _ _) (fun j hj=>by have e:j=U.heap.size:=hj;omega) (by have h1:=BV.size;have h2:=hX.size;omega));obtain ⟨m0,m1,m2,m3,m4,m5,m6,m7,m8,m9,m10,m11,m12,m13,m14⟩:=kU'.mc;clear hU hV bU bV kU kU' kV BV h hL hUs hUV;generalize hC:lkc (aE M.ms) M.cs M.cw M.ck M.cd=C at *;have HCE:=zh hC;clear hC;go_enter func90,ntmps90
 go_wp2_with (first|rw [<- HU.o]|rw [<- HV.o])
 refine HLK.o.mono ?_;rintro e X1 ⟨hb1,a0,c0,xs,a2,c2,a5,c5,ts,rfl,O⟩;obtain ⟨W,hW,bW,kW⟩:=nwb X1 (qJ L a0 xs c0 a2 c2 a5 ts c5) 71;have BW:=hb1.trans (bW.mono hb1.size);have HW:=zh hW;have HBW:=zh BW;have OW:=O.below' bW;have HOW:=zh OW;have HLT:=zh (OW.lyt HLB.o.r HLV.o);have HC:=zh (fun (X:qw) (hX:qY W X)=>xA ((HK.o X (BW.trans (hX.mono BW.size))).1) (xA ((HK.o X (BW.trans (hX.mono BW.size))).2) (kW.bw hX)));have HVX:=zh (fun (X:qw) (hX:qY W X)=>BW.trans (hX.mono BW.size));clear m0 m1 m2 m3 m4 m5 m6 m7 m8 m9 m10 m11 m12 m13 m14 HU HV HLK hW bW kW BW OW O hb1 HK;obtain ⟨m0,m1,m2,m3,m4,m5,m6,m7,m8,m9,m10,m11,m12,m13,m14⟩:=(HC.o W brf).1.mc;obtain ⟨l0,l1,l2,l3,l4,l5⟩:=(HC.o W brf).2.2.ly6;by_cases c0':¬ C=0
 .have c0'':(C !=0)=true:=by simp [c0']
  have HN:Zh (¬ MOk M):=fun q=>c0' (by rw [<- HCE.o];exact q.l);clear c0';obtain ⟨r0,r1,r2,r3,r4,r5⟩:=(HC.o W brf).2.1.ly6;have rf:=(HC.o W brf).2.1.frozen;have k1:=(HC.o W brf).2.1;have hEN:=HEN.o W HBW.o;go_wp2_with (rw [<- HW.o])
  exact iN k1 (qS none 0 0) (qI 0) (qS none 0 0) (qI 0) (qI 0) (qS none 0 0) false _ _ rfl rfl (dP (hEN _ _ _ _ _ _) HN.o)
 replace c0':C=0:=xZ.1 c0';have c0'':(C !=0)=false:=by simp [c0']
 have HE0:=zh (show lkc (aE M.ms) M.cs M.cw M.ck M.cd=0 from by rw [HCE.o];exact c0');have HL0:=zh (HLO.o (by rw [<- HCE.o];exact HE0.o));have HX0:=zh c0';clear c0' HLO;obtain ⟨b0,hb0⟩:=fX (uJ (aE M.ms) L)
 have HPF:=zh (fun (X:qw) (hX:qY W X)=>(zW M.ma M.mn M.mc M.ms L a0 c0 xs a2 c2 a5 c5 ts X ((HDV.o.m.bw HBW.o).bw hX) (HLT.o.bw hX) HL0.o).mono (fun e w' he=>show e=.returned (.bool b0)/\qY X w' from by
  obtain ⟨r,h1,h2,h3⟩:=he;have:r=b0:=by rw [xJ,h2,hb0]
  exact ⟨by rw [h1,this],h3⟩))
 have HCO:=zh (fun (X:qw) (hX:qY W X)=>aE3 M.pc M.ka M.kn M.kc M.kz X ((HDV.o.k.bw HBW.o).bw hX));obtain ⟨b2,hb2⟩:=fX (mok M.fn M.rn M.on=true/\imF (aE M.ms) L=M.fz/\(M.rn:Int)=L.ram);have HME:=zh (fun (X:qw) (hX:qY W X)=>(aAj M L a0 c0 xs a2 c2 a5 c5 ts X ((HDV.o.bw HBW.o).bw hX) (HLT.o.bw hX) HL0.o).mono (fun e w' he=>mK he b2 hb2));obtain ⟨b3,hb3⟩:=fX (cU (aE M.ms) L M.cs M.cw M.tn M.rz M.lz);have HSL:=zh (fun (hr:(M.rn:Int)=L.ram) (X:qw) (hX:qY W X)=>(aBt M L a0 c0 xs a2 c2 a5 c5 ts X ((HDV.o.bw HBW.o).bw hX) (HLT.o.bw hX) HEL.o HE0.o hr).mono (fun e w' he=>mK he b3 hb3));obtain ⟨b4,hb4⟩:=fX (vA (aE M.ms) M.cs M.md M.bk M.lz);have HRU:=zh (fun (X:qw) (hX:qY W X)=>(aDu M X ((HDV.o.bw HBW.o).bw hX)).mono (fun e w' he=>mK he b4 hb4));obtain ⟨b5,hb5⟩:=fX (jM (aE M.ms) M.cd M.hz);have HSH:=zh (fun (X:qw) (hX:qY W X)=>(zD M X ((HDV.o.bw HBW.o).bw hX)).mono (fun e w' he=>mK he b5 hb5));have HIU:=zh (cX M.tn 1000000000);obtain ⟨t,ht⟩:∃ t:Bool,t=decide (0<=M.tn/\M.tn<=1000000000):=⟨_,rfl⟩;rw [<- ht] at HIU;obtain ⟨b1,hb1⟩:∃ b:Bool,b=cok M.pc M.kn M.kz:=⟨_,rfl⟩;rw [<- hb1] at HCO;have HF0:=zh (fun (e:b0=false)=>show ¬ MOk M from fun q=>by have:=hb0.2 (by rw [HEL.o];exact q.p);rw [e] at this;cases this);have HFt:=zh (fun (e:t=false)=>show ¬ MOk M from fun q=>by rw [e] at ht;exact absurd q.t (of_decide_eq_false ht.symm));have HF1:=zh (fun (e:b1=false)=>show ¬ MOk M from fun q=>by have:=q.c;rw [<- hb1,e] at this;cases this);have HF2:=zh (fun (e:b2=false)=>show ¬ MOk M from fun q=>by have:=hb2.2 ⟨q.b,by rw [HEL.o];exact q.f,by rw [HEL.o];exact q.r⟩;rw [e] at this;cases this);have HF3:=zh (fun (e:b3=false)=>show ¬ MOk M from fun q=>by have:=hb3.2 (by rw [HEL.o];exact q.s);rw [e] at this;cases this);have HF4:=zh (fun (e:b4=false)=>show ¬ MOk M from fun q=>by have:=hb4.2 q.n;rw [e] at this;cases this);have HF5:=zh (fun (e:b5=false)=>show ¬ MOk M from fun q=>by have:=hb5.2 q.h;rw [e] at this;cases this);have HRR:=zh (fun (e:b2=true)=>(hb2.1 e).2.2)
 have HYY:=zh (fun (e0:b0=true) (et:t=true) (e1:b1=true) (e2:b2=true) (e3:b3=true) (e4:b4=true) (e5:b5=true)=>show MOk M from
  ⟨HE0.o,by have:=hb0.1 e0;rw [HEL.o] at this;exact this,by rw [<- hb1,e1],(hb2.1 e2).1,by have:=(hb2.1 e2).2.1;rw [HEL.o] at this;exact this,by have:=(hb2.1 e2).2.2;rw [HEL.o] at this;exact this,by rw [et] at ht;exact of_decide_eq_true ht.symm,by have:=hb3.1 e3;rw [HEL.o] at this;exact this,hb4.1 e4,hb5.1 e5⟩)
 clear hb0 hb1 hb2 hb3 hb4 hb5 ht HDV HCE;go_wp2_with (rw [<- HW.o])
 refine (HPF.o W brf).mono ?_;rintro e Y0 ⟨rfl,hb⟩;have HY0:=zh hb;clear hb HW m0 m1 m2 m3 m4 m5 m6 m7 m8 m9 m10 m11 m12 m13 m14 l0 l1 l2 l3 l4 l5;obtain ⟨m0,m1,m2,m3,m4,m5,m6,m7,m8,m9,m10,m11,m12,m13,m14⟩:=(HC.o Y0 HY0.o).1.mc;obtain ⟨l0,l1,l2,l3,l4,l5⟩:=(HC.o Y0 HY0.o).2.2.ly6;obtain ⟨r0,r1,r2,r3,r4,r5⟩:=(HC.o Y0 HY0.o).2.1.ly6;have rf:=(HC.o Y0 HY0.o).2.1.frozen;cases b0 with
 | false=>
   have HN:=zh (HF0.o (by simp));have k1:=(HC.o Y0 HY0.o).2.1;have hEN:=HEN.o Y0 (HVX.o Y0 HY0.o);go_wp2;exact iN k1 (qS none 0 0) (qI 0) (qS none 0 0) (qI 0) (qI 0) (qS none 0 0) false _ _ rfl rfl (dP (hEN _ _ _ _ _ _) HN.o)
 | true=>
 go_wp2_with fail
 refine (HIU.o _).mono ?_;rintro e Yt ⟨rfl,rfl⟩;cases t with
 | false=>
   have HN:=zh (HFt.o (by simp));have k1:=(HC.o Y0 HY0.o).2.1;have hEN:=HEN.o Y0 (HVX.o Y0 HY0.o);go_wp2;exact iN k1 (qS none 0 0) (qI 0) (qS none 0 0) (qI 0) (qI 0) (qS none 0 0) false _ _ rfl rfl (dP (hEN _ _ _ _ _ _) HN.o)
 | true=>
 go_wp2_with fail
 refine (HCO.o _ HY0.o).mono ?_;rintro e Y1 ⟨rfl,hb⟩;have HY1:=zh (HY0.o.trans (hb.mono HY0.o.size));clear hb m0 m1 m2 m3 m4 m5 m6 m7 m8 m9 m10 m11 m12 m13 m14 l0 l1 l2 l3 l4 l5 r0 r1 r2 r3 r4 r5 rf;obtain ⟨m0,m1,m2,m3,m4,m5,m6,m7,m8,m9,m10,m11,m12,m13,m14⟩:=(HC.o Y1 HY1.o).1.mc;obtain ⟨l0,l1,l2,l3,l4,l5⟩:=(HC.o Y1 HY1.o).2.2.ly6;obtain ⟨r0,r1,r2,r3,r4,r5⟩:=(HC.o Y1 HY1.o).2.1.ly6;have rf:=(HC.o Y1 HY1.o).2.1.frozen;cases b1 with
 | false=>
   have HN:=zh (HF1.o (by simp));have k1:=(HC.o Y1 HY1.o).2.1;have hEN:=HEN.o Y1 (HVX.o Y1 HY1.o);go_wp2;exact iN k1 (qS none 0 0) (qI 0) (qS none 0 0) (qI 0) (qI 0) (qS none 0 0) false _ _ rfl rfl (dP (hEN _ _ _ _ _ _) HN.o)
 | true=>
 go_wp2_with fail
 refine (HME.o _ HY1.o).mono ?_;rintro e Y2 ⟨rfl,hb⟩;have HY2:=zh (HY1.o.trans (hb.mono HY1.o.size));clear hb m0 m1 m2 m3 m4 m5 m6 m7 m8 m9 m10 m11 m12 m13 m14 l0 l1 l2 l3 l4 l5 r0 r1 r2 r3 r4 r5 rf;obtain ⟨m0,m1,m2,m3,m4,m5,m6,m7,m8,m9,m10,m11,m12,m13,m14⟩:=(HC.o Y2 HY2.o).1.mc;obtain ⟨l0,l1,l2,l3,l4,l5⟩:=(HC.o Y2 HY2.o).2.2.ly6;obtain ⟨r0,r1,r2,r3,r4,r5⟩:=(HC.o Y2 HY2.o).2.1.ly6;have rf:=(HC.o Y2 HY2.o).2.1.frozen;cases b2 with
 | false=>
   have HN:=zh (HF2.o (by simp));have k1:=(HC.o Y2 HY2.o).2.1;have hEN:=HEN.o Y2 (HVX.o Y2 HY2.o);go_wp2;exact iN k1 (qS none 0 0) (qI 0) (qS none 0 0) (qI 0) (qI 0) (qS none 0 0) false _ _ rfl rfl (dP (hEN _ _ _ _ _ _) HN.o)
 | true=>
 go_wp2_with fail
 refine (HSL.o (HRR.o (by simp)) _ HY2.o).mono ?_;rintro e Y3 ⟨rfl,hb⟩;have HY3:=zh (HY2.o.trans (hb.mono HY2.o.size));clear hb m0 m1 m2 m3 m4 m5 m6 m7 m8 m9 m10 m11 m12 m13 m14 l0 l1 l2 l3 l4 l5 r0 r1 r2 r3 r4 r5 rf;obtain ⟨m0,m1,m2,m3,m4,m5,m6,m7,m8,m9,m10,m11,m12,m13,m14⟩:=(HC.o Y3 HY3.o).1.mc;obtain ⟨l0,l1,l2,l3,l4,l5⟩:=(HC.o Y3 HY3.o).2.2.ly6;obtain ⟨r0,r1,r2,r3,r4,r5⟩:=(HC.o Y3 HY3.o).2.1.ly6;have rf:=(HC.o Y3 HY3.o).2.1.frozen;cases b3 with
 | false=>
   have HN:=zh (HF3.o (by simp));have k1:=(HC.o Y3 HY3.o).2.1;have hEN:=HEN.o Y3 (HVX.o Y3 HY3.o);go_wp2;exact iN k1 (qS none 0 0) (qI 0) (qS none 0 0) (qI 0) (qI 0) (qS none 0 0) false _ _ rfl rfl (dP (hEN _ _ _ _ _ _) HN.o)
 | true=>
 go_wp2_with fail
 refine (HRU.o _ HY3.o).mono ?_;rintro e Y4 ⟨rfl,hb⟩;have HY4:=zh (HY3.o.trans (hb.mono HY3.o.size));clear hb m0 m1 m2 m3 m4 m5 m6 m7 m8 m9 m10 m11 m12 m13 m14 l0 l1 l2 l3 l4 l5 r0 r1 r2 r3 r4 r5 rf;obtain ⟨m0,m1,m2,m3,m4,m5,m6,m7,m8,m9,m10,m11,m12,m13,m14⟩:=(HC.o Y4 HY4.o).1.mc;obtain ⟨l0,l1,l2,l3,l4,l5⟩:=(HC.o Y4 HY4.o).2.2.ly6;obtain ⟨r0,r1,r2,r3,r4,r5⟩:=(HC.o Y4 HY4.o).2.1.ly6;have rf:=(HC.o Y4 HY4.o).2.1.frozen;cases b4 with
 | false=>
   have HN:=zh (HF4.o (by simp));have k1:=(HC.o Y4 HY4.o).2.1;have hEN:=HEN.o Y4 (HVX.o Y4 HY4.o);go_wp2;exact iN k1 (qS none 0 0) (qI 0) (qS none 0 0) (qI 0) (qI 0) (qS none 0 0) false _ _ rfl rfl (dP (hEN _ _ _ _ _ _) HN.o)
 | true=>
 go_wp2_with fail
 refine (HSH.o _ HY4.o).mono ?_;rintro e Y5 ⟨rfl,hb⟩;have HY5:=zh (HY4.o.trans (hb.mono HY4.o.size));clear hb m0 m1 m2 m3 m4 m5 m6 m7 m8 m9 m10 m11 m12 m13 m14 l0 l1 l2 l3 l4 l5 r0 r1 r2 r3 r4 r5 rf;obtain ⟨m0,m1,m2,m3,m4,m5,m6,m7,m8,m9,m10,m11,m12,m13,m14⟩:=(HC.o Y5 HY5.o).1.mc;obtain ⟨l0,l1,l2,l3,l4,l5⟩:=(HC.o Y5 HY5.o).2.2.ly6;obtain ⟨r0,r1,r2,r3,r4,r5⟩:=(HC.o Y5 HY5.o).2.1.ly6;have rf:=(HC.o Y5 HY5.o).2.1.frozen;cases b5 with
 | false=>
   have HN:=zh (HF5.o (by simp));have k1:=(HC.o Y5 HY5.o).2.1;have hEN:=HEN.o Y5 (HVX.o Y5 HY5.o);go_wp2;exact iN k1 (qS none 0 0) (qI 0) (qS none 0 0) (qI 0) (qI 0) (qS none 0 0) false _ _ rfl rfl (dP (hEN _ _ _ _ _ _) HN.o)
 | true=>
 have HN:=zh (HYY.o (by simp) (by simp) (by simp) (by simp) (by simp) (by simp) (by simp));have k1:=(HC.o Y5 HY5.o).2.1;have hEN:=HEN.o Y5 (HVX.o Y5 HY5.o);have HLE:Zh (LyT (st6 Y5 U.heap.size (qS a0 xs.length c0) (qI L.stack) (qS a2 L.slots.length c2) (qI L.flash) (qI L.ram) (qS a5 ts.length c5)) L a0 c0 xs a2 c2 a5 c5 ts):=((HOW.o.below' HY5.o).kept (cD _ _ _ _ _ _ _ _) (fun j hj _ e=>by have e':j=U.heap.size:=e;have:=HUS.o.2;omega)).lyt HLB.o.r HLV.o;go_wp2;exact iN k1 (qS a0 xs.length c0) (qI L.stack) (qS a2 L.slots.length c2) (qI L.flash) (qI L.ram) (qS a5 ts.length c5) true _ _ rfl rfl (aId HEL.o (hEN _ _ _ _ _ _) HN.o HLE.o)
