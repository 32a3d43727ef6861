import Derived.Deep.Slices
import Derived.Test.YtncccmeomcaabaaGreatC18
set_option linter.all false
set_option maxHeartbeats 64000000
namespace Go.Proofs.YtncccmeomcaabaaGreat
open Go.RowKit Classical
set_option maxRecDepth 100000
variable {C:Cn}{G base c g g0 g1 g2 g3 g4 g5 g6 q:Nat}{M:Mn}{b m t:Int}{ms':List Md}{v13 x:Value}{w:World}
theorem fJ {W:qw}(k1:Blk W G zL 71)(v0 v1 v2 v3 v4 v5:Value)(b:Bool)(Q:Ending->World->Prop)(tmps:Array Value)(h2:tmps[2]?=some (.pointer (qP G)))(h3:tmps[3]?=some (.bool b))(hQ:Q (.returned (.tuple #[.agg #[v0,v1,v2,v3,v4,v5],.bool b])) (st6 W G v0 v1 v2 v3 v4 v5)):
 bodyPost Tryz.prog Tryz.f29 Q Exit.ret ⟨tmps,[]⟩ (st6 W G v0 v1 v2 v3 v4 v5):=by
 have k:=jR k1 v0 v1 v2 v3 v4 v5;obtain ⟨t0,t1,t2,t3,t4,t5⟩:=k.z6;refine bodyPost_ret_by (v:=.tuple #[.agg #[v0,v1,v2,v3,v4,v5],.bool b]) ?_ rfl hQ;simp [results,Tryz.results29,go_sem,h2,h3,t0,t1,t2,t3,t4,t5]
theorem aK8 (M:Mn)(w:qw)(h:MnD w M):qC 29 #[.agg (qA M)] w (VlP w M):=by
 obtain ⟨U,hU,bU,kU⟩:=nwb w (qA M) 43;obtain ⟨V,hV,bV,kV⟩:=nwb U qz 71;have BV:=bU.trans (bV.mono bU.size);have kU':=kU.bw bV;have hUs:w.heap.size<=U.heap.size:=bU.size;have hUV:U.heap.size<V.heap.size:=kV.lt;obtain ⟨L,hL⟩:=eqx (M.L);have HLB:=zh (show LayB L from by rw [hL];exact rW _ _ _ _ _);have HLV:=zh (show wfi L.stack/\wfi L.flash/\wfi L.ram from by rw [hL];exact aGz _ _ _ _ _)
 have HLK:=zh (show qC 74 #[qS M.ma M.mn M.mc,.agg (qW M.cs M.cw M.ck M.cd)] V (fun e w'=>qY V w'/\∃ a0 c0 xs a2 c2 a5 c5 ts,e=.returned (.tuple #[.agg (qJ L a0 xs c0 a2 c2 a5 ts c5),qI (lkc (aE M.ms) M.cs M.cw M.ck M.cd)])/\LayO w' V.heap.size L a0 c0 xs a2 c2 a5 c5 ts) from by
  have:=yJ M.ma M.mn M.mc M.ms M.cs M.cw M.ck M.cd V (h.m.bw BV);unfold LkM mV at this;rw [show lkL (aE M.ms) M.cs M.cw M.ck M.cd=L from hL.symm] at this
  exact this)
 have HLO:=zh (fun (e:lkc (aE M.ms) M.cs M.cw M.ck M.cd=0)=>show Lok (aE M.ms) L from by
  have:=aE3 e;rw [hL];unfold Mn.L lkL;rw [if_pos e]
  exact this)
 have HDV:=zh (h.bw BV);have HU:=zh hU;have HV:=zh hV;have HB:=zh BV;have HEL:=zh hL;have HUS:=zh (xA hUs hUV);have HWU:Zh (w.heap.size<U.heap.size):=kU.lt;have HK:=zh (fun (X:qw) (hX:qY V X)=>xA (kU'.bw hX) (kV.bw hX));have HEN:=zh (fun (X:qw) (hX:qY V X) (v0 v1 v2 v3 v4 v5:Value)=>show qY w (st6 X U.heap.size v0 v1 v2 v3 v4 v5) from aG (BV.trans (hX.mono BV.size)) (cF _ _ _ _ _ _ _ _) (fun j hj=>by have e:j=U.heap.size:=hj;omega) (by have h1:=BV.size;have h2:=hX.size;omega));obtain ⟨m0,m1,m2,m3,m4,m5,m6,m7,m8,m9,m10,m11,m12,m13,m14⟩:=kU'.mc;clear hU hV bU bV kU kU' kV BV h hL hUs hUV;generalize hC:lkc (aE M.ms) M.cs M.cw M.ck M.cd=C at *;have HCE:=zh hC;clear hC;go_enter Tryz.func29,Tryz.ntmps29
 go_wp2_with (first|rw [<- HU.o]|rw [<- HV.o])
 refine HLK.o.mono ?_;rintro e X1 ⟨hb1,a0,c0,xs,a2,c2,a5,c5,ts,rfl,O⟩;obtain ⟨W,hW,bW,kW⟩:=nwb X1 (qJ L a0 xs c0 a2 c2 a5 ts c5) 71;have BW:=hb1.trans (bW.mono hb1.size);have HW:=zh hW;have HBW:=zh BW;have OW:=O.below' bW;have HOW:=zh OW;have HLT:=zh (OW.lyt HLB.o.r HLV.o);have HXU:=zh (show U.heap.size<X1.heap.size from by have h1:=HUS.o.2;have h2:=hb1.size;omega);have HC:=zh (fun (X:qw) (hX:qY W X)=>xA ((HK.o X (BW.trans (hX.mono BW.size))).1) (xA ((HK.o X (BW.trans (hX.mono BW.size))).2) (kW.bw hX)));have HVX:=zh (fun (X:qw) (hX:qY W X)=>BW.trans (hX.mono BW.size));clear m0 m1 m2 m3 m4 m5 m6 m7 m8 m9 m10 m11 m12 m13 m14 HU HV HLK hW bW kW BW OW O hb1 HK;obtain ⟨m0,m1,m2,m3,m4,m5,m6,m7,m8,m9,m10,m11,m12,m13,m14⟩:=(HC.o W brf).1.mc;obtain ⟨l0,l1,l2,l3,l4,l5⟩:=(HC.o W brf).2.2.ly6;by_cases c0':¬ C=0
 .have c0'':(C !=0)=true:=by simp [c0']
  have HN:Zh (¬ MOk M):=fun q=>c0' (by rw [<- HCE.o];exact q.l);clear c0';obtain ⟨r0,r1,r2,r3,r4,r5⟩:=(HC.o W brf).2.1.ly6;have rf:=(HC.o W brf).2.1.frozen;have k1:=(HC.o W brf).2.1;have hEN:=HEN.o W HBW.o;go_wp2_with (rw [<- HW.o])
  exact fJ k1 (qS a0 xs.length c0) (qI L.stack) (qS a2 L.slots.length c2) (qI L.flash) (qI L.ram) (qS a5 ts.length c5) false _ _ rfl rfl (dS (hEN _ _ _ _ _ _) HN.o)
 replace c0':C=0:=xZ.1 c0';have c0'':(C !=0)=false:=by simp [c0']
 have HE0:=zh (show lkc (aE M.ms) M.cs M.cw M.ck M.cd=0 from by rw [HCE.o];exact c0');have HL0:=zh (HLO.o (by rw [<- HCE.o];exact HE0.o));have HX0:=zh c0';clear c0' HLO;obtain ⟨b0,hb0⟩:=fX (vG (aE M.ms) L)
 have HPF:=zh (fun (X:qw) (hX:qY W X)=>(aH0 M.ma M.mn M.mc M.ms L a0 c0 xs a2 c2 a5 c5 ts X ((HDV.o.m.bw HBW.o).bw hX) (HLT.o.bw hX)).mono (fun e w' he=>show e=.returned (.bool b0)/\qY X w' from by
  obtain ⟨r,h1,h2,h3⟩:=he;have:r=b0:=by rw [xJ,h2,hb0]
  exact ⟨by rw [h1,this],h3⟩))
 have HCO:=zh (fun (X:qw) (hX:qY W X)=>aBg M.pc M.ka M.kn M.kc M.kz X ((HDV.o.k.bw HBW.o).bw hX));have HMO:=zh (fun (X:qw) (hX:qY W X)=>aEf M.fa M.ra M.oa M.fn M.fc M.rn M.rc M.on M.oc X)
 have HIM:=zh (fun (X:qw) (hX:qY W X)=>show qC 78 #[qS M.ma M.mn M.mc,.agg (qJ L a0 xs c0 a2 c2 a5 ts c5)] X (fun e w'=>qY X w'/\∃ b1 n1 d1 b2 n2 d2 b3 n3 d3,e=.returned (.tuple #[.agg (qV b1 n1 d1 b2 n2 d2 b3 n3 d3),.bool true])/\BS w' b1 n1 d1 (imF (aE M.ms) L)) from by
  have:=aEg M.ma M.mn M.mc M.ms L a0 c0 xs a2 c2 a5 c5 ts X ((HDV.o.m.bw HBW.o).bw hX) (HLT.o.bw hX);unfold ImM at this;rw [xR HL0.o] at this
  exact this.mono (fun e w' ⟨h1,b1,n1,d1,b2,n2,d2,b3,n3,d3,h2,h3⟩=>⟨h1,b1,n1,d1,b2,n2,d2,b3,n3,d3,h2,h3.o1.bs⟩))
 have HLF:=zh (fun (X:qw) (hX:qY W X)=>(HDV.o.f.bw HBW.o).bw hX);have HTH:=zh (fun (X:qw) (hX:qY W X)=>gR M.ma M.mn M.mc M.ms M.md M.bk X (((HDV.o.m.bw HBW.o).bw hX).s));rw [dX HDV.o.m M.md M.bk] at HTH;obtain ⟨b3',hb3⟩:=fX (cW (aE M.ms) L M.cs M.cw M.tn M.rz M.lz/\(M.cs=0\/M.bk=-1\/hld M.lz M.md M.bk≠-1));have HSL:=zh (fun (hr:(M.rn:Int)=L.ram) (X:qw) (hX:qY W X)=>(wG M L a0 c0 xs a2 c2 a5 c5 ts X ((HDV.o.bw HBW.o).bw hX) (HLT.o.bw hX) HEL.o HE0.o hr).mono (fun e w' he=>nA he b3' hb3));obtain ⟨b5,hb5⟩:=fX (jW (aE M.ms) M.cd M.hz);have HSH:=zh (fun (X:qw) (hX:qY W X)=>(tW M X ((HDV.o.bw HBW.o).bw hX)).mono (fun e w' he=>nA he b5 hb5));obtain ⟨b1',hb1⟩:∃ b:Bool,b=cok M.pc M.kn M.kz:=⟨_,rfl⟩;rw [<- hb1] at HCO;obtain ⟨b2',hb2⟩:∃ b:Bool,b=mok M.fn M.rn M.on:=⟨_,rfl⟩;rw [<- hb2] at HMO;obtain ⟨b4',hb4⟩:∃ b:Bool,b=decide (0<=pcq (aE M.ms) M.md M.bk):=⟨_,rfl⟩;rw [<- hb4] at HTH;have HF0:=zh (fun (e:b0=false)=>show ¬ MOk M from fun q=>by have:=hb0.2 (by rw [HEL.o];exact q.p);rw [e] at this;cases this);have HF1:=zh (fun (e:b1'=false)=>show ¬ MOk M from fun q=>by have:=q.c;rw [<- hb1,e] at this;cases this);have HF2:=zh (fun (e:b2'=false)=>show ¬ MOk M from fun q=>by have:=q.b;rw [<- hb2,e] at this;cases this);have HF3:=zh (fun (e:b3'=false)=>show ¬ MOk M from fun q=>by have:=hb3.2 ⟨by rw [HEL.o];exact q.s,q.n.2⟩;rw [e] at this;cases this);have HF4:=zh (fun (e:b4'=false)=>show ¬ MOk M from fun q=>by rw [e] at hb4;exact absurd q.n.1 (of_decide_eq_false hb4.symm));have HF5:=zh (fun (e:b5=false)=>show ¬ MOk M from fun q=>by have:=hb5.2 q.h;rw [e] at this;cases this);have HF6:=zh (fun (e:¬ imF (aE M.ms) L=M.fz)=>show ¬ MOk M from fun q=>e (by rw [HEL.o];exact q.f));have HF7:=zh (fun (e:¬ (M.rn:Int)=L.ram)=>show ¬ MOk M from fun q=>e (by rw [HEL.o];exact q.r));have HF8:=zh (fun (e:¬ (0<=M.tn/\M.tn<=1000000000))=>show ¬ MOk M from fun q=>e q.t)
 have HYY:=zh (fun (e0:b0=true) (e1:b1'=true) (e2:b2'=true) (e6:imF (aE M.ms) L=M.fz) (e7:(M.rn:Int)=L.ram) (et:0<=M.tn/\M.tn<=1000000000) (e4:b4'=true) (e3:b3'=true) (e5:b5=true)=>show MOk M from
  ⟨HE0.o,by have:=hb0.1 e0;rw [HEL.o] at this;exact this,by rw [<- hb1,e1],by rw [<- hb2,e2],by rw [HEL.o] at e6;exact e6,by rw [HEL.o] at e7;exact e7,et,by have:=(hb3.1 e3).1;rw [HEL.o] at this;exact this,⟨by rw [e4] at hb4;exact of_decide_eq_true hb4.symm,(hb3.1 e3).2⟩,hb5.1 e5⟩)
 have HSX:=zh (fun (X:qw) (hX:qY W X) (v0 v1 v2 v3 v4 v5:Value)=>show Blk (st6 X U.heap.size v0 v1 v2 v3 v4 v5) w.heap.size (qA M) 43/\Blk (st6 X U.heap.size v0 v1 v2 v3 v4 v5) X1.heap.size (qJ L a0 xs c0 a2 c2 a5 ts c5) 71 from
  ⟨aF (cF _ _ _ _ _ _ _ _) (HC.o X hX).1 (fun e=>by have e':w.heap.size=U.heap.size:=e;have:=HWU.o;omega),aF (cF _ _ _ _ _ _ _ _) (HC.o X hX).2.2 (fun e=>by have e':X1.heap.size=U.heap.size:=e;have:=HXU.o;omega)⟩)
 clear hb0 hb1 hb2 hb3 hb4 hb5 HDV HCE;go_wp2_with (rw [<- HW.o])
 refine (HPF.o W brf).mono ?_;rintro e Y0 ⟨rfl,hb⟩;have HY0:=zh hb;clear hb HW m0 m1 m2 m3 m4 m5 m6 m7 m8 m9 m10 m11 m12 m13 m14 l0 l1 l2 l3 l4 l5;obtain ⟨m0,m1,m2,m3,m4,m5,m6,m7,m8,m9,m10,m11,m12,m13,m14⟩:=(HC.o Y0 HY0.o).1.mc;obtain ⟨l0,l1,l2,l3,l4,l5⟩:=(HC.o Y0 HY0.o).2.2.ly6;obtain ⟨r0,r1,r2,r3,r4,r5⟩:=(HC.o Y0 HY0.o).2.1.ly6;have rf:=(HC.o Y0 HY0.o).2.1.frozen;cases b0 with
 | false=>
   have HN:=zh (HF0.o (by simp));have k1:=(HC.o Y0 HY0.o).2.1;have hEN:=HEN.o Y0 (HVX.o Y0 HY0.o);go_wp2;exact fJ k1 (qS a0 xs.length c0) (qI L.stack) (qS a2 L.slots.length c2) (qI L.flash) (qI L.ram) (qS a5 ts.length c5) false _ _ rfl rfl (dS (hEN _ _ _ _ _ _) HN.o)
 | true=>
 go_wp2_with fail
 refine (HCO.o _ HY0.o).mono ?_;rintro e Y1 ⟨rfl,hb⟩;have HY1:=zh (HY0.o.trans (hb.mono HY0.o.size));clear hb m0 m1 m2 m3 m4 m5 m6 m7 m8 m9 m10 m11 m12 m13 m14 l0 l1 l2 l3 l4 l5 r0 r1 r2 r3 r4 r5 rf;obtain ⟨m0,m1,m2,m3,m4,m5,m6,m7,m8,m9,m10,m11,m12,m13,m14⟩:=(HC.o Y1 HY1.o).1.mc;obtain ⟨l0,l1,l2,l3,l4,l5⟩:=(HC.o Y1 HY1.o).2.2.ly6;obtain ⟨r0,r1,r2,r3,r4,r5⟩:=(HC.o Y1 HY1.o).2.1.ly6;have rf:=(HC.o Y1 HY1.o).2.1.frozen;cases b1' with
 | false=>
   have HN:=zh (HF1.o (by simp));have k1:=(HC.o Y1 HY1.o).2.1;have hEN:=HEN.o Y1 (HVX.o Y1 HY1.o);go_wp2;exact fJ k1 (qS a0 xs.length c0) (qI L.stack) (qS a2 L.slots.length c2) (qI L.flash) (qI L.ram) (qS a5 ts.length c5) false _ _ rfl rfl (dS (hEN _ _ _ _ _ _) HN.o)
 | true=>
 go_wp2_with fail
 refine (HMO.o _ HY1.o).mono ?_;rintro e Y2 ⟨rfl,hb⟩;have HY2:=zh (HY1.o.trans (hb.mono HY1.o.size));clear hb m0 m1 m2 m3 m4 m5 m6 m7 m8 m9 m10 m11 m12 m13 m14 l0 l1 l2 l3 l4 l5 r0 r1 r2 r3 r4 r5 rf;obtain ⟨m0,m1,m2,m3,m4,m5,m6,m7,m8,m9,m10,m11,m12,m13,m14⟩:=(HC.o Y2 HY2.o).1.mc;obtain ⟨l0,l1,l2,l3,l4,l5⟩:=(HC.o Y2 HY2.o).2.2.ly6;obtain ⟨r0,r1,r2,r3,r4,r5⟩:=(HC.o Y2 HY2.o).2.1.ly6;have rf:=(HC.o Y2 HY2.o).2.1.frozen;cases b2' with
 | false=>
   have HN:=zh (HF2.o (by simp));have k1:=(HC.o Y2 HY2.o).2.1;have hEN:=HEN.o Y2 (HVX.o Y2 HY2.o);go_wp2;exact fJ k1 (qS a0 xs.length c0) (qI L.stack) (qS a2 L.slots.length c2) (qI L.flash) (qI L.ram) (qS a5 ts.length c5) false _ _ rfl rfl (dS (hEN _ _ _ _ _ _) HN.o)
 | true=>
 go_wp2_with fail
 refine (HIM.o _ HY2.o).mono ?_;rintro e Y3 ⟨hb,b1,n1,d1,b2,n2,d2,b3,n3,d3,rfl,hbs⟩;have HY3:=zh (HY2.o.trans (hb.mono HY2.o.size));obtain ⟨Wi,hWi⟩:=eqx (Y3.alloc (.cells (qV b1 n1 d1 b2 n2 d2 b3 n3 d3) 39));have bWi:qY Y3 Wi:=by rw [hWi];exact bal
 have i0:Wi.cell? (qR Y3.heap.size 0)=some (qS b1 n1 d1):=by
  have:Blk Wi Y3.heap.size (qV b1 n1 d1 b2 n2 d2 b3 n3 d3) 39:=by rw [hWi];exact Blk.new _ _ _
  exact this.cell 0
 have HWi:=zh hWi;have HY4:=zh (HY3.o.trans (bWi.mono HY3.o.size));have HLB2:Zh (qC 79 #[qS b1 n1 d1,qS M.fa M.fn M.fc] Wi (fun e w'=>e=.returned (.bool (decide (imF (aE M.ms) L=M.fz)))/\qY Wi w')):=pT _ _ _ _ _ _ _ _ Wi (hbs.bw bWi) (HLF.o Wi HY4.o);clear hb hbs hWi bWi m0 m1 m2 m3 m4 m5 m6 m7 m8 m9 m10 m11 m12 m13 m14 l0 l1 l2 l3 l4 l5 r0 r1 r2 r3 r4 r5 rf;obtain ⟨m0,m1,m2,m3,m4,m5,m6,m7,m8,m9,m10,m11,m12,m13,m14⟩:=(HC.o Wi HY4.o).1.mc;obtain ⟨l0,l1,l2,l3,l4,l5⟩:=(HC.o Wi HY4.o).2.2.ly6;obtain ⟨r0,r1,r2,r3,r4,r5⟩:=(HC.o Wi HY4.o).2.1.ly6;have rf:=(HC.o Wi HY4.o).2.1.frozen;by_cases c6:¬ imF (aE M.ms) L=M.fz
 .rw [xS c6] at HLB2;have HN:=zh (HF6.o c6);clear c6;go_wp2_with (rw [<- HWi.o])
  refine HLB2.o.mono ?_;rintro e Y5 ⟨rfl,hb⟩;have HY5:=zh (HY4.o.trans (hb.mono HY4.o.size));clear hb m0 m1 m2 m3 m4 m5 m6 m7 m8 m9 m10 m11 m12 m13 m14 l0 l1 l2 l3 l4 l5 r0 r1 r2 r3 r4 r5 rf;obtain ⟨m0,m1,m2,m3,m4,m5,m6,m7,m8,m9,m10,m11,m12,m13,m14⟩:=(HC.o Y5 HY5.o).1.mc;obtain ⟨l0,l1,l2,l3,l4,l5⟩:=(HC.o Y5 HY5.o).2.2.ly6;obtain ⟨r0,r1,r2,r3,r4,r5⟩:=(HC.o Y5 HY5.o).2.1.ly6;have rf:=(HC.o Y5 HY5.o).2.1.frozen;have k1:=(HC.o Y5 HY5.o).2.1;have hEN:=HEN.o Y5 (HVX.o Y5 HY5.o);go_wp2;exact fJ k1 (qS a0 xs.length c0) (qI L.stack) (qS a2 L.slots.length c2) (qI L.flash) (qI L.ram) (qS a5 ts.length c5) false _ _ rfl rfl (dS (hEN _ _ _ _ _ _) HN.o)
 replace c6:imF (aE M.ms) L=M.fz:=xZ.1 c6;rw [xR c6] at HLB2;have HC6:=zh c6;clear c6;go_wp2_with (rw [<- HWi.o])
 refine HLB2.o.mono ?_;rintro e Y5 ⟨rfl,hb⟩;have HY5:=zh (HY4.o.trans (hb.mono HY4.o.size));clear hb m0 m1 m2 m3 m4 m5 m6 m7 m8 m9 m10 m11 m12 m13 m14 l0 l1 l2 l3 l4 l5 r0 r1 r2 r3 r4 r5 rf i0 HWi;obtain ⟨m0,m1,m2,m3,m4,m5,m6,m7,m8,m9,m10,m11,m12,m13,m14⟩:=(HC.o Y5 HY5.o).1.mc;obtain ⟨l0,l1,l2,l3,l4,l5⟩:=(HC.o Y5 HY5.o).2.2.ly6;obtain ⟨r0,r1,r2,r3,r4,r5⟩:=(HC.o Y5 HY5.o).2.1.ly6;have rf:=(HC.o Y5 HY5.o).2.1.frozen;by_cases c7:¬ (M.rn:Int)=L.ram
 .have c7':((M.rn:Int) !=L.ram)=true:=by simp [c7]
  have HN:=zh (HF7.o c7);clear c7;have k1:=(HC.o Y5 HY5.o).2.1;have hEN:=HEN.o Y5 (HVX.o Y5 HY5.o);go_wp2;exact fJ k1 (qS a0 xs.length c0) (qI L.stack) (qS a2 L.slots.length c2) (qI L.flash) (qI L.ram) (qS a5 ts.length c5) false _ _ rfl rfl (dS (hEN _ _ _ _ _ _) HN.o)
 replace c7:(M.rn:Int)=L.ram:=xZ.1 c7;have c7':((M.rn:Int) !=L.ram)=false:=by simp [c7]
 have HC7:=zh c7;clear c7;by_cases c8:M.tn<0
 .have HN:=zh (HF8.o (fun q=>by omega));have k1:=(HC.o Y5 HY5.o).2.1;have hEN:=HEN.o Y5 (HVX.o Y5 HY5.o);go_wp2;exact fJ k1 (qS a0 xs.length c0) (qI L.stack) (qS a2 L.slots.length c2) (qI L.flash) (qI L.ram) (qS a5 ts.length c5) false _ _ rfl rfl (dS (hEN _ _ _ _ _ _) HN.o)
 by_cases c9:1000000000<M.tn
 .have HN:=zh (HF8.o (fun q=>by omega));have k1:=(HC.o Y5 HY5.o).2.1;have hEN:=HEN.o Y5 (HVX.o Y5 HY5.o);go_wp2;exact fJ k1 (qS a0 xs.length c0) (qI L.stack) (qS a2 L.slots.length c2) (qI L.flash) (qI L.ram) (qS a5 ts.length c5) false _ _ rfl rfl (dS (hEN _ _ _ _ _ _) HN.o)
 have HC8:=zh (show 0<=M.tn/\M.tn<=1000000000 from by omega);go_wp2_with fail
 refine (HTH.o _ HY5.o).mono ?_;rintro e Y6 ⟨rfl,hb⟩;have HY6:=zh (HY5.o.trans (hb.mono HY5.o.size));clear hb m0 m1 m2 m3 m4 m5 m6 m7 m8 m9 m10 m11 m12 m13 m14 l0 l1 l2 l3 l4 l5 r0 r1 r2 r3 r4 r5 rf;obtain ⟨m0,m1,m2,m3,m4,m5,m6,m7,m8,m9,m10,m11,m12,m13,m14⟩:=(HC.o Y6 HY6.o).1.mc;obtain ⟨l0,l1,l2,l3,l4,l5⟩:=(HC.o Y6 HY6.o).2.2.ly6;obtain ⟨r0,r1,r2,r3,r4,r5⟩:=(HC.o Y6 HY6.o).2.1.ly6;have rf:=(HC.o Y6 HY6.o).2.1.frozen;cases b4' with
 | false=>
   have HN:=zh (HF4.o (by simp));have k1:=(HC.o Y6 HY6.o).2.1;have hEN:=HEN.o Y6 (HVX.o Y6 HY6.o);go_wp2;exact fJ k1 (qS a0 xs.length c0) (qI L.stack) (qS a2 L.slots.length c2) (qI L.flash) (qI L.ram) (qS a5 ts.length c5) false _ _ rfl rfl (dS (hEN _ _ _ _ _ _) HN.o)
 | true=>
 have HRR:=zh (HSL.o HC7.o);clear m0 m1 m2 m3 m4 m5 m6 m7 m8 m9 m10 m11 m12 m13 m14 l0 l1 l2 l3 l4 l5;go_wp2_with fail
 refine wp_region_held_drew (S:=(fun X=>Blk X w.heap.size (qA M) 43/\Blk X X1.heap.size (qJ L a0 xs c0 a2 c2 a5 ts c5) 71)) (by kernel_rfl) ?_ (fun hHeld=>?_)
 .exact ⟨(HC.o _ HY6.o.drew).1,(HC.o _ HY6.o.drew).2.2⟩
 refine tkV 0 _ rfl (fun w hSw=>aK5 hSw.2 rfl) ?_;try simp only [yD,yE,yF,Act.put,yA,yB,yC]
 refine tkV 1 _ rfl (fun w hSw=>pS hSw.1 rfl) ?_;try simp only [yD,yE,yF,Act.put,yA,yB,yC]
 refine tkV 2 _ rfl (fun w hSw=>aK5 hSw.2 rfl) ?_;try simp only [yD,yE,yF,Act.put,yA,yB,yC]
 refine wpAnyH_ready (rs:=[3]) (by kernel_rfl) (by simp) (AllReadyH.cons rfl (fun K hK=>?_) AllReadyH.nil);go_simp;refine (HRR.o _ HY6.o.drew).mono ?_;rintro e Y7 ⟨rfl,hb⟩;have HY7:=zh (HY6.o.drew.trans (hb.mono HY6.o.drew.size));clear hb;try go_wp2_with fail
 refine hK.out _ _ ?_ (fun hHeld=>?_)
 .exact ⟨(HC.o _ HY7.o).1,(HC.o _ HY7.o).2.2⟩
 clear hK K;try simp only [yD,yE,yF,Act.put,yA,yB,yC]
 refine tkV 4 ?_ rfl ?_ ?_;rotate_left
 ·(intro w hSw;(try dsimp only at hSw);go_simp;try with_reducible rfl)
 try simp only [yD,yE,yF,Act.put,yA,yB,yC]
 clear r0 r1 r2 r3 r4 r5 rf;cases b3' with
 | false=>
   have HN:=zh (HF3.o (by simp));obtain ⟨r0,r1,r2,r3,r4,r5⟩:=(HC.o Y7 HY7.o).2.1.ly6;have rf:=(HC.o Y7 HY7.o).2.1.frozen;refine tkS 5 rfl ?_;try simp only [yD,yE,yF,Act.put,yA,yB,yC]
   refine tkS 6 rfl ?_;try simp only [yD,yE,yF,Act.put,yA,yB,yC]
   refine tkV 7 ?_ rfl ?_ ?_;rotate_left
   ·(intro w hSw;(try dsimp only at hSw);go_simp;try with_reducible rfl)
   try simp only [yD,yE,yF,Act.put,yA,yB,yC]
   refine wpAnyH_ready (rs:=[8]) (by kernel_rfl) (by simp) (AllReadyH.cons rfl (fun K hK=>?_) AllReadyH.nil);go_simp;try go_wp2_with fail
   refine hK.out _ _ ?_ (fun hHeld=>?_)
   .exact HSX.o _ HY7.o _ _ _ _ _ _
   clear hK K;try simp only [yD,yE,yF,Act.put,yA,yB,yC]
   refine tkV 9 ?_ rfl ?_ ?_;rotate_left
   ·(intro w hSw;(try dsimp only at hSw);go_simp;try with_reducible rfl)
   try simp only [yD,yE,yF,Act.put,yA,yB,yC]
   refine wpAnyH_done (by kernel_rfl) ?_ _;have k1:=(HC.o Y7 HY7.o).2.1;have hEN:=HEN.o Y7 (HVX.o Y7 HY7.o);go_wp2;exact fJ k1 (qS a0 xs.length c0) (qI L.stack) (qS a2 L.slots.length c2) (qI L.flash) (qI L.ram) (qS a5 ts.length c5) false _ _ rfl rfl (dS (hEN _ _ _ _ _ _) HN.o)
 | true=>
   refine tkV 5 _ rfl (fun w hSw=>pS hSw.1 rfl) ?_;try simp only [yD,yE,yF,Act.put,yA,yB,yC]
   refine wpAnyH_ready (rs:=[6]) (by kernel_rfl) (by simp) (AllReadyH.cons rfl (fun K hK=>?_) AllReadyH.nil);go_simp;refine (HSH.o _ HY7.o).mono ?_;rintro e Y8 ⟨rfl,hb⟩;have HY8:=zh (HY7.o.trans (hb.mono HY7.o.size));clear hb;try go_wp2_with fail
   refine hK.out _ _ ?_ (fun hHeld=>?_)
   .exact ⟨(HC.o _ HY8.o).1,(HC.o _ HY8.o).2.2⟩
   clear hK K;try simp only [yD,yE,yF,Act.put,yA,yB,yC]
   refine tkV 7 ?_ rfl ?_ ?_;rotate_left
   ·(intro w hSw;(try dsimp only at hSw);go_simp;try with_reducible rfl)
   try simp only [yD,yE,yF,Act.put,yA,yB,yC]
   obtain ⟨r0,r1,r2,r3,r4,r5⟩:=(HC.o Y8 HY8.o).2.1.ly6;have rf:=(HC.o Y8 HY8.o).2.1.frozen;refine wpAnyH_ready (rs:=[8]) (by kernel_rfl) (by simp) (AllReadyH.cons rfl (fun K hK=>?_) AllReadyH.nil);go_simp;try go_wp2_with fail
   refine hK.out _ _ ?_ (fun hHeld=>?_)
   .exact HSX.o _ HY8.o _ _ _ _ _ _
   clear hK K;try simp only [yD,yE,yF,Act.put,yA,yB,yC]
   refine tkV 9 ?_ rfl ?_ ?_;rotate_left
   ·(intro w hSw;(try dsimp only at hSw);go_simp;try with_reducible rfl)
   try simp only [yD,yE,yF,Act.put,yA,yB,yC]
   refine wpAnyH_done (by kernel_rfl) ?_ _;have k1:=(HC.o Y8 HY8.o).2.1;have hEN:=HEN.o Y8 (HVX.o Y8 HY8.o);cases b5 with
   | false=>
     have HN:=zh (HF5.o (by simp));go_wp2;exact fJ k1 (qS a0 xs.length c0) (qI L.stack) (qS a2 L.slots.length c2) (qI L.flash) (qI L.ram) (qS a5 ts.length c5) false _ _ rfl rfl (dS (hEN _ _ _ _ _ _) HN.o)
   | true=>
     have HN:=zh (HYY.o (by simp) (by simp) (by simp) HC6.o HC7.o HC8.o (by simp) (by simp) (by simp));have HLE:Zh (LyT (st6 Y8 U.heap.size (qS a0 xs.length c0) (qI L.stack) (qS a2 L.slots.length c2) (qI L.flash) (qI L.ram) (qS a5 ts.length c5)) L a0 c0 xs a2 c2 a5 c5 ts):=((HOW.o.below' HY8.o).kept (cF _ _ _ _ _ _ _ _) (fun j hj _ e=>by have e':j=U.heap.size:=e;have:=HUS.o.2;omega)).lyt HLB.o.r HLV.o;go_wp2;exact fJ k1 (qS a0 xs.length c0) (qI L.stack) (qS a2 L.slots.length c2) (qI L.flash) (qI L.ram) (qS a5 ts.length c5) true _ _ rfl rfl (aJc HEL.o (hEN _ _ _ _ _ _) HN.o HLE.o)
theorem aOu {a:Act}{W:qw}{k:Nat}{d:Option Tmp}{ty:TypeId}{p:String}{af:Array _}{gd:Option _}{v0 v1 v2 v3 v4 v5 v6 v7 v8 v9 v10 v11 v12 v14:Value}(kb:Blk W G #[v0,v1,v2,v3,v4,v5,v6,v7,v8,v9,v10,v11,v12,v13,v14] 34)(h:a.tmps[k]?.getD undef=.pointer (qP G)):(execOp a.eval { dst:=d,op:=Op.load 34 (Operand.tmp k),type:=ty,pos:=p,after:=af,guard:=gd }).run Tryz.prog W=.ok (.value (.agg #[v0,v1,v2,v3,v4,v5,v6,v7,v8,v9,v10,v11,v12,v13,v14])) W:=by
 obtain ⟨q0,q1,q2,q3,q4,q5,q6,q7,q8,q9,q10,q11,q12,q13,q14⟩:=kb.mc;go_simp
theorem aKr (e:aE ms'=aE M.ms):MOk (M.cp g0 g1 g2 g3 g4 g5 g6 ms') ↔ MOk M:=by
 have eL:(M.cp g0 g1 g2 g3 g4 g5 g6 ms').L=M.L:=by unfold Mn.L;show lkL (aE ms') M.cs M.cw M.ck M.cd=_;rw [e]
 constructor
 .rintro ⟨l,p,c,b,f,r,t,s,n,h⟩;rw [eL] at p f r s;simp only [Mn.cp] at l p c b f r t s n h;rw [e] at l p f s n h;exact ⟨l,p,c,b,f,r,t,s,n,h⟩
 .rintro ⟨l,p,c,b,f,r,t,s,n,h⟩;rw [<- eL] at p f r s;rw [<- e] at l p f s n h;exact ⟨l,p,c,b,f,r,t,s,n,h⟩
theorem aPe {w W W':qw}{base':Nat}{k0 k1 k2 k3 k4 k5 k6:Nat}{m1 m2:List Md}(t:MnT w M)(h:MnR W base M g0 g1 g2 g3 g4 g5 g6 m1)(h':MnR W' base' M k0 k1 k2 k3 k4 k5 k6 m2)(hm:∀ i,i<M.mn->aMe (m1.getD i aK) (m2.getD i aK)):Sam (M.cp g0 g1 g2 g3 g4 g5 g6 m1) (M.cp k0 k1 k2 k3 k4 k5 k6 m2):=
 ⟨⟨rfl,rfl,rfl,rfl,rfl,rfl,rfl,rfl⟩,⟨rfl,rfl,rfl,rfl,rfl,rfl,rfl⟩,⟨rfl,rfl,rfl,rfl,rfl,rfl⟩,hm⟩
theorem oG {α:Type}{f:α->List Value}{W:qw}{o n:Nat}{ys:List α}(h:Srd f W (some (qR g o)) n c ys)(c':Nat):Srd f W (some (qR g o)) ys.length c' ys:=⟨rfl,.inr (by obtain ⟨_,⟨e,_⟩|q⟩:=h;cases e;exact q)⟩
def Md.mb (m:Md):PMod×Mb:=(m.pm,⟨m.ta,m.tc,m.ba,m.bc,m.bl,m.da,m.dc,m.ra,m.rc,m.ia,m.ic,m.ea,m.ec⟩)
theorem aLx {m m':Md}{W:qw}(hd:m'.md W)(h:eO c m m' W):mdP m'.mb=m'/\Msr W m'.mb/\(m'.size<=1048576->PmG m'.mb.1):=by
 obtain ⟨g1,g2,g3,g5,g6,g7,gs,rfl,_,_,_,_,_,_,hg,r1,r2,r3,r5,r6,r7⟩:=h;obtain ⟨hn,ht,hb,hdd,hs,hr,hi,he⟩:=hd
 have hbk:∀ k,k<(reb gs m.bl).length->(reb gs m.bl)[k]?=some (some (qR (gs.getD k 0) 0),(m.bl.getD k zB).2.2.2.length,(m.bl.getD k zB).2.1,(m.bl.getD k zB).2.2.2)/\W.cell? (qR g2 k)=some (.slice (some (qR (gs.getD k 0) 0)) (m.bl.getD k zB).2.2.2.length (m.bl.getD k zB).2.1)/\IS W (some (qR (gs.getD k 0) 0)) (m.bl.getD k zB).2.1 (m.bl.getD k zB).2.1 (m.bl.getD k zB).2.2.2:=fun k hk=>by
  have hk':k<m.bl.length:=by rw [nH] at hk;exact hk
  obtain ⟨b1,b2,b3,b4,b5⟩:=hb;dsimp only at b1 b3 b4;have q:=b4 k (by omega);obtain ⟨b,off,e,hc⟩:=b3 (by omega);cases e
  have c:=hc k (by omega);rw [gX _ _ _ hk'] at q c;rw [Nat.zero_add] at c;rw [q.1];refine ⟨?_,c,q⟩;have:=gX gs m.bl k hk';rw [xB,xN hk] at this;rw [xN hk];exact congrArg some this
 refine ⟨?_,⟨oG (aFg ht) _,fun k hk=>?_,rfl,oG (aP4 hdd) _,oG (aFg hr) _,oG (aO9 hi) _,oG (aPz he) _⟩,fun hz=>?_⟩
 .simp only [mdP,Md.mb,Md.pm];rw [ht.1,hb.1,hdd.1,hr.1,hi.1,he.1]
 .obtain ⟨q1,q2,q3⟩:=hbk k hk;exact ⟨g2,_,_,_,rfl,q1,q2,oG (aFg q3) _⟩
 .unfold Md.size cT at hz;dsimp only at hz;have e1:=ht.1;have e2:=hb.1;have e3:=hdd.1;have e4:=hr.1;have e5:=hi.1;have e6:=he.1;dsimp only at e1 e2 e3 e4 e5 e6;refine ⟨hn,⟨by show m.tz.length<=_;omega,ht.2.2.1⟩,⟨by show (List.map _ (reb gs m.bl)).length<=_;rw [xH];omega,fun l hl=>?_⟩,⟨by show m.dz.length<=_;omega,hdd.2.2.1⟩,hs,⟨by show m.rz.length<=_;omega,hr.2.2.1⟩,⟨by show m.ss.length<=_;omega,hi.2.2.1⟩,⟨by show m.es.length<=_;omega,he.2.2.1⟩⟩;obtain ⟨B,hB,rfl⟩:=List.mem_map.1 (show l∈(reb gs m.bl).map (fun B=>B.2.2.2) from hl);obtain ⟨k,hk,rfl⟩:=List.mem_iff_getElem.1 hB;have q:IS W ((reb gs m.bl).getD k zB).1 ((reb gs m.bl).getD k zB).2.1 ((reb gs m.bl).getD k zB).2.2.1 ((reb gs m.bl).getD k zB).2.2.2:=hb.2.2.2.1 k (by show k<m.bn;omega);rw [xB,xN hk,Option.getD_some] at q;have u:=zU (fun j=>((reb gs m.bl).getD j zB).2.1) m.bn k (by omega);rw [xB,xN hk,Option.getD_some] at u;exact ⟨by have:=q.1;omega,q.2.2.1⟩
theorem MnR.mns {w W:qw}(h:MnR W base M g0 g1 g2 g3 g4 g5 g6 ms')(t:MnT w M)(b:MnB M):MnS W (M.cp g0 g1 g2 g3 g4 g5 g6 ms') g0 g1 0 g2 0 g3 0 g4 0 (ms'.map Md.mb):=by
 have D:=h.mnd t b
 have key:∀ i,(hi:i<ms'.length)->mdP (ms'.getD i aK).mb=ms'.getD i aK/\Msr W (ms'.getD i aK).mb/\PmG (ms'.getD i aK).mb.1:=fun i hi=>by
  have hn:=h.n;obtain ⟨k1,k2,k3⟩:=aLx (D.m.d i (by show i<M.mn;omega)) (h.m.2.2 i hi).2;refine ⟨k1,k2,k3 ?_⟩;have e:=zJ (h.m.2.2 i hi).2 (t.m.2.2.2.1 i (by omega)).b.1;have:=b.m i (by omega);show (ms'.getD i aK).size<=_;omega
 have get:∀ (i:Nat) (x:PMod×Mb),(ms'.map Md.mb)[i]?=some x->i<ms'.length/\x=(ms'.getD i aK).mb:=fun i x hx=>by
  rw [List.getElem?_map] at hx;obtain ⟨m,hm,rfl⟩:=Option.map_eq_some_iff.1 hx;obtain ⟨hi,rfl⟩:=List.getElem?_eq_some_iff.1 hm;exact ⟨hi,by simp [xB,hi]⟩
 refine ⟨⟨rfl,rfl,rfl,rfl,rfl⟩,⟨fun i x hx=>?_,fun i x hx=>?_⟩,?_,?_,D.k,D.f,D.r,D.o,aKj h.l,aKj h.h,⟨b.n,b.k,b.b,b.l,b.h⟩⟩
 .obtain ⟨hi,rfl⟩:=get i x hx;refine ⟨g0,rfl,?_⟩;rw [(key i hi).1];exact (h.m.2.2 i hi).1
 .obtain ⟨hi,rfl⟩:=get i x hx;exact (key i hi).2
 .rw [xH];exact h.n
 .rw [List.map_map];rfl
theorem aLy (e:aE ms'=aE M.ms):(M.cp g0 g1 g2 g3 g4 g5 g6 ms').cn=M.cn:=by
 unfold Mn.cn Mn.cp;dsimp only;rw [e]
def MQ (w:World)(x:Value)(C:Cn)(e:Ending)(w':World):Prop:=qY w w'/\∃ N base mid L β,e=.returned (.tuple #[mnV N,x])/\MxO w' base mid C N L β/\w.heap.size<=base
theorem kP {X:World}{mid:Nat}{N:Mn}{L:List (PMod×Mb)}{β:Nat->Nat}(B:qY w X)(k:Blk X q z15 43)(hq:w.heap.size<=q)(hm:MxO X base mid C N L β)(hb:w.heap.size<=base):MQ w x C (.returned (.tuple #[.agg (qA N),x])) (stM X q N):=
 ⟨aG B (cG _ _ _ _ _ _ _ _ _ _ _ _ _ _ _ _ _) (fun j hj=>by omega) B.size,N,base,mid,L,β,rfl,hm.tm (iZ k (cG _ _ _ _ _ _ _ _ _ _ _ _ _ _ _ _ _)),hb⟩
theorem lH {fn:Func}{a b:Nat}{W:World}(N:Mn){Q:Ending->World->Prop}{tmps:Array Value}(hr:fn.results=#[.cell a 43,.tmp b])(k:Blk W q z15 43)(ha:tmps[a]?=some (.pointer (qP q)))(hb:tmps[b]?=some x)(hQ:Q (.returned (.tuple #[.agg (qA N),x])) (stM W q N)):bodyPost Tryz.prog fn Q Exit.ret ⟨tmps,[]⟩ (stM W q N):=by
 obtain ⟨t0,t1,t2,t3,t4,t5,t6,t7,t8,t9,t10,t11,t12,t13,t14⟩:=(iQ k (qS N.ma N.mn N.mc) (qI N.cs) (qI N.cw) (qI N.ck) (qI N.cd) (qI N.pc) (qS N.ka N.kn N.kc) (qS N.fa N.fn N.fc) (qS N.ra N.rn N.rc) (qS N.oa N.on N.oc) (qI N.md) (qI N.bk) (qS N.la N.ln N.lc) (qS N.ha N.hn N.hc) (qI N.tn)).mc;refine bodyPost_ret_by (v:=.tuple #[.agg (qA N),x]) ?_ rfl hQ;simp [results,hr,go_sem,ha,hb,t0,t1,t2,t3,t4,t5,t6,t7,t8,t9,t10,t11,t12,t13,t14]
end Go.Proofs.YtncccmeomcaabaaGreat
namespace Go.Proofs.YtncccmeomcaabaaGreat
open Go.ChangeShapes Go.WideShapes Go.ChangeAt Go.RowKit Classical
variable {base fuel:Nat}{cs:List Value}{held:Bool}
theorem aF8 (b off i:Nat):(Addr.add (qR b off) i)=(qR b (off+i)):=by
 simp only [Addr.add];split
 .next h=>subst h;rfl
 .rfl
set_option maxRecDepth 100000 in
theorem jL {H:Type}{enc:TypeId×Value->H}{w:qw}{x:DataW H×List MemPlace}
 (h:DataW.trod enc Tryz.prog w base (fun _=>true) held fuel 25 cs=some x):∃ a n cap zs,cs=[qS a n cap]/\IS w a n cap zs:=by
 rcases open_ints Tryz.underlying25 Tryz.underlying3 (by kernel_rfl) h with ⟨hcs,_⟩|⟨x,l,c,zs,hcs,_,hl,hm,hz,_,hcell,hwz⟩
 .exact ⟨none,0,0,[],hcs,rfl,Nat.zero_le _,by simp,fun h=>absurd rfl h,aN⟩
 .simp at hz;refine ⟨some x,l,c,zs.take l,hcs,by simp;omega,by omega,fun z hz'=>wf_i64 (hwz z (List.mem_of_mem_take hz')),fun hl0=>?_,hl⟩;obtain ⟨b,off,spot⟩:=x;have hspot:spot=none:=by simpa [Addr.add] using World.cell?_spot (hcell 0 (by omega))
  subst hspot;refine ⟨b,off,rfl,fun i hi=>?_⟩;have:=hcell i (by omega);rw [aF8] at this;rw [this];simp [List.getD_eq_getElem?_getD,hi]
set_option maxRecDepth 100000 in
theorem aDz {H:Type}{enc:TypeId×Value->H}{w:qw}{x:DataW H×List MemPlace}
 (h:DataW.trod enc Tryz.prog w base (fun _=>true) held fuel 114 cs=some x):∃ a n cap bl,cs=[qS a n cap]/\BKS w a n cap bl:=by
 have e1:Tryz.prog.cellsOf 25=1:=by kernel_rfl
 rcases Deep.open_slice Tryz.underlying114 h with ⟨hcs,_⟩|⟨a,len,cap,m,n,D,Pl,hcs,hb,hl,hm,hmm,hx,hd⟩
 .exact ⟨none,0,0,[],hcs,rfl,Nat.zero_le _,fun h=>absurd rfl h,fun i hi=>by omega,aN⟩
 .simp at hmm;rw [hmm] at hd;rw [e1] at hd
  obtain ⟨G,hG⟩:=Deep.choose_lt (α:=Bk) (p:=fun i g=>(∃ cs',w.cells? base (a.add (i*1)) 1=some cs'/\cs'=[qS g.1 g.2.1 g.2.2.1])/\IS w g.1 g.2.1 g.2.2.1 g.2.2.2) (n:=len) (fun i hi=>by
   obtain ⟨cs',h1,h2⟩:=hd i (by omega);obtain ⟨a',n',c',zs',e,hI⟩:=jL h2
   exact ⟨(a',n',c',zs'),⟨cs',h1,e⟩,hI⟩)
  have hgi:∀ i,i<len->((List.range len).map G).getD i zB=G i:=fun i hi=>by simp [List.getD_eq_getElem?_getD,hi]
  refine ⟨some a,len,cap,(List.range len).map G,hcs,by simp,by omega,?_,fun i hi=>by rw [hgi i hi];exact (hG i hi).2,hl⟩;intro hn;obtain ⟨b,off,spot⟩:=a
  have hspot:spot=none:=by
   obtain ⟨⟨cs',h1,h2⟩,_⟩:=hG 0 (by omega);have:=(World.cells?_some h1).2.2 0 (by omega);rw [h2] at this;simpa [Addr.add] using World.cell?_spot this
  subst hspot;refine ⟨b,off,rfl,fun i hi=>?_⟩;obtain ⟨⟨cs',h1,h2⟩,_⟩:=hG i hi;have hc:=(World.cells?_some h1).2.2;rw [h2] at hc;rw [hgi i hi];simp only [aF8] at hc;simpa using hc 0 (by omega)
set_option maxRecDepth 100000 in
theorem aD6 {H:Type}{enc:TypeId×Value->H}{w:qw}{x:DataW H×List MemPlace}
 (h:DataW.trod enc Tryz.prog w base (fun _=>true) held fuel 115 cs=some x):∃ a n cap ss,cs=[qS a n cap]/\TS w a n cap ss:=by
 have e1:Tryz.prog.cellsOf 9=1:=by kernel_rfl
 have ez:zS.size<=maxLen:=by decide
 rcases Deep.open_slice Tryz.underlying115 h with ⟨hcs,_⟩|⟨a,len,cap,m,n,D,Pl,hcs,hb,hl,hm,hmm,hx,hd⟩
 .exact ⟨none,0,0,[],hcs,rfl,Nat.zero_le _,fun i=>by simpa using ez,fun h=>absurd rfl h,aN⟩
 .simp at hmm;rw [hmm] at hd;rw [e1] at hd
  obtain ⟨G,hG⟩:=Deep.choose_lt (α:=ByteArray) (p:=fun i g=>(∃ cs',w.cells? base (a.add (i*1)) 1=some cs'/\cs'=[Value.string g])/\g.size<=maxLen) (n:=len) (fun i hi=>by
   obtain ⟨cs',h1,h2⟩:=hd i (by omega);obtain ⟨s,e,_,hI⟩:=DataW.trod_string Tryz.underlying9 h2
   exact ⟨s,⟨cs',h1,e⟩,hI⟩)
  have hgi:∀ i,i<len->((List.range len).map G).getD i zS=G i:=fun i hi=>by simp [List.getD_eq_getElem?_getD,hi]
  refine ⟨some a,len,cap,(List.range len).map G,hcs,by simp,by omega,fun i=>?_,?_,hl⟩
  .by_cases hi:i<len
   .rw [hgi i hi];exact (hG i hi).2
   .rw [List.getD_eq_getElem?_getD,List.getElem?_eq_none (by simp;omega)];exact ez
  intro hn;obtain ⟨b,off,spot⟩:=a
  have hspot:spot=none:=by
   obtain ⟨⟨cs',h1,h2⟩,_⟩:=hG 0 (by omega);have:=(World.cells?_some h1).2.2 0 (by omega);rw [h2] at this;simpa [Addr.add] using World.cell?_spot this
  subst hspot;refine ⟨b,off,rfl,fun i hi=>?_⟩;obtain ⟨⟨cs',h1,h2⟩,_⟩:=hG i hi;have hc:=(World.cells?_some h1).2.2;rw [h2] at hc;rw [hgi i hi];simp only [aF8] at hc;simpa using hc 0 (by omega)
set_option maxRecDepth 100000 in
theorem aBq {H:Type}{enc:TypeId×Value->H}{w:qw}{base:Nat}{held:Bool}{spare:Nat->Bool}{fuel:Nat}{cs:List Value}{x:DataW H×List MemPlace}
 (h:DataW.trod enc Tryz.prog w base spare held fuel 218 cs=some x):∃ g:Ex,cs=[.string g.1,qI g.2.1,qI g.2.2]/\g.1.size<=maxLen:=by
 obtain ⟨xs,n,_,_,hl,hlen,hf⟩:=DataW.trod_struct Tryz.underlying218 h;have e6:Tryz.prog.cellsOf 218=3:=by kernel_rfl
 rw [e6] at hl
 match xs,hlen,cs,hl with
 | [y0,y1,y2],_,[c0,c1,c2],_=>
 have k0:=hf 0 _ rfl;have k1:=hf 1 _ rfl;have k2:=hf 2 _ rfl;have e3:Tryz.prog.cellsOf 3=1:=by kernel_rfl
 have e4:Tryz.prog.cellsOf 9=1:=by kernel_rfl
 simp [e3,e4] at k0 k1 k2;obtain ⟨a0,h0,_,wa⟩:=DataW.trod_string Tryz.underlying9 k0;obtain ⟨a1,h1,_,wb⟩:=DataW.trod_int Tryz.underlying3 k1;obtain ⟨a2,h2,_,wc⟩:=DataW.trod_int Tryz.underlying3 k2;simp at h0 h1 h2;subst h0 h1 h2;exact ⟨(a0,a1,a2),rfl,wa⟩
set_option maxRecDepth 100000 in
theorem aD9 {H:Type}{enc:TypeId×Value->H}{w:qw}{x:DataW H×List MemPlace}
 (h:DataW.trod enc Tryz.prog w base (fun _=>true) held fuel 116 cs=some x):∃ a n cap es,cs=[qS a n cap]/\TE w a n cap es:=by
 have e1:Tryz.prog.cellsOf 218=3:=by kernel_rfl
 have ez:(zE).1.size<=maxLen:=by decide
 rcases Deep.open_slice Tryz.underlying116 h with ⟨hcs,_⟩|⟨a,len,cap,m,n,D,Pl,hcs,hb,hl,hm,hmm,hx,hd⟩
 .exact ⟨none,0,0,[],hcs,rfl,Nat.zero_le _,fun i=>by simpa using ez,fun h=>absurd rfl h,aN⟩
 .simp at hmm;rw [hmm] at hd;rw [e1] at hd
  obtain ⟨G,hG⟩:=Deep.choose_lt (α:=Ex) (p:=fun i g=>(∃ cs',w.cells? base (a.add (i*3)) 3=some cs'/\cs'=[.string g.1,qI g.2.1,qI g.2.2])/\g.1.size<=maxLen) (n:=len) (fun i hi=>by
   obtain ⟨cs',h1,h2⟩:=hd i (by omega);obtain ⟨s,e,hI⟩:=aBq h2
   exact ⟨s,⟨cs',h1,e⟩,hI⟩)
  have hgi:∀ i,i<len->((List.range len).map G).getD i zE=G i:=fun i hi=>by simp [List.getD_eq_getElem?_getD,hi]
  refine ⟨some a,len,cap,(List.range len).map G,hcs,by simp,by omega,fun i=>?_,?_,hl⟩
  .by_cases hi:i<len
   .rw [hgi i hi];exact (hG i hi).2
   .rw [List.getD_eq_getElem?_getD,List.getElem?_eq_none (by simp;omega)];exact ez
  intro hn;obtain ⟨b,off,spot⟩:=a
  have hspot:spot=none:=by
   obtain ⟨⟨cs',h1,h2⟩,_⟩:=hG 0 (by omega);have:=(World.cells?_some h1).2.2 0 (by omega);rw [h2] at this;simpa [Addr.add] using World.cell?_spot this
  subst hspot;refine ⟨b,off,rfl,fun i hi=>?_⟩;obtain ⟨⟨cs',h1,h2⟩,_⟩:=hG i hi;have hc:=(World.cells?_some h1).2.2;rw [h2] at hc;rw [hgi i hi];simp only [aF8] at hc;exact ⟨hc 0 (by omega),hc 1 (by omega),hc 2 (by omega)⟩
