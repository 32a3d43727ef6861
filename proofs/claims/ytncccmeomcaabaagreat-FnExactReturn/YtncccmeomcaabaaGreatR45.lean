import Derived.Test.YtncccmeomcaabaaGreatR26
import Derived.Test.YtncccmeomcaabaaGreatR35
import Derived.Test.YtncccmeomcaabaaGreatR38
set_option linter.all false
namespace Go.Proofs.YtncccmeomcaabaaGreat
open Go.RowKit Classical
open Go.Proofs.Tryz
set_option maxRecDepth 100000
theorem fG {W:qw}{G:Nat}(k1:Blk W G zL 71)(v0 v1 v2 v3 v4 v5:Value)(b:Bool)(Q:Ending->World->Prop)(tmps:Array Value)(h2:tmps[2]?=some (.pointer (qP G)))(h3:tmps[3]?=some (.bool b))(hQ:Q (.returned (.tuple #[.agg #[v0,v1,v2,v3,v4,v5],.bool b])) (st6 W G v0 v1 v2 v3 v4 v5)):
 bodyPost prog f29 Q Exit.ret ⟨tmps,[]⟩ (st6 W G v0 v1 v2 v3 v4 v5):=by
 have k:=jI k1 v0 v1 v2 v3 v4 v5;obtain ⟨t0,t1,t2,t3,t4,t5⟩:=k.z6;refine bodyPost_ret_by (v:=.tuple #[.agg #[v0,v1,v2,v3,v4,v5],.bool b]) ?_ rfl hQ;simp [results,results29,go_sem,h2,h3,t0,t1,t2,t3,t4,t5]
set_option maxHeartbeats 64000000 in
theorem aKc (M:Mn)(w:qw)(h:MnD w M):qC 29 #[.agg (qA M)] w (VlP w M):=by
 obtain ⟨U,hU,bU,kU⟩:=nwb w (qA M) 43;obtain ⟨V,hV,bV,kV⟩:=nwb U qz 71;have BV:=bU.trans (bV.mono bU.size);have kU':=kU.bw bV;have hUs:w.heap.size<=U.heap.size:=bU.size;have hUV:U.heap.size<V.heap.size:=kV.lt;obtain ⟨L,hL⟩:=eqx (M.L);have HLB:=zh (show LayB L from by rw [hL];exact qQ _ _ _ _ _);have HLV:=zh (show wfi L.stack/\wfi L.flash/\wfi L.ram from by rw [hL];exact aF5 _ _ _ _ _)
 have HLK:=zh (show qC 74 #[qS M.ma M.mn M.mc,.agg (qW M.cs M.cw M.ck M.cd)] V (fun e w'=>qY V w'/\∃ a0 c0 xs a2 c2 a5 c5 ts,e=.returned (.tuple #[.agg (qJ L a0 xs c0 a2 c2 a5 ts c5),qI (lkc (aE M.ms) M.cs M.cw M.ck M.cd)])/\LayO w' V.heap.size L a0 c0 xs a2 c2 a5 c5 ts) from by
  have:=wE M.ma M.mn M.mc M.ms M.cs M.cw M.ck M.cd V (h.m.bw BV);unfold LkM mF at this;rw [show lkL (aE M.ms) M.cs M.cw M.ck M.cd=L from hL.symm] at this
  exact this)
 have HLO:=zh (fun (e:lkc (aE M.ms) M.cs M.cw M.ck M.cd=0)=>show Lok (aE M.ms) L from by
  have:=aEc e;rw [hL];unfold Mn.L lkL;rw [if_pos e]
  exact this)
 have HDV:=zh (h.bw BV);have HU:=zh hU;have HV:=zh hV;have HB:=zh BV;have HEL:=zh hL;have HUS:=zh (xA hUs hUV);have HWU:Zh (w.heap.size<U.heap.size):=kU.lt;have HK:=zh (fun (X:qw) (hX:qY V X)=>xA (kU'.bw hX) (kV.bw hX));have HEN:=zh (fun (X:qw) (hX:qY V X) (v0 v1 v2 v3 v4 v5:Value)=>show qY w (st6 X U.heap.size v0 v1 v2 v3 v4 v5) from aG (BV.trans (hX.mono BV.size)) (cD _ _ _ _ _ _ _ _) (fun j hj=>by have e:j=U.heap.size:=hj;omega) (by have h1:=BV.size;have h2:=hX.size;omega));obtain ⟨m0,m1,m2,m3,m4,m5,m6,m7,m8,m9,m10,m11,m12,m13,m14⟩:=kU'.mc;clear hU hV bU bV kU kU' kV BV h hL hUs hUV;generalize hC:lkc (aE M.ms) M.cs M.cw M.ck M.cd=C at *;have HCE:=zh hC;clear hC;go_enter func29,ntmps29
 go_wp2_with (first|rw [<- HU.o]|rw [<- HV.o])
 refine HLK.o.mono ?_;rintro e X1 ⟨hb1,a0,c0,xs,a2,c2,a5,c5,ts,rfl,O⟩;obtain ⟨W,hW,bW,kW⟩:=nwb X1 (qJ L a0 xs c0 a2 c2 a5 ts c5) 71;have BW:=hb1.trans (bW.mono hb1.size);have HW:=zh hW;have HBW:=zh BW;have OW:=O.below' bW;have HOW:=zh OW;have HLT:=zh (OW.lyt HLB.o.r HLV.o);have HXU:=zh (show U.heap.size<X1.heap.size from by have h1:=HUS.o.2;have h2:=hb1.size;omega);have HC:=zh (fun (X:qw) (hX:qY W X)=>xA ((HK.o X (BW.trans (hX.mono BW.size))).1) (xA ((HK.o X (BW.trans (hX.mono BW.size))).2) (kW.bw hX)));have HVX:=zh (fun (X:qw) (hX:qY W X)=>BW.trans (hX.mono BW.size));clear m0 m1 m2 m3 m4 m5 m6 m7 m8 m9 m10 m11 m12 m13 m14 HU HV HLK hW bW kW BW OW O hb1 HK;obtain ⟨m0,m1,m2,m3,m4,m5,m6,m7,m8,m9,m10,m11,m12,m13,m14⟩:=(HC.o W brf).1.mc;obtain ⟨l0,l1,l2,l3,l4,l5⟩:=(HC.o W brf).2.2.ly6;by_cases c0':¬ C=0
 .have c0'':(C !=0)=true:=by simp [c0']
  have HN:Zh (¬ MOk M):=fun q=>c0' (by rw [<- HCE.o];exact q.l);clear c0';obtain ⟨r0,r1,r2,r3,r4,r5⟩:=(HC.o W brf).2.1.ly6;have rf:=(HC.o W brf).2.1.frozen;have k1:=(HC.o W brf).2.1;have hEN:=HEN.o W HBW.o;go_wp2_with (rw [<- HW.o])
  exact fG k1 (qS a0 xs.length c0) (qI L.stack) (qS a2 L.slots.length c2) (qI L.flash) (qI L.ram) (qS a5 ts.length c5) false _ _ rfl rfl (dP (hEN _ _ _ _ _ _) HN.o)
 replace c0':C=0:=xZ.1 c0';have c0'':(C !=0)=false:=by simp [c0']
 have HE0:=zh (show lkc (aE M.ms) M.cs M.cw M.ck M.cd=0 from by rw [HCE.o];exact c0');have HL0:=zh (HLO.o (by rw [<- HCE.o];exact HE0.o));have HX0:=zh c0';clear c0' HLO;obtain ⟨b0,hb0⟩:=fX (uJ (aE M.ms) L)
 have HPF:=zh (fun (X:qw) (hX:qY W X)=>(aG3 M.ma M.mn M.mc M.ms L a0 c0 xs a2 c2 a5 c5 ts X ((HDV.o.m.bw HBW.o).bw hX) (HLT.o.bw hX)).mono (fun e w' he=>show e=.returned (.bool b0)/\qY X w' from by
  obtain ⟨r,h1,h2,h3⟩:=he;have:r=b0:=by rw [xJ,h2,hb0]
  exact ⟨by rw [h1,this],h3⟩))
 have HCO:=zh (fun (X:qw) (hX:qY W X)=>aAq M.pc M.ka M.kn M.kc M.kz X ((HDV.o.k.bw HBW.o).bw hX));have HMO:=zh (fun (X:qw) (hX:qY W X)=>aDq M.fa M.ra M.oa M.fn M.fc M.rn M.rc M.on M.oc X)
 have HIM:=zh (fun (X:qw) (hX:qY W X)=>show qC 78 #[qS M.ma M.mn M.mc,.agg (qJ L a0 xs c0 a2 c2 a5 ts c5)] X (fun e w'=>qY X w'/\∃ b1 n1 d1 b2 n2 d2 b3 n3 d3,e=.returned (.tuple #[.agg (qV b1 n1 d1 b2 n2 d2 b3 n3 d3),.bool true])/\BS w' b1 n1 d1 (imF (aE M.ms) L)) from by
  have:=aDr M.ma M.mn M.mc M.ms L a0 c0 xs a2 c2 a5 c5 ts X ((HDV.o.m.bw HBW.o).bw hX) (HLT.o.bw hX);unfold ImM at this;rw [xR HL0.o] at this
  exact this.mono (fun e w' ⟨h1,b1,n1,d1,b2,n2,d2,b3,n3,d3,h2,h3⟩=>⟨h1,b1,n1,d1,b2,n2,d2,b3,n3,d3,h2,h3.o1.bs⟩))
 have HLF:=zh (fun (X:qw) (hX:qY W X)=>(HDV.o.f.bw HBW.o).bw hX);have HTH:=zh (fun (X:qw) (hX:qY W X)=>kH M.ma M.mn M.mc M.ms M.md M.bk X (((HDV.o.m.bw HBW.o).bw hX).s));rw [eM HDV.o.m M.md M.bk] at HTH;obtain ⟨b3',hb3⟩:=fX (cU (aE M.ms) L M.cs M.cw M.tn M.rz M.lz/\(M.cs=0\/M.bk=-1\/hld M.lz M.md M.bk≠-1));have HSL:=zh (fun (hr:(M.rn:Int)=L.ram) (X:qw) (hX:qY W X)=>(vI M L a0 c0 xs a2 c2 a5 c5 ts X ((HDV.o.bw HBW.o).bw hX) (HLT.o.bw hX) HEL.o HE0.o hr).mono (fun e w' he=>mK he b3' hb3));obtain ⟨b5,hb5⟩:=fX (jM (aE M.ms) M.cd M.hz);have HSH:=zh (fun (X:qw) (hX:qY W X)=>(tB M X ((HDV.o.bw HBW.o).bw hX)).mono (fun e w' he=>mK he b5 hb5));obtain ⟨b1',hb1⟩:∃ b:Bool,b=cok M.pc M.kn M.kz:=⟨_,rfl⟩;rw [<- hb1] at HCO;obtain ⟨b2',hb2⟩:∃ b:Bool,b=mok M.fn M.rn M.on:=⟨_,rfl⟩;rw [<- hb2] at HMO;obtain ⟨b4',hb4⟩:∃ b:Bool,b=decide (0<=pcq (aE M.ms) M.md M.bk):=⟨_,rfl⟩;rw [<- hb4] at HTH;have HF0:=zh (fun (e:b0=false)=>show ¬ MOk M from fun q=>by have:=hb0.2 (by rw [HEL.o];exact q.p);rw [e] at this;cases this);have HF1:=zh (fun (e:b1'=false)=>show ¬ MOk M from fun q=>by have:=q.c;rw [<- hb1,e] at this;cases this);have HF2:=zh (fun (e:b2'=false)=>show ¬ MOk M from fun q=>by have:=q.b;rw [<- hb2,e] at this;cases this);have HF3:=zh (fun (e:b3'=false)=>show ¬ MOk M from fun q=>by have:=hb3.2 ⟨by rw [HEL.o];exact q.s,q.n.2⟩;rw [e] at this;cases this);have HF4:=zh (fun (e:b4'=false)=>show ¬ MOk M from fun q=>by rw [e] at hb4;exact absurd q.n.1 (of_decide_eq_false hb4.symm));have HF5:=zh (fun (e:b5=false)=>show ¬ MOk M from fun q=>by have:=hb5.2 q.h;rw [e] at this;cases this);have HF6:=zh (fun (e:¬ imF (aE M.ms) L=M.fz)=>show ¬ MOk M from fun q=>e (by rw [HEL.o];exact q.f));have HF7:=zh (fun (e:¬ (M.rn:Int)=L.ram)=>show ¬ MOk M from fun q=>e (by rw [HEL.o];exact q.r));have HF8:=zh (fun (e:¬ (0<=M.tn/\M.tn<=1000000000))=>show ¬ MOk M from fun q=>e q.t)
 have HYY:=zh (fun (e0:b0=true) (e1:b1'=true) (e2:b2'=true) (e6:imF (aE M.ms) L=M.fz) (e7:(M.rn:Int)=L.ram) (et:0<=M.tn/\M.tn<=1000000000) (e4:b4'=true) (e3:b3'=true) (e5:b5=true)=>show MOk M from
  ⟨HE0.o,by have:=hb0.1 e0;rw [HEL.o] at this;exact this,by rw [<- hb1,e1],by rw [<- hb2,e2],by rw [HEL.o] at e6;exact e6,by rw [HEL.o] at e7;exact e7,et,by have:=(hb3.1 e3).1;rw [HEL.o] at this;exact this,⟨by rw [e4] at hb4;exact of_decide_eq_true hb4.symm,(hb3.1 e3).2⟩,hb5.1 e5⟩)
 have HSX:=zh (fun (X:qw) (hX:qY W X) (v0 v1 v2 v3 v4 v5:Value)=>show Blk (st6 X U.heap.size v0 v1 v2 v3 v4 v5) w.heap.size (qA M) 43/\Blk (st6 X U.heap.size v0 v1 v2 v3 v4 v5) X1.heap.size (qJ L a0 xs c0 a2 c2 a5 ts c5) 71 from
  ⟨aF (cD _ _ _ _ _ _ _ _) (HC.o X hX).1 (fun e=>by have e':w.heap.size=U.heap.size:=e;have:=HWU.o;omega),aF (cD _ _ _ _ _ _ _ _) (HC.o X hX).2.2 (fun e=>by have e':X1.heap.size=U.heap.size:=e;have:=HXU.o;omega)⟩)
 clear hb0 hb1 hb2 hb3 hb4 hb5 HDV HCE;go_wp2_with (rw [<- HW.o])
 refine (HPF.o W brf).mono ?_;rintro e Y0 ⟨rfl,hb⟩;have HY0:=zh hb;clear hb HW m0 m1 m2 m3 m4 m5 m6 m7 m8 m9 m10 m11 m12 m13 m14 l0 l1 l2 l3 l4 l5;obtain ⟨m0,m1,m2,m3,m4,m5,m6,m7,m8,m9,m10,m11,m12,m13,m14⟩:=(HC.o Y0 HY0.o).1.mc;obtain ⟨l0,l1,l2,l3,l4,l5⟩:=(HC.o Y0 HY0.o).2.2.ly6;obtain ⟨r0,r1,r2,r3,r4,r5⟩:=(HC.o Y0 HY0.o).2.1.ly6;have rf:=(HC.o Y0 HY0.o).2.1.frozen;cases b0 with
 | false=>
   have HN:=zh (HF0.o (by simp));have k1:=(HC.o Y0 HY0.o).2.1;have hEN:=HEN.o Y0 (HVX.o Y0 HY0.o);go_wp2;exact fG k1 (qS a0 xs.length c0) (qI L.stack) (qS a2 L.slots.length c2) (qI L.flash) (qI L.ram) (qS a5 ts.length c5) false _ _ rfl rfl (dP (hEN _ _ _ _ _ _) HN.o)
 | true=>
 go_wp2_with fail
 refine (HCO.o _ HY0.o).mono ?_;rintro e Y1 ⟨rfl,hb⟩;have HY1:=zh (HY0.o.trans (hb.mono HY0.o.size));clear hb m0 m1 m2 m3 m4 m5 m6 m7 m8 m9 m10 m11 m12 m13 m14 l0 l1 l2 l3 l4 l5 r0 r1 r2 r3 r4 r5 rf;obtain ⟨m0,m1,m2,m3,m4,m5,m6,m7,m8,m9,m10,m11,m12,m13,m14⟩:=(HC.o Y1 HY1.o).1.mc;obtain ⟨l0,l1,l2,l3,l4,l5⟩:=(HC.o Y1 HY1.o).2.2.ly6;obtain ⟨r0,r1,r2,r3,r4,r5⟩:=(HC.o Y1 HY1.o).2.1.ly6;have rf:=(HC.o Y1 HY1.o).2.1.frozen;cases b1' with
 | false=>
   have HN:=zh (HF1.o (by simp));have k1:=(HC.o Y1 HY1.o).2.1;have hEN:=HEN.o Y1 (HVX.o Y1 HY1.o);go_wp2;exact fG k1 (qS a0 xs.length c0) (qI L.stack) (qS a2 L.slots.length c2) (qI L.flash) (qI L.ram) (qS a5 ts.length c5) false _ _ rfl rfl (dP (hEN _ _ _ _ _ _) HN.o)
 | true=>
 go_wp2_with fail
 refine (HMO.o _ HY1.o).mono ?_;rintro e Y2 ⟨rfl,hb⟩;have HY2:=zh (HY1.o.trans (hb.mono HY1.o.size));clear hb m0 m1 m2 m3 m4 m5 m6 m7 m8 m9 m10 m11 m12 m13 m14 l0 l1 l2 l3 l4 l5 r0 r1 r2 r3 r4 r5 rf;obtain ⟨m0,m1,m2,m3,m4,m5,m6,m7,m8,m9,m10,m11,m12,m13,m14⟩:=(HC.o Y2 HY2.o).1.mc;obtain ⟨l0,l1,l2,l3,l4,l5⟩:=(HC.o Y2 HY2.o).2.2.ly6;obtain ⟨r0,r1,r2,r3,r4,r5⟩:=(HC.o Y2 HY2.o).2.1.ly6;have rf:=(HC.o Y2 HY2.o).2.1.frozen;cases b2' with
 | false=>
   have HN:=zh (HF2.o (by simp));have k1:=(HC.o Y2 HY2.o).2.1;have hEN:=HEN.o Y2 (HVX.o Y2 HY2.o);go_wp2;exact fG k1 (qS a0 xs.length c0) (qI L.stack) (qS a2 L.slots.length c2) (qI L.flash) (qI L.ram) (qS a5 ts.length c5) false _ _ rfl rfl (dP (hEN _ _ _ _ _ _) HN.o)
 | true=>
 go_wp2_with fail
 refine (HIM.o _ HY2.o).mono ?_;rintro e Y3 ⟨hb,b1,n1,d1,b2,n2,d2,b3,n3,d3,rfl,hbs⟩;have HY3:=zh (HY2.o.trans (hb.mono HY2.o.size));obtain ⟨Wi,hWi⟩:=eqx (Y3.alloc (.cells (qV b1 n1 d1 b2 n2 d2 b3 n3 d3) 39));have bWi:qY Y3 Wi:=by rw [hWi];exact bal
 have i0:Wi.cell? (qR Y3.heap.size 0)=some (qS b1 n1 d1):=by
  have:Blk Wi Y3.heap.size (qV b1 n1 d1 b2 n2 d2 b3 n3 d3) 39:=by rw [hWi];exact Blk.new _ _ _
  exact this.cell 0
 have HWi:=zh hWi;have HY4:=zh (HY3.o.trans (bWi.mono HY3.o.size));have HLB2:Zh (qC 79 #[qS b1 n1 d1,qS M.fa M.fn M.fc] Wi (fun e w'=>e=.returned (.bool (decide (imF (aE M.ms) L=M.fz)))/\qY Wi w')):=pB _ _ _ _ _ _ _ _ Wi (hbs.bw bWi) (HLF.o Wi HY4.o);clear hb hbs hWi bWi m0 m1 m2 m3 m4 m5 m6 m7 m8 m9 m10 m11 m12 m13 m14 l0 l1 l2 l3 l4 l5 r0 r1 r2 r3 r4 r5 rf;obtain ⟨m0,m1,m2,m3,m4,m5,m6,m7,m8,m9,m10,m11,m12,m13,m14⟩:=(HC.o Wi HY4.o).1.mc;obtain ⟨l0,l1,l2,l3,l4,l5⟩:=(HC.o Wi HY4.o).2.2.ly6;obtain ⟨r0,r1,r2,r3,r4,r5⟩:=(HC.o Wi HY4.o).2.1.ly6;have rf:=(HC.o Wi HY4.o).2.1.frozen;by_cases c6:¬ imF (aE M.ms) L=M.fz
 .rw [xS c6] at HLB2;have HN:=zh (HF6.o c6);clear c6;go_wp2_with (rw [<- HWi.o])
  refine HLB2.o.mono ?_;rintro e Y5 ⟨rfl,hb⟩;have HY5:=zh (HY4.o.trans (hb.mono HY4.o.size));clear hb m0 m1 m2 m3 m4 m5 m6 m7 m8 m9 m10 m11 m12 m13 m14 l0 l1 l2 l3 l4 l5 r0 r1 r2 r3 r4 r5 rf;obtain ⟨m0,m1,m2,m3,m4,m5,m6,m7,m8,m9,m10,m11,m12,m13,m14⟩:=(HC.o Y5 HY5.o).1.mc;obtain ⟨l0,l1,l2,l3,l4,l5⟩:=(HC.o Y5 HY5.o).2.2.ly6;obtain ⟨r0,r1,r2,r3,r4,r5⟩:=(HC.o Y5 HY5.o).2.1.ly6;have rf:=(HC.o Y5 HY5.o).2.1.frozen;have k1:=(HC.o Y5 HY5.o).2.1;have hEN:=HEN.o Y5 (HVX.o Y5 HY5.o);go_wp2;exact fG k1 (qS a0 xs.length c0) (qI L.stack) (qS a2 L.slots.length c2) (qI L.flash) (qI L.ram) (qS a5 ts.length c5) false _ _ rfl rfl (dP (hEN _ _ _ _ _ _) HN.o)
 replace c6:imF (aE M.ms) L=M.fz:=xZ.1 c6;rw [xR c6] at HLB2;have HC6:=zh c6;clear c6;go_wp2_with (rw [<- HWi.o])
 refine HLB2.o.mono ?_;rintro e Y5 ⟨rfl,hb⟩;have HY5:=zh (HY4.o.trans (hb.mono HY4.o.size));clear hb m0 m1 m2 m3 m4 m5 m6 m7 m8 m9 m10 m11 m12 m13 m14 l0 l1 l2 l3 l4 l5 r0 r1 r2 r3 r4 r5 rf i0 HWi;obtain ⟨m0,m1,m2,m3,m4,m5,m6,m7,m8,m9,m10,m11,m12,m13,m14⟩:=(HC.o Y5 HY5.o).1.mc;obtain ⟨l0,l1,l2,l3,l4,l5⟩:=(HC.o Y5 HY5.o).2.2.ly6;obtain ⟨r0,r1,r2,r3,r4,r5⟩:=(HC.o Y5 HY5.o).2.1.ly6;have rf:=(HC.o Y5 HY5.o).2.1.frozen;by_cases c7:¬ (M.rn:Int)=L.ram
 .have c7':((M.rn:Int) !=L.ram)=true:=by simp [c7]
  have HN:=zh (HF7.o c7);clear c7;have k1:=(HC.o Y5 HY5.o).2.1;have hEN:=HEN.o Y5 (HVX.o Y5 HY5.o);go_wp2;exact fG k1 (qS a0 xs.length c0) (qI L.stack) (qS a2 L.slots.length c2) (qI L.flash) (qI L.ram) (qS a5 ts.length c5) false _ _ rfl rfl (dP (hEN _ _ _ _ _ _) HN.o)
 replace c7:(M.rn:Int)=L.ram:=xZ.1 c7;have c7':((M.rn:Int) !=L.ram)=false:=by simp [c7]
 have HC7:=zh c7;clear c7;by_cases c8:M.tn<0
 .have HN:=zh (HF8.o (fun q=>by omega));have k1:=(HC.o Y5 HY5.o).2.1;have hEN:=HEN.o Y5 (HVX.o Y5 HY5.o);go_wp2;exact fG k1 (qS a0 xs.length c0) (qI L.stack) (qS a2 L.slots.length c2) (qI L.flash) (qI L.ram) (qS a5 ts.length c5) false _ _ rfl rfl (dP (hEN _ _ _ _ _ _) HN.o)
 by_cases c9:1000000000<M.tn
 .have HN:=zh (HF8.o (fun q=>by omega));have k1:=(HC.o Y5 HY5.o).2.1;have hEN:=HEN.o Y5 (HVX.o Y5 HY5.o);go_wp2;exact fG k1 (qS a0 xs.length c0) (qI L.stack) (qS a2 L.slots.length c2) (qI L.flash) (qI L.ram) (qS a5 ts.length c5) false _ _ rfl rfl (dP (hEN _ _ _ _ _ _) HN.o)
 have HC8:=zh (show 0<=M.tn/\M.tn<=1000000000 from by omega);go_wp2_with fail
 refine (HTH.o _ HY5.o).mono ?_;rintro e Y6 ⟨rfl,hb⟩;have HY6:=zh (HY5.o.trans (hb.mono HY5.o.size));clear hb m0 m1 m2 m3 m4 m5 m6 m7 m8 m9 m10 m11 m12 m13 m14 l0 l1 l2 l3 l4 l5 r0 r1 r2 r3 r4 r5 rf;obtain ⟨m0,m1,m2,m3,m4,m5,m6,m7,m8,m9,m10,m11,m12,m13,m14⟩:=(HC.o Y6 HY6.o).1.mc;obtain ⟨l0,l1,l2,l3,l4,l5⟩:=(HC.o Y6 HY6.o).2.2.ly6;obtain ⟨r0,r1,r2,r3,r4,r5⟩:=(HC.o Y6 HY6.o).2.1.ly6;have rf:=(HC.o Y6 HY6.o).2.1.frozen;cases b4' with
 | false=>
   have HN:=zh (HF4.o (by simp));have k1:=(HC.o Y6 HY6.o).2.1;have hEN:=HEN.o Y6 (HVX.o Y6 HY6.o);go_wp2;exact fG k1 (qS a0 xs.length c0) (qI L.stack) (qS a2 L.slots.length c2) (qI L.flash) (qI L.ram) (qS a5 ts.length c5) false _ _ rfl rfl (dP (hEN _ _ _ _ _ _) HN.o)
 | true=>
 have HRR:=zh (HSL.o HC7.o);clear m0 m1 m2 m3 m4 m5 m6 m7 m8 m9 m10 m11 m12 m13 m14 l0 l1 l2 l3 l4 l5;go_wp2_with fail
 refine wp_region_held_drew (S:=(fun X=>Blk X w.heap.size (qA M) 43/\Blk X X1.heap.size (qJ L a0 xs c0 a2 c2 a5 ts c5) 71)) (by kernel_rfl) ?_ (fun hHeld=>?_)
 .exact ⟨(HC.o _ HY6.o.drew).1,(HC.o _ HY6.o.drew).2.2⟩
 refine tkV 0 _ rfl (fun w hSw=>aJ9 hSw.2 rfl) ?_;try simp only [yD,yE,yF,Act.put,yA,yB,yC]
 refine tkV 1 _ rfl (fun w hSw=>sZ hSw.1 rfl) ?_;try simp only [yD,yE,yF,Act.put,yA,yB,yC]
 refine tkV 2 _ rfl (fun w hSw=>aJ9 hSw.2 rfl) ?_;try simp only [yD,yE,yF,Act.put,yA,yB,yC]
 refine wpAnyH_ready (rs:=[3]) (by kernel_rfl) (by simp) (AllReadyH.cons rfl (fun K hK=>?_) AllReadyH.nil);go_simp;refine (HRR.o _ HY6.o.drew).mono ?_;rintro e Y7 ⟨rfl,hb⟩;have HY7:=zh (HY6.o.drew.trans (hb.mono HY6.o.drew.size));clear hb;try go_wp2_with fail
 refine hK.out _ _ ?_ (fun hHeld=>?_)
 .exact ⟨(HC.o _ HY7.o).1,(HC.o _ HY7.o).2.2⟩
 clear hK K;try simp only [yD,yE,yF,Act.put,yA,yB,yC]
 refine tkV 4 ?_ rfl ?_ ?_;rotate_left
 ·(intro w hSw;(try dsimp only at hSw);go_simp;try with_reducible rfl)
 try simp only [yD,yE,yF,Act.put,yA,yB,yC]
 clear r0 r1 r2 r3 r4 r5 rf;cases b3' with
 | false=>
   have HN:=zh (HF3.o (by simp));obtain ⟨r0,r1,r2,r3,r4,r5⟩:=(HC.o Y7 HY7.o).2.1.ly6;have rf:=(HC.o Y7 HY7.o).2.1.frozen;refine tkS 5 rfl ?_;try simp only [yD,yE,yF,Act.put,yA,yB,yC]
   refine tkS 6 rfl ?_;try simp only [yD,yE,yF,Act.put,yA,yB,yC]
   refine tkV 7 ?_ rfl ?_ ?_;rotate_left
   ·(intro w hSw;(try dsimp only at hSw);go_simp;try with_reducible rfl)
   try simp only [yD,yE,yF,Act.put,yA,yB,yC]
   refine wpAnyH_ready (rs:=[8]) (by kernel_rfl) (by simp) (AllReadyH.cons rfl (fun K hK=>?_) AllReadyH.nil);go_simp;try go_wp2_with fail
   refine hK.out _ _ ?_ (fun hHeld=>?_)
   .exact HSX.o _ HY7.o _ _ _ _ _ _
   clear hK K;try simp only [yD,yE,yF,Act.put,yA,yB,yC]
   refine tkV 9 ?_ rfl ?_ ?_;rotate_left
   ·(intro w hSw;(try dsimp only at hSw);go_simp;try with_reducible rfl)
   try simp only [yD,yE,yF,Act.put,yA,yB,yC]
   refine wpAnyH_done (by kernel_rfl) ?_ _;have k1:=(HC.o Y7 HY7.o).2.1;have hEN:=HEN.o Y7 (HVX.o Y7 HY7.o);go_wp2;exact fG k1 (qS a0 xs.length c0) (qI L.stack) (qS a2 L.slots.length c2) (qI L.flash) (qI L.ram) (qS a5 ts.length c5) false _ _ rfl rfl (dP (hEN _ _ _ _ _ _) HN.o)
 | true=>
   refine tkV 5 _ rfl (fun w hSw=>sZ hSw.1 rfl) ?_;try simp only [yD,yE,yF,Act.put,yA,yB,yC]
   refine wpAnyH_ready (rs:=[6]) (by kernel_rfl) (by simp) (AllReadyH.cons rfl (fun K hK=>?_) AllReadyH.nil);go_simp;refine (HSH.o _ HY7.o).mono ?_;rintro e Y8 ⟨rfl,hb⟩;have HY8:=zh (HY7.o.trans (hb.mono HY7.o.size));clear hb;try go_wp2_with fail
   refine hK.out _ _ ?_ (fun hHeld=>?_)
   .exact ⟨(HC.o _ HY8.o).1,(HC.o _ HY8.o).2.2⟩
   clear hK K;try simp only [yD,yE,yF,Act.put,yA,yB,yC]
   refine tkV 7 ?_ rfl ?_ ?_;rotate_left
   ·(intro w hSw;(try dsimp only at hSw);go_simp;try with_reducible rfl)
   try simp only [yD,yE,yF,Act.put,yA,yB,yC]
   obtain ⟨r0,r1,r2,r3,r4,r5⟩:=(HC.o Y8 HY8.o).2.1.ly6;have rf:=(HC.o Y8 HY8.o).2.1.frozen;refine wpAnyH_ready (rs:=[8]) (by kernel_rfl) (by simp) (AllReadyH.cons rfl (fun K hK=>?_) AllReadyH.nil);go_simp;try go_wp2_with fail
   refine hK.out _ _ ?_ (fun hHeld=>?_)
   .exact HSX.o _ HY8.o _ _ _ _ _ _
   clear hK K;try simp only [yD,yE,yF,Act.put,yA,yB,yC]
   refine tkV 9 ?_ rfl ?_ ?_;rotate_left
   ·(intro w hSw;(try dsimp only at hSw);go_simp;try with_reducible rfl)
   try simp only [yD,yE,yF,Act.put,yA,yB,yC]
   refine wpAnyH_done (by kernel_rfl) ?_ _;have k1:=(HC.o Y8 HY8.o).2.1;have hEN:=HEN.o Y8 (HVX.o Y8 HY8.o);cases b5 with
   | false=>
     have HN:=zh (HF5.o (by simp));go_wp2;exact fG k1 (qS a0 xs.length c0) (qI L.stack) (qS a2 L.slots.length c2) (qI L.flash) (qI L.ram) (qS a5 ts.length c5) false _ _ rfl rfl (dP (hEN _ _ _ _ _ _) HN.o)
   | true=>
     have HN:=zh (HYY.o (by simp) (by simp) (by simp) HC6.o HC7.o HC8.o (by simp) (by simp) (by simp));have HLE:Zh (LyT (st6 Y8 U.heap.size (qS a0 xs.length c0) (qI L.stack) (qS a2 L.slots.length c2) (qI L.flash) (qI L.ram) (qS a5 ts.length c5)) L a0 c0 xs a2 c2 a5 c5 ts):=((HOW.o.below' HY8.o).kept (cD _ _ _ _ _ _ _ _) (fun j hj _ e=>by have e':j=U.heap.size:=e;have:=HUS.o.2;omega)).lyt HLB.o.r HLV.o;go_wp2;exact fG k1 (qS a0 xs.length c0) (qI L.stack) (qS a2 L.slots.length c2) (qI L.flash) (qI L.ram) (qS a5 ts.length c5) true _ _ rfl rfl (aId HEL.o (hEN _ _ _ _ _ _) HN.o HLE.o)
