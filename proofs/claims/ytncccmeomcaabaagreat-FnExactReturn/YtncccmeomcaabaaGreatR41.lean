import Derived.Test.YtncccmeomcaabaaGreatR33
import Derived.Test.YtncccmeomcaabaaGreatR40
set_option linter.all false
set_option maxHeartbeats 8000000
namespace Go.Proofs.YtncccmeomcaabaaGreat
open Go.RowKit Classical
open Go.Proofs.Tryz
set_option maxRecDepth 100000
theorem MOk.cv {M:Mn}{w:qw}(h:MOk M)(d:MnD w M):Cv M.cn M.L:=by
 have e1:=d.f.1;have e2:=d.r.1;have e3:=d.o.1;have e4:=d.k.1;have hc:=h.c;unfold cok at hc;simp at hc;exact ⟨h.l,rfl,by show mok M.fz.length M.rz.length M.oz.length=true;rw [e1,e2,e3];exact h.b,by show (M.rz.length:Int)=_;rw [e2];exact h.r,by show M.kz.length=8;omega,h.s,h.n,h.t⟩
def NmP (w:qw)(M:Mn)(e:Ending)(w':qw):Prop:=(¬ MOk M/\e=.returned (.tuple #[.pointer none,.bool false])/\qY w w')\/(MOk M/\∃ w1 G Y N a13 n13 c13 vr,e=.returned (.tuple #[.pointer (qP G),.bool true])/\qY w w1/\Mg w1 w' G Y M.cn N (qS a13 n13 c13) vr/\Y.L=M.L)
theorem sI (M:Mn)(g b1 o1 b2 o2 b3 o3 b4 o4:Nat)(Ls:List (PMod×Mb))(w:qw)(h:MnD w M)(H:MnS w M g b1 o1 b2 o2 b3 o3 b4 o4 Ls):qC 38 #[.agg (qA M)] w (NmP w M):=by
 obtain ⟨U,hU,bU,kU⟩:=nwb w (qA M) 43;have HVL:=zh (pI M U (h.bw bU));have HU:=zh hU;obtain ⟨m0,m1,m2,m3,m4,m5,m6,m7,m8,m9,m10,m11,m12,m13,m14⟩:=kU.mc;have HBU:=zh (xA bU kU);clear hU bU kU;by_cases ok:MOk M
 .have HCV:=zh (ok.cv h);have HOK:=zh ok;go_enter func38,ntmps38
  go_wp2_with (rw [<- HU.o])
  refine HVL.o.mono ?_;rintro e X0 ⟨hb0,y0,n0,d0,i1,y2,n2,d2,i3,i4,y5,n5,d5,bb,rfl,hbb,hly⟩;obtain rfl:bb=true:=hbb.2 ok;obtain ⟨a0,c0,xs,a2,c2,a5,c5,ts,ely,lyt⟩:=hly rfl;obtain ⟨Y,hY⟩:∃ Y:Lyb,Y=⟨M.L,a0,c0,xs,a2,c2,a5,c5,ts⟩:=⟨_,rfl⟩;have lyt':Y.T X0:=by rw [hY];exact lyt
  have ely':(#[qS y0 n0 d0,qI i1,qS y2 n2 d2,qI i3,qI i4,qS y5 n5 d5]:Array Value)=(qL Y.L Y.a0 Y.xs.length Y.c0 Y.a2 Y.L.slots.length Y.c2 Y.a5 Y.ts.length Y.c5):=by rw [hY];exact ely
  have hYL:Y.L=M.L:=by rw [hY]
  unfold mF at ely;simp only [Array.mk.injEq,List.cons.injEq,Value.slice.injEq,Value.int.injEq,and_true,true_and] at ely';obtain ⟨⟨rfl,rfl,rfl⟩,rfl,⟨rfl,rfl,rfl⟩,rfl,rfl,rfl,rfl,rfl⟩:=ely';obtain ⟨w1,hw1,b1',kl⟩:=nwb X0 (qL Y.L Y.a0 Y.xs.length Y.c0 Y.a2 Y.L.slots.length Y.c2 Y.a5 Y.ts.length Y.c5) 71;have bU1:=hb0.trans (b1'.mono hb0.size);have km:=HBU.o.2.bw bU1;have Bw1:=HBU.o.1.trans (bU1.mono HBU.o.1.size);have lyt1:=lyt'.bw b1'
  have HCP:=zh (fun (X:qw) (hX:qY w1 X)=>(jO M g b1 o1 b2 o2 b3 o3 b4 o4 Ls X ((H.bw Bw1).bw hX)).mono (fun e w' he=>show ∃ N base mid L β,e=.returned (.agg (qA N))/\qY w1 w'/\MxO w' base mid M.cn N L β/\w1.heap.size<=base/\mid<=w'.heap.size from by
   obtain ⟨hb,N,base,mid,L,β,he,hm,h1,h2⟩:=he
   exact ⟨N,base,mid,L,β,he,hX.trans (hb.mono hX.size),hm,xM hX.size h1,h2⟩))
  have HC:=zh (fun (X:qw) (hX:qY w1 X)=>show (X.cell? (qR w.heap.size 0)=some (qS M.ma M.mn M.mc)/\X.cell? (qR w.heap.size 1)=some (qI M.cs)/\X.cell? (qR w.heap.size 2)=some (qI M.cw)/\X.cell? (qR w.heap.size 3)=some (qI M.ck)/\X.cell? (qR w.heap.size 4)=some (qI M.cd)/\X.cell? (qR w.heap.size 5)=some (qI M.pc)/\X.cell? (qR w.heap.size 6)=some (qS M.ka M.kn M.kc)/\X.cell? (qR w.heap.size 7)=some (qS M.fa M.fn M.fc)/\X.cell? (qR w.heap.size 8)=some (qS M.ra M.rn M.rc)/\X.cell? (qR w.heap.size 9)=some (qS M.oa M.on M.oc)/\X.cell? (qR w.heap.size 10)=some (qI M.md)/\X.cell? (qR w.heap.size 11)=some (qI M.bk)/\X.cell? (qR w.heap.size 12)=some (qS M.la M.ln M.lc)/\X.cell? (qR w.heap.size 13)=some (qS M.ha M.hn M.hc)/\X.cell? (qR w.heap.size 14)=some (qI M.tn))/\X.cell? (qR X0.heap.size 0)=some (qS Y.a0 Y.xs.length Y.c0)/\X.cell? (qR X0.heap.size 1)=some (qI Y.L.stack)/\X.cell? (qR X0.heap.size 2)=some (qS Y.a2 Y.L.slots.length Y.c2)/\X.cell? (qR X0.heap.size 3)=some (qI Y.L.flash)/\X.cell? (qR X0.heap.size 4)=some (qI Y.L.ram)/\X.cell? (qR X0.heap.size 5)=some (qS Y.a5 Y.ts.length Y.c5) from ⟨(km.bw hX).mc,(kl.bw hX).ly6⟩);have HW1:=zh hw1;have HY1:=zh (xA lyt1 (xA Bw1 hYL));clear m0 m1 m2 m3 m4 m5 m6 m7 m8 m9 m10 m11 m12 m13 m14 hbb hly ely lyt lyt' hw1 b1' kl bU1 km Bw1 lyt1 hY hYL h H HVL HU hb0 ok;obtain ⟨⟨m0,m1,m2,m3,m4,m5,m6,m7,m8,m9,m10,m11,m12,m13,m14⟩,q0,q1,q2,q3,q4,q5⟩:=HC.o w1 brf;go_wp2_with (rw [<- HW1.o])
  go_region_held3 (fun w'=>(w'.cell? (qR w.heap.size 0)=some (qS M.ma M.mn M.mc)/\w'.cell? (qR w.heap.size 1)=some (qI M.cs)/\w'.cell? (qR w.heap.size 2)=some (qI M.cw)/\w'.cell? (qR w.heap.size 3)=some (qI M.ck)/\w'.cell? (qR w.heap.size 4)=some (qI M.cd)/\w'.cell? (qR w.heap.size 5)=some (qI M.pc)/\w'.cell? (qR w.heap.size 6)=some (qS M.ka M.kn M.kc)/\w'.cell? (qR w.heap.size 7)=some (qS M.fa M.fn M.fc)/\w'.cell? (qR w.heap.size 8)=some (qS M.ra M.rn M.rc)/\w'.cell? (qR w.heap.size 9)=some (qS M.oa M.on M.oc)/\w'.cell? (qR w.heap.size 10)=some (qI M.md)/\w'.cell? (qR w.heap.size 11)=some (qI M.bk)/\w'.cell? (qR w.heap.size 12)=some (qS M.la M.ln M.lc)/\w'.cell? (qR w.heap.size 13)=some (qS M.ha M.hn M.hc)/\w'.cell? (qR w.heap.size 14)=some (qI M.tn))/\w'.cell? (qR X0.heap.size 0)=some (qS Y.a0 Y.xs.length Y.c0)/\w'.cell? (qR X0.heap.size 1)=some (qI Y.L.stack)/\w'.cell? (qR X0.heap.size 2)=some (qS Y.a2 Y.L.slots.length Y.c2)/\w'.cell? (qR X0.heap.size 3)=some (qI Y.L.flash)/\w'.cell? (qR X0.heap.size 4)=some (qI Y.L.ram)/\w'.cell? (qR X0.heap.size 5)=some (qS Y.a5 Y.ts.length Y.c5)) (go_keep)
   (first
     | (go_at_call 40;first
         | with_reducible refine (HCP.o _ brf).mono ?_
         | with_reducible refine (HCP.o _ brf.drew).mono ?_
        rintro e X2 ⟨N,base,mid,L,β,rfl,hb2,hm,hq1,hq2⟩
        obtain ⟨⟨p0,p1,p2,p3,p4,p5,p6,p7,p8,p9,p10,p11,p12,p13,p14⟩,q0,q1,q2,q3,q4,q5⟩:=HC.o X2 hb2))
  obtain ⟨G,hG⟩:=eqx (X2.heap.size);obtain ⟨X3,hX3⟩:=eqx (X2.alloc (.cells #[qS N.ma N.mn N.mc,qI N.cs,qI N.cw,qI N.ck,qI N.cd,qI N.pc,qS N.ka N.kn N.kc,qS N.fa N.fn N.fc,qS N.ra N.rn N.rc,qS N.oa N.on N.oc,qI N.md,qI N.bk,qS N.la N.ln N.lc,qS N.ha N.hn N.hc,qI N.tn,qS Y.a0 Y.xs.length Y.c0,qI Y.L.stack,qS Y.a2 Y.L.slots.length Y.c2,qI Y.L.flash,qI Y.L.ram,qS Y.a5 Y.ts.length Y.c5,qI 0,qS none 0 0,qS none 0 0] 110));have b3:qY X2 X3:=by rw [hX3];exact bal
  have kG:Blk X3 G #[qS N.ma N.mn N.mc,qI N.cs,qI N.cw,qI N.ck,qI N.cd,qI N.pc,qS N.ka N.kn N.kc,qS N.fa N.fn N.fc,qS N.ra N.rn N.rc,qS N.oa N.on N.oc,qI N.md,qI N.bk,qS N.la N.ln N.lc,qS N.ha N.hn N.hc,qI N.tn,qS Y.a0 Y.xs.length Y.c0,qI Y.L.stack,qS Y.a2 Y.L.slots.length Y.c2,qI Y.L.flash,qI Y.L.ram,qS Y.a5 Y.ts.length Y.c5,qI 0,qS none 0 0,qS none 0 0] 110:=by rw [hX3,hG];exact Blk.new _ _ _
  have hb3:=hb2.trans (b3.mono hb2.size);have p4':X3.cell? (qR w.heap.size 4)=some (qI M.cd):=(HC.o X3 hb3).1.2.2.2.2.1;have hws:w.heap.size<w1.heap.size:=xD w1 _ m0;have hGw:w1.heap.size<=G:=by rw [hG];exact hb2.size
  have hn1:¬ G=w.heap.size:=by omega
  have hn2:¬ w.heap.size=G:=by omega
  have x13:=kG.e13;have x21:X3.cell? (qR G 21)=some (qI 0):=kG.cell 21;have x22:X3.cell? (qR G 22)=some (qS none 0 0):=kG.cell 22;have xf:=kG.frozen;have ecd:N.cd=M.cd:=hm.vs.2.2.2.1;have kG2:=(kG.set 21 (qI M.cd)).set 22 (qS N.ha N.hn N.hc);have z13:=kG2.e13;obtain ⟨X4,hX4⟩:=eqx (((X3.setCell ⟨G,21,none⟩ (qI M.cd)).setCell ⟨G,22,none⟩ (qS N.ha N.hn N.hc)).drew);have T4:=(aC X3 G 21 (qI M.cd)).trans (aC _ G 22 (qS N.ha N.hn N.hc))
  have hMg:Mg w1 X4 G Y M.cn N (qS N.ha N.hn N.hc) (qS none 0 0):=by
   rw [hX4];refine Mg.bw ⟨aG hb3 T4 (fun j hj=>by omega) hb3.size,hGw,?_,⟨base,mid,L,β,(hm.bw b3).gm kG (by rw [hG];exact hq2) T4,hq1,by rw [hG];exact hq2⟩,HY1.o.1⟩ brf.drew;try unfold qA at *
   try unfold qL at *
   rw [ecd] at kG2 ⊢;exact kG2
  have HLW:=zh ((oC w1 G Y M.cn N _ _ X4 hMg (by rw [HY1.o.2.2];exact HCV.o.cz)).1);have HX4:=zh hX4;have HX3:=zh hX3;have HG:=zh hG;clear m0 m1 m2 m3 m4 m5 m6 m7 m8 m9 m10 m11 m12 m13 m14 p0 p1 p2 p3 p4 p5 p6 p7 p8 p9 p10 p11 p12 p13 p14 q0 q1 q2 q3 q4 q5 hb2 hm hq1 hq2 b3 hb3 kG kG2 T4 hMg hX3 hX4 HC HCP HW1 HBU ecd hG hws hGw;rw [<- HX3.o,<- HG.o];go_wp2_with fail
  go_region_held3 (fun w'=>w'.cell? (qR w.heap.size 4)=some (qI M.cd)/\w'.cell? (qR G 13)=some (qS N.ha N.hn N.hc)) (go_keep) (fail)
  rw [<- HX4.o];clear p4' x13 x21 x22 xf z13;go_wp2_with fail
  refine HLW.o.mono ?_;rintro e X5 ⟨rfl,A,k,c,hM,_,_⟩;have HE:Zh (NmP w M (.returned (.tuple #[.pointer (qP G),.bool true])) X5):=.inr ⟨HOK.o,w1,G,Y,N,_,_,_,_,rfl,HY1.o.2.1,hM,HY1.o.2.2⟩;clear hM HLW;go_wp2
  go_ret2
  exact HE.o
 .go_enter func38,ntmps38
  go_wp2_with (rw [<- HU.o])
  refine HVL.o.mono ?_;rintro e X0 ⟨hb0,y0,n0,d0,i1,y2,n2,d2,i3,i4,y5,n5,d5,bb,rfl,hbb,_⟩;obtain rfl:bb=false:=by cases bb;rfl;exact absurd (hbb.1 rfl) ok
  have HE:Zh (NmP w M (.returned (.tuple #[.pointer none,.bool false])) (X0.alloc (.cells #[qS y0 n0 d0,qI i1,qS y2 n2 d2,qI i3,qI i4,qS y5 n5 d5] 71))):=.inl ⟨ok,rfl,(HBU.o.1.trans (hb0.mono HBU.o.1.size)).alloc (by have h1:=HBU.o.1.size;have h2:=hb0.size;omega) _⟩;clear hb0 hbb ok h H;go_wp2
  go_ret2
  exact HE.o
theorem aNd {W:qw}{q:Nat}(k1:Blk W q z15 43)(v0 v1 v2 v3 v4 v5 v6 v7 v8 v9 v10 v11 v12 v13 v14:Value)(Q:Ending->World->Prop)(tmps:Array Value)(h2:tmps[2]?=some (.pointer (qP q)))(hQ:Q (.returned (.agg #[v0,v1,v2,v3,v4,v5,v6,v7,v8,v9,v10,v11,v12,v13,v14])) (jS W q v0 v1 v2 v3 v4 v5 v6 v7 v8 v9 v10 v11 v12 v13 v14)):
 bodyPost prog f41 Q Exit.ret ⟨tmps,[]⟩ (jS W q v0 v1 v2 v3 v4 v5 v6 v7 v8 v9 v10 v11 v12 v13 v14):=by
 obtain ⟨t0,t1,t2,t3,t4,t5,t6,t7,t8,t9,t10,t11,t12,t13,t14⟩:=(iJ k1 v0 v1 v2 v3 v4 v5 v6 v7 v8 v9 v10 v11 v12 v13 v14).mc;refine bodyPost_ret_by (v:=.agg #[v0,v1,v2,v3,v4,v5,v6,v7,v8,v9,v10,v11,v12,v13,v14]) ?_ rfl hQ;simp [results,results41,go_sem,h2,t0,t1,t2,t3,t4,t5,t6,t7,t8,t9,t10,t11,t12,t13,t14]
theorem aFd (w1:qw)(G:Nat)(Y:Lyb)(C:Cn)(M:Mn)(a13:qO)(n13 c13:Nat)(vr:Value)(w:qw)(h:Mg w1 w G Y C M (qS a13 n13 c13) vr):qC 41 #[.pointer (qP G)] w (qB w (.agg (qA M))):=by
 obtain ⟨V,hV⟩:=eqx (w.alloc (.cells qZ 43));have bV:qY w V:=by rw [hV];exact bal
 have kV:Blk V w.heap.size z15 43:=by rw [hV];exact Blk.new _ _ _
 have hsz:V.heap.size=w.heap.size+1:=by rw [hV];simp
 obtain ⟨X,hX⟩:=eqx (V.alloc (.cells (qA M) 43));have bX:qY V X:=by rw [hX];exact bal
 have kX:Blk X (w.heap.size+1) (qA M) 43:=by rw [hX,<- hsz];exact Blk.new _ _ _
 have kr:=kV.bw bX;have KR:=kr;unfold z15 at KR;obtain ⟨r0,r1,r2,r3,r4,r5,r6,r7,r8,r9,r10,r11,r12,r13,r14⟩:=KR.mc;have rf:=KR.frozen;obtain ⟨x0,x1,x2,x3,x4,x5,x6,x7,x8,x9,x10,x11,x12,x13,x14⟩:=kX.mc;obtain ⟨k0,k1,k2,k3,k4,k5,k6,k7,k8,k9,k10,k11,k12,k13,k14,k15,k16,k17,k18,k19,k20,k21,k22,k23⟩:=(h.k.bw bV).mg;have BX:=bV.trans (bX.mono bV.size);have y22:(V.alloc (.cells (qX M M.ma M.mn M.mc M.ka M.kn M.kc M.fa M.fn M.fc M.ra M.rn M.rc M.oa M.on M.oc M.la M.ln M.lc a13 n13 c13) 43)).cell? (qR G 22)=some (qS M.ha M.hn M.hc):=((h.k.bw bV).alloc _).cell 22;have HE:Zh (qY w (jS X w.heap.size (qS M.ma M.mn M.mc) (qI M.cs) (qI M.cw) (qI M.ck) (qI M.cd) (qI M.pc) (qS M.ka M.kn M.kc) (qS M.fa M.fn M.fc) (qS M.ra M.rn M.rc) (qS M.oa M.on M.oc) (qI M.md) (qI M.bk) (qS M.la M.ln M.lc) (qS M.ha M.hn M.hc) (qI M.tn))):=aG BX (cE _ _ _ _ _ _ _ _ _ _ _ _ _ _ _ _ _ ) (fun j hj=>by omega) BX.size;have HKR:=zh kr;have HX:=zh hX;have HV:=zh hV;clear hX hV bX bV kV kr KR kX BX h;go_enter func41,ntmps41
 go_wp2_with (first|rw [<- HV.o]|rw [<- HX.o])
 exact aNd HKR.o _ _ _ _ _ _ _ _ _ _ _ _ _ _ _ _ _ rfl ⟨rfl,HE.o⟩
