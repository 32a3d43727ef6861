import Derived.Test.YtncccmeomcaabaaGreatC04
import Derived.Test.YtncccmeomcaabaaGreatC05
set_option linter.all false
set_option maxHeartbeats 20000000
namespace Go.Proofs.YtncccmeomcaabaaGreat
open Go.RowKit Classical
open Go.Proofs.Tryz
set_option maxRecDepth 100000
variable {G:Prop}{N b base g i n o:Nat}{c d k s w:Int}{cs:Array Value}{ps:List PMod}{v:Value}{x:Obj}
def Lq (w:qw)(j:Nat):Prop:=w.heap.size<=j/\j<w.heap.size+5
theorem aK6 {w W:qw}(k1:Blk W (w.heap.size+1) zL 71)(v0 v1 v2 v3 v4 v5:Value)(Q:Ending->World->Prop)(tmps:Array Value)(h4:tmps[4]?=some (.pointer (some (qR (w.heap.size+1) 0))))(hQ:Q (.returned (.agg #[v0,v1,v2,v3,v4,v5])) (st6 W (w.heap.size+1) v0 v1 v2 v3 v4 v5)):
 bodyPost prog f188 Q Exit.ret ⟨tmps,[]⟩ (st6 W (w.heap.size+1) v0 v1 v2 v3 v4 v5):=by
 have k:=jR k1 v0 v1 v2 v3 v4 v5;obtain ⟨t0,t1,t2,t3,t4,t5⟩:=k.z6;refine bodyPost_ret_by (v:=.agg #[v0,v1,v2,v3,v4,v5]) ?_ rfl hQ;simp [results,results188,go_sem,h4,t0,t1,t2,t3,t4,t5]
theorem tV (a:qO)(n cap:Nat)(ms:List Md)(s c k d:Int)(w:qw)(h:MSD w a n cap ms)(hn:n<=4)(hcf:cfo s c k d=true)(hv:fR (aE ms)):
 qC 188 #[qS a n cap,.agg (qW s c k d)] w fun e w'=>qY w w'/\∃ a0 c0 xs a2 c2,e=.returned (.agg (mV ⟨(lay (aE ms) s c k).places,(lay (aE ms) s c k).stack,(lay (aE ms) s c k).slots,(lay (aE ms) s c k).flash,(lay (aE ms) s c k).ram,[]⟩ a0 c0 xs a2 c2 none 0 []))/\LayO w' w.heap.size ⟨(lay (aE ms) s c k).places,(lay (aE ms) s c k).stack,(lay (aE ms) s c k).slots,(lay (aE ms) s c k).flash,(lay (aE ms) s c k).ram,[]⟩ a0 c0 xs a2 c2 none 0 []:=by
 have N0:=aPx w s c k d;have hl:=h.s.1;have hpl:(aE ms).length=n:=by rw [bT,hl]
 have HH:=zh h;have HVD:=zh hv;obtain ⟨hs0,hs1,hc0,hc1,hk0,hk1,hk2,_⟩:=of_decide_eq_true hcf;have HN:=zh N0;clear h N0 hcf hv;go_enter func188,ntmps188
 go_wp2_with fail
 go_loopw [15] (fun i wr=>∃ (m:Nat) (a0:qO) (c0:Nat) (xs:List PB),m<=n/\i=qI m/\Lo w wr s c k d (Fl (aE ms) m) (65536+Ra (aE ms) m) #[qS a0 m c0,qI 0,qS none 0 0,qI 0,qI 0,qS none 0 0]/\OPl wr (w.heap.size+5) (w.heap.size+5) (qS a0 m c0) xs/\xs.length=m/\xs.map (fun x=>x.1)=(List.range m).map (plc (aE ms))) (qf n)
 .exact ⟨0,none,0,[],xC _,rfl,HN.o,aA1,rfl,rfl⟩
 .clear HN;obtain ⟨m,a0,c0,xs,hm,rfl,S,PX,xl,xp⟩:=hrel;generalize wr=wo at *;by_cases hlt:m<n
  .have hlt':(m:Int)<(n:Int):=by omega
   have H:=HH.o.bw S.be;obtain ⟨b,off,rfl,q0,q1,q2,q3,q4,q5,q6,q7⟩:=H.s.at m hlt;have hmd:=HH.o.d m hlt;have hvm:=HVD.o m (by omega);obtain ⟨P,hP⟩:=eqx ((aE ms).getD m zP);have hPM:P=(ms.getD m aK).pm:=hP.trans (cI (by omega));rw [<- hP] at hvm;have rT:0<=rnd (4*(P.tz.length:Int))/\rnd (4*(P.tz.length:Int))<=831:=eC hvm;have rD:0<=(rnd ((P.dz.length:Int)+P.bss))/\(rnd ((P.dz.length:Int)+P.bss))<=1055:=iL hvm;have rF:=cO HVD.o m (by omega);have rR:=bQ HVD.o m (by omega);obtain ⟨_,_,vt,vb,vd,vs0,vs1,vbk⟩:=cB hvm;have eT:(ms.getD m aK).tn=P.tz.length:=by rw [hPM];exact hmd.t.1.symm
   have eD:(ms.getD m aK).dn=P.dz.length:=by rw [hPM];exact hmd.d.1.symm
   have eS:(ms.getD m aK).bss=P.bss:=by rw [hPM];rfl
   have eB:(ms.getD m aK).bn=P.bl.length:=by rw [hPM];show _=(List.map _ _).length;rw [xH];exact hmd.b.1.symm
   have HBK:Zh (∀ j,j<P.bl.length->((ms.getD m aK).bl.getD j zB).2.1=(P.bl.getD j []).length):=fun j hj=>by rw [hPM];exact (rO hmd j (by omega)).1
   have HBS:=zh hmd.b;rw [eB] at HBS;have HVM:=zh hvm;have HPP:=zh hP;generalize ms.getD m aK=M at *;rw [eT] at q1;rw [eB] at q2;rw [eD] at q3;rw [eS] at q4;have al:qY wo ((wo.alloc (.cells (qM M.nm M.ta P.tz.length M.tc M.ba P.bl.length M.bc M.da P.dz.length M.dc P.bss M.ra M.rn M.rc M.ia M.im M.ic M.ea M.en M.ec) 138)).alloc (.cells #[qI 0,qS none 0 0,qI 0,qI 0] 171)):=(brf.alloc aN _).alloc (by simp) _;have kM:=(Blk.new wo (qM M.nm M.ta P.tz.length M.tc M.ba P.bl.length M.bc M.da P.dz.length M.dc P.bss M.ra M.rn M.rc M.ia M.im M.ic M.ea M.en M.ec) 138).alloc (.cells #[qI 0,qS none 0 0,qI 0,qI 0] 171);have kp:=Blk.new (wo.alloc (.cells (qM M.nm M.ta P.tz.length M.tc M.ba P.bl.length M.bc M.da P.dz.length M.dc P.bss M.ra M.rn M.rc M.ia M.im M.ic M.ea M.en M.ec) 138)) #[qI 0,qS none 0 0,qI 0,qI 0] 171;try unfold qY at *
   simp only [xF] at kp;have S1:=S.bw al;have hgw:=S.sz;have g1:=kM.e1;have HPL:=zh (sR (w.heap.size+2) (Fl (aE ms) m) M.ta P.tz.length M.tc ((wo.alloc (.cells (qM M.nm M.ta P.tz.length M.tc M.ba P.bl.length M.bc M.da P.dz.length M.dc P.bss M.ra M.rn M.rc M.ia M.im M.ic M.ea M.en M.ec) 138)).alloc (.cells #[qI 0,qS none 0 0,qI 0,qI 0] 171)) S1.k2 (by omega) (by omega) (by omega));have HQ:=zh (xA S1 (xA kM (xA kp (aJ (S:=Lq w) al))));have HPX:=zh (xA PX (xA xl xp));clear H hmd hP hPM eT eD eS eB al S hvm kM kp S1 PX xl xp;go_wp2_with fail
   refine HPL.o.mono ?_;rintro e w1 ⟨rfl,B1,U1⟩;obtain ⟨S1,kM,kp,TT⟩:=HQ.o;have S2:=S1.callF (fx':=(Fl (aE ms) m+rnd (4*(P.tz.length:Int)))) U1 B1;have kM2:=aF U1 kM (by omega);have kp2:=aF U1 kp (by omega);have TT2:=TT.trans (U1.mono (S':=Lq w) (fun j hj=>by have e:j=w.heap.size+2:=hj;unfold Lq;omega));have y0:=kp2.e0;have f0:=kp2.frozen 0;have S3:=S2.other (g:=wo.heap.size+1) (by omega) 0 (qI (Fl (aE ms) m));have tp:=aC w1 (wo.heap.size+1) 0 (qI (Fl (aE ms) m));have kM3:=aF tp kM2 (by omega);have kp3:=kp2.s0 (qI (Fl (aE ms) m));have TT3:=iC TT2 (show wo.heap.size<=wo.heap.size+1 by omega) 0 (qI (Fl (aE ms) m));have g2:=kM3.e2;have g2':=kM2.e2;have HPA:=zh (aAx (w.heap.size+2) (Fl (aE ms) m+rnd (4*(P.tz.length:Int))) P M.ba M.bc M.bl w (w1.setCell (qR (wo.heap.size+1) 0) (qI (Fl (aE ms) m))) S3.k2 HVM.o (by omega) (by omega) S3.be (by omega) HBS.o HBK.o);have HQ3:=zh (xA S3 (xA kM3 (xA kp3 TT3)));clear S1 kM kp TT S2 kM2 kp2 TT2 S3 tp kM3 kp3 TT3 HQ HPL B1 U1 g1;go_wp2_with fail
   refine HPA.o.mono ?_;rintro e w2 ⟨ar,cr,rfl,O,B2,U2⟩;obtain ⟨S3,kM3,kp3,TT3⟩:=HQ3.o;have hbs:wo.heap.size+2<=(w1.setCell (qR (wo.heap.size+1) 0) (qI (Fl (aE ms) m))).heap.size:=kp3.lt;have O:=O.mono hbs;have S4:=S3.callF (fx':=(Fl (aE ms) m+rnd (4*(P.tz.length:Int)))+cC P P.bl.length) U2 B2;have kM4:=aF U2 kM3 (by omega);have kp4:=aF U2 kp3 (by omega);have TT4:=TT3.trans (U2.mono (S':=Lq w) (fun j hj=>by have e:j=w.heap.size+2:=hj;unfold Lq;omega));have y1:=kp4.e1;have f1:=kp4.frozen 1;have tp:=aC w2 (wo.heap.size+1) 1 (qS ar P.bl.length cr);have S5:=S4.other (g:=wo.heap.size+1) (by omega) 1 (qS ar P.bl.length cr);have kM5:=aF tp kM4 (by omega);have kp5:=kp4.s1 (qS ar P.bl.length cr);have TT5:=iC TT4 (show wo.heap.size<=wo.heap.size+1 by omega) 1 (qS ar P.bl.length cr);have O5:=O.kept tp (fun k hk e=>by have:=(O.lt k hk).1;have e':k=wo.heap.size+1:=e;omega);have g3:=kM5.e3;have g4:=kM5.e4;have g3':=kM4.e3;have g4':=kM4.e4;have y3:=kp5.e3;have y3':=kp4.e3;have f3:=kp5.frozen 3;have f3':=kp4.frozen 3;have hwd:IntKind.i64.wrap ((P.dz.length:Int)+P.bss)=(P.dz.length:Int)+P.bss:=cA _ (by omega) (by omega);have tq:=aC (w2.setCell (qR (wo.heap.size+1) 1) (qS ar P.bl.length cr)) (wo.heap.size+1) 3 (qI (rnd ((P.dz.length:Int)+P.bss)));have S6:=S5.other (g:=wo.heap.size+1) (by omega) 3 (qI (rnd ((P.dz.length:Int)+P.bss)));have kp6:=kp5.s3 (qI (rnd ((P.dz.length:Int)+P.bss)));have TT6:=iC TT5 (show wo.heap.size<=wo.heap.size+1 by omega) 3 (qI (rnd ((P.dz.length:Int)+P.bss)));have O6:=O5.kept tq (fun k hk e=>by have:=(O5.lt k hk).1;have e':k=wo.heap.size+1:=e;omega);have z3:=kp6.e3;have HPI:=zh (mR (w.heap.size+3) (65536+Ra (aE ms) m) (rnd ((P.dz.length:Int)+P.bss)) ((w2.setCell (qR (wo.heap.size+1) 1) (qS ar P.bl.length cr)).setCell (qR (wo.heap.size+1) 3) (qI (rnd ((P.dz.length:Int)+P.bss)))) S6.k3 (by omega) (by omega) (by omega) (by omega));have HQ6:=zh (xA S6 (xA kp6 (xA TT6 O6)));clear S3 kM3 kp3 TT3 S4 kM4 kp4 TT4 tp S5 kM5 kp5 TT5 O O5 tq S6 kp6 TT6 O6 HQ3 HPA B2 U2 g2 g2' y0 f0 hbs;go_wp2_with fail
   refine (gO ((P.dz.length:Int)+P.bss) _ (by omega) (by omega)).mono ?_;rintro e wz ⟨rfl,rfl⟩;go_wp2_with fail
   refine HPI.o.mono ?_;rintro e w3 ⟨rfl,B3,U3⟩;obtain ⟨S6,kp6,TT6,O6⟩:=HQ6.o;have rR1:=bQ HVD.o (m+1) (by omega);have rF1:=cO HVD.o (m+1) (by omega)
   have eR:(65536+Ra (aE ms) m)+rnd (rnd ((P.dz.length:Int)+P.bss))=65536+Ra (aE ms) (m+1):=by
    rw [aMs];show _=65536+(Ra (aE ms) m+dsz ((aE ms).getD m zP));rw [<- HPP.o];show _=65536+(Ra (aE ms) m+(rnd ((P.dz.length:Int)+P.bss)));omega
   have eF:(Fl (aE ms) m+rnd (4*(P.tz.length:Int)))+cC P P.bl.length=Fl (aE ms) (m+1):=by
    show _=Fl (aE ms) m+msz ((aE ms).getD m zP);rw [<- HPP.o];show _=Fl (aE ms) m+(rnd (4*(P.tz.length:Int))+cC P P.bl.length);omega
   have S7:=S6.callR (rx':=(65536+Ra (aE ms) m)+rnd (rnd ((P.dz.length:Int)+P.bss))) U3 B3;rw [eR,eF] at S7;have kp7:=aF U3 kp6 (by omega);have TT7:=TT6.trans (U3.mono (S':=Lq w) (fun j hj=>by have e:j=w.heap.size+3:=hj;unfold Lq;omega));have O7:=O6.kept U3 (fun k hk e=>by have:=(O6.lt k hk).1;have e':k=w.heap.size+3:=e;omega);have y2:=kp7.e2;have f2:=kp7.frozen 2;have tp:=aC w3 (wo.heap.size+1) 2 (qI (65536+Ra (aE ms) m));have S8:=S7.other (g:=wo.heap.size+1) (by omega) 2 (qI (65536+Ra (aE ms) m));have kp8:=kp7.s2 (qI (65536+Ra (aE ms) m));have TT8:=iC TT7 (show wo.heap.size<=wo.heap.size+1 by omega) 2 (qI (65536+Ra (aE ms) m));have O8:=O7.kept tp (fun k hk e=>by have:=(O7.lt k hk).1;have e':k=wo.heap.size+1:=e;omega);have PX8:=HPX.o.1.kept TT8 (fun k hk e=>by have:=(HPX.o.1.lt.1 k hk).1;unfold Lq at e;omega) (fun x hx k hk e=>by have:=(HPX.o.1.lt.2 x hx k hk).1;unfold Lq at e;omega);have p0:=S8.k4.e0;have p0':=S7.k4.e0;obtain ⟨r0,r1,r2,r3⟩:=kp8.z4;have r0':=kp7.e0;have r1':=kp7.e1;have r3':=kp7.e3;have hTs:=TT8.size;have hsC:(w3.setCell (qR (wo.heap.size+1) 2) (qI (65536+Ra (aE ms) m))).heap.size=w3.heap.size:=aL _ _ _;obtain ⟨iP,hiP,hzP0,hzP1,hzP2⟩:=info_parts aOv;have al2:Below (w3.setCell (qR (wo.heap.size+1) 2) (qI (65536+Ra (aE ms) m))).heap.size (w3.setCell (qR (wo.heap.size+1) 2) (qI (65536+Ra (aE ms) m))) ((w3.setCell (qR (wo.heap.size+1) 2) (qI (65536+Ra (aE ms) m))).alloc (.cells #[qI (Fl (aE ms) m),qS ar P.bl.length cr,qI (65536+Ra (aE ms) m),qI (rnd ((P.dz.length:Int)+P.bss))] 171)):=brf.alloc aN _;have HOW:=zh (show ((w3.setCell (qR (wo.heap.size+1) 2) (qI (65536+Ra (aE ms) m))).alloc (.cells #[qI (Fl (aE ms) m),qS ar P.bl.length cr,qI (65536+Ra (aE ms) m),qI (rnd ((P.dz.length:Int)+P.bss))] 171)).ownsRow (w.heap.size+5) 171 4 (qS a0 m c0) m (xs.flatMap clP) by have:=PX8.head.bw al2;unfold OG at this;rw [HPX.o.2.1] at this;exact this);have HCL:=zh (show clP ((⟨(Fl (aE ms) m),bkx P (Fl (aE ms) m+rnd (4*(P.tz.length:Int))) P.bl.length,(65536+Ra (aE ms) m),(rnd ((P.dz.length:Int)+P.bss))⟩,ar,cr):PB)=[qI (Fl (aE ms) m),qS ar P.bl.length cr,qI (65536+Ra (aE ms) m),qI (rnd ((P.dz.length:Int)+P.bss))] by simp [clP,svP,lX]);have HCN:=zh (show ∀ j u,([qI (Fl (aE ms) m),qS ar P.bl.length cr,qI (65536+Ra (aE ms) m),qI (rnd ((P.dz.length:Int)+P.bss))]:List Value)[j]?=some u->((w3.setCell (qR (wo.heap.size+1) 2) (qI (65536+Ra (aE ms) m))).alloc (.cells #[qI (Fl (aE ms) m),qS ar P.bl.length cr,qI (65536+Ra (aE ms) m),qI (rnd ((P.dz.length:Int)+P.bss))] 171)).cell? (((qR w3.heap.size 0):Addr).add j)=some u by rw [<- hsC];exact bJ (w3.setCell (qR (wo.heap.size+1) 2) (qI (65536+Ra (aE ms) m))) _ _ [qI (Fl (aE ms) m),qS ar P.bl.length cr,qI (65536+Ra (aE ms) m),qI (rnd ((P.dz.length:Int)+P.bss))] rfl);have HLO:Zh (∀ A∈xs,∀ j,(svP A).ownBlock=some j->j<wo.heap.size+2):=fun A hA j hj=>by have:=(HPX.o.1.lt.2 A hA j hj).2;omega
   have HPLC:=zh (show plc (aE ms) m=⟨(Fl (aE ms) m),bkx P (Fl (aE ms) m+rnd (4*(P.tz.length:Int))) P.bl.length,(65536+Ra (aE ms) m),(rnd ((P.dz.length:Int)+P.bss))⟩ by unfold plc bkx;rw [<- HPP.o];rfl);have HQ8:=zh (xA (S8.bw al2) (xA (PX8.bw al2) (O8.bw al2)));have HPL2:=zh HPX.o.2;have hlw:(w3.setCell (qR (wo.heap.size+1) 2) (qI (65536+Ra (aE ms) m))).heap.size+1=((w3.setCell (qR (wo.heap.size+1) 2) (qI (65536+Ra (aE ms) m))).alloc (.cells #[qI (Fl (aE ms) m),qS ar P.bl.length cr,qI (65536+Ra (aE ms) m),qI (rnd ((P.dz.length:Int)+P.bss))] 171)).heap.size:=by simp
   have hwl:w.heap.size+5<=w3.heap.size:=by have:=S7.sz;omega
   clear S6 kp6 TT6 O6 S7 kp7 TT7 O7 tp S8 kp8 TT8 O8 PX8 al2 HQ6 HPI B3 U3 eR eF y1 f1 g3 g4 g3' g4' y3 y3' f3 f3' z3;go_wp2_with (at_builtin;refine wpList_append_own _ rfl _ _ 68 rfl (w.heap.size+5) 171 iP (.agg #[qI 0,qS none 0 0,qI 0,qI 0]) 4 48 underlying68 hiP hzP0 hzP1 hzP2 rfl (by decide) (qS a0 m c0) m (xs.flatMap clP) rfl HOW.o (qR w3.heap.size 0) 1 1 [qI (Fl (aE ms) m),qS ar P.bl.length cr,qI (65536+Ra (aE ms) m),qI (rnd ((P.dz.length:Int)+P.bss))] rfl rfl HCN.o (by intro u hu;simp at hu;rcases hu with rfl|rfl|rfl|rfl<;>rfl) (by unfold maxLen;omega) (by omega) (by simp;omega) ?_;intro v' w4 hown hgr _;obtain ⟨S8,PX8,O8⟩:=HQ8.o;have hrow:∀ j,(qS a0 m c0).ownBlock=some j->w.heap.size+5<=j:=(fun j hj=>(PX8.lt.1 j hj).1);have P4:=PX8.push (x:=((⟨(Fl (aE ms) m),bkx P (Fl (aE ms) m+rnd (4*(P.tz.length:Int))) P.bl.length,(65536+Ra (aE ms) m),(rnd ((P.dz.length:Int)+P.bss))⟩,ar,cr):PB)) HPL2.o.1 (by show OG _ _ _ _ _ (.slice ar (bkx P (Fl (aE ms) m+rnd (4*(P.tz.length:Int))) P.bl.length).length cr) _;rw [lX];exact O8) (by omega) HLO.o (by rw [HCL.o];exact hown) hgr (by decide);have S9:=S8.grown hgr hrow;obtain ⟨a0',c0',rfl⟩:=aR P4.head;rw [show (xs++[((⟨(Fl (aE ms) m),bkx P (Fl (aE ms) m+rnd (4*(P.tz.length:Int))) P.bl.length,(65536+Ra (aE ms) m),(rnd ((P.dz.length:Int)+P.bss))⟩,ar,cr):PB)]).length=m+1 by rw [xI,HPL2.o.1];rfl] at P4 ⊢;have p4:w4.cell? (qR (w.heap.size+4) 0)=some (qS a0 m c0):=S9.k4.cell 0;have f4:=S9.k4.frozen 0;have H9:=zh (xA S9 P4);clear S8 PX8 O8 hrow P4 S9 hown hgr HOW HQ8 p0 p0' r0 r1 r2 r3 r0' r1' r3')
   obtain ⟨S9,P9⟩:=H9.o;have t9:=aC w4 (w.heap.size+4) 0 (qS a0' (m+1) c0');have S10:Lo w (w4.setCell (qR (w.heap.size+4) 0) (qS a0' (m+1) c0')) s c k d (Fl (aE ms) (m+1)) (65536+Ra (aE ms) (m+1)) #[qS a0' (m+1) c0',qI 0,qS none 0 0,qI 0,qI 0,qS none 0 0]:=S9.set 0 (qS a0' (m+1) c0');have P10:=P9.kept t9 (fun k hk e=>by have:=(P9.lt.1 k hk).1;have e':k=w.heap.size+4:=e;omega) (fun x hx k hk e=>by have:=(P9.lt.2 x hx k hk).1;have e':k=w.heap.size+4:=e;omega);have H10:=zh (xA S10 (xA P10 (xA (show (xs++[((⟨(Fl (aE ms) m),bkx P (Fl (aE ms) m+rnd (4*(P.tz.length:Int))) P.bl.length,(65536+Ra (aE ms) m),(rnd ((P.dz.length:Int)+P.bss))⟩,ar,cr):PB)]).length=m+1 by rw [xI,HPL2.o.1];rfl) (show (xs++[((⟨(Fl (aE ms) m),bkx P (Fl (aE ms) m+rnd (4*(P.tz.length:Int))) P.bl.length,(65536+Ra (aE ms) m),(rnd ((P.dz.length:Int)+P.bss))⟩,ar,cr):PB)]).map (fun x=>x.1)=(List.range (m+1)).map (plc (aE ms)) by rw [List.map_append,HPL2.o.2,List.range_succ,List.map_append];simp only [List.map_cons,List.map_nil];rw [HPLC.o]))));clear S9 P9 t9 S10 P10 H9 p4 f4;go_wp2
   go_roundw
   .exact ⟨m+1,a0',c0',_,by omega,by go_num,H10.o.1,H10.o.2.1,H10.o.2.2.1,H10.o.2.2.2⟩
   .simp [qf,intOf];omega
  .have hlt':¬ (m:Int)<(n:Int):=by omega
   have hmn:m=n:=by omega
   subst hmn;have rF:=cO HVD.o m (by omega);have rR:=bQ HVD.o m (by omega);obtain ⟨sn,rfl⟩:∃ sn:Nat,s=(sn:Int):=⟨s.toNat,by omega⟩;obtain ⟨RW,hRW⟩:=eqx (rnd (4*c));have rRW:0<=RW/\RW<=287:=by have:=aQ (x:=4*c) (by omega);omega
   have HRW:=zh hRW;have c2:=S.k0.e2;have HPI:=zh (mR (w.heap.size+3) (65536+Ra (aE ms) m) k wo S.k3 (by omega) (by omega) (by omega) (by omega));have HK:=zh (aH7 hk2);have HQ:=zh (xA S (xA PX (xA xl xp)));clear S PX xl xp hRW;go_wp2_with fail
   refine HPI.o.mono ?_;rintro e w1 ⟨rfl,B1,U1⟩;rw [HK.o] at B1;obtain ⟨S,PX,xl,xp⟩:=HQ.o;have S1:=S.callR (rx':=(65536+Ra (aE ms) m)+k) U1 B1;have PX1:=PX.kept U1 (fun j hj e=>by have:=(PX.lt.1 j hj).1;have e':j=w.heap.size+3:=e;omega) (fun x hx j hj e=>by have:=(PX.lt.2 x hx j hj).1;have e':j=w.heap.size+3:=e;omega);have HXL:Zh (∀ x∈xs,∀ j,(svP x).ownBlock=some j->j<w1.heap.size):=fun x hx j hj=>(PX1.lt.2 x hx j hj).2;have y1:=S1.k4.e1;have f1:=S1.k4.frozen 1;have S2:Lo w (w1.setCell (qR (w.heap.size+1+1+1+1) 1) (qI (65536+Ra (aE ms) m))) sn c k d (Fl (aE ms) m) ((65536+Ra (aE ms) m)+k) #[qS a0 m c0,qI (65536+Ra (aE ms) m),qS none 0 0,qI 0,qI 0,qS none 0 0]:=S1.set 1 (qI (65536+Ra (aE ms) m));have t2:Turn (fun j=>j=w.heap.size+4) w1 (w1.setCell (qR (w.heap.size+1+1+1+1) 1) (qI (65536+Ra (aE ms) m))):=aC w1 (w.heap.size+4) 1 (qI (65536+Ra (aE ms) m));have PX2:=PX1.kept t2 (fun j hj e=>by have:=(PX1.lt.1 j hj).1;have e':j=w.heap.size+4:=e;omega) (fun x hx j hj e=>by have:=(PX1.lt.2 x hx j hj).1;have e':j=w.heap.size+4:=e;omega);have c0':=S2.k0.e0;have c0'':=S1.k0.e0;have hsz1:=S1.sz;have HXX:=zh (xA xl xp);have HQ2:=zh (xA S2 PX2);have HZ:=zh (show (65536+Ra (aE ms) m)+k=(65536+Ra (aE ms) m)+k+((0:Nat):Int)*RW by simp);obtain ⟨iI,hiI,hz0,hz1,hz2⟩:=info_parts jV;clear S PX xl xp S1 PX1 S2 t2 PX2 B1 U1 HPI HQ c2;go_wp2_with fail
   go_loopw [52] (fun i wx=>∃ (q:Nat) (a2:qO) (c2:Nat) (RQ:Int),q<=sn/\i=qI q/\Hid (RQ=(65536+Ra (aE ms) m)+k+(q:Int)*RW)/\Lo w wx sn c k d (Fl (aE ms) m) RQ #[qS a0 m c0,qI (65536+Ra (aE ms) m),qS a2 q c2,qI 0,qI 0,qS none 0 0]/\OG 3 1 clI wx w1.heap.size (qS a2 q c2) ((List.range q).map (slt (aE ms) c k))/\OPl wx (w.heap.size+5) (w.heap.size+5) (qS a0 m c0) xs/\w1.heap.size<=wx.heap.size) (qf sn)
   .exact ⟨0,none,0,_,xC _,rfl,HZ,HQ2.o.1,fL _ _ _ _ _,HQ2.o.2,by rw [aL];exact aN⟩
   .clear HQ2 y1 f1 c0' c0'' HZ;obtain ⟨q,a2,c2,RQ,hq,rfl,hRQ,S,O,PX,hsw⟩:=hrel
    have rRQ:0<=RQ/\RQ<=100000:=by
     have:=hRQ.out;have h1:(q:Int)*RW<=4*287:=Int.mul_le_mul (by omega) (by omega) (by omega) (by omega);have h0:0<=(q:Int)*RW:=Int.mul_nonneg (by omega) (by omega);omega
    by_cases hlt2:q<sn
    .have hlt2':(q:Int)<(sn:Int):=by omega
     have p2:=S.k4.e2;have v1:=S.k0.e1;have hwc:IntKind.i64.wrap (4*c)=4*c:=cA _ (by omega) (by omega)
     have HSU:=zh (show (List.range (q+1)).map (slt (aE ms) c k)=(List.range q).map (slt (aE ms) c k)++[RQ] by
      rw [List.range_succ,List.map_append];simp only [List.map_cons,List.map_nil];congr 2;unfold slt
      rw [hpl,hRQ.out,HRW.o])
     have HLN:=zh (show ((List.range q).map (slt (aE ms) c k)).length=q by simp);have HNQ:=zh (show RQ+RW=(65536+Ra (aE ms) m)+k+((q+1:Nat):Int)*RW by rw [hRQ.out];push_cast;rw [Int.add_mul];omega);have HO:=zh (xA S (xA O PX));have hszr:=S.sz;clear S O PX hRQ;go_wp2_with fail
     go_region_law (first
      | (refine step_append_lies _ rfl _ _ 25 rfl w1.heap.size 3 iI (qI 0) 1 8 underlying25 hiI hz0 hz1 hz2 rfl (by decide) (qS a2 q c2) q (((List.range q).map (slt (aE ms) c k)).flatMap clI) rfl HOW.o (qR wa.heap.size 0) 1 1 (clI RQ) rfl rfl (bJ wa _ _ (clI RQ) rfl) (by intro u hu;simp [clI] at hu;subst hu;rfl) (by decide) (by unfold maxLen;omega) (by omega) (by simp;omega) _ rfl ?_;intro g4 c4 w4 hown hgr hat hlt4;have hrw:∀ j,(qS a2 q c2).ownBlock=some j->w.heap.size+5<=j:=(fun j hj=>by have:=(OAL.o.lt j hj).1;omega);have p4:w4.cell? (qR (w.heap.size+4) 2)=some (qS a2 q c2):=(SAL.o.grown hgr hrw).k4.cell 2;have f4:=(SAL.o.grown hgr hrw).k4.frozen 2)
      | (go_simp;go_at_call 215;refine (mR (w.heap.size+3) RQ (4*c) _ (by first|exact HO.o.1.k3|exact HO.o.1.drew.k3) (by omega) (by omega) (by omega) (by omega)).mono ?_;rintro e wa ⟨rfl,Ba,Ua⟩;rw [<- HRW.o] at Ba;have Ua':Turn (fun j=>j=w.heap.size+3) wr wa:=⟨Ua.os,Ua.tape,Ua.output,Ua.size,Ua.block⟩;have SA:=HO.o.1.callR (rx':=RQ+RW) Ua' Ba;have hsa:=Ua'.size;have OA:=HO.o.2.1.kept Ua' (fun j hj e=>by have:=(HO.o.2.1.lt j hj).1;have e':j=w.heap.size+3:=e;omega);have XA:=HO.o.2.2.kept Ua' (fun j hj e=>by have:=(HO.o.2.2.lt.1 j hj).1;have e':j=w.heap.size+3:=e;omega) (fun x hx j hj e=>by have:=(HO.o.2.2.lt.2 x hx j hj).1;have e':j=w.heap.size+3:=e;omega);have al:qY wa (wa.alloc (.cells #[qI RQ] 3)):=brf.alloc aN _;have pa:wa.cell? (qR (w.heap.size+4) 2)=some (qS a2 q c2):=SA.k4.cell 2;have SAL:=zh (SA.bw al);have OAL:=zh (OA.bw al);have XAL:=zh (XA.bw al);have pb:(wa.alloc (.cells #[qI RQ] 3)).cell? (qR (w.heap.size+4) 2)=some (qS a2 q c2):=SAL.o.k4.cell 2;have va:wa.cell? (qR w.heap.size 1)=some (qI c):=SA.k0.cell 1;have HOW:=zh (show (wa.alloc (.cells #[qI RQ] 3)).ownsRow w1.heap.size 3 1 (qS a2 q c2) q (((List.range q).map (slt (aE ms) c k)).flatMap clI) by have:=OAL.o;unfold OG at this;rw [HLN.o] at this;exact this);clear Ba Ua Ua' SA OA XA al))
     all_goals
      have S4:=SAL.o.grown hgr hrw
      have O4:OG 3 1 clI w4 w1.heap.size (qS (qP g4) (q+1) c4) ((List.range (q+1)).map (slt (aE ms) c k)):=by
       unfold OG;rw [HSU.o,xI,HLN.o,xU,xX];exact hown
      have X4:OPl w4 (w.heap.size+5) (w.heap.size+5) (qS a0 m c0) xs:=⟨XAL.o.head.kept' hgr (fun k hk e=>by obtain ⟨cc,k1⟩:=aD OAL.o e;exact aM XAL.o.head hk k1 (by decide)),fun x hx=>(XAL.o.rows x hx).kept' hgr (fun k hk e=>by have h1:=(OAL.o.lt k e).1;have h2:=HXL.o x hx k hk;omega),XAL.o.apart⟩;have t5:=aC w4 (w.heap.size+4) 2 (qS (qP g4) (q+1) c4);have S5:Lo w (w4.setCell (qR (w.heap.size+4) 2) (qS (qP g4) (q+1) c4)) sn c k d (Fl (aE ms) m) (RQ+RW) #[qS a0 m c0,qI (65536+Ra (aE ms) m),qS (qP g4) (q+1) c4,qI 0,qI 0,qS none 0 0]:=S4.set 2 (qS (qP g4) (q+1) c4);have O5:=O4.kept t5 (fun k hk e=>by have:=(O4.lt k hk).1;have e':k=w.heap.size+4:=e;omega);have X5:=X4.kept t5 (fun k hk e=>by have:=(X4.lt.1 k hk).1;have e':k=w.heap.size+4:=e;omega) (fun x hx k hk e=>by have:=(X4.lt.2 x hx k hk).1;have e':k=w.heap.size+4:=e;omega)
      have hs5:w1.heap.size<=(w4.setCell (qR (w.heap.size+4) 2) (qS (qP g4) (q+1) c4)).heap.size:=by
       have h1:=hgr.size;have h2:(wa.alloc (.cells #[qI RQ] 3)).heap.size=wa.heap.size+1:=by simp
       rw [aL]
       first|omega|(
        have h3:wa.heap.size<=w4.heap.size:=by (try simp at h1);omega
        omega)
      have H5:=zh (xA S5 (xA O5 (xA X5 hs5)));clear S4 O4 X4 t5 S5 O5 X5 hs5 SAL OAL XAL HOW hown hgr hat hlt4 hrw p4 f4 pa pb va HO p2 v1;go_wp2
      go_roundw
      .exact ⟨q+1,_,_,_,by omega,by go_num,HNQ,H5.o.1,H5.o.2.1,H5.o.2.2.1,H5.o.2.2.2⟩
      .simp [qf,intOf];omega
    .have hlt2':¬ (q:Int)<(sn:Int):=by omega
     have hqs:q=sn:=by omega
     have hRQ0:65536<=RQ:=by
      have:=hRQ.out;have h0:0<=(q:Int)*RW:=Int.mul_nonneg (by omega) (by omega);omega
     have hw:IntKind.i64.wrap (RQ-65536)=RQ-65536:=cA _ (by omega) (by omega);have S1:Lo w (wr.setCell (qR (w.heap.size+1+1+1+1) 3) (qI (Fl (aE ms) m))) sn c k d (Fl (aE ms) m) RQ #[qS a0 m c0,qI (65536+Ra (aE ms) m),qS a2 q c2,qI (Fl (aE ms) m),qI 0,qS none 0 0]:=S.set 3 (qI (Fl (aE ms) m));have S2:Lo w ((wr.setCell (qR (w.heap.size+1+1+1+1) 3) (qI (Fl (aE ms) m))).setCell (qR (w.heap.size+1+1+1+1) 4) (qI (RQ-65536))) sn c k d (Fl (aE ms) m) RQ #[qS a0 m c0,qI (65536+Ra (aE ms) m),qS a2 q c2,qI (Fl (aE ms) m),qI (RQ-65536),qS none 0 0]:=S1.set 4 (qI (RQ-65536));have t1:Turn (fun j=>j=w.heap.size+4) wr (wr.setCell (qR (w.heap.size+1+1+1+1) 3) (qI (Fl (aE ms) m))):=aC wr (w.heap.size+4) 3 (qI (Fl (aE ms) m));have t2:Turn (fun j=>j=w.heap.size+4) (wr.setCell (qR (w.heap.size+1+1+1+1) 3) (qI (Fl (aE ms) m))) ((wr.setCell (qR (w.heap.size+1+1+1+1) 3) (qI (Fl (aE ms) m))).setCell (qR (w.heap.size+1+1+1+1) 4) (qI (RQ-65536))):=aC _ (w.heap.size+4) 4 (qI (RQ-65536));have t12:=t1.trans t2;have O2:=O.kept t12 (fun k hk e=>by have:=(O.lt k hk).1;have e':k=w.heap.size+4:=e;omega);have X2:=PX.kept t12 (fun k hk e=>by have:=(PX.lt.1 k hk).1;have e':k=w.heap.size+4:=e;omega) (fun x hx k hk e=>by have:=(PX.lt.2 x hx k hk).1;have e':k=w.heap.size+4:=e;omega);have a0c:=S.k2.e0;have b0c:=S1.k3.e0;have b0c':=S.k3.e0;have l3:=S.k4.e3;have n3:=S.k4.frozen 3;have l4:=S1.k4.e4;have l4':=S.k4.e4;have n4:=S1.k4.frozen 4;have n4':=S.k4.frozen 4;obtain ⟨v0,v1,v2,v3,v4,v5⟩:=S2.k4.z6;obtain ⟨u0,u1,u2,u3,u4,u5⟩:=S2.k1.z6;have z0:=S2.k1.frozen 0;have z1:=S2.k1.frozen 1;have z2:=S2.k1.frozen 2;have z3:=S2.k1.frozen 3;have z4:=S2.k1.frozen 4;have z5:=S2.k1.frozen 5
     have HLAY:=zh (show lay (aE ms) sn c k=⟨(List.range m).map (plc (aE ms)),(65536+Ra (aE ms) m),(List.range q).map (slt (aE ms) c k),(Fl (aE ms) m),RQ-65536,(List.range m).map fun i=>tgs (aE ms) ((aE ms).getD i zP)⟩ by
      unfold lay;rw [hpl,hRQ.out,HRW.o,xY,hqs];congr 1
      omega)
     have t26:=cF ((wr.setCell (qR (w.heap.size+1+1+1+1) 3) (qI (Fl (aE ms) m))).setCell (qR (w.heap.size+1+1+1+1) 4) (qI (RQ-65536))) (w.heap.size+1) (qS a0 m c0) (qI (65536+Ra (aE ms) m)) (qS a2 q c2) (qI (Fl (aE ms) m)) (qI (RQ-65536)) (qS none 0 0);have X26:=X2.kept t26 (fun k hk e=>by have:=(X2.lt.1 k hk).1;have e':k=w.heap.size+1:=e;omega) (fun x hx k hk e=>by have:=(X2.lt.2 x hx k hk).1;have e':k=w.heap.size+1:=e;omega);have O26:=O2.kept t26 (fun k hk e=>by have:=(O2.lt k hk).1;have e':k=w.heap.size+1:=e;omega);have B26:=aG S2.be t26 (fun j hj=>by have e':j=w.heap.size+1:=hj;omega) S2.be.size;have SP:∀ j,(qS a2 q c2).ownBlock=some j->∀ x∈xs,(svP x).ownBlock≠some j:=fun j hj x hx e=>by have h1:=(O.lt j hj).1;have h2:=HXL.o x hx j e;omega
     have HFIN:=zh (xA S2.k1 (xA X26 (xA O26 (xA B26 SP))));clear S S1 S2 t1 t2 t12 O PX O2 X2 t26 X26 O26 B26 SP hqs hRQ;go_wp2;refine aK6 HFIN.o.1 _ _ _ _ _ _ _ _ rfl ?_;obtain ⟨_,X26,O26,B26,SP⟩:=HFIN.o;refine ⟨B26,a0,c0,xs,a2,c2,?_,?_⟩
     .unfold mV;rw [HLAY.o,HXX.o.1];simp
     .rw [HLAY.o];exact ⟨by rw [HXX.o.1];exact X26.mono (by omega) (by omega),HXX.o.2,by simpa using O26.mono (by omega),aA1,rfl,by simpa using SP⟩
structure Kin (w W:qw)(s c k d:Int):Prop where
 be:qY w W
 k0:Blk W w.heap.size (qW s c k d) 37
 k1:Blk W (w.heap.size+1) zL 71
theorem Kin.bw {w W W':qw}(h:Kin w W s c k d)(hb:qY W W'):Kin w W' s c k d:=⟨h.be.trans (hb.mono h.be.size),h.k0.bw hb,h.k1.bw hb⟩
theorem Kin.drew {w W:qw}(h:Kin w W s c k d):Kin w W.drew s c k d:=⟨h.be.drew,h.k0,h.k1⟩
theorem aNt (w:qw)(s c k d:Int):Kin w ((w.alloc (.cells (qW s c k d) 37)).alloc (.cells qz 71)) s c k d:=by
 have k0:=Blk.new w (qW s c k d) 37;have b0:qY w (w.alloc (.cells (qW s c k d) 37)):=bal;have s0:(w.alloc (.cells (qW s c k d) 37)).heap.size=w.heap.size+1:=by simp
 generalize w.alloc (.cells (qW s c k d) 37)=W0 at *;have k1:=Blk.new W0 qz 71;have b1:qY W0 (W0.alloc (.cells qz 71)):=bal;rw [s0] at k1;exact ⟨b0.trans (b1.mono (by omega)),k0.bw b1,k1⟩
theorem yW {w W:qw}(k1:Blk W (w.heap.size+1) zL 71)(v0 v1 v2 v3 v4 v5:Value)(V:Int)(Q:Ending->World->Prop)(tmps:Array Value)(h4:tmps[4]?=some (.pointer (some (qR (w.heap.size+1) 0))))(h5:tmps[5]?=some (qI V))(hQ:Q (.returned (.tuple #[.agg #[v0,v1,v2,v3,v4,v5],qI V])) (st6 W (w.heap.size+1) v0 v1 v2 v3 v4 v5)):
 bodyPost prog f153 Q Exit.ret ⟨tmps,[]⟩ (st6 W (w.heap.size+1) v0 v1 v2 v3 v4 v5):=by
 have k:=jR k1 v0 v1 v2 v3 v4 v5;obtain ⟨t0,t1,t2,t3,t4,t5⟩:=k.z6;refine bodyPost_ret_by (v:=.tuple #[.agg #[v0,v1,v2,v3,v4,v5],qI V]) ?_ rfl hQ;simp [results,results153,go_sem,h4,h5,t0,t1,t2,t3,t4,t5]
theorem lA {w W:qw}{V:Int}(S:Kin w W s c k d)(hV:lkc ps s c k d=V)(h0:V≠0)(tmps:Array Value)(h4:tmps[4]?=some (.pointer (some (qR (w.heap.size+1) 0))))(h5:tmps[5]?=some (qI V)):
 bodyPost prog f153 (LkM w ps s c k d) Exit.ret ⟨tmps,[]⟩ (st6 W (w.heap.size+1) (qS none 0 0) (qI 0) (qS none 0 0) (qI 0) (qI 0) (qS none 0 0)):=
 yW S.k1 _ _ _ _ _ _ V _ tmps h4 h5 (aGy (aG S.be (cF _ _ _ _ _ _ _ _) (fun j hj=>by have e:j=w.heap.size+1:=hj;omega) S.be.size) hV h0)
theorem zD (a:qO)(n cap:Nat)(ms:List Md)(s c k d:Int)(w:qw)(h:MSD w a n cap ms):
 qC 153 #[qS a n cap,.agg (qW s c k d)] w (LkM w (aE ms) s c k d):=by
 have K0:=aNt w s c k d;have hl:=h.s.1;have hpl:(aE ms).length=n:=by rw [bT,hl]
 have HH:=zh h;have HSND:=zh (fun (W:qw) (hb:qY w W)=>wE a n cap ms s c k d W (h.bw hb));obtain ⟨V,hV⟩:=eqx (dU (aE ms) s c k d);rw [<- hV] at HSND;have HV:=zh hV;have HK:=zh K0;clear h K0 hV;go_enter func153,ntmps153
 go_wp2_with fail
 refine (HSND.o _ HK.o.be).mono ?_;rintro e w1 ⟨rfl,hb1⟩;have S1:=HK.o.bw hb1;clear hb1 HK;by_cases hV0:V=0
 .have hs4:=HV.o;rw [hV0] at hs4;obtain ⟨hcf,h4,hvl⟩:=sF hs4.symm;obtain ⟨hs0,hs1,hc0,hc1,_⟩:=of_decide_eq_true hcf;have HS4:=zh hs4.symm;have HVL:=zh hvl;have HCF:=zh hcf;rw [hpl] at h4;subst hV0;have HTA:=zh (vM a n cap ms w1 (HH.o.bw S1.be) hvl h4);have HS1:=zh S1;clear hs4 hvl hcf S1;go_wp2_with fail
  refine HTA.o.mono ?_;rintro e w2 ⟨hb2,H2⟩;have S2:=HS1.o.bw hb2;have hs1w:=HS1.o.be.size;rcases H2 with ⟨hno,v,rfl⟩|⟨hyes,f,rfl,TF,hfe⟩
  .have HP:=zh (aOp (d:=d) (k:=k) (w:=c) (s:=s) HS4.o hno);have HS:=zh S2;obtain ⟨p0,p1,p2,p3,p4,p5⟩:=S2.k1.z6;have y0:=S2.k1.frozen;clear S2 hno hb2 HTA HS1;go_wp2;exact lA HS.o HP.o (by decide) _ rfl rfl
  .have HI:=zh hyes;have HFE:=zh hfe;obtain ⟨gt,hgt0⟩:=eqx (w1.heap.size);rw [<- hgt0] at TF hs1w ⊢;have HTF0:=zh TF;have HS2:=zh S2;obtain ⟨c0,c1,c2,c3⟩:=S2.k0.z4;clear hyes hfe TF S2 hb2 HTA HS1 hgt0;by_cases hsz:s=0
   focus
    subst hsz;have HN6:Zh (¬ ((0:Int)<0/\¬ kI (aE ms) c)):=fun e=>absurd e.1 (by omega);go_wp2_with fail
    go_quiet (fail)
    have HS:Zh (Kin w (w2.drewN nq) 0 c k d):=zh ⟨iR HS2.o.be nq,HS2.o.k0,HS2.o.k1⟩;have HTF:Zh (Tf (w2.drewN nq) gt gt n f):=zh ⟨HTF0.o.head,HTF0.o.rows,HTF0.o.apart⟩;clear HS2 HTF0 c0 c1 c2 c3;generalize w2.drewN nq=w3 at *;have HLA:=zh (tV a n cap ms 0 c k d w3 (HH.o.bw HS.o.be) h4 HCF.o HVL.o);obtain ⟨c0,c1,c2,c3⟩:=HS.o.k0.z4;go_wp2_with fail
    refine HLA.o.mono ?_;rintro e w4 ⟨hb4,a0,d0,xs,a2,d2,rfl,LO⟩;have S4:=HS.o.bw hb4;have TF4:=HTF.o.bw hb4;obtain ⟨L,hL⟩:=eqx (lay (aE ms) 0 c k)
   rotate_left
   focus
    have hsn:(s !=0)=true:=by simp [hsz]
    have HGB:=zh (fun (W:qw) (hb:qY w W)=>pB a n cap ms W (HH.o.bw hb) HVL.o h4);go_wp2_with fail
    go_region_law (first
     | (go_simp;go_at_call 187;refine (HGB.o _ (by first|exact HS2.o.be|exact HS2.o.drew.be)).mono ?_;rintro e wa ⟨R,rfl,hG,hba⟩;have HSA:=zh (show Kin w wa s c k d from (by first|exact HS2.o.bw hba|exact HS2.o.drew.bw hba));have HTB:=zh (show Tf wa gt gt n f from (by first|exact HTF0.o.bw hba|exact Tf.bw (w:=w2.drew) ⟨HTF0.o.head,HTF0.o.rows,HTF0.o.apart⟩ hba));have e1:wa.cell? (qR w.heap.size 1)=some (qI c):=HSA.o.k0.cell 1;have HG:=zh hG;clear hba hG))
    all_goals
     have HS:=HSA;have HTF:=HTB;clear HS2 HTF0 c0 c1 c2 c3 HSA HTB e1 HGB;generalize wa=w3 at *;by_cases h6:c<(R:Int)
     .have HP:=zh (aOo (d:=d) (k:=k) HS4.o HI.o ⟨by omega,(aG4 HG.o c hc0).1 h6⟩);have S3:=HS.o;obtain ⟨p0,p1,p2,p3,p4,p5⟩:=S3.k1.z6;have y0:=S3.k1.frozen;clear S3;go_wp2;exact lA HS.o HP.o (by decide) _ rfl rfl
     have HN6:Zh (¬ (0<s/\¬ kI (aE ms) c)):=fun e=>h6 ((aG4 HG.o c hc0).2 e.2);have h6':¬ c<(R:Int):=h6;have HLA:=zh (tV a n cap ms s c k d w3 (HH.o.bw HS.o.be) h4 HCF.o HVL.o);obtain ⟨c0,c1,c2,c3⟩:=HS.o.k0.z4;go_wp2_with fail
     refine HLA.o.mono ?_;rintro e w4 ⟨hb4,a0,d0,xs,a2,d2,rfl,LO⟩;have S4:=HS.o.bw hb4;have TF4:=HTF.o.bw hb4;obtain ⟨L,hL⟩:=eqx (lay (aE ms) s c k)
   all_goals
    rw [<- hL] at LO ⊢;have HLL:=zh hL;have al:qY w4 (w4.alloc (.cells (qL L a0 xs.length d0 a2 L.slots.length d2 none 0 0) 71)):=bal;have kL:=Blk.new w4 (qL L a0 xs.length d0 a2 L.slots.length d2 none 0 0) 71;have S5:=S4.bw al;have TF5:=TF4.bw al;have hs34:=hb4.size;have hs3:=HS.o.k1.lt;have hgt:=HTF.o.lt.1;have LO5:LayO (w4.alloc (.cells (qL L a0 xs.length d0 a2 L.slots.length d2 none 0 0) 71)) w3.heap.size ⟨L.places,L.stack,L.slots,L.flash,L.ram,[]⟩ a0 d0 xs a2 d2 none 0 []:=⟨LO.p.bw al,LO.ps,LO.s.bw al,LO.t.bw al,LO.tt,LO.sp⟩;have alM:qY w4 (w4.alloc (.cells (qL L a0 xs.length d0 a2 L.slots.length d2 (qP gt) n n) 71)):=bal;have kM:=Blk.new w4 (qL L a0 xs.length d0 a2 L.slots.length d2 (qP gt) n n) 71;have S6:=S4.bw alM;have TF6:=TF4.bw alM;have LO6:LayO (w4.alloc (.cells (qL L a0 xs.length d0 a2 L.slots.length d2 (qP gt) n n) 71)) w3.heap.size ⟨L.places,L.stack,L.slots,L.flash,L.ram,[]⟩ a0 d0 xs a2 d2 none 0 []:=⟨LO.p.bw alM,LO.ps,LO.s.bw alM,LO.t.bw alM,LO.tt,LO.sp⟩;obtain ⟨l0,l1,l2,l3,l4,l5⟩:=kL.z6;have n5:=kL.frozen 5;have HKL:=zh kM;obtain ⟨m0,m1,m2,m3,m4,m5⟩:=kM.z6;have HS5:=zh (xA S5 (xA LO6 (xA TF6 S6)));clear hb4 S4 TF4 LO al kL hL HS HTF HLA c0 c1 c2 c3 alM kM TF5 LO5;unfold mV;by_cases h7:16384<L.flash
    .have HP:=zh (aOn (d:=d) HS4.o HI.o HN6.o (by rw [<- HLL.o];exact h7));obtain ⟨p0,p1,p2,p3,p4,p5⟩:=S5.k1.z6;have y0:=S5.k1.frozen;clear S5 S6 LO6 TF6;go_wp2;exact lA HS5.o.1 HP.o (by decide) _ rfl rfl
    .have h7':¬ 16384<L.flash:=h7;by_cases h8:16384<L.ram
     .have HP:=zh (aOm (d:=d) HS4.o HI.o HN6.o (by rw [<- HLL.o];exact h7) (by rw [<- HLL.o];exact h8));obtain ⟨p0,p1,p2,p3,p4,p5⟩:=S5.k1.z6;have y0:=S5.k1.frozen;clear S5 S6 LO6 TF6;go_wp2;exact lA HS5.o.1 HP.o (by decide) _ rfl rfl
     .have HP:=zh (aOr (d:=d) HS4.o HI.o HN6.o (by rw [<- HLL.o];exact h7) (by rw [<- HLL.o];exact h8));obtain ⟨p0,p1,p2,p3,p4,p5⟩:=S6.k1.z6;have y0:=S6.k1.frozen;clear S5 S6 LO6 TF6;go_wp2;refine yW HS5.o.2.2.2.k1 _ _ _ _ _ _ 0 _ _ rfl rfl ?_;obtain ⟨S5,LO5,TF5,S6⟩:=HS5.o;have t:=cF (w4.alloc (.cells (qL L a0 xs.length d0 a2 L.slots.length d2 (qP gt) n n) 71)) (w.heap.size+1) (qS a0 xs.length d0) (qI L.stack) (qS a2 L.slots.length d2) (qI L.flash) (qI L.ram) (qS (qP gt) n n);have OT:=TF5.otg (c:=n) aN (by unfold maxLen;omega) rfl
      have key:∀ (base sz nn:Nat) (ty:TypeId) (v:Value) (ys:List Value),(w4.alloc (.cells (qL L a0 xs.length d0 a2 L.slots.length d2 (qP gt) n n) 71)).ownsRow base ty sz v nn ys->ty≠71->∀ j,v.ownBlock=some j->¬ (fun j=>j=w.heap.size+1) j:=fun base sz nn ty v ys ho hne j hj e=>by
       have e':j=w.heap.size+1:=e;subst e';exact aM ho hj S6.k1 hne
      refine ⟨aG S6.be (cF _ _ _ _ _ _ _ _) (fun j hj=>by have e:j=w.heap.size+1:=hj;omega) S6.be.size,a0,d0,xs,a2,d2,some (qR gt 0),n,(List.range n).map f,?_,?_⟩
      .unfold lkL mV;rw [if_pos HP.o,HP.o,<- HLL.o];simp
      .unfold lkL;rw [if_pos HP.o,<- HLL.o];exact ⟨(LO5.p.kept t (key _ _ _ _ _ _ LO5.p.head (by decide)) (fun x hx=>key _ _ _ _ _ _ (LO5.p.rows x hx) (by decide))).mono (by omega) (by omega),LO5.ps,(LO5.s.kept t (key _ _ _ _ _ _ LO5.s (by decide))).mono (by omega),(OT.kept t (key _ _ _ _ _ _ OT.head (by decide)) (fun x hx=>key _ _ _ _ _ _ (OT.rows x hx) (by decide))).mono (by omega) (by omega),by rw [HLL.o];unfold lay;rw [hpl,List.map_map];exact List.map_congr_left (fun i hi=>HFE.o i (by simpa using hi)),LO5.sp⟩
 .have hV0':(V !=0)=true:=by simp [hV0]
  have HP:=zh (aOq (ps:=aE ms) HV.o.symm hV0);have HS:=zh S1;obtain ⟨p0,p1,p2,p3,p4,p5⟩:=S1.k1.z6;have y0:=S1.k1.frozen;clear S1;go_wp2;exact lA HS.o HP.o hV0 _ rfl rfl
theorem vF (L:Lay)(a0:qO)(c0:Nat)(xs:List PB)(a2:qO)(c2:Nat)(a5:qO)(c5:Nat)(ts:List TB)(L':Lay)(a0':qO)(c0':Nat)(xs':List PB)(a2':qO)(c2':Nat)(a5':qO)(c5':Nat)(ts':List TB)(w:qw)(h:LyT w L a0 c0 xs a2 c2 a5 c5 ts)(h':LyT w L' a0' c0' xs' a2' c2' a5' c5' ts'):
 qC 182 #[.agg (qJ L a0 xs c0 a2 c2 a5 ts c5),.agg (qL L' a0' xs'.length c0' a2' L'.slots.length c2' a5' ts'.length c5')] w (qB w (.bool (decide (L=L')))):=by
 have hps:=h.ps;have hps':=h'.ps;have htt:=h.tt;have htt':=h'.tt;have HE1:=zh (fun (W:qw) (hb:qY w W)=>lE a2 a2' L.slots.length c2 L'.slots.length c2' L.slots L'.slots W (h.s.bw hb) (h'.s.bw hb));have HE2:=zh (fun (W:qw) (hb:qY w W)=>oW a0 xs.length c0 xs L.stack a2 L.slots.length c2 L.flash L.ram a5 ts.length c5 ts a0' xs'.length c0' xs' L'.stack a2' L'.slots.length c2' L'.flash L'.ram a5' ts'.length c5' ts' W (h.p.bw hb) (h.t.bw hb) (h'.p.bw hb) (h'.t.bw hb));rw [hps,hps',htt,htt'] at HE2;clear h h' hps hps' htt htt';obtain ⟨pl,st,sl,fl,rm,tg⟩:=L;obtain ⟨pl',st',sl',fl',rm',tg'⟩:=L';dsimp only at HE1 HE2 ⊢;obtain ⟨r,hr⟩:=eqx (decide ((⟨pl,st,sl,fl,rm,tg⟩:Lay)=⟨pl',st',sl',fl',rm',tg'⟩));rw [<- hr];simp only [Lay.mk.injEq] at hr;have HR:=zh hr;clear hr;have B0:qY w ((w.alloc (.cells #[qS a0 xs.length c0,qI st,qS a2 sl.length c2,qI fl,qI rm,qS a5 ts.length c5] 71)).alloc (.cells #[qS a0' xs'.length c0',qI st',qS a2' sl'.length c2',qI fl',qI rm',qS a5' ts'.length c5'] 71)):=bal.alloc (by simp) _;have u:=(Blk.new w #[qS a0 xs.length c0,qI st,qS a2 sl.length c2,qI fl,qI rm,qS a5 ts.length c5] 71).alloc (.cells #[qS a0' xs'.length c0',qI st',qS a2' sl'.length c2',qI fl',qI rm',qS a5' ts'.length c5'] 71);have v:=Blk.new (w.alloc (.cells #[qS a0 xs.length c0,qI st,qS a2 sl.length c2,qI fl,qI rm,qS a5 ts.length c5] 71)) #[qS a0' xs'.length c0',qI st',qS a2' sl'.length c2',qI fl',qI rm',qS a5' ts'.length c5'] 71;try unfold qY at *
 simp only [xF] at v;have HK:=zh (xA B0 (xA u v));clear u v B0;go_enter func182,ntmps182
 go_wp2_with fail
 refine (HE2.o _ HK.o.1).mono ?_;rintro e w1 ⟨rfl,hb1⟩;have HK1:=zh (xA (HK.o.1.trans (hb1.mono HK.o.1.size)) (xA (HK.o.2.1.bw hb1) (HK.o.2.2.bw hb1)));clear hb1 HK;by_cases k0:pl=pl'/\tg=tg'
 rotate_left
 .rw [xS k0];have HV:=zh (show r=false by rw [HR.o,decide_eq_false_iff_not];exact fun e=>k0 ⟨e.1,e.2.2.2.2.2⟩);clear HR HE1 HE2;go_wp2;go_ret;exact ⟨aA HV.o.symm,HK1.o.1⟩
 rw [xR k0];have HC0:=zh k0;clear k0;obtain ⟨p0,p1,p2,p3,p4,p5⟩:=(HK1.o.2.1).ly6;obtain ⟨q0,q1,q2,q3,q4,q5⟩:=(HK1.o.2.2).ly6;by_cases k1:st=st'
 rotate_left
 .have g1:(st==st')=false:=by simpa using k1
  have HV:=zh (show r=false by rw [HR.o];simp [k1]);clear HR HE1 HE2;go_wp2;go_ret;exact ⟨aA HV.o.symm,HK1.o.1⟩
 have g1:(st==st')=true:=by simpa using k1
 have HC1:=zh k1;clear k1;go_wp2_with fail
 refine (HE1.o _ HK1.o.1).mono ?_;rintro e w2 ⟨rfl,hb2⟩;have HK2:=zh (xA (HK1.o.1.trans (hb2.mono HK1.o.1.size)) (xA (HK1.o.2.1.bw hb2) (HK1.o.2.2.bw hb2)));clear hb2 p0 p1 p2 p3 p4 p5 q0 q1 q2 q3 q4 q5;by_cases k4:sl=sl'
 rotate_left
 .rw [xS k4];have HV:=zh (show r=false by rw [HR.o];simp [k4]);clear HR HE1 HE2;go_wp2;go_ret;exact ⟨aA HV.o.symm,HK2.o.1⟩
 rw [xR k4];have HC4:=zh k4;clear k4;obtain ⟨p0,p1,p2,p3,p4,p5⟩:=(HK2.o.2.1).ly6;obtain ⟨q0,q1,q2,q3,q4,q5⟩:=(HK2.o.2.2).ly6;by_cases k2:fl=fl'
 rotate_left
 .have g2:(fl==fl')=false:=by simpa using k2
  have HV:=zh (show r=false by rw [HR.o];simp [k2]);clear HR HE1 HE2;go_wp2;go_ret;exact ⟨aA HV.o.symm,HK2.o.1⟩
 have g2:(fl==fl')=true:=by simpa using k2
 have HC2:=zh k2;clear k2;by_cases k3:rm=rm'
 rotate_left
 .have g3:(rm==rm')=false:=by simpa using k3
  have HV:=zh (show r=false by rw [HR.o];simp [k3]);clear HR HE1 HE2;go_wp2;go_ret;exact ⟨aA HV.o.symm,HK2.o.1⟩
 have g3:(rm==rm')=true:=by simpa using k3
 have HV:=zh (show r=true by rw [HR.o];simp [HC0.o.1,HC0.o.2,HC1.o,HC2.o,k3,HC4.o]);clear HR HE1 HE2 k3;go_wp2;go_ret;exact ⟨aA HV.o.symm,HK2.o.1⟩
theorem aBc (a:qO)(n cap:Nat)(ms:List Md)(L:Lay)(a0:qO)(c0:Nat)(xs:List PB)(a2:qO)(c2:Nat)(a5:qO)(c5:Nat)(ts:List TB)(w:qw)(h:MSD w a n cap ms)(hL:LyT w L a0 c0 xs a2 c2 a5 c5 ts):
 qC 216 #[qS a n cap,.agg (qJ L a0 xs c0 a2 c2 a5 ts c5)] w fun e w'=>e=.returned (.bool (decide (Lok (aE ms) L)))/\qY w w':=by
 obtain ⟨r,hr⟩:=eqx (decide (Lok (aE ms) L));rw [<- hr];replace hr:r=true ↔ Lok (aE ms) L:=by rw [hr];simp
 unfold Lok at hr;have HLB:=zh (rW (aE ms) (L.slots.length:Int) (cfW L) (cfK L) 0);have HLV:=zh (aGz (aE ms) (L.slots.length:Int) (cfW L) (cfK L) 0)
 have HIM:=zh (fun (W:qw) (hb:qY w W)=>by
  have:=zD a n cap ms (L.slots.length:Int) (cfW L) (cfK L) 0 W (h.bw hb);unfold LkM mV at this
  exact this)
 generalize lkL (aE ms) (L.slots.length:Int) (cfW L) (cfK L) 0=LY at *;generalize lkc (aE ms) (L.slots.length:Int) (cfW L) (cfK L) 0=C at *;have HR:=zh hr;have HCF:=zh (fun (W:qw) (hb:qY w W)=>aBw L a0 c0 xs a2 c2 a5 c5 ts W (hL.bw hb));have B0:qY w (w.alloc (.cells (qJ L a0 xs c0 a2 c2 a5 ts c5) 71)):=bal;have k0:=Blk.new w (qJ L a0 xs c0 a2 c2 a5 ts c5) 71;have HL:=zh hL;clear h hL hr;go_enter func216,ntmps216
 go_wp2_with fail
 refine (HCF.o _ B0).mono ?_;rintro e w1 ⟨rfl,hb1⟩;have B1:=B0.trans (hb1.mono B0.size);have k1:=k0.bw hb1;clear hb1 B0 k0;go_wp2_with fail
 refine (HIM.o _ B1).mono ?_;rintro e w2 ⟨hb2,b0,d0,ys,b2,d2,b5,d5,us,rfl,O2⟩;have hA:qY w2 (w2.alloc (.cells (qL LY b0 ys.length d0 b2 LY.slots.length d2 b5 us.length d5) 71)):=bal;have kt:=Blk.new w2 (qL LY b0 ys.length d0 b2 LY.slots.length d2 b5 us.length d5) 71;have B2:=B1.trans (hb2.mono B1.size);have B3:=B2.trans (hA.mono B2.size);have k3:=(k1.bw hb2).bw hA;have O3:=O2.below' hA;have HSM:=zh (sJ LY b0 d0 ys b2 d2 b5 d5 us L a0 c0 xs a2 c2 a5 c5 ts _ (O3.lyt HLB.o.r HLV.o) (HL.o.bw B3));have HB3:=zh B3;obtain ⟨p0,p1,p2,p3,p4,p5⟩:=k3.ly6;obtain ⟨q0,q1,q2,q3,q4,q5⟩:=kt.ly6;clear hb2 O2 O3 hA B1 B2 B3 k1 k3 kt;by_cases hC:C=0
 .have g:(C==0)=true:=by simpa using hC
  have HV:=zh (show decide (LY=L)=r by rw [xJ,HR.o];simp [hC]);rw [HV.o] at HSM;clear hC HR;go_wp2_with fail
  refine HSM.o.mono ?_;rintro e w4 ⟨rfl,hb4⟩;have HB4:=zh (HB3.o.trans (hb4.mono HB3.o.size));clear hb4;cases r
  all_goals
   go_wp2;go_ret;exact ⟨rfl,HB4.o⟩
 .have g:(C==0)=false:=by simpa using hC
  have HV:=zh (show r=false by cases r;rfl;exact absurd (HR.o.1 rfl).1 hC);clear hC HR;go_wp2;go_ret;exact ⟨aA HV.o.symm,HB3.o⟩
theorem aRd {S F:Nat->World->Prop}(main:(∀ g W,F g W->S g W)->G)(pf:∀ g W,F g W->S g W):G:=main pf
def wdS (L:Lay):Int:=if 4<L.slots.length then 1 else cfW L
theorem aNj (ps:List PMod)(L:Lay):Lok ps L ↔ (lkc ps (L.slots.length:Int) (wdS L) (cfK L) 0=0/\lkL ps (L.slots.length:Int) (wdS L) (cfK L) 0=L):=by
 unfold wdS;by_cases h:4<L.slots.length
 .rw [if_pos h]
  have key:∀ wd:Int,lkc ps (L.slots.length:Int) wd (cfK L) 0≠0:=fun wd e=>by
   have hc:=(fY e).1;unfold cfo at hc;simp at hc;omega
  constructor
  .intro e;exact absurd e.1 (key _)
  .intro e;exact absurd e.1 (key _)
 .rw [if_neg h];rfl
theorem tX (a:qO)(n0 cap:Nat)(ms:List Md)(L:Lay)(a0:qO)(c0:Nat)(xs:List PB)(a2:qO)(c2:Nat)(a5:qO)(c5:Nat)(ts:List TB)(w:qw)(h:MSD w a n0 cap ms)(hL:LyT w L a0 c0 xs a2 c2 a5 c5 ts):
 qC 142 #[qS a n0 cap,.agg (qL L a0 xs.length c0 a2 L.slots.length c2 a5 ts.length c5)] w fun e w'=>e=.returned (.bool (decide (Lok (aE ms) L)))/\qY w w':=by
 have hmx:=hL.s.2.1;unfold maxLen at hmx;obtain ⟨r,hr⟩:=eqx (decide (Lok (aE ms) L));rw [<- hr];replace hr:r=true ↔ Lok (aE ms) L:=by rw [hr];simp
 rw [aNj] at hr;have HLB:=zh (rW (aE ms) (L.slots.length:Int) (wdS L) (cfK L) 0);have HLV:=zh (aGz (aE ms) (L.slots.length:Int) (wdS L) (cfK L) 0)
 have HSP:=zh (fun (W:qw) (hb:qY w W)=>by
  have:=yJ a n0 cap ms (L.slots.length:Int) (wdS L) (cfK L) 0 W (h.bw hb);unfold LkM mV at this
  exact this)
 generalize lkL (aE ms) (L.slots.length:Int) (wdS L) (cfK L) 0=LY at *;generalize lkc (aE ms) (L.slots.length:Int) (wdS L) (cfK L) 0=C at *;have HR:=zh hr;have HEN:=zh (fun (W:qw) (hb:qY w W)=>tY L a0 c0 xs a2 c2 a5 c5 ts W (hL.bw hb));have HSL:=zh (fun (LY:Lay) (b0:qO) (d0:Nat) (ys:List PB) (b2:qO) (d2:Nat) (b5:qO) (d5:Nat) (us:List TB) (W:qw) (o:LyT W LY b0 d0 ys b2 d2 b5 d5 us) (hb:qY w W)=>vF LY b0 d0 ys b2 d2 b5 d5 us L a0 c0 xs a2 c2 a5 c5 ts W o (hL.bw hb));have HWK:=zh (show IntKind.i64.wrap (dB L-L.stack)=cfK L from xP _);have HWD:=zh (show wdS L=if 4<L.slots.length then 1 else cfW L from rfl);have HCW:=zh (show cfW L=if L.slots=[] then 1 else wrap64 ((cfQ L).tdiv 4) from rfl);have HCQ:=zh (show cfQ L=wrap64 ((wrap64 (wrap64 (65536+L.ram)-L.slots.getD 0 0)).tdiv (L.slots.length:Int)) from rfl);have HS:=zh hL.s;have HNE:=zh (show L.slots=[] ↔ L.slots.length=0 from List.length_eq_zero_iff.symm);have hC0:C=C:=rfl;clear h hL hr hC0;generalize cfK L=K at *;generalize wdS L=wd at *;generalize dB L=E at *;generalize L.slots.length=n at *;have B0:qY w (w.alloc (.cells (qL L a0 xs.length c0 a2 n c2 a5 ts.length c5) 71)):=brf.alloc aN _;have k0:=Blk.new w (qL L a0 xs.length c0 a2 n c2 a5 ts.length c5) 71;go_enter func142,ntmps142
 go_wp2_with fail
 generalize w.alloc (.cells (qL L a0 xs.length c0 a2 n c2 a5 ts.length c5) 71)=W0 at *;have hw0:w.heap.size<W0.heap.size:=k0.lt;obtain ⟨x0,x1,x2,x3,x4,x5⟩:=k0.ly6;have HK0:=zh (xA B0 k0);have HEZ:=zh (fun (zc:Array Value) (t:TypeId) (X:qw) (o:Option Nat) (hz:Zb zc t W0 X o)=>(HEN.o X (HK0.o.1.trans (hz.1.mono HK0.o.1.size))).mono (fun e w' he=>show e=.returned (qI E)/\Zb zc t W0 w' o from ⟨he.1,hz.bw he.2⟩));have HCL:=zh (fun (W:qw) (hb:qY W0 W)=>(HK0.o.2.bw hb).ly6);have HY0:=zh (aO1 (qW 0 0 0 0) 37 W0);have HFB:=zh (fun (X:qw) (hz:Zb (qW 0 0 0 0) 37 W0 X none)=>show qY W0 (X.alloc (.cells (qW n 1 K 0) 37))/\Blk (X.alloc (.cells (qW n 1 K 0) 37)) X.heap.size (qW n 1 K 0) 37/\W0.heap.size<=X.heap.size from ⟨hz.1.alloc hz.1.size _,Blk.new _ _ _,hz.1.size⟩)
 have HFA:=zh (fun (X:qw) (g:Nat) (hz:Zb (qW 0 0 0 0) 37 W0 X (some g))=>show qY W0 ((((X.setCell ⟨g,0,none⟩ (qI n)).setCell ⟨g,1,none⟩ (qI 1)).setCell ⟨g,2,none⟩ (qI K)).setCell ⟨g,3,none⟩ (qI 0))/\Blk ((((X.setCell ⟨g,0,none⟩ (qI n)).setCell ⟨g,1,none⟩ (qI 1)).setCell ⟨g,2,none⟩ (qI K)).setCell ⟨g,3,none⟩ (qI 0)) g (qW n 1 K 0) 37/\W0.heap.size<=g from by
  obtain ⟨hg,hk⟩:=hz.2 g rfl;have T:Turn (fun j=>j=g) X ((((X.setCell ⟨g,0,none⟩ (qI n)).setCell ⟨g,1,none⟩ (qI 1)).setCell ⟨g,2,none⟩ (qI K)).setCell ⟨g,3,none⟩ (qI 0)):=(((aC _ _ _ _).trans (aC _ _ _ _)).trans (aC _ _ _ _)).trans (aC _ _ _ _);have kz:=(((hk.set 0 (qI n)).set 1 (qI 1)).set 2 (qI K)).set 3 (qI 0);simp only [yA,yB,yC] at kz
  exact ⟨aG hz.1 T (fun k e=>by omega) hz.1.size,kz,hg⟩)
 clear B0 k0;apply aRd (F:=fun gc W=>qY W0 W/\Blk W gc (qW n 1 K 0) 37/\W0.heap.size<=gc)
 .intro REST0;have REST:=zh REST0;clear REST0
  go_region_held3 (fun w'=>w'.cell? ⟨w.heap.size,0,none⟩=some (qS a0 xs.length c0)/\w'.cell? ⟨w.heap.size,1,none⟩=some (qI L.stack)/\w'.cell? ⟨w.heap.size,2,none⟩=some (qS a2 n c2)/\w'.cell? ⟨w.heap.size,3,none⟩=some (qI L.flash)/\w'.cell? ⟨w.heap.size,4,none⟩=some (qI L.ram)/\w'.cell? ⟨w.heap.size,5,none⟩=some (qS a5 ts.length c5)) (go_keep)
   (first
     | (go_at_call 60;first
         | with_reducible refine (HEZ.o _ _ _ none HY0.o).mono ?_
         | with_reducible refine (HEZ.o _ _ _ none HY0.o.drew).mono ?_
         | with_reducible refine (HEZ.o _ _ _ _ HY0.o.box).mono ?_
         | with_reducible refine (HEZ.o _ _ _ _ HY0.o.drew.box).mono ?_
         | with_reducible refine (HEZ.o _ _ _ _ HY0.o.box.drew).mono ?_
        rintro e w1 ⟨rfl,hY1⟩;have HY1:=zh hY1;clear hY1;obtain ⟨d0,d1,d2,d3,d4,d5⟩:=HCL.o w1 HY1.o.1;have hwr:=HWK.o
        first
         | (have kz:=(HY1.o.2 _ rfl).2
            have z0:=kz.cell 0;have z1:=kz.cell 1;have z2:=kz.cell 2;have z3:=kz.cell 3;simp only [List.getElem?_toArray,List.getElem?_cons_zero,List.getElem?_cons_succ] at z0 z1 z2 z3;have zf:=kz.frozen;have hne:=Nat.ne_of_lt (Nat.lt_of_lt_of_le hw0 (HY1.o.2 _ rfl).1);have hne':=hne.symm
            clear kz)
         | skip))
  all_goals try simp only [HWK.o]
  .have HF:=zh (HFB.o _ HY1.o);generalize w1.alloc (.cells (qW n 1 K 0) 37)=W' at HF ⊢;generalize w1.heap.size=gc at HF ⊢;exact REST.o gc W' HF.o
  all_goals exact REST.o _ _ (HFA.o _ _ HY1.o)
 .rintro gc W ⟨hb,kc,hg⟩;show Exit.then _ _ _ _ _
  have B1:=HK0.o.1.trans (hb.mono HK0.o.1.size);have k1:=HK0.o.2.bw hb;obtain ⟨d0,d1,d2,d3,d4,d5⟩:=k1.ly6;have hne:=Nat.ne_of_lt (Nat.lt_of_lt_of_le hw0 hg);clear hb x0 x1 x2 x3 x4 x5 HK0 HEZ HCL HY0 HFA HFB HEN HWK;by_cases hB:0<n/\n<=4
  .obtain ⟨hn0,hn4⟩:=hB;have hn0':(0:Int)<(n:Int):=by omega
   have hn4':(n:Int)<=4:=by omega
   have he:((n:Int)==0)=false:=by simp;omega
   have hnz:¬ ((n:Int)=0):=by omega
   have hnn:¬ (n=0):=by omega
   obtain ⟨b,off,rfl,hc⟩:=HS.o.2.2.2.1 (by omega);have q0:=hc 0 hn0;rw [Nat.add_zero] at q0
   have nb:b≠gc:=by
    have h2:=xD _ _ q0;dsimp only at h2;omega
   have q:=aB B1 q0;clear q0;have HVW:=zh (show wrap64 ((wrap64 ((wrap64 (wrap64 (65536+L.ram)-L.slots.getD 0 0)).tdiv (n:Int))).tdiv 4)=wd by rw [HWD.o,if_neg (by omega),HCW.o,if_neg (by rw [HNE.o];omega),HCQ.o]);generalize L.slots.getD 0 0=z at *;have y0:W.cell? ⟨gc,1,none⟩=some (qI 1):=kc.cell 1;have yf:=kc.frozen;have nb':=nb.symm;have hne':=hne.symm;clear hc;have hgw:=zh (show w.heap.size<=gc by omega);have HX:=zh (xA B1 (xA k1 kc));clear B1 k1 kc hw0 hg;go_wp2
   go_region_held3 (fun w'=>w'.cell? ⟨w.heap.size,4,none⟩=some (qI L.ram)/\w'.cell? ⟨w.heap.size,2,none⟩=some (qS (some ⟨b,off,none⟩) n c2)/\w'.cell? ⟨b,off,none⟩=some (qI z)) (go_keep) (fail)
   simp only [xP];rw [HVW.o];obtain ⟨B1,k1,kc⟩:=HX.o;have T:Turn (fun j=>j=gc) W (W.setCell ⟨gc,1,none⟩ (qI wd)):=aC _ _ _ _;have B5:=(aG B1 T (fun k e=>by have:=hgw.o;omega) B1.size).drew;have k5':=aF T k1 (fun e=>hne e);have k5:Blk ((W.setCell ⟨gc,1,none⟩ (qI wd)).drew) w.heap.size _ _:=k5';have kc5:Blk ((W.setCell ⟨gc,1,none⟩ (qI wd)).drew) gc _ _:=kc.set 1 (qI wd);simp only [yA,yB,yC] at kc5;generalize (W.setCell ⟨gc,1,none⟩ (qI wd)).drew=W5 at *;clear T B1 k1 kc k5' HX q d0 d1 d2 d3 d4 d5 y0 yf nb nb';obtain ⟨d0,d1,d2,d3,d4,d5⟩:=k5.ly6;obtain ⟨y0,y1,y2,y3⟩:=kc5.z4;go_wp2_with fail
   refine (HSP.o _ B5).mono ?_;rintro e w2 ⟨hb2,b0,d0,ys,b2,d2,b5,d5,us,rfl,O2⟩;have hA:qY w2 (w2.alloc (.cells (qL LY b0 ys.length d0 b2 LY.slots.length d2 b5 us.length d5) 71)):=brf.alloc aN _;have kt:=Blk.new w2 (qL LY b0 ys.length d0 b2 LY.slots.length d2 b5 us.length d5) 71;have B2:=B5.trans (hb2.mono B5.size);have B3:=B2.trans (hA.mono B2.size);have k3:=(k5.bw hb2).bw hA;have O3:=O2.below' hA;have HSM:=zh (HSL.o LY b0 d0 ys b2 d2 b5 d5 us _ (O3.lyt HLB.o.r HLV.o) B3);have HB3:=zh B3;obtain ⟨p0,p1,p2,p3,p4,p5⟩:=k3.ly6;obtain ⟨q0,q1,q2,q3,q4,q5⟩:=kt.ly6;clear hb2 O2 O3 hA B2 B3 k3 kt y0 y1 y2 y3;by_cases hC:C=0
   .have g:(C==0)=true:=by simpa using hC
    have HV:=zh (show decide (LY=L)=r by rw [xJ,HR.o];simp [hC]);rw [HV.o] at HSM;clear hC HR;go_wp2_with fail
    refine HSM.o.mono ?_;rintro e w4 ⟨rfl,hb4⟩;have HB4:=zh (HB3.o.trans (hb4.mono HB3.o.size));clear hb4;cases r
    all_goals
     go_wp2;go_ret;exact ⟨rfl,HB4.o⟩
   .have g:(C==0)=false:=by simpa using hC
    have HV:=zh (show r=false by cases r;rfl;exact absurd (HR.o.1 rfl).1 hC);clear hC HR;go_wp2;go_ret;exact ⟨aA HV.o.symm,HB3.o⟩
  .have HVW:=zh (show (1:Int)=wd by
    rw [HWD.o];by_cases h4:4<n
    .rw [if_pos h4]
    .rw [if_neg h4,HCW.o,if_pos (by rw [HNE.o];omega)])
   have g1:0<n->¬ ((n:Int)<=4):=fun h=>by omega
   rw [HVW.o] at kc;by_cases hn0:0<n
   .have hn0':(0:Int)<(n:Int):=by omega
    have hn4':¬ ((n:Int)<=4):=by omega
    clear g1;obtain ⟨y0,y1,y2,y3⟩:=kc.z4;go_wp2_with fail
    refine (HSP.o _ B1).mono ?_;rintro e w2 ⟨hb2,b0,d0,ys,b2,d2,b5,d5,us,rfl,O2⟩;have hA:qY w2 (w2.alloc (.cells (qL LY b0 ys.length d0 b2 LY.slots.length d2 b5 us.length d5) 71)):=brf.alloc aN _;have kt:=Blk.new w2 (qL LY b0 ys.length d0 b2 LY.slots.length d2 b5 us.length d5) 71;have B2:=B1.trans (hb2.mono B1.size);have B3:=B2.trans (hA.mono B2.size);have k3:=(k1.bw hb2).bw hA;have O3:=O2.below' hA;have HSM:=zh (HSL.o LY b0 d0 ys b2 d2 b5 d5 us _ (O3.lyt HLB.o.r HLV.o) B3);have HB3:=zh B3;obtain ⟨p0,p1,p2,p3,p4,p5⟩:=k3.ly6;obtain ⟨q0,q1,q2,q3,q4,q5⟩:=kt.ly6;clear hb2 O2 O3 hA B2 B3 k3 kt y0 y1 y2 y3;by_cases hC:C=0
    .have g:(C==0)=true:=by simpa using hC
     have HV:=zh (show decide (LY=L)=r by rw [xJ,HR.o];simp [hC]);rw [HV.o] at HSM;clear hC HR;go_wp2_with fail
     refine HSM.o.mono ?_;rintro e w4 ⟨rfl,hb4⟩;have HB4:=zh (HB3.o.trans (hb4.mono HB3.o.size));clear hb4;cases r
     all_goals
      go_wp2;go_ret;exact ⟨rfl,HB4.o⟩
    .have g:(C==0)=false:=by simpa using hC
     have HV:=zh (show r=false by cases r;rfl;exact absurd (HR.o.1 rfl).1 hC);clear hC HR;go_wp2;go_ret;exact ⟨aA HV.o.symm,HB3.o⟩
   .have hn0':¬ ((0:Int)<(n:Int)):=by omega
    clear g1;obtain ⟨y0,y1,y2,y3⟩:=kc.z4;go_wp2_with fail
    refine (HSP.o _ B1).mono ?_;rintro e w2 ⟨hb2,b0,d0,ys,b2,d2,b5,d5,us,rfl,O2⟩;have hA:qY w2 (w2.alloc (.cells (qL LY b0 ys.length d0 b2 LY.slots.length d2 b5 us.length d5) 71)):=brf.alloc aN _;have kt:=Blk.new w2 (qL LY b0 ys.length d0 b2 LY.slots.length d2 b5 us.length d5) 71;have B2:=B1.trans (hb2.mono B1.size);have B3:=B2.trans (hA.mono B2.size);have k3:=(k1.bw hb2).bw hA;have O3:=O2.below' hA;have HSM:=zh (HSL.o LY b0 d0 ys b2 d2 b5 d5 us _ (O3.lyt HLB.o.r HLV.o) B3);have HB3:=zh B3;obtain ⟨p0,p1,p2,p3,p4,p5⟩:=k3.ly6;obtain ⟨q0,q1,q2,q3,q4,q5⟩:=kt.ly6;clear hb2 O2 O3 hA B2 B3 k3 kt y0 y1 y2 y3;by_cases hC:C=0
    .have g:(C==0)=true:=by simpa using hC
     have HV:=zh (show decide (LY=L)=r by rw [xJ,HR.o];simp [hC]);rw [HV.o] at HSM;clear hC HR;go_wp2_with fail
     refine HSM.o.mono ?_;rintro e w4 ⟨rfl,hb4⟩;have HB4:=zh (HB3.o.trans (hb4.mono HB3.o.size));clear hb4;cases r
     all_goals
      go_wp2;go_ret;exact ⟨rfl,HB4.o⟩
    .have g:(C==0)=false:=by simpa using hC
     have HV:=zh (show r=false by cases r;rfl;exact absurd (HR.o.1 rfl).1 hC);clear hC HR;go_wp2;go_ret;exact ⟨aA HV.o.symm,HB3.o⟩
theorem aRb {S F:Nat->Nat->Nat->Nat->World->Prop}(main:(∀ a b c d W,F a b c d W->S a b c d W)->G)(pf:∀ a b c d W,F a b c d W->S a b c d W):G:=main pf
theorem pY {W:qw}(h:W.cell? (qR b o)=some v):(W.alloc x).cell? (qR b o)=some v:=aB bal h
theorem vA {W:qw}(h:W.cell? (qR b o)=some v):W.drew.cell? (qR b o)=some v:=h
theorem zK {W:qw}{u:Value}(hb:b<g)(h:W.cell? (qR b o)=some v):(W.setCell (qR g i) u).cell? (qR b o)=some v:=(aP (.inl (by omega))).trans h
structure Mk4 (N:Nat)(w1 W:qw)(ZF ZR:Array Value)(F R gf gr go gm:Nat):Prop where
 be:Below N w1 W
 f:Blk W gf ZF 5
 r:Blk W gr ZR 5
 o:Blk W go #[] 5
 m:Blk W gm (qV (qP gf) F F (qP gr) R R (qP go) 0 0) 39
 lo:N<=gf/\N<=gr/\N<=go/\N<=gm
 ne:gf≠gr/\gf≠go/\gr≠go
theorem gF (w:qw):w.drew.heap.size=w.heap.size:=rfl
theorem gI {W:qw}{t:TypeId}(h:Blk W g cs t):Blk W.drew g cs t:=h
theorem gH {W:qw}{t:TypeId}(h:g=W.heap.size):Blk (W.alloc (.cells cs t)) g cs t:=by subst h;exact Blk.new W cs t
theorem dL {W:qw}{t:TypeId}(hn:g≠b)(h:Blk W g cs t):Blk (W.setCell (qR b i) v) g cs t:=h.other _ _ hn
theorem dD {W:qw}{t:TypeId}{v0 v1 v2:Value}(h:Blk W g (qV none 0 0 none 0 0 none 0 0) t):Blk (((W.setCell (qR g 0) v0).setCell (qR g 1) v1).setCell (qR g 2) v2) g #[v0,v1,v2] t:=by
 have:=((h.set 0 v0).set 1 v1).set 2 v2;simpa only [yA,yB,yC] using this
theorem zM {a W:qw}(hN:N<=a.heap.size)(h:Below N a W):Below N a (W.alloc x):=h.alloc (xM hN h.size) _
theorem aHg {a W:qw}(hg:N<=g)(h:Below N a W):Below N a (W.setCell (qR g i) v):=h.setCell (p:=(qR g i)) hg v
theorem aD0 {a W:qw}(h:Below N a W):Below N a W.drew:=h.drew
structure ImS (w:qw)(V:Array Value)(F R gf gr go gm:Nat)(fz rz:qi)(W:qw):Prop where
 be:qY w W
 kl:Blk W w.heap.size V 71
 kr:Blk W (w.heap.size+1) (qV none 0 0 none 0 0 none 0 0) 39
 km:Blk W gm (qV (qP gf) F F (qP gr) R R (qP go) 0 0) 39
 f:OB W w.heap.size (qS (qP gf) F F) fz
 r:OB W w.heap.size (qS (qP gr) R R) rz
 o:Blk W go #[] 5
 lo:w.heap.size+1<gf/\w.heap.size+1<gr/\w.heap.size+1<go/\w.heap.size+1<gm
 ne:gf≠gr/\gf≠go/\gr≠go
section
variable {w:qw}{V:Array Value}{F R gf gr go gm:Nat}{fz rz:qi}{W W':qw}
theorem ImS.bw (h:ImS w V F R gf gr go gm fz rz W)(hb:qY W W'):ImS w V F R gf gr go gm fz rz W':=⟨h.be.trans (hb.mono h.be.size),h.kl.bw hb,h.kr.bw hb,h.km.bw hb,h.f.bw hb,h.r.bw hb,h.o.bw hb,h.lo,h.ne⟩
theorem gZ {c:Nat}{zs:qi}(h:OB W base (qS (qP g) n c) zs):∃ cs,Blk W g cs 5:=aD h.1 rfl
theorem ImS.mf (h:ImS w V F R gf gr go gm fz rz W):gm≠gf/\gm≠gr:=by
 obtain ⟨c1,k1⟩:=gZ h.f;obtain ⟨c2,k2⟩:=gZ h.r;exact ⟨fun e=>by subst e;exact absurd (aH h.km k1) (by decide),fun e=>by subst e;exact absurd (aH h.km k2) (by decide)⟩
theorem ImS.setf (h:ImS w V F R gf gr go gm fz rz W){fz':qi}(O:OB W' w.heap.size (qS (qP gf) F F) fz')(T:fI gf W W'):ImS w V F R gf gr go gm fz' rz W':=
 ⟨cY h.be T (by have:=h.lo;omega),bZ T h.kl (by have:=h.lo;omega),bZ T h.kr (by have:=h.lo;omega),bZ T h.km h.mf.1,O,rU T h.r (by have:=h.ne.1;simp [Value.ownBlock];omega),bZ T h.o (by have:=h.ne;omega),h.lo,h.ne⟩
theorem ImS.setr (h:ImS w V F R gf gr go gm fz rz W){rz':qi}(O:OB W' w.heap.size (qS (qP gr) R R) rz')(T:fI gr W W'):ImS w V F R gf gr go gm fz rz' W':=
 ⟨cY h.be T (by have:=h.lo;omega),bZ T h.kl (by have:=h.lo;omega),bZ T h.kr (by have:=h.lo;omega),bZ T h.km h.mf.2,rU T h.f (by have:=h.ne.1;simp [Value.ownBlock];omega),O,bZ T h.o (by have:=h.ne;omega),h.lo,h.ne⟩
structure Im5 (w:qw)(V:Array Value)(F R gf gr go gm gp:Nat)(PV:Array Value)(fz rz:qi)(W:qw):Prop where
 s:ImS w V F R gf gr go gm fz rz W
 p:Blk W gp PV 171
variable {gp:Nat}{PV:Array Value}
theorem Im5.bw (h:Im5 w V F R gf gr go gm gp PV fz rz W)(hb:qY W W'):Im5 w V F R gf gr go gm gp PV fz rz W':=⟨h.s.bw hb,h.p.bw hb⟩
theorem Im5.drew (h:Im5 w V F R gf gr go gm gp PV fz rz W):Im5 w V F R gf gr go gm gp PV fz rz W.drew:=h.bw brf.drew
theorem Im5.pf (h:Im5 w V F R gf gr go gm gp PV fz rz W):gp≠gf/\gp≠gr:=by
 obtain ⟨c1,k1⟩:=gZ h.s.f;obtain ⟨c2,k2⟩:=gZ h.s.r;exact ⟨fun e=>by subst e;exact absurd (aH h.p k1) (by decide),fun e=>by subst e;exact absurd (aH h.p k2) (by decide)⟩
theorem Im5.setf (h:Im5 w V F R gf gr go gm gp PV fz rz W){fz':qi}(O:OB W' w.heap.size (qS (qP gf) F F) fz')(T:fI gf W W'):Im5 w V F R gf gr go gm gp PV fz' rz W':=⟨h.s.setf O T,bZ T h.p h.pf.1⟩
theorem Im5.setr (h:Im5 w V F R gf gr go gm gp PV fz rz W){rz':qi}(O:OB W' w.heap.size (qS (qP gr) R R) rz')(T:fI gr W W'):Im5 w V F R gf gr go gm gp PV fz rz' W':=⟨h.s.setr O T,bZ T h.p h.pf.2⟩
end
theorem aQu {S F:Value->World->Prop}(main:(∀ v W,F v W->S v W)->G)(pf:∀ v W,F v W->S v W):G:=main pf
structure Pc (w0 w:qw)(cm cp:Array Value)(g n base:Nat)(zs:qi)(W:qw):Prop where
 be:qY w0 W
 km:Blk W w.heap.size cm 138
 kp:Blk W (w.heap.size+1) cp 171
 o:OB W base (.slice (some (qR g 0)) n n) zs
 t:Turn (fun j=>j=g) w W
section
variable {w0 w:qw}{cm cp:Array Value}{g n base:Nat}{zs:qi}{W W':qw}
theorem Pc.bw (h:Pc w0 w cm cp g n base zs W)(hb:qY W W'):Pc w0 w cm cp g n base zs W':=⟨h.be.trans (hb.mono h.be.size),h.km.bw hb,h.kp.bw hb,h.o.bw hb,h.t.trans (aJ hb)⟩
theorem Pc.drew (h:Pc w0 w cm cp g n base zs W):Pc w0 w cm cp g n base zs W.drew:=h.bw brf.drew
theorem Pc.set (h:Pc w0 w cm cp g n base zs W){zs':qi}(hg:w0.heap.size<=g)(O:OB W' base (.slice (some (qR g 0)) n n) zs')(T:fI g W W'):Pc w0 w cm cp g n base zs' W':=by
 obtain ⟨c1,k1⟩:=gZ h.o;exact ⟨cY h.be T hg,bZ T h.km (fun e=>absurd (aH (show Blk W g cm 138 from e ▸ h.km) k1) (by decide)),bZ T h.kp (fun e=>absurd (aH (show Blk W g cp 171 from e ▸ h.kp) k1) (by decide)),O,h.t.trans (sX T)⟩
end
theorem aIa (zs:qi)(k:Nat)(ws:qi):bN zs k ws 0=zs:=rfl
theorem aCt (g F:Nat)(nm:ByteArray)(ta:qO)(tn tc:Nat)(tz:qi)(ba:qO)(bn bc:Nat)(bl:List Bk)(da:qO)(dn dc:Nat)(bss:Int)(ra:qO)(rn rc:Nat)(ia:qO)(im ic:Nat)(ea:qO)(en ec:Nat)(P:PMod)(kt:Nat)(xa:qO)(xb:qi)(xc:Nat)(xd xz:Int)(fz:qi)(base:Nat)(w w0:qw)(hT:IS w0 ta tn tc tz)(hB:BKS w0 ba bn bc bl)(hP1:P.tz=tz)(hP2:P.bl=bl.map (fun B=>B.2.2.2))(hx:IS w0 xa xb.length xc xb)(hb:qY w0 w)(hg:w0.heap.size<=g)(ho:OB w base (.slice (some (qR g 0)) F F) fz)(hF:F<=16384)(hbn4:bn<=4)
 (ht:kt+4*tn<=F) (hxb:xb.length=bn) (hbk:∀ j,j<bn->0<=xb.getD j 0/\xb.getD j 0+4*((bl.getD j zB).2.1:Int)<=(F:Int)):
 qC 217 #[.slice (some (qR g 0)) F F,.agg (qM nm ta tn tc ba bn bc da dn dc bss ra rn rc ia im ic ea en ec),.agg #[.int .i64 (kt:Int),.slice xa xb.length xc,.int .i64 xd,.int .i64 xz]] w fun e w'=>e=.returned (.tuple #[])/\OB w' base (.slice (some (qR g 0)) F F) (cP fz P ⟨(kt:Int),xb,xd,xz⟩ P.bl.length)/\Turn (fun j=>j=g) w w':=by
 have hbl:bl.length=bn:=hB.1;have htl:tz.length=tn:=hT.1;have HPL:=zh (show P.bl.length=bn by rw [hP2,xH];exact hbl);have HP0:=zh (show cP fz P ⟨(kt:Int),xb,xd,xz⟩ 0=bN fz kt tz tn by show bN fz ((kt:Int)).toNat P.tz P.tz.length=_;rw [hP1,xY,htl])
 have HPS:=zh (show ∀ j,j<bn->cP fz P ⟨(kt:Int),xb,xd,xz⟩ (j+1)=bN (cP fz P ⟨(kt:Int),xb,xd,xz⟩ j) (xb.getD j 0).toNat (bl.getD j zB).2.2.2 (bl.getD j zB).2.1 from fun j hj=>by
  have e:P.bl.getD j []=(bl.getD j zB).2.2.2:=by rw [hP2,fF _ _ _ zB _]
  show bN _ (xb.getD j 0).toNat (P.bl.getD j []) (P.bl.getD j []).length=_
  rw [e,(hB.2.2.2.1 j hj).1])
 have HPW:=zh (fun (cm cp:Array Value) (zs:qi) (k:Nat) (a:qO) (wn wc:Nat) (ws:qi) (X:qw) (hw:IS w0 a wn wc ws) (S:Pc w0 w cm cp g F base zs X) (hk:k+4*wn<=F) (hlt:k<F)=>(jE g F F k (F-k) (F-k) a wn wc ws zs base w0 X hw S.be hg S.o hF hk (by omega) aN (by omega)).mono (fun e w' he=>show e=.returned (.tuple #[])/\Pc w0 w cm cp g F base (bN zs k ws wn) w' from ⟨he.1,S.set hg he.2.1 he.2.2⟩))
 have HPW0:=zh (fun (cm cp:Array Value) (zs:qi) (k:Nat) (a:qO) (wn wc:Nat) (ws:qi) (X:qw) (hw:IS w0 a wn wc ws) (S:Pc w0 w cm cp g F base zs X) (hk:k+4*wn<=F) (hlt:¬ k<F)=>(jE g F F 0 0 0 a wn wc ws zs base w0 X hw S.be hg S.o hF (by omega) (by omega) aN (by omega)).mono (fun e w' he=>show e=.returned (.tuple #[])/\Pc w0 w cm cp g F base (bN zs k ws wn) w' from ⟨he.1,by
  have e0:wn=0:=by omega
  have:=S.set hg he.2.1 he.2.2;rw [e0,aIa] at this ⊢
  exact this⟩))
 have HB:=zh hB;have HX:=zh hx;have HT:=zh hT;have HBK:=zh hbk
 have S0:Pc w0 w (qM nm ta tn tc ba bn bc da dn dc bss ra rn rc ia im ic ea en ec) #[.int .i64 (kt:Int),.slice xa xb.length xc,.int .i64 xd,.int .i64 xz] g F base fz ((w.alloc (.cells (qM nm ta tn tc ba bn bc da dn dc bss ra rn rc ia im ic ea en ec) 138)).alloc (.cells #[.int .i64 (kt:Int),.slice xa xb.length xc,.int .i64 xd,.int .i64 xz] 171)):=by
  have bb:qY w ((w.alloc (.cells (qM nm ta tn tc ba bn bc da dn dc bss ra rn rc ia im ic ea en ec) 138)).alloc (.cells #[.int .i64 (kt:Int),.slice xa xb.length xc,.int .i64 xd,.int .i64 xz] 171)):=bal.alloc (by simp) _;exact ⟨hb.trans (bb.mono hb.size),(Blk.new _ _ _).alloc _,by have:=Blk.new (w.alloc (.cells (qM nm ta tn tc ba bn bc da dn dc bss ra rn rc ia im ic ea en ec) 138)) #[.int .i64 (kt:Int),.slice xa xb.length xc,.int .i64 xd,.int .i64 xz] 171;simpa using this,ho.bw bb,aJ bb⟩
 have HS0:=zh S0;have HXB:=zh hxb;have HBL:=zh hbl;clear S0 hB hx hT hbk ho hb hP1 hP2 htl hxb hbl;go_enter func217,ntmps217
 go_wp2_with fail
 generalize ((w.alloc (.cells (qM nm ta tn tc ba bn bc da dn dc bss ra rn rc ia im ic ea en ec) 138)).alloc (.cells #[.int .i64 (kt:Int),.slice xa xb.length xc,.int .i64 xd,.int .i64 xz] 171))=W0 at *;generalize hcm:((qM nm ta tn tc ba bn bc da dn dc bss ra rn rc ia im ic ea en ec):Array Value)=cm at HS0;generalize hcp:(#[.int .i64 (kt:Int),.slice xa xb.length xc,.int .i64 xd,.int .i64 xz]:Array Value)=cp at HS0;have HCM:=zh (xA hcm hcp);clear hcm hcp
 have HCL:=zh (fun (zs:qi) (X:qw) (S:Pc w0 w cm cp g F base zs X)=>show X.cell? (qR w.heap.size 1)=some (.slice ta tn tc)/\X.cell? (qR w.heap.size 2)=some (.slice ba bn bc)/\X.cell? (qR (w.heap.size+1) 0)=some (.int .i64 (kt:Int))/\X.cell? (qR (w.heap.size+1) 1)=some (.slice xa xb.length xc) from by
  have h1:=S.km;have h2:=S.kp;rw [<- HCM.o.1] at h1;rw [<- HCM.o.2] at h2
  exact ⟨h1.cell 1,h1.cell 2,h2.cell 0,h2.cell 1⟩)
 obtain ⟨x1,x2,y0,y1⟩:=HCL.o _ _ HS0.o;have k0':(0:Int)<=(kt:Int):=by omega
 have k1':(kt:Int)<=(F:Int):=by omega
 apply aQu (F:=fun v W=>Pc w0 w cm cp g F base (cP fz P ⟨(kt:Int),xb,xd,xz⟩ 0) W)
 .intro REST0;have REST:=zh REST0;clear REST0;rw [HP0.o] at REST;by_cases hkF:kt<F
  .have hkF':(kt:Int)<(F:Int):=by omega
   have hkn:¬ (F=kt):=by omega
   go_region_held3 (fun w'=>w'.cell? (qR w.heap.size 1)=some (.slice ta tn tc)/\w'.cell? (qR (w.heap.size+1) 0)=some (.int .i64 (kt:Int))) (go_keep)
    (first
      | (go_at_call 219;first
          | with_reducible refine (HPW.o cm cp fz kt ta tn tc tz _ HT.o HS0.o ht hkF).mono ?_
          | with_reducible refine (HPW.o cm cp fz kt ta tn tc tz _ HT.o HS0.o.drew ht hkF).mono ?_
         rintro e w2 ⟨rfl,hS2⟩;have HS2:=zh hS2;clear hS2
         obtain ⟨z1,z2,z3,z4⟩:=HCL.o _ _ HS2.o))
   generalize Value.slice (some (qR g kt)) (F-kt) (F-kt)=v11;exact REST.o v11 w2 HS2.o
  .obtain rfl:F=kt:=by omega
   go_region_held3 (fun w'=>w'.cell? (qR w.heap.size 1)=some (.slice ta tn tc)/\w'.cell? (qR (w.heap.size+1) 0)=some (.int .i64 (F:Int))) (go_keep)
    (first
      | (go_at_call 219;first
          | with_reducible refine (HPW0.o cm cp fz F ta tn tc tz _ HT.o HS0.o ht hkF).mono ?_
          | with_reducible refine (HPW0.o cm cp fz F ta tn tc tz _ HT.o HS0.o.drew ht hkF).mono ?_
         rintro e w2 ⟨rfl,hS2⟩;have HS2:=zh hS2;clear hS2
         obtain ⟨z1,z2,z3,z4⟩:=HCL.o _ _ HS2.o))
   exact REST.o _ w2 HS2.o
 .rintro v11 W2 hS2;show Exit.then _ _ _ _ _
  obtain ⟨z1,z2,z3,z4⟩:=HCL.o _ _ hS2;have HS2:=zh hS2;clear hS2 x1 x2 y0 y1 HS0 k0' k1';go_wp2;clear z1 z2 z3 z4;go_loopw [18] (fun i wr=>∃ j:Nat,j<=bn/\i=.int .i64 j/\Pc w0 w cm cp g F base (cP fz P ⟨(kt:Int),xb,xd,xz⟩ j) wr) (qf bn)
  .exact ⟨0,xC _,rfl,HS2.o⟩
  .clear HS2;obtain ⟨j,hj,rfl,hJ⟩:=hrel;generalize wr=wj at *;have HJ:=zh hJ;obtain ⟨z1,z2,z3,z4⟩:=HCL.o _ _ hJ;by_cases hjb:j<bn
   .have hjb':(j:Int)<(bn:Int):=by omega
    have hjx':(j:Int)<(xb.length:Int):=by have:=HXB.o;omega
    obtain ⟨bb,bo,rfl,hbc⟩:=HB.o.2.2.1 (show bn≠0 by omega);obtain ⟨qb,qo,rfl,hqc⟩:=HX.o.2.2.2.1 (show xb.length≠0 by have:=HXB.o;omega);have s1:=aB hJ.be (hqc j (by have:=HXB.o;omega));have s2:=aB hJ.be (hbc j hjb);obtain ⟨kb,hkb⟩:∃ kb:Nat,xb.getD j 0=(kb:Int):=⟨(xb.getD j 0).toNat,by have:=(HBK.o j hjb).1;omega⟩;have HK2:=zh (show kb+4*(bl.getD j zB).2.1<=F by have:=(HBK.o j hjb).2;rw [hkb] at this;omega);have HIB:=zh (HB.o.2.2.2.1 j hjb);have HPJ:=HPS.o j hjb;rw [hkb,xY] at HPJ;rw [hkb] at s1;have HPJ:=zh HPJ;have hk2:=HK2.o;generalize hPJ:cP fz P ⟨(kt:Int),xb,xd,xz⟩ (j+1)=ZJ at HPJ;have HZJ:=zh hPJ;clear hJ hbc hqc hkb hPJ;generalize (bl.getD j zB).2.2.2=kw at *;generalize (bl.getD j zB).1=k1 at *;generalize (bl.getD j zB).2.1=k2 at *;generalize (bl.getD j zB).2.2.1=k3 at *;have b0':(0:Int)<=(kb:Int):=by omega
    have b1':(kb:Int)<=(F:Int):=by omega
    by_cases hkF:kb<F
    .have hkF':(kb:Int)<(F:Int):=by omega
     have hkn:¬ (F=kb):=by omega
     have HC:=zh (HPW.o cm cp _ kb k1 k2 k3 kw wj HIB.o HJ.o HK2.o hkF);go_wp2_with fail
     refine HC.o.mono ?_;rintro e w3 ⟨rfl,hS3⟩;have HS3:=zh (show Pc w0 w cm cp g F base ZJ w3 by rw [HPJ.o];exact hS3);clear hS3 s1 s2 z1 z2 z3 z4;go_wp2
     go_roundw
     .exact ⟨j+1,by omega,by go_num,by rw [HZJ.o];exact HS3.o⟩
     .simp [qf,intOf];omega
    .have hkF':¬ (kb:Int)<(F:Int):=by omega
     have HC:=zh (HPW0.o cm cp _ kb k1 k2 k3 kw wj HIB.o HJ.o HK2.o hkF);obtain rfl:F=kb:=by omega
     go_wp2_with fail
     refine HC.o.mono ?_;rintro e w3 ⟨rfl,hS3⟩;have HS3:=zh (show Pc w0 w cm cp g F base ZJ w3 by rw [HPJ.o];exact hS3);clear hS3 s1 s2 z1 z2 z3 z4;go_wp2
     go_roundw
     .exact ⟨j+1,by omega,by go_num,by rw [HZJ.o];exact HS3.o⟩
     .simp [qf,intOf];omega
   .have e:Zh (j=bn):=by show j=bn;omega
    clear hJ;go_wp2
    go_end0
    exact ⟨rfl,by rw [HPL.o,<- e.o];exact HJ.o.o,HJ.o.t⟩
structure Pd (w0 w:qw)(cm:Array Value)(g n base:Nat)(zs:qi)(W:qw):Prop where
 be:qY w0 W
 km:Blk W w.heap.size cm 138
 o:OB W base (qS (qP g) n n) zs
 t:Turn (fun j=>j=g) w W
section
variable {w0 w:qw}{cm:Array Value}{g n base:Nat}{zs:qi}{W W':qw}
theorem Pd.bw (h:Pd w0 w cm g n base zs W)(hb:qY W W'):Pd w0 w cm g n base zs W':=⟨h.be.trans (hb.mono h.be.size),h.km.bw hb,h.o.bw hb,h.t.trans (aJ hb)⟩
theorem Pd.drew (h:Pd w0 w cm g n base zs W):Pd w0 w cm g n base zs W.drew:=h.bw brf.drew
theorem Pd.set (h:Pd w0 w cm g n base zs W){zs':qi}(hg:w0.heap.size<=g)(O:OB W' base (qS (qP g) n n) zs')(T:fI g W W'):Pd w0 w cm g n base zs' W':=by
 obtain ⟨c1,k1⟩:=gZ h.o;exact ⟨cY h.be T hg,bZ T h.km (fun e=>absurd (aH (show Blk W g cm 138 from e ▸ h.km) k1) (by decide)),O,h.t.trans (sX T)⟩
end
theorem aPs {W:qw}{A:Nat}{zs:qi}(h:OB W base (qS (qP g) n n) zs)(hA:A<=n):BS W (some (qR g A)) (n-A) (n-A) (zs.drop A):=by
 have hl:=(rV h).2.1;have hm:=(rV h).2.2.2;have hb:=h.bs;refine ⟨by simp;omega,by omega,fun z hz=>h.2 z (List.mem_of_mem_drop hz),fun _=>⟨g,A,rfl,fun i hi=>?_⟩,aN⟩;have h1:=hb.at (A+i) (by omega);rw [Nat.zero_add] at h1;rw [h1];congr 2;simp [xB,List.getElem?_drop]
theorem aCs (g R f:Nat)(bp:qO)(bl':Nat)(nm:ByteArray)(ta:qO)(tn tc:Nat)(ba:qO)(bn bc:Nat)(da:qO)(dn dc:Nat)(dz:qi)(bss:Int)(ra:qO)(rn rc:Nat)(rrz:qi)(ia:qO)(im ic:Nat)(ea:qO)(en ec:Nat)(rz:qi)(base:Nat)(w w0:qw)(hD:BS w0 da dn dc dz)(hRl:IS w0 ra rn rc rrz)(hb:qY w0 w)(hg:w0.heap.size<=g)(ho:OB w base (qS (qP g) R R) rz)(hR:R<=16384)(hrn:rn<=16)(hfd:f+dn<=R)(hrl:∀ q,q<rn->0<=rrz.getD q 0/\rrz.getD q 0+4<=(dn:Int))
 (hbp:(f<R/\bp=some (qR g f)/\bl'=R-f)\/(f=R/\bp=some (qR g 0)/\bl'=0)):
 qC 218 #[qS bp bl' bl',.agg (qM nm ta tn tc ba bn bc da dn dc bss ra rn rc ia im ic ea en ec),qI (65536+(f:Int))] w fun e w'=>e=.returned (.tuple #[])/\OB w' base (qS (qP g) R R) (iH (ovr rz f dz) f rrz (65536+(f:Int)) rn)/\Turn (fun j=>j=g) w w':=by
 have bb:qY w (w.alloc (.cells (qM nm ta tn tc ba bn bc da dn dc bss ra rn rc ia im ic ea en ec) 138)):=bal;have S0:Pd w0 w (qM nm ta tn tc ba bn bc da dn dc bss ra rn rc ia im ic ea en ec) g R base rz (w.alloc (.cells (qM nm ta tn tc ba bn bc da dn dc bss ra rn rc ia im ic ea en ec) 138)):=⟨hb.trans (bb.mono hb.size),Blk.new _ _ _,ho.bw bb,aJ bb⟩;have HBR:=zh (xA hbp (xA hD (xA hRl hrl)));obtain ⟨w1,hrun,O1,T1⟩:=uW (f:=f) S0.o 3 bp da bl' bl' dn dc (hD.bw S0.be) (by rcases hbp with h|h<;>omega) (by omega) (fun h0=>by rcases hbp with h|h;exact h.2.1;omega);have HS1:=zh (S0.set hg O1 T1);have x3:=S0.km.cell 3;simp only [List.getElem?_toArray,List.getElem?_cons_zero,List.getElem?_cons_succ] at x3;clear O1 T1 S0 bb ho hb hD hRl hrl hbp;obtain ⟨cm,hcm⟩:∃ cm:Array Value,cm=(qM nm ta tn tc ba bn bc da dn dc bss ra rn rc ia im ic ea en ec):=⟨_,rfl⟩;rw [<- hcm] at HS1
 have HCL:=zh (fun (zs:qi) (X:qw) (S:Pd w0 w cm g R base zs X)=>show X.cell? (qR w.heap.size 5)=some (qS ra rn rc) from by
  have h1:=S.km;rw [hcm] at h1
  exact h1.cell 5)
 clear hcm;go_enter func218,ntmps218
 have z5:=HCL.o _ _ HS1.o;go_wp2;clear hrun x3 z5;go_loopw [15] (fun i wr=>∃ q:Nat,q<=rn/\i=qI q/\Pd w0 w cm g R base (iH (ovr rz f dz) f rrz (65536+(f:Int)) q) wr) (qf rn)
 .exact ⟨0,xC _,rfl,HS1.o⟩
 .clear HS1;obtain ⟨q,hq,rfl,hQ⟩:=hrel;generalize wr=wq at *;have HQ:=zh hQ;by_cases hqr:q<rn
  .have hqr':(q:Int)<(rn:Int):=by omega
   obtain ⟨hbp,hD,hRl,hrl⟩:=HBR.o;obtain ⟨rb,ro,rfl,hrc⟩:=hRl.2.2.2.1 (show rn≠0 by omega);obtain ⟨h1,h2⟩:=hrl q hqr;have hfR:f<R:=by omega
   obtain ⟨_,hb1,hb2⟩:f<R/\bp=some ⟨g,f,none⟩/\bl'=R-f:=by rcases hbp with h|h;exact h;omega
   subst hb1 hb2;have s6:=aB hQ.be (hrc q hqr);have HRE:Zh (iH (ovr rz f dz) f rrz (65536+(f:Int)) (q+1)=put (iH (ovr rz f dz) f rrz (65536+(f:Int)) q) (f+(rrz.getD q 0).toNat) (low (((iH (ovr rz f dz) f rrz (65536+(f:Int)) q).drop (f+(rrz.getD q 0).toNat)).take 4)+(65536+(f:Int))) 4):=rfl;clear hrc hQ hD hRl hrl hbp;generalize hRQ1:iH (ovr rz f dz) f rrz (65536+(f:Int)) (q+1)=RQ1 at HRE;have HRQ1:=zh hRQ1;clear hRQ1;generalize iH (ovr rz f dz) f rrz (65536+(f:Int)) q=RQ at *;obtain ⟨x,hx⟩:∃ x:Nat,rrz.getD q 0=(x:Int):=⟨(rrz.getD q 0).toNat,by omega⟩;rw [hx] at s6 HRE h1 h2;rw [xY] at HRE;clear hx;have HLR:=zh (oV ((RQ.drop (f+x)).take 4) (fun z hz=>HQ.o.o.2 z (List.mem_of_mem_drop (List.mem_of_mem_take hz))) (by simp;omega));obtain ⟨lw,hlw⟩:=eqx (low ((RQ.drop (f+x)).take 4));rw [<- hlw] at HLR HRE;obtain ⟨VV,hVV⟩:=eqx (lw+(65536+(f:Int)));rw [<- hVV] at HRE;have hwV:IntKind.i64.wrap (lw+(65536+(f:Int)))=VV:=by rw [hVV,xP,xQ _ (by have:=HLR.o;omega)]
   have HVR:=zh (show -9223372036854775808<=VV/\VV<=9223372036854775807 by have:=HLR.o;omega)
   have HGB:=zh (fun (X:qw) (S:Pd w0 w cm g R base RQ X)=>show qC 234 #[qS (some (qR g (f+x))) (R-f-x) (R-f-x),qI 4] X fun e w'=>e=.returned (qI lw)/\Pd w0 w cm g R base RQ w' from by
    have hbs:=aPs S.o (show f+x<=R by omega);rw [show R-(f+x)=R-f-x by omega] at hbs;have:=aFq g (f+x) (R-f-x) (R-f-x) _ X hbs (by omega);rw [<- hlw] at this
    exact this.mono (fun e w' he=>⟨he.1,S.bw he.2⟩))
   have HPB:=zh (fun (X:qw) (S:Pd w0 w cm g R base RQ X)=>show qC 233 #[qS (some (qR g (f+x))) (R-f-x) (R-f-x),qI 4,qI VV] X fun e w'=>e=.returned (.tuple #[])/\Pd w0 w cm g R base RQ1 w' from
    (mQ g (R-f-x) (R-f-x) (f+x) VV X (tD S.o) (by omega) HVR.o).mono (fun e w' he=>⟨he.1,by
      rw [he.2,HRE.o]
      exact S.set hg (tE S.o (f+x) VV) (jG g (f+x) VV X)⟩))
   have t0:(0:Int)<=(x:Int):=by omega
   have t1:(x:Int)<=((R-f:Nat):Int):=by omega
   have t2:(x:Int)<((R-f:Nat):Int):=by omega
   have t3:¬ (R-f=x):=by omega
   have t4:x<=R-f:=by omega
   have t5:x<R-f:=by omega
   clear hlw hVV h1 h2;go_wp2_with fail
   go_region_held3 (fun w'=>True) (exact True.intro)
    (first
      | (go_at_call 234;first
          | with_reducible refine (HGB.o _ HQ.o).mono ?_
          | with_reducible refine (HGB.o _ HQ.o.drew).mono ?_
         rintro e w5 ⟨rfl,hS5⟩;have HS5:=zh hS5
         clear hS5)
      | (go_at_call 233;first
          | with_reducible refine (HPB.o _ HS5.o).mono ?_
          | (rw [hwV];with_reducible refine (HPB.o _ HS5.o).mono ?_)
         rintro e w6 ⟨rfl,hS6⟩;have HS6:=zh hS6
         clear hS6))
   clear hwV s6;go_wp2
   go_roundw
   .exact ⟨q+1,by omega,by go_num,by rw [HRQ1.o];exact HS6.o⟩
   .simp [qf,intOf];omega
  .have e:Zh (q=rn):=by show q=rn;omega
   clear hQ;go_wp2
   go_end0
   exact ⟨rfl,by rw [<- e.o];exact HQ.o.o,HQ.o.t⟩
theorem rZ (n:Int)(h:-9223372036854775808<=n/\n<=9223372036854775807:=by omega):wrap64 n=n:=by unfold wrap64;omega
theorem eQ:lkc ps s w k d=0 ↔ cfo s w k d=true/\1<=ps.length/\ps.length<=4/\fR ps/\nms ps/\jZ ps/\(0<s->kI ps w)/\(lay ps s w k).flash<=16384/\(lay ps s w k).ram<=16384:=by
 constructor
 .intro h;unfold lkc dU at h;by_cases c1:cfo s w k d=false
  .rw [if_pos c1] at h;simp at h
  rw [if_neg c1] at h;by_cases c2:ps.length<1\/4<ps.length
  .rw [if_pos c2] at h;simp at h
  rw [if_neg c2] at h;by_cases c3:¬ fR ps
  .rw [if_pos c3] at h;simp at h
  rw [if_neg c3] at h;by_cases c4:¬ nms ps
  .rw [if_pos c4] at h;simp at h
  rw [if_neg c4,if_neg (by simp)] at h;by_cases c5:¬ jZ ps
  .rw [if_pos c5] at h;simp at h
  rw [if_neg c5] at h;by_cases c6:0<s/\¬ kI ps w
  .rw [if_pos c6] at h;simp at h
  rw [if_neg c6] at h;by_cases c7:16384<(lay ps s w k).flash
  .rw [if_pos c7] at h;simp at h
  rw [if_neg c7] at h;by_cases c8:16384<(lay ps s w k).ram
  .rw [if_pos c8] at h;simp at h
  exact ⟨by simpa using c1,by omega,by omega,xZ.1 c3,xZ.1 c4,xZ.1 c5,fun h=>xZ.1 (fun e=>c6 ⟨h,e⟩),by omega,by omega⟩
 .rintro ⟨h1,h2,h3,h4,h5,h6,h7,h8,h9⟩;have e0:dU ps s w k d=0:=by unfold dU;rw [if_neg (by simp [h1]),if_neg (by omega),if_neg (fun e=>e h4),if_neg (fun e=>e h5)]
  unfold lkc;rw [if_neg (by rw [e0];simp),if_neg (fun e=>e h6),if_neg (fun e=>e.2 (h7 e.1)),if_neg (by omega),if_neg (by omega)]
theorem aQr {w':Int}(h:s=0\/rnd (4*w)=rnd (4*w')):lay ps s w k=lay ps s w' k:=by
 rcases h with rfl|h
 .simp [lay]
 .have e:slt ps w k=slt ps w' k:=by funext i;unfold slt;rw [h]
  unfold lay;rw [h,e]
theorem aE3 (h:lkc ps s w k d=0):Lok ps (lay ps s w k):=by
 obtain ⟨h1,h2,h3,h4,h5,h6,h7,h8,h9⟩:=eQ.1 h;have hc:=h1;unfold cfo at hc;simp at hc;obtain ⟨s0,s1,w0,w1,k0,k1,k2,d0,d1⟩:=hc;have a1:=bQ h4 ps.length aN;have a4:=aQ (x:=4*w);have hr:(lay ps s w k).ram=Ra ps ps.length+k+(s.toNat:Int)*rnd (4*w):=rfl;have ht:(lay ps s w k).stack=65536+Ra ps ps.length:=rfl;have hl:(lay ps s w k).slots.length=s.toNat:=by simp [lay]
 have main:∀ w',cfW (lay ps s w k)=w'->(s=0\/rnd (4*w)=rnd (4*w'))->1<=w'->w'<=64->(0<s->w<=w')->cfK (lay ps s w k)=k->Lok ps (lay ps s w k):=by
  intro w' e1 e2 e3 e4 e5 e6;have el:=aQr (ps:=ps) (k:=k) e2;have hs:((s.toNat:Nat):Int)=s:=by omega
  have hz:lkc ps s w' k 0=0:=eQ.2 ⟨by unfold cfo;simp;omega,h2,h3,h4,h5,h6,fun hs i hi j hj=>Int.le_trans (h7 hs i hi j hj) (e5 hs),by rw [<- el];exact h8,by rw [<- el];exact h9⟩;unfold Lok;rw [hl,hs,e1,e6];exact ⟨hz,by unfold lkL;rw [if_pos hz,el]⟩
 by_cases c:s=0
 .subst c;have e0:(lay ps 0 w k).slots=[]:=by simp [lay]
  have hr0:(lay ps 0 w k).ram=Ra ps ps.length+k:=by rw [hr];simp
  refine main 1 (by unfold cfW;rw [if_pos e0]) (.inl rfl) (by omega) (by omega) (fun h=>absurd h (by omega)) ?_;unfold cfK dB;rw [if_pos e0,hr0,ht,rZ (65536+(Ra ps ps.length+k)),rZ _];omega
 .have hp:0<s.toNat:=by omega
  have hne:¬ (lay ps s w k).slots=[]:=fun e=>by rw [e] at hl;simp at hl;omega
  have e0:(lay ps s w k).slots.getD 0 0=65536+Ra ps ps.length+k:=by
   simp [lay,xB,hp,slt]
  have hm:(s.toNat:Int)*rnd (4*w)<=4*287:=Int.mul_le_mul (by omega) (by omega) (by omega) (by omega);have hm0:(0:Int)<=(s.toNat:Int)*rnd (4*w):=Int.mul_nonneg (by omega) (by omega)
  have eq:cfQ (lay ps s w k)=rnd (4*w):=by
   unfold cfQ;rw [hr,e0,hl,rZ (65536+_),rZ (65536+_-_),show 65536+(Ra ps ps.length+k+(s.toNat:Int)*rnd (4*w))-(65536+Ra ps ps.length+k)=rnd (4*w)*(s.toNat:Int) by rw [Int.mul_comm (rnd (4*w))];omega,Int.mul_tdiv_cancel _ (by omega),rZ _]
  have hrn:rnd (4*w)=(4*w+31)/32*32:=rfl;refine main (rnd (4*w)/4) ?_ (.inr ?_) (by omega) (by omega) (fun _=>by omega) ?_
  .unfold cfW;rw [if_neg hne,eq,Int.tdiv_eq_ediv_of_nonneg (by omega),rZ _]
  .rw [hrn];unfold rnd;omega
  .unfold cfK dB;rw [if_neg hne,e0,ht,rZ _];omega
theorem zN (a1 a2 a3:qO)(n1 c1 n2 c2 n3 c3 g o base k:Nat)(cs:Array Value)(t:TypeId)(x1 x2 x3:qi)(p v:Int)(w:qw)(hk:Blk w g cs t)(h1:cs[o]?=some (qS a1 n1 c1))(h2:cs[o+1]?=some (qS a2 n2 c2))(h3:cs[o+2]?=some (qS a3 n3 c3))(h:gK w base (qS a1 n1 c1) (qS a2 n2 c2) (qS a3 n3 c3) x1 x2 x3)
 (far:∀ v,v=qS a1 n1 c1\/v=qS a2 n2 c2\/v=qS a3 n3 c3->v.ownBlock≠some g) (hb:base<=w.heap.size) (hv:-9223372036854775808<=v/\v<=9223372036854775807) (hpk:p-65536=(k:Int)) (hkn:k+4<=n2) (hn2:n2<=16384) (hm:mok n1 n2 n3=true) (ha:p%4=0):
 qC 223 #[.pointer (some (qR g o)),qI p,qI 4,qI v] w (aP6 w g o cs t base (qS a1 n1 c1) (qS a2 n2 c2) (qS a3 n3 c3) (x1,put x2 k v 4,x3,0)):=by
 have hmk:=hm;unfold mok at hmk;simp at hmk;have HF:=zh (fun w=>aMh a1 a2 a3 n1 c1 n2 c2 n3 c3 p w hm (by omega) (by rw [xL (by omega)];simp [ha]) (by simp;omega) (by unfold ins;simp;omega) (by unfold ins;simp;omega));have hp:(p==131072)=false:=by simp;omega
 have hp0:65536<=p:=by omega
 have hp1:p<=131072:=by omega
 obtain ⟨g2,rfl⟩:=aC2 h.2.1;have q1:=(hk.cell o).trans h1;have q2:=(hk.cell (o+1)).trans h2;have q3:=(hk.cell (o+2)).trans h3;clear hm hmk ha;go_enter func223,ntmps223
 go_wp2_with fail
 refine (HF.o _).mono ?_;rintro e w1 ⟨rfl,hb1⟩;have k1:=hk.bw hb1;have O1:=sS h hb1;have t1:Turn (fun j=>j=g\/(qS (qP g2) n2 c2).ownBlock=some j\/(qS a3 n3 c3).ownBlock=some j) w w1:=aJ hb1;have hcap:=(O1.2.1.bs).2.2.2.2;clear q1 q2 q3 hb1;have q1:=(k1.cell o).trans h1;have q2:=(k1.cell (o+1)).trans h2;have q3:=(k1.cell (o+2)).trans h3;have K1:=zh k1;have HO1:=zh O1;have HT1:=zh t1;have HFAR:=zh far;have H3:=zh h3;clear k1 O1 t1 far h1 h2 h3 h hk;go_wp2_with fail
 refine (mQ g2 (n2-k) (c2-k) k v _ (tD HO1.o.2.1) (by omega) hv).mono ?_;rintro e w3 ⟨rfl,rfl⟩;obtain ⟨y1,y2⟩:=aM3 (gg:=g) HO1.o (jG g2 k v _) (tE HO1.o.2.1 k v);have kk:=bZ (jG g2 k v _) K1.o (fun e=>HFAR.o _ (Or.inr (Or.inl rfl)) (by rw [e];rfl));have HY:=zh (xA y1 y2);have KK:=zh kk;generalize sM w1 g2 k v=w3 at *;clear y1 y2 kk q1 q2 q3;go_wp2;go_ret;exact ⟨a3,n3,c3,rfl,by rw [aJu H3.o];exact KK.o,HY.o.1,HFAR.o _ (Or.inr (Or.inr rfl)),HT1.o.trans HY.o.2⟩
