import Derived.Test.YtdjdcdnjjmjonaaGreatT05
import Derived.Test.YtdjdcdnjjmjonaaGreatT07
set_option linter.all false
set_option maxHeartbeats 20000000
namespace Go.Proofs.YtdjdcdnjjmjonaaGreat
open Go.RowKit
open Go.Proofs.Tryz
set_option maxRecDepth 100000
variable {c d k s:Int}
def Lq (w:qw)(j:Nat):Prop:=w.heap.size<=j/\j<w.heap.size+5
def aO7 {w W:qw}(b:Blk W (w.heap.size+1) zL 65)(v0 v1 v2 v3 v4 d)(Q:Ending->World->Prop)(tmps)(e:tmps[4]?=some (.pointer$ some$ qR (w.heap.size+1) 0))(a:Q (.returned$ .agg #[v0,v1,v2,v3,v4,d]) (st6 W (w.heap.size+1) v0 v1 v2 v3 v4 d)):
 bodyPost prog f181 Q Exit.ret ⟨tmps,[]⟩ (st6 W (w.heap.size+1) v0 v1 v2 v3 v4 d):=by
 have k:=mH b v0 v1 v2 v3 v4 d;let⟨f,g,i,j,l,p⟩:=k.z6;refine bodyPost_ret_by (v:=.agg #[v0,v1,v2,v3,v4,d]) ?_ rfl a;simp[results,results181,go_sem,e,f,g,i,j,l,p]
def wV (a n b1 ms s c k d w)(h:MSD w a n b1 ms)(hn:n<=4)(bo:cfo s c k d=true)(hv:jH (aF ms)):
 qC 181 #[qS a n b1,.agg$ qW s c k d] w λe w'=>qY w w'/\∃D c0 xs a2 c2,e=.returned (.agg$ oG ⟨(lay (aF ms) s c k).places,(lay (aF ms) s c k).stack,(lay (aF ms) s c k).slots,(lay (aF ms) s c k).flash,(lay (aF ms) s c k).ram,[]⟩ D c0 xs a2 c2 none 0 [])/\LayO w' w.heap.size ⟨(lay (aF ms) s c k).places,(lay (aF ms) s c k).stack,(lay (aF ms) s c k).slots,(lay (aF ms) s c k).flash,(lay (aF ms) s c k).ram,[]⟩ D c0 xs a2 c2 none 0 []:=by
 have N0:=aUn w s c k d;have hl:=h.s.1;have bh:(aF ms).length=n:=by rw[cK,hl]
 have HH:=zh h;have I:=zh hv;obtain⟨dv,dw,dr,ds,dt,du,cw,_⟩:=of_decide_eq_true bo;have HN:=zh N0;clear h N0 bo hv
 delta qC;go_in
 go_wp2_with fail
 go_loopw [15] (λi wr=>∃(m:Nat) (D:qO) (c0:Nat) (xs:List PB),m<=n/\i=qI m/\Lo w wr s c k d (Fl (aF ms) m) (65536+Ra (aF ms) m) #[qS D m c0,qI 0,qS none 0 0,qI 0,qI 0,qS none 0 0]/\OPl wr (w.heap.size+5) (w.heap.size+5) (qS D m c0) xs/\xs.length=m/\xs.map (λx=>x.1)=(List.range m).map (plc$ aF ms)) (qf n)
 .exact⟨0,none,0,[],xC _,rfl,HN,aDl,rfl,rfl⟩
 .clear HN;obtain⟨m,D,c0,xs,hm,rfl,S,PX,xl,xp⟩:=hrel;generalize wr=f at *;by_cases bv:m<n
  .have c3:(m:Int)<(n:Int):=J
   have H:=HH.bw S.be;obtain⟨b,dy,rfl,q0,q1,q2,q3,q4,q5,q6,q7⟩:=H.s.at m bv;have a5:=HH.d m bv;have Y:=I m J;obtain⟨P,hP⟩:=aN$ (aF ms).getD m zP;have W:P=(ms.getD m aL).pm:=hP.trans$ dB J;rw[<-hP]at Y;have rT:0<=rnd (4*(P.tz.length:Int))/\rnd (4*(P.tz.length:Int))<=831:=iJ Y;have rD:0<=(rnd$ (P.dz.length:Int)+P.bss)/\(rnd$ (P.dz.length:Int)+P.bss)<=1055:=iL Y;have rF:=dE I m J;have rR:=bL I m J;have vt:=cR Y;have eT:(ms.getD m aL).tn=P.tz.length:=by rw[W];exact a5.t.1.symm
   have eD:(ms.getD m aL).dn=P.dz.length:=by rw[W];exact a5.d.1.symm
   have eS:(ms.getD m aL).bss=P.bss:=by rw[W];rfl
   have eB:(ms.getD m aL).bn=P.bl.length:=by rw[W];show _=(List.map _ _).length;rw[xH];exact a5.b.1.symm
   have cl:Zh (∀j,j<P.bl.length->((ms.getD m aL).bl.getD j zB).2.1=(P.bl.getD j []).length):=λj p=>by rw[W];exact(uV a5 j J).1
   have bn:=zh a5.b;rw[eB]at bn;have c6:=zh Y;have ax:=zh hP;generalize ms.getD m aL=M at *;rw[eT]at q1;rw[eB]at q2;rw[eD]at q3;rw[eS]at q4;have al:qY f ((f.alloc$ .cells (qM M.nm M.ta P.tz.length M.tc M.ba P.bl.length M.bc M.da P.dz.length M.dc P.bss M.ra M.rn M.rc M.ia M.im M.ic M.ea M.en M.ec) 128).alloc$ .cells #[qI 0,qS none 0 0,qI 0,qI 0] 170):=(brf.alloc aO _).alloc Jb _;have kM:=(Blk.new f (qM M.nm M.ta P.tz.length M.tc M.ba P.bl.length M.bc M.da P.dz.length M.dc P.bss M.ra M.rn M.rc M.ia M.im M.ic M.ea M.en M.ec) 128).alloc$ .cells #[qI 0,qS none 0 0,qI 0,qI 0] 170;have kp:=Blk.new (f.alloc$ .cells (qM M.nm M.ta P.tz.length M.tc M.ba P.bl.length M.bc M.da P.dz.length M.dc P.bss M.ra M.rn M.rc M.ia M.im M.ic M.ea M.en M.ec) 128) #[qI 0,qS none 0 0,qI 0,qI 0] 170;try unfold qY at *
   simp only[xF]at kp;have F:=S.bw al;have dl:=S.sz;have g1:=kM.e1;have bl:=zh$ vV (w.heap.size+2) (Fl (aF ms) m) M.ta P.tz.length M.tc ((f.alloc$ .cells (qM M.nm M.ta P.tz.length M.tc M.ba P.bl.length M.bc M.da P.dz.length M.dc P.bss M.ra M.rn M.rc M.ia M.im M.ic M.ea M.en M.ec) 128).alloc$ .cells #[qI 0,qS none 0 0,qI 0,qI 0] 170) F.k2 J J J;have HQ:=zh$ xA F$ xA kM$ xA kp$ aI (S:=Lq w) al;have a4:=zh$ xA PX$ xA xl xp;clear H a5 hP W eT eD eS eB al S Y kM kp F PX xl xp;go_wp2_with fail
   apply bl.mono;rintro e K ⟨rfl,B1,U1⟩;obtain⟨F,kM,kp,TT⟩:=HQ.o;have E:=F.callF (fx':=(Fl (aF ms) m+rnd (4*(P.tz.length:Int)))) U1 B1;have b4:=aD U1 kM J;have ah:=aD U1 kp J;have bi:=TT.trans$ U1.mono (S':=Lq w) (λj p=>by have e:j=w.heap.size+2:=p;unfold Lq;omega);have y0:=ah.e0;have f0:=ah.frozen 0;have S3:=E.other (g:=f.heap.size+1) J 0$ qI$ Fl (aF ms) m;have tp:=aC K (f.heap.size+1) 0$ qI$ Fl (aF ms) m;have a1:=aD tp b4 J;have X:=ah.s0$ qI$ Fl (aF ms) m;have a8:=kP bi (show f.heap.size<=f.heap.size+1 from J) 0$ qI$ Fl (aF ms) m;have g2:=a1.e2;have cs:=b4.e2;have bj:=zh$ aDh (w.heap.size+2) (Fl (aF ms) m+rnd (4*(P.tz.length:Int))) P M.ba M.bc M.bl w (K.setCell (qR (f.heap.size+1) 0)$ qI$ Fl (aF ms) m) S3.k2 c6 J J S3.be J bn cl;have bc:=zh$ xA S3$ xA a1$ xA X a8;clear F kM kp TT E b4 ah bi S3 tp a1 X a8 HQ bl B1 U1 g1;go_wp2_with fail
   apply bj.mono;rintro e w2 ⟨B,C,rfl,O,B2,U2⟩;obtain⟨S3,a1,X,a8⟩:=bc.o;have bm:f.heap.size+2<=(K.setCell (qR (f.heap.size+1) 0)$ qI$ Fl (aF ms) m).heap.size:=X.lt;have O:=O.mono bm;have S4:=S3.callF (fx':=(Fl (aF ms) m+rnd (4*(P.tz.length:Int)))+cU P P.bl.length) U2 B2;have ak:=aD U2 a1 J;have Z:=aD U2 X J;have bb:=a8.trans$ U2.mono (S':=Lq w) (λj p=>by have e:j=w.heap.size+2:=p;unfold Lq;omega);have y1:=Z.e1;have f1:=Z.frozen 1;have tp:=aC w2 (f.heap.size+1) 1$ qS B P.bl.length C;have S5:=S4.other (g:=f.heap.size+1) J 1$ qS B P.bl.length C;have b0:=aD tp ak J;have aq:=Z.s1$ qS B P.bl.length C;have b8:=kP bb (show f.heap.size<=f.heap.size+1 from J) 1$ qS B P.bl.length C;have O5:=O.kept tp (λk l e=>by have:=(O.lt k l).1;have y:k=f.heap.size+1:=e;omega);have g3:=b0.e3;have g4:=b0.e4;have cj:=ak.e3;have c7:=ak.e4;have y3:=aq.e3;have cq:=Z.e3;have f3:=aq.frozen 3;have ca:=Z.frozen 3;have di:IntKind.i64.wrap ((P.dz.length:Int)+P.bss)=(P.dz.length:Int)+P.bss:=bN _ J J;have tq:=aC (w2.setCell (qR (f.heap.size+1) 1)$ qS B P.bl.length C) (f.heap.size+1) 3$ qI$ rnd$ (P.dz.length:Int)+P.bss;have S6:=S5.other (g:=f.heap.size+1) J 3$ qI$ rnd$ (P.dz.length:Int)+P.bss;have a3:=aq.s3$ qI$ rnd$ (P.dz.length:Int)+P.bss;have ac:=kP b8 (show f.heap.size<=f.heap.size+1 from J) 3$ qI$ rnd$ (P.dz.length:Int)+P.bss;have O6:=O5.kept tq (λk l e=>by have:=(O5.lt k l).1;have y:k=f.heap.size+1:=e;omega);have z3:=a3.e3;have ab:=zh$ oZ (w.heap.size+3) (65536+Ra (aF ms) m) (rnd$ (P.dz.length:Int)+P.bss) ((w2.setCell (qR (f.heap.size+1) 1)$ qS B P.bl.length C).setCell (qR (f.heap.size+1) 3)$ qI$ rnd$ (P.dz.length:Int)+P.bss) S6.k3 J J J J;have bk:=zh$ xA S6$ xA a3$ xA ac O6;clear S3 a1 X a8 S4 ak Z bb tp S5 b0 aq b8 O O5 tq S6 a3 ac O6 bc bj B2 U2 g2 cs y0 f0 bm;go_wp2_with fail
   apply(jO ((P.dz.length:Int)+P.bss) _ J J).mono;rintro e wz ⟨rfl,rfl⟩;go_wp2_with fail
   apply ab.mono;rintro e U ⟨rfl,B3,U3⟩;obtain⟨S6,a3,ac,O6⟩:=bk.o;have da:=bL I (m+1) J;have dj:=dE I (m+1) J
   have eR:(65536+Ra (aF ms) m)+rnd (rnd$ (P.dz.length:Int)+P.bss)=65536+Ra (aF ms) (m+1):=by
    rw[aQx];show _=65536+(Ra (aF ms) m+dsz ((aF ms).getD m zP));rw[<-ax.o];show _=65536+(Ra (aF ms) m+(rnd$ (P.dz.length:Int)+P.bss));omega
   have eF:(Fl (aF ms) m+rnd (4*(P.tz.length:Int)))+cU P P.bl.length=Fl (aF ms) (m+1):=by
    show _=Fl (aF ms) m+msz ((aF ms).getD m zP);rw[<-ax.o];show _=Fl (aF ms) m+(rnd (4*(P.tz.length:Int))+cU P P.bl.length);omega
   have S7:=S6.callR (rx':=(65536+Ra (aF ms) m)+rnd (rnd$ (P.dz.length:Int)+P.bss)) U3 B3;rw[eR,eF]at S7;have Q:=aD U3 a3 J;have b7:=ac.trans$ U3.mono (S':=Lq w) (λj p=>by have e:j=w.heap.size+3:=p;unfold Lq;omega);have O7:=O6.kept U3 (λk l e=>by have:=(O6.lt k l).1;have y:k=w.heap.size+3:=e;omega);have y2:=Q.e2;have f2:=Q.frozen 2;have tp:=aC U (f.heap.size+1) 2$ qI$ 65536+Ra (aF ms) m;have S8:=S7.other (g:=f.heap.size+1) J 2$ qI$ 65536+Ra (aF ms) m;have b6:=Q.s2$ qI$ 65536+Ra (aF ms) m;have az:=kP b7 (show f.heap.size<=f.heap.size+1 from J) 2$ qI$ 65536+Ra (aF ms) m;have O8:=O7.kept tp (λk l e=>by have:=(O7.lt k l).1;have y:k=f.heap.size+1:=e;omega);have R:=a4.1.kept az (λk l e=>by have:=(a4.1.lt.1 k l).1;unfold Lq at e;omega) (λx hx k l e=>by have:=(a4.1.lt.2 x hx k l).1;unfold Lq at e;omega);have p0:=S8.k4.e0;have ce:=S7.k4.e0;obtain⟨r0,r1,r2,r3⟩:=b6.z4;have c9:=Q.e0;have cr:=Q.e1;have cb:=Q.e3;have de:=az.size;have ck:(U.setCell (qR (f.heap.size+1) 2)$ qI$ 65536+Ra (aF ms) m).heap.size=U.heap.size:=aK _ _ _;obtain⟨iP,cu,d1,d2,d3⟩:=info_parts aTe;have ag:Below (U.setCell (qR (f.heap.size+1) 2)$ qI$ 65536+Ra (aF ms) m).heap.size (U.setCell (qR (f.heap.size+1) 2)$ qI$ 65536+Ra (aF ms) m) ((U.setCell (qR (f.heap.size+1) 2)$ qI$ 65536+Ra (aF ms) m).alloc$ .cells #[qI$ Fl (aF ms) m,qS B P.bl.length C,qI$ 65536+Ra (aF ms) m,qI$ rnd$ (P.dz.length:Int)+P.bss] 170):=brf.alloc aO _;have ad:=zh (show((U.setCell (qR (f.heap.size+1) 2)$ qI$ 65536+Ra (aF ms) m).alloc$ .cells #[qI$ Fl (aF ms) m,qS B P.bl.length C,qI$ 65536+Ra (aF ms) m,qI$ rnd$ (P.dz.length:Int)+P.bss] 170).ownsRow (w.heap.size+5) 170 4 (qS D m c0) m (xs.flatMap clP)by have:=R.head.bw ag;unfold OG at this;rw[a4.o.2.1]at this;exact this);have c8:=zh (show clP ((⟨(Fl (aF ms) m),bkx P (Fl (aF ms) m+rnd (4*(P.tz.length:Int))) P.bl.length,(65536+Ra (aF ms) m),(rnd$ (P.dz.length:Int)+P.bss)⟩,B,C):PB)=[qI$ Fl (aF ms) m,qS B P.bl.length C,qI$ 65536+Ra (aF ms) m,qI$ rnd$ (P.dz.length:Int)+P.bss] by simp[clP,svP,oA]);have ch:=zh (show ∀j u,([qI$ Fl (aF ms) m,qS B P.bl.length C,qI$ 65536+Ra (aF ms) m,qI$ rnd$ (P.dz.length:Int)+P.bss]:List Value)[j]?=some u->((U.setCell (qR (f.heap.size+1) 2)$ qI$ 65536+Ra (aF ms) m).alloc$ .cells #[qI$ Fl (aF ms) m,qS B P.bl.length C,qI$ 65536+Ra (aF ms) m,qI$ rnd$ (P.dz.length:Int)+P.bss] 170).cell? (((qR U.heap.size 0):Addr).add j)=some u by rw[<-ck];exact cA (U.setCell (qR (f.heap.size+1) 2)$ qI$ 65536+Ra (aF ms) m) _ _ [qI$ Fl (aF ms) m,qS B P.bl.length C,qI$ 65536+Ra (aF ms) m,qI$ rnd$ (P.dz.length:Int)+P.bss] rfl);have cg:Zh (∀A∈xs,∀j,(svP A).ownBlock=some j->j<f.heap.size+2):=λA hA j p=>jK$ (a4.1.lt.2 A hA j p).2;have bp:=zh (show plc (aF ms) m=⟨(Fl (aF ms) m),bkx P (Fl (aF ms) m+rnd (4*(P.tz.length:Int))) P.bl.length,(65536+Ra (aF ms) m),(rnd$ (P.dz.length:Int)+P.bss)⟩by unfold plc bkx;rw[<-ax.o];rfl);have b5:=zh$ xA (S8.bw ag)$ xA (R.bw ag)$ O8.bw ag;have V:=zh a4.2;have dq:(U.setCell (qR (f.heap.size+1) 2)$ qI$ 65536+Ra (aF ms) m).heap.size+1=((U.setCell (qR (f.heap.size+1) 2)$ qI$ 65536+Ra (aF ms) m).alloc$ .cells #[qI$ Fl (aF ms) m,qS B P.bl.length C,qI$ 65536+Ra (aF ms) m,qI$ rnd$ (P.dz.length:Int)+P.bss] 170).heap.size:=Jb
   have dk:w.heap.size+5<=U.heap.size:=jK S7.sz;clear S6 a3 ac O6 S7 Q b7 O7 tp S8 b6 az O8 R ag bk ab B3 U3 eR eF y1 f1 g3 g4 cj c7 y3 cq f3 ca z3;go_wp2_with (at_builtin;refine wpList_append_own _ rfl _ _ 62 rfl (w.heap.size+5) 170 iP (.agg #[qI 0,qS none 0 0,qI 0,qI 0]) 4 48 underlying62 cu d1 d2 d3 rfl Ja (qS D m c0) m (xs.flatMap clP) rfl ad.o (qR U.heap.size 0) 1 1 [qI$ Fl (aF ms) m,qS B P.bl.length C,qI$ 65536+Ra (aF ms) m,qI$ rnd$ (P.dz.length:Int)+P.bss] rfl rfl ch.o (by intro u hu;simp at hu;rcases hu with rfl|rfl|rfl|rfl<;>rfl) Jf J Jc ?_;intro v' w4 G t _;obtain⟨S8,R,O8⟩:=b5.o;have av:∀j,(qS D m c0).ownBlock=some j->w.heap.size+5<=j:=(λj p=>(R.lt.1 j p).1);have P4:=R.push (x:=((⟨(Fl (aF ms) m),bkx P (Fl (aF ms) m+rnd (4*(P.tz.length:Int))) P.bl.length,(65536+Ra (aF ms) m),(rnd$ (P.dz.length:Int)+P.bss)⟩,B,C):PB)) V.o.1 (by show OG _ _ _ _ _ (.slice B (bkx P (Fl (aF ms) m+rnd (4*(P.tz.length:Int))) P.bl.length).length C) _;rw[oA];exact O8) J cg.o (by rw[c8.o];exact G) t Ja;have S9:=S8.grown t av;obtain⟨a6,N,rfl⟩:=aZ P4.head;rw[show(xs++[((⟨(Fl (aF ms) m),bkx P (Fl (aF ms) m+rnd (4*(P.tz.length:Int))) P.bl.length,(65536+Ra (aF ms) m),(rnd$ (P.dz.length:Int)+P.bss)⟩,B,C):PB)]).length=m+1 by rw[xI,V.o.1];rfl]at P4⊢;have p4:qN w4 (w.heap.size+4) 0=qk D m c0:=S9.k4.cell 0;have f4:=S9.k4.frozen 0;have H9:=zh$ xA S9 P4;clear S8 R O8 av P4 S9 G t ad b5 p0 ce r0 r1 r2 r3 c9 cr cb)
   obtain⟨S9,P9⟩:=H9.o;have t9:=aC w4 (w.heap.size+4) 0$ qS a6 (m+1) N;have bu:Lo w (w4.setCell (qR (w.heap.size+4) 0)$ qS a6 (m+1) N) s c k d (Fl (aF ms)$ m+1) (65536+Ra (aF ms) (m+1)) #[qS a6 (m+1) N,qI 0,qS none 0 0,qI 0,qI 0,qS none 0 0]:=S9.set 0$ qS a6 (m+1) N;have be:=P9.kept t9 (λk l e=>by have:=(P9.lt.1 k l).1;have y:k=w.heap.size+4:=e;omega) (λx hx k l e=>by have:=(P9.lt.2 x hx k l).1;have y:k=w.heap.size+4:=e;omega);have am:=zh (xA bu (xA be (xA (show(xs++[((⟨(Fl (aF ms) m),bkx P (Fl (aF ms) m+rnd (4*(P.tz.length:Int))) P.bl.length,(65536+Ra (aF ms) m),(rnd$ (P.dz.length:Int)+P.bss)⟩,B,C):PB)]).length=m+1 by rw[xI,V.o.1];rfl) (show(xs++[((⟨(Fl (aF ms) m),bkx P (Fl (aF ms) m+rnd (4*(P.tz.length:Int))) P.bl.length,(65536+Ra (aF ms) m),(rnd$ (P.dz.length:Int)+P.bss)⟩,B,C):PB)]).map (λx=>x.1)=(List.range$ m+1).map (plc$ aF ms)by rw[List.map_append,V.o.2,List.range_succ,List.map_append];simp only[List.map_cons,List.map_nil];rw[bp.o]))));clear S9 P9 t9 bu be H9 p4 f4;go_wp2
   go_roundw
   .exact⟨m+1,a6,N,_,J,by go_num,am.1,am.2.1,am.2.2.1,am.2.2.2⟩
   .simp[qf,intOf];omega
  .have c3:¬(m:Int)<(n:Int):=J
   have cc:m=n:=J
   subst cc;have rF:=dE I m J;have rR:=bL I m J;obtain⟨sn,rfl⟩:∃sn:Nat,s=(sn:Int):=⟨s.toNat,J⟩;obtain⟨RW,ba⟩:=aN$ rnd$ 4*c;have dn:0<=RW/\RW<=287:=jK$ bC (x:=4*c) J;have aw:=zh ba;have c2:=S.k0.e2;have ab:=zh$ oZ (w.heap.size+3) (65536+Ra (aF ms) m) k f S.k3 J J J J;have HK:=zh$ aLl cw;have HQ:=zh$ xA S$ xA PX$ xA xl xp;clear S PX xl xp ba;go_wp2_with fail
   apply ab.mono;rintro e K ⟨rfl,B1,U1⟩;rw[HK.o]at B1;obtain⟨S,PX,xl,xp⟩:=HQ.o;have F:=S.callR (rx':=(65536+Ra (aF ms) m)+k) U1 B1;have a7:=PX.kept U1 (λj p e=>by have:=(PX.lt.1 j p).1;have y:j=w.heap.size+3:=e;omega) (λx hx j p e=>by have:=(PX.lt.2 x hx j p).1;have y:j=w.heap.size+3:=e;omega);have bz:Zh (∀x∈xs,∀j,(svP x).ownBlock=some j->j<K.heap.size):=λx hx j p=>(a7.lt.2 x hx j p).2;have y1:=F.k4.e1;have f1:=F.k4.frozen 1;have E:Lo w (K.setCell (qR (w.heap.size+1+1+1+1) 1)$ qI$ 65536+Ra (aF ms) m) sn c k d (Fl (aF ms) m) ((65536+Ra (aF ms) m)+k) #[qS D m c0,qI$ 65536+Ra (aF ms) m,qS none 0 0,qI 0,qI 0,qS none 0 0]:=F.set 1$ qI$ 65536+Ra (aF ms) m;have t2:Turn (λj=>j=w.heap.size+4) K (K.setCell (qR (w.heap.size+1+1+1+1) 1)$ qI$ 65536+Ra (aF ms) m):=aC K (w.heap.size+4) 1$ qI$ 65536+Ra (aF ms) m;have bf:=a7.kept t2 (λj p e=>by have:=(a7.lt.1 j p).1;have y:j=w.heap.size+4:=e;omega) (λx hx j p e=>by have:=(a7.lt.2 x hx j p).1;have y:j=w.heap.size+4:=e;omega);have N:=E.k0.e0;have c1:=F.k0.e0;have d8:=F.sz;have ay:=zh$ xA xl xp;have b3:=zh$ xA E bf;have HZ:=zh$ show(65536+Ra (aF ms) m)+k=(65536+Ra (aF ms) m)+k+((0:Nat):Int)*RW from Jb;obtain⟨iI,ct,cx,cy,d0⟩:=info_parts nC;clear S PX xl xp F a7 E t2 bf B1 U1 ab HQ c2;go_wp2_with fail
   go_loopw [52] (λi wx=>∃(q:Nat) (a2:qO) (c2:Nat) (RQ:Int),q<=sn/\i=qI q/\Hid (RQ=(65536+Ra (aF ms) m)+k+(q:Int)*RW)/\Lo w wx sn c k d (Fl (aF ms) m) RQ #[qS D m c0,qI$ 65536+Ra (aF ms) m,qS a2 q c2,qI 0,qI 0,qS none 0 0]/\OG 3 1 clI wx K.heap.size (qS a2 q c2) ((List.range q).map$ slt (aF ms) c k)/\OPl wx (w.heap.size+5) (w.heap.size+5) (qS D m c0) xs/\K.heap.size<=wx.heap.size) (qf sn)
   .exact⟨0,none,0,_,xC _,rfl,HZ,b3.o.1,gQ _ _ _ _ _,b3.o.2,by rw[aK];exact aO⟩
   .clear b3 y1 f1 N c1 HZ;obtain⟨q,a2,c2,RQ,hq,rfl,a0,S,O,PX,dx⟩:=hrel
    have dg:0<=RQ/\RQ<=100000:=by
     have:=a0.out;have h1:(q:Int)*RW<=4*287:=Int.mul_le_mul J J J J;have h0:0<=(q:Int)*RW:=Int.mul_nonneg J J;omega
    by_cases d7:q<sn
    .have bd:(q:Int)<(sn:Int):=J
     have p2:=S.k4.e2;have v1:=S.k0.e1;have db:IntKind.i64.wrap (4*c)=4*c:=bN _ J J
     have cd:=zh (show(List.range$ q+1).map (slt (aF ms) c k)=(List.range q).map (slt (aF ms) c k)++[RQ] by
      rw[List.range_succ,List.map_append];simp only[List.map_cons,List.map_nil];congr 2;unfold slt
      rw[bh,a0.out,aw.o])
     have b9:=zh$ show((List.range q).map$ slt (aF ms) c k).length=q from Jb;have co:=zh (show RQ+RW=(65536+Ra (aF ms) m)+k+((q+1:Nat):Int)*RW by rw[a0.out];push_cast;rw[Int.add_mul];omega);have HO:=zh$ xA S$ xA O PX;have d5:=S.sz;clear S O PX a0;go_wp2_with fail
     go_region_law (first
      | (refine step_append_lies _ rfl _ _ 25 rfl K.heap.size 3 iI (qI 0) 1 8 underlying25 ct cx cy d0 rfl Ja (qS a2 q c2) q (((List.range q).map$ slt (aF ms) c k).flatMap clI) rfl ad.o (qR wa.heap.size 0) 1 1 (clI RQ) rfl rfl (cA wa _ _ (clI RQ) rfl) (by intro u hu;simp[clI]at hu;subst hu;rfl) Ja Jf J Jc _ rfl ?_;intro g4 c4 w4 G t c5 bq;have ap:∀j,(qS a2 q c2).ownBlock=some j->w.heap.size+5<=j:=(λj p=>jK$ (af.o.lt j p).1);have p4:qN w4 (w.heap.size+4) 2=qk a2 q c2:=(ae.o.grown t ap).k4.cell 2;have f4:=(ae.o.grown t ap).k4.frozen 2)
      | (go_simp;go_at_call 262;refine(oZ (w.heap.size+3) RQ (4*c) _ (by first|exact HO.o.1.k3|exact HO.o.1.drew.k3) J J J J).mono ?_;rintro e wa ⟨rfl,Ba,Ua⟩;rw[<-aw.o]at Ba;have a9:Turn (λj=>j=w.heap.size+3) wr wa:=⟨Ua.os,Ua.tape,Ua.output,Ua.size,Ua.block⟩;have SA:=HO.o.1.callR (rx':=RQ+RW) a9 Ba;have dh:=a9.size;have OA:=HO.o.2.1.kept a9 (λj p e=>by have:=(HO.o.2.1.lt j p).1;have y:j=w.heap.size+3:=e;omega);have XA:=HO.o.2.2.kept a9 (λj p e=>by have:=(HO.o.2.2.lt.1 j p).1;have y:j=w.heap.size+3:=e;omega) (λx hx j p e=>by have:=(HO.o.2.2.lt.2 x hx j p).1;have y:j=w.heap.size+3:=e;omega);have al:qY wa (wa.alloc$ .cells #[qI RQ] 3):=brf.alloc aO _;have pa:qN wa (w.heap.size+4) 2=qk a2 q c2:=SA.k4.cell 2;have ae:=zh$ SA.bw al;have af:=zh$ OA.bw al;have aa:=zh$ XA.bw al;have pb:(wa.alloc$ .cells #[qI RQ] 3).cell? (qR (w.heap.size+4) 2)=qk a2 q c2:=ae.o.k4.cell 2;have va:qn wa w 1=qj c:=SA.k0.cell 1;have ad:=zh (show(wa.alloc$ .cells #[qI RQ] 3).ownsRow K.heap.size 3 1 (qS a2 q c2) q (((List.range q).map$ slt (aF ms) c k).flatMap clI)by have:=af.o;unfold OG at this;rw[b9.o]at this;exact this);clear Ba Ua a9 SA OA XA al))
     all_goals
      have S4:=ae.grown t ap
      have O4:OG 3 1 clI w4 K.heap.size (qS (qP g4) (q+1) c4) ((List.range$ q+1).map$ slt (aF ms) c k):=by
       unfold OG;rw[cd.o,xI,b9.o,xU,xX];exact G
      have X4:OPl w4 (w.heap.size+5) (w.heap.size+5) (qS D m c0) xs:=⟨aa.head.kept' t (λk l e=>by obtain⟨d4,k1⟩:=aE af e;exact aQ aa.head l k1 Ja),λx hx=>(aa.rows x hx).kept' t (λk l e=>by have h1:=(af.lt k e).1;have h2:=bz x hx k l;omega),aa.apart⟩;have t5:=aC w4 (w.heap.size+4) 2$ qS (qP g4) (q+1) c4;have S5:Lo w (w4.setCell (qR (w.heap.size+4) 2)$ qS (qP g4) (q+1) c4) sn c k d (Fl (aF ms) m) (RQ+RW) #[qS D m c0,qI$ 65536+Ra (aF ms) m,qS (qP g4) (q+1) c4,qI 0,qI 0,qS none 0 0]:=S4.set 2$ qS (qP g4) (q+1) c4;have O5:=O4.kept t5 (λk l e=>by have:=(O4.lt k l).1;have y:k=w.heap.size+4:=e;omega);have X5:=X4.kept t5 (λk l e=>by have:=(X4.lt.1 k l).1;have y:k=w.heap.size+4:=e;omega) (λx hx k l e=>by have:=(X4.lt.2 x hx k l).1;have y:k=w.heap.size+4:=e;omega)
      have bg:K.heap.size<=(w4.setCell (qR (w.heap.size+4) 2)$ qS (qP g4) (q+1) c4).heap.size:=by
       have h1:=t.size;have h2:(wa.alloc$ .cells #[qI RQ] 3).heap.size=wa.heap.size+1:=Jb
       rw[aK]
       first|omega|(
        have h3:wa.heap.size<=w4.heap.size:=by(try simp at h1);omega
        omega)
      have H5:=zh$ xA S5$ xA O5$ xA X5 bg;clear S4 O4 X4 t5 S5 O5 X5 bg ae af aa ad G t c5 bq ap p4 f4 pa pb va HO p2 v1;go_wp2
      go_roundw
      .exact⟨q+1,_,_,_,J,by go_num,co,H5.1,H5.2.1,H5.2.2.1,H5.2.2.2⟩
      .simp[qf,intOf];omega
    .have bd:¬(q:Int)<(sn:Int):=J
     have br:q=sn:=J
     have d9:65536<=RQ:=by
      have:=a0.out;have h0:0<=(q:Int)*RW:=Int.mul_nonneg J J;omega
     have hw:IntKind.i64.wrap (RQ-65536)=RQ-65536:=bN _ J J;have F:Lo w (wr.setCell (qR (w.heap.size+1+1+1+1) 3)$ qI$ Fl (aF ms) m) sn c k d (Fl (aF ms) m) RQ #[qS D m c0,qI$ 65536+Ra (aF ms) m,qS a2 q c2,qI$ Fl (aF ms) m,qI 0,qS none 0 0]:=S.set 3$ qI$ Fl (aF ms) m;have E:Lo w ((wr.setCell (qR (w.heap.size+1+1+1+1) 3)$ qI$ Fl (aF ms) m).setCell (qR (w.heap.size+1+1+1+1) 4)$ qI$ RQ-65536) sn c k d (Fl (aF ms) m) RQ #[qS D m c0,qI$ 65536+Ra (aF ms) m,qS a2 q c2,qI$ Fl (aF ms) m,qI$ RQ-65536,qS none 0 0]:=F.set 4$ qI$ RQ-65536;have t1:Turn (λj=>j=w.heap.size+4) wr (wr.setCell (qR (w.heap.size+1+1+1+1) 3)$ qI$ Fl (aF ms) m):=aC wr (w.heap.size+4) 3$ qI$ Fl (aF ms) m;have t2:Turn (λj=>j=w.heap.size+4) (wr.setCell (qR (w.heap.size+1+1+1+1) 3)$ qI$ Fl (aF ms) m) ((wr.setCell (qR (w.heap.size+1+1+1+1) 3)$ qI$ Fl (aF ms) m).setCell (qR (w.heap.size+1+1+1+1) 4)$ qI$ RQ-65536):=aC _ (w.heap.size+4) 4$ qI$ RQ-65536;have b2:=t1.trans t2;have O2:=O.kept b2 (λk l e=>by have:=(O.lt k l).1;have y:k=w.heap.size+4:=e;omega);have X2:=PX.kept b2 (λk l e=>by have:=(PX.lt.1 k l).1;have y:k=w.heap.size+4:=e;omega) (λx hx k l e=>by have:=(PX.lt.2 x hx k l).1;have y:k=w.heap.size+4:=e;omega);have dc:=S.k2.e0;have dp:=F.k3.e0;have d6:=S.k3.e0;have l3:=S.k4.e3;have n3:=S.k4.frozen 3;have l4:=F.k4.e4;have df:=S.k4.e4;have n4:=F.k4.frozen 4;have dd:=S.k4.frozen 4;obtain⟨v0,v1,v2,v3,v4,v5⟩:=E.k4.z6;have u0:=E.k1.z6;have z0:=E.k1.frozen 0;have z1:=E.k1.frozen 1;have z2:=E.k1.frozen 2;have z3:=E.k1.frozen 3;have z4:=E.k1.frozen 4;have z5:=E.k1.frozen 5
     have au:=zh (show lay (aF ms) sn c k=⟨(List.range m).map$ plc$ aF ms,(65536+Ra (aF ms) m),(List.range q).map$ slt (aF ms) c k,(Fl (aF ms) m),RQ-65536,(List.range m).map λi=>tgs (aF ms)$ (aF ms).getD i zP⟩by
      unfold lay;rw[bh,a0.out,aw.o,xY,br];congr 1
      omega)
     have ai:=cZ ((wr.setCell (qR (w.heap.size+1+1+1+1) 3)$ qI$ Fl (aF ms) m).setCell (qR (w.heap.size+1+1+1+1) 4)$ qI$ RQ-65536) (w.heap.size+1) (qS D m c0) (qI$ 65536+Ra (aF ms) m) (qS a2 q c2) (qI$ Fl (aF ms) m) (qI$ RQ-65536)$ qS none 0 0;have aj:=X2.kept ai (λk l e=>by have:=(X2.lt.1 k l).1;have y:k=w.heap.size+1:=e;omega) (λx hx k l e=>by have:=(X2.lt.2 x hx k l).1;have y:k=w.heap.size+1:=e;omega);have ao:=O2.kept ai (λk l e=>by have:=(O2.lt k l).1;have y:k=w.heap.size+1:=e;omega);have an:=aG E.be ai (λj p=>by have y:j=w.heap.size+1:=p;omega) E.be.size;have SP:∀j,(qS a2 q c2).ownBlock=some j->∀x∈xs,(svP x).ownBlock≠some j:=λj p x hx e=>by have h1:=(O.lt j p).1;have h2:=bz x hx j e;omega
     have ar:=zh$ xA E.k1$ xA aj$ xA ao$ xA an SP;clear S F E t1 t2 b2 O PX O2 X2 ai aj ao an SP br a0;go_wp2;refine aO7 ar.1 _ _ _ _ _ _ _ _ rfl ?_;obtain⟨_,aj,ao,an,SP⟩:=ar.o;refine⟨an,D,c0,xs,a2,c2,?_,?_⟩
     .unfold oG;rw[au.o,ay.o.1];simp
     .rw[au.o];exact⟨by rw[ay.o.1];exact aj.mono J J,ay.o.2,by simpa using ao.mono J,aDl,rfl,by simpa using SP⟩
structure Kin (w W:qw)(s c k d:Int):Prop where
 be:qY w W
 k0:Blk W w.heap.size (qW s c k d) 37
 k1:Blk W (w.heap.size+1) zL 65
def Kin.bw {w W b:qw}(h:Kin w W s c k d)(a:qY W b):Kin w b s c k d:=⟨h.be.trans$ a.mono h.be.size,h.k0.bw a,h.k1.bw a⟩
def Kin.drew {w W:qw}(h:Kin w W s c k d):Kin w W.drew s c k d:=⟨h.be.drew,h.k0,h.k1⟩
def aR6 (w s c k d):Kin w ((w.alloc$ .cells (qW s c k d) 37).alloc$ .cells qz 65) s c k d:=by
 have g:=Blk.new w (qW s c k d) 37;have f:qY w (w.alloc$ .cells (qW s c k d) 37):=bal;have s0:(w.alloc$ .cells (qW s c k d) 37).heap.size=w.heap.size+1:=Jb
 generalize w.alloc (.cells (qW s c k d) 37)=a at *;have e:=Blk.new a qz 65;have b:qY a (a.alloc$ .cells qz 65):=bal;rw[s0]at e;exact⟨f.trans$ b.mono J,g.bw b,e⟩
def aB2 {w W:qw}(b:Blk W (w.heap.size+1) zL 65)(v0 v1 v2 v3 v4 d V)(Q:Ending->World->Prop)(tmps)(f:tmps[4]?=some (.pointer$ some$ qR (w.heap.size+1) 0))(e:tmps[5]?=some (qI V))(a:Q (.returned$ .tuple #[.agg #[v0,v1,v2,v3,v4,d],qI V]) (st6 W (w.heap.size+1) v0 v1 v2 v3 v4 d)):
 bodyPost prog f139 Q Exit.ret ⟨tmps,[]⟩ (st6 W (w.heap.size+1) v0 v1 v2 v3 v4 d):=by
 have k:=mH b v0 v1 v2 v3 v4 d;let⟨g,i,j,l,p,q⟩:=k.z6;refine bodyPost_ret_by (v:=.tuple #[.agg #[v0,v1,v2,v3,v4,d],qI V]) ?_ rfl a;simp[results,results139,go_sem,f,e,g,i,j,l,p,q]
def mY {w W:qw}{ps:List PMod}{V:Int}(S:Kin w W s c k d)(a:lkc ps s c k d=V)(f:V≠0)(tmps)(b:tmps[4]?=some (.pointer$ some$ qR (w.heap.size+1) 0))(e:tmps[5]?=some (qI V)):
 bodyPost prog f139 (LkM w ps s c k d) Exit.ret ⟨tmps,[]⟩ (st6 W (w.heap.size+1) (qS none 0 0) (qI 0) (qS none 0 0) (qI 0) (qI 0)$ qS none 0 0):=
 aB2 S.k1 _ _ _ _ _ _ V _ tmps b e (aKf (aG S.be (cZ _ _ _ _ _ _ _ _) (λj g=>by grind) S.be.size) a f)
def aB5 (a n a0 ms s c k d w)(h:MSD w a n a0 ms):
 qC 139 #[qS a n a0,.agg$ qW s c k d] w (LkM w (aF ms) s c k d):=by
 have K0:=aR6 w s c k d;have hl:=h.s.1;have ag:(aF ms).length=n:=by rw[cK,hl]
 have HH:=zh h;have aa:=zb w λW hb=>aAx a n a0 ms s c k d W$ h.bw hb;let⟨V,hV⟩:=aN$ fE (aF ms) s c k d;rw[<-hV]at aa;have HV:=zh hV;have HK:=zh K0;clear h K0 hV
 delta qC;go_in
 go_wp2_with fail
 apply(aa _ HK.be).mono;rintro e w1 ⟨rfl,ai⟩;have S1:=HK.bw ai;clear ai HK;by_cases G:V=0
 .have Q:=HV.o;rw[G]at Q;let⟨a1,h4,a3⟩:=vM Q.symm;let⟨av,aw,ak,ar,_⟩:=of_decide_eq_true a1;have F:=zh Q.symm;have a8:=zh a3;have ae:=zh a1;rw[ag]at h4;subst G;have a4:=zh$ aAd a n a0 ms w1 (HH.bw S1.be) a3 h4;have Y:=zh S1;clear Q a3 a1 S1;go_wp2_with fail
  apply a4.mono;rintro e w2 ⟨a7,H2⟩;have S2:=Y.bw a7;have an:=Y.be.size;rcases H2 with⟨af,v,rfl⟩|⟨a9,f,rfl,TF,ad⟩
  .have D:=zh$ aS9 (d:=d) (k:=k) (w:=c) (s:=s) F af;have u:=zh S2;have p0:=S2.k1.z6;have y0:=S2.k1.frozen;clear S2 af a7 a4 Y;go_wp2;exact mY u D Ja _ rfl rfl
  .have HI:=zh a9;have ao:=zh ad;let⟨gt,am⟩:=aN$ w1.heap.size;rw[<-am]at TF an⊢;have b:=zh TF;have l:=zh S2;have c0:=S2.k0.z4;clear a9 ad TF S2 a7 a4 Y am;by_cases ah:s=0
   focus
    subst ah;have Z:Zh (¬((0:Int)<0/\¬oV (aF ms) c)):=λe=>absurd e.1 J;go_wp2_with fail
    go_quiet (fail)
    have u:Zh (Kin w (w2.drewN nq) 0 c k d):=zh ⟨lE l.be nq,l.k0,l.k1⟩;have K:Zh (Tf (w2.drewN nq) gt gt n f):=zh ⟨b.head,b.rows,b.apart⟩;clear l b c0;generalize w2.drewN nq=w3 at *;have S:=zh$ wV a n a0 ms 0 c k d w3 (HH.bw u.be) h4 ae a8;have c0:=u.k0.z4;go_wp2_with fail
    apply S.mono;rintro e w4 ⟨q,B,A,xs,a2,C,rfl,y⟩;have S4:=u.bw q;have X:=K.bw q;let⟨L,hL⟩:=aN$ lay (aF ms) 0 c k
   rotate_left
   focus
    have:(s !=0)=true:=by simp[ah]
    have ab:=zb w λW hb=>tC a n a0 ms W (HH.bw hb) a8 h4;go_wp2_with fail
    go_region_law (first
     | (go_simp;go_at_call 180;refine(ab _ (by first|exact l.be|exact l.drew.be)).mono ?_;rintro e wa ⟨R,rfl,hG,I⟩;have a6:=zh$ show Kin w wa s c k d from(by first|exact l.bw I|exact l.drew.bw I);have ac:=zh (show Tf wa gt gt n f from(by first|exact b.bw I|exact Tf.bw (w:=w2.drew) ⟨b.head,b.rows,b.apart⟩ I));have e1:qn wa w 1=qj c:=a6.k0.cell 1;have HG:=zh hG;clear I hG))
    all_goals
     have u:=a6;have K:=ac;clear l b c0 a6 ac e1 ab;generalize wa=w3 at *;by_cases h6:c<(R:Int)
     .have D:=zh$ aS8 (d:=d) (k:=k) F HI ⟨J,(aKk HG c ak).1 h6⟩;have S3:=u.o;have p0:=S3.k1.z6;have y0:=S3.k1.frozen;clear S3;go_wp2;exact mY u D Ja _ rfl rfl
     have Z:Zh (¬(0<s/\¬oV (aF ms) c)):=λe=>h6$ (aKk HG c ak).2 e.2;have:¬c<(R:Int):=h6;have S:=zh$ wV a n a0 ms s c k d w3 (HH.bw u.be) h4 ae a8;have c0:=u.k0.z4;go_wp2_with fail
     apply S.mono;rintro e w4 ⟨q,B,A,xs,a2,C,rfl,y⟩;have S4:=u.bw q;have X:=K.bw q;let⟨L,hL⟩:=aN$ lay (aF ms) s c k
   all_goals
    rw[<-hL]at y⊢;have p:=zh hL;have al:qY w4 (w4.alloc$ .cells (qL L B xs.length A a2 L.slots.length C none 0 0) 65):=bal;have kL:=Blk.new w4 (qL L B xs.length A a2 L.slots.length C none 0 0) 65;have O:=S4.bw al;have a5:=X.bw al;have:=q.size;have:=u.k1.lt;have:=K.lt.1;have g:LayO (w4.alloc$ .cells (qL L B xs.length A a2 L.slots.length C none 0 0) 65) w3.heap.size ⟨L.places,L.stack,L.slots,L.flash,L.ram,[]⟩ B A xs a2 C none 0 []:=⟨y.p.bw al,y.ps,y.s.bw al,y.t.bw al,y.tt,y.sp⟩;have E:qY w4 (w4.alloc$ .cells (qL L B xs.length A a2 L.slots.length C (qP gt) n n) 65):=bal;have kM:=Blk.new w4 (qL L B xs.length A a2 L.slots.length C (qP gt) n n) 65;have M:=S4.bw E;have U:=X.bw E;have P:LayO (w4.alloc$ .cells (qL L B xs.length A a2 L.slots.length C (qP gt) n n) 65) w3.heap.size ⟨L.places,L.stack,L.slots,L.flash,L.ram,[]⟩ B A xs a2 C none 0 []:=⟨y.p.bw E,y.ps,y.s.bw E,y.t.bw E,y.tt,y.sp⟩;have:=kL.z6;have:=kL.frozen 5;have:=zh kM;have:=kM.z6;have N:=zh$ xA O$ xA P$ xA U M;clear q S4 X y al kL hL u K S c0 E kM a5 g;unfold oG;by_cases h7:16384<L.flash
    .have D:=zh (aS7 (d:=d) F.o HI.o Z.o (by rw[<-p.o];exact h7));have p0:=O.k1.z6;have y0:=O.k1.frozen;clear O M P U;go_wp2;exact mY N.1 D Ja _ rfl rfl
    .have au:¬16384<L.flash:=h7;by_cases h8:16384<L.ram
     .have D:=zh (aS6 (d:=d) F.o HI.o Z.o (by rw[<-p.o];exact h7) (by rw[<-p.o];exact h8));have p0:=O.k1.z6;have y0:=O.k1.frozen;clear O M P U;go_wp2;exact mY N.1 D Ja _ rfl rfl
     .have D:=zh (aTb (d:=d) F.o HI.o Z.o (by rw[<-p.o];exact h7) (by rw[<-p.o];exact h8));have p0:=M.k1.z6;have y0:=M.k1.frozen;clear O M P U;go_wp2;refine aB2 N.2.2.2.k1 _ _ _ _ _ _ 0 _ _ rfl rfl ?_;let⟨O,g,a5,M⟩:=N.o;have t:=cZ (w4.alloc$ .cells (qL L B xs.length A a2 L.slots.length C (qP gt) n n) 65) (w.heap.size+1) (qS B xs.length A) (qI L.stack) (qS a2 L.slots.length C) (qI L.flash) (qI L.ram)$ qS (qP gt) n n;have OT:=a5.otg (c:=n) aO Jf rfl
      have H:∀(aj sz nn:Nat)(ty:TypeId)(v:Value)(ys:List Value),(w4.alloc$ .cells (qL L B xs.length A a2 L.slots.length C (qP gt) n n) 65).ownsRow aj ty sz v nn ys->ty≠65->∀j,v.ownBlock=some j->¬(λj=>j=w.heap.size+1) j:=λaj sz nn ty v ys ho ap j hj e=>by
       have e':j=w.heap.size+1:=e;subst e';exact aQ ho hj M.k1 ap
      refine⟨aG M.be (cZ _ _ _ _ _ _ _ _) (λj hj=>by have e:j=w.heap.size+1:=hj;omega) M.be.size,B,A,xs,a2,C,qP gt,n,(List.range n).map f,?_,?_⟩
      .unfold lkL oG;rw[if_pos D.o,D.o,<-p.o];simp
      .unfold lkL;rw[if_pos D.o,<-p.o];exact⟨(g.p.kept t (H _ _ _ _ _ _ g.p.head Ja) λx hx=>H _ _ _ _ _ _ (g.p.rows x hx) Ja).mono J J,g.ps,(g.s.kept t$ H _ _ _ _ _ _ g.s Ja).mono J,(OT.kept t (H _ _ _ _ _ _ OT.head Ja) λx hx=>H _ _ _ _ _ _ (OT.rows x hx) Ja).mono J J,by rw[p.o];unfold lay;rw[ag,List.map_map];exact List.map_congr_left λi hi=>ao.o i (by simpa using hi),g.sp⟩
 .have aq:(V !=0)=true:=by simp[G]
  have D:=zh$ aTa (ps:=aF ms) HV.symm G;have u:=zh S1;have p0:=S1.k1.z6;have y0:=S1.k1.frozen;clear S1;go_wp2;exact mY u D G _ rfl rfl
end Go.Proofs.YtdjdcdnjjmjonaaGreat
namespace Go.Proofs.YtdjdcdnjjmjonaaGreat
open Go.RowKit Classical
set_option maxRecDepth 100000
variable {G P:Prop}{L:Lay}{M:Md}{N base cap g i n o:Nat}{a:qO}{b m s:Int}{cs:Array Value}{ms:List Md}{ps:List PMod}{v:Value}{x:Obj}
def aDx (a n x ms L b i xs a2 c2 d k s w)(h:MSD w a n x ms)(Q:LyT w L b i xs a2 c2 d k s):
 qC 263 #[qS a n x,.agg$ qJ L b xs i a2 c2 d s k] w λe w'=>e=.returned (.bool$ decide$ Lok (aF ms) L)/\qY w w':=by
 let⟨r,p⟩:=aN$ decide$ Lok (aF ms) L;rw[<-p];replace p:r=true ↔ Lok (aF ms) L:=by rw[p];simp
 unfold Lok at p;have B:=zh$ uZ (aF ms) (L.slots.length:Int) (cfW L) (cfK L) 0;have F:=zh$ aKg (aF ms) (L.slots.length:Int) (cfW L) (cfK L) 0
 have E:=zh (λ(W:qw)(H:qY w W)=>by
  have:=aB5 a n x ms (L.slots.length:Int) (cfW L) (cfK L) 0 W$ h.bw H;unfold LkM oG at this
  exact this)
 generalize lkL (aF ms) (L.slots.length:Int) (cfW L) (cfK L) 0=t at *;generalize lkc (aF ms) (L.slots.length:Int) (cfW L) (cfK L) 0=C at *;have U:=zh p;have D:=zb w λW H=>aEj L b i xs a2 c2 d k s W$ Q.bw H;have G:qY w (w.alloc$ .cells (qJ L b xs i a2 c2 d s k) 65):=bal;have k0:=Blk.new w (qJ L b xs i a2 c2 d s k) 65;have HL:=zh Q
 delta qC;go_in
 go_wp2_with fail
 apply(D _ G).mono;rintro e w1 ⟨rfl,q⟩;have M:=yT G q;have k1:=k0.bw q;go_wp2_with fail
 apply(E _ M).mono;rintro e R ⟨j,S,X,Y,N,V,P,O,us,rfl,O2⟩;have K:qY R (R.alloc$ .cells (qL t S Y.length X N t.slots.length V P us.length O) 65):=bal;have B2:=yT M j;have Z:=yT B2 K;have k3:=(k1.bw j).bw K;have O3:=O2.below' K;have f:=zh$ vQ t S X Y N V P O us L b i xs a2 c2 d k s _ (O3.lyt B.r F)$ HL.bw Z;have l:=zh Z;have p0:=k3.ly6;by_cases u:C=0
 .have g:(C==0)=true:=by simpa using u
  have y:=zh (show decide (t=L)=r by rw[xJ,U.o];simp[u]);rw[y.o]at f;go_wp2_with fail
  apply f.mono;rintro e w4 ⟨rfl,A⟩;have I:=zh$ yT l A;cases r
  all_goals
   go_wp2;go_ret;exact⟨rfl,I⟩
 .have g:(C==0)=false:=by simpa using u
  have y:=zh (show r=false by cases r;rfl;exact absurd (U.1 rfl).1 u);go_wp2;go_ret;exact⟨aA y.symm,l⟩
def aWp {S F:Nat->World->Prop}(main:(∀g W,F g W->S g W)->G)(pf:∀g W,F g W->S g W):G:=main pf
def wdS (L:Lay):Int:=if 4<L.slots.length then 1 else cfW L
def aRw (ps L):Lok ps L ↔ (lkc ps (L.slots.length:Int) (wdS L) (cfK L) 0=0/\lkL ps (L.slots.length:Int) (wdS L) (cfK L) 0=L):=by
 unfold wdS;by_cases h:4<L.slots.length
 .rw[if_pos h]
  have f:∀wd:Int,lkc ps (L.slots.length:Int) wd (cfK L) 0≠0:=λwd e=>by
   have hc:=(iK e).1;unfold cfo at hc
   grind
  constructor
  .intro e;exact absurd e.1$ f _
  .grind
 .rw[if_neg h];rfl
def wX (a n0 a1 ms L a0 c0 xs a2 c2 a5 c5 ts w)(h:MSD w a n0 a1 ms)(hL:LyT w L a0 c0 xs a2 c2 a5 c5 ts):
 qC 113 #[qS a n0 a1,.agg$ qL L a0 xs.length c0 a2 L.slots.length c2 a5 ts.length c5] w λe w'=>e=.returned (.bool$ decide$ Lok (aF ms) L)/\qY w w':=by
 have b6:=hL.s.2.1;let⟨r,hr⟩:=aN$ decide$ Lok (aF ms) L;rw[<-hr];replace hr:r=true ↔ Lok (aF ms) L:=by rw[hr];simp
 rw[aRw]at hr;have ag:=zh$ uZ (aF ms) (L.slots.length:Int) (wdS L) (cfK L) 0;have aa:=zh$ aKg (aF ms) (L.slots.length:Int) (wdS L) (cfK L) 0
 have ae:=zh (λ(W:qw)(x:qY w W)=>by
  have:=aBo a n0 a1 ms (L.slots.length:Int) (wdS L) (cfK L) 0 W$ h.bw x;unfold LkM oG at this
  exact this)
 generalize lkL (aF ms) (L.slots.length:Int) (wdS L) (cfK L) 0=l at *;generalize lkc (aF ms) (L.slots.length:Int) (wdS L) (cfK L) 0=C at *;have Z:=zh hr;have aw:=zb w λW x=>wY L a0 c0 xs a2 c2 a5 c5 ts W$ hL.bw x;have ab:=zh λ(l:Lay)(I:qO)(y:Nat)(S:List PB)(Q:qO)(A:Nat)(O:qO)(u:Nat)(us:List TB)(W:qw)(o:LyT W l I y S Q A O u us)(x:qY w W)=>zW l I y S Q A O u us L a0 c0 xs a2 c2 a5 c5 ts W o$ hL.bw x;have af:=zh$ show IntKind.i64.wrap (cW L-L.stack)=cfK L from xP _;have aj:=zh$ show wdS L=if 4<L.slots.length then 1 else cfW L from rfl;have au:=zh$ show cfW L=if L.slots=[] then 1 else wrap64 ((cfQ L).tdiv 4)from rfl;have b1:=zh$ show cfQ L=wrap64 ((wrap64$ wrap64 (65536+L.ram)-L.slots.getD 0 0).tdiv (L.slots.length:Int))from rfl;have HS:=zh hL.s;have ai:=zh$ show L.slots=[] ↔ L.slots.length=0 from List.length_eq_zero_iff.symm;clear h hL hr;generalize cfK L=K at *;generalize wdS L=wd at *;generalize cW L=E at *;generalize L.slots.length=n at *;have B0:qY w (w.alloc$ .cells (qL L a0 xs.length c0 a2 n c2 a5 ts.length c5) 65):=brf.alloc aO _;have k0:=Blk.new w (qL L a0 xs.length c0 a2 n c2 a5 ts.length c5) 65
 delta qC;go_in
 go_wp2_with fail
 generalize w.alloc (.cells (qL L a0 xs.length c0 a2 n c2 a5 ts.length c5) 65)=V at *;have ac:w.heap.size<V.heap.size:=k0.lt;have x0:=k0.ly6;have a3:=zh$ xA B0 k0;have U:=zh λ(zc:Array Value)(t:TypeId)(X:qw)(o:Option Nat)(M:Zb zc t V X o)=>(aw X$ yT a3.1 M.1).mono λe w' he=>show e=.returned (qI E)/\Zb zc t V w' o from⟨he.1,M.bw he.2⟩;have ak:=zb V λW x=>(a3.2.bw x).ly6;have Y:=zh$ aTn (qW 0 0 0 0) 37 V;have ap:=zh λ(X:qw)(M:Zb (qW 0 0 0 0) 37 V X none)=>show qY V (X.alloc$ .cells (qW n 1 K 0) 37)/\Blk (X.alloc$ .cells (qW n 1 K 0) 37) X.heap.size (qW n 1 K 0) 37/\V.heap.size<=X.heap.size from⟨M.1.alloc M.1.size _,Blk.new _ _ _,M.1.size⟩
 have aq:=zh (λ(X:qw)(g:Nat)(M:Zb (qW 0 0 0 0) 37 V X (some g))=>show qY V ((((X.setCell ⟨g,0,none⟩$ qI n).setCell ⟨g,1,none⟩$ qI 1).setCell ⟨g,2,none⟩$ qI K).setCell ⟨g,3,none⟩$ qI 0)/\Blk ((((X.setCell ⟨g,0,none⟩$ qI n).setCell ⟨g,1,none⟩$ qI 1).setCell ⟨g,2,none⟩$ qI K).setCell ⟨g,3,none⟩$ qI 0) g (qW n 1 K 0) 37/\V.heap.size<=g by
  let⟨hg,hk⟩:=M.2 g rfl;have T:Turn (λj=>j=g) X ((((X.setCell ⟨g,0,none⟩$ qI n).setCell ⟨g,1,none⟩$ qI 1).setCell ⟨g,2,none⟩$ qI K).setCell ⟨g,3,none⟩$ qI 0):=(((aC _ _ _ _).trans$ aC _ _ _ _).trans$ aC _ _ _ _).trans$ aC _ _ _ _;have kz:=(((hk.set 0$ qI n).set 1$ qI 1).set 2$ qI K).set 3$ qI 0
  exact⟨aG M.1 T (λk e=>J) M.1.size,kz,hg⟩)
 clear B0 k0;apply aWp (F:=λgc W=>qY V W/\Blk W gc (qW n 1 K 0) 37/\V.heap.size<=gc)
 .intro a8;have a9:=zh a8;clear a8
  go_region_held3 (λw'=>w'.cell? ⟨w.heap.size,0,none⟩=qk a0 xs.length c0/\w'.cell? ⟨w.heap.size,1,none⟩=qj L.stack/\w'.cell? ⟨w.heap.size,2,none⟩=qk a2 n c2/\w'.cell? ⟨w.heap.size,3,none⟩=qj L.flash/\w'.cell? ⟨w.heap.size,4,none⟩=qj L.ram/\w'.cell? ⟨w.heap.size,5,none⟩=qk a5 ts.length c5) (go_keep)
   (first
     | (go_at_call 122;first
         | with_reducible refine(U.o _ _ _ none Y.o).mono ?_
         | with_reducible refine(U.o _ _ _ none Y.o.drew).mono ?_
         | with_reducible refine(U.o _ _ _ _ Y.o.box).mono ?_
         | with_reducible refine(U.o _ _ _ _ Y.o.drew.box).mono ?_
         | with_reducible refine(U.o _ _ _ _ Y.o.box.drew).mono ?_
        rintro e w1 ⟨rfl,an⟩;have a4:=zh an;clear an;let⟨y,d1,A,d3,d4,u⟩:=ak w1 a4.1;have b2:=af.o
        first
         | (have kz:=(a4.2 _ rfl).2
            have z0:=kz.cell 0;have z1:=kz.cell 1;have z2:=kz.cell 2;have z3:=kz.cell 3;simp only[List.getElem?_toArray,List.getElem?_cons_zero,List.getElem?_cons_succ]at z0 z1 z2 z3;have zf:=kz.frozen;have a7:=Nat.ne_of_lt$ Nat.lt_of_lt_of_le ac (a4.2 _ rfl).1;have ay:=a7.symm
            clear kz)
         | skip))
  all_goals try simp only[af.o]
  .have HF:=zh$ ap _ a4;generalize w1.alloc (.cells (qW n 1 K 0) 37)=W' at HF⊢;generalize w1.heap.size=gc at HF⊢;exact a9 gc W' HF
  all_goals exact a9 _ _$ aq _ _ a4
 .rintro gc W ⟨x,N,hg⟩;show Exit.then _ _ _ _ _
  have d:=yT a3.1 x;have k1:=a3.2.bw x;let⟨y,d1,A,d3,d4,u⟩:=k1.ly6;have a7:=Nat.ne_of_lt$ Nat.lt_of_lt_of_le ac hg;clear x x0 a3 U ak Y aq ap aw af;by_cases hB:0<n/\n<=4
  .obtain⟨ao,b3⟩:=hB;have ah:(0:Int)<(n:Int):=J
   have ax:(n:Int)<=4:=J
   have he:((n:Int)==0)=false:=Jc
   have b7:¬((n:Int)=0):=J
   have b4:¬(n=0):=J
   obtain⟨b,av,rfl,hc⟩:=HS.2.2.2.1 J;have q0:=hc 0 ao;rw[Nat.add_zero]at q0
   have nb:b≠gc:=by
    have h2:=xD _ _ q0;dsimp only at h2;omega
   have q:=aB d q0;clear q0;have ad:=zh (show wrap64 ((wrap64$ (wrap64$ wrap64 (65536+L.ram)-L.slots.getD 0 0).tdiv (n:Int)).tdiv 4)=wd by rw[aj.o,if_neg J,au.o,if_neg (by rw[ai.o];omega),b1.o]);generalize L.slots.getD 0 0=z at *;have y0:W.cell? ⟨gc,1,none⟩=qj 1:=N.cell 1;have yf:=N.frozen;have az:=nb.symm;have ay:=a7.symm;clear hc;have b0:=zh$ show w.heap.size<=gc from J;have HX:=zh$ xA d$ xA k1 N;clear d k1 N ac hg;go_wp2
   go_region_held3 (λw'=>w'.cell? ⟨w.heap.size,4,none⟩=qj L.ram/\w'.cell? ⟨w.heap.size,2,none⟩=qk (some ⟨b,av,none⟩) n c2/\w'.cell? ⟨b,av,none⟩=qj z) (go_keep) (fail)
   simp only[xP];rw[ad.o];let⟨d,k1,N⟩:=HX.o;have T:Turn (λj=>j=gc) W (W.setCell ⟨gc,1,none⟩$ qI wd):=aC _ _ _ _;have B5:=(aG d T (λk e=>jK b0.o) d.size).drew;have am:=aD T k1 λe=>a7 e;have k5:Blk ((W.setCell ⟨gc,1,none⟩$ qI wd).drew) w.heap.size _ _:=am;have ar:Blk ((W.setCell ⟨gc,1,none⟩$ qI wd).drew) gc _ _:=N.set 1$ qI wd;simp only[yA,yB,yC]at ar;generalize (W.setCell ⟨gc,1,none⟩$ qI wd).drew=W5 at *;clear T d k1 N am HX q y d1 A d3 d4 u y0 yf nb az;let⟨y,d1,A,d3,d4,u⟩:=k5.ly6;let⟨y0,y1,y2,y3⟩:=ar.z4;go_wp2_with fail
   apply(ae _ B5).mono;rintro e G ⟨f,I,y,S,Q,A,O,u,us,rfl,O2⟩;have R:qY G (G.alloc$ .cells (qL l I S.length y Q l.slots.length A O us.length u) 65):=brf.alloc aO _;have kt:=Blk.new G (qL l I S.length y Q l.slots.length A O us.length u) 65;have P:=yT B5 f;have i:=yT P R;have k3:=(k5.bw f).bw R;have O3:=O2.below' R;have H:=zh$ ab l I y S Q A O u us _ (O3.lyt ag.r aa) i;have D:=zh i;have p0:=k3.ly6;let⟨q0,q1,q2,q3,q4,q5⟩:=kt.ly6;clear f O2 O3 R P i k3 kt y0 y1 y2 y3;by_cases p:C=0
   .have g:(C==0)=true:=by simpa using p
    have s:=zh (show decide (l=L)=r by rw[xJ,Z.o];simp[p]);rw[s.o]at H;clear p Z;go_wp2_with fail
    apply H.mono;rintro e w4 ⟨rfl,B⟩;have a6:=zh$ yT D B;clear B;cases r
    all_goals
     go_wp2;go_ret;exact⟨rfl,a6⟩
   .have g:(C==0)=false:=by simpa using p
    have s:=zh (show r=false by cases r;rfl;exact absurd (Z.1 rfl).1 p);clear p Z;go_wp2;go_ret;exact⟨aA s.symm,D⟩
  .have ad:=zh (show(1:Int)=wd by
    rw[aj.o];by_cases h4:4<n
    .rw[if_pos h4]
    .rw[if_neg h4,au.o,if_pos (by rw[ai.o];omega)])
   have g1:0<n->¬((n:Int)<=4):=λh=>J
   rw[ad.o]at N;by_cases ao:0<n
   .have ah:(0:Int)<(n:Int):=J
    have ax:¬((n:Int)<=4):=J
    clear g1;let⟨y0,y1,y2,y3⟩:=N.z4;go_wp2_with fail
    apply(ae _ d).mono;rintro e G ⟨f,I,y,S,Q,A,O,u,us,rfl,O2⟩;have R:qY G (G.alloc$ .cells (qL l I S.length y Q l.slots.length A O us.length u) 65):=brf.alloc aO _;have kt:=Blk.new G (qL l I S.length y Q l.slots.length A O us.length u) 65;have P:=yT d f;have i:=yT P R;have k3:=(k1.bw f).bw R;have O3:=O2.below' R;have H:=zh$ ab l I y S Q A O u us _ (O3.lyt ag.r aa) i;have D:=zh i;have p0:=k3.ly6;let⟨q0,q1,q2,q3,q4,q5⟩:=kt.ly6;clear f O2 O3 R P i k3 kt y0 y1 y2 y3;by_cases p:C=0
    .have g:(C==0)=true:=by simpa using p
     have s:=zh (show decide (l=L)=r by rw[xJ,Z.o];simp[p]);rw[s.o]at H;clear p Z;go_wp2_with fail
     apply H.mono;rintro e w4 ⟨rfl,B⟩;have a6:=zh$ yT D B;clear B;cases r
     all_goals
      go_wp2;go_ret;exact⟨rfl,a6⟩
    .have g:(C==0)=false:=by simpa using p
     have s:=zh (show r=false by cases r;rfl;exact absurd (Z.1 rfl).1 p);clear p Z;go_wp2;go_ret;exact⟨aA s.symm,D⟩
   .have ah:¬((0:Int)<(n:Int)):=J
    clear g1;let⟨y0,y1,y2,y3⟩:=N.z4;go_wp2_with fail
    apply(ae _ d).mono;rintro e G ⟨f,I,y,S,Q,A,O,u,us,rfl,O2⟩;have R:qY G (G.alloc$ .cells (qL l I S.length y Q l.slots.length A O us.length u) 65):=brf.alloc aO _;have kt:=Blk.new G (qL l I S.length y Q l.slots.length A O us.length u) 65;have P:=yT d f;have i:=yT P R;have k3:=(k1.bw f).bw R;have O3:=O2.below' R;have H:=zh$ ab l I y S Q A O u us _ (O3.lyt ag.r aa) i;have D:=zh i;have p0:=k3.ly6;let⟨q0,q1,q2,q3,q4,q5⟩:=kt.ly6;clear f O2 O3 R P i k3 kt y0 y1 y2 y3;by_cases p:C=0
    .have g:(C==0)=true:=by simpa using p
     have s:=zh (show decide (l=L)=r by rw[xJ,Z.o];simp[p]);rw[s.o]at H;clear p Z;go_wp2_with fail
     apply H.mono;rintro e w4 ⟨rfl,B⟩;have a6:=zh$ yT D B;clear B;cases r
     all_goals
      go_wp2;go_ret;exact⟨rfl,a6⟩
    .have g:(C==0)=false:=by simpa using p
     have s:=zh (show r=false by cases r;rfl;exact absurd (Z.1 rfl).1 p);clear p Z;go_wp2;go_ret;exact⟨aA s.symm,D⟩
def aWn {S F:Nat->Nat->Nat->Nat->World->Prop}(main:(∀a b c d W,F a b c d W->S a b c d W)->G)(pf:∀a b c d W,F a b c d W->S a b c d W):G:=main pf
def tZ {W:qw}{b:Nat}(h:W.cell? (qR b o)=some v):(W.alloc x).cell? (qR b o)=some v:=aB bal h
def zK {W:qw}{b:Nat}(h:W.cell? (qR b o)=some v):W.drew.cell? (qR b o)=some v:=h
def aCf {W:qw}{b:Nat}{u:Value}(e:b<g)(h:W.cell? (qR b o)=some v):(W.setCell (qR g i) u).cell? (qR b o)=some v:=(aS$ .inl J).trans h
structure Mk4 (N:Nat)(w1 W:qw)(ZF ZR:Array Value)(F R gf gr go gm:Nat):Prop where
 be:Below N w1 W
 f:Blk W gf ZF 5
 r:Blk W gr ZR 5
 o:Blk W go #[] 5
 m:Blk W gm (qV (qP gf) F F (qP gr) R R (qP go) 0 0) 39
 lo:N<=gf/\N<=gr/\N<=go/\N<=gm
 ne:gf≠gr/\gf≠go/\gr≠go
def jC (w:qw):w.drew.heap.size=w.heap.size:=rfl
def jG {W:qw}{t:TypeId}(h:Blk W g cs t):Blk W.drew g cs t:=h
def jF {W:qw}{t:TypeId}(h:g=W.heap.size):Blk (W.alloc$ .cells cs t) g cs t:=by subst h;exact Blk.new W cs t
def eK {W:qw}{b:Nat}{t:TypeId}(hn:g≠b)(h:Blk W g cs t):Blk (W.setCell (qR b i) v) g cs t:=h.other _ _ hn
def dU {W:qw}{t:TypeId}{v0 v1 v2:Value}(h:Blk W g (qV none 0 0 none 0 0 none 0 0) t):Blk (((W.setCell (qR g 0) v0).setCell (qR g 1) v1).setCell (qR g 2) v2) g #[v0,v1,v2] t:=by
 have:=((h.set 0 v0).set 1 v1).set 2 v2;simpa only[yA,yB,yC]using this
def aCg {a W:qw}(e:N<=a.heap.size)(h:Below N a W):Below N a (W.alloc x):=h.alloc (xM e h.size) _
def aKv {a W:qw}(e:N<=g)(h:Below N a W):Below N a (W.setCell (qR g i) v):=h.setCell (p:=(qR g i)) e v
def aG3 {a W:qw}(h:Below N a W):Below N a W.drew:=h.drew
structure ImS (w:qw)(V:Array Value)(F R gf gr go gm:Nat)(fz rz:qi)(W:qw):Prop where
 be:qY w W
 kl:Blk W w.heap.size V 65
 kr:Blk W (w.heap.size+1) (qV none 0 0 none 0 0 none 0 0) 39
 km:Blk W gm (qV (qP gf) F F (qP gr) R R (qP go) 0 0) 39
 f:OB W w.heap.size (qS (qP gf) F F) fz
 r:OB W w.heap.size (qS (qP gr) R R) rz
 o:Blk W go #[] 5
 lo:w.heap.size+1<gf/\w.heap.size+1<gr/\w.heap.size+1<go/\w.heap.size+1<gm
 ne:gf≠gr/\gf≠go/\gr≠go
section
variable {w:qw}{V:Array Value}{F R gf gr go gm:Nat}{fz rz:qi}{W W':qw}
def ImS.bw (h:ImS w V F R gf gr go gm fz rz W)(e:qY W W'):ImS w V F R gf gr go gm fz rz W':=⟨h.be.trans$ e.mono h.be.size,h.kl.bw e,h.kr.bw e,h.km.bw e,h.f.bw e,h.r.bw e,h.o.bw e,h.lo,h.ne⟩
def kH {c:Nat}{e:qi}(h:OB W base (qS (qP g) n c) e):∃cs,Blk W g cs 5:=aE h.1 rfl
def ImS.mf (h:ImS w V F R gf gr go gm fz rz W):gm≠gf/\gm≠gr:=by
 let⟨d,a⟩:=kH h.f;let⟨c2,b⟩:=kH h.r;exact⟨λe=>by subst e;exact absurd (aH h.km a) Ja,λe=>by subst e;exact absurd (aH h.km b) Ja⟩
def ImS.setf (h:ImS w V F R gf gr go gm fz rz W){e:qi}(O:OB W' w.heap.size (qS (qP gf) F F) e)(T:eW gf W W'):ImS w V F R gf gr go gm e rz W':=
 ⟨dH h.be T$ jK h.lo,bQ T h.kl$ jK h.lo,bQ T h.kr$ jK h.lo,bQ T h.km h.mf.1,O,nQ T h.r (by have:=h.ne.1;simp[Value.ownBlock];omega),bQ T h.o$ jK h.ne,h.lo,h.ne⟩
def ImS.setr (h:ImS w V F R gf gr go gm fz rz W){e:qi}(O:OB W' w.heap.size (qS (qP gr) R R) e)(T:eW gr W W'):ImS w V F R gf gr go gm fz e W':=
 ⟨dH h.be T$ jK h.lo,bQ T h.kl$ jK h.lo,bQ T h.kr$ jK h.lo,bQ T h.km h.mf.2,nQ T h.f (by have:=h.ne.1;simp[Value.ownBlock];omega),O,bQ T h.o$ jK h.ne,h.lo,h.ne⟩
structure Im5 (w:qw)(V:Array Value)(F R gf gr go gm gp:Nat)(PV:Array Value)(fz rz:qi)(W:qw):Prop where
 s:ImS w V F R gf gr go gm fz rz W
 p:Blk W gp PV 170
variable {gp:Nat}{PV:Array Value}
def Im5.bw (h:Im5 w V F R gf gr go gm gp PV fz rz W)(e:qY W W'):Im5 w V F R gf gr go gm gp PV fz rz W':=⟨h.s.bw e,h.p.bw e⟩
def Im5.drew (h:Im5 w V F R gf gr go gm gp PV fz rz W):Im5 w V F R gf gr go gm gp PV fz rz W.drew:=h.bw brf.drew
def Im5.pf (h:Im5 w V F R gf gr go gm gp PV fz rz W):gp≠gf/\gp≠gr:=by
 let⟨d,a⟩:=kH h.s.f;let⟨c2,b⟩:=kH h.s.r;exact⟨λe=>by subst e;exact absurd (aH h.p a) Ja,λe=>by subst e;exact absurd (aH h.p b) Ja⟩
def Im5.setf (h:Im5 w V F R gf gr go gm gp PV fz rz W){e:qi}(O:OB W' w.heap.size (qS (qP gf) F F) e)(T:eW gf W W'):Im5 w V F R gf gr go gm gp PV e rz W':=⟨h.s.setf O T,bQ T h.p h.pf.1⟩
def Im5.setr (h:Im5 w V F R gf gr go gm gp PV fz rz W){e:qi}(O:OB W' w.heap.size (qS (qP gr) R R) e)(T:eW gr W W'):Im5 w V F R gf gr go gm gp PV fz e W':=⟨h.s.setr O T,bQ T h.p h.pf.2⟩
end
def aV3 {S F:Value->World->Prop}(main:(∀v W,F v W->S v W)->G)(pf:∀v W,F v W->S v W):G:=main pf
structure Pc (w0 w:qw)(cm cp:Array Value)(g n base:Nat)(zs:qi)(W:qw):Prop where
 be:qY w0 W
 km:Blk W w.heap.size cm 128
 kp:Blk W (w.heap.size+1) cp 170
 o:OB W base (.slice (some (qR g 0)) n n) zs
 t:Turn (fun j=>j=g) w W
section
variable {w0 w:qw}{cm cp:Array Value}{g n base:Nat}{zs:qi}{W W':qw}
def Pc.bw (h:Pc w0 w cm cp g n base zs W)(e:qY W W'):Pc w0 w cm cp g n base zs W':=⟨h.be.trans$ e.mono h.be.size,h.km.bw e,h.kp.bw e,h.o.bw e,h.t.trans$ aI e⟩
def Pc.drew (h:Pc w0 w cm cp g n base zs W):Pc w0 w cm cp g n base zs W.drew:=h.bw brf.drew
def Pc.set (h:Pc w0 w cm cp g n base zs W){f:qi}(j:w0.heap.size<=g)(O:OB W' base (.slice (some$ qR g 0) n n) f)(T:eW g W W'):Pc w0 w cm cp g n base f W':=by
 let⟨b,a⟩:=kH h.o;exact⟨dH h.be T j,bQ T h.km λe=>absurd (aH (show Blk W g cm 128 from e ▸ h.km) a) Ja,bQ T h.kp λe=>absurd (aH (show Blk W g cp 170 from e ▸ h.kp) a) Ja,O,h.t.trans$ wB T⟩
end
def aLr (zs k a):cF zs k a 0=zs:=rfl
def aFk (g F nm s tn x tz R bn V N da dn dc a0 ra rn rc ia im ic ea en ec P kt xa b xc G M fz base w d)(hT:IS d s tn x tz)(hB:BKS d R bn V N)(a9:P.tz=tz)(Q:P.bl=N.map (λB=>B.2.2.2))(hx:IS d xa b.length xc b)(hb:qY d w)(hg:d.heap.size<=g)(ho:OB w base (.slice (some$ qR g 0) F F) fz)(hF:F<=16384)(aq:bn<=4)
 (ht:kt+4*tn<=F) (a2:b.length=bn) (a1:∀j,j<bn->0<=b.getD j 0/\b.getD j 0+4*((N.getD j zB).2.1:Int)<=(F:Int)):
 qC 264 #[.slice (some$ qR g 0) F F,.agg$ qM nm s tn x R bn V da dn dc a0 ra rn rc ia im ic ea en ec,.agg #[.int .i64 (kt:Int),.slice xa b.length xc,.int .i64 G,.int .i64 M]] w λe w'=>e=.returned (.tuple #[])/\OB w' base (.slice (some$ qR g 0) F F) (dF fz P ⟨(kt:Int),b,G,M⟩ P.bl.length)/\Turn (λj=>j=g) w w':=by
 have a4:N.length=bn:=hB.1;have ad:tz.length=tn:=hT.1;have ak:=zh (show P.bl.length=bn by rw[Q,xH];exact a4);have am:=zh (show dF fz P ⟨(kt:Int),b,G,M⟩ 0=cF fz kt tz tn by show cF fz ((kt:Int)).toNat P.tz P.tz.length=_;rw[a9,xY,ad])
 have ah:=zh (show ∀j,j<bn->dF fz P ⟨(kt:Int),b,G,M⟩ (j+1)=cF (dF fz P ⟨(kt:Int),b,G,M⟩ j) (b.getD j 0).toNat (N.getD j zB).2.2.2 (N.getD j zB).2.1 from λj hj=>by
  have e:P.bl.getD j []=(N.getD j zB).2.2.2:=by rw[Q,iZ _ _ _ zB _]
  show cF _ (b.getD j 0).toNat (P.bl.getD j []) (P.bl.getD j []).length=_
  rw[e,(hB.2.2.2.1 j hj).1])
 have O:=zh λ(cm cp:Array Value)(zs:qi)(k:Nat)(a:qO)(H wc:Nat)(ws:qi)(X:qw)(hw:IS d a H wc ws)(S:Pc d w cm cp g F base zs X)(hk:k+4*H<=F)(an:k<F)=>(lO g F F k (F-k) (F-k) a H wc ws zs base d X hw S.be hg S.o hF hk J aO J).mono λe w' K=>show e=.returned (.tuple #[])/\Pc d w cm cp g F base (cF zs k ws H) w' from⟨K.1,S.set hg K.2.1 K.2.2⟩
 have C:=zh (λ(cm cp:Array Value)(zs:qi)(k:Nat)(a:qO)(H wc:Nat)(ws:qi)(X:qw)(hw:IS d a H wc ws)(S:Pc d w cm cp g F base zs X)(hk:k+4*H<=F)(an:¬k<F)=>(lO g F F 0 0 0 a H wc ws zs base d X hw S.be hg S.o hF J J aO J).mono (λe w' K=>show e=.returned (.tuple #[])/\Pc d w cm cp g F base (cF zs k ws H) w' from⟨K.1,by
  have e0:H=0:=J
  have:=S.set hg K.2.1 K.2.2;rw[e0,aLr]at this⊢
  exact this⟩))
 have HB:=zh hB;have HX:=zh hx;have HT:=zh hT;have aa:=zh a1
 have S0:Pc d w (qM nm s tn x R bn V da dn dc a0 ra rn rc ia im ic ea en ec) #[.int .i64 (kt:Int),.slice xa b.length xc,.int .i64 G,.int .i64 M] g F base fz ((w.alloc$ .cells (qM nm s tn x R bn V da dn dc a0 ra rn rc ia im ic ea en ec) 128).alloc$ .cells #[.int .i64 (kt:Int),.slice xa b.length xc,.int .i64 G,.int .i64 M] 170):=by
  have bb:qY w ((w.alloc$ .cells (qM nm s tn x R bn V da dn dc a0 ra rn rc ia im ic ea en ec) 128).alloc$ .cells #[.int .i64 (kt:Int),.slice xa b.length xc,.int .i64 G,.int .i64 M] 170):=bal.alloc Jb _;exact⟨yT hb bb,(Blk.new _ _ _).alloc _,by have:=Blk.new (w.alloc$ .cells (qM nm s tn x R bn V da dn dc a0 ra rn rc ia im ic ea en ec) 128) #[.int .i64 (kt:Int),.slice xa b.length xc,.int .i64 G,.int .i64 M] 170;simpa using this,ho.bw bb,aI bb⟩
 have l:=zh S0;have Z:=zh a2;clear S0 hB hx hT a1 ho hb a9 Q ad a2 a4
 delta qC;go_in
 go_wp2_with fail
 generalize ((w.alloc$ .cells (qM nm s tn x R bn V da dn dc a0 ra rn rc ia im ic ea en ec) 128).alloc$ .cells #[.int .i64 (kt:Int),.slice xa b.length xc,.int .i64 G,.int .i64 M] 170)=W0 at *;generalize ab:((qM nm s tn x R bn V da dn dc a0 ra rn rc ia im ic ea en ec):Array Value)=cm at l;generalize a7:(#[.int .i64 (kt:Int),.slice xa b.length xc,.int .i64 G,.int .i64 M]:Array Value)=cp at l;have ae:=zh$ xA ab a7;clear ab a7
 have u:=zh (λ(zs:qi)(X:qw)(S:Pc d w cm cp g F base zs X)=>show qn X w 1=some (.slice s tn x)/\qn X w 2=some (.slice R bn V)/\qg X w 0=some (.int .i64 (kt:Int))/\qg X w 1=some (.slice xa b.length xc)by
  have h1:=S.km;have h2:=S.kp;rw[<-ae.o.1]at h1;rw[<-ae.o.2]at h2
  exact⟨h1.cell 1,h1.cell 2,h2.cell 0,h2.cell 1⟩)
 have x1:=u _ _ l;have aj:(kt:Int)<=(F:Int):=J
 apply aV3 (F:=λv W=>Pc d w cm cp g F base (dF fz P ⟨(kt:Int),b,G,M⟩ 0) W)
 .intro D;have y:=zh D;clear D;rw[am.o]at y;by_cases q:kt<F
  .have I:(kt:Int)<(F:Int):=J
   have ai:¬(F=kt):=J
   go_region_held3 (λw'=>qn w' w 1=some (.slice s tn x)/\qg w' w 0=some (.int .i64 (kt:Int))) (go_keep)
    (first
      | (go_at_call 267;first
          | with_reducible refine(O.o cm cp fz kt s tn x tz _ HT.o l.o ht q).mono ?_
          | with_reducible refine(O.o cm cp fz kt s tn x tz _ HT.o l.o.drew ht q).mono ?_
         rintro e w2 ⟨rfl,f⟩;have p:=zh f;clear f
         have z1:=u _ _ p))
   generalize Value.slice (qe g kt) (F-kt) (F-kt)=a8;exact y a8 w2 p
  .obtain rfl:F=kt:=J
   go_region_held3 (λw'=>qn w' w 1=some (.slice s tn x)/\qg w' w 0=some (.int .i64 (F:Int))) (go_keep)
    (first
      | (go_at_call 267;first
          | with_reducible refine(C.o cm cp fz F s tn x tz _ HT.o l.o ht q).mono ?_
          | with_reducible refine(C.o cm cp fz F s tn x tz _ HT.o l.o.drew ht q).mono ?_
         rintro e w2 ⟨rfl,f⟩;have p:=zh f;clear f
         have z1:=u _ _ p))
   exact y _ w2 p
 .rintro a8 W2 f;show Exit.then _ _ _ _ _
  have z1:=u _ _ f;have p:=zh f;clear f x1 l aj;go_wp2;clear z1;go_loopw [18] (λi wr=>∃j:Nat,j<=bn/\i=.int .i64 j/\Pc d w cm cp g F base (dF fz P ⟨(kt:Int),b,G,M⟩ j) wr) (qf bn)
  .exact⟨0,xC _,rfl,p⟩
  .clear p;obtain⟨j,hj,rfl,hJ⟩:=hrel;generalize wr=wj at *;have HJ:=zh hJ;have z1:=u _ _ hJ;by_cases A:j<bn
   .have ap:(j:Int)<(bn:Int):=J
    have ao:(j:Int)<(b.length:Int):=jK Z.o;obtain⟨bb,bo,rfl,af⟩:=HB.2.2.1$ show bn≠0 from J;obtain⟨qb,qo,rfl,ag⟩:=HX.2.2.2.1 (show b.length≠0 by have:=Z.o;omega);have s1:=aB hJ.be$ ag j$ jK Z.o;have s2:=aB hJ.be$ af j A;obtain⟨kb,a3⟩:∃kb:Nat,b.getD j 0=(kb:Int):=⟨(b.getD j 0).toNat,jK$ (aa j A).1⟩;have Y:=zh (show kb+4*(N.getD j zB).2.1<=F by have:=(aa.o j A).2;rw[a3]at this;omega);have a5:=zh$ HB.2.2.2.1 j A;have t:=ah j A;rw[a3,xY]at t;rw[a3]at s1;have t:=zh t;have ar:=Y.o;generalize a6:dF fz P ⟨(kt:Int),b,G,M⟩ (j+1)=ZJ at t;have ac:=zh a6;clear hJ af ag a3 a6;generalize (N.getD j zB).2.2.2=kw at *;generalize (N.getD j zB).1=k1 at *;generalize (N.getD j zB).2.1=k2 at *;generalize (N.getD j zB).2.2.1=k3 at *;have au:(0:Int)<=(kb:Int):=J
    have av:(kb:Int)<=(F:Int):=J
    by_cases q:kb<F
    .have I:(kb:Int)<(F:Int):=J
     have ai:¬(F=kb):=J
     have HC:=zh$ O cm cp _ kb k1 k2 k3 kw wj a5 HJ Y q;go_wp2_with fail
     apply HC.mono;rintro e w3 ⟨rfl,E⟩;have U:=zh (show Pc d w cm cp g F base ZJ w3 by rw[t.o];exact E);clear E s1 s2 z1;go_wp2
     go_roundw
     .exact⟨j+1,J,by go_num,by rw[ac.o];exact U.o⟩
     .simp[qf,intOf];omega
    .have I:¬(kb:Int)<(F:Int):=J
     have HC:=zh$ C cm cp _ kb k1 k2 k3 kw wj a5 HJ Y q;obtain rfl:F=kb:=J
     go_wp2_with fail
     apply HC.mono;rintro e w3 ⟨rfl,E⟩;have U:=zh (show Pc d w cm cp g F base ZJ w3 by rw[t.o];exact E);clear E s1 s2 z1;go_wp2
     go_roundw
     .exact⟨j+1,J,by go_num,by rw[ac.o];exact U.o⟩
     .simp[qf,intOf];omega
   .have e:Zh (j=bn):=by show j=bn;omega
    clear hJ;go_wp2
    go_end0
    exact⟨rfl,by rw[ak.o,<-e.o];exact HJ.o.o,HJ.o.t⟩
structure Pd (w0 w:qw)(cm:Array Value)(g n base:Nat)(zs:qi)(W:qw):Prop where
 be:qY w0 W
 km:Blk W w.heap.size cm 128
 o:OB W base (qS (qP g) n n) zs
 t:Turn (fun j=>j=g) w W
section
variable {w0 w:qw}{cm:Array Value}{g n base:Nat}{zs:qi}{W W':qw}
def Pd.bw (h:Pd w0 w cm g n base zs W)(e:qY W W'):Pd w0 w cm g n base zs W':=⟨h.be.trans$ e.mono h.be.size,h.km.bw e,h.o.bw e,h.t.trans$ aI e⟩
def Pd.drew (h:Pd w0 w cm g n base zs W):Pd w0 w cm g n base zs W.drew:=h.bw brf.drew
def Pd.set (h:Pd w0 w cm g n base zs W){f:qi}(j:w0.heap.size<=g)(O:OB W' base (qS (qP g) n n) f)(T:eW g W W'):Pd w0 w cm g n base f W':=by
 let⟨b,a⟩:=kH h.o;exact⟨dH h.be T j,bQ T h.km λe=>absurd (aH (show Blk W g cm 128 from e ▸ h.km) a) Ja,O,h.t.trans$ wB T⟩
end
def aUf {W:qw}{A:Nat}{a:qi}(h:OB W base (qS (qP g) n n) a)(j:A<=n):BS W (some$ qR g A) (n-A) (n-A) (a.drop A):=by
 have:=(uY h).2.1;have:=(uY h).2.2.2;have e:=h.bs;refine⟨by grind,J,λz b=>h.2 z$ List.mem_of_mem_drop b,λ_=>⟨g,A,rfl,λi hi=>?_⟩,aO⟩;have:=e.at (A+i) J
 grind
def aFj (g R f V k nm ta tn tc M P N s y F d W ra rn rc a ia im ic ea en ec rz base w b)(D:BS b s y F d)(u:IS b ra rn rc a)(hb:qY b w)(hg:b.heap.size<=g)(ho:OB w base (qS (qP g) R R) rz)(hR:R<=16384)(ag:rn<=16)(af:f+y<=R)(t:∀q,q<rn->0<=a.getD q 0/\a.getD q 0+4<=(y:Int))
 (l:(f<R/\V=some (qR g f)/\k=R-f)\/(f=R/\V=some (qR g 0)/\k=0)):
 qC 265 #[qS V k k,.agg$ qM nm ta tn tc M P N s y F W ra rn rc ia im ic ea en ec,qI$ 65536+(f:Int)] w λe w'=>e=.returned (.tuple #[])/\OB w' base (qS (qP g) R R) (kZ (ovr rz f d) f a (65536+(f:Int)) rn)/\Turn (λj=>j=g) w w':=by
 have bb:qY w (w.alloc$ .cells (qM nm ta tn tc M P N s y F W ra rn rc ia im ic ea en ec) 128):=bal;have U:Pd b w (qM nm ta tn tc M P N s y F W ra rn rc ia im ic ea en ec) g R base rz (w.alloc$ .cells (qM nm ta tn tc M P N s y F W ra rn rc ia im ic ea en ec) 128):=⟨yT hb bb,Blk.new _ _ _,ho.bw bb,aI bb⟩;have a9:=zh$ xA l$ xA D$ xA u t;let⟨w1,ad,O1,T1⟩:=zH (f:=f) U.o 3 V s k k y F (D.bw U.be) (by rcases l with h|h<;>omega) J (λh0=>by rcases l with h|h;exact h.2.1;omega);have A:=zh$ U.set hg O1 T1;have x3:=U.km.cell 3;clear O1 T1 U bb ho hb D u t l;obtain⟨cm,a1⟩:∃cm:Array Value,cm=(qM nm ta tn tc M P N s y F W ra rn rc ia im ic ea en ec):=⟨_,rfl⟩;rw[<-a1]at A
 have aa:=zh (λ(zs:qi)(X:qw)(S:Pd b w cm g R base zs X)=>show qn X w 5=qk ra rn rc by
  have h1:=S.km;rw[a1]at h1
  exact h1.cell 5)
 clear a1
 delta qC;go_in
 have z5:=aa _ _ A;go_wp2;clear ad x3 z5;go_loopw [15] (λi wr=>∃q:Nat,q<=rn/\i=qI q/\Pd b w cm g R base (kZ (ovr rz f d) f a (65536+(f:Int)) q) wr) (qf rn)
 .exact⟨0,xC _,rfl,A⟩
 .clear A;obtain⟨q,hq,rfl,hQ⟩:=hrel;generalize wr=wq at *;have G:=zh hQ;by_cases I:q<rn
  .have ae:(q:Int)<(rn:Int):=J
   let⟨l,D,u,t⟩:=a9.o;obtain⟨rb,ro,rfl,a5⟩:=u.2.2.2.1$ show rn≠0 from J;let⟨h1,h2⟩:=t q I;obtain⟨_,ab,ac⟩:f<R/\V=some ⟨g,f,none⟩/\k=R-f:=by rcases l with h|h;exact h;omega
   subst ab ac;have s6:=aB hQ.be$ a5 q I;have p:Zh (kZ (ovr rz f d) f a (65536+(f:Int)) (q+1)=put (kZ (ovr rz f d) f a (65536+(f:Int)) q) (f+(a.getD q 0).toNat) (low (((kZ (ovr rz f d) f a (65536+(f:Int)) q).drop$ f+(a.getD q 0).toNat).take 4)+(65536+(f:Int))) 4):=rfl;clear a5 hQ D u t l;generalize B:kZ (ovr rz f d) f a (65536+(f:Int)) (q+1)=a8 at p;have Y:=zh B;clear B;generalize kZ (ovr rz f d) f a (65536+(f:Int)) q=H at *;obtain⟨x,hx⟩:∃x:Nat,a.getD q 0=(x:Int):=⟨(a.getD q 0).toNat,J⟩;rw[hx]at s6 p h1 h2;rw[xY]at p;clear hx;have C:=zh$ nU ((H.drop$ f+x).take 4) (λz hz=>G.o.o.2 z$ List.mem_of_mem_drop$ List.mem_of_mem_take hz) Jc;let⟨lw,a2⟩:=aN$ low$ (H.drop$ f+x).take 4;rw[<-a2]at C p;let⟨VV,a0⟩:=aN$ lw+(65536+(f:Int));rw[<-a0]at p;have a4:IntKind.i64.wrap (lw+(65536+(f:Int)))=VV:=by rw[a0,xP,xQ _$ jK C.o]
   have a7:=zh (show -9223372036854775808<=VV/\VV<=9223372036854775807 by have:=C.o;omega)
   have Q:=zh (λ(X:qw)(S:Pd b w cm g R base H X)=>show qC 274 #[qS (qe g$ f+x) (R-f-x)$ R-f-x,qI 4] X λe w'=>e=.returned (qI lw)/\Pd b w cm g R base H w' by
    have Z:=aUf S.o$ show f+x<=R from J;rw[show R-(f+x)=R-f-x from J]at Z;have:=yN g (f+x) (R-f-x) (R-f-x) _ X Z J;rw[<-a2]at this
    exact this.mono λe w' he=>⟨he.1,S.bw he.2⟩)
   have K:=zh (λ(X:qw)(S:Pd b w cm g R base H X)=>show qC 296 #[qS (qe g$ f+x) (R-f-x)$ R-f-x,qI 4,qI VV] X λe w'=>e=.returned (.tuple #[])/\Pd b w cm g R base a8 w' from
    (oY g (R-f-x) (R-f-x) (f+x) VV X (mT S.o) J a7).mono (λe w' he=>⟨he.1,by
      rw[he.2,p.o]
      exact S.set hg (wF S.o (f+x) VV)$ pC g (f+x) VV X⟩))
   have t1:(x:Int)<=((R-f:Nat):Int):=J
   have t2:(x:Int)<((R-f:Nat):Int):=J
   have t3:¬(R-f=x):=J
   have t4:x<=R-f:=J
   have t5:x<R-f:=J
   clear a2 a0 h1 h2;go_wp2
   go_region_held3 (λw'=>True) (exact True.intro)
    (first
      | (go_at_call 274;first
          | with_reducible refine(Q.o _ G.o).mono ?_
          | with_reducible refine(Q.o _ G.o.drew).mono ?_
         rintro e w5 ⟨rfl,O⟩;have E:=zh O
         clear O)
      | (go_at_call 296;first
          | with_reducible refine(K.o _ E.o).mono ?_
          | (rw[a4];with_reducible refine(K.o _ E.o).mono ?_)
         rintro e w6 ⟨rfl,a3⟩;have a6:=zh a3
         clear a3))
   clear a4 s6;go_wp2
   go_roundw
   .exact⟨q+1,J,by go_num,Y.o ▸ a6.o⟩
   .simp[qf,intOf];omega
  .have e:Zh (q=rn):=by show q=rn;omega
   clear hQ;go_wp2
   go_end0
   exact⟨rfl,e.o ▸ G.o.o,G.o.t⟩
def aCw (L a g xs a2 c2 d i j w)(h:LyT w L a g xs a2 c2 d i j):
 qC 197 #[.agg$ qL L a xs.length g a2 L.slots.length c2 d j.length i] w (qB w$ qI$ cW L):=by
 have f:Zh (qY w$ w.alloc$ .cells (qL L a xs.length g a2 L.slots.length c2 d j.length i) 65):=brf.alloc aO _;have hs:=h.s.bw f;unfold cW;by_cases c:L.slots=[]
 .rw[if_pos c];have e:L.slots.length=0:=by rw[c];rfl
  rw[e];rw[e]at f
  delta qC;go_in
  go_wp2;go_ret;exact⟨rfl,f⟩
 .rw[if_neg c];have e:0<L.slots.length:=List.length_pos_iff.2 c;obtain⟨b,k,rfl,hc⟩:=hs.2.2.2.1 J;have q:=hc 0 e;rw[Nat.add_zero]at q;generalize L.slots.length=n at *;generalize L.slots.getD 0 0=z at *
  delta qC;go_in
  go_wp2;go_ret;exact⟨rfl,f⟩
def pcm (ms:List Md)(m b:Int):Int:=if 0<=m/\m<(ms.length:Int) then pcn (ms.getD m.toNat aL).tn (ms.getD m.toNat aL).bn (ms.getD m.toNat aL).bl b else -1
def jS (a n i ms m b w)(h:MS w a n i ms):
 qC 67 #[qS a n i,qI m,qI b] w (qB w$ .bool$ decide$ 0<=pcm ms m b):=by
 have d:=h.1;have:=h.2.1;have p:=zh$ Below.refl (qs w) w;by_cases k:m<0
 .have j:=zh (show decide (0<=pcm ms m b)=false by unfold pcm;rw[if_neg J];rfl);rw[j.o];clear d
  delta qC;go_in
  go_wp2;go_ret;exact⟨rfl,p⟩
 .by_cases c2:(n:Int)<=m
  .have j:=zh (show decide (0<=pcm ms m b)=false by unfold pcm;rw[if_neg J];rfl);rw[j.o];clear d
   delta qC;go_in
   go_wp2;go_ret;exact⟨rfl,p⟩
  .have j:=zh (show pcm ms m b=pcn (ms.getD m.toNat aL).tn (ms.getD m.toNat aL).bn (ms.getD m.toNat aL).bl b by unfold pcm;rw[if_pos J]);rw[j.o];clear j;obtain⟨g,s,rfl,x,B,E,F,G,H,I,K⟩:=h.at m.toNat J;have f:=h.2.2.2.1 m.toNat J;generalize ms.getD m.toNat aL=M at *;have q:=zh$ jT M.nm M.ta M.tn M.tc M.ba M.bn M.bc M.bl (qS M.da M.dn M.dc) (qS M.ra M.rn M.rc) (qS M.ia M.im M.ic) (qS M.ea M.en M.ec) M.bss b w f.t.2.1 f.b;clear d f h
   delta qC;go_in
   go_wp2_with fail
   apply q.mono;rintro e N ⟨D,y,C,A,rfl,l,_,_,u⟩;have t:=zh l;clear l;go_wp2;go_ret;exact⟨aA t,u⟩
def nB (a n i ms m b w)(h:MS w a n i ms):
 qC 191 #[qS a n i,qI m,qI b] w (qB w$ .bool$ decide$ 0<=pcm ms m b):=by
 have d:=h.1;have y:=h.2.1;unfold maxLen at y;have t:=zh$ Below.refl (qs w) w;by_cases k:m<0
 .have j:=zh (show decide (0<=pcm ms m b)=false by unfold pcm;rw[if_neg J];rfl);rw[j.o];clear d;have l:=zh$ cP m$ (n:Int)-1
  delta qC;go_in
  go_wp2_with (go_at_call 141;refine(l.o _).mono ?_;rintro e q ⟨rfl,rfl⟩;rw[xS J])
  go_ret;exact⟨rfl,t⟩
 .by_cases c2:(n:Int)<=m
  .have j:=zh (show decide (0<=pcm ms m b)=false by unfold pcm;rw[if_neg J];rfl);rw[j.o];clear d;have l:=zh$ cP m$ (n:Int)-1
   delta qC;go_in
   go_wp2_with (go_at_call 141;refine(l.o _).mono ?_;rintro e q ⟨rfl,rfl⟩;rw[xS J])
   go_ret;exact⟨rfl,t⟩
  .have j:=zh (show pcm ms m b=pcn (ms.getD m.toNat aL).tn (ms.getD m.toNat aL).bn (ms.getD m.toNat aL).bl b by unfold pcm;rw[if_pos J]);rw[j.o];clear j;obtain⟨g,s,rfl,x,B,C,F,G,N,O,P⟩:=h.at m.toNat J;have f:=h.2.2.2.1 m.toNat J;generalize ms.getD m.toNat aL=M at *;have u:=zh$ jQ M.nm M.ta M.tn M.tc M.ba M.bn M.bc M.bl (qS M.da M.dn M.dc) (qS M.ra M.rn M.rc) (qS M.ia M.im M.ic) (qS M.ea M.en M.ec) M.bss b w f.t.2.1 f.b;have:0<=m:=J
   have:m<(n:Int):=J
   clear d f h;have l:=zh$ cP m$ (n:Int)-1
   delta qC;go_in
   go_wp2_with (go_at_call 141;refine(l.o _).mono ?_;rintro e q ⟨rfl,rfl⟩;rw[xR J])
   apply u.mono;rintro e Q ⟨K,E,I,H,rfl,p,_,_,D⟩;have A:=zh p;clear p;go_wp2;go_ret;exact⟨aA A,D⟩
def iR (L:Lay)(P:PB)(b s:Int):Int:=if b=-1 then P.1.text else if s=-1 then P.1.banks.getD b.toNat 0 else L.slots.getD s.toNat 0
def lP (L i a xs a2 c2 k F G m b N s w)(h:LyT w L i a xs a2 c2 k F G)
 (U:0<=m) (O:m<(xs.length:Int)) (hb:b=-1\/(0<=b/\b<((xs.getD m.toNat zPB).1.banks.length:Int))) (hs:s=-1\/(b≠-1/\0<=s/\s<(L.slots.length:Int))):
 qC 198 #[.agg$ qJ L i xs a a2 c2 k G F,.agg$ qT m b N,qI s] w (qB w$ qI$ iR L (xs.getD m.toNat zPB) b s):=by
 let⟨W,d⟩:=aN$ (w.alloc$ .cells (qJ L i xs a a2 c2 k G F) 65).alloc$ .cells (qT m b N) 121;have D:qY w W:=by rw[d];exact bal.alloc Jb _
 have t:=zh D;have B:=h.bw D;have E:Blk W w.heap.size (qJ L i xs a a2 c2 k G F) 65:=by rw[d];exact(Blk.new w _ _).alloc _
 have C:Blk W (w.heap.size+1) (qT m b N) 121:=by rw[d];have:=Blk.new (w.alloc$ .cells (qJ L i xs a a2 c2 k G F) 65) (qT m b N) 121;simpa using this
 have hz:W.heap.size=w.heap.size+1+1:=by rw[d];simp
 clear hz;have d0:=E.e0;have S:=E.e2;have t0:=C.e0;have t1:=C.e1;obtain⟨g,R,rfl,q0,V,q2,q3⟩:=B.p.at m.toNat J;have j:=B.p.2.2.2.1 m.toNat J;have f:=B.s;have Q:=B.p.2.1;have X:=f.2.1;have a6:=j.2.1;unfold svP at V;generalize xs.getD m.toNat zPB=P at *;have H:=zh d;clear d D E C B h;rcases hb with rfl|⟨I,a4⟩
 .obtain rfl:s=-1:=by rcases hs with h|h;exact h;exact absurd rfl h.1
  have p:Zh (iR L P (-1) (-1)=P.1.text):=rfl;rw[p.o];clear hs j f;generalize P.1.text=x at *;generalize xs.length=n at *;generalize L.slots.length=l at *
  delta qC;go_in
  go_wp2_with (rw[<-H.o])
  go_ret;exact⟨rfl,(by first|exact t|exact t.drew)⟩
 .have q:¬b=-1:=J
  have Z:(b == -1)=false:=by simpa using q
  rcases hs with rfl|⟨_,a1,K⟩
  .have p:=zh (show iR L P b (-1)=P.1.banks.getD b.toNat 0 by unfold iR;rw[if_neg q,if_pos rfl]);rw[p.o];let⟨u,v,e,hc⟩:=j.2.2.2.1 J;have Y:=hc b.toNat J;rw[e]at V;clear j f e hc p;generalize P.1.banks.getD b.toNat 0=x at *;generalize P.1.banks.length=y at *;generalize xs.length=n at *;generalize L.slots.length=l at *
   delta qC;go_in
   go_wp2_with (rw[<-H.o])
   go_region_held3 (λM=>qn M w 0=qk (qe g R) n a/\qg M w 0=qj m/\qg M w 1=qj b/\qN M g (R+m.toNat*4+1)=qk (qe u v) y P.2.2/\qN M u (v+b.toNat)=qj x) (go_keep) (fail)
   go_wp2;go_ret;exact⟨rfl,(by first|exact t|exact t.drew)⟩
  .have A:¬s=-1:=J
   have a3:(s == -1)=false:=by simpa using A
   have p:=zh (show iR L P b s=L.slots.getD s.toNat 0 by unfold iR;rw[if_neg q,if_neg A]);rw[p.o];let⟨u,v,e,hc⟩:=f.2.2.2.1 J;have Y:=hc s.toNat J;rw[e]at S;clear j f e hc p;generalize L.slots.getD s.toNat 0=x at *;generalize P.1.banks.length=y at *;generalize xs.length=n at *;generalize L.slots.length=l at *
   delta qC;go_in
   go_wp2_with (rw[<-H.o])
   go_ret;exact⟨rfl,(by first|exact t|exact t.drew)⟩
def lV (L d k xs a2 c2 i F G m b M s w)(h:LyT w L d k xs a2 c2 i F G)
 (a6:0<=m) (a3:m<(xs.length:Int)) (V:b=-1\/(0<=b/\b<((xs.getD m.toNat zPB).1.banks.length:Int))) (hs:s=-1\/(b≠-1/\0<=s/\s<(L.slots.length:Int))):
 qC 123 #[.agg$ qJ L d xs k a2 c2 i G F,.agg$ qT m b M,qI s] w (qB w$ qI$ iR L (xs.getD m.toNat zPB) b s):=by
 let⟨W,a⟩:=aN$ (w.alloc$ .cells (qJ L d xs k a2 c2 i G F) 65).alloc$ .cells (qT m b M) 121;have E:qY w W:=by rw[a];exact bal.alloc Jb _
 have f:=zh E;have D:=h.bw E;have H:Blk W w.heap.size (qJ L d xs k a2 c2 i G F) 65:=by rw[a];exact(Blk.new w _ _).alloc _
 have I:Blk W (w.heap.size+1) (qT m b M) 121:=by rw[a];have:=Blk.new (w.alloc$ .cells (qJ L d xs k a2 c2 i G F) 65) (qT m b M) 121;simpa using this
 have hz:W.heap.size=w.heap.size+1+1:=by rw[a];simp
 clear hz;have d0:=H.e0;have R:=H.e2;have t0:=I.e0;obtain⟨g,a0,rfl,q0,N,q2,q3⟩:=D.p.at m.toNat J;have q:=D.p.2.2.2.1 m.toNat J;have p:=D.s;have a4:=D.p.2.1;have a7:=p.2.1;have ac:=q.2.1;unfold svP at N;generalize xs.getD m.toNat zPB=P at *;have X:=H.alloc$ .cells #[qI P.1.text,qS P.2.1 P.1.banks.length P.2.2,qI P.1.data,qI P.1.size] 170;have S:=I.alloc$ .cells #[qI P.1.text,qS P.2.1 P.1.banks.length P.2.2,qI P.1.data,qI P.1.size] 170;have Q:=Blk.new W #[qI P.1.text,qS P.2.1 P.1.banks.length P.2.2,qI P.1.data,qI P.1.size] 170;have v2:=X.e2;have v1:=S.e1;have u0:=Q.e0;have Z:=Q.e1;have t:Zh (qY W$ qm W #[qI P.1.text,qS P.2.1 P.1.banks.length P.2.2,qI P.1.data,qI P.1.size] 170):=bal;have j:Zh (qY w$ qm W #[qI P.1.text,qS P.2.1 P.1.banks.length P.2.2,qI P.1.data,qI P.1.size] 170):=E.alloc E.size _;have O:=zh a;clear a E H I D h X S Q;rcases V with rfl|⟨Y,ab⟩
 .obtain rfl:s=-1:=by rcases hs with h|h;exact h;exact absurd rfl h.1
  have A:Zh (iR L P (-1) (-1)=P.1.text):=rfl;rw[A.o];clear hs q p;generalize P.1.text=x at *;generalize xs.length=n at *;generalize L.slots.length=l at *
  delta qC;go_in
  go_wp2_with (rw[<-O.o])
  all_goals go_ret
  all_goals exact⟨rfl,(by first|exact j|exact j.drew|exact f|exact(f.alloc f.size _)|exact((f.alloc f.size _).setCells J _))⟩
 .have B:¬b=-1:=J
  have a8:(b == -1)=false:=by simpa using B
  rcases hs with rfl|⟨_,a9,a1⟩
  .have A:=zh (show iR L P b (-1)=P.1.banks.getD b.toNat 0 by unfold iR;rw[if_neg B,if_pos rfl]);rw[A.o];let⟨u,v,e,hc⟩:=q.2.2.2.1 J;have K:=hc b.toNat J;have U:=aB t K;rw[e]at N;rw[e]at Z u0 v1 v2 U j;clear t;clear q p e hc A;generalize P.1.banks.getD b.toNat 0=x at *;generalize P.1.banks.length=y at *;generalize xs.length=n at *;generalize L.slots.length=l at *
   delta qC;go_in
   go_wp2_with (rw[<-O.o])
   all_goals go_ret
   all_goals exact⟨rfl,(by first|exact j|exact j.drew|exact f|exact(f.alloc f.size _)|exact((f.alloc f.size _).setCells J _))⟩
  .have C:¬s=-1:=J
   have aa:(s == -1)=false:=by simpa using C
   have A:=zh (show iR L P b s=L.slots.getD s.toNat 0 by unfold iR;rw[if_neg B,if_neg C]);rw[A.o];let⟨u,v,e,hc⟩:=p.2.2.2.1 J;have K:=hc s.toNat J;have U:=aB t K;rw[e]at R v2;clear t;clear q p e hc A;generalize L.slots.getD s.toNat 0=x at *;generalize P.1.banks.length=y at *;generalize xs.length=n at *;generalize L.slots.length=l at *
   delta qC;go_in
   go_wp2_with (rw[<-O.o])
   all_goals go_ret
   all_goals exact⟨rfl,(by first|exact j|exact j.drew|exact f|exact(f.alloc f.size _)|exact((f.alloc f.size _).setCells J _))⟩
def pcq (ps:List PMod)(m b:Int):Int:=
 if 0<=m/\m<(ps.length:Int) then (if b=-1 then ((ps.getD m.toNat zP).tz.length:Int) else if 0<=b/\b<((ps.getD m.toNat zP).bl.length:Int) then (((ps.getD m.toNat zP).bl.getD b.toNat []).length:Int) else -1) else -1
def fG {w:qw}(h:MSD w a n cap ms)(m b):pcm ms m b=pcq (aF ms) m b:=by
 have g:=h.s.1;unfold pcm pcq;rw[cK];by_cases c:0<=m/\m<(ms.length:Int)
 .rw[if_pos c,if_pos c,dB];have hd:=h.d m.toNat J;generalize ms.getD m.toNat aL=M at *;have j:M.tn=M.pm.tz.length:=hd.t.1.symm;have e:M.bn=M.pm.bl.length:=by simp[Md.pm,hd.b.1]
  unfold pcn;rw[j,e];by_cases d:b=-1
  .grind
  .rw[if_neg d,if_neg d];by_cases c2:0<=b/\b<(M.pm.bl.length:Int)
   .rw[if_pos c2,if_pos c2];have f:=(hd.b.2.2.2.1 b.toNat J).1;rw[<-f];congr 1;have:b.toNat<M.bl.length:=by rw[hd.b.1,e];omega
    simp[Md.pm,xB,this]
   .grind
 .grind
def fH (L:Lay)(p:Pl)(b s:Int):Int:=if b=-1 then p.text else if s=-1 then p.banks.getD b.toNat 0 else L.slots.getD s.toNat 0
def aDk (L P b s):iR L P b s=fH L P.1 b s:=rfl
abbrev sOk (L:Lay)(b s:Int):Prop:=if b=-1\/L.slots=[] then s=-1 else 0<=s/\s<(L.slots.length:Int)
def sOk.fit (h:sOk L b s):s=-1\/(b≠-1/\0<=s/\s<(L.slots.length:Int)):=by grind
structure Pkn (ps:List PMod)(L:Lay)(xs:List PB)(m b s:Int):Prop where
 m0:0<=m
 m1:m<(xs.length:Int)
 m2:m<(ps.length:Int)
 p:(xs.getD m.toNat zPB).1=plc ps m.toNat
 bb:b=-1\/(0<=b/\b<((xs.getD m.toNat zPB).1.banks.length:Int))
 w:0<=pcq ps m b/\pcq ps m b<=200
 d:65536<=(plc ps m.toNat).data/\(plc ps m.toNat).data<=100000/\0<=(plc ps m.toNat).size/\(plc ps m.toNat).size<=100000
 t:65536<=L.stack/\L.stack<=100000
 e:65536<=cW L/\cW L<=100000
def aRx (h:Lok ps L):65536<=cW L/\cW L<=100000:=by
 have K:=mX h;obtain⟨b,a⟩:=h;have e:lay ps (L.slots.length:Int) (cfW L) (cfK L)=L:=by unfold lkL at a;rw[if_pos b]at a;exact a
 let⟨hc,i,k,d,hi⟩:=iK b;unfold cfo at hc;simp at hc;have g:=bL d ps.length aO;have j:=K.rr;unfold cW;by_cases c:L.slots=[]
 .rw[if_pos c];have:wrap64 (65536+L.ram)=65536+L.ram:=by unfold wrap64;omega
  grind
 .rw[if_neg c];have f:0<L.slots.length:=List.length_pos_iff.2 c
  have e3:L.slots.getD 0 0=slt ps (cfW L) (cfK L) 0:=by
   have:=congrArg Lay.slots e
   have e4:L.slots=(List.range (L.slots.length:Int).toNat).map (slt ps (cfW L)$ cfK L):=by
    conv=>lhs;rw[<-this]
    rfl
   grind
  rw[e3];unfold slt
  grind
def pA {w:qw}{A:qO}{B:Nat}{xs:List PB}{a2:qO}{c2:Nat}{u:qO}{y:Nat}{t:List TB}
 (q:LyT w L A B xs a2 c2 u y t) (p:Lok ps L) (e:0<=pcq ps m b):Pkn ps L xs m b s:=by
 have K:=mX p
 have j:0<=m/\m<(ps.length:Int):=by
  unfold pcq at e
  grind
 have:xs.length=ps.length:=by
  have:=congrArg List.length$ q.ps.trans K.pl
  grind
 have f:(xs.getD m.toNat zPB).1=plc ps m.toNat:=by
  rw[<-K.place m.toNat J,<-q.ps]
  grind
 have l:=K.v m.toNat J;let⟨_,_,v3,v4,_,_,_,a⟩:=cR l;have:=bL K.v m.toNat J;have:=bL K.v ps.length aO;have:=iL l;have:=K.n.2;refine⟨j.1,by grind,j.2,f,?_,⟨e,?_⟩,?_,?_,aRx p⟩
 .rw[f];unfold pcq at e;rw[if_pos j]at e;by_cases c:b=-1
  .grind
  .rw[if_neg c]at e;right;split at e
   .rename_i c2;simpa[plc]using c2
   .grind
 .unfold pcq
  grind
 .have:(plc ps m.toNat).data=65536+Ra ps m.toNat:=rfl;have:(plc ps m.toNat).size=dsz (ps.getD m.toNat zP):=rfl
  grind
 .rw[K.st]
  grind
def Yn (P:Prop)(w:qw)(e:Ending)(w':qw):Prop:=∃r:Bool,e=.returned (.bool r)/\(r=true ↔ P)/\qY w w'
def uB {w w':qw}(h:P)(e:qY w w'):Yn P w (.returned$ .bool true) w':=⟨true,rfl,by simp[h],e⟩
def dN {w w':qw}(h:¬P)(e:qY w w'):Yn P w (.returned$ .bool false) w':=⟨false,rfl,by simp[h],e⟩
def aU3 {Q:Prop}[Decidable Q]{w w':qw}(h:Q ↔ P)(e:qY w w'):Yn P w (.returned$ .bool$ decide Q) w':=⟨_,rfl,by simp[h],e⟩
def mS {w:qw}(h:MSD w a n cap ms)(e:0<=pcq (aF ms) m b):(0<=m/\m<(n:Int))/\pcn (ms.getD m.toNat aL).tn (ms.getD m.toNat aL).bn (ms.getD m.toNat aL).bl b=pcq (aF ms) m b:=by
 have:=h.s.1;rw[<-fG h]at e⊢;unfold pcm at e⊢
 grind
def aLu {w:qw}(h:MSD w a n cap ms)(y:0<=pcq (aF ms) m b)(A:ms.getD m.toNat aL=M)(X)(q:qY w X):qC 195 #[.agg$ qM M.nm M.ta M.tn M.tc M.ba M.bn M.bc M.da M.dn M.dc M.bss M.ra M.rn M.rc M.ia M.im M.ic M.ea M.en M.ec,qI b] X (λe d=>∃p j l,e=.returned (.tuple #[qS p j l,.bool true])/\(j:Int)=pcq (aF ms) m b/\qY w d):=by
 let⟨⟨i,k⟩,g⟩:=mS h y;have f:=h.s.2.2.2.1 m.toNat J;rw[A]at f g;refine(jQ M.nm M.ta M.tn M.tc M.ba M.bn M.bc M.bl (qS M.da M.dn M.dc) (qS M.ra M.rn M.rc) (qS M.ia M.im M.ic) (qS M.ea M.en M.ec) M.bss b X f.t.2.1$ f.b.bw q).mono λe d⟨p,j,l,t,C,D,hx,_,u⟩=>?_;have:t=true:=by grind
 exact⟨p,j,l,by grind,by grind,yT q u⟩
def sS {w:qw}(h:MSD w a n cap ms)(y:0<=pcq (aF ms) m b)(A:ms.getD m.toNat aL=M)(X)(q:qY w X):qC 118 #[.agg$ qM M.nm M.ta M.tn M.tc M.ba M.bn M.bc M.da M.dn M.dc M.bss M.ra M.rn M.rc M.ia M.im M.ic M.ea M.en M.ec,qI b] X (λe d=>∃p j l,e=.returned (.tuple #[qS p j l,.bool true])/\(j:Int)=pcq (aF ms) m b/\qY w d):=by
 let⟨⟨i,k⟩,g⟩:=mS h y;have f:=h.s.2.2.2.1 m.toNat J;rw[A]at f g;refine(jT M.nm M.ta M.tn M.tc M.ba M.bn M.bc M.bl (qS M.da M.dn M.dc) (qS M.ra M.rn M.rc) (qS M.ia M.im M.ic) (qS M.ea M.en M.ec) M.bss b X f.t.2.1$ f.b.bw q).mono λe d⟨p,j,l,t,C,D,hx,_,u⟩=>?_;have:t=true:=by grind
 exact⟨p,j,l,by grind,by grind,yT q u⟩
def aTq {n1 n2 n3 k:Nat}{x1 x2 x3:qi}{p v:Int}(f:mok n1 n2 n3=true)(e:p-65536=(k:Int))(j:k+4<=n2)(ha:p%4=0):wrm n1 n2 n3 x1 x2 x3 p 4 v=(x1,put x2 k v 4,x3,0):=by
 have:=uE f;unfold wrm;rw[if_pos ⟨f,wd4⟩,if_neg (by grind),if_neg J,if_neg (by unfold ins;simp;omega),if_pos (by unfold ins;simp;omega),e];rfl
def upN (n:Nat):List Int:=(List.range n).map (λi:Nat=>(i:Int))
def nJ (n):(upN n).length=n:=by simp[upN]
def aTs (n k)(h:k<n):(upN n).getD k 0=(k:Int):=by simp[upN,xB,h]
def aAk (L d x)(xs:List PB)(a2 c2 s F)(u:List TB)(b l w)(V:¬b=-1)(Z:¬l=0)(R:l<=1048576):
 qC 182 #[.agg$ qL L d xs.length x a2 l c2 s u.length F,qI b] w λe w'=>∃g,e=.returned (qS (qP g) l l)/\RowI w' g (upN l)/\qY w w':=by
 let⟨P,hi,G,M,N⟩:=info_parts nC;have U:((l:Int)==0)=false:=by simpa using Z
 let⟨W,a⟩:=aN$ w.alloc$ .cells (qL L d xs.length x a2 l c2 s u.length F) 65;have B:=zh (show qY w W by rw[a];exact bal);have I:Blk W w.heap.size (qL L d xs.length x a2 l c2 s u.length F) 65:=by rw[a];exact Blk.new w _ _
 have O:=I.e2;have Y:=zh a;clear a I;generalize xs.length=n at *;generalize u.length=k at *
 delta qC;go_in
 go_wp2_with (first|rw[<-Y.o]|(at_make;refine wpList_make_full _ rfl _ _ 25 rfl W.heap.size 3 P (qI 0) 1 Tryz.underlying25 hi G M .i64 .i64 _ _ l rfl rfl rfl rfl (by rw[N];omega) Jf aO ?_;intro w1 f t))
 have p:=lM f;have j:=bI t;clear f t hi G M N O;go_loopw [6,22] (λ_ i wr=>∃k:Nat,k<=l/\i=qI k/\RowI wr W.heap.size (aP (upN l) k)/\qY W wr) (λ_ i _=>l-(intOf i).toNat)
 .exact⟨0,xC _,rfl,by rw[lB,nJ];exact p,j⟩
 .obtain⟨k,hk,rfl,q,y⟩:=hrel;clear p j;by_cases C:k<l
  .have H:(k:Int)<(l:Int):=J
   have Q:qn wr W k=qj ((aP (upN l) k).getD k 0):=q.cell k (by rw[qF,nJ];omega);have S:wr.frozen? (qh W k)=false:=q.frozen k;have A:=q.set k$ (upN l).getD k 0;rw[qE (upN l) k (by rw[nJ];omega),aTs l k C]at A;have D:qY W (wr.setCell (qh W k)$ qI (k:Int)):=y.setCell aO _;have K:=zh A;have X:=zh D;generalize (aP (upN l) k).getD k 0=z0 at *;clear q y A D;go_wp2
   go_roundw
   .exact⟨k+1,J,by go_num,K,X⟩
   .simp[intOf];omega
  .have e:Zh (k=l):=by show k=l;omega
   have E:=zh$ xA q y;clear q y;go_wp2;go_ret;refine⟨_,rfl,?_,yT B E.2⟩;have:=E.1;have e2:aP (upN l) l=upN l:=by have:=qG$ upN l;rwa[nJ]at this
   rw[e.o,e2]at this;exact this
