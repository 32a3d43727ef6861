import Derived.Test.YtdjdcdnjjmjonaaGreatR10
set_option linter.all false
set_option maxHeartbeats 40000000
namespace Go.Proofs.YtdjdcdnjjmjonaaGreat
open Go.RowKit
open Go.Proofs.Tryz
set_option maxRecDepth 100000
variable {c d k s:Int}
def aM7 (a n an ms s c k d w)(h:MSD w a n an ms)(hn:n<=4)(ax:cfo s c k d=true)(hv:iQ (aI ms))(hi:oJ (aI ms)):
 qC 112 #[qS a n an,.agg$ qW s c k d] w λe w'=>qY w w'/\∃D c0 xs a2 c2 p c5 ts,e=.returned (.agg$ rJ (lay (aI ms) s c k) D c0 xs a2 c2 p c5 ts)/\LayO w' w.heap.size (lay (aI ms) s c k) D c0 xs a2 c2 p c5 ts:=by
 let⟨N1,N2⟩:=aSy w s c k d$ aI ms;have b0:(aI ms).length=n:=by rw[cF,h.s.1]
 have HH:=zh h;have HI:=zh hi;have b2:=zh hv;let⟨d7,bk,d2,d3,d4,d5,d6,_⟩:=of_decide_eq_true ax;have HN:=zh$ xA N1$ show Lr3 w _ _ _ _ _ _ _ from⟨N2.P,N2.S,N2.T,λ_ _ _ h=>by cases h⟩;have FF:=zh$ fP hv;have RR:=zh$ cN hv;clear h N1 N2 hi ax hv
 delta qC;go_in
 go_wp2;go_loopw [6,7] (λx i wr=>∃(m:Nat) (D:qO) (c0:Nat) (xs:List PB) (p:qO) (c5:Nat) (ts:List TB),m<=n/\i=qI m/\x=qI (Ra (aI ms) m)/\Lst w wr s c k d #[qS D m c0,qI 0,qS (qP$ w.heap.size+3) 0 0,qI$ Fl (aI ms) m,qI 0,qS p m c5]/\Lr3 w wr (qS D m c0) (qS (qP$ w.heap.size+3) 0 0) (qS p m c5) xs [] ts/\xs.map (λx=>x.1)=(List.range m).map (plc$ aI ms)/\ts.map (λx=>x.1)=(List.range m).map λi=>tgs (aI ms)$ (aI ms).getD i zP) (λ_ i _=>n-(intOf i).toNat)
 .exact⟨0,_,_,[],_,_,[],xC _,rfl,rfl,HN.1,HN.2,rfl,rfl⟩
 clear HN;obtain⟨m,D,c0,xs,p,c5,ts,hm,rfl,rfl,S,R,px,tx⟩:=hrel;generalize wr=G at *;have pl:xs.length=m:=by simpa using congrArg List.length px
 have tl:ts.length=m:=by simpa using congrArg List.length tx
 have rF:=FF.o m J;have rR:=RR.o m J;have hz:=S.sz;have K:=zh$ xA R$ xA pl$ xA tl$ xA px tx;clear R px tx pl tl;by_cases aj:m<n
 .have b8:(m:Int)<(n:Int):=J
  have H:=HH.o.bw S.be;obtain⟨b,off,rfl,q0,q1,q2,q3,q4,q5,q6,q7⟩:=H.s.at m aj;have A:=mdA HH.o b2.o aj;have b5:=zh λ(W:qw)(hb:qY w W)=>(HH.o.bw hb).d m aj;generalize (aI ms).getD m zP=P at *;have rT:=iL A.v;have rD:=iN A.v;let⟨_,_,vt,vb,vd,d9,da,bz⟩:=cJ A.v;have bj:=zh$ cT A.v;have b9:=zh (show aAy (aI ms) P by have:=HI.o m J;rwa[<-A.e]at this);generalize ms.getD m aM=M at *;rw[A.t]at q1;rw[A.b]at q2;rw[A.d]at q3;rw[A.s]at q4;have I:=zh A;have kM:=Blk.new G (mqP M P) 128;have S1:=S.bw$ bal (o:=.cells (mqP M P) 128);have p3:=S1.k5.e3;have gg:=kM.eight;let⟨F0,hF⟩:=aO$ Fl (aI ms) m;let⟨R0,hR⟩:=aO$ Ra (aI ms) m;let⟨T0,hT⟩:=aO$ tsz P;let⟨Z,hZ⟩:=aO$ dsz P;rw[<-hF]at rF p3 S1;rw[<-hR]at rR;rw[<-hT]at rT;rw[<-hZ]at rD;have HD:=zh (show ∀W,qC 124 #[qI$ P.dz.length+P.bss] W λe w'=>e=.returned (qI Z)/\w'=W by rw[hZ];exact λW=>fC _ _);have HT:=zh (show ∀W,qC 124 #[qI$ 4*(P.tz.length:Int)] W λe w'=>e=.returned (qI T0)/\w'=W by rw[hT];exact λW=>fC _ _);have a7:=zh$ xA S1$ xA kM$ aG (S:=Lg w)$ bal (w:=G) (o:=.cells (mqP M P) 128);have Q:=zh$ xA hF$ xA hR$ xA hT hZ;rw[<-hR];have bm:=zh S;clear H A S1 kM S hF hR hT hZ;have cu:IntKind.i64.wrap ((P.dz.length:Int)+P.bss)=(P.dz.length:Int)+P.bss:=bM _ J J;have ba:IntKind.i64.wrap (65536+R0)=65536+R0:=bM _ J J;go_wp2_with fail
  have hV:(G.alloc$ .cells (mqP M P) 128).heap.size=G.heap.size+1:=Jb
  generalize G.alloc (.cells (mqP M P) 128)=V at *;have HL:=zh$ aSw (a:=F0) (b:=65536+R0) (e:=Z) a7.o.1 a7.o.2.1 a7.o.2.2 hz hV;clear q0 q1 q2 q3 q4 q5 q6 q7 a7 hV;apply aXg (F:=λgp gr W=>Lin w G W s c k d #[qS D m c0,qI 0,qS (qP$ w.heap.size+3) 0 0,qI F0,qI 0,qS p m c5] (mqP M P) F0 (65536+R0) Z gp (qS (qP gr) 0 0) (qS (qP gr) 0 0) [])
  .intro f;have f:=zh f;have ag:=zh HL.o.1;have be:=zh HL.o.2
   go_region_held3 (λw'=>qN w' (w.heap.size+5) 3=qj F0/\qn w' G 3=qk M.da P.dz.length M.dc/\qn w' G 4=qj P.bss) (go_keep) (first
    | (go_at_call 124;refine(HD.o _).mono ?_;rintro e wz ⟨rfl,rfl⟩))
   .have a8:=ag;clear ag;generalize ((qm (qm V #[] 3) #[qI F0,qS (qp V) 0 0,qI$ 65536+R0,qI Z] 170).drew)=W' at a8⊢;generalize V.heap.size+1=gp at a8⊢;generalize V.heap.size=gr at a8⊢;exact f.o gp gr W' a8.o
   all_goals first|exact f.o _ _ _ ag.o|exact f.o _ _ _ be.o
  clear HL p3 gg;rintro gp gr W' L;show Exit.then _ _ _ _ _
  have p3:=L.S.k5.e3;have f3:=L.S.k5.frozen 3;have g1:=L.M.e1;have bh:IntKind.i64.wrap (4*(P.tz.length:Int))=4*(P.tz.length:Int):=bM _ J J;have cj:IntKind.i64.wrap (F0+T0)=F0+T0:=bM _ J J;have C:=zh (show Lin w G ((W'.setCell (qR (w.heap.size+5) 3)$ qI$ F0+T0).drew) s c k d #[qS D m c0,qI 0,qS (qP$ w.heap.size+3) 0 0,qI$ F0+T0+cS P 0,qI 0,qS p m c5] (mqP M P) F0 (65536+R0) Z gp (qS (qP gr) 0 0) (qS (qP gr) 0 0) (bks (aI ms) m 0)by rw[show F0+T0+cS P 0=F0+T0 by simp[cS]];exact(L.s5 3$ qI$ F0+T0).bw brf.drew);clear L;go_wp2;apply aXh
  .intro f;have f:=zh f
   go_region_law (first
    | (go_simp;go_at_call 124;refine(HT.o _).mono ?_;rintro e wz ⟨rfl,rfl⟩))
   all_goals exact f.o
  clear p3 f3 g1;go_wp2;go_loopw [10] (λi wx=>∃(q:Nat) (ar:qO) (cr:Nat),q<=P.bl.length/\i=qI q/\Lin w G wx s c k d #[qS D m c0,qI 0,qS (qP$ w.heap.size+3) 0 0,qI$ F0+T0+cS P q,qI 0,qS p m c5] (mqP M P) F0 (65536+R0) Z gp (qS ar q cr) (qS ar q cr) (bks (aI ms) m q)) (qf P.bl.length)
  .exact⟨0,qP gr,0,xC _,rfl,C⟩
  clear C;obtain⟨q,ar,cr,hq,rfl,L⟩:=hrel;have g2:=L.M.e2;have cg:=L.T.size;by_cases U:q<P.bl.length
  .have E:(q:Int)<(P.bl.length:Int):=J
   let⟨FQ,aa⟩:=aO$ F0+T0+cS P q;rw[<-aa]at L;have rq:=bj.o q J;have cc:0<=FQ/\FQ<=20000:=J
   have p3:=L.S.k5.e3;have p1:=L.p.e1;have ai:=zh (show bks (aI ms) m (q+1)=bks (aI ms) m q++[FQ] by rw[aQ3,<-I.o.e,aa,Q.o.1,Q.o.2.2.1]);have C:=zh$ L.bw$ bal (o:=.cells #[qI FQ] 3);have bc:=zh aa;have cw:=L.y;clear L aa;go_wp2_with (at_builtin;refine ap1 tI FQ C.o.O Jc (by rw[aFf];omega) (cA wr _ _ (clI FQ) rfl) ?_;intro v' w4 o4 g;rw[<-ai.o]at o4;have L4:=C.o.gr o4 g;obtain⟨a4,a6,rfl⟩:=aZ o4;rw[aFf]at *;have c1:qN w4 gp 1=qk ar q cr:=L4.p.cell 1;have f1:=L4.p.frozen 1;have H4:=zh L4;clear L4 g o4 C p1 p3 g2)
   have L:=H4.o.st$ qS a4 (q+1) a6;let⟨_,_,b7,_,_⟩:=(b5.o _ L.S.be).b;let⟨c3,d8,b6,hc⟩:=b7 (by rw[I.o.b];omega);have cb:=hc q (by rw[I.o.b];omega);rw[I.o.k q U]at cb;have g2:=L.M.e2;rw[b6]at g2;have p3:=L.S.k5.e3;have f3:=L.S.k5.frozen 3;have bn:=bz q U;let⟨LQ,ao⟩:=aO$ (P.bl.getD q []).length;rw[<-ao]at cb bn;have rL:=aX (x:=4*(LQ:Int)) J;have bh:IntKind.i64.wrap (4*(LQ:Int))=4*(LQ:Int):=bM _ J J;have bo:IntKind.i64.wrap (FQ+rnd (4*(LQ:Int)))=(FQ+rnd (4*(LQ:Int))):=bM _ J J;generalize M.bl.getD q zB=bq at cb;obtain⟨cl,co,cq,cs⟩:=bq;dsimp only at cb
   have H6:=zh (show Lin w G (((w4.setCell (qR gp 1)$ qS a4 (q+1) a6).setCell (qR (w.heap.size+5) 3)$ qI$ FQ+rnd (4*(LQ:Int))).drew) s c k d #[qS D m c0,qI 0,qS (qP$ w.heap.size+3) 0 0,qI$ F0+T0+cS P (q+1),qI 0,qS p m c5] (mqP M P) F0 (65536+R0) Z gp (qS a4 (q+1) a6) (qS a4 (q+1) a6) (bks (aI ms) m$ q+1)by
    rw[show F0+T0+cS P (q+1)=FQ+rnd (4*(LQ:Int))by rw[bc.o,ao,cS];omega]
    exact(L.s5 3 _).bw brf.drew)
   clear L b7 b6 hc ao H4 c1 f1;apply aXh
   .intro r;have f:=zh r;clear r
    go_region_law (first
     | (go_simp;go_at_call 124;refine(fC _ _ J J).mono ?_;rintro e wz ⟨rfl,rfl⟩))
    all_goals exact f.o
   clear p3 f3 g2 cb;go_wp2
   go_roundw
   .exact⟨q+1,a4,a6,J,by go_num,H6⟩
   .simp[qf,intOf];omega
  have E:¬(q:Int)<(P.bl.length:Int):=J
  have af:q=P.bl.length:=J
  have eF:F0+T0+cS P q=Fl (aI ms) (m+1):=by
   rw[Fl,<-I.o.e,af,Q.o.1,Q.o.2.2.1,msz];omega
  rw[eF]at L;have d1:=FF.o (m+1) J;have ct:=RR.o (m+1) J;have c7:IntKind.i64.wrap (R0+Z)=Ra (aI ms) (m+1):=by rw[show R0+Z=Ra (aI ms) (m+1)by rw[Ra,<-I.o.e,Q.o.2.1,Q.o.2.2.2]];exact bM _ J J
  let⟨x,hx⟩:=aO ((⟨F0,bks (aI ms) m q,65536+R0,Z⟩,ar,cr):PB);have a9:=zh (show x.1=plc (aI ms) m by rw[hx,plc,bks,<-I.o.e,af,Q.o.1,Q.o.2.1,Q.o.2.2.2]);have HX:=zh (show clP x=[qI F0,qS ar q cr,qI$ 65536+R0,qI Z]/\svP x=qS ar q cr/\ctP x=bks (aI ms) m q by rw[hx];simp[clP,svP,ctP,aFf]);have rr:=L.p.z4;have p0:=L.S.k5.e0;have ah:=zh (show ∀A∈xs,∀j,(svP A).ownBlock=some j->j<G.heap.size+1 from λA hA j l=>jK$ (K.o.1.P.lt.2 A hA j l).2);have al:qY wr (qm wr #[qI F0,qS ar q cr,qI$ 65536+R0,qI Z] 170):=bal;have C:=zh$ xA (L.bw al)$ ((K.o.1.kp bm.o.k5 L.T).bw al);clear L al eF af hx;go_wp2_with (at_builtin;refine ap1 tP x C.o.2.P.head Jc (by rw[K.o.2.1];omega) (by rw[HX.o.1];exact cA wr _ _ [qI F0,qS ar q cr,qI$ 65536+R0,qI Z] rfl) ?_;intro v' w4 o4 g;obtain⟨L,R⟩:=C.o;have P4:=R.P.psh (by rw[HX.o.2.1,HX.o.2.2];exact L.O) J ah.o o4 g;have R4:Lr3 w w4 v' (qS (qP$ w.heap.size+3) 0 0) (qS p m c5) (xs++[x]) [] ts:=⟨P4,R.S.gr g R.P.head,R.T.gr g R.P.head,λj l y hy e=>by have h1:=P4.lt.2 y hy j e;simp[Value.ownBlock]at l;omega⟩;have N:=L.S.grown g (λj l=>⟨(R.P.head.lt j l).1,λe=>by subst e;exact dJ R.P.head l L.S.k5 Ja⟩);have b4:=L.M.gr g R.P.head;obtain⟨a1,a5,rfl⟩:=aZ o4;rw[show(xs++[x]).length=m+1 by rw[xI,K.o.2.1];rfl]at *;have yy:=b4.eight;have ck:¬G.heap.size=w.heap.size+1+1+1+1+1:=J;have cy:¬w.heap.size+1+1+1+1+1=G.heap.size:=J;have p4:qN w4 (w.heap.size+5) 0=qk D m c0:=N.k5.cell 0;have f4:=N.k5.frozen 0;have H4:=zh$ xA (N.set 0$ qS a1 (m+1) a5)$ R4.kp N.k5$ aD w4 (w.heap.size+5) 0$ qS a1 (m+1) a5;clear L R P4 R4 N b4 o4 g C p0 rr)
  let⟨S6,R6⟩:=H4.o;generalize w4.setCell (qR (w.heap.size+1+1+1+1+1) 0) (qS a1 (m+1) a5)=W6 at *;have ad:=zh (oT (qe b off) n an ms M W6 (HH.o.bw S6.be) b2.o hn (b5.o _ S6.be) (by rw[<-I.o.p];exact I.o.v));rw[I.o.t,I.o.d,I.o.s,I.o.b,<-I.o.p]at ad;have cx:=S6.sz;have bb:=zh (show ∀A∈ts,∀j,(svT A).ownBlock=some j->j<W6.heap.size from λA hA j l=>(R6.T.lt.2 A hA j l).2);have H6:=zh$ xA S6 R6;clear S6 R6 H4 p4 f4;apply ad.o.mono;rintro e w7 ⟨a3,H7⟩;rcases H7 with⟨bf,_⟩|⟨_,X,Y,rfl,O7⟩
  .exact absurd b9.o bf
  have c9:=a3.size;have p5:=(H6.o.1.bw a3).k5.e5;let⟨y,hy⟩:=aO ((tgs (aI ms) P,X,Y):TB);have HY:=zh (show aJ9 y=[qS X (tgs (aI ms) P).length Y]/\svT y=qS X (tgs (aI ms) P).length Y/\ctT y=tgs (aI ms) P/\y.1=tgs (aI ms) P by rw[hy];exact⟨rfl,rfl,rfl,rfl⟩);have al:qY w7 (qm w7 #[qS X (tgs (aI ms) P).length Y] 164):=bal;have C:=zh$ xA (H6.o.1.bw$ yT a3 al)$ xA (H6.o.2.bw$ yT a3 al)$ O7.bw al;clear a3 O7 al hy H6 ad yy;go_wp2_with (at_builtin;refine ap1 tT y C.o.2.1.T.head Jc (by rw[K.o.2.2.1];omega) (by rw[HY.o.1];exact cA w7 _ _ [qS X (tgs (aI ms) P).length Y] rfl) ?_;intro v' w8 o8 g;obtain⟨S,R,O⟩:=C.o;have T8:=R.T.psh (by rw[HY.o.2.1,HY.o.2.2.1];exact O) J bb.o o8 g;have R8:Lr3 w w8 (qS a1 (m+1) a5) (qS (qP$ w.heap.size+3) 0 0) v' (xs++[x]) [] (ts++[y]):=⟨R.P.gr g R.T.head,R.S.gr g R.T.head,T8,R.sp⟩;have S8:=S.grown g (λj l=>⟨(R.T.head.lt j l).1,λe=>by subst e;exact dJ R.T.head l S.k5 Ja⟩);obtain⟨ab,am,rfl⟩:=aZ o8;rw[show(ts++[y]).length=m+1 by rw[xI,K.o.2.2.1];rfl]at *;have p8:qN w8 (w.heap.size+5) 5=qk p m c5:=S8.k5.cell 5;have f8:=S8.k5.frozen 5;have H8:=zh$ xA (S8.set 5$ qS ab (m+1) am)$ R8.kp S8.k5$ aD w8 (w.heap.size+5) 5$ qS ab (m+1) am;clear S R O T8 R8 S8 o8 g C p5)
  go_wp2
  go_roundw
  .exact⟨m+1,a1,a5,_,ab,am,_,J,by go_num,rfl,H8.o.1,H8.o.2,by rw[List.map_append,K.o.2.2.2.1,List.range_succ,List.map_append];simp only[List.map_cons,List.map_nil];rw[a9.o],by rw[List.map_append,K.o.2.2.2.2,List.range_succ,List.map_append];simp only[List.map_cons,List.map_nil];rw[HY.o.2.2.2,I.o.e]⟩
  .simp[qf,intOf];omega
 have b8:¬(m:Int)<(n:Int):=J
 obtain rfl:m=n:=J
 obtain⟨sn,rfl⟩:∃sn:Nat,s=(sn:Int):=⟨s.toNat,J⟩;let⟨RW,ap⟩:=aO$ rnd$ 4*c;have ch:0<=RW/\RW<=287:=jK$ aX (x:=4*c) J;have az:=zh λW=>fC (4*c) W J J;rw[<-ap]at az;have b3:=zh ap;have a9:=zh b0;let⟨R0,hR⟩:=aO$ Ra (aI ms) m;let⟨F0,hF⟩:=aO$ Fl (aI ms) m;rw[<-hR]at rR;rw[<-hF]at S;have ba:IntKind.i64.wrap (65536+R0)=65536+R0:=bM _ J J;have ca:IntKind.i64.wrap (R0+k)=R0+k:=bM _ J J;have ce:IntKind.i64.wrap (4*c)=4*c:=bM _ J J;have ae:=S.set 1$ qI$ 65536+R0;have ac:=zh$ xA ae$ K.o.1.kp S.k5$ aD G (w.heap.size+5) 1$ qI$ 65536+R0;have p1:=S.k5.e1;have f1:=S.k5.frozen 1;have y2:=ae.k0.e2;have x2:=S.k0.e2;let⟨iI,bp,br,bu,bv⟩:=info_parts rO;have Q:=zh$ xA hR hF;rw[<-hR];clear ae S ap b0 hR hF rF;go_wp2;go_loopw [6,13] (λx i wx=>∃(q:Nat) (a2:qO) (c2:Nat) (rq:Int),q<=sn/\i=qI q/\x=qI rq/\Zh (rq=R0+k+(q:Int)*RW)/\Lst w wx sn c k d #[qS D m c0,qI$ 65536+R0,qS a2 q c2,qI F0,qI 0,qS p m c5]/\Lr3 w wx (qS D m c0) (qS a2 q c2) (qS p m c5) xs ((List.range q).map$ slt (aI ms) c k) ts) (λ_ i _=>sn-(intOf i).toNat)
 .exact⟨0,_,_,_,xC _,rfl,rfl,zh Jb,ac.o.1,ac.o.2⟩
 clear ac p1 f1 y2 x2;obtain⟨q,a2,c2,rq,hq,rfl,rfl,a0,S,R⟩:=hrel
 have d0:0<=rq/\rq<=100000:=by
  have:=a0.o;have h1:(q:Int)*RW<=4*287:=Int.mul_le_mul J J J J;have h0:0<=(q:Int)*RW:=Int.mul_nonneg J J;omega
 have z0:=S.k0.e0;by_cases U:q<sn
 .have E:(q:Int)<(sn:Int):=J
  have p2:=S.k5.e2;have bo:IntKind.i64.wrap (65536+rq)=65536+rq:=bM _ J J;have c6:IntKind.i64.wrap (rq+RW)=rq+RW:=bM _ J J;have al:qY wr (qm wr #[qI$ 65536+rq] 3):=bal;have bk:=S.sz
  have ai:=zh (show(List.range$ q+1).map (slt (aI ms) c k)=(List.range q).map (slt (aI ms) c k)++[65536+rq] by
   rw[List.range_succ,List.map_append];simp only[List.map_cons,List.map_nil];congr 2;unfold slt;rw[a9.o,a0.o,b3.o,Q.o.1]
   omega)
  have ay:=zh$ show((List.range q).map$ slt (aI ms) c k).length=q from Jb;have b1:=zh (show(qm wr #[qI$ 65536+rq] 3).ownsRow (w.heap.size+2) 3 1 (qS a2 q c2) q (((List.range q).map$ slt (aI ms) c k).flatMap clI)by have:=R.S.bw al;unfold OG at this;rwa[ay.o]at this);have ah:=zh (show ∀x∈xs,∀j,(svP x).ownBlock=some j->j<wr.heap.size from λx hx j l=>(R.P.lt.2 x hx j l).2);have bi:=zh (show rq+RW=R0+k+((q+1:Nat):Int)*RW by rw[a0.o];push_cast;rw[Int.add_mul];omega);have C:=zh$ xA (S.bw al)$ R.bw al;clear S R al a0;go_wp2_with (at_builtin;refine wpList_append_lies _ rfl _ _ 25 rfl (w.heap.size+2) 3 iI (qI 0) 1 8 underlying25 bp br bu bv rfl Ja (qS a2 q c2) q (((List.range q).map$ slt (aI ms) c k).flatMap clI) rfl b1.o (qh wr 0) 1 1 (clI$ 65536+rq) rfl rfl (cA wr _ _ (clI$ 65536+rq) rfl) (by intro u hu;simp[clI]at hu;subst hu;rfl) Ja Jf J Jc (wr.heap.size+1) Jb ?_;intro g4 c4 w4 aq g aw c8;obtain⟨S,R⟩:=C.o;have R4:Lr3 w w4 (qS D m c0) (qS (qP g4) (q+1) c4) (qS p m c5) xs ((List.range$ q+1).map$ slt (aI ms) c k) ts:=⟨⟨R.P.head.gr g R.S,λx hx=>(R.P.rows x hx).kept' g λk hk e=>R.sp k e x hx hk,R.P.apart⟩,(by unfold OG;rw[ai.o,xI,ay.o,xU,xX];exact aq),R.T.gr g R.S,λj l x hx e=>by have bl:g4=j:=(by simpa[Value.ownBlock]using l);subst bl;exact aw.elim (λh1=>R.sp g4 h1 x hx e) λh1=>jK$ ah.o x hx g4 e⟩;have N:=S.grown g (λj l=>⟨(R.S.lt j l).1,λe=>by subst e;exact dJ R.S l S.k5 Ja⟩);have p4:qN w4 (w.heap.size+5) 2=qk a2 q c2:=N.k5.cell 2;have f4:=N.k5.frozen 2;have bd:qn w4 w 1=qj c:=N.k0.cell 1;have bg:(w4.setCell (qR (w.heap.size+1+1+1+1+1) 2)$ qS (qP g4) (q+1) c4).cell? (qh w 1)=qj c:=(N.set 2$ qS (qP g4) (q+1) c4).k0.cell 1;have H4:=zh$ xA (N.set 2$ qS (qP g4) (q+1) c4)$ R4.kp N.k5$ aD w4 (w.heap.size+5) 2$ qS (qP g4) (q+1) c4;clear S R R4 N aq g aw b1 C p2 z0)
  apply(az.o _).mono;rintro e wz ⟨rfl,rfl⟩;clear p4 f4 bd bg;go_wp2
  go_roundw
  .exact⟨q+1,_,_,_,J,by go_num,rfl,bi,H4.o.1,H4.o.2⟩
  .simp[qf,intOf];omega
 have E:¬(q:Int)<(sn:Int):=J
 have t:=S.set 4$ qI rq;have ak:=cU (wr.setCell (qR (w.heap.size+1+1+1+1+1) 4)$ qI rq) (w.heap.size+1) (qS D m c0) (qI$ 65536+R0) (qS a2 q c2) (qI F0) (qI rq)$ qS p m c5;have p4:=S.k5.e4;have f4:=S.k5.frozen 4;have v0:=t.k5.z6;have u0:=t.k1.z6;have n0:=t.k1.frozen
 have av:=zh (show lay (aI ms) sn c k=⟨(List.range m).map$ plc$ aI ms,65536+R0,(List.range q).map$ slt (aI ms) c k,F0,rq,(List.range m).map λi=>tgs (aI ms)$ (aI ms).getD i zP⟩by
  unfold lay
  rw[a9.o,a0.o,b3.o,xY,Q.o.1,Q.o.2,show q=sn from J])
 have au:=zh$ xA t.k1$ xA ((R.kp S.k5$ aD wr (w.heap.size+5) 4$ qI rq).kp t.k1 ak)$ aF t.be ak (λj l=>by have e':j=w.heap.size+1:=l;omega) t.be.size;clear t ak S R a0;go_wp2;refine aSz au.o.1 _ _ _ _ _ _ _ _ rfl ?_;let⟨_,R,B⟩:=au.o;refine⟨B,D,c0,xs,a2,c2,p,c5,ts,?_,?_⟩
 .unfold rJ;rw[av.o,K.o.2.1,K.o.2.2.1];simp
 .rw[av.o];exact⟨by rw[K.o.2.1];exact R.P.mono J J,K.o.2.2.2.1,by simpa using R.S.mono J,by rw[K.o.2.2.1];exact R.T.mono J J,K.o.2.2.2.2,by simpa using R.sp⟩
structure Kst (w W:qw)(s c k d:Int):Prop where
 be:qY w W
 k0:Blk W w.heap.size (qW s c k d) 37
 k1:Blk W (w.heap.size+1) zL 65
 k2:Blk W (w.heap.size+2) zL 65
def Kst.bw {w W b:qw}(h:Kst w W s c k d)(a:qY W b):Kst w b s c k d:=⟨h.be.trans$ a.mono h.be.size,h.k0.bw a,h.k1.bw a,h.k2.bw a⟩
def Kst.drew {w W:qw}(h:Kst w W s c k d):Kst w W.drew s c k d:=⟨h.be.drew,h.k0,h.k1,h.k2⟩
def aS2 (w s c k d):Kst w (((w.alloc$ .cells (qW s c k d) 37).alloc$ .cells qz 65).alloc$ .cells qz 65) s c k d:=by
 have p:=Blk.new w (qW s c k d) 37;have j:qY w (w.alloc$ .cells (qW s c k d) 37):=bal;have s0:(w.alloc$ .cells (qW s c k d) 37).heap.size=w.heap.size+1:=Jb
 generalize w.alloc (.cells (qW s c k d) 37)=b at *;have g:=Blk.new b qz 65;have l:qY b (b.alloc$ .cells qz 65):=bal;have s1:(b.alloc$ .cells qz 65).heap.size=w.heap.size+2:=by simp[s0]
 rw[s0]at g;generalize b.alloc (.cells qz 65)=e at *;have f:=Blk.new e qz 65;have i:qY e (e.alloc$ .cells qz 65):=bal;rw[s1]at f;have a:=l.trans$ i.mono J;exact⟨j.trans$ a.mono J,p.bw a,g.bw i,f⟩
def aG0 {w W:qw}(a:Blk W (w.heap.size+1) zL 65)(v0 v1 v2 v3 v4 d V)(Q:Ending->World->Prop)(tmps)(f:tmps[4]?=some (.pointer$ some$ qR (w.heap.size+1) 0))(e:tmps[5]?=some (qI V))(b:Q (.returned$ .tuple #[.agg #[v0,v1,v2,v3,v4,d],qI V]) (st6 W (w.heap.size+1) v0 v1 v2 v3 v4 d)):
 bodyPost prog f61 Q Exit.ret ⟨tmps,[]⟩ (st6 W (w.heap.size+1) v0 v1 v2 v3 v4 d):=by
 have k:=oE a v0 v1 v2 v3 v4 d;let⟨g,i,j,l,p,q⟩:=k.z6;refine bodyPost_ret_by (v:=.tuple #[.agg #[v0,v1,v2,v3,v4,d],qI V]) ?_ rfl b;simp[results,results61,go_sem,f,e,g,i,j,l,p,q]
theorem rI {w W:qw}{ps:List PMod}{V:Int}(S:Kst w W s c k d)(b:lkc ps s c k d=V)(a:V≠0)(tmps)(f:tmps[4]?=some (.pointer$ some$ qR (w.heap.size+1) 0))(e:tmps[5]?=some (qI V)):
 bodyPost prog f61 (LkM w ps s c k d) Exit.ret ⟨tmps,[]⟩ (st6 W (w.heap.size+1) (qS none 0 0) (qI 0) (qS none 0 0) (qI 0) (qI 0)$ qS none 0 0):=
 aG0 S.k1 _ _ _ _ _ _ V _ tmps f e (aK7 (aF S.be (cU _ _ _ _ _ _ _ _) (λj g=>by grind) S.be.size) b a)
def aCb (a n a0 ms s c k d w)(h:MSD w a n a0 ms):
 qC 61 #[qS a n a0,.agg$ qW s c k d] w (LkM w (aI ms) s c k d):=by
 have K0:=aS2 w s c k d;have hl:=h.s.1;have ah:(aI ms).length=n:=by rw[cF,hl]
 have HH:=zh h;have C:=zb w λW hb=>aG2 a n a0 ms s c k d W$ h.bw hb;let⟨V,hV⟩:=aO$ fJ (aI ms) s c k d;rw[<-hV]at C;have HV:=zh hV;have HK:=zh K0;have c0:=K0.k0.z4;clear h K0 hV
 delta qC;go_in
 go_wp2_with fail
 apply(C _ HK.be).mono;rintro e w1 ⟨rfl,a6⟩;have S1:=HK.bw a6;clear a6 c0 HK;by_cases E:V=0
 .have O:=HV.o;rw[E]at O;let⟨a5,h4,a9⟩:=wC O.symm;have G:=zh O.symm;have a3:=zh a9;have ai:=zh a5;rw[ah]at h4;subst E;clear O a9 a5;have ac:=zh S1;clear S1;go_wp2;go_loopw [7] (λi wr=>∃m:Nat,m<=n/\i=qI m/\(∀j,j<m->aAy (aI ms) ((aI ms).getD j zP))/\Kst w wr s c k d) (qf n)
  .exact⟨0,xC _,rfl,λj hj=>absurd hj J,ac⟩
  .clear ac;obtain⟨m,hm,rfl,hv,S⟩:=hrel;by_cases ad:m<n
   .have ag:(m:Int)<(n:Int):=J
    have H:=HH.bw S.be;obtain⟨b,off,rfl,q0,q1,q2,q3,q4,q5,q6,q7⟩:=H.s.at m ad;have aa:=zh (oT (qe b off) n a0 ms (ms.getD m aM) wr H a3.o h4 (H.d m ad) (by rw[<-cZ];exact a3.o m J));have a8:=zh$ cZ (ms:=ms) (i:=m);have HG:=zh$ xA hv S;generalize ms.getD m aM=M at *;clear H hv S;go_wp2_with fail
    apply aa.mono;rintro e w2 ⟨ab,H2⟩;have S2:=HG.2.bw ab;clear ab aa q0 q1 q2 q3 q4 q5 q6 q7;rcases H2 with⟨p,v,rfl⟩|⟨Y,an,b7,rfl,_⟩
    .have A:=zh (aT9 (d:=d) (k:=k) (w:=c) (s:=s) G.o (λhi=>p (by rw[<-a8.o];exact hi m J)));have q:=zh S2;have u0:=S2.k2.z6;have p0:=S2.k1.z6;have y0:=S2.k1.frozen;clear S2 p;go_wp2;exact rI q A Ja _ rfl rfl
    .have aj:=zh (show ∀j,j<m+1->aAy (aI ms) ((aI ms).getD j zP)from λj hj=>by
      by_cases e:j=m
      .subst e;rw[a8.o];exact Y
      .exact HG.1 j J)
     have q:=zh S2;clear S2 Y;go_wp2
     go_roundw
     .exact⟨m+1,J,by go_num,aj,q⟩
     .simp[qf,intOf];omega
   .have ag:¬(m:Int)<(n:Int):=J
    have HI:Zh (oJ$ aI ms):=λi hi=>hv i J;have a1:=zh$ aBl a n a0 ms s c k d wr$ HH.bw S.be;let⟨B,hB⟩:=aO$ decide$ 0<s/\¬oX (aI ms) c;rw[<-hB]at a1;have HB:=zh hB;have q:=zh S;have c0:=S.k0.z4;clear S hv hB;go_wp2_with fail
    apply a1.mono;rintro e w3 ⟨rfl,af⟩;have K:=q.bw af;clear af a1 q c0;cases B with
    | true=>
      have A:=zh$ aT8 (d:=d) (k:=k) G HI$ of_decide_eq_true HB.symm;have q:=zh K;have u0:=K.k2.z6;have p0:=K.k1.z6;have y0:=K.k1.frozen;clear K;go_wp2;exact rI q A Ja _ rfl rfl
    | false=>
      have a4:=zh$ of_decide_eq_false HB.symm;have a7:=zh$ aM7 a n a0 ms s c k d w3 (HH.bw K.be) h4 ai a3 HI;have q:=zh K;have c0:=K.k0.z4;clear K;go_wp2_with fail
      apply a7.mono;rintro e w4 ⟨ae,P,Z,xs,a2,Q,X,d5,ts,rfl,U⟩;have S4:=q.bw ae;let⟨L,hL⟩:=aO$ lay (aI ms) s c k;rw[<-hL]at U⊢;have y:=zh hL;have al:qY w4 (w4.alloc$ .cells (qL L P xs.length Z a2 L.slots.length Q X ts.length d5) 65):=bal;have kL:=Blk.new w4 (qL L P xs.length Z a2 L.slots.length Q X ts.length d5) 65;have u:=S4.bw al;have l:LayO (w4.alloc$ .cells (qL L P xs.length Z a2 L.slots.length Q X ts.length d5) 65) w3.heap.size L P Z xs a2 Q X d5 ts:=⟨U.p.bw al,U.ps,U.s.bw al,U.t.bw al,U.tt,U.sp⟩;have:=q.k2.lt;have:=kL.z6;have N:=zh$ xA u l;have:(w4.alloc$ .cells (qL L P xs.length Z a2 L.slots.length Q X ts.length d5) 65).heap.size=w4.heap.size+1:=Jb
      clear ae S4 U al kL hL q a7 c0;unfold rJ;by_cases h7:16384<L.flash
      .have A:=zh$ aT7 (d:=d) G.o HI.o a4.o$ y.o ▸ h7;have u0:=u.k2.z6;have p0:=u.k1.z6;have y0:=u.k1.frozen;clear u l;go_wp2;exact rI N.1 A Ja _ rfl rfl
      .have am:¬16384<L.flash:=h7;by_cases h8:16384<L.ram
       .have A:=zh$ aT6 (d:=d) G.o HI.o a4.o (y.o ▸ h7)$ y.o ▸ h8;have u0:=u.k2.z6;have p0:=u.k1.z6;have y0:=u.k1.frozen;clear u l;go_wp2;exact rI N.1 A Ja _ rfl rfl
       .have A:=zh$ aUb (d:=d) G.o HI.o a4.o (y.o ▸ h7)$ y.o ▸ h8;have p0:=u.k1.z6;have y0:=u.k1.frozen;clear u l;go_wp2;refine aG0 N.1.k1 _ _ _ _ _ _ 0 _ _ rfl rfl ?_;let⟨u,l⟩:=N.o;have t:=cU (w4.alloc$ .cells (qL L P xs.length Z a2 L.slots.length Q X ts.length d5) 65) (w.heap.size+1) (qS P xs.length Z) (qI L.stack) (qS a2 L.slots.length Q) (qI L.flash) (qI L.ram)$ qS X ts.length d5;refine⟨aF u.be t (λj hj=>by have e:j=w.heap.size+1:=hj;omega) u.be.size,P,Z,xs,a2,Q,X,d5,ts,?_,?_⟩
        .unfold lkL;rw[if_pos A.o,A.o,<-y.o];rfl
        .unfold lkL;rw[if_pos A.o,<-y.o];have p:∀k,w3.heap.size<=k->¬(k=w.heap.size+1):=λk I e=>J
         exact⟨(l.p.kept t (λk I=>p k (l.p.lt.1 k I).1) λx hx k I=>p k (l.p.lt.2 x hx k I).1).mono J J,l.ps,(l.s.kept t λk I=>p k (l.s.lt k I).1).mono J,(l.t.kept t (λk I=>p k (l.t.lt.1 k I).1) λx hx k I=>p k (l.t.lt.2 x hx k I).1).mono J J,l.tt,l.sp⟩
 .have ak:(V !=0)=true:=by simp[E]
  have A:=zh$ aUa (ps:=aI ms) HV.symm E;have q:=zh S1;have u0:=S1.k2.z6;have p0:=S1.k1.z6;have y0:=S1.k1.frozen;have c0:=S1.k0.z4;clear S1;go_wp2
  go_region_law (first
   | (go_simp;go_at_call 109;refine(C _ (by first|exact q.be|exact q.drew.be)).mono ?_;rintro e g ⟨rfl,D⟩;have f:=zh$ show Kst w g s c k d from(by first|exact q.bw D|exact q.drew.bw D);have:qN g (qs w+1+1) 0=qk none 0 0:=f.k2.cell 0;have:qN g (qs w+1+1) 1=qj 0:=f.k2.cell 1;have:qN g (qs w+1+1) 2=qk none 0 0:=f.k2.cell 2;have:qN g (qs w+1+1) 3=qj 0:=f.k2.cell 3;have:qN g (qs w+1+1) 4=qj 0:=f.k2.cell 4;have:qN g (qs w+1+1) 5=qk none 0 0:=f.k2.cell 5;have:qg g w 0=qk none 0 0:=f.k1.cell 0;have:qg g w 1=qj 0:=f.k1.cell 1;have:qg g w 2=qk none 0 0:=f.k1.cell 2;have:qg g w 3=qj 0:=f.k1.cell 3;have:qg g w 4=qj 0:=f.k1.cell 4;have:qg g w 5=qk none 0 0:=f.k1.cell 5;have:g.frozen? (qr w 0)=false:=f.k1.frozen 0;have:g.frozen? (qr w 1)=false:=f.k1.frozen 1;have:g.frozen? (qr w 2)=false:=f.k1.frozen 2;have:g.frozen? (qr w 3)=false:=f.k1.frozen 3;have:g.frozen? (qr w 4)=false:=f.k1.frozen 4;have:g.frozen? (qr w 5)=false:=f.k1.frozen 5;have:qn g w 0=qj s:=f.k0.cell 0;have:qn g w 1=qj c:=f.k0.cell 1;have:qn g w 2=qj k:=f.k0.cell 2;have:qn g w 3=qj d:=f.k0.cell 3;clear D))
  all_goals
   go_wp2;exact rI f A E _ rfl rfl
open Go Go.Maps Go.WideShapes
set_option maxRecDepth 100000
def jO (x w)(b:0<=x:=by omega)(a:x<=4294967295:=by omega):qC 259 #[qI x] w λe d=>e=.returned (qI$ rnd x)/\d=w:=by
 go_enter func259,ntmps259
 go_wp2;go_ret;exact⟨aJ (by unfold rnd;rw[show x+31=x+32-1 from J]),rfl⟩
def oL (a n d w)(hn:n<=1048576):qC 199 #[qS a n d] w λe g=>e=.returned (qI$ rnd$ 4*(n:Int))/\g=w:=by
 have b:=zh$ jO (4*(n:Int)) w
 delta qC;go_in
 go_wp2_with fail
 apply b.mono;rintro e f ⟨rfl,rfl⟩;go_wp2;go_ret;exact⟨rfl,rfl⟩
theorem Md.okI {m:Md}{w:qw}(h:m.md w):qC 255 #[.agg$ qM m.nm m.ta m.tn m.tc m.ba m.bn m.bc m.da m.dn m.dc m.bss m.ra m.rn m.rc m.ia m.im m.ic m.ea m.en m.ec] w (qB w$ qI$ fY m.pm):=by
 have:=aBp _ _ _ _ _ _ _ _ _ _ _ _ _ _ _ _ _ _ _ _ _ _ _ _ _ _ w h;rw[aPv h]at this
 grind
theorem aV0 {a b:ByteArray}:a.data.toList=b.data.toList ↔ a=b:=by
 constructor
 .intro e;cases a
  cases b
  simp at e;rw[e]
 .grind
theorem aPg {ms:List Md}{n:Nat}(l:ms.length=n):(size (fd (dK ms) n)=n) ↔ nms (aI ms):=by
 have h:=aE4 (dK ms) n;have a:∀i,i<n->((aI ms).getD i zP).nm=(ms.getD i aM).nm:=λi hi=>by rw[cZ];rfl
 constructor
 .intro e;rw[xR e]at h;intro i hi k q;rw[cF,l]at hi;have g:=h.symm;rw[List.all_eq_true]at g;have j:=g i (by grind);rw[List.all_eq_true]at j;have t:=j k (by grind);rw[a k J,a i hi];intro p;have e2:dK ms k=dK ms i:=by unfold dK;rw[p]
  grind
 .intro d;apply of_decide_eq_true;rw[h,List.all_eq_true];intro i hi;rw[List.all_eq_true];intro k q;have b:i<n:=by grind
  have f:k<i:=by grind
  have:=d i (by rw[cF];omega) k f;rw[a k J,a i b]at this;have u:dK ms k≠dK ms i:=λe=>this$ aV0.1 e
  grind
end Go.Proofs.YtdjdcdnjjmjonaaGreat
namespace Go.Proofs.YtdjdcdnjjmjonaaGreat
open Go Go.Maps Go.WideShapes
open Go.RowKit
open Go.Proofs.Tryz
set_option maxRecDepth 100000
variable {R base g m n n1 n2 n3 q:Nat}{f:Nat->TB}{p s:Int}{ps:List PMod}
def aBi (a n g ms s c k d w)(h:MSD w a n g ms):
 qC 178 #[qS a n g,.agg$ qW s c k d] w (qB w$ qI$ fJ (aI ms) s c k d):=by
 have hA:qY w (w.alloc$ .cells (qW s c k d) 37):=bal;have hl:=h.s.1;have:=h.s.2.1;have a4:=cF ms;have HH:=zh h;have HC:=zh λW=>aBq s c k d W;clear h
 delta qC;go_in
 go_wp2_with fail
 apply(HC _).mono;rintro e w1 ⟨rfl,P⟩;have A:=zh$ hA.trans$ P.mono Jb;clear hA P HC;cases l:cfo s c k d with
 | false=>
   have x:=zh$ aOd (ps:=aI ms) l;go_wp2;go_ret;exact⟨aJ x.symm,A⟩
 | true=>
   by_cases y:n<1\/4<n
   .have x:=zh$ aOc (ps:=aI ms) l J;by_cases a6:n<1
    .have E:(n:Int)<1:=J
     clear y;go_wp2;go_ret;exact⟨aJ x.symm,A⟩
    .have E:¬(n:Int)<1:=J
     have S:(4:Int)<(n:Int):=J
     clear y;go_wp2;go_ret;exact⟨aJ x.symm,A⟩
   have E:¬(n:Int)<1:=J
   have S:¬(4:Int)<(n:Int):=J
   have G:=zh (show ¬((aI ms).length<1\/4<(aI ms).length)by rw[a4,hl];exact y);clear y;go_wp2;go_loopw [20] (λi wr=>∃m:Nat,m<=n/\i=qI m/\(∀j,j<m->fY ((aI ms).getD j zP)=0)/\qY w wr) (qf n)
   .exact⟨0,xC _,rfl,λj hj=>absurd hj J,A⟩
   .obtain⟨m,hm,rfl,Z,B⟩:=hrel;by_cases O:m<n
    .have X:(m:Int)<(n:Int):=J
     have H:=HH.bw B;obtain⟨b,off,rfl,q0,q1,q2,q3,q4,q5,q6,q7⟩:=H.s.at m O;have N:=zb wr λW hb=>Md.okI$ MD.bw (H.d m O) hb;let⟨V,q⟩:=aO$ fY (ms.getD m aM).pm;rw[<-q]at N;have U:=zh (q.trans (by rw[<-cZ]));have f:=zh Z;have Q:=zh B;generalize ms.getD m aM=M at *;have al:qY wr (wr.alloc$ .cells (qM M.nm M.ta M.tn M.tc M.ba M.bn M.bc M.da M.dn M.dc M.bss M.ra M.rn M.rc M.ia M.im M.ic M.ea M.en M.ec) 128):=bal;have I:=zh al;clear Z B H q al;go_wp2_with fail
     apply(N _ I).mono;rintro e w2 ⟨rfl,t⟩;have D:=yT I t;have u:=zh$ yT Q D;clear t D N Q I q0 q1 q2 q3 q4 q5 q6 q7;by_cases hz:V=0
     .subst hz
      have a3:=zh (show ∀j,j<m+1->fY ((aI ms).getD j zP)=0 from λj hj=>by
       by_cases e:j=m
       .subst e;exact U.symm
       .exact f j J)
      go_wp2
      go_roundw
      .exact⟨m+1,J,by go_num,a3,u⟩
      .simp[qf,intOf];omega
     .have a7:(V !=0)=true:=by simp[hz]
      have x:=zh (aOb (ps:=aI ms) l G.o m J (by rw[<-U.o];exact hz));go_wp2;go_ret;exact⟨aJ x.symm,u⟩
    .have X:¬(m:Int)<(n:Int):=J
     have f:Zh (iQ$ aI ms):=λi hi=>Z i J;have Q:=zh B;have HF:=zh$ rV a n g ms wr (HH.s.bw B) J;have a2:=pP (dK ms) n;have K:=zh$ aPg (ms:=ms) hl;let⟨Y,p⟩:=aO$ size$ fd (dK ms) n;have a0:=zh p;rw[<-p]at a2 K;clear Z B p;go_wp2_with fail
     apply HF.mono;rintro e w2 ⟨rfl,C,t⟩;have:∀ty,(Builtin.len_ #[273] ty #[.map$ some wr.heap.size]).run prog w2=.ok (qI (Y:Int)) w2:=by intro ty;rw[a0.o];exact C.len underlying273 ty
     have u:=zh$ yT Q t;clear C t HF Q;by_cases he:Y=n
     .have x:=zh$ aOe (d:=d) l G f$ K.1 he;subst he;have a1:((Y:Int) !=(Y:Int))=false:=Jb
      go_wp2;go_ret;exact⟨aJ x.symm,u⟩
     .have x:=zh (show fJ (aI ms) s c k d=4 by
       unfold fJ
       rw[if_neg (by rw[l];decide),if_neg G.o,if_neg (λe=>e f.o),if_pos (λe=>he$ K.o.2 e)])
      have a1:((Y:Int) !=(n:Int))=true:=Jc
      go_wp2;go_ret;exact⟨aJ x.symm,u⟩
def GB (ps:List PMod)(m q R:Nat):Prop:=(∀i,i<ps.length->∀k,k<(ps.getD i zP).bl.length->(i<m\/(i=m/\k<q))->((ps.getD i zP).bl.getD k []).length<=R)/\(R=0\/∃i,i<ps.length/\∃k,k<(ps.getD i zP).bl.length/\((ps.getD i zP).bl.getD k []).length=R)
def aTb (ps):GB ps 0 0 0:=⟨λi _ k _ h=>J,.inl rfl⟩
def GB.next (h:GB ps m q R)(b:(ps.getD m zP).bl.length<=q):GB ps (m+1) 0 R:=
 ⟨λi hi k a e=>h.1 i hi k a (by
  by_cases e2:i=m
  .subst e2;right;exact⟨rfl,J⟩
  .left;omega),h.2⟩
theorem GB.step (h:GB ps m q R)(b:m<ps.length)(j:q<(ps.getD m zP).bl.length):GB ps m (q+1) (max R ((ps.getD m zP).bl.getD q []).length):=by
 refine⟨λi hi k a e=>?_,?_⟩
 .by_cases e2:i=m/\k=q
  .grind
  .have:=h.1 i hi k a J;omega
 .by_cases hc:((ps.getD m zP).bl.getD q []).length<=R
  .rw[show max R ((ps.getD m zP).bl.getD q []).length=R from J];exact h.2
  .grind
theorem aLc (h:GB ps ps.length 0 R)(w)(j:1<=w):(w<(R:Int)) ↔ ¬oX ps w:=by
 constructor
 .intro b hs;rcases h.2 with l|⟨i,hi,k,a,e⟩
  .omega
  .grind
 .intro hs;apply Classical.byContradiction;intro d;exact hs λi hi k a=>jK$ h.1 i hi k a$ .inl hi
def tJ (a n a0 ms w)(h:MSD w a n a0 ms)(hv:iQ (aI ms))(a2:n<=4):
 qC 180 #[qS a n a0] w λe w'=>∃R:Nat,e=.returned (qI (R:Int))/\GB (aI ms) (aI ms).length 0 R/\qY w w':=by
 have hl:=h.s.1;have O:(aI ms).length=n:=by rw[cF,hl]
 have HH:=zh h;have X:=zh hv
 delta qC;go_in
 go_wp2;go_loopw [3,10] (λx i wr=>∃(m R:Nat),m<=n/\i=qI m/\x=qI (R:Int)/\R<=64/\Hid (GB (aI ms) m 0 R)/\qY w wr) (λ_ i _=>n-(intOf i).toNat)
 .exact⟨0,0,xC _,rfl,rfl,xC _,zh$ aTb _,brf⟩
 .obtain⟨m,R,hm,rfl,rfl,hR,p,B⟩:=hrel;by_cases I:m<n
  .have N:(m:Int)<(n:Int):=J
   have H:=HH.bw B;obtain⟨b,off,rfl,q0,q1,q2,q3,q4,q5,q6,q7⟩:=H.s.at m I;have t:=H.d m I;let⟨P,d⟩:=aO$ (aI ms).getD m zP;have y:P=(ms.getD m aM).pm:=d.trans$ cZ;have A:=X m J;rw[<-d]at A;let⟨_,_,_,vb,_,_,_,a5⟩:=cJ A;have k:(ms.getD m aM).bn=P.bl.length:=by rw[y];show _=(List.map _ _).length;rw[xH];exact t.b.1.symm
   have V:Zh (∀j,j<P.bl.length->((ms.getD m aM).bl.getD j zB).2.1=(P.bl.getD j []).length):=λj hj=>by rw[y];exact(aD8 t j J).1
   have S:=zb wr λW hb=>(MD.bw t hb).b;have Z:=zh d;rw[k]at q2;have E:=zh k;have f:=zh B;generalize ms.getD m aM=M at *;generalize M.ba=ba at *;have al:qY wr (wr.alloc$ .cells (qM M.nm M.ta M.tn M.tc ba P.bl.length M.bc M.da M.dn M.dc M.bss M.ra M.rn M.rc M.ia M.im M.ic M.ea M.en M.ec) 128):=bal;have a4:=zh al;clear B H t d y k al A;generalize wr=wo at *;go_wp2;go_loopw [3,17] (λx i wx=>∃(q R:Nat),q<=P.bl.length/\i=qI q/\x=qI (R:Int)/\R<=64/\Hid (GB (aI ms) m q R)/\qY wo wx) (λ_ i _=>P.bl.length-(intOf i).toNat)
   .exact⟨0,R,xC _,rfl,rfl,hR,p,a4⟩
   .obtain⟨q,K,hq,rfl,rfl,Y,G,B⟩:=hrel;by_cases l:q<P.bl.length
    .have u:(q:Int)<(P.bl.length:Int):=J
     let⟨_,_,a1,_,_⟩:=S wr B;obtain⟨b2,a6,rfl,hc⟩:=a1 (by rw[E.o];omega);have g:=hc q$ E.o ▸ l;rw[V.o q l]at g;have a3:=a5 q l;let⟨Q,s⟩:=aO$ (P.bl.getD q []).length;rw[<-s]at g a3;have C:=zh (show GB (aI ms) m (q+1) (max K Q)by rw[s,Z.o];exact G.out.step J$ Z.o ▸ l);have U:max (K:Int) (Q:Int)=((max K Q:Nat):Int):=J
     have D:=zh B;generalize M.bl.getD q zB=bq at g;clear a1 hc s B;go_wp2
     go_roundw
     .exact⟨q+1,max K Q,J,by go_num,(by rw[<-U];congr 1;split<;>omega),J,C,D.o⟩
     .simp[intOf];omega
    .have u:¬(q:Int)<(P.bl.length:Int):=J
     have C:=zh (G.out.next (by rw[<-Z.o];omega));have D:=zh$ yT f B;clear B;go_wp2
     go_roundw
     .exact⟨m+1,K,J,by go_num,rfl,Y,C,D⟩
     .simp[intOf];omega
  .have N:¬(m:Int)<(n:Int):=J
   have HG:=zh (show GB (aI ms) (aI ms).length 0 R by rw[O,<-show m=n from J];exact p.out);have f:=zh B;clear B p;go_wp2;go_ret;exact⟨R,rfl,by first|exact HG.o|(have:=HG.o;rw[O]at this;exact this),f.o⟩
def wM (g x a n d w)(h:Blk w g #[qI x,.func (.func 199) #[] #[]] 277)(u:0<=x)(l:x<=1000000)(hn:n<=65535):
 qC 260 #[.pointer$ qP g,qS a n d] w λe w'=>e=.returned (qI x)/\Blk w' g #[qI$ x+rnd (4*(n:Int)),.func (.func 199) #[] #[]] 277/\Turn (λj=>j=g) w w':=by
 have:=h.e0;have:=h.e1;have:=h.frozen 0;have t:=aX (x:=4*(n:Int));obtain⟨RR,f⟩:=aO$ rnd$ 4*(n:Int);have i:=zh λW=>oL a n d W J;rw[<-f]at t i⊢;have:IntKind.i64.wrap (x+RR)=x+RR:=bM _ J J;have b:Zh (Blk ((w.setCell (qR g 0)$ qI$ x+RR).drew) g #[qI$ x+RR,.func (.func 199) #[] #[]] 277/\Turn (λj=>j=g) w ((w.setCell (qR g 0)$ qI$ x+RR).drew)):=⟨h.set 0$ qI$ x+RR,aDd$ aD w g 0$ qI$ x+RR⟩;clear h f;go_enter func260,ntmps260
 go_wp2_with fail
 go_region_law (first
  | (go_simp;go_at_call 199;refine(i.o _).mono ?_;rintro e y ⟨rfl,rfl⟩))
 all_goals
  go_wp2;go_ret;exact⟨rfl,b.o.1,b.o.2⟩
def pD (g x v w)(h:Blk w g #[qI x,.func (.func 259) #[] #[]] 279)(u:0<=x:=by omega)(l:x<=1000000:=by omega)(a:0<=v:=by omega)(y:v<=1000000:=by omega):
 qC 262 #[.pointer$ qP g,qI v] w λe w'=>e=.returned (qI x)/\Blk w' g #[qI$ x+rnd v,.func (.func 259) #[] #[]] 279/\Turn (λj=>j=g) w w':=by
 have:=h.e0;have:=h.e1;have:=h.frozen 0;have t:=aX a;obtain⟨RR,d⟩:=aO$ rnd v;have i:=zh λW=>jO v W a;rw[<-d]at t i⊢;have:IntKind.i64.wrap (x+RR)=x+RR:=bM _ J J;have b:Zh (Blk ((w.setCell (qR g 0)$ qI$ x+RR).drew) g #[qI$ x+RR,.func (.func 259) #[] #[]] 279/\Turn (λj=>j=g) w ((w.setCell (qR g 0)$ qI$ x+RR).drew)):=⟨h.set 0$ qI$ x+RR,aDd$ aD w g 0$ qI$ x+RR⟩;clear h d;go_enter func262,ntmps262
 go_wp2_with fail
 go_region_law (first
  | (go_simp;go_at_call 259;refine(i.o _).mono ?_;rintro e A ⟨rfl,rfl⟩))
 all_goals
  go_wp2;go_ret;exact⟨rfl,b.o.1,b.o.2⟩
def bkx (P:PMod)(x:Int)(k:Nat):List Int:=(List.range k).map λj=>x+cS P j
def oG (P x k):(bkx P x k).length=k:=by simp[bkx]
def aQ2 (P x k):bkx P x (k+1)=bkx P x k++[x+cS P k]:=by simp[bkx,List.range_succ]
def aEa (g x P ba bc s w0 w)(h:Blk w g #[qI x,.func (.func 199) #[] #[]] 277)(hP:fY P=0)(ag:0<=x)(af:x<=900000)(hB:qY w0 w)(hg:w0.heap.size<=g)(hb:BKS w0 ba P.bl.length bc s)(y:∀j,j<P.bl.length->(s.getD j zB).2.1=(P.bl.getD j []).length):
 qC 261 #[.pointer$ qP g,qS ba P.bl.length bc] w λe w'=>∃b d,e=.returned (qS b P.bl.length d)/\OG 3 1 clI w' w.heap.size (qS b P.bl.length d) (bkx P x P.bl.length)/\Blk w' g #[qI$ x+cS P P.bl.length,.func (.func 199) #[] #[]] 277/\Turn (λj=>j=g) w w':=by
 let⟨iI,a8,a9,aa,ab⟩:=info_parts rO;let⟨_,_,_,vb,_,_,_,ac⟩:=cJ hP;have Z:=zh λk hk=>cT hP k hk;have a3:=zh λ(W:qw)(t:Turn (λj=>j=g) w W)=>hb.bw$ aF hB t (λj S=>by have e:j=g:=S;omega) hB.size;have M:=zh y;have ah:=h.lt;have HH:=zh h;clear h hb y hB hP
 delta qC;go_in
 go_wp2;go_loopw [5,10] (λv i wr=>∃(q:Nat) (b:qO) (d:Nat),q<=P.bl.length/\i=qI q/\v=qS b q d/\OG 3 1 clI wr w.heap.size (qS b q d) (bkx P x q)/\Blk wr g #[qI$ x+cS P q,.func (.func 199) #[] #[]] 277/\Turn (λj=>j=g) w wr) (λ_ i _=>P.bl.length-(intOf i).toNat)
 .exact⟨0,none,0,xC _,rfl,rfl,mW _ _ _ _ _,by have:=HH.o;rw[show x+cS P 0=x by simp[cS]];exact this,Turn.refl _ _⟩
 .obtain⟨q,b,d,hq,rfl,rfl,O,B,T⟩:=hrel;by_cases A:q<P.bl.length
  .have V:(q:Int)<(P.bl.length:Int):=J
   let⟨_,_,a1,_,_⟩:=a3 wr T;obtain⟨b2,ak,rfl,hc⟩:=a1 J;have Q:=hc q A;rw[M.o q A]at Q;have a4:=ac q A;let⟨LQ,a0⟩:=aO$ (P.bl.getD q []).length;rw[<-a0]at Q a4;have rq:=Z q J;have U:=zh (show x+cS P q+rnd (4*(LQ:Int))=x+cS P (q+1)by rw[a0];show _=x+(cS P q+rnd (4*((P.bl.getD q []).length:Int)));omega);have H:=zh$ aQ2 P x q;let⟨f,a2⟩:=aO$ x+cS P q;rw[<-a2]at U H B;have ae:0<=f/\f<=1000000:=J
   generalize s.getD q zB=bq at Q;obtain⟨a6,ai,a7,aj⟩:=bq;dsimp only at Q;have X:=zh$ wM g f a6 LQ a7 wr B J J J;have HQ:=zh$ xA O T;clear a1 hc a0 a2 O B T;go_wp2_with fail
   apply X.mono;rintro e N ⟨rfl,K,G⟩;let⟨O,T⟩:=HQ;have E:=O.turn G (λj S=>by have e:j=g:=S;omega);have p:=T.trans G;have al:qY N (qm N #[qI f] 3):=bal;have I:=zh (show(qm N #[qI f] 3).ownsRow w.heap.size 3 1 (qS b q d) q ((bkx P x q).flatMap clI)by have:=E.bw al;unfold OG at this;rw[oG]at this;exact this);have ad:=p.size;have HR:=zh$ xA (E.bw al)$ xA (K.bw al)$ p.trans$ aG al;clear O T E p al K G X HQ Q;go_wp2_with (at_builtin;refine wpList_append_own _ rfl _ _ 25 rfl w.heap.size 3 iI (qI 0) 1 8 underlying25 a8 a9 aa ab rfl Ja (qS b q d) q ((bkx P x q).flatMap clI) rfl I.o (qh N 0) 1 1 (clI f) rfl rfl (cA N _ _ (clI f) rfl) (by intro u hu;simp[clI]at hu;subst hu;rfl) Jf J Jc ?_;intro v' w4 l C _)
   let⟨E,K,G⟩:=HR;have a:∀j,(qS b q d).ownBlock=some j->w.heap.size<=j:=λj S=>(E.lt j S).1
   have Y:OG 3 1 clI w4 (qs w) v' (bkx P x$ q+1):=by
    unfold OG;rw[oG,H.o,xU,xX];exact l
   have B4:=dZ K C λe=>jK$ a _ e.symm;have T4:=vW G C a;obtain⟨a5,c4,rfl⟩:=aZ Y;rw[oG]at Y;have D:=zh$ xA Y$ xA B4 T4;have HL:=zh$ oG P x$ q+1;clear E K G a Y B4 T4 l C HR I
   go_roundw
   .exact⟨q+1,a5,c4,J,by go_num,by rw[HL.o],D.o.1,U.o ▸ D.o.2.1,D.o.2.2⟩
   .simp[intOf];omega
  .have V:¬(q:Int)<(P.bl.length:Int):=J
   have e:q=P.bl.length:=J
   rw[e]at O B;have D:=zh$ xA O$ xA B T;have HE:=zh e;clear O B T e;go_wp2;go_ret;exact⟨b,d,by rw[<-HE.o];rfl,D.o.1,D.o.2.1,D.o.2.2⟩
structure Tf (w:qw)(base g n:Nat)(f:Nat->TB):Prop where
 head:∃cs,Blk w g cs 164/\cs.size=n/\∀i,i<n->cs[i]?=some (svT (f i))
 rows:∀i,i<n->OG 121 3 clG w base (svT (f i)) (f i).1
 apart:∀i j,i<n->j<n->i≠j->∀k,(svT (f i)).ownBlock=some k->(svT (f j)).ownBlock≠some k
def Tf.bw {w w':qw}(h:Tf w base g n f)(a:qY w w'):Tf w' base g n f:=
 ⟨by obtain⟨b,d,e,j⟩:=h.head;exact⟨b,d.bw a,e,j⟩,λi hi=>(h.rows i hi).bw a,h.apart⟩
def Tf.cell {w:qw}(h:Tf w base g n f)(i)(hi:i<n):w.cell? (qR g i)=some (svT$ f i)/\w.frozen? (qR g i)=false:=by
 let⟨d,a,e,b⟩:=h.head;exact⟨(a.cell i).trans$ b i hi,a.frozen i⟩
def Tf.lt {w:qw}(h:Tf w base g n f):g<w.heap.size/\∀i,i<n->∀k,(svT$ f i).ownBlock=some k->base<=k/\k<w.heap.size:=by
 let⟨b,a,_⟩:=h.head;exact⟨a.lt,λi hi=>(h.rows i hi).lt⟩
theorem Tf.update {W l:qw}{x:TB}{g4 c4:Nat}(h:Tf W base g n f)(D:m<n)(K:W.grownBy l (svT$ f m).ownBlock)(hx:OG 121 3 clG l base (svT x) x.1)(hs:svT x=qS (qP g4) x.1.length c4)(A:(svT$ f m).ownBlock=some g4\/g4=W.heap.size):Tf (l.setCell (qR g m)$ svT x) base g n (λi=>if i=m then x else f i):=by
 let⟨d,p,q,s⟩:=h.head;have E:∀k,(svT$ f m).ownBlock=some k->k≠g:=λk E e=>by subst e;exact dJ (h.rows m D) E p Ja
 have H:Blk l g d 164:=dZ p K λe=>E g e.symm rfl;have I:=aD l g m$ svT x
 have t:∀(u:Value)(M:List Tg),OG 121 3 clG l base u M->∀k,u.ownBlock=some k->¬(λj=>j=g) k:=λu M N k b e=>by
  have B:k=g:=e;subst B;exact dJ N b H Ja
 refine⟨⟨d.setIfInBounds m$ svT x,H.set m$ svT x,by grind,λi hi=>?_⟩,λi hi=>?_,λi j hi G w k a=>?_⟩
 .grind
 .by_cases e:i=m
  .simp only[e,if_true];exact hx.kept I$ t _ _ hx
  .simp only[e,if_false];have o:=(h.rows i hi).kept' K λk b B=>h.apart i m hi D e k b B;exact o.kept I$ t _ _ o
 .have C:(svT x).ownBlock=some g4:=by rw[hs];rfl
  by_cases e1:i=m
  .have e2:¬j=m:=λe=>w$ e1.trans e.symm;simp only[e1,e2,if_true,if_false]at a⊢;rw[C]at a;simp at a;subst a;rcases A with y|y
   .exact λe=>h.apart m j D G (λB=>e2 B.symm) g4 y e
   .exact λe=>jK$ (h.lt.2 j G g4 e).2
  .by_cases e2:j=m
   .simp only[e1,e2,if_true,if_false]at a⊢;rw[C];intro e;simp at e;subst e;rcases A with y|y
    .exact h.apart i m hi D e1 g4 a y
    .have:=(h.lt.2 i hi g4 a).2;omega
   .simp only[e1,e2,if_false]at a⊢;exact h.apart i j hi G w k a
theorem aM0 {w:qw}(h:w.ownsRow base 164 1 (qS (qP g) n n) n (madeCells (Value.cells$ qS none 0 0)$ n*1).toList)(l):Tf w l g n (λ_=>([],none,0)):=by
 obtain⟨A,h|⟨q,p,b,d,y,f,s,t,u,x⟩⟩:=h
 .grind
 .simp at d;obtain⟨rfl,rfl⟩:=d
  have e:b.toList=(madeCells (Value.cells$ qS none 0 0)$ n*1).toList:=by
   grind
  have e2:b=madeCells (Value.cells$ qS none 0 0) (n*1):=Array.toList_inj.1 e;refine⟨⟨b,f,by grind,λi hi=>?_⟩,λi hi=>mW _ _ _ _ _,λi j _ _ _ k a=>by simp[svT,Value.ownBlock]at a⟩;rw[e2];simp[madeCells,Value.cells,svT,hi,Nat.mod_one]
theorem Tf.otg {w:qw}{c:Nat}(h:Tf w base g n f)(e:base<=g)(hn:n<=maxLen)(hc:c=n):OTg w base base (.slice (qP g) ((List.range n).map f).length c) ((List.range n).map f):=by
 subst hc;let⟨d,p,q,s⟩:=h.head;refine⟨⟨?_,.inr ⟨g,c,d,Jb,e,p,Jb,hn,by grind,?_⟩⟩,λx hx=>?_,?_⟩
 .rw[show((List.range c).map f).flatMap aJ9=(List.range c).map (λi=>svT$ f i)by rw[List.flatMap_map];exact dR _ _];simp
 .apply List.ext_getElem?;intro i;rw[show((List.range c).map f).flatMap aJ9=(List.range c).map (λi=>svT$ f i)by rw[List.flatMap_map];exact dR _ _]
  grind
 .simp at hx;obtain⟨i,hi,rfl⟩:=hx;exact h.rows i hi
 .rw[List.pairwise_iff_getElem];intro i j hi b l k a;simp at hi b a⊢;exact h.apart i j hi b J k a
def acf (n1 n2 n3:Nat)(p s:Int):Int:=if mok n1 n2 n3=true/\wd s=true then if (p.tmod s !=0)=true then 1 else 0 else 2
def aXc (a1 a2 a3 n1 c1 n2 c2 n3 c3 p s w)(x:0<=p)(y:p<=4294967295):
 qC 272 #[.agg$ qV a1 n1 c1 a2 n2 c2 a3 n3 c3,qI p,qI s] w (qB w$ qI$ acf n1 n2 n3 p s):=by
 have i:qY w (w.alloc$ .cells (qV a1 n1 c1 a2 n2 c2 a3 n3 c3) 39):=bal;let⟨r,d⟩:=aO$ acf n1 n2 n3 p s;rw[<-d];unfold acf at d;have l:=zh d;have t:=zh λw=>zH a1 a2 a3 n1 c1 n2 c2 n3 c3 w;generalize mok n1 n2 n3=A at *;clear d
 delta qC;go_in
 go_wp2_with fail
 apply(t _).mono;rintro e B ⟨rfl,u⟩;have j:=i.trans$ u.mono Jb;clear u i t;cases A
 .obtain rfl:r=2:=l.o.trans$ if_neg Jb;clear l;go_wp2;go_ret;exact⟨rfl,j⟩
 go_wp2_with fail
 apply(jR _ _).mono;rintro e wx ⟨rfl,rfl⟩;let⟨A,b⟩:=aO$ wd s;have a:=l.o;rw[<-b]at a⊢;clear l;cases A
 .obtain rfl:r=2:=a.trans$ if_neg Jb;clear a b;go_wp2;go_ret;exact⟨rfl,j⟩
 rw[if_pos Jb,xL x]at a;obtain⟨s0,f⟩:1<=s/\s<=4:=by rcases eD b.symm with rfl|rfl|rfl<;>decide
 clear b;let⟨A,b⟩:=aO$ p%s !=0;rw[<-b]at a;replace b:=b.symm;cases A
 .obtain rfl:r=0:=a;go_wp2;go_ret;exact⟨rfl,j⟩
 .obtain rfl:r=1:=a;go_wp2;go_ret;exact⟨rfl,j⟩
def aXd (m:Nat)(a:wd m=true)(b off n d f w)(h:BS w (some$ qR b off) n d f)(hn:m<=n):
 qC 274 #[qS (some$ qR b off) n d,qI m] w (qB w$ qI$ low$ f.take m):=by
 rcases eD a with e|e|e<;>(obtain rfl:m=_:=Int.ofNat.inj e)
 .exact zN b off n d f w h hn
 .exact aJs b off n d f w h hn
 .exact aJt b off n d f w h hn
def iRd (a1 a2 a3 n1 c1 n2 c2 n3 c3 x1 x2 p s w)(H:BS w a1 n1 c1 x1)(I:BS w a2 n2 c2 x2)(N:0<=p)(S:p<=4294967295):
 qC 201 #[.agg$ qV a1 n1 c1 a2 n2 c2 a3 n3 c3,qI p,qI s] w (qB w$ .tuple #[qI (rd n1 n2 n3 x1 x2 p s).1,qI (rd n1 n2 n3 x1 x2 p s).2]):=by
 have t:qY w (w.alloc$ .cells (qV a1 n1 c1 a2 n2 c2 a3 n3 c3) 39):=bal;have K:=Blk.new w (qV a1 n1 c1 a2 n2 c2 a3 n3 c3) 39;let⟨r,q⟩:=aO$ rd n1 n2 n3 x1 x2 p s;rw[<-q];have M:=zh λw=>aXc a1 a2 a3 n1 c1 n2 c2 n3 c3 p s w N S
 have i:Zh (if acf n1 n2 n3 p s=0 then (n1<=16384/\n2<=16384)/\wd s=true/\r=if p=131072 then (0,4) else if ins p s 0 n1=true then (low$ (x1.drop p.toNat).take s.toNat,0)
  else if ins p s 65536 n2=true then (low$ (x2.drop (p-65536).toNat).take s.toNat,0) else (0,2) else r=(0,acf n1 n2 n3 p s)):=by
  show ite _ _ _;rw[q];unfold acf rd;by_cases l:mok n1 n2 n3=true/\wd s=true
  .rw[if_pos l,if_pos l];have:=uO l.1;by_cases g:(p.tmod s !=0)=true
   .rw[if_pos g,if_pos g];simp
   .rw[if_neg g,if_neg g];simp[l.2];omega
  .rw[if_neg l,if_neg l];simp
 generalize acf n1 n2 n3 p s=f at *;clear q
 delta qC;go_in
 go_wp2_with fail
 apply(M _).mono;rintro e Y ⟨rfl,D⟩;have j:=t.trans$ D.mono Jb;have:=(K.bw D).three;clear D K t M;by_cases C:f=0
 .subst C;have a:=i.o;rw[if_pos rfl]at a;obtain⟨⟨U,V⟩,hs,a⟩:=a;clear i;obtain⟨s0,W⟩:1<=s/\s<=4:=by rcases eD hs with rfl|rfl|rfl<;>decide
  obtain⟨m,rfl⟩:=xV$ show 0<=s from J;have O:=zh hs;have x:=H.bw j;have u:=I.bw j;have:=H.2.2.2.2;have:=I.2.2.2.2;have B:=zh$ xA x u;clear H I x u hs;by_cases y:p=131072
  .subst y;obtain rfl:r=(0,4):=a;go_wp2
   go_ret2
   exact⟨rfl,j⟩
  rw[if_neg y]at a;have:(p==131072)=false:=by simpa using y
  clear y;have i:=zh a;clear a;go_wp2_with fail
  apply(nY a1 n1 c1 p m 0 _).mono;rintro e wx ⟨rfl,rfl⟩;have a:=i.o;clear i;let⟨A,d⟩:=aO$ ins p m 0 n1;rw[<-d]at a⊢;cases A
  .clear d;have i:=zh a;clear a;go_wp2_with fail
   apply(nY a2 n2 c2 p m 65536 _).mono;rintro e wx ⟨rfl,rfl⟩;have a:=i.o;clear i;let⟨A,d⟩:=aO$ ins p m 65536 n2;rw[<-d]at a⊢;cases A
   .obtain rfl:r=(0,2):=a;clear d;go_wp2
    go_ret2
    exact⟨rfl,j⟩
   .have E:=d.symm;simp[ins]at E;let⟨k,Q⟩:=xV$ show 0<=p-65536 from J;obtain rfl:r=(low$ (x2.drop k).take m,0):=by rw[Q]at a;exact a
    obtain⟨b,off,rfl⟩:=B.2.some J;clear d a;go_wp2_with fail
    apply(aXd m O b (off+k) (n2-k) (c2-k) _ _ (B.2.drop k J) J).mono;rintro e P ⟨rfl,G⟩;go_wp2
    go_ret2
    exact⟨rfl,yT j G⟩
  .have E:=d.symm;simp[ins]at E;obtain⟨k,rfl⟩:=xV N;obtain rfl:r=(low$ (x1.drop k).take m,0):=a;obtain⟨b,off,rfl⟩:=B.1.some J;clear d;go_wp2_with fail
   apply(aXd m O b (off+k) (n1-k) (c1-k) _ _ (B.1.drop k J) J).mono;rintro e P ⟨rfl,G⟩;go_wp2
   go_ret2
   exact⟨rfl,yT j G⟩
 .have e:=i.o;rw[if_neg C]at e;subst e;have:(f !=0)=true:=by simpa using C
  clear i C;go_wp2
  go_ret2
  exact⟨rfl,j⟩
def wff (n1 n2 n3:Nat)(p s:Int):Int:=
 if acf n1 n2 n3 p s=0 then
  if p=131072 then (if 5000<=n3 then 4 else 0) else if ins p s 0 n1=true then 3 else if ins p s 65536 n2=true then 0 else 2
 else acf n1 n2 n3 p s
theorem aAs (h:acf n1 n2 n3 p s=0):mok n1 n2 n3=true/\wd s=true/\(p.tmod s !=0)=false:=by
 unfold acf at h
 grind
def aLw (n1 n2 n3 x1 x2 x3 p s v)(h:wff n1 n2 n3 p s≠0):wrm n1 n2 n3 x1 x2 x3 p s v=(x1,x2,x3,wff n1 n2 n3 p s):=by
 unfold wff acf at *;unfold wrm
 repeat' split
 all_goals simp_all
def aNr (h:wff n1 n2 n3 p s=0):mok n1 n2 n3=true/\wd s=true/\(p.tmod s !=0)=false/\((p=131072/\n3<5000)\/(p≠131072/\ins p s 0 n1=false/\ins p s 65536 n2=true)):=by
 unfold wff at h;split at h
 .next h1=>
  let⟨a,b,c⟩:=aAs h1;refine⟨a,b,c,?_⟩
  repeat' split at h
  all_goals simp_all
 .contradiction
def vU (a1 a2 a3 n1 c1 n2 c2 n3 c3 p s w)(K:0<=p)(I:p<=4294967295):
 qC 302 #[.agg$ qV a1 n1 c1 a2 n2 c2 a3 n3 c3,qI p,qI s] w (qB w$ qI$ wff n1 n2 n3 p s):=by
 have j:qY w (w.alloc$ .cells (qV a1 n1 c1 a2 n2 c2 a3 n3 c3) 39):=bal;have C:=Blk.new w (qV a1 n1 c1 a2 n2 c2 a3 n3 c3) 39;let⟨r,g⟩:=aO$ wff n1 n2 n3 p s;rw[<-g];unfold wff at g;have i:=zh g;have D:=zh λw=>aXc a1 a2 a3 n1 c1 n2 c2 n3 c3 p s w K I;have t:Zh (acf n1 n2 n3 p s=0->(n1<=16384/\n2<=16384/\n3<=5000)/\1<=s/\s<=4):=λh=>⟨uO (aAs h).1,by rcases eD (aAs h).2.1 with rfl|rfl|rfl<;>decide⟩;generalize acf n1 n2 n3 p s=f at *;clear g
 delta qC;go_in
 go_wp2_with fail
 apply(D _).mono;rintro e N ⟨rfl,y⟩;have l:=j.trans$ y.mono Jb;have E:=(C.bw y).three;clear y C j D;by_cases b:f=0
 .subst b;let⟨⟨k,q,H⟩,s0,P⟩:=t rfl;by_cases x:p=131072
  .subst x
   have G:Zh (∀w,qC 316 #[.agg$ qV a1 n1 c1 a2 n2 c2 a3 n3 c3] w$ qB w$ qI r):=λw=>by
    rw[show r=if 5000<=n3 then 4 else 0 from i.o];clear i t E l;have j:qY w (w.alloc$ .cells (qV a1 n1 c1 a2 n2 c2 a3 n3 c3) 39):=bal;by_cases b:5000<=n3
    all_goals
     have u:=b;first|rw[if_pos b]|rw[if_neg b]
     first|(replace b:(5000:Int)<=n3:=by omega)|(replace b:¬(5000:Int)<=n3:=by omega)
     clear u
     delta qC;go_in
     go_wp2;go_ret;exact⟨rfl,j⟩
   clear i t;go_wp2_with fail
   apply(G _).mono;rintro e O ⟨rfl,M⟩;go_wp2;go_ret;exact⟨rfl,yT l M⟩
  have:(p==131072)=false:=by simpa using x
  have B:Zh (r=if ins p s 0 n1=true then 3 else if ins p s 65536 n2=true then 0 else 2):=i.o.trans (by rw[if_pos rfl,if_neg x]);clear i t x;go_wp2_with fail
  apply(nY a1 n1 c1 p s 0 _).mono;rintro e wx ⟨rfl,rfl⟩;have a:=B;clear B;let⟨A,d⟩:=aO$ ins p s 0 n1;rw[<-d]at a⊢;clear d;cases A
  .have i:=zh a;clear a;go_wp2_with fail
   apply(nY a2 n2 c2 p s 65536 _).mono;rintro e wx ⟨rfl,rfl⟩;have a:=i;clear i;let⟨A,d⟩:=aO$ ins p s 65536 n2;rw[<-d]at a⊢;clear d;cases A
   .obtain rfl:r=2:=a;go_wp2;go_ret;exact⟨rfl,l⟩
   .obtain rfl:r=0:=a;go_wp2;go_ret;exact⟨rfl,l⟩
  .obtain rfl:r=3:=a;go_wp2;go_ret;exact⟨rfl,l⟩
 .have e:=i;rw[if_neg b]at e;subst e;have u:(r !=0)=true:=by simpa using b
  clear i b t;go_wp2;go_ret;exact⟨rfl,l⟩
