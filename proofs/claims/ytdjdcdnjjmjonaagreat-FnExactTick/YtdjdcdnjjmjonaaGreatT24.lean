import Derived.Test.YtdjdcdnjjmjonaaGreatT22
import Derived.Test.YtdjdcdnjjmjonaaGreatT23
set_option linter.all false
set_option maxHeartbeats 8000000
namespace Go.Proofs.YtdjdcdnjjmjonaaGreat
open Go.RowKit
open Go.Proofs.Tryz
set_option maxRecDepth 100000
variable {C N:Cn}{L:Lay}{M:Mn}{S S':Nat->Prop}{Y:Lyb}{base c g g0 g1 g2 g3 g4 g5 g6 k:Nat}{ms':List Md}{n:Int}
def tkE (C N:Cn)(L:Lay)(d n:Int):Int×Int×Cn:=if (flw N L d n).1=5 then (5,(flw N L d n).2.1,C) else flw N L d n
def aSy {d e m b t:Int}(hd:d≠5)(h:flw N L d n=cld N L e m b t)(a:e≠5):tkE C N L d n=if gL N L m b t=0 then (e,0,tM N L m b t) else (5,gL N L m b t,C):=by
 unfold tkE;rw[h];unfold cld
 grind
abbrev Lyb.v (Y:Lyb):Array Value:=qL Y.L Y.a0 Y.xs.length Y.c0 Y.a2 Y.L.slots.length Y.c2 Y.a5 Y.ts.length Y.c5
structure Ev4 (w:qw)(M N:Mn)(Y:Lyb)(X:qw):Prop where
 b:qY w X
 m:Blk X w.heap.size (qA M) 43
 n:Blk X (w.heap.size+1) (qA N) 43
 l:Blk X (w.heap.size+1+1) Y.v 65
 r:Blk X (w.heap.size+1+1+1) z15 43
def Ev4.bw {w X X':qw}{N:Mn}(h:Ev4 w M N Y X)(b:qY X X'):Ev4 w M N Y X':=⟨h.b.trans$ b.mono h.b.size,h.m.bw b,h.n.bw b,h.l.bw b,h.r.bw b⟩
def Ev4.box {w X X':qw}{N:Mn}{q:Nat}(h:Ev4 w M N Y X)(b:w.heap.size+1+1+1<q)(T:Turn (λj=>j=q) X X'):Ev4 w M N Y X':=
 ⟨aG h.b T (λj a=>J) h.b.size,aD T h.m λe=>J,aD T h.n λe=>J,aD T h.l λe=>J,aD T h.r λe=>J⟩
def aMb (M N k)(Y:Lyb)(n w)(h:MnD w M)(H:MnS w M k)(h':MnD w N)(H':MnS w N k)(s:MOk N)(K:Y.T w)(eY:Y.L=M.L)(eN:N.L=M.L)(hv:Cv M.cn Y.L)(e1:N.cn.md=M.md)(e2:N.cn.bk=M.bk)(e3:N.hz=M.hz)(e4:N.kz=M.kz)(e5:∀a,awy N.cn Y.L a=awy M.cn Y.L a/\atB N.cn Y.L a=atB M.cn Y.L a)(hk:M.kn=8)(ht:N.tn<1000000000)(hn:wrd n)(G:n=0):
 qC 76 #[.agg$ qA M,.agg$ qA N,.agg Y.v,qI 4,qI n] w (MQ3 w$ tkE M.cn N.cn Y.L 4 n):=by
 let⟨U,hU⟩:=aN$ (((w.alloc$ .cells (qA M) 43).alloc$ .cells (qA N) 43).alloc$ .cells Y.v 65).alloc$ .cells qZ 43
 have EU:Ev4 w M N Y U:=by
  have k1:=((Blk.new (w.alloc$ .cells (qA M) 43) (qA N) 43).alloc$ .cells Y.v 65).alloc$ .cells qZ 43;have k2:=(Blk.new ((w.alloc$ .cells (qA M) 43).alloc$ .cells (qA N) 43) Y.v 65).alloc$ .cells qZ 43;have k3:=Blk.new (((w.alloc$ .cells (qA M) 43).alloc$ .cells (qA N) 43).alloc$ .cells Y.v 65) z15 43;simp only[xF]at k1 k2 k3;rw[hU];exact⟨((bal.alloc Jb _).alloc Jc _).alloc Jc _,(((Blk.new _ _ _).alloc _).alloc _).alloc _,k1,k2,by simpa[z15]using k3⟩
 have aa:U.heap.size=w.heap.size+1+1+1+1:=by rw[hU];simp
 let⟨V,hV,bV,kV⟩:=nwb U (qT M.md M.bk 0) 121;rw[aa]at kV;have EV:=EU.bw bV;have F:=zb w λX b=>bE M k X$ H.bw b;have D:=zb w λX b=>bE N k X$ H'.bw b;have Q:=zb w λX b=>eP M Y n X (h.bw b) (K.bw b) hv hn;have E:=zh λ(X:qw)(b:qY w X)(c:N.hz.length≠0)=>lU N k Y X (h'.bw b) (H'.bw b) (K.bw b) (eY.trans eN.symm) s c ht;have O:=zh λ(m b t:Int)(X:qw)(bX:qY w X)=>pF N k Y m b t X (h'.bw bX) (H'.bw bX) (K.bw bX) (eY.trans eN.symm) s;have p:M.hz.length=M.hn:=h.h.1;have y:=zh hk
 have l:=zh (λ(X:qw)(b:qY w X)=>show ∃j x,M.ka=qe j x/\qN X j x=qj (M.kz.getD 0 0)by
  let⟨j,og,e⟩:=H.a.2;have q:=H.k.bw b;rw[e,hk]at q
  exact⟨j,og,e,by simpa using q.at 0 J⟩)
 let⟨R,hR⟩:=aN$ tkE M.cn N.cn Y.L 4 n;rw[<-hR];have HR:=zh hR;have HL:=zh$ xA K$ xA hv$ xA e1$ xA e2$ xA e3$ xA e4$ xA e5$ xA eY eN;let⟨m0,m1,m2,m3,m4,m5,m6,m7,m8,m9,a5,a6,a7,a8,a9⟩:=EV.m.mc;have:=EU.m.mc;have d:=zh$ xA EV kV;have HU:=zh hU;have HV:=zh hV;have B:=zh G;clear h H h' H' s K eY eN hv e1 e2 e3 e4 e5 hk ht hn G hU hV bV kV EU EV hR;let⟨n0,n1,n2,n3,n4,n5,n6,n7,n8,n9,a0,a1,a2,a3,a4⟩:=d.1.n.mc;have e3:=HL.2.2.2.2.1;have e4:=HL.2.2.2.2.2.1;by_cases c:M.hn=0
 .obtain rfl:R=(1,M.kz.getD 0 0,N.cn):=HR.trans (by
   have q:¬N.cn.hz.length≠0:=λq=>q (by show N.hz.length=0;rw[e3,p];exact c)
   have e:flw N.cn Y.L 4 n=(1,N.cn.kz.getD 0 0,N.cn):=by
    unfold flw;rw[if_neg Ja,if_neg Ja,if_neg (λz=>q z.2),if_pos (.inr rfl)]
   unfold tkE
   rw[e,if_neg (show ¬(1:Int)=5 from Ja),show N.cn.kz=M.kz from e4])
  have c':((M.hn:Int)==0)=true:=by rw[c];rfl
  let⟨j,x,C,x0⟩:=l V d.1.b
  have af:=zh (λ(X:qw)(b:qY V X)=>show qN X j x=qj (M.kz.getD 0 0)by
   let⟨ah,s,S,q⟩:=l X (d.1.bw b).b;rw[C]at S;cases S
   exact q)
  rw[C,y.o]at m6;have ae:=zb V λX b=>show qn X w 6=qk (qe j x) 8 M.kc by rw[<-C,<-y.o];exact(d.o.1.bw b).m.cell 6
  have:j<w.heap.size:=by
   let⟨ah,s,S,q⟩:=l w brf;rw[C]at S;cases S
   exact xD w _ q
  have u:=zb V λX b=>D X (d.1.bw b).b;obtain⟨q1,q2,q3,q4,q5,q6⟩:j≠w.heap.size+1+1+1/\w.heap.size+1+1+1≠j/\w.heap.size≠w.heap.size+1+1+1/\w.heap.size+1+1+1≠w.heap.size/\w.heap.size+1≠w.heap.size+1+1+1/\w.heap.size+1+1+1≠w.heap.size+1:=J
  have ad:=zh d.1.b.size;have ac:=zb V λX b=>(d.1.bw b).n.mc;have A:=zb V λX b=>show Blk X (w.heap.size+1+1+1) qZ 43/\qY w X/\w.heap.size<=w.heap.size+1+1+1 from⟨(d.1.bw b).r,(d.1.bw b).b,J⟩;clear e3 e4 p c C B Q E O F D l y
  delta qC;go_in
  go_wp2_with (first|rw[<-HU.o]|rw[<-HV.o])
  clear d;generalize w.heap.size+1=f at *;generalize f+1+1=zr at *
  go_region_held3 (λg=>qn g w 6=qk (qe j x) 8 M.kc/\qN g j x=qj (M.kz.getD 0 0)/\qN g f 0=qk N.ma N.mn N.mc/\qN g f 1=qj N.cs/\qN g f 2=qj N.cw/\qN g f 3=qj N.ck/\qN g f 4=qj N.cd/\qN g f 5=qj N.pc/\qN g f 6=qk N.ka N.kn N.kc/\qN g f 7=qk N.fa N.fn N.fc/\qN g f 8=qk N.ra N.rn N.rc/\qN g f 9=qk N.oa N.on N.oc/\qN g f 10=qj N.md/\qN g f 11=qj N.bk/\qN g f 12=qk N.la N.ln N.lc/\qN g f 13=qk N.ha N.hn N.hc/\qN g f 14=qj N.tn) (go_keep)
   (first|(go_at_call 23;(first|with_reducible refine(u.o _ brf).mono ?_|with_reducible refine(u.o _ brf.drew).mono ?_);rintro e X ⟨b,N',ag,aP,L,β,rfl,P,I,ab⟩;replace b:qY V X:=(by first|exact b|exact aW b);unfold mnV;have y0:=af.o X b;have y6:=ae.o X b;obtain⟨n0,n1,n2,n3,n4,n5,n6,n7,n8,n9,a0,a1,a2,a3,a4⟩:=ac.o X b;obtain⟨r0,r1,r2,r3,r4,r5,r6,r7,r8,r9,ai,aj,ak,am,an⟩:=(A.o X b).1.mc;have rf:=(A.o X b).1.frozen))
  have i:=zh$ xA (A X b)$ xA P$ xM ad I;clear b P I ab m0 m1 m2 m3 m4 m5 m6 m7 m8 m9 a5 a6 a7 a8 a9 n0 n1 n2 n3 n4 n5 n6 n7 n8 n9 a0 a1 a2 a3 a4 y0 y6;go_wp2;exact cY N' rfl i.1.1 rfl rfl rfl$ cX (r:=(1,M.kz.getD 0 0,N.cn)) i.1.2.1 i.1.1 i.1.2.2 i.2.1 i.2.2
 .obtain rfl:R=(4,0,lN N.cn N.L):=HR.trans (by
   have q:N.cn.hz.length≠0:=λq=>c (by rw[<-p,<-e3];exact q)
   have e:flw N.cn Y.L 4 n=(4,n,lN N.cn Y.L):=by
    unfold flw;rw[if_neg Ja,if_neg Ja,if_pos ⟨rfl,q⟩]
   unfold tkE
   rw[e,if_neg (show ¬(4:Int)=5 from Ja),B.o,HL.o.2.2.2.2.2.2.2.1,HL.o.2.2.2.2.2.2.2.2])
  have c':((M.hn:Int)==0)=false:=by simpa using c
  have l0:=d.1.l.six;have W:=zh (E.o V d.o.1.b (by rw[e3,p];exact c));clear e3 e4 p c B Q E O F D l
  delta qC;go_in
  go_wp2_with (first|rw[<-HU.o]|rw[<-HV.o])
  apply W.mono;rintro e X ⟨N',ag,aP,L,β,rfl,b,P,hb⟩;have EX:=d.1.bw b;have Z:=EX.r;unfold z15 at Z;let⟨r0,r1,r2,r3,r4,r5,r6,r7,r8,r9,ai,aj,ak,am,an⟩:=Z.mc;have rf:=Z.frozen;have i:=zh$ xA EX$ xA P$ xM d.1.b.size hb;clear b P hb EX Z m0 m1 m2 m3 m4 m5 m6 m7 m8 m9 a5 a6 a7 a8 a9 n0 n1 n2 n3 n4 n5 n6 n7 n8 n9 a0 a1 a2 a3 a4 l0;go_wp2;exact cY N' rfl i.1.r rfl rfl rfl$ cX (r:=(4,0,lN N.cn N.L)) i.1.b i.1.r J i.2.1 i.2.2
def aMc (M N S)(Y:Lyb)(n w)(h:MnD w M)(H:MnS w M S)(h':MnD w N)(H':MnS w N S)(Q:MOk N)(D:Y.T w)(eY:Y.L=M.L)(eN:N.L=M.L)(E:Cv M.cn Y.L)(e1:N.cn.md=M.md)(e2:N.cn.bk=M.bk)(e3:N.hz=M.hz)(e4:N.kz=M.kz)(e5:∀a,awy N.cn Y.L a=awy M.cn Y.L a/\atB N.cn Y.L a=atB M.cn Y.L a)(hk:M.kn=8)(ht:N.tn<1000000000)(hn:wrd n)  :
 qC 76 #[.agg$ qA M,.agg$ qA N,.agg Y.v,qI 3,qI n] w (MQ3 w$ tkE M.cn N.cn Y.L 3 n):=by
 obtain⟨U,hU⟩:=aN$ (((w.alloc$ .cells (qA M) 43).alloc$ .cells (qA N) 43).alloc$ .cells Y.v 65).alloc$ .cells qZ 43
 have EU:Ev4 w M N Y U:=by
  have k1:=((Blk.new (w.alloc$ .cells (qA M) 43) (qA N) 43).alloc$ .cells Y.v 65).alloc$ .cells qZ 43;have Z:=(Blk.new ((w.alloc$ .cells (qA M) 43).alloc$ .cells (qA N) 43) Y.v 65).alloc$ .cells qZ 43;have k3:=Blk.new (((w.alloc$ .cells (qA M) 43).alloc$ .cells (qA N) 43).alloc$ .cells Y.v 65) z15 43;simp only[xF]at k1 Z k3;rw[hU];exact⟨((bal.alloc Jb _).alloc Jc _).alloc Jc _,(((Blk.new _ _ _).alloc _).alloc _).alloc _,k1,Z,by simpa[z15]using k3⟩
 have a9:U.heap.size=w.heap.size+1+1+1+1:=by rw[hU];simp
 obtain⟨V,hV,bV,kV⟩:=nwb U (qT M.md M.bk 0) 121;rw[a9]at kV;have EV:=EU.bw bV;have a6:=zh λ(X:qw)(b:qY w X)=>bE M S X$ H.bw b;have au:=zh λ(X:qw)(b:qY w X)=>bE N S X$ H'.bw b;have ax:=zh λ(X:qw)(b:qY w X)=>eP M Y n X (h.bw b) (D.bw b) E hn;have aw:=zh λ(X:qw)(b:qY w X)(c:N.hz.length≠0)=>lU N S Y X (h'.bw b) (H'.bw b) (D.bw b) (eY.trans eN.symm) Q c ht;have ar:=zh λ(m b t:Int)(X:qw)(bX:qY w X)=>pF N S Y m b t X (h'.bw bX) (H'.bw bX) (D.bw bX) (eY.trans eN.symm) Q;have av:M.hz.length=M.hn:=h.h.1;have ap:=zh hk
 have aq:=zh (λ(X:qw)(b:qY w X)=>show ∃gk ok,M.ka=some (qR gk ok)/\X.cell? (qR gk ok)=some (qI$ M.kz.getD 0 0)by
  obtain⟨gk,og,e⟩:=H.a.2;have q:=H.k.bw b;rw[e,hk]at q
  exact⟨gk,og,e,by simpa using q.at 0 J⟩)
 obtain⟨R,hR⟩:=aN$ tkE M.cn N.cn Y.L 3 n;rw[<-hR];have HR:=zh hR;have B:=zh$ xA D$ xA E$ xA e1$ xA e2$ xA e3$ xA e4$ xA e5$ xA eY eN;obtain⟨m0,m1,m2,m3,m4,m5,m6,m7,m8,m9,a0,a1,a2,a3,a4⟩:=EV.m.mc;obtain⟨u0,u1,u2,u3,u4,u5,u6,u7,u8,u9,az,b0,b1,b2,b3⟩:=EU.m.mc;have d:=zh$ xA EV kV;have HU:=zh hU;have HV:=zh hV;have a7:=zh hn;clear h H h' H' Q D eY eN E e1 e2 e3 e4 e5 hk ht hn hU hV bV kV EU EV hR;obtain⟨l0,l1,l2,l3,l4,l5,_⟩:=d.o.1.l.six;have E:=B.o.2.1;have hp:=E.n.1;obtain⟨b7,b8⟩:=a7.o;have hT:=(B.o.1.bw d.o.1.b).t
 have el:Y.ts.length=M.cn.ps.length:=by
  have:=congrArg List.length B.o.1.tt;rw[E.e,show lkL M.cn.ps M.cn.cs M.cn.cw M.cn.ck M.cn.cd=lay M.cn.ps M.cn.cs M.cn.cw M.cn.ck by unfold lkL;rw[if_pos E.k]]at this;simpa[lay]using this
 obtain⟨b4,b6⟩:0<=M.md/\M.md<(Y.ts.length:Int):=by
  have F:0<=pcq M.cn.ps M.md M.bk:=hp;rw[el];unfold pcq at F;split at F
  .assumption
  .exact absurd F Ja
 obtain⟨b5,o5,ea,ec⟩:=hT.at M.md.toNat J;have u:=zh λ(X:qw)(h:Y.T X)=>show TgS X (Y.ts.getD M.md.toNat zTB).2.1 (Y.ts.getD M.md.toNat zTB).1.length (Y.ts.getD M.md.toNat zTB).2.2 (Y.ts.getD M.md.toNat zTB).1 from h.t.2.2.2.1 M.md.toNat J;have D:=Lyb.tgl B.o.1 M.md.toNat;rw[ea]at l5;unfold svT at ec;have K:tgl N.cn Y.L=(Y.ts.getD M.md.toNat zTB).1:=by rw[D];unfold tgl;rw[B.o.2.2.1]
 have y:Zh (¬n<((Y.ts.getD M.md.toNat zTB).1.length:Int)->R=(5,8,M.cn)):=λc=>HR.o.trans (by
  have e:flw N.cn Y.L 3 n=(5,8,N.cn):=by unfold flw;rw[if_neg Ja,if_pos rfl,K,if_neg c]
  unfold tkE;rw[e]
  rfl)
 have s:Zh (n<((Y.ts.getD M.md.toNat zTB).1.length:Int)->∀x,x=(Y.ts.getD M.md.toNat zTB).1.getD n.toNat zT->R=if gL N.cn Y.L x.1 x.2.1 x.2.2=0 then (3,0,tM N.cn Y.L x.1 x.2.1 x.2.2) else (5,gL N.cn Y.L x.1 x.2.1 x.2.2,M.cn)):=λc x hx=>HR.o.trans (aSy Ja (by unfold flw;rw[if_neg Ja,if_pos rfl,K,if_pos c,hx]) Ja);generalize Y.ts.getD M.md.toNat zTB=T at *;obtain⟨tz,ta,tc⟩:=T;dsimp only at u y s ec;clear E hp hT el D K av aw au aq ap HR a7 ax ea;by_cases c:n<(tz.length:Int)
 .obtain⟨bt,ot,et,x0,x1,x2⟩:=(u.o V$ B.o.1.bw d.o.1.b).at n.toNat J;have HB:=zh$ s.o c _ rfl;subst et;generalize tz.getD n.toNat zT=x at *;obtain⟨xm,g,C⟩:=x;dsimp only at HB x0 x1 x2;have kT:=d.o.2;obtain⟨t0,t1,t2,tf⟩:=kT.three;have T2:=((aM V (w.heap.size+1+1+1+1) 0$ qI xm).trans$ aM _ (w.heap.size+1+1+1+1) 1$ qI g).trans$ aM _ (w.heap.size+1+1+1+1) 2$ qI C;have Z:=((kT.set 0$ qI xm).set 1$ qI g).set 2$ qI C;obtain⟨V2,a5⟩:=aN$ ((V.setCell (qR (w.heap.size+1+1+1+1) 0)$ qI xm).setCell (qR (w.heap.size+1+1+1+1) 1)$ qI g).setCell (qR (w.heap.size+1+1+1+1) 2)$ qI C;rw[<-a5]at T2 Z;have l:=zh$ d.o.1.box J T2;have ay:Zh (Blk V2 (w.heap.size+1+1+1+1) (qT xm g C) 121):=by show Blk _ _ _ _;simpa using Z
  have aa:=zh a5;clear y s u T2 Z kT a5 d B;obtain⟨n0,n1,n2,n3,n4,n5,n6,n7,n8,n9,ae,af,ag,ah,ai⟩:=l.o.n.mc;obtain⟨p0,p1,p2,p3,p4,p5,_⟩:=l.o.l.six;obtain⟨y0,y1,y2,_⟩:=ay.o.three;have a8:=zh$ ar.o xm g C V2 l.o.b;generalize gL N.cn Y.L xm g C=k at *;go_enter func76,ntmps76
  go_wp2_with (first|rw[<-HU.o]|rw[<-HV.o]|rw[<-aa.o])
  apply a8.o.mono;rintro e X ⟨b,W,ac,aP,L,β,rfl,A,hq⟩;unfold mnV;obtain⟨XO,ad,bO,kO⟩:=nwb X (qA W) 43;have ab:=zh ad;have j:=zh$ (l.o.bw b).bw bO;clear a9 p0 p1 p2 p3 p4 p5 x0 x1 x2 ec u0 u1 u2 u3 u4 u5 u6 u7 u8 u9 az b0 b1 b2 b3 m0 m1 m2 m3 m4 m5 m6 m7 m8 m9 a0 a1 a2 a3 a4 t0 t1 t2 tf y0 y1 y2 aa HU HV n0 n1 n2 n3 n4 n5 n6 n7 n8 n9 ae af ag ah ai l0 l1 l2 l3 l4 l5 a8 ad;by_cases c:k=0
  .subst c;obtain rfl:=HB.o;obtain⟨n0,n1,n2,n3,n4,n5,n6,n7,n8,n9,ae,af,ag,ah,ai⟩:=kO.mc;have i:=j.o.r;unfold z15 at i;obtain⟨r0,r1,r2,r3,r4,r5,r6,r7,r8,r9,aj,ak,am,an,ao⟩:=i.mc;have rf:=i.frozen;have f:=zh$ xA j.o$ xA (A.bw bO)$ xM l.o.b.size hq;clear b A hq i bO kO;go_wp2_with (rw[<-ab.o])
   exact cY W rfl f.o.1.r rfl rfl rfl$ cX (r:=(3,0,tM N.cn Y.L xm g C)) f.o.1.b f.o.1.r J (by simpa using f.o.2.1) f.o.2.2
  .obtain rfl:=HB.o.trans$ if_neg c;have c':(k !=0)=true:=by simpa using c
   clear b A hq bO kO c HB;obtain⟨m0,m1,m2,m3,m4,m5,m6,m7,m8,m9,a0,a1,a2,a3,a4⟩:=j.o.m.mc;have G:=zh$ a6.o XO j.o.b;go_wp2_with (rw[<-ab.o])
   apply G.o.mono;rintro e XA ⟨b,W,ac,aP,L,β,rfl,A,p,I⟩;unfold mnV;have P:=j.o.bw b;have i:=P.r;unfold z15 at i;obtain⟨r0,r1,r2,r3,r4,r5,r6,r7,r8,r9,aj,ak,am,an,ao⟩:=i.mc;have rf:=i.frozen;have f:=zh$ xA P$ xA A$ xM j.o.b.size p;clear b A p I P i m0 m1 m2 m3 m4 m5 m6 m7 m8 m9 a0 a1 a2 a3 a4;go_wp2;exact cY W rfl f.o.1.r rfl rfl rfl$ cX (r:=(5,k,M.cn)) f.o.1.b f.o.1.r J f.o.2.1 f.o.2.2
 .obtain rfl:=y.o c;have O:=zh d.o.1;clear y s u B d;go_enter func76,ntmps76
  have G:=zh$ a6.o V O.o.b;go_wp2_with (first|rw[<-HU.o]|rw[<-HV.o])
  apply G.o.mono;rintro e XA ⟨b,W,ac,aP,L,β,rfl,A,p,I⟩;unfold mnV;have P:=O.o.bw b;have i:=P.r;unfold z15 at i;obtain⟨r0,r1,r2,r3,r4,r5,r6,r7,r8,r9,aj,ak,am,an,ao⟩:=i.mc;have rf:=i.frozen;have f:=zh$ xA P$ xA A$ xM O.o.b.size p;clear b A p I P i m0 m1 m2 m3 m4 m5 m6 m7 m8 m9 a0 a1 a2 a3 a4;go_wp2;exact cY W rfl f.o.1.r rfl rfl rfl$ cX (r:=(5,8,M.cn)) f.o.1.b f.o.1.r J f.o.2.1 f.o.2.2
def aMd (M N g)(Y:Lyb)(n w)(h:MnD w M)(H:MnS w M g)(h':MnD w N)(H':MnS w N g)(F:MOk N)(Q:Y.T w)(eY:Y.L=M.L)(eN:N.L=M.L)(hv:Cv M.cn Y.L)(e1:N.cn.md=M.md)(e2:N.cn.bk=M.bk)(e3:N.hz=M.hz)(e4:N.kz=M.kz)(e5:∀a,awy N.cn Y.L a=awy M.cn Y.L a/\atB N.cn Y.L a=atB M.cn Y.L a)(hk:M.kn=8)(ht:N.tn<1000000000)(hn:wrd n)  :
 qC 76 #[.agg$ qA M,.agg$ qA N,.agg Y.v,qI 2,qI n] w (MQ3 w$ tkE M.cn N.cn Y.L 2 n):=by
 obtain⟨U,hU⟩:=aN$ (((w.alloc$ .cells (qA M) 43).alloc$ .cells (qA N) 43).alloc$ .cells Y.v 65).alloc$ .cells qZ 43
 have EU:Ev4 w M N Y U:=by
  have k1:=((Blk.new (w.alloc$ .cells (qA M) 43) (qA N) 43).alloc$ .cells Y.v 65).alloc$ .cells qZ 43;have I:=(Blk.new ((w.alloc$ .cells (qA M) 43).alloc$ .cells (qA N) 43) Y.v 65).alloc$ .cells qZ 43;have k3:=Blk.new (((w.alloc$ .cells (qA M) 43).alloc$ .cells (qA N) 43).alloc$ .cells Y.v 65) z15 43;simp only[xF]at k1 I k3;rw[hU];exact⟨((bal.alloc Jb _).alloc Jc _).alloc Jc _,(((Blk.new _ _ _).alloc _).alloc _).alloc _,k1,I,by simpa[z15]using k3⟩
 have P:U.heap.size=w.heap.size+1+1+1+1:=by rw[hU];simp
 obtain⟨V,hV,bV,kV⟩:=nwb U (qT M.md M.bk 0) 121;rw[P]at kV;have EV:=EU.bw bV;have K:=zh λ(X:qw)(b:qY w X)=>bE M g X$ H.bw b;have am:=zh λ(X:qw)(b:qY w X)=>bE N g X$ H'.bw b;have ap:=zh λ(X:qw)(b:qY w X)=>eP M Y n X (h.bw b) (Q.bw b) hv hn;have ao:=zh λ(X:qw)(b:qY w X)(c:N.hz.length≠0)=>lU N g Y X (h'.bw b) (H'.bw b) (Q.bw b) (eY.trans eN.symm) F c ht;have ak:=zh λ(m b t:Int)(X:qw)(bX:qY w X)=>pF N g Y m b t X (h'.bw bX) (H'.bw bX) (Q.bw bX) (eY.trans eN.symm) F;have an:M.hz.length=M.hn:=h.h.1;have ai:=zh hk
 have aj:=zh (λ(X:qw)(b:qY w X)=>show ∃gk ok,M.ka=some (qR gk ok)/\X.cell? (qR gk ok)=some (qI$ M.kz.getD 0 0)by
  obtain⟨gk,og,e⟩:=H.a.2;have q:=H.k.bw b;rw[e,hk]at q
  exact⟨gk,og,e,by simpa using q.at 0 J⟩)
 obtain⟨R,hR⟩:=aN$ tkE M.cn N.cn Y.L 2 n;rw[<-hR];have HR:=zh hR;have HL:=zh$ xA Q$ xA hv$ xA e1$ xA e2$ xA e3$ xA e4$ xA e5$ xA eY eN;obtain⟨C,S,m2,m3,m4,m5,m6,m7,m8,m9,a0,a1,a2,a3,a4⟩:=EV.m.mc;obtain⟨u0,u1,u2,u3,u4,u5,u6,u7,u8,u9,ar,au,av,aw,ax⟩:=EU.m.mc;have j:=zh$ xA EV kV;have HU:=zh hU;have HV:=zh hV;clear h H h' H' F Q eY eN hv e1 e2 e3 e4 e5 hk ht hn hU hV bV kV EU EV hR;obtain⟨l0,l1,l2,l3,l4,l5,_⟩:=j.o.1.l.six;have x:=zh$ ap.o V j.o.1.b;have e5:=HL.o.2.2.2.2.2.2.1 n;have HW:=zh$ show R=tkE M.cn N.cn Y.L 2 n from HR.o
 have B:Zh (atB M.cn Y.L n=false->R=(5,5,M.cn)):=λc=>HW.o.trans (by
  have e:flw N.cn Y.L 2 n=(5,5,N.cn):=by unfold flw;rw[if_pos rfl,e5.2,c];rfl
  unfold tkE;rw[e]
  rfl)
 have A:Zh (atB M.cn Y.L n=true->R=if gL N.cn Y.L M.md M.bk (awy M.cn Y.L n/4)=0 then (2,0,tM N.cn Y.L M.md M.bk$ awy M.cn Y.L n/4) else (5,gL N.cn Y.L M.md M.bk$ awy M.cn Y.L n/4,M.cn)):=λc=>HW.o.trans (aSy Ja (by unfold flw;rw[if_pos rfl,e5.2,c,if_pos rfl,e5.1,HL.o.2.2.1,HL.o.2.2.2.1]) Ja);clear e5 an ao am aj ai HR HW;generalize atB M.cn Y.L n=a at *;generalize awy M.cn Y.L n/4=z at *;go_enter func76,ntmps76
 go_wp2_with (first|rw[<-HU.o]|rw[<-HV.o])
 apply x.o.mono;rintro e X ⟨rfl,b⟩;have s:=zh$ j.o.1.bw b;have kT:=j.o.2.bw b;clear b C S m2 m3 m4 m5 m6 m7 m8 m9 a0 a1 a2 a3 a4 u0 u1 u2 u3 u4 u5 u6 u7 u8 u9 ar au av aw ax l0 l1 l2 l3 l4 l5 x HU HV j P;cases a
 .obtain rfl:=B.o rfl;clear B A;obtain⟨C,S,m2,m3,m4,m5,m6,m7,m8,m9,a0,a1,a2,a3,a4⟩:=s.o.m.mc;have y:=zh$ K.o X s.o.b;go_wp2_with fail
  apply y.o.mono;rintro e XA ⟨b,G,a6,aP,L,β,rfl,u,p,D⟩;unfold mnV;have E:=s.o.bw b;have f:=E.r;unfold z15 at f;obtain⟨r0,r1,r2,r3,r4,r5,r6,r7,r8,r9,ad,ae,af,ag,ah⟩:=f.mc;have rf:=f.frozen;have d:=zh$ xA E$ xA u$ xM s.o.b.size p;clear b u p D E f C S m2 m3 m4 m5 m6 m7 m8 m9 a0 a1 a2 a3 a4;go_wp2;exact cY G rfl d.o.1.r rfl rfl rfl$ cX (r:=(5,5,M.cn)) d.o.1.b d.o.1.r J d.o.2.1 d.o.2.2
 .rw[if_pos rfl];obtain⟨t0,t1,t2,tf⟩:=kT.three;have T2:=aM X (w.heap.size+1+1+1+1) 2$ qI z;have I:=kT.set 2$ qI z;obtain⟨V2,a5⟩:=aN$ X.setCell (qR (w.heap.size+1+1+1+1) 2)$ qI z;rw[<-a5]at T2 I;have l:=zh$ s.o.box J T2;have aq:Zh (Blk V2 (w.heap.size+1+1+1+1) (qT M.md M.bk z) 121):=by show Blk _ _ _ _;simpa using I
  have HB:=zh$ A.o rfl;have W:=zh a5;clear B A T2 I kT a5;obtain⟨n0,n1,n2,n3,n4,n5,n6,n7,n8,n9,a8,a9,aa,ab,ac⟩:=l.o.n.mc;obtain⟨l0,l1,l2,l3,l4,l5,_⟩:=l.o.l.six;obtain⟨y0,y1,y2,_⟩:=aq.o.three;have O:=zh$ ak.o M.md M.bk z V2 l.o.b;generalize gL N.cn Y.L M.md M.bk z=k at *;go_wp2_with (rw[<-W.o])
  apply O.o.mono;rintro e X ⟨b,G,a6,aP,L,β,rfl,u,hq⟩;unfold mnV;obtain⟨XO,a7,bO,kO⟩:=nwb X (qA G) 43;have Z:=zh a7;have i:=zh$ (l.o.bw b).bw bO;clear t0 t1 t2 tf y0 y1 y2 W n0 n1 n2 n3 n4 n5 n6 n7 n8 n9 a8 a9 aa ab ac l0 l1 l2 l3 l4 l5 O a7;by_cases c:k=0
  .subst c;obtain rfl:=HB.o;obtain⟨n0,n1,n2,n3,n4,n5,n6,n7,n8,n9,a8,a9,aa,ab,ac⟩:=kO.mc;have f:=i.o.r;unfold z15 at f;obtain⟨r0,r1,r2,r3,r4,r5,r6,r7,r8,r9,ad,ae,af,ag,ah⟩:=f.mc;have rf:=f.frozen;have d:=zh$ xA i.o$ xA (u.bw bO)$ xM l.o.b.size hq;clear b u hq f bO kO;go_wp2_with (rw[<-Z.o])
   exact cY G rfl d.o.1.r rfl rfl rfl$ cX (r:=(2,0,tM N.cn Y.L M.md M.bk z)) d.o.1.b d.o.1.r J (by simpa using d.o.2.1) d.o.2.2
  .obtain rfl:=HB.o.trans$ if_neg c;have:(k !=0)=true:=by simpa using c
   clear b u hq bO kO c HB;obtain⟨C,S,m2,m3,m4,m5,m6,m7,m8,m9,a0,a1,a2,a3,a4⟩:=i.o.m.mc;have y:=zh$ K.o XO i.o.b;go_wp2_with (rw[<-Z.o])
   apply y.o.mono;rintro e XA ⟨b,G,a6,aP,L,β,rfl,u,p,D⟩;unfold mnV;have E:=i.o.bw b;have f:=E.r;unfold z15 at f;obtain⟨r0,r1,r2,r3,r4,r5,r6,r7,r8,r9,ad,ae,af,ag,ah⟩:=f.mc;have rf:=f.frozen;have d:=zh$ xA E$ xA u$ xM i.o.b.size p;clear b u p D E f C S m2 m3 m4 m5 m6 m7 m8 m9 a0 a1 a2 a3 a4;go_wp2;exact cY G rfl d.o.1.r rfl rfl rfl$ cX (r:=(5,k,M.cn)) d.o.1.b d.o.1.r J d.o.2.1 d.o.2.2
