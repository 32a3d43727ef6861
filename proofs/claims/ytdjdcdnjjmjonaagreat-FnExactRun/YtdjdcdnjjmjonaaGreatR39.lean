import Derived.Test.YtdjdcdnjjmjonaaGreatR37
import Derived.Test.YtdjdcdnjjmjonaaGreatR38
set_option linter.all false
set_option maxHeartbeats 4000000
namespace Go.Proofs.YtdjdcdnjjmjonaaGreat
open Go.RowKit
open Go.Proofs.Tryz
set_option maxRecDepth 100000
variable {C N:Cn}{L:Lay}{M:Mn}{Y:Lyb}{base k aN q:Nat}{n:Int}{β:Nat->Nat}
def tkE (C N:Cn)(L:Lay)(d n:Int):Int×Int×Cn:=if (flw N L d n).1=5 then (5,(flw N L d n).2.1,C) else flw N L d n
theorem aTw {d e m b t:Int}(hd:d≠5)(h:flw N L d n=cld N L e m b t)(a:e≠5):tkE C N L d n=if gC N L m b t=0 then (e,0,vD N L m b t) else (5,gC N L m b t,C):=by
 unfold tkE;rw[h];unfold cld
 grind
abbrev Lyb.v (Y:Lyb):Array Value:=qL Y.L Y.a0 Y.xs.length Y.c0 Y.a2 Y.L.slots.length Y.c2 Y.a5 Y.ts.length Y.c5
structure Ev4 (w:qw)(M N:Mn)(Y:Lyb)(X:qw):Prop where
 b:qY w X
 m:Blk X w.heap.size (qA M) 43
 n:Blk X (w.heap.size+1) (qA N) 43
 l:Blk X (w.heap.size+1+1) Y.v 65
 r:Blk X (w.heap.size+1+1+1) z15 43
def Ev4.bw {w X X':qw}{N:Mn}(h:Ev4 w M N Y X)(b:qY X X'):Ev4 w M N Y X':=⟨h.b.trans$ b.mono h.b.size,h.m.bw b,h.n.bw b,h.l.bw b,h.r.bw b⟩
def Ev4.box {w X X':qw}{N:Mn}(h:Ev4 w M N Y X)(b:w.heap.size+1+1+1<q)(T:Turn (λj=>j=q) X X'):Ev4 w M N Y X':=
 ⟨aF h.b T (λj a=>J) h.b.size,aC T h.m λe=>J,aC T h.n λe=>J,aC T h.l λe=>J,aC T h.r λe=>J⟩
def aM4 (M N C)(Y:Lyb)(n w)(h:MnD w M)(H:MnS w M C)(h':MnD w N)(H':MnS w N C)(p:MOk N)(E:Y.T w)(eY:Y.L=M.L)(Z:N.L=M.L)(hv:Cv M.cn Y.L)(e1:N.cn.md=M.md)(e2:N.cn.bk=M.bk)(e3:N.hz=M.hz)(e4:N.kz=M.kz)(e5:∀a,awy N.cn Y.L a=awy M.cn Y.L a/\atB N.cn Y.L a=atB M.cn Y.L a)(hk:M.kn=8)(ht:N.tn<1000000000)(hn:wrd n)(G:n=0):
 qC 76 #[.agg$ qA M,.agg$ qA N,.agg Y.v,qI 4,qI n] w (MQ3 w$ tkE M.cn N.cn Y.L 4 n):=by
 let⟨U,hU⟩:=aO$ (((w.alloc$ .cells (qA M) 43).alloc$ .cells (qA N) 43).alloc$ .cells Y.v 65).alloc$ .cells qZ 43
 have EU:Ev4 w M N Y U:=by
  have k1:=((Blk.new (w.alloc$ .cells (qA M) 43) (qA N) 43).alloc$ .cells Y.v 65).alloc$ .cells qZ 43;have k2:=(Blk.new ((w.alloc$ .cells (qA M) 43).alloc$ .cells (qA N) 43) Y.v 65).alloc$ .cells qZ 43;have k3:=Blk.new (((w.alloc$ .cells (qA M) 43).alloc$ .cells (qA N) 43).alloc$ .cells Y.v 65) z15 43;simp only[xF]at k1 k2 k3;rw[hU];exact⟨((bal.alloc Jb _).alloc Jc _).alloc Jc _,(((Blk.new _ _ _).alloc _).alloc _).alloc _,k1,k2,by simpa[z15]using k3⟩
 have aa:U.heap.size=w.heap.size+1+1+1+1:=by rw[hU];simp
 let⟨V,hV,bV,kV⟩:=nwb U (qT M.md M.bk 0) 121;rw[aa]at kV;have EV:=EU.bw bV;have O:=zb w λX b=>bD M C X$ H.bw b;have B:=zb w λX b=>bD N C X$ H'.bw b;have I:=zb w λX b=>eZ M Y n X (h.bw b) (E.bw b) hv hn;have A:=zh λ(X:qw)(b:qY w X)(c:N.hz.length≠0)=>lS N C Y X (h'.bw b) (H'.bw b) (E.bw b) (eY.trans Z.symm) p c ht;have P:=zh λ(m b t:Int)(X:qw)(bX:qY w X)=>pK N C Y m b t X (h'.bw bX) (H'.bw bX) (E.bw bX) (eY.trans Z.symm) p;have j:M.hz.length=M.hn:=h.h.1;have u:=zh hk
 have l:=zh (λ(X:qw)(b:qY w X)=>show ∃g x,M.ka=qe g x/\qN X g x=qj (M.kz.getD 0 0)by
  let⟨g,og,e⟩:=H.a.2;have q:=H.k.bw b;rw[e,hk]at q
  exact⟨g,og,e,by simpa using q.at 0 J⟩)
 let⟨R,hR⟩:=aO$ tkE M.cn N.cn Y.L 4 n;rw[<-hR];have HR:=zh hR;have W:=zh$ xA E$ xA hv$ xA e1$ xA e2$ xA e3$ xA e4$ xA e5$ xA eY Z;let⟨m0,m1,m2,m3,m4,m5,m6,m7,m8,m9,a1,a2,a3,a4,a5⟩:=EV.m.mc;have:=EU.m.mc;have d:=zh$ xA EV kV;have HU:=zh hU;have HV:=zh hV;have y:=zh G;clear h H h' H' p E eY Z hv e1 e2 e3 e4 e5 hk ht hn G hU hV bV kV EU EV hR;have n0:=d.1.n.mc;have e3:=W.2.2.2.2.1;have e4:=W.2.2.2.2.2.1;by_cases c:M.hn=0
 .obtain rfl:R=(1,M.kz.getD 0 0,N.cn):=HR.trans (by
   have q:¬N.cn.hz.length≠0:=λq=>q (by show N.hz.length=0;rw[e3,j];exact c)
   have e:flw N.cn Y.L 4 n=(1,N.cn.kz.getD 0 0,N.cn):=by
    unfold flw;rw[if_neg Ja,if_neg Ja,if_neg (λz=>q z.2),if_pos (.inr rfl)]
   unfold tkE
   rw[e,if_neg (show ¬(1:Int)=5 from Ja),show N.cn.kz=M.kz from e4])
  have c':((M.hn:Int)==0)=true:=by rw[c];rfl
  let⟨g,x,ea,x0⟩:=l V d.1.b
  have a8:=zh (λ(X:qw)(b:qY V X)=>show qN X g x=qj (M.kz.getD 0 0)by
   let⟨ad,p,a0,q⟩:=l X (d.1.bw b).b;rw[ea]at a0;cases a0
   exact q)
  rw[ea,u.o]at m6;have a9:=zb V λX b=>show qn X w 6=qk (qe g x) 8 M.kc by rw[<-ea,<-u.o];exact(d.o.1.bw b).m.cell 6
  have:g<w.heap.size:=by
   let⟨ad,p,a0,q⟩:=l w brf;rw[ea]at a0;cases a0
   exact xD w _ q
  have s:=zb V λX b=>B X (d.1.bw b).b;obtain⟨q1,q2,q3,q4,q5,q6⟩:g≠w.heap.size+1+1+1/\w.heap.size+1+1+1≠g/\w.heap.size≠w.heap.size+1+1+1/\w.heap.size+1+1+1≠w.heap.size/\w.heap.size+1≠w.heap.size+1+1+1/\w.heap.size+1+1+1≠w.heap.size+1:=J
  have ab:=zh d.1.b.size;have a6:=zb V λX b=>(d.1.bw b).n.mc;have D:=zb V λX b=>show Blk X (w.heap.size+1+1+1) qZ 43/\qY w X/\w.heap.size<=w.heap.size+1+1+1 from⟨(d.1.bw b).r,(d.1.bw b).b,J⟩;clear e3 e4 j c ea y I A P O B l u
  delta qC;go_in
  go_wp2_with (first|rw[<-HU.o]|rw[<-HV.o])
  clear d;generalize w.heap.size+1=f at *;generalize f+1+1=zr at *
  go_region_held3 (λk=>qn k w 6=qk (qe g x) 8 M.kc/\qN k g x=qj (M.kz.getD 0 0)/\qN k f 0=qk N.ma N.mn N.mc/\qN k f 1=qj N.cs/\qN k f 2=qj N.cw/\qN k f 3=qj N.ck/\qN k f 4=qj N.cd/\qN k f 5=qj N.pc/\qN k f 6=qk N.ka N.kn N.kc/\qN k f 7=qk N.fa N.fn N.fc/\qN k f 8=qk N.ra N.rn N.rc/\qN k f 9=qk N.oa N.on N.oc/\qN k f 10=qj N.md/\qN k f 11=qj N.bk/\qN k f 12=qk N.la N.ln N.lc/\qN k f 13=qk N.ha N.hn N.hc/\qN k f 14=qj N.tn) (go_keep)
   (first|(go_at_call 23;(first|with_reducible refine(s.o _ brf).mono ?_|with_reducible refine(s.o _ brf.drew).mono ?_);rintro e X ⟨b,N',ac,aN,L,β,rfl,Q,K,a7⟩;replace b:qY V X:=(by first|exact b|exact aU b);unfold mnV;have y0:=a8.o X b;have y6:=a9.o X b;have n0:=a6.o X b;have r0:=(D.o X b).1.mc;have rf:=(D.o X b).1.frozen))
  have i:=zh$ xA (D X b)$ xA Q$ xM ab K;clear b Q K a7 m0 m1 m2 m3 m4 m5 m6 m7 m8 m9 a1 a2 a3 a4 a5 n0 y0 y6;go_wp2;exact dY N' rfl i.1.1 rfl rfl rfl$ eM (r:=(1,M.kz.getD 0 0,N.cn)) i.1.2.1 i.1.1 i.1.2.2 i.2.1 i.2.2
 .obtain rfl:R=(4,0,mQ N.cn N.L):=HR.trans (by
   have q:N.cn.hz.length≠0:=λq=>c (by rw[<-j,<-e3];exact q)
   have e:flw N.cn Y.L 4 n=(4,n,mQ N.cn Y.L):=by
    unfold flw;rw[if_neg Ja,if_neg Ja,if_pos ⟨rfl,q⟩]
   unfold tkE
   rw[e,if_neg (show ¬(4:Int)=5 from Ja),y.o,W.o.2.2.2.2.2.2.2.1,W.o.2.2.2.2.2.2.2.2])
  have c':((M.hn:Int)==0)=false:=by simpa using c
  have l0:=d.1.l.six;have S:=zh (A.o V d.o.1.b (by rw[e3,j];exact c));clear e3 e4 j c y I A P O B l
  delta qC;go_in
  go_wp2_with (first|rw[<-HU.o]|rw[<-HV.o])
  apply S.mono;rintro e X ⟨N',ac,aN,L,β,rfl,b,Q,hb⟩;have EX:=d.1.bw b;have KR:=EX.r;unfold z15 at KR;have r0:=KR.mc;have rf:=KR.frozen;have i:=zh$ xA EX$ xA Q$ xM d.1.b.size hb;clear b Q hb EX KR m0 m1 m2 m3 m4 m5 m6 m7 m8 m9 a1 a2 a3 a4 a5 n0 l0;go_wp2;exact dY N' rfl i.1.r rfl rfl rfl$ eM (r:=(4,0,mQ N.cn N.L)) i.1.b i.1.r J i.2.1 i.2.2
def aM5 (M N Ls)(Y:Lyb)(n w)(h:MnD w M)(H:MnS w M Ls)(h':MnD w N)(H':MnS w N Ls)(Q:MOk N)(A:Y.T w)(eY:Y.L=M.L)(eN:N.L=M.L)(D:Cv M.cn Y.L)(e1:N.cn.md=M.md)(e2:N.cn.bk=M.bk)(e3:N.hz=M.hz)(e4:N.kz=M.kz)(e5:∀a,awy N.cn Y.L a=awy M.cn Y.L a/\atB N.cn Y.L a=atB M.cn Y.L a)(hk:M.kn=8)(ht:N.tn<1000000000)(hn:wrd n)  :
 qC 76 #[.agg$ qA M,.agg$ qA N,.agg Y.v,qI 3,qI n] w (MQ3 w$ tkE M.cn N.cn Y.L 3 n):=by
 obtain⟨U,hU⟩:=aO$ (((w.alloc$ .cells (qA M) 43).alloc$ .cells (qA N) 43).alloc$ .cells Y.v 65).alloc$ .cells qZ 43
 have EU:Ev4 w M N Y U:=by
  have k1:=((Blk.new (w.alloc$ .cells (qA M) 43) (qA N) 43).alloc$ .cells Y.v 65).alloc$ .cells qZ 43;have S:=(Blk.new ((w.alloc$ .cells (qA M) 43).alloc$ .cells (qA N) 43) Y.v 65).alloc$ .cells qZ 43;have k3:=Blk.new (((w.alloc$ .cells (qA M) 43).alloc$ .cells (qA N) 43).alloc$ .cells Y.v 65) z15 43;simp only[xF]at k1 S k3;rw[hU];exact⟨((bal.alloc Jb _).alloc Jc _).alloc Jc _,(((Blk.new _ _ _).alloc _).alloc _).alloc _,k1,S,by simpa[z15]using k3⟩
 have a4:U.heap.size=w.heap.size+1+1+1+1:=by rw[hU];simp
 obtain⟨V,hV,bV,kV⟩:=nwb U (qT M.md M.bk 0) 121;rw[a4]at kV;have EV:=EU.bw bV;have a2:=zh λ(X:qw)(b:qY w X)=>bD M Ls X$ H.bw b;have af:=zh λ(X:qw)(b:qY w X)=>bD N Ls X$ H'.bw b;have ab:=zh λ(X:qw)(b:qY w X)=>eZ M Y n X (h.bw b) (A.bw b) D hn;have ae:=zh λ(X:qw)(b:qY w X)(c:N.hz.length≠0)=>lS N Ls Y X (h'.bw b) (H'.bw b) (A.bw b) (eY.trans eN.symm) Q c ht;have ad:=zh λ(m b t:Int)(X:qw)(bX:qY w X)=>pK N Ls Y m b t X (h'.bw bX) (H'.bw bX) (A.bw bX) (eY.trans eN.symm) Q;have a8:M.hz.length=M.hn:=h.h.1;have ac:=zh hk
 have aa:=zh (λ(X:qw)(b:qY w X)=>show ∃gk ok,M.ka=some (qR gk ok)/\X.cell? (qR gk ok)=some (qI$ M.kz.getD 0 0)by
  obtain⟨gk,og,e⟩:=H.a.2;have q:=H.k.bw b;rw[e,hk]at q
  exact⟨gk,og,e,by simpa using q.at 0 J⟩)
 obtain⟨R,hR⟩:=aO$ tkE M.cn N.cn Y.L 3 n;rw[<-hR];have HR:=zh hR;have B:=zh$ xA A$ xA D$ xA e1$ xA e2$ xA e3$ xA e4$ xA e5$ xA eY eN;have m0:=EV.m.mc;have u0:=EU.m.mc;have d:=zh$ xA EV kV;have HU:=zh hU;have HV:=zh hV;have a1:=zh hn;clear h H h' H' Q A eY eN D e1 e2 e3 e4 e5 hk ht hn hU hV bV kV EU EV hR;obtain⟨l0,l1,l2,l3,l4,l5,_⟩:=d.o.1.l.six;have D:=B.o.2.1;have hp:=D.n.1;obtain⟨ai,aj⟩:=a1.o;have hT:=(B.o.1.bw d.o.1.b).t
 have el:Y.ts.length=M.cn.ps.length:=by
  have:=congrArg List.length B.o.1.tt;rw[D.e,show lkL M.cn.ps M.cn.cs M.cn.cw M.cn.ck M.cn.cd=lay M.cn.ps M.cn.cs M.cn.cw M.cn.ck by unfold lkL;rw[if_pos D.k]]at this;simpa[lay]using this
 obtain⟨ag,ah⟩:0<=M.md/\M.md<(Y.ts.length:Int):=by
  have K:0<=pcq M.cn.ps M.md M.bk:=hp;rw[el];unfold pcq at K;split at K
  .assumption
  .exact absurd K Ja
 obtain⟨b5,o5,ea,ec⟩:=hT.at M.md.toNat J;have p:=zh λ(X:qw)(h:Y.T X)=>show TgS X (Y.ts.getD M.md.toNat zTB).2.1 (Y.ts.getD M.md.toNat zTB).1.length (Y.ts.getD M.md.toNat zTB).2.2 (Y.ts.getD M.md.toNat zTB).1 from h.t.2.2.2.1 M.md.toNat J;have A:=Lyb.tgl B.o.1 M.md.toNat;rw[ea]at l5;unfold svT at ec;have O:tgl N.cn Y.L=(Y.ts.getD M.md.toNat zTB).1:=by rw[A];unfold tgl;rw[B.o.2.2.1]
 have s:Zh (¬n<((Y.ts.getD M.md.toNat zTB).1.length:Int)->R=(5,8,M.cn)):=λc=>HR.o.trans (by
  have e:flw N.cn Y.L 3 n=(5,8,N.cn):=by unfold flw;rw[if_neg Ja,if_pos rfl,O,if_neg c]
  unfold tkE;rw[e]
  rfl)
 have u:Zh (n<((Y.ts.getD M.md.toNat zTB).1.length:Int)->∀x,x=(Y.ts.getD M.md.toNat zTB).1.getD n.toNat zT->R=if gC N.cn Y.L x.1 x.2.1 x.2.2=0 then (3,0,vD N.cn Y.L x.1 x.2.1 x.2.2) else (5,gC N.cn Y.L x.1 x.2.1 x.2.2,M.cn)):=λc x hx=>HR.o.trans (aTw Ja (by unfold flw;rw[if_neg Ja,if_pos rfl,O,if_pos c,hx]) Ja);generalize Y.ts.getD M.md.toNat zTB=T at *;obtain⟨tz,ta,tc⟩:=T;dsimp only at p s u ec;clear D hp hT el A O a8 ae af aa ac HR a1 ab ea;by_cases c:n<(tz.length:Int)
 .obtain⟨bt,ot,et,x0,x1,x2⟩:=(p.o V$ B.o.1.bw d.o.1.b).at n.toNat J;have HB:=zh$ u.o c _ rfl;subst et;generalize tz.getD n.toNat zT=x at *;obtain⟨xm,C,xt⟩:=x;dsimp only at HB x0 x1 x2;have kT:=d.o.2;have t0:=kT.three;have T2:=((aK V (w.heap.size+1+1+1+1) 0$ qI xm).trans$ aK _ (w.heap.size+1+1+1+1) 1$ qI C).trans$ aK _ (w.heap.size+1+1+1+1) 2$ qI xt;have S:=((kT.set 0$ qI xm).set 1$ qI C).set 2$ qI xt;obtain⟨V2,a0⟩:=aO$ ((V.setCell (qR (w.heap.size+1+1+1+1) 0)$ qI xm).setCell (qR (w.heap.size+1+1+1+1) 1)$ qI C).setCell (qR (w.heap.size+1+1+1+1) 2)$ qI xt;rw[<-a0]at T2 S;have l:=zh$ d.o.1.box J T2;have a9:Zh (Blk V2 (w.heap.size+1+1+1+1) (qT xm C xt) 121):=by show Blk _ _ _ _;simpa using S
  have a5:=zh a0;clear s u p T2 S kT a0 d B;have n0:=l.o.n.mc;obtain⟨p0,p1,p2,p3,p4,p5,_⟩:=l.o.l.six;obtain⟨y0,y1,y2,_⟩:=a9.o.three;have a3:=zh$ ad.o xm C xt V2 l.o.b;generalize gC N.cn Y.L xm C xt=k at *;go_enter func76,ntmps76
  go_wp2_with (first|rw[<-HU.o]|rw[<-HV.o]|rw[<-a5.o])
  apply a3.o.mono;rintro e X ⟨b,W,a6,aN,L,β,rfl,y,hq⟩;unfold mnV;obtain⟨XO,a7,bO,kO⟩:=nwb X (qA W) 43;have Z:=zh a7;have i:=zh$ (l.o.bw b).bw bO;clear a4 p0 p1 p2 p3 p4 p5 x0 x1 x2 ec u0 m0 t0 y0 y1 y2 a5 HU HV n0 l0 l1 l2 l3 l4 l5 a3 a7;by_cases c:k=0
  .subst c;obtain rfl:=HB.o;have n0:=kO.mc;have g:=i.o.r;unfold z15 at g;have r0:=g.mc;have rf:=g.frozen;have f:=zh$ xA i.o$ xA (y.bw bO)$ xM l.o.b.size hq;clear b y hq g bO kO;go_wp2_with (rw[<-Z.o])
   exact dY W rfl f.o.1.r rfl rfl rfl$ eM (r:=(3,0,vD N.cn Y.L xm C xt)) f.o.1.b f.o.1.r J (by simpa using f.o.2.1) f.o.2.2
  .obtain rfl:=HB.o.trans$ if_neg c;have c':(k !=0)=true:=by simpa using c
   clear b y hq bO kO c HB;have m0:=i.o.m.mc;have E:=zh$ a2.o XO i.o.b;go_wp2_with (rw[<-Z.o])
   apply E.o.mono;rintro e XA ⟨b,W,a6,aN,L,β,rfl,y,j,G⟩;unfold mnV;have I:=i.o.bw b;have g:=I.r;unfold z15 at g;have r0:=g.mc;have rf:=g.frozen;have f:=zh$ xA I$ xA y$ xM i.o.b.size j;clear b y j G I g m0;go_wp2;exact dY W rfl f.o.1.r rfl rfl rfl$ eM (r:=(5,k,M.cn)) f.o.1.b f.o.1.r J f.o.2.1 f.o.2.2
 .obtain rfl:=s.o c;have P:=zh d.o.1;clear s u p B d;go_enter func76,ntmps76
  have E:=zh$ a2.o V P.o.b;go_wp2_with (first|rw[<-HU.o]|rw[<-HV.o])
  apply E.o.mono;rintro e XA ⟨b,W,a6,aN,L,β,rfl,y,j,G⟩;unfold mnV;have I:=P.o.bw b;have g:=I.r;unfold z15 at g;have r0:=g.mc;have rf:=g.frozen;have f:=zh$ xA I$ xA y$ xM P.o.b.size j;clear b y j G I g m0;go_wp2;exact dY W rfl f.o.1.r rfl rfl rfl$ eM (r:=(5,8,M.cn)) f.o.1.b f.o.1.r J f.o.2.1 f.o.2.2
def aM6 (M N C)(Y:Lyb)(n w)(h:MnD w M)(H:MnS w M C)(h':MnD w N)(H':MnS w N C)(E:MOk N)(K:Y.T w)(eY:Y.L=M.L)(eN:N.L=M.L)(hv:Cv M.cn Y.L)(e1:N.cn.md=M.md)(e2:N.cn.bk=M.bk)(e3:N.hz=M.hz)(e4:N.kz=M.kz)(e5:∀a,awy N.cn Y.L a=awy M.cn Y.L a/\atB N.cn Y.L a=atB M.cn Y.L a)(hk:M.kn=8)(ht:N.tn<1000000000)(hn:wrd n)  :
 qC 76 #[.agg$ qA M,.agg$ qA N,.agg Y.v,qI 2,qI n] w (MQ3 w$ tkE M.cn N.cn Y.L 2 n):=by
 obtain⟨U,hU⟩:=aO$ (((w.alloc$ .cells (qA M) 43).alloc$ .cells (qA N) 43).alloc$ .cells Y.v 65).alloc$ .cells qZ 43
 have EU:Ev4 w M N Y U:=by
  have k1:=((Blk.new (w.alloc$ .cells (qA M) 43) (qA N) 43).alloc$ .cells Y.v 65).alloc$ .cells qZ 43;have G:=(Blk.new ((w.alloc$ .cells (qA M) 43).alloc$ .cells (qA N) 43) Y.v 65).alloc$ .cells qZ 43;have k3:=Blk.new (((w.alloc$ .cells (qA M) 43).alloc$ .cells (qA N) 43).alloc$ .cells Y.v 65) z15 43;simp only[xF]at k1 G k3;rw[hU];exact⟨((bal.alloc Jb _).alloc Jc _).alloc Jc _,(((Blk.new _ _ _).alloc _).alloc _).alloc _,k1,G,by simpa[z15]using k3⟩
 have W:U.heap.size=w.heap.size+1+1+1+1:=by rw[hU];simp
 obtain⟨V,hV,bV,kV⟩:=nwb U (qT M.md M.bk 0) 121;rw[W]at kV;have EV:=EU.bw bV;have Q:=zh λ(X:qw)(b:qY w X)=>bD M C X$ H.bw b;have aa:=zh λ(X:qw)(b:qY w X)=>bD N C X$ H'.bw b;have a6:=zh λ(X:qw)(b:qY w X)=>eZ M Y n X (h.bw b) (K.bw b) hv hn;have a9:=zh λ(X:qw)(b:qY w X)(c:N.hz.length≠0)=>lS N C Y X (h'.bw b) (H'.bw b) (K.bw b) (eY.trans eN.symm) E c ht;have a8:=zh λ(m b t:Int)(X:qw)(bX:qY w X)=>pK N C Y m b t X (h'.bw bX) (H'.bw bX) (K.bw bX) (eY.trans eN.symm) E;have a3:M.hz.length=M.hn:=h.h.1;have a7:=zh hk
 have a5:=zh (λ(X:qw)(b:qY w X)=>show ∃gk ok,M.ka=some (qR gk ok)/\X.cell? (qR gk ok)=some (qI$ M.kz.getD 0 0)by
  obtain⟨gk,og,e⟩:=H.a.2;have q:=H.k.bw b;rw[e,hk]at q
  exact⟨gk,og,e,by simpa using q.at 0 J⟩)
 obtain⟨R,hR⟩:=aO$ tkE M.cn N.cn Y.L 2 n;rw[<-hR];have HR:=zh hR;have HL:=zh$ xA K$ xA hv$ xA e1$ xA e2$ xA e3$ xA e4$ xA e5$ xA eY eN;have P:=EV.m.mc;have u0:=EU.m.mc;have i:=zh$ xA EV kV;have HU:=zh hU;have HV:=zh hV;clear h H h' H' E K eY eN hv e1 e2 e3 e4 e5 hk ht hn hU hV bV kV EU EV hR;obtain⟨l0,l1,l2,l3,l4,l5,_⟩:=i.o.1.l.six;have u:=zh$ a6.o V i.o.1.b;have e5:=HL.o.2.2.2.2.2.2.1 n;have HW:=zh$ show R=tkE M.cn N.cn Y.L 2 n from HR.o
 have A:Zh (atB M.cn Y.L n=false->R=(5,5,M.cn)):=λc=>HW.o.trans (by
  have e:flw N.cn Y.L 2 n=(5,5,N.cn):=by unfold flw;rw[if_pos rfl,e5.2,c];rfl
  unfold tkE;rw[e]
  rfl)
 have D:Zh (atB M.cn Y.L n=true->R=if gC N.cn Y.L M.md M.bk (awy M.cn Y.L n/4)=0 then (2,0,vD N.cn Y.L M.md M.bk$ awy M.cn Y.L n/4) else (5,gC N.cn Y.L M.md M.bk$ awy M.cn Y.L n/4,M.cn)):=λc=>HW.o.trans (aTw Ja (by unfold flw;rw[if_pos rfl,e5.2,c,if_pos rfl,e5.1,HL.o.2.2.1,HL.o.2.2.2.1]) Ja);clear e5 a3 a9 aa a5 a7 HR HW;generalize atB M.cn Y.L n=a at *;generalize awy M.cn Y.L n/4=z at *;go_enter func76,ntmps76
 go_wp2_with (first|rw[<-HU.o]|rw[<-HV.o])
 apply u.o.mono;rintro e X ⟨rfl,b⟩;have l:=zh$ i.o.1.bw b;have kT:=i.o.2.bw b;clear b P u0 l0 l1 l2 l3 l4 l5 u HU HV i W;cases a
 .obtain rfl:=A.o rfl;clear A D;have P:=l.o.m.mc;have x:=zh$ Q.o X l.o.b;go_wp2_with fail
  apply x.o.mono;rintro e XA ⟨b,I,a1,aN,L,β,rfl,s,j,y⟩;unfold mnV;have B:=l.o.bw b;have f:=B.r;unfold z15 at f;have r0:=f.mc;have rf:=f.frozen;have d:=zh$ xA B$ xA s$ xM l.o.b.size j;clear b s j y B f P;go_wp2;exact dY I rfl d.o.1.r rfl rfl rfl$ eM (r:=(5,5,M.cn)) d.o.1.b d.o.1.r J d.o.2.1 d.o.2.2
 .rw[if_pos rfl];have t0:=kT.three;have T2:=aK X (w.heap.size+1+1+1+1) 2$ qI z;have G:=kT.set 2$ qI z;obtain⟨V2,a0⟩:=aO$ X.setCell (qR (w.heap.size+1+1+1+1) 2)$ qI z;rw[<-a0]at T2 G;have p:=zh$ l.o.box J T2;have a4:Zh (Blk V2 (w.heap.size+1+1+1+1) (qT M.md M.bk z) 121):=by show Blk _ _ _ _;simpa using G
  have HB:=zh$ D.o rfl;have Z:=zh a0;clear A D T2 G kT a0;have n0:=p.o.n.mc;obtain⟨l0,l1,l2,l3,l4,l5,_⟩:=p.o.l.six;obtain⟨y0,y1,y2,_⟩:=a4.o.three;have S:=zh$ a8.o M.md M.bk z V2 p.o.b;generalize gC N.cn Y.L M.md M.bk z=k at *;go_wp2_with (rw[<-Z.o])
  apply S.o.mono;rintro e X ⟨b,I,a1,aN,L,β,rfl,s,hq⟩;unfold mnV;obtain⟨XO,a2,bO,kO⟩:=nwb X (qA I) 43;have O:=zh a2;have g:=zh$ (p.o.bw b).bw bO;clear t0 y0 y1 y2 Z n0 l0 l1 l2 l3 l4 l5 S a2;by_cases c:k=0
  .subst c;obtain rfl:=HB.o;have n0:=kO.mc;have f:=g.o.r;unfold z15 at f;have r0:=f.mc;have rf:=f.frozen;have d:=zh$ xA g.o$ xA (s.bw bO)$ xM p.o.b.size hq;clear b s hq f bO kO;go_wp2_with (rw[<-O.o])
   exact dY I rfl d.o.1.r rfl rfl rfl$ eM (r:=(2,0,vD N.cn Y.L M.md M.bk z)) d.o.1.b d.o.1.r J (by simpa using d.o.2.1) d.o.2.2
  .obtain rfl:=HB.o.trans$ if_neg c;have:(k !=0)=true:=by simpa using c
   clear b s hq bO kO c HB;have P:=g.o.m.mc;have x:=zh$ Q.o XO g.o.b;go_wp2_with (rw[<-O.o])
   apply x.o.mono;rintro e XA ⟨b,I,a1,aN,L,β,rfl,s,j,y⟩;unfold mnV;have B:=g.o.bw b;have f:=B.r;unfold z15 at f;have r0:=f.mc;have rf:=f.frozen;have d:=zh$ xA B$ xA s$ xM g.o.b.size j;clear b s j y B f P;go_wp2;exact dY I rfl d.o.1.r rfl rfl rfl$ eM (r:=(5,k,M.cn)) d.o.1.b d.o.1.r J d.o.2.1 d.o.2.2
structure Ev3 (w:qw)(M:Mn)(Y:Lyb)(X:qw):Prop where
 b:qY w X
 m:Blk X w.heap.size (qA M) 43
 l:Blk X (w.heap.size+1) Y.v 65
 r:Blk X (w.heap.size+1+1) z15 43
def Ev3.bw {w X X':qw}(h:Ev3 w M Y X)(b:qY X X'):Ev3 w M Y X':=⟨h.b.trans$ b.mono h.b.size,h.m.bw b,h.l.bw b,h.r.bw b⟩
def vO (w M Y):Ev3 w M Y (((w.alloc$ .cells (qA M) 43).alloc$ .cells Y.v 65).alloc$ .cells qZ 43):=by
 have b:=(Blk.new (w.alloc$ .cells (qA M) 43) Y.v 65).alloc$ .cells qZ 43;have a:=Blk.new ((w.alloc$ .cells (qA M) 43).alloc$ .cells Y.v 65) z15 43;simp only[xF]at b a;exact⟨(bal.alloc Jb _).alloc Jc _,((Blk.new _ _ _).alloc _).alloc _,b,by simpa[z15]using a⟩
def aDw {w X:qw}{f:List (PMod×Mb)}{A:qO}{c:Nat}(h:MnD w M)(H:MnS w M f)(a:MOk M)(b:qY w X)(rs:RS X A k c (plR (aI M.ms) M.L M.md M.bk$ hld M.lz M.md M.bk)):
 qC 75 #[.agg #[qI M.pc,qS M.ka M.kn M.kc],.agg$ qV M.fa M.fn M.fc M.ra M.rn M.rc M.oa M.on M.oc,qS A k c] X (StQ X$ M.cn.r M.L):=by
 let⟨l,og,i⟩:=H.a.2;let⟨_,_,j,_⟩:=iO a.c;have hc:=a.c;have d:=H.k.bw b;rw[j]at hc d⊢
 have e:(⟨M.fn,M.rn,M.on,M.fz,M.rz,M.oz,k,plR (aI M.ms) M.L M.md M.bk$ hld M.lz M.md M.bk⟩:Cy)=M.cn.z M.L:=by
  unfold Cn.z;rw[a.plq h,rs.1,bC H.f,bC H.r,bC H.o];rfl
 have g:M.cn.r M.L=spz ⟨M.fn,M.rn,M.on,M.fz,M.rz,M.oz,k,plR (aI M.ms) M.L M.md M.bk$ hld M.lz M.md M.bk⟩ M.pc M.kz:=by
  unfold Cn.r;rw[<-e,show M.cn.pc=M.pc from rfl,show M.cn.kz=M.kz from rfl]
 rw[g];exact aXq ⟨⟨M.fn,M.rn,M.on,M.fz,M.rz,M.oz,k,plR (aI M.ms) M.L M.md M.bk$ hld M.lz M.md M.bk⟩,M.ka,M.kc,M.fa,M.ra,M.oa,A,M.fc,M.rc,M.oc,c,M.pc,M.kz⟩ X i ⟨d,H.f.bw b,H.r.bw b,H.o.bw b,rs⟩ hc a.b
def aP5 (M Ls)(Y:Lyb)(w)(h:MnD w M)(H:MnS w M Ls)(Z:MOk M)(hl:Y.T w)(t:Y.L=M.L)(hd:(M.cn.r M.L).did=5):
 qC 24 #[.agg$ qA M,.agg Y.v] w (MQ3 w (5,(M.cn.r M.L).num,M.cn)):=by
 let⟨U,hU⟩:=aO$ ((w.alloc$ .cells (qA M) 43).alloc$ .cells Y.v 65).alloc$ .cells qZ 43;have p:Ev3 w M Y U:=by rw[hU];exact vO w M Y
 have O:=Z.cv h;have j:=zb w λX b=>dP M.la M.ln M.lc M.lz M.md M.bk X$ h.l.bw b;have g:=zb w λX b=>iZ M.ma M.mn M.mc M.ms Y.L Y.a0 Y.c0 Y.xs Y.a2 Y.c2 Y.a5 Y.c5 Y.ts M.md M.bk 0 (hld M.lz M.md M.bk) X (h.m.bw b) (hl.bw b) (by rw[t];exact O.cz.l) O.cz.p (by rw[t];exact O.cz.s);rw[t]at g;have u:=zh λ(X:qw)(b:qY w X)(A:qO)(k c:Nat)rs=>aDw (A:=A) (k:=k) (c:=c) h H Z b rs;have a1:=zb w λX b=>bD M Ls X$ H.bw b;have D:=zb U λX b=>p.bw b;have y:=p.m.mc;have l6:=p.l.six;rw[t]at l6;have HU:=zh hU;have d:=zh p.b
 have P:=zh (λ(X:qw)(b:qY U X)=>show qn X w 0=qk M.ma M.mn M.mc/\qn X w 10=qj M.md/\qn X w 11=qj M.bk/\qn X w 12=qk M.la M.ln M.lc/\qg X w 0=qk Y.a0 Y.xs.length Y.c0/\qg X w 1=qj M.L.stack/\qg X w 2=qk Y.a2 M.L.slots.length Y.c2/\qg X w 3=qj M.L.flash/\qg X w 4=qj M.L.ram/\qg X w 5=qk Y.a5 Y.ts.length Y.c5 by
  have q:=p.bw b;have l:=q.l.six;rw[t]at l
  exact⟨q.m.cell 0,q.m.cell 10,q.m.cell 11,q.m.cell 12,l.1,l.2.1,l.2.2.1,l.2.2.2.1,l.2.2.2.2.1,l.2.2.2.2.2.1⟩)
 generalize hld M.lz M.md M.bk=s at *;generalize M.cn.r M.L=r at *;obtain⟨rd,rn,rp,rr,y1,y2,y3⟩:=r;subst hd;clear h H Z hl t hU p O
 delta qC;go_in
 go_wp2_with (rw[<-HU.o])
 go_region_held3 (λC=>qn C w 0=qk M.ma M.mn M.mc/\qn C w 10=qj M.md/\qn C w 11=qj M.bk/\qn C w 12=qk M.la M.ln M.lc/\qg C w 0=qk Y.a0 Y.xs.length Y.c0/\qg C w 1=qj M.L.stack/\qg C w 2=qk Y.a2 M.L.slots.length Y.c2/\qg C w 3=qj M.L.flash/\qg C w 4=qj M.L.ram/\qg C w 5=qk Y.a5 Y.ts.length Y.c5) (go_keep)
  (first
    | (go_at_call 74;(first|with_reducible refine(j.o _ d.o).mono ?_|with_reducible refine(j.o _ d.o.drew).mono ?_);rintro e X1 ⟨rfl,i⟩;replace i:qY U X1:=(by first|exact i|exact aU i);have V:=yT d.o i;obtain⟨f0,f1,f2,f3,f4,f5,f6,f7,f8,f9⟩:=P.o X1 i)
    | (go_at_call 73;(first|with_reducible refine(g.o _ V).mono ?_|with_reducible refine(g.o _ V.drew).mono ?_);rintro e X2 ⟨A,k,c,rfl,oR,E⟩;replace E:qY X1 X2:=(by first|exact E|exact aU E);have a:=yT i E;obtain⟨f0,f1,f2,f3,f4,f5,f6,f7,f8,f9⟩:=P.o X2 a))
 have B2:=yT d a;have x:=zh$ u X2 B2 A k c$ eV oR;have G:=zh$ D X2 a;clear i V E a oR f0 f1 f2 f3 f4 f5 f6 f7 f8 f9 y j g P u D HU;have y:=G.m.mc;go_wp2_with fail
 apply x.mono;rintro e X3 ⟨rb,cp,a2,n1,d1,a3,n2,d2,a4,n3,d3,rfl,o3,q3,K⟩;let⟨V2,a0⟩:=aO$ (X3.alloc$ .cells #[qI rp,qS (qP rb) 8 cp] 38).alloc$ .cells (qV a2 n1 d1 a3 n2 d2 a4 n3 d3) 39;have f:=zh (G.o.bw (by rw[a0];exact(K.alloc K.size _).alloc (by simp;have:=K.size;omega) _:qY X2 V2));have a5:=zh a0;clear a0 K o3 q3 x y;have y:=f.m.mc;have Q:=zh$ a1 V2 f.b;go_wp2_with (rw[<-a5.o])
 apply Q.mono;rintro e XA ⟨b,N',a6,aN,L,β,rfl,hm,B,S⟩;unfold mnV;have W:=f.bw b;have N:=W.r;have:=N.mc;have:=N.frozen;have I:=zh$ xA W$ xA hm$ xM f.b.size B;clear b hm B S W N y;go_wp2;exact dY N' rfl I.1.r rfl rfl rfl$ eM (r:=(5,rn,M.cn)) I.1.b I.1.r J I.2.1 I.2.2
theorem aIu {w g a:qw}{r:Res}{rb cp:Nat}{a1 a2 a3:qO}{n1 l n2 d n3 f:Nat}(E:Ev3 w M Y g)(A:a=(g.alloc$ .cells #[qI r.pc,qS (qP rb) 8 cp] 38).alloc (.cells (qV a1 n1 l a2 n2 d a3 n3 f) 39)):
 (qY g a/\Blk a g.heap.size #[qI r.pc,qS (qP rb) 8 cp] 38/\Blk a (g.heap.size+1) (qV a1 n1 l a2 n2 d a3 n3 f) 39/\a.heap.size=g.heap.size+1+1) /\
 ∀p e s,p=a.alloc (.cells (qA M) 43)->e=(p.setCell (qR a.heap.size 5)$ qI r.pc).setCell (qR a.heap.size 6) (qS (qP rb) 8 cp)->s=((e.setCell (qR a.heap.size 7)$ qS a1 n1 l).setCell (qR a.heap.size 8)$ qS a2 n2 d).setCell (qR a.heap.size 9) (qS a3 n3 f) ->
  qY a p/\Blk p a.heap.size (qA M) 43/\qY a e/\(∀i,e.frozen? (qR a.heap.size i)=false)/\(∃u v z,e.cell? (qR a.heap.size 7)=some u/\e.cell? (qR a.heap.size 8)=some v/\e.cell? (qR a.heap.size 9)=some z)/\qY a s/\Blk s a.heap.size (qA$ M.nx r (qP rb) cp a1 n1 l a2 n2 d a3 n3 f) 43:=by
 have:=(Blk.new g #[qI r.pc,qS (qP rb) 8 cp] 38).alloc$ .cells (qV a1 n1 l a2 n2 d a3 n3 f) 39;have I:=Blk.new (qm g #[qI r.pc,qS (qP rb) 8 cp] 38) (qV a1 n1 l a2 n2 d a3 n3 f) 39;simp only[xF]at I;refine⟨⟨by rw[A];exact bal.alloc Jb _,by grind,by grind,by rw[A];simp⟩,?_⟩;rintro p e s rfl rfl rfl;have t:qY a (a.alloc$ .cells (qA M) 43):=bal;have B:=Blk.new a (qA M) 43;have G:=(aK (a.alloc$ .cells (qA M) 43) a.heap.size 5$ qI r.pc).trans$ aK _ a.heap.size 6$ qS (qP rb) 8 cp;have y:=(B.set 5$ qI r.pc).set 6$ qS (qP rb) 8 cp;have D:=((aK ((((a.alloc$ .cells (qA M) 43).setCell (qh a 5)$ qI r.pc).setCell (qh a 6)$ qS (qP rb) 8 cp)) a.heap.size 7$ qS a1 n1 l).trans$ aK _ a.heap.size 8$ qS a2 n2 d).trans$ aK _ a.heap.size 9$ qS a3 n3 f;have K:=((y.set 7$ qS a1 n1 l).set 8$ qS a2 n2 d).set 9$ qS a3 n3 f;have x:=aF t G (λj H=>J) t.size;have b:=y;simp at b;exact⟨t,B,x,y.frozen,⟨_,_,_,b.cell 7,b.cell 8,b.cell 9⟩,aF x D (λj H=>J) x.size,by simpa using K⟩
def aP7 (M Ls)(Y:Lyb)(w)(h:MnD w M)(H:MnS w M Ls)(ok:MOk M)(hl:Y.T w)(u:Y.L=M.L)(hd:(M.cn.r M.L).did=0)(k:Stk (M.cn.z M.L) M.pc M.kz (M.cn.r M.L)):
 qC 24 #[.agg$ qA M,.agg Y.v] w (MQ3 w (0,0,M.cn.n M.L)):=by
 let⟨U,hU⟩:=aO$ ((w.alloc$ .cells (qA M) 43).alloc$ .cells Y.v 65).alloc$ .cells qZ 43;have y:Ev3 w M Y U:=by rw[hU];exact vO w M Y
 have hv:=ok.cv h;have t:=zb w λX b=>dP M.la M.ln M.lc M.lz M.md M.bk X$ h.l.bw b;have f:=zb w λX b=>iZ M.ma M.mn M.mc M.ms Y.L Y.a0 Y.c0 Y.xs Y.a2 Y.c2 Y.a5 Y.c5 Y.ts M.md M.bk 0 (hld M.lz M.md M.bk) X (h.m.bw b) (hl.bw b) (u ▸ hv.cz.l) hv.cz.p$ u ▸ hv.cz.s;rw[u]at f;have D:=zh λ(X:qw)(b:qY w X)(A:qO)(k c:Nat)rs=>aDw (A:=A) (k:=k) (c:=c) h H ok b rs;have:=zb w λX b=>bD M Ls X$ H.bw b;have P:=zb U λX b=>y.bw b;have:=zh u;have I:=y.m.mc;have l6:=y.l.six;rw[u]at l6;obtain⟨l0,l1,l2,l3,l4,l5,_⟩:=l6;have HU:=zh hU;have Q:=zh λ(X:qw)(b:qY w X)(rb cp:Nat)(a1 a2 a3:qO)(N x n2 g n3 j bs:Nat)o q=>wX (b:=bs) (rb:=rb) (kc:=cp) (fa:=a1) (ra:=a2) (oa:=a3) (fn:=N) (fc:=x) (rn:=n2) (rc:=g) (on:=n3) (oc:=j) h H ok b k o q;have G:Zh (∀(rb cp:Nat)(a1 a2 a3:qO)(N x n2 g n3 j:Nat),(M.nx (M.cn.r M.L) (qP rb) cp a1 N x a2 n2 g a3 n3 j).cn=M.cn.n M.L):=λ_ _ _ _ _ _ _ _ _ _ _=>rfl;unfold Cn.n at G⊢;have d:=zh y.b
 have HF:=zh (λ(X:qw)(b:qY U X)=>show qn X w 0=qk M.ma M.mn M.mc/\qn X w 10=qj M.md/\qn X w 11=qj M.bk/\qn X w 12=qk M.la M.ln M.lc/\qg X w 0=qk Y.a0 Y.xs.length Y.c0/\qg X w 1=qj M.L.stack/\qg X w 2=qk Y.a2 M.L.slots.length Y.c2/\qg X w 3=qj M.L.flash/\qg X w 4=qj M.L.ram/\qg X w 5=qk Y.a5 Y.ts.length Y.c5 by
  have q:=y.bw b;have l:=q.l.six;rw[u]at l
  exact⟨q.m.cell 0,q.m.cell 10,q.m.cell 11,q.m.cell 12,l.1,l.2.1,l.2.2.1,l.2.2.2.1,l.2.2.2.2.1,l.2.2.2.2.2.1⟩)
 generalize hld M.lz M.md M.bk=s at *;generalize M.cn.r M.L=r at *;obtain⟨rd,rn,rp,rr,y1,y2,y3⟩:=r;dsimp only at hd;subst hd;clear h H ok hl u hU y hv k
 delta qC;go_in
 go_wp2_with (rw[<-HU.o])
 go_region_held3 (λC=>qn C w 0=qk M.ma M.mn M.mc/\qn C w 10=qj M.md/\qn C w 11=qj M.bk/\qn C w 12=qk M.la M.ln M.lc/\qg C w 0=qk Y.a0 Y.xs.length Y.c0/\qg C w 1=qj M.L.stack/\qg C w 2=qk Y.a2 M.L.slots.length Y.c2/\qg C w 3=qj M.L.flash/\qg C w 4=qj M.L.ram/\qg C w 5=qk Y.a5 Y.ts.length Y.c5) (go_keep)
  (first
    | (go_at_call 74;(first|with_reducible refine(t.o _ d.o).mono ?_|with_reducible refine(t.o _ d.o.drew).mono ?_);rintro e X1 ⟨rfl,i⟩;replace i:qY U X1:=(by first|exact i|exact aU i);have B1:=yT d.o i;obtain⟨f0,f1,f2,f3,f4,f5,f6,f7,f8,f9⟩:=HF.o X1 i)
    | (go_at_call 73;(first|with_reducible refine(f.o _ B1).mono ?_|with_reducible refine(f.o _ B1.drew).mono ?_);rintro e X2 ⟨A,k,c,rfl,oR,Z⟩;replace Z:qY X1 X2:=(by first|exact Z|exact aU Z);have a:=yT i Z;obtain⟨f0,f1,f2,f3,f4,f5,f6,f7,f8,f9⟩:=HF.o X2 a))
 have B2:=yT d a;have E:=zh$ D X2 B2 A k c$ eV oR;have V:=zh$ P.o X2 a;clear i B1 Z a oR f0 f1 f2 f3 f4 f5 f6 f7 f8 f9 l0 l1 l2 l3 l4 l5 I t f HF D P HU;have I:=V.o.m.mc;go_wp2_with fail
 apply E.o.mono;rintro e X3 ⟨rb,cp,a1,N,x,a2,n2,g,a3,n3,j,rfl,o3,q3,b3⟩;let⟨V2,a4⟩:=aO$ (qm X3 #[qI rp,qS (qP rb) 8 cp] 38).alloc$ .cells (qV a1 N x a2 n2 g a3 n3 j) 39;let⟨V3,a5⟩:=aO$ V2.alloc$ .cells (qA M) 43;let⟨V4,a6⟩:=aO$ (V3.setCell (qh V2 5)$ qI rp).setCell (qh V2 6)$ qS (qP rb) 8 cp;let⟨V5,a7⟩:=aO$ ((V4.setCell (qh V2 7)$ qS a1 N x).setCell (qh V2 8)$ qS a2 n2 g).setCell (qh V2 9)$ qS a3 n3 j;have K:=V.bw b3;let⟨⟨a0,kC,a8,ag⟩,q5⟩:=aIu (r:=⟨0,rn,rp,rr,y1,y2,y3⟩) K a4;let⟨c3,kN,c4,nf,⟨u7,u8,u9,w7,w8,w9⟩,c5,a9⟩:=q5 V3 V4 V5 a5 a6 a7;have:=(kC.bw c3).two';have:=(a8.bw c4).three;have:=kN.mc;have:=kN.frozen;have p:=yT a0 c5;have S:=zh$ K.bw p;let⟨af,H5,an⟩:=Q X3 K.b rb cp a1 a2 a3 N x n2 g n3 j _ o3 q3;have B:=zh$ bD _ Ls V5$ H5.bw p;rw[G.o]at B;let⟨n0,N,n2,n3,n4,n5,n6,n7,n8,n9,ah,ai,aj,ak,am⟩:=a9.mc;have ae:=zh a4;have ac:=zh a5;have ab:=zh a6;have ad:=zh a7;have E2:=K.bw a0;clear I;have I:=E2.m.mc;clear a4 a5 a6 a7 b3 o3 q3 E K a0 kC a8 ag q5 c3 kN c4 c5 a9 p af H5 an E2 Q;go_wp2_with (first|rw[<-ae.o]|rw[<-ac.o]|rw[<-ab.o]|rw[<-ad.o])
 apply B.mono;rintro e XA ⟨b,N',ao,aN,L,β,rfl,hm,O,aa⟩;unfold mnV;have EA:=S.bw b;have KR:=EA.r;unfold z15 at KR;have:=KR.mc;have:=KR.frozen;have W:=zh$ xA EA$ xA hm$ xM S.b.size O;clear b hm O aa EA KR I n0 N n2 n3 n4 n5 n6 n7 n8 n9 ah ai aj ak am;go_wp2;exact dY N' rfl W.1.r rfl rfl rfl$ eM (r:=(0,0,_)) W.1.b W.1.r J W.2.1 W.2.2
theorem aWy (M N k)(Y:Lyb)(V r rb cp a1 a2 a3 n1 C n2 K n3 O)(g:N=M.nx r (qP rb) cp a1 n1 C a2 n2 K a3 n3 O)(h:MnD V M)(H:MnS V M k)(D:MnD V N)(w:MnS V N k)(d:MOk N)(l:Y.T V)(j:Y.L=M.L)(i:Cv M.cn M.L)(y:r.rg=M.kz)(b:M.kn=8)(G:M.tn<1000000000)(f:wrd r.num)(E:2<=r.did)(I:r.did<=4)(s:r.did=4->r.num=0):
 qC 76 #[.agg$ qA M,.agg$ qA N,.agg Y.v,qI r.did,qI r.num] V (MQ3 V$ tkE M.cn N.cn M.L r.did r.num):=by
 have p:N.L=M.L:=by rw[g];rfl
 have x:N.cn.md=M.md:=by rw[g];rfl
 have t:N.cn.bk=M.bk:=by rw[g];rfl
 have q:N.hz=M.hz:=by rw[g]
 have u:N.kz=M.kz:=by grind
 have B:∀a,awy N.cn Y.L a=awy M.cn Y.L a/\atB N.cn Y.L a=atB M.cn Y.L a:=by rw[g];exact λa=>⟨rfl,rfl⟩
 have A:N.tn<1000000000:=by grind
 clear g y;rw[<-j]at i⊢;rcases(show r.did=4\/r.did=2\/r.did=3 from J)with e|e|e
 .rw[e];exact aM4 M N k Y _ V h H D w d l j p i x t q u B b A f$ s e
 .rw[e];exact aM6 M N k Y _ V h H D w d l j p i x t q u B b A f
 .rw[e];exact aM5 M N k Y _ V h H D w d l j p i x t q u B b A f
def aP4 (M Ls)(Y:Lyb)(w)(h:MnD w M)(H:MnS w M Ls)(D:MOk M)(hl:Y.T w)(x:Y.L=M.L)(d2:2<=(M.cn.r M.L).did)(d4:(M.cn.r M.L).did<=4)(ht:M.tn<1000000000)(k:Stk (M.cn.z M.L) M.pc M.kz (M.cn.r M.L)):
 qC 24 #[.agg$ qA M,.agg Y.v] w (MQ3 w$ tkE M.cn (M.cn.n M.L) M.L (M.cn.r M.L).did (M.cn.r M.L).num):=by
 let⟨U,hU⟩:=aO$ ((w.alloc$ .cells (qA M) 43).alloc$ .cells Y.v 65).alloc$ .cells qZ 43;have I:Ev3 w M Y U:=by rw[hU];exact vO w M Y
 have hv:=D.cv h;have G:=zb w λX b=>dP M.la M.ln M.lc M.lz M.md M.bk X$ h.l.bw b;have t:=zb w λX b=>iZ M.ma M.mn M.mc M.ms Y.L Y.a0 Y.c0 Y.xs Y.a2 Y.c2 Y.a5 Y.c5 Y.ts M.md M.bk 0 (hld M.lz M.md M.bk) X (h.m.bw b) (hl.bw b) (x ▸ hv.cz.l) hv.cz.p$ x ▸ hv.cz.s;rw[x]at t;have P:=zh λ(X:qw)(b:qY w X)(A:qO)(k c:Nat)rs=>aDw (A:=A) (k:=k) (c:=c) h H D b rs;have a8:=zb U λX b=>I.bw b;have:=zh x;have S:=I.m.mc;have l6:=I.l.six;rw[x]at l6;obtain⟨l0,l1,l2,l3,l4,l5,_⟩:=l6;have HU:=zh hU;let⟨_,_,aa,_⟩:=iO D.c
 obtain⟨ac,ad,ab⟩:(M.cn.r M.L).rg=M.kz/\wrd (M.cn.r M.L).num/\((M.cn.r M.L).did=4->(M.cn.r M.L).num=0):=by
  rcases k.d with⟨e1,_⟩|⟨f,e⟩|⟨d,n,_,e,hn,h4⟩
  .omega
  .rw[e]at d4;exact absurd (show(5:Int)<=4 from d4) Ja
  .rw[e];exact⟨rfl,hn,h4⟩
 let⟨R,hR⟩:=aO$ tkE M.cn (M.cn.n M.L) M.L (M.cn.r M.L).did (M.cn.r M.L).num;have Z:∀(rb cp:Nat)(a1 a2 a3:qO)(C y N d2 n3 u:Nat),(M.nx (M.cn.r M.L) (qP rb) cp a1 C y a2 N d2 a3 n3 u).cn=M.cn.n M.L:=λ_ _ _ _ _ _ _ _ _ _ _=>rfl;rw[<-hR]
 have i:=zh (λ(X V:qw)(b:qY w X)(O:qY X V)(rb cp:Nat)(a1 a2 a3:qO)(C y N a n3 u bs:Nat)(o:OI X bs (qS (qP rb) 8 cp) (M.cn.r M.L).rg)(q:cB X bs (qS a1 C y) (qS a2 N a) (qS a3 n3 u) (M.cn.r M.L).x1 (M.cn.r M.L).x2 (M.cn.r M.L).x3)=>
  aWy M _ Ls Y V (M.cn.r M.L) rb cp a1 a2 a3 C y N a n3 u rfl (h.bw$ yT b O) (H.bw$ yT b O) ((wX h H D b k o q).1.bw O) ((wX h H D b k o q).2.1.bw O) (wX h H D b k o q).2.2 (hl.bw$ yT b O) x hv ac aa ht ad d2 d4 ab)
 simp only[Z,<-hR]at i;clear Z hR;have j:=zh I.b
 have HF:=zh (λ(X:qw)(b:qY U X)=>show qn X w 0=qk M.ma M.mn M.mc/\qn X w 10=qj M.md/\qn X w 11=qj M.bk/\qn X w 12=qk M.la M.ln M.lc/\qg X w 0=qk Y.a0 Y.xs.length Y.c0/\qg X w 1=qj M.L.stack/\qg X w 2=qk Y.a2 M.L.slots.length Y.c2/\qg X w 3=qj M.L.flash/\qg X w 4=qj M.L.ram/\qg X w 5=qk Y.a5 Y.ts.length Y.c5 by
  have q:=I.bw b;have l:=q.l.six;rw[x]at l
  exact⟨q.m.cell 0,q.m.cell 10,q.m.cell 11,q.m.cell 12,l.1,l.2.1,l.2.2.1,l.2.2.2.1,l.2.2.2.2.1,l.2.2.2.2.2.1⟩)
 generalize hld M.lz M.md M.bk=s at *;generalize M.cn.r M.L=r at *;obtain⟨rd,rn,rp,rr,y1,y2,y3⟩:=r;dsimp only at d2 d4 i;clear h H D hl x hU I hv k aa ac ad ab ht
 delta qC;go_in
 go_wp2_with (rw[<-HU.o])
 go_region_held3 (λw'=>qn w' w 0=qk M.ma M.mn M.mc/\qn w' w 10=qj M.md/\qn w' w 11=qj M.bk/\qn w' w 12=qk M.la M.ln M.lc/\qg w' w 0=qk Y.a0 Y.xs.length Y.c0/\qg w' w 1=qj M.L.stack/\qg w' w 2=qk Y.a2 M.L.slots.length Y.c2/\qg w' w 3=qj M.L.flash/\qg w' w 4=qj M.L.ram/\qg w' w 5=qk Y.a5 Y.ts.length Y.c5) (go_keep)
  (first
    | (go_at_call 74;(first|with_reducible refine(G.o _ j.o).mono ?_|with_reducible refine(G.o _ j.o.drew).mono ?_);rintro e X1 ⟨rfl,B⟩;replace B:qY U X1:=(by first|exact B|exact aU B);have B1:=yT j.o B;obtain⟨f0,f1,f2,f3,f4,f5,f6,f7,f8,f9⟩:=HF.o X1 B)
    | (go_at_call 73;(first|with_reducible refine(t.o _ B1).mono ?_|with_reducible refine(t.o _ B1.drew).mono ?_);rintro e X2 ⟨A,k,c,rfl,oR,b2⟩;replace b2:qY X1 X2:=(by first|exact b2|exact aU b2);have g:=yT B b2;obtain⟨f0,f1,f2,f3,f4,f5,f6,f7,f8,f9⟩:=HF.o X2 g))
 have B2:=yT j g;have Q:=zh$ P X2 B2 A k c$ eV oR;have a9:=zh$ a8.o X2 g;clear B B1 b2 g oR f0 f1 f2 f3 f4 f5 f6 f7 f8 f9 l0 l1 l2 l3 l4 l5 S G t HF P a8 HU;have S:=a9.o.m.mc;go_wp2_with fail
 apply Q.o.mono;rintro e X3 ⟨rb,cp,a1,C,y,a2,N,a,a3,n3,u,rfl,o3,q3,b3⟩;let⟨V2,a4⟩:=aO$ (qm X3 #[qI rp,qS (qP rb) 8 cp] 38).alloc$ .cells (qV a1 C y a2 N a a3 n3 u) 39;let⟨V3,a5⟩:=aO$ V2.alloc$ .cells (qA M) 43;let⟨V4,a6⟩:=aO$ (V3.setCell (qh V2 5)$ qI rp).setCell (qh V2 6)$ qS (qP rb) 8 cp;let⟨V5,a7⟩:=aO$ ((V4.setCell (qh V2 7)$ qS a1 C y).setCell (qh V2 8)$ qS a2 N a).setCell (qh V2 9)$ qS a3 n3 u;have K:=a9.bw b3;let⟨⟨a0,kC,ae,am⟩,q5⟩:=aIu (r:=⟨rd,rn,rp,rr,y1,y2,y3⟩) K a4;let⟨c3,kN,c4,nf,⟨u7,u8,u9,w7,w8,w9⟩,c5,af⟩:=q5 V3 V4 V5 a5 a6 a7;have:=(kC.bw c3).two';have:=(ae.bw c4).three;have:=kN.mc;have:=kN.frozen;have p:=yT a0 c5;have E:=zh$ K.bw p;have ag:=zh$ i X3 V5 K.b p rb cp a1 a2 a3 C y N a n3 u _ o3 q3;let⟨n0,C,N,n3,n4,n5,n6,n7,n8,n9,an,ao,ap,aq,ar⟩:=af.mc;have ak:=zh a4;have ai:=zh a5;have ah:=zh a6;have aj:=zh a7;have E2:=K.bw a0;have l6:=(K.bw p).l.six;obtain⟨l0,l1,l2,l3,l4,l5,_⟩:=l6;clear S;have S:=E2.m.mc;have:=E.m.mc;have:(rd==5)=false:=Jc
 have:(rd==0)=false:=Jc
 have:(rd==1)=false:=Jc
 clear a4 a5 a6 a7 b3 o3 q3 Q K a0 kC ae am q5 c3 kN c4 c5 af p E2 i;go_wp2_with (first|rw[<-ak.o]|rw[<-ai.o]|rw[<-ah.o]|rw[<-aj.o])
 apply ag.mono;rintro e XA ⟨b,N',au,aN,L,β,rfl,hm,W⟩;unfold mnV;have EA:=E.bw b;have KR:=EA.r;unfold z15 at KR;have:=KR.mc;have:=KR.frozen;have HT:=zh$ xA EA$ xA hm$ xM E.b.size W;clear b hm W EA KR S n0 C N n3 n4 n5 n6 n7 n8 n9 an ao ap aq ar;go_wp2;exact dY N' rfl HT.1.r rfl rfl rfl$ eM (r:=R) HT.1.b HT.1.r J HT.2.1 HT.2.2
def aP6 (M Ls)(Y:Lyb)(w)(h:MnD w M)(H:MnS w M Ls)(ok:MOk M)(hl:Y.T w)(G:Y.L=M.L)(hd:(M.cn.r M.L).did=1)(k:Stk (M.cn.z M.L) M.pc M.kz (M.cn.r M.L)):
 qC 24 #[.agg$ qA M,.agg Y.v] w (MQ3 w (1,M.kz.getD 0 0,M.cn.n M.L)):=by
 let⟨U,hU⟩:=aO$ ((w.alloc$ .cells (qA M) 43).alloc$ .cells Y.v 65).alloc$ .cells qZ 43;have I:Ev3 w M Y U:=by rw[hU];exact vO w M Y
 have hv:=ok.cv h;have D:=zb w λX b=>dP M.la M.ln M.lc M.lz M.md M.bk X$ h.l.bw b;have t:=zb w λX b=>iZ M.ma M.mn M.mc M.ms Y.L Y.a0 Y.c0 Y.xs Y.a2 Y.c2 Y.a5 Y.c5 Y.ts M.md M.bk 0 (hld M.lz M.md M.bk) X (h.m.bw b) (hl.bw b) (G ▸ hv.cz.l) hv.cz.p$ G ▸ hv.cz.s;rw[G]at t;have Q:=zh λ(X:qw)(b:qY w X)(A:qO)(k c:Nat)rs=>aDw (A:=A) (k:=k) (c:=c) h H ok b rs;have:=zb w λX b=>bD M Ls X$ H.bw b;have ac:=zb U λX b=>I.bw b;have:=zh G;have Z:=I.m.mc;have l6:=I.l.six;rw[G]at l6;obtain⟨l0,l1,l2,l3,l4,l5,_⟩:=l6;have HU:=zh hU;have ad:=zh λ(X:qw)(b:qY w X)(rb cp:Nat)(a1 a2 a3:qO)(n1 u n2 j n3 p bs:Nat)o q=>wX (b:=bs) (rb:=rb) (kc:=cp) (fa:=a1) (ra:=a2) (oa:=a3) (fn:=n1) (fc:=u) (rn:=n2) (rc:=j) (on:=n3) (oc:=p) h H ok b k o q;let⟨C',hC⟩:=aO$ M.cn.n M.L;have V:Zh (∀(rb cp:Nat)(a1 a2 a3:qO)(n1 u n2 j n3 p:Nat),(M.nx (M.cn.r M.L) (qP rb) cp a1 n1 u a2 n2 j a3 n3 p).cn=C'):=λ_ _ _ _ _ _ _ _ _ _ _=>by rw[hC];rfl
 rw[<-hC];clear hC;let⟨_,_,aa,_⟩:=iO ok.c
 obtain⟨f,og,ea,a0⟩:∃f og,M.ka=qe f og/\Zh (∀X,qY w X->qN X f og=qj (M.kz.getD 0 0)):=by
  let⟨f,og,e⟩:=H.a.2;refine⟨f,og,e,λX b=>?_⟩;have q:=H.k.bw b;rw[e,aa]at q;simpa using q.at 0 J
 have:f<w.heap.size:=xD w _$ a0.o w brf;have y:=zh (λ(X:qw)(b:Ev3 w M Y X)=>show qn X w 6=qk (qe f og) 8 M.kc by rw[<-ea,<-aa];exact b.m.cell 6);clear ea aa;have i:=zh I.b
 have HF:=zh (λ(X:qw)(b:qY U X)=>show qn X w 0=qk M.ma M.mn M.mc/\qn X w 10=qj M.md/\qn X w 11=qj M.bk/\qn X w 12=qk M.la M.ln M.lc/\qg X w 0=qk Y.a0 Y.xs.length Y.c0/\qg X w 1=qj M.L.stack/\qg X w 2=qk Y.a2 M.L.slots.length Y.c2/\qg X w 3=qj M.L.flash/\qg X w 4=qj M.L.ram/\qg X w 5=qk Y.a5 Y.ts.length Y.c5 by
  have q:=I.bw b;have l:=q.l.six;rw[G]at l
  exact⟨q.m.cell 0,q.m.cell 10,q.m.cell 11,q.m.cell 12,l.1,l.2.1,l.2.2.1,l.2.2.2.1,l.2.2.2.2.1,l.2.2.2.2.2.1⟩)
 generalize hld M.lz M.md M.bk=s at *;generalize M.cn.r M.L=r at *;obtain⟨rd,rn,rp,rr,y1,y2,y3⟩:=r;dsimp only at hd;subst hd;clear h H ok hl G hU I hv k
 delta qC;go_in
 go_wp2_with (rw[<-HU.o])
 go_region_held3 (λC=>qn C w 0=qk M.ma M.mn M.mc/\qn C w 10=qj M.md/\qn C w 11=qj M.bk/\qn C w 12=qk M.la M.ln M.lc/\qg C w 0=qk Y.a0 Y.xs.length Y.c0/\qg C w 1=qj M.L.stack/\qg C w 2=qk Y.a2 M.L.slots.length Y.c2/\qg C w 3=qj M.L.flash/\qg C w 4=qj M.L.ram/\qg C w 5=qk Y.a5 Y.ts.length Y.c5) (go_keep)
  (first
    | (go_at_call 74;(first|with_reducible refine(D.o _ i.o).mono ?_|with_reducible refine(D.o _ i.o.drew).mono ?_);rintro e X1 ⟨rfl,x⟩;replace x:qY U X1:=(by first|exact x|exact aU x);have B1:=yT i.o x;have f0:=HF.o X1 x)
    | (go_at_call 73;(first|with_reducible refine(t.o _ B1).mono ?_|with_reducible refine(t.o _ B1.drew).mono ?_);rintro e X2 ⟨A,k,c,rfl,oR,b2⟩;replace b2:qY X1 X2:=(by first|exact b2|exact aU b2);have g:=yT x b2;have f0:=HF.o X2 g))
 have B2:=yT i g;have S:=zh$ Q X2 B2 A k c$ eV oR;have ae:=zh$ ac.o X2 g;clear x B1 b2 g oR f0 l0 l1 l2 l3 l4 l5 Z D t HF Q ac HU;have Z:=ae.o.m.mc;go_wp2_with fail
 apply S.o.mono;rintro e X3 ⟨rb,cp,a1,j1,u,a2,j2,j,a3,W,p,rfl,o3,q3,b3⟩;let⟨V2,a6⟩:=aO$ (qm X3 #[qI rp,qS (qP rb) 8 cp] 38).alloc$ .cells (qV a1 j1 u a2 j2 j a3 W p) 39;let⟨V3,a7⟩:=aO$ V2.alloc$ .cells (qA M) 43;let⟨V4,a8⟩:=aO$ (V3.setCell (qh V2 5)$ qI rp).setCell (qh V2 6)$ qS (qP rb) 8 cp;let⟨V5,a9⟩:=aO$ ((V4.setCell (qh V2 7)$ qS a1 j1 u).setCell (qh V2 8)$ qS a2 j2 j).setCell (qh V2 9)$ qS a3 W p;have K:=ae.bw b3;let⟨⟨a5,kC,af,az⟩,q5⟩:=aIu (r:=⟨1,rn,rp,rr,y1,y2,y3⟩) K a6;let⟨c3,kN,c4,nf,⟨u7,u8,u9,w7,w8,w9⟩,c5,a4⟩:=q5 V3 V4 V5 a7 a8 a9;have g0:=(kC.bw c3).two';have g3:=(af.bw c4).three;have p0:=kN.mc;have pf:=kN.frozen;have B:=yT a5 c5;have a:=zh$ K.bw B;let⟨ay,H5,b0⟩:=ad X3 K.b rb cp a1 a2 a3 j1 u j2 j W p _ o3 q3;let⟨N,hN⟩:=aO$ M.nx ⟨1,rn,rp,rr,y1,y2,y3⟩ (qP rb) cp a1 j1 u a2 j2 j a3 W p;have eC:=(congrArg Mn.cn hN).trans$ V rb cp a1 a2 a3 j1 u j2 j W p;rw[<-hN]at a4 H5;clear V hN;subst eC;have P:=zb V5 λX b=>bD N Ls X$ H5.bw$ yT B b;have ap:=zb V5 λX b=>(a4.bw b).mc;let⟨n0,n1,n2,n3,n4,n5,n6,n7,n8,n9,ag,ah,ai,aj,ak⟩:=a4.mc;have:=y V5 a;have:=a0.o V5 a.b;have E:=zb V5 λX b=>show Blk X (w.heap.size+1+1) qZ 43/\qY w X/\w.heap.size<=w.heap.size+1+1 from⟨(a.bw b).r,(a.bw b).b,J⟩;have aq:=zb V5 λX b=>a0.o X (a.bw b).b;have an:=zb V5 λX b=>y X$ a.bw b;have av:=zh a.b.size;have KR:=K.r;unfold z15 at KR;have ao:w.heap.size+1+1<X3.heap.size:=xD X3 _ KR.mc.1;obtain⟨q1,q2,q3,q4,q5,q6⟩:f≠w.heap.size+1+1/\w.heap.size+1+1≠f/\w.heap.size≠w.heap.size+1+1/\w.heap.size+1+1≠w.heap.size/\V2.heap.size≠w.heap.size+1+1/\w.heap.size+1+1≠V2.heap.size:=J
 clear KR ao;have ax:=zh a6;have au:=zh a7;have ar:=zh a8;have aw:=zh a9;have E2:=K.bw a5;clear Z;have Z:=E2.m.mc;clear a6 a7 a8 a9 b3 o3 q3 S K a5 kC af az q5 c3 kN c4 c5 a4 B ay H5 b0 E2 ad;go_wp2_with (first|rw[<-ax.o]|rw[<-au.o]|rw[<-ar.o]|rw[<-aw.o])
 clear a a0 y Z p0 pf g0 g3;generalize w.heap.size+1+1=zr at *;generalize V2.heap.size=d at *
 go_region_held3 (λC=>qn C w 6=qk (qe f og) 8 M.kc/\qN C f og=qj (M.kz.getD 0 0)/\qN C d 0=qk N.ma N.mn N.mc/\qN C d 1=qj N.cs/\qN C d 2=qj N.cw/\qN C d 3=qj N.ck/\qN C d 4=qj N.cd/\qN C d 5=qj N.pc/\qN C d 6=qk N.ka N.kn N.kc/\qN C d 7=qk N.fa N.fn N.fc/\qN C d 8=qk N.ra N.rn N.rc/\qN C d 9=qk N.oa N.on N.oc/\qN C d 10=qj N.md/\qN C d 11=qj N.bk/\qN C d 12=qk N.la N.ln N.lc/\qN C d 13=qk N.ha N.hn N.hc/\qN C d 14=qj N.tn) (go_keep)
  (first|(go_at_call 23;(first|with_reducible refine(P.o _ brf).mono ?_|with_reducible refine(P.o _ brf.drew).mono ?_);rintro e X ⟨b,N',b1,aN,L,β,rfl,hm,ab,am⟩;replace b:qY V5 X:=(by first|exact b|exact aU b);unfold mnV;have y0:=aq.o X b;have y6:=an.o X b;obtain⟨n0,n1,n2,n3,n4,n5,n6,n7,n8,n9,ag,ah,ai,aj,ak⟩:=ap.o X b;have:=(E.o X b).1.mc;have:=(E.o X b).1.frozen))
 have O:=zh$ xA (E X b)$ xA hm$ xM av ab;clear b hm ab am n0 n1 n2 n3 n4 n5 n6 n7 n8 n9 ag ah ai aj ak y0 y6;go_wp2;exact dY N' rfl O.1.1 rfl rfl rfl$ eM (r:=(1,M.kz.getD 0 0,N.cn)) O.1.2.1 O.1.1 O.1.2.2 O.2.1 O.2.2
theorem aWe (a:C.tn<1000000000):tkR C L=tkE C (C.n L) L (C.r L).did (C.r L).num:=by
 unfold tkR tkE tkF
 grind
theorem aWi:tkE C N L 0 n=(0,n,N):=by
 have:flw N L 0 n=(0,n,N):=by
  unfold flw
  grind
 unfold tkE
 grind
theorem aWg:tkE C N L 5 n=(5,n,C):=by
 have:flw N L 5 n=(5,n,N):=by
  unfold flw
  grind
 unfold tkE
 grind
theorem aWh:tkE C N L 1 n=(1,N.kz.getD 0 0,N):=by
 have:flw N L 1 n=(1,N.kz.getD 0 0,N):=by
  unfold flw
  grind
 unfold tkE
 grind
def aI8 (M p)(Y:Lyb)(w)(h:MnD w M)(H:MnS w M p)(g:MOk M)(a:Y.T w)(b:Y.L=M.L)(j:M.tn<1000000000)(k:Stk (M.cn.z M.L) M.pc M.kz (M.cn.r M.L)):
 qC 24 #[.agg$ qA M,.agg Y.v] w (MQ3 w$ tkR M.cn M.L):=by
 rw[aWe (C:=M.cn) j];rcases k.d with⟨e,e0⟩|⟨f,e⟩|⟨d,n,hd,e,_,_⟩
 .rw[e,e0,aWi];exact aP7 M p Y w h H g a b e k
 .have e5:(M.cn.r M.L).did=5:=by rw[e]
  rw[e5,aWg];exact aP5 M p Y w h H g a b e5
 .have i:(M.cn.r M.L).did=d:=by rw[e]
  by_cases c:d=1
  .have e1:=i.trans c
   have l:(M.cn.n M.L).kz=M.kz:=by
    show(M.cn.r M.L).rg=M.kz;rw[e]
   rw[e1,aWh,l];exact aP6 M p Y w h H g a b e1 k
  .exact aP4 M p Y w h H g a b (by rw[i];omega) (by rw[i];omega) j k
def MxO.mns {W:qw}{L:List (PMod×Mb)}(h:MxO W base aN C M L β)(k:C.kz.length=8)(n:C.ps.length≠0/\C.ps.length<=4)(b:mok C.fz.length C.rz.length C.oz.length=true)(l:C.lz.length<=1048576)(q:C.hz.length<=1048576):MnS W M L:=by
 have a:=h.len;have d:=congrArg List.length h.e;let⟨v1,v2,v3,v4,f,i,j⟩:=h.vz;have:=gU h.k;have:=bC h.q.1;have:=bC h.q.2.1;have:=bC h.q.2.2.1;have:=eP h.l;have:=eP h.h;unfold mok at b;simp at d b;let⟨g,e⟩:=mV h.k J;refine⟨⟨gJ h.m.o J,g,0,e⟩,h.m.omq,a,by rw[v1,h.m.pms],v2 ▸ h.k.is,v3 ▸ h.q.1.mono (xC _),v4 ▸ h.q.2.1.mono (xC _),f ▸ h.q.2.2.1.mono (xC _),?_,?_,J,J,J,J,J⟩
 .rw[i];exact jV h.l
 .rw[j];exact jV h.h
structure Rs (w W V:qw)(Y:Lyb)(b p q k:Nat)(C:Cn)(N:Mn)(base aN:Nat)(L:List (PMod×Mb))(β:Nat->Nat):Prop where
 be:qY w W
 k0:Blk W w.heap.size (qA N) 43
 k1:Blk W (w.heap.size+1) z15 43
 k2:Blk W (w.heap.size+1+1) zOc 51
 kl:Blk W p Y.v 65
 ko:Blk W q #[qI 3,qI 0,qI k,qS none 0 0] 51
 m:MxO W base aN C N L β
 T:Turn (fun j=>j<b) V W
 o:b=w.heap.size+3/\b<=p/\p<base/\p<V.heap.size+1/\V.heap.size<=q/\(aN<=q\/q<base)
def Rs.bw {w W a V:qw}{b p:Nat}{N:Mn}{L:List (PMod×Mb)}(h:Rs w W V Y b p q k C N base aN L β)(d:qY W a):Rs w a V Y b p q k C N base aN L β:=⟨yT h.be d,h.k0.bw d,h.k1.bw d,h.k2.bw d,h.kl.bw d,h.ko.bw d,h.m.bw d,h.T.trans$ aG d,h.o⟩
def MxO.cn {W:qw}{L:List (PMod×Mb)}(h:MxO W base aN C M L β):M.cn=C:=by
 let⟨s1,s2,s3,a,s5,b,d,f⟩:=h.vs;let⟨v1,v2,v3,v4,g,i,j⟩:=h.vz;have e:aI M.ms=C.ps:=by rw[v1,h.m.pms,h.e]
 unfold Mn.cn;rw[e,s1,s2,s3,a,s5,b,d,f,v2,v3,v4,g,i,j]
def Vmc.mok {W:qw}{L:List (PMod×Mb)}{Y:Lay}(V:Vmc C Y)(h:MxO W base aN C M L β):MOk M/\M.L=Y:=by
 have e:=h.cn;subst e;have a:M.L=Y:=V.v.e.symm;have e1:=gU h.k;have e2:=bC h.q.1;have e3:=bC h.q.2.1;have e4:=bC h.q.2.2.1;refine⟨⟨V.v.k,by rw[a];exact V.q,?_,by rw[e2,e3,e4];exact V.v.b,by rw[a];exact V.f,by rw[a,e3];exact V.v.r,V.v.t,by rw[a];exact V.v.s,V.v.n,V.h⟩,a⟩;unfold cok;simp only[Bool.and_eq_true,decide_eq_true_eq,List.all_eq_true];exact⟨⟨V.p.1,V.p.2,by rw[e1];exact V.v.g⟩,V.z⟩
def aOl (M w)(h:MnD w M)(E:∀X,qY w X->qC 23 #[.agg$ qA M] X (CpP X M.cn))(no:¬MOk M):qC 6 #[.agg$ qA M] w λe w'=>qY w w'/\∃N:Mn,e=.returned (.tuple #[mnV N,qI 5,qI 2]):=by
 let⟨U,k⟩:=aO$ (w.alloc$ .cells (qA M) 43).alloc$ .cells qZ 43;have p:qY w U:=by rw[k];go_grown
 have u:Blk U w.heap.size (qA M) 43:=by rw[k];exact(Blk.new _ _ _).alloc _
 have B:Blk U (w.heap.size+1) z15 43:=by rw[k];exact .nw
 have d:=zh$ aG1 M U$ h.bw p;have t:=zb U λX x=>xA (u.bw x)$ xA (B.bw x)$ yT p x;have D:=zh k;have W:=u.mc;have Q:=zh E;clear k p u B h E
 delta qC;go_in
 go_wp2_with (rw[<-D.o])
 apply d.mono;rintro e K ⟨g,P,n0,d0,Z,S,n2,I,i3,i4,V,n5,d5,A,rfl,b,_⟩;obtain rfl:A=false:=by cases A;rfl;exact absurd (b.1 rfl) no
 let⟨Y,a0,b1,_⟩:=nwb K #[qS P n0 d0,qI Z,qS S n2 I,qI i3,qI i4,qS V n5 d5] 65;have a:=zh$ yT g b1;have y:=zh a0;clear W d D a0 b1 g b no;have O:=(t Y a).1.mc;have f:=zh$ Q.o Y (t Y a).2.2;go_wp2_with (rw[<-y.o])
 apply f.mono;rintro e H ⟨i,N,a1,aN,L,β,rfl,_⟩;unfold mnV;let⟨_,C,q⟩:=t _$ yT a i;have l:=C;unfold z15 at l;have:=l.mc;have:=l.frozen;have G:=zh (show qY w (stM H (w.heap.size+1) N)/\∃N':Mn,Ending.returned (.tuple #[.agg$ qA N,qI 5,qI 2])=.returned (.tuple #[mnV N',qI 5,qI 2])from⟨aF q (pY _ _ _) (λj hj=>J) q.size,N,rfl⟩);have s:=zh C;clear O i C l f q;go_wp2;exact dY N rfl s rfl rfl rfl G
abbrev M0:Mn:=⟨none,0,0,[],0,0,0,0,0,none,0,0,[],none,0,0,[],none,0,0,[],none,0,0,[],0,0,none,0,0,[],none,0,0,[],0⟩
def aWj (w):qC 6 #[.agg qZ] w λe b=>qY w b/\∃N:Mn,e=.returned (.tuple #[mnV N,qI 5,qI 2]):=by
 refine aOl M0 w ⟨?_,?_,?_,?_,?_,?_,?_⟩ (λX _=>yX M0 [] X (λX _=>yV none 0 0 [] X ⟨λi x hx=>by simp at hx,λi x hx=>by simp at hx⟩ rfl J) (λX _=>aJe 0 X) rfl ?_ ?_ ?_ ?_ ?_ Ja Ja Ja) λh=>?_
 .exact⟨⟨rfl,Nat.zero_le _,λh=>absurd rfl h,λi hi=>absurd hi$ Nat.not_lt_zero i,xC _⟩,λi hi=>absurd hi$ Nat.not_lt_zero i⟩
 iterate 4 exact⟨rfl,Nat.zero_le _,λz a=>(nomatch a),λh=>absurd rfl h,xC _⟩
 iterate 2 exact⟨rfl,Nat.zero_le _,λh=>absurd rfl h,xC _⟩
 iterate 3 exact⟨⟨rfl,.inl ⟨rfl,rfl⟩⟩,λ_ h=>by cases h⟩
 iterate 2 exact⟨rfl,.inl ⟨rfl,rfl,rfl⟩⟩
 have:=(cW h.l).2.1;simp[aI]at this
