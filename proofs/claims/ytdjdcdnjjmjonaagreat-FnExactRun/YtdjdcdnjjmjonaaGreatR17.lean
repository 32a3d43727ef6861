import Derived.Test.YtdjdcdnjjmjonaaGreatR14
import Derived.Test.YtdjdcdnjjmjonaaGreatR16
set_option linter.all false
set_option maxHeartbeats 8000000
namespace Go.Proofs.YtdjdcdnjjmjonaaGreat
open Go.RowKit Classical
set_option maxRecDepth 100000
variable {G:Prop}{N b base g i n o:Nat}{S:Nat->Prop}{cs:Array Value}{v:Value}{x:Obj}
def aX0 {S F:Nat->World->Prop}(main:(∀g W,F g W->S g W)->G)(pf:∀g W,F g W->S g W):G:=main pf
def wdS (L:Lay):Int:=if 4<L.slots.length then 1 else cfW L
theorem aSs (ps L):Lok ps L ↔ (lkc ps (L.slots.length:Int) (wdS L) (cfK L) 0=0/\lkL ps (L.slots.length:Int) (wdS L) (cfK L) 0=L):=by
 unfold wdS;by_cases h:4<L.slots.length
 .rw[if_pos h]
  have a:∀wd:Int,lkc ps (L.slots.length:Int) wd (cfK L) 0≠0:=λwd e=>by
   have hc:=(cW e).1;unfold cfo at hc
   grind
  constructor
  .intro e;exact absurd e.1$ a _
  .grind
 .rw[if_neg h];rfl
def yY (a n0 a4 ms L a0 c0 xs a2 c2 a5 c5 ts w)(h:MSD w a n0 a4 ms)(hL:LyT w L a0 c0 xs a2 c2 a5 c5 ts):
 qC 113 #[qS a n0 a4,.agg$ qL L a0 xs.length c0 a2 L.slots.length c2 a5 ts.length c5] w λe w'=>e=.returned (.bool$ decide$ Lok (aI ms) L)/\qY w w':=by
 have b3:=hL.s.2.1;let⟨r,hr⟩:=aO$ decide$ Lok (aI ms) L;rw[<-hr];replace hr:r=true ↔ Lok (aI ms) L:=by rw[hr];simp
 rw[aSs]at hr;have ae:=zh$ vN (aI ms) (L.slots.length:Int) (wdS L) (cfK L) 0;have ad:=zh$ aK8 (aI ms) (L.slots.length:Int) (wdS L) (cfK L) 0
 have aa:=zh (λ(W:qw)(G:qY w W)=>by
  have:=aCb a n0 a4 ms (L.slots.length:Int) (wdS L) (cfK L) 0 W$ h.bw G;unfold LkM rJ at this
  exact this)
 generalize lkL (aI ms) (L.slots.length:Int) (wdS L) (cfK L) 0=f at *;generalize lkc (aI ms) (L.slots.length:Int) (wdS L) (cfK L) 0=C at *;have V:=zh hr;have an:=zb w λW G=>yZ L a0 c0 xs a2 c2 a5 c5 ts W$ hL.bw G;have af:=zh λ(f:Lay)(I:qO)(s:Nat)(O:List PB)(M:qO)(p:Nat)(H:qO)(u:Nat)(us:List TB)(W:qw)(o:LyT W f I s O M p H u us)(G:qY w W)=>aAt f I s O M p H u us L a0 c0 xs a2 c2 a5 c5 ts W o$ hL.bw G;have ac:=zh$ show IntKind.i64.wrap (cX L-L.stack)=cfK L from xP _;have ak:=zh$ show wdS L=if 4<L.slots.length then 1 else cfW L from rfl;have aq:=zh$ show cfW L=if L.slots=[] then 1 else wrap64 ((cfQ L).tdiv 4)from rfl;have ax:=zh$ show cfQ L=wrap64 ((wrap64$ wrap64 (65536+L.ram)-L.slots.getD 0 0).tdiv (L.slots.length:Int))from rfl;have HS:=zh hL.s;have ap:=zh$ show L.slots=[] ↔ L.slots.length=0 from List.length_eq_zero_iff.symm;clear h hL hr;generalize cfK L=K at *;generalize wdS L=wd at *;generalize cX L=E at *;generalize L.slots.length=n at *;have B0:qY w (w.alloc$ .cells (qL L a0 xs.length c0 a2 n c2 a5 ts.length c5) 65):=brf.alloc aQ _;have k0:=Blk.new w (qL L a0 xs.length c0 a2 n c2 a5 ts.length c5) 65
 delta qC;go_in
 go_wp2_with fail
 generalize w.alloc (.cells (qL L a0 xs.length c0 a2 n c2 a5 ts.length c5) 65)=U at *;have ab:w.heap.size<U.heap.size:=k0.lt;have x0:=k0.ly6;have a1:=zh$ xA B0 k0;have Q:=zh λ(zc:Array Value)(t:TypeId)(X:qw)(o:Option Nat)(S:Zb zc t U X o)=>(an X$ yT a1.1 S.1).mono λe w' he=>show e=.returned (qI E)/\Zb zc t U w' o from⟨he.1,S.bw he.2⟩;have aj:=zb U λW G=>(a1.2.bw G).ly6;have P:=zh$ aUn (qW 0 0 0 0) 37 U;have ai:=zh λ(X:qw)(S:Zb (qW 0 0 0 0) 37 U X none)=>show qY U (X.alloc$ .cells (qW n 1 K 0) 37)/\Blk (X.alloc$ .cells (qW n 1 K 0) 37) X.heap.size (qW n 1 K 0) 37/\U.heap.size<=X.heap.size from⟨S.1.alloc S.1.size _,Blk.new _ _ _,S.1.size⟩
 have ao:=zh (λ(X:qw)(g:Nat)(S:Zb (qW 0 0 0 0) 37 U X (some g))=>show qY U ((((X.setCell ⟨g,0,none⟩$ qI n).setCell ⟨g,1,none⟩$ qI 1).setCell ⟨g,2,none⟩$ qI K).setCell ⟨g,3,none⟩$ qI 0)/\Blk ((((X.setCell ⟨g,0,none⟩$ qI n).setCell ⟨g,1,none⟩$ qI 1).setCell ⟨g,2,none⟩$ qI K).setCell ⟨g,3,none⟩$ qI 0) g (qW n 1 K 0) 37/\U.heap.size<=g by
  let⟨hg,hk⟩:=S.2 g rfl;have T:Turn (λj=>j=g) X ((((X.setCell ⟨g,0,none⟩$ qI n).setCell ⟨g,1,none⟩$ qI 1).setCell ⟨g,2,none⟩$ qI K).setCell ⟨g,3,none⟩$ qI 0):=(((aD _ _ _ _).trans$ aD _ _ _ _).trans$ aD _ _ _ _).trans$ aD _ _ _ _;have kz:=(((hk.set 0$ qI n).set 1$ qI 1).set 2$ qI K).set 3$ qI 0
  exact⟨aF S.1 T (λk e=>J) S.1.size,kz,hg⟩)
 clear B0 k0;apply aX0 (F:=λgc W=>qY U W/\Blk W gc (qW n 1 K 0) 37/\U.heap.size<=gc)
 .intro a7;have a8:=zh a7;clear a7
  go_region_held3 (λw'=>w'.cell? ⟨w.heap.size,0,none⟩=qk a0 xs.length c0/\w'.cell? ⟨w.heap.size,1,none⟩=qj L.stack/\w'.cell? ⟨w.heap.size,2,none⟩=qk a2 n c2/\w'.cell? ⟨w.heap.size,3,none⟩=qj L.flash/\w'.cell? ⟨w.heap.size,4,none⟩=qj L.ram/\w'.cell? ⟨w.heap.size,5,none⟩=qk a5 ts.length c5) (go_keep)
   (first
     | (go_at_call 122;first
         | with_reducible refine(Q.o _ _ _ none P.o).mono ?_
         | with_reducible refine(Q.o _ _ _ none P.o.drew).mono ?_
         | with_reducible refine(Q.o _ _ _ _ P.o.box).mono ?_
         | with_reducible refine(Q.o _ _ _ _ P.o.drew.box).mono ?_
         | with_reducible refine(Q.o _ _ _ _ P.o.box.drew).mono ?_
        rintro e w1 ⟨rfl,au⟩;have Z:=zh au;clear au;let⟨s,d1,p,d3,d4,u⟩:=aj w1 Z.1;have b0:=ac.o
        first
         | (have kz:=(Z.2 _ rfl).2
            have z0:=kz.cell 0;have z1:=kz.cell 1;have z2:=kz.cell 2;have z3:=kz.cell 3;simp only[List.getElem?_toArray,List.getElem?_cons_zero,List.getElem?_cons_succ]at z0 z1 z2 z3;have zf:=kz.frozen;have a6:=Nat.ne_of_lt$ Nat.lt_of_lt_of_le ab (Z.2 _ rfl).1;have av:=a6.symm
            clear kz)
         | skip))
  all_goals try simp only[ac.o]
  .have HF:=zh$ ai _ Z;generalize w1.alloc (.cells (qW n 1 K 0) 37)=W' at HF⊢;generalize w1.heap.size=gc at HF⊢;exact a8 gc W' HF
  all_goals exact a8 _ _$ ao _ _ Z
 .rintro gc W ⟨G,kc,hg⟩;show Exit.then _ _ _ _ _
  have i:=yT a1.1 G;have k1:=a1.2.bw G;let⟨s,d1,p,d3,d4,u⟩:=k1.ly6;have a6:=Nat.ne_of_lt$ Nat.lt_of_lt_of_le ab hg;clear G x0 a1 Q aj P ao ai an ac;by_cases hB:0<n/\n<=4
  .obtain⟨am,b6⟩:=hB;have ag:(0:Int)<(n:Int):=J
   have aw:(n:Int)<=4:=J
   have he:((n:Int)==0)=false:=Jc
   have b1:¬((n:Int)=0):=J
   have b4:¬(n=0):=J
   obtain⟨b,off,rfl,hc⟩:=HS.2.2.2.1 J;have q0:=hc 0 am;rw[Nat.add_zero]at q0
   have nb:b≠gc:=by
    have h2:=xD _ _ q0;dsimp only at h2;omega
   have q:=aB i q0;clear q0;have a9:=zh (show wrap64 ((wrap64$ (wrap64$ wrap64 (65536+L.ram)-L.slots.getD 0 0).tdiv (n:Int)).tdiv 4)=wd by rw[ak.o,if_neg J,aq.o,if_neg (by rw[ap.o];omega),ax.o]);generalize L.slots.getD 0 0=z at *;have y0:W.cell? ⟨gc,1,none⟩=qj 1:=kc.cell 1;have yf:=kc.frozen;have ay:=nb.symm;have av:=a6.symm;clear hc;have az:=zh$ show w.heap.size<=gc from J;have HX:=zh$ xA i$ xA k1 kc;clear i k1 kc ab hg;go_wp2
   go_region_held3 (λw'=>w'.cell? ⟨w.heap.size,4,none⟩=qj L.ram/\w'.cell? ⟨w.heap.size,2,none⟩=qk (some ⟨b,off,none⟩) n c2/\w'.cell? ⟨b,off,none⟩=qj z) (go_keep) (fail)
   simp only[xP];rw[a9.o];let⟨i,k1,kc⟩:=HX.o;have T:Turn (λj=>j=gc) W (W.setCell ⟨gc,1,none⟩$ qI wd):=aD _ _ _ _;have B5:=(aF i T (λk e=>jK az.o) i.size).drew;have ah:=aC T k1 λe=>a6 e;have k5:Blk ((W.setCell ⟨gc,1,none⟩$ qI wd).drew) w.heap.size _ _:=ah;have ar:Blk ((W.setCell ⟨gc,1,none⟩$ qI wd).drew) gc _ _:=kc.set 1$ qI wd;simp only[yA,yB,yC]at ar;generalize (W.setCell ⟨gc,1,none⟩$ qI wd).drew=W5 at *;clear T i k1 kc ah HX q s d1 p d3 d4 u y0 yf nb ay;let⟨s,d1,p,d3,d4,u⟩:=k5.ly6;let⟨y0,y1,y2,y3⟩:=ar.z4;go_wp2_with fail
   apply(aa _ B5).mono;rintro e N ⟨d,I,s,O,M,p,H,u,us,rfl,O2⟩;have D:qY N (N.alloc$ .cells (qL f I O.length s M f.slots.length p H us.length u) 65):=brf.alloc aQ _;have kt:=Blk.new N (qL f I O.length s M f.slots.length p H us.length u) 65;have B2:=yT B5 d;have Y:=yT B2 D;have k3:=(k5.bw d).bw D;have O3:=O2.below' D;have y:=zh$ af f I s O M p H u us _ (O3.lyt ae.r ad) Y;have A:=zh Y;have p0:=k3.ly6;let⟨q0,q1,q2,q3,q4,q5⟩:=kt.ly6;clear d O2 O3 D B2 Y k3 kt y0 y1 y2 y3;by_cases l:C=0
   .have g:(C==0)=true:=by simpa using l
    have x:=zh (show decide (f=L)=r by rw[xJ,V.o];simp[l]);rw[x.o]at y;clear l V;go_wp2_with fail
    apply y.mono;rintro e w4 ⟨rfl,B⟩;have a3:=zh$ yT A B;clear B;cases r
    all_goals
     go_wp2;go_ret;exact⟨rfl,a3⟩
   .have g:(C==0)=false:=by simpa using l
    have x:=zh (show r=false by cases r;rfl;exact absurd (V.1 rfl).1 l);clear l V;go_wp2;go_ret;exact⟨aA x.symm,A⟩
  .have a9:=zh (show(1:Int)=wd by
    rw[ak.o];by_cases h4:4<n
    .rw[if_pos h4]
    .rw[if_neg h4,aq.o,if_pos (by rw[ap.o];omega)])
   have g1:0<n->¬((n:Int)<=4):=λh=>J
   rw[a9.o]at kc;by_cases am:0<n
   .have ag:(0:Int)<(n:Int):=J
    have aw:¬((n:Int)<=4):=J
    clear g1;let⟨y0,y1,y2,y3⟩:=kc.z4;go_wp2_with fail
    apply(aa _ i).mono;rintro e N ⟨d,I,s,O,M,p,H,u,us,rfl,O2⟩;have D:qY N (N.alloc$ .cells (qL f I O.length s M f.slots.length p H us.length u) 65):=brf.alloc aQ _;have kt:=Blk.new N (qL f I O.length s M f.slots.length p H us.length u) 65;have B2:=yT i d;have Y:=yT B2 D;have k3:=(k1.bw d).bw D;have O3:=O2.below' D;have y:=zh$ af f I s O M p H u us _ (O3.lyt ae.r ad) Y;have A:=zh Y;have p0:=k3.ly6;let⟨q0,q1,q2,q3,q4,q5⟩:=kt.ly6;clear d O2 O3 D B2 Y k3 kt y0 y1 y2 y3;by_cases l:C=0
    .have g:(C==0)=true:=by simpa using l
     have x:=zh (show decide (f=L)=r by rw[xJ,V.o];simp[l]);rw[x.o]at y;clear l V;go_wp2_with fail
     apply y.mono;rintro e w4 ⟨rfl,B⟩;have a3:=zh$ yT A B;clear B;cases r
     all_goals
      go_wp2;go_ret;exact⟨rfl,a3⟩
    .have g:(C==0)=false:=by simpa using l
     have x:=zh (show r=false by cases r;rfl;exact absurd (V.1 rfl).1 l);clear l V;go_wp2;go_ret;exact⟨aA x.symm,A⟩
   .have ag:¬((0:Int)<(n:Int)):=J
    clear g1;let⟨y0,y1,y2,y3⟩:=kc.z4;go_wp2_with fail
    apply(aa _ i).mono;rintro e N ⟨d,I,s,O,M,p,H,u,us,rfl,O2⟩;have D:qY N (N.alloc$ .cells (qL f I O.length s M f.slots.length p H us.length u) 65):=brf.alloc aQ _;have kt:=Blk.new N (qL f I O.length s M f.slots.length p H us.length u) 65;have B2:=yT i d;have Y:=yT B2 D;have k3:=(k1.bw d).bw D;have O3:=O2.below' D;have y:=zh$ af f I s O M p H u us _ (O3.lyt ae.r ad) Y;have A:=zh Y;have p0:=k3.ly6;let⟨q0,q1,q2,q3,q4,q5⟩:=kt.ly6;clear d O2 O3 D B2 Y k3 kt y0 y1 y2 y3;by_cases l:C=0
    .have g:(C==0)=true:=by simpa using l
     have x:=zh (show decide (f=L)=r by rw[xJ,V.o];simp[l]);rw[x.o]at y;clear l V;go_wp2_with fail
     apply y.mono;rintro e w4 ⟨rfl,B⟩;have a3:=zh$ yT A B;clear B;cases r
     all_goals
      go_wp2;go_ret;exact⟨rfl,a3⟩
    .have g:(C==0)=false:=by simpa using l
     have x:=zh (show r=false by cases r;rfl;exact absurd (V.1 rfl).1 l);clear l V;go_wp2;go_ret;exact⟨aA x.symm,A⟩
def aXy {S F:Nat->Nat->Nat->Nat->World->Prop}(main:(∀a b c d W,F a b c d W->S a b c d W)->G)(pf:∀a b c d W,F a b c d W->S a b c d W):G:=main pf
def uI {W:qw}(h:W.cell? (qR b o)=some v):(W.alloc x).cell? (qR b o)=some v:=aB bal h
def aAl {W:qw}(h:W.cell? (qR b o)=some v):W.drew.cell? (qR b o)=some v:=h
def aC3 {W:qw}{u:Value}(a:b<g)(h:W.cell? (qR b o)=some v):(W.setCell (qR g i) u).cell? (qR b o)=some v:=(aR$ .inl J).trans h
structure Mk4 (N:Nat)(w1 W:qw)(ZF ZR:Array Value)(F R gf gr go gm:Nat):Prop where
 be:Below N w1 W
 f:Blk W gf ZF 5
 r:Blk W gr ZR 5
 o:Blk W go #[] 5
 m:Blk W gm (qV (qP gf) F F (qP gr) R R (qP go) 0 0) 39
 lo:N<=gf/\N<=gr/\N<=go/\N<=gm
 ne:gf≠gr/\gf≠go/\gr≠go
def jE (w:qw):w.drew.heap.size=w.heap.size:=rfl
def jH {W:qw}{t:TypeId}(h:Blk W g cs t):Blk W.drew g cs t:=h
def jG {W:qw}{t:TypeId}(h:g=W.heap.size):Blk (W.alloc$ .cells cs t) g cs t:=by subst h;exact Blk.new W cs t
def eQ {W:qw}{t:TypeId}(hn:g≠b)(h:Blk W g cs t):Blk (W.setCell (qR b i) v) g cs t:=h.other _ _ hn
def dT {W:qw}{t:TypeId}{v0 v1 v2:Value}(h:Blk W g (qV none 0 0 none 0 0 none 0 0) t):Blk (((W.setCell (qR g 0) v0).setCell (qR g 1) v1).setCell (qR g 2) v2) g #[v0,v1,v2] t:=by
 have:=((h.set 0 v0).set 1 v1).set 2 v2;simpa only[yA,yB,yC]using this
def aC4 {a W:qw}(d:N<=a.heap.size)(h:Below N a W):Below N a (W.alloc x):=h.alloc (xM d h.size) _
def aLp {a W:qw}(d:N<=g)(h:Below N a W):Below N a (W.setCell (qR g i) v):=h.setCell (p:=(qR g i)) d v
def aHx {a W:qw}(h:Below N a W):Below N a W.drew:=h.drew
structure ImS (w:qw)(V:Array Value)(F R gf gr go gm:Nat)(fz rz:qi)(W:qw):Prop where
 be:qY w W
 kl:Blk W w.heap.size V 65
 kr:Blk W (w.heap.size+1) (qV none 0 0 none 0 0 none 0 0) 39
 km:Blk W gm (qV (qP gf) F F (qP gr) R R (qP go) 0 0) 39
 f:OB W w.heap.size (qS (qP gf) F F) fz
 r:OB W w.heap.size (qS (qP gr) R R) rz
 o:Blk W go #[] 5
 lo:w.heap.size+1<gf/\w.heap.size+1<gr/\w.heap.size+1<go/\w.heap.size+1<gm
 ne:gf≠gr/\gf≠go/\gr≠go
section
variable {w:qw}{V:Array Value}{F R gf gr go gm:Nat}{fz rz:qi}{W W':qw}
def ImS.bw (h:ImS w V F R gf gr go gm fz rz W)(a:qY W W'):ImS w V F R gf gr go gm fz rz W':=⟨h.be.trans$ a.mono h.be.size,h.kl.bw a,h.kr.bw a,h.km.bw a,h.f.bw a,h.r.bw a,h.o.bw a,h.lo,h.ne⟩
def jW {c:Nat}{a:qi}(h:OB W base (qS (qP g) n c) a):∃cs,Blk W g cs 5:=aE h.1 rfl
def ImS.mf (h:ImS w V F R gf gr go gm fz rz W):gm≠gf/\gm≠gr:=by
 let⟨d,a⟩:=jW h.f;let⟨c2,b⟩:=jW h.r;exact⟨λe=>by subst e;exact absurd (aH h.km a) Ja,λe=>by subst e;exact absurd (aH h.km b) Ja⟩
def ImS.setf (h:ImS w V F R gf gr go gm fz rz W){a:qi}(O:OB W' w.heap.size (qS (qP gf) F F) a)(T:fF gf W W'):ImS w V F R gf gr go gm a rz W':=
 ⟨dA h.be T$ jK h.lo,bP T h.kl$ jK h.lo,bP T h.kr$ jK h.lo,bP T h.km h.mf.1,O,nS T h.r (by have:=h.ne.1;simp[Value.ownBlock];omega),bP T h.o$ jK h.ne,h.lo,h.ne⟩
def ImS.setr (h:ImS w V F R gf gr go gm fz rz W){a:qi}(O:OB W' w.heap.size (qS (qP gr) R R) a)(T:fF gr W W'):ImS w V F R gf gr go gm fz a W':=
 ⟨dA h.be T$ jK h.lo,bP T h.kl$ jK h.lo,bP T h.kr$ jK h.lo,bP T h.km h.mf.2,nS T h.f (by have:=h.ne.1;simp[Value.ownBlock];omega),O,bP T h.o$ jK h.ne,h.lo,h.ne⟩
structure Im5 (w:qw)(V:Array Value)(F R gf gr go gm gp:Nat)(PV:Array Value)(fz rz:qi)(W:qw):Prop where
 s:ImS w V F R gf gr go gm fz rz W
 p:Blk W gp PV 170
variable {gp:Nat}{PV:Array Value}
def Im5.bw (h:Im5 w V F R gf gr go gm gp PV fz rz W)(a:qY W W'):Im5 w V F R gf gr go gm gp PV fz rz W':=⟨h.s.bw a,h.p.bw a⟩
def Im5.drew (h:Im5 w V F R gf gr go gm gp PV fz rz W):Im5 w V F R gf gr go gm gp PV fz rz W.drew:=h.bw brf.drew
def Im5.pf (h:Im5 w V F R gf gr go gm gp PV fz rz W):gp≠gf/\gp≠gr:=by
 let⟨d,a⟩:=jW h.s.f;let⟨c2,b⟩:=jW h.s.r;exact⟨λe=>by subst e;exact absurd (aH h.p a) Ja,λe=>by subst e;exact absurd (aH h.p b) Ja⟩
def Im5.setf (h:Im5 w V F R gf gr go gm gp PV fz rz W){a:qi}(O:OB W' w.heap.size (qS (qP gf) F F) a)(T:fF gf W W'):Im5 w V F R gf gr go gm gp PV a rz W':=⟨h.s.setf O T,bP T h.p h.pf.1⟩
def Im5.setr (h:Im5 w V F R gf gr go gm gp PV fz rz W){a:qi}(O:OB W' w.heap.size (qS (qP gr) R R) a)(T:fF gr W W'):Im5 w V F R gf gr go gm gp PV fz a W':=⟨h.s.setr O T,bP T h.p h.pf.2⟩
end
def aXf {S F:Value->World->Prop}(main:(∀v W,F v W->S v W)->G)(pf:∀v W,F v W->S v W):G:=main pf
structure Pc (w0 w:qw)(cm cp:Array Value)(g n base:Nat)(zs:qi)(W:qw):Prop where
 be:qY w0 W
 km:Blk W w.heap.size cm 128
 kp:Blk W (w.heap.size+1) cp 170
 o:OB W base (.slice (some (qR g 0)) n n) zs
 t:Turn (fun j=>j=g) w W
section
variable {w0 w:qw}{cm cp:Array Value}{g n base:Nat}{zs:qi}{W W':qw}
def Pc.bw (h:Pc w0 w cm cp g n base zs W)(a:qY W W'):Pc w0 w cm cp g n base zs W':=⟨h.be.trans$ a.mono h.be.size,h.km.bw a,h.kp.bw a,h.o.bw a,h.t.trans$ aG a⟩
def Pc.drew (h:Pc w0 w cm cp g n base zs W):Pc w0 w cm cp g n base zs W.drew:=h.bw brf.drew
def Pc.set (h:Pc w0 w cm cp g n base zs W){a:qi}(d:w0.heap.size<=g)(O:OB W' base (.slice (some$ qR g 0) n n) a)(T:fF g W W'):Pc w0 w cm cp g n base a W':=by
 let⟨f,b⟩:=jW h.o;exact⟨dA h.be T d,bP T h.km λe=>absurd (aH (show Blk W g cm 128 from e ▸ h.km) b) Ja,bP T h.kp λe=>absurd (aH (show Blk W g cp 170 from e ▸ h.kp) b) Ja,O,h.t.trans$ wS T⟩
end
def aMj (zs k a):cG zs k a 0=zs:=rfl
def aGd (g F nm G tn N tz ba bn bc bl da dn dc a0 ra rn rc ia im ic ea en ec P kt xa b xc V xz fz base w x)(hT:IS x G tn N tz)(hB:BKS x ba bn bc bl)(a2:P.tz=tz)(M:P.bl=bl.map (λB=>B.2.2.2))(hx:IS x xa b.length xc b)(hb:qY x w)(hg:x.heap.size<=g)(ho:OB w base (.slice (some$ qR g 0) F F) fz)(hF:F<=16384)(an:bn<=4)
 (ht:kt+4*tn<=F) (a6:b.length=bn) (a9:∀j,j<bn->0<=b.getD j 0/\b.getD j 0+4*((bl.getD j zB).2.1:Int)<=(F:Int)):
 qC 264 #[.slice (some$ qR g 0) F F,.agg$ qM nm G tn N ba bn bc da dn dc a0 ra rn rc ia im ic ea en ec,.agg #[.int .i64 (kt:Int),.slice xa b.length xc,.int .i64 V,.int .i64 xz]] w λe w'=>e=.returned (.tuple #[])/\OB w' base (.slice (some$ qR g 0) F F) (dI fz P ⟨(kt:Int),b,V,xz⟩ P.bl.length)/\Turn (λj=>j=g) w w':=by
 have ad:bl.length=bn:=hB.1;have ac:tz.length=tn:=hT.1;have am:=zh (show P.bl.length=bn by rw[M,xH];exact ad);have ag:=zh (show dI fz P ⟨(kt:Int),b,V,xz⟩ 0=cG fz kt tz tn by show cG fz ((kt:Int)).toNat P.tz P.tz.length=_;rw[a2,xY,ac])
 have ah:=zh (show ∀j,j<bn->dI fz P ⟨(kt:Int),b,V,xz⟩ (j+1)=cG (dI fz P ⟨(kt:Int),b,V,xz⟩ j) (b.getD j 0).toNat (bl.getD j zB).2.2.2 (bl.getD j zB).2.1 from λj hj=>by
  have e:P.bl.getD j []=(bl.getD j zB).2.2.2:=by rw[M,jC _ _ _ zB _]
  show cG _ (b.getD j 0).toNat (P.bl.getD j []) (P.bl.getD j []).length=_
  rw[e,(hB.2.2.2.1 j hj).1])
 have K:=zh λ(cm cp:Array Value)(zs:qi)(k:Nat)(a:qO)(D wc:Nat)(Q:qi)(X:qw)(hw:IS x a D wc Q)(S:Pc x w cm cp g F base zs X)(hk:k+4*D<=F)(ak:k<F)=>(lM g F F k (F-k) (F-k) a D wc Q zs base x X hw S.be hg S.o hF hk J aQ J).mono λe w' U=>show e=.returned (.tuple #[])/\Pc x w cm cp g F base (cG zs k Q D) w' from⟨U.1,S.set hg U.2.1 U.2.2⟩
 have s:=zh (λ(cm cp:Array Value)(zs:qi)(k:Nat)(a:qO)(D wc:Nat)(Q:qi)(X:qw)(hw:IS x a D wc Q)(S:Pc x w cm cp g F base zs X)(hk:k+4*D<=F)(ak:¬k<F)=>(lM g F F 0 0 0 a D wc Q zs base x X hw S.be hg S.o hF J J aQ J).mono (λe w' U=>show e=.returned (.tuple #[])/\Pc x w cm cp g F base (cG zs k Q D) w' from⟨U.1,by
  have e0:D=0:=J
  have:=S.set hg U.2.1 U.2.2;rw[e0,aMj]at this⊢
  exact this⟩))
 have HB:=zh hB;have HX:=zh hx;have HT:=zh hT;have a3:=zh a9
 have S0:Pc x w (qM nm G tn N ba bn bc da dn dc a0 ra rn rc ia im ic ea en ec) #[.int .i64 (kt:Int),.slice xa b.length xc,.int .i64 V,.int .i64 xz] g F base fz ((w.alloc$ .cells (qM nm G tn N ba bn bc da dn dc a0 ra rn rc ia im ic ea en ec) 128).alloc$ .cells #[.int .i64 (kt:Int),.slice xa b.length xc,.int .i64 V,.int .i64 xz] 170):=by
  have bb:qY w ((w.alloc$ .cells (qM nm G tn N ba bn bc da dn dc a0 ra rn rc ia im ic ea en ec) 128).alloc$ .cells #[.int .i64 (kt:Int),.slice xa b.length xc,.int .i64 V,.int .i64 xz] 170):=bal.alloc Jb _;exact⟨yT hb bb,(Blk.new _ _ _).alloc _,by have:=Blk.new (w.alloc$ .cells (qM nm G tn N ba bn bc da dn dc a0 ra rn rc ia im ic ea en ec) 128) #[.int .i64 (kt:Int),.slice xa b.length xc,.int .i64 V,.int .i64 xz] 170;simpa using this,ho.bw bb,aG bb⟩
 have l:=zh S0;have O:=zh a6;clear S0 hB hx hT a9 ho hb a2 M ac a6 ad
 delta qC;go_in
 go_wp2_with fail
 generalize ((w.alloc$ .cells (qM nm G tn N ba bn bc da dn dc a0 ra rn rc ia im ic ea en ec) 128).alloc$ .cells #[.int .i64 (kt:Int),.slice xa b.length xc,.int .i64 V,.int .i64 xz] 170)=W0 at *;generalize ab:((qM nm G tn N ba bn bc da dn dc a0 ra rn rc ia im ic ea en ec):Array Value)=cm at l;generalize a7:(#[.int .i64 (kt:Int),.slice xa b.length xc,.int .i64 V,.int .i64 xz]:Array Value)=cp at l;have aa:=zh$ xA ab a7;clear ab a7
 have u:=zh (λ(zs:qi)(X:qw)(S:Pc x w cm cp g F base zs X)=>show qn X w 1=some (.slice G tn N)/\qn X w 2=some (.slice ba bn bc)/\qg X w 0=some (.int .i64 (kt:Int))/\qg X w 1=some (.slice xa b.length xc)by
  have h1:=S.km;have h2:=S.kp;rw[<-aa.o.1]at h1;rw[<-aa.o.2]at h2
  exact⟨h1.cell 1,h1.cell 2,h2.cell 0,h2.cell 1⟩)
 have x1:=u _ _ l;have ai:(kt:Int)<=(F:Int):=J
 apply aXf (F:=λv W=>Pc x w cm cp g F base (dI fz P ⟨(kt:Int),b,V,xz⟩ 0) W)
 .intro C;have A:=zh C;clear C;rw[ag.o]at A;by_cases p:kt<F
  .have E:(kt:Int)<(F:Int):=J
   have aj:¬(F=kt):=J
   go_region_held3 (λw'=>qn w' w 1=some (.slice G tn N)/\qg w' w 0=some (.int .i64 (kt:Int))) (go_keep)
    (first
      | (go_at_call 267;first
          | with_reducible refine(K.o cm cp fz kt G tn N tz _ HT.o l.o ht p).mono ?_
          | with_reducible refine(K.o cm cp fz kt G tn N tz _ HT.o l.o.drew ht p).mono ?_
         rintro e w2 ⟨rfl,d⟩;have f:=zh d;clear d
         have Y:=u _ _ f))
   generalize Value.slice (qe g kt) (F-kt) (F-kt)=a8;exact A a8 w2 f
  .obtain rfl:F=kt:=J
   go_region_held3 (λw'=>qn w' w 1=some (.slice G tn N)/\qg w' w 0=some (.int .i64 (F:Int))) (go_keep)
    (first
      | (go_at_call 267;first
          | with_reducible refine(s.o cm cp fz F G tn N tz _ HT.o l.o ht p).mono ?_
          | with_reducible refine(s.o cm cp fz F G tn N tz _ HT.o l.o.drew ht p).mono ?_
         rintro e w2 ⟨rfl,d⟩;have f:=zh d;clear d
         have Y:=u _ _ f))
   exact A _ w2 f
 .rintro a8 W2 d;show Exit.then _ _ _ _ _
  have Y:=u _ _ d;have f:=zh d;clear d x1 l ai;go_wp2;clear Y;go_loopw [18] (λi wr=>∃j:Nat,j<=bn/\i=.int .i64 j/\Pc x w cm cp g F base (dI fz P ⟨(kt:Int),b,V,xz⟩ j) wr) (qf bn)
  .exact⟨0,xC _,rfl,f⟩
  .clear f;obtain⟨j,hj,rfl,hJ⟩:=hrel;generalize wr=wj at *;have HJ:=zh hJ;have Y:=u _ _ hJ;by_cases y:j<bn
   .have ap:(j:Int)<(bn:Int):=J
    have ao:(j:Int)<(b.length:Int):=jK O.o;obtain⟨bb,bo,rfl,ae⟩:=HB.2.2.1$ show bn≠0 from J;obtain⟨qb,qo,rfl,af⟩:=HX.2.2.2.1 (show b.length≠0 by have:=O.o;omega);have s1:=aB hJ.be$ af j$ jK O.o;have s2:=aB hJ.be$ ae j y;obtain⟨kb,a1⟩:∃kb:Nat,b.getD j 0=(kb:Int):=⟨(b.getD j 0).toNat,jK$ (a3 j y).1⟩;have H:=zh (show kb+4*(bl.getD j zB).2.1<=F by have:=(a3.o j y).2;rw[a1]at this;omega);have Z:=zh$ HB.2.2.2.1 j y;have q:=ah j y;rw[a1,xY]at q;rw[a1]at s1;have q:=zh q;have ar:=H.o;generalize a5:dI fz P ⟨(kt:Int),b,V,xz⟩ (j+1)=ZJ at q;have a4:=zh a5;clear hJ ae af a1 a5;generalize (bl.getD j zB).2.2.2=kw at *;generalize (bl.getD j zB).1=k1 at *;generalize (bl.getD j zB).2.1=k2 at *;generalize (bl.getD j zB).2.2.1=k3 at *;have au:(0:Int)<=(kb:Int):=J
    have aq:(kb:Int)<=(F:Int):=J
    by_cases p:kb<F
    .have E:(kb:Int)<(F:Int):=J
     have aj:¬(F=kb):=J
     have HC:=zh$ K cm cp _ kb k1 k2 k3 kw wj Z HJ H p;go_wp2_with fail
     apply HC.mono;rintro e w3 ⟨rfl,t⟩;have I:=zh (show Pc x w cm cp g F base ZJ w3 by rw[q.o];exact t);clear t s1 s2 Y;go_wp2
     go_roundw
     .exact⟨j+1,J,by go_num,by rw[a4.o];exact I.o⟩
     .simp[qf,intOf];omega
    .have E:¬(kb:Int)<(F:Int):=J
     have HC:=zh$ s cm cp _ kb k1 k2 k3 kw wj Z HJ H p;obtain rfl:F=kb:=J
     go_wp2_with fail
     apply HC.mono;rintro e w3 ⟨rfl,t⟩;have I:=zh (show Pc x w cm cp g F base ZJ w3 by rw[q.o];exact t);clear t s1 s2 Y;go_wp2
     go_roundw
     .exact⟨j+1,J,by go_num,by rw[a4.o];exact I.o⟩
     .simp[qf,intOf];omega
   .have e:Zh (j=bn):=by show j=bn;omega
    clear hJ;go_wp2
    go_end0
    exact⟨rfl,by rw[am.o,<-e.o];exact HJ.o.o,HJ.o.t⟩
structure Pd (w0 w:qw)(cm:Array Value)(g n base:Nat)(zs:qi)(W:qw):Prop where
 be:qY w0 W
 km:Blk W w.heap.size cm 128
 o:OB W base (qS (qP g) n n) zs
 t:Turn (fun j=>j=g) w W
section
variable {w0 w:qw}{cm:Array Value}{g n base:Nat}{zs:qi}{W W':qw}
def Pd.bw (h:Pd w0 w cm g n base zs W)(a:qY W W'):Pd w0 w cm g n base zs W':=⟨h.be.trans$ a.mono h.be.size,h.km.bw a,h.o.bw a,h.t.trans$ aG a⟩
def Pd.drew (h:Pd w0 w cm g n base zs W):Pd w0 w cm g n base zs W.drew:=h.bw brf.drew
def Pd.set (h:Pd w0 w cm g n base zs W){a:qi}(d:w0.heap.size<=g)(O:OB W' base (qS (qP g) n n) a)(T:fF g W W'):Pd w0 w cm g n base a W':=by
 let⟨f,b⟩:=jW h.o;exact⟨dA h.be T d,bP T h.km λe=>absurd (aH (show Blk W g cm 128 from e ▸ h.km) b) Ja,O,h.t.trans$ wS T⟩
end
theorem aVi {W:qw}{A:Nat}{b:qi}(h:OB W base (qS (qP g) n n) b)(e:A<=n):BS W (some$ qR g A) (n-A) (n-A) (b.drop A):=by
 have:=(vL h).2.1;have:=(vL h).2.2.2;have a:=h.bs;refine⟨by grind,J,λz d=>h.2 z$ List.mem_of_mem_drop d,λ_=>⟨g,A,rfl,λi hi=>?_⟩,aQ⟩;have:=a.at (A+i) J
 grind
def aGc (g R f bp V nm ta tn tc ba bn bc W p dc N a0 ra rn rc b ia im ic ea en ec rz base w G)(A:BS G W p dc N)(k:IS G ra rn rc b)(hb:qY G w)(hg:G.heap.size<=g)(ho:OB w base (qS (qP g) R R) rz)(hR:R<=16384)(ae:rn<=16)(af:f+p<=R)(l:∀q,q<rn->0<=b.getD q 0/\b.getD q 0+4<=(p:Int))
 (a:(f<R/\bp=some (qR g f)/\V=R-f)\/(f=R/\bp=some (qR g 0)/\V=0)):
 qC 265 #[qS bp V V,.agg$ qM nm ta tn tc ba bn bc W p dc a0 ra rn rc ia im ic ea en ec,qI$ 65536+(f:Int)] w λe w'=>e=.returned (.tuple #[])/\OB w' base (qS (qP g) R R) (kP (ovr rz f N) f b (65536+(f:Int)) rn)/\Turn (λj=>j=g) w w':=by
 have Z:qY w (w.alloc$ .cells (qM nm ta tn tc ba bn bc W p dc a0 ra rn rc ia im ic ea en ec) 128):=bal;have C:Pd G w (qM nm ta tn tc ba bn bc W p dc a0 ra rn rc ia im ic ea en ec) g R base rz (w.alloc$ .cells (qM nm ta tn tc ba bn bc W p dc a0 ra rn rc ia im ic ea en ec) 128):=⟨yT hb Z,Blk.new _ _ _,ho.bw Z,aG Z⟩;have a7:=zh$ xA a$ xA A$ xA k l;let⟨w1,ac,O1,T1⟩:=aAi (f:=f) C.o 3 bp W V V p dc (A.bw C.be) (by rcases a with h|h<;>omega) J (λh0=>by rcases a with h|h;exact h.2.1;omega);have s:=zh$ C.set hg O1 T1;have x3:=C.km.cell 3;clear O1 T1 C Z ho hb A k l a;obtain⟨cm,a2⟩:∃cm:Array Value,cm=(qM nm ta tn tc ba bn bc W p dc a0 ra rn rc ia im ic ea en ec):=⟨_,rfl⟩;rw[<-a2]at s
 have a9:=zh (λ(zs:qi)(X:qw)(S:Pd G w cm g R base zs X)=>show qn X w 5=qk ra rn rc by
  have P:=S.km;rw[a2]at P
  exact P.cell 5)
 clear a2
 delta qC;go_in
 have z5:=a9 _ _ s;go_wp2;clear ac x3 z5;go_loopw [15] (λi wr=>∃q:Nat,q<=rn/\i=qI q/\Pd G w cm g R base (kP (ovr rz f N) f b (65536+(f:Int)) q) wr) (qf rn)
 .exact⟨0,xC _,rfl,s⟩
 .clear s;obtain⟨q,hq,rfl,hQ⟩:=hrel;generalize wr=wq at *;have y:=zh hQ;by_cases D:q<rn
  .have ad:(q:Int)<(rn:Int):=J
   let⟨a,A,k,l⟩:=a7.o;obtain⟨rb,ro,rfl,a4⟩:=k.2.2.2.1$ show rn≠0 from J;let⟨P,h2⟩:=l q D;obtain⟨_,aa,ab⟩:f<R/\bp=some ⟨g,f,none⟩/\V=R-f:=by rcases a with h|h;exact h;omega
   subst aa ab;have s6:=aB hQ.be$ a4 q D;have d:Zh (kP (ovr rz f N) f b (65536+(f:Int)) (q+1)=put (kP (ovr rz f N) f b (65536+(f:Int)) q) (f+(b.getD q 0).toNat) (low (((kP (ovr rz f N) f b (65536+(f:Int)) q).drop$ f+(b.getD q 0).toNat).take 4)+(65536+(f:Int))) 4):=rfl;clear a4 hQ A k l a;generalize t:kP (ovr rz f N) f b (65536+(f:Int)) (q+1)=a5 at d;have B:=zh t;clear t;generalize kP (ovr rz f N) f b (65536+(f:Int)) q=K at *;obtain⟨x,hx⟩:∃x:Nat,b.getD q 0=(x:Int):=⟨(b.getD q 0).toNat,J⟩;rw[hx]at s6 d P h2;rw[xY]at d;clear hx;have u:=zh$ nW ((K.drop$ f+x).take 4) (λz hz=>y.o.o.2 z$ List.mem_of_mem_drop$ List.mem_of_mem_take hz) Jc;let⟨lw,a3⟩:=aO$ low$ (K.drop$ f+x).take 4;rw[<-a3]at u d;let⟨VV,a1⟩:=aO$ lw+(65536+(f:Int));rw[<-a1]at d;have Y:IntKind.i64.wrap (lw+(65536+(f:Int)))=VV:=by rw[a1,xP,xQ _$ jK u.o]
   have a8:=zh (show -9223372036854775808<=VV/\VV<=9223372036854775807 by have:=u.o;omega)
   have Q:=zh (λ(X:qw)(S:Pd G w cm g R base K X)=>show qC 274 #[qS (qe g$ f+x) (R-f-x)$ R-f-x,qI 4] X λe w'=>e=.returned (qI lw)/\Pd G w cm g R base K w' by
    have H:=aVi S.o$ show f+x<=R from J;rw[show R-(f+x)=R-f-x from J]at H;have:=zN g (f+x) (R-f-x) (R-f-x) _ X H J;rw[<-a3]at this
    exact this.mono λe w' U=>⟨U.1,S.bw U.2⟩)
   have I:=zh (λ(X:qw)(S:Pd G w cm g R base K X)=>show qC 296 #[qS (qe g$ f+x) (R-f-x)$ R-f-x,qI 4,qI VV] X λe w'=>e=.returned (.tuple #[])/\Pd G w cm g R base a5 w' from
    (pC g (R-f-x) (R-f-x) (f+x) VV X (mX S.o) J a8).mono (λe w' U=>⟨U.1,by
      rw[U.2,d.o]
      exact S.set hg (wW S.o (f+x) VV)$ pH g (f+x) VV X⟩))
   have t1:(x:Int)<=((R-f:Nat):Int):=J
   have t2:(x:Int)<((R-f:Nat):Int):=J
   have t3:¬(R-f=x):=J
   have t4:x<=R-f:=J
   have t5:x<R-f:=J
   clear a3 a1 P h2;go_wp2
   go_region_held3 (λw'=>True) (exact True.intro)
    (first
      | (go_at_call 274;first
          | with_reducible refine(Q.o _ y.o).mono ?_
          | with_reducible refine(Q.o _ y.o.drew).mono ?_
         rintro e w5 ⟨rfl,E⟩;have O:=zh E
         clear E)
      | (go_at_call 296;first
          | with_reducible refine(I.o _ O.o).mono ?_
          | (rw[Y];with_reducible refine(I.o _ O.o).mono ?_)
         rintro e w6 ⟨rfl,M⟩;have a6:=zh M
         clear M))
   clear Y s6;go_wp2
   go_roundw
   .exact⟨q+1,J,by go_num,B.o ▸ a6.o⟩
   .simp[qf,intOf];omega
  .have e:Zh (q=rn):=by show q=rn;omega
   clear hQ;go_wp2
   go_end0
   exact⟨rfl,e.o ▸ y.o.o,y.o.t⟩
theorem aF0 (xs ds:List Value)(f n)(h:f+ds.length<=n)(a:f<=xs.length):(splice xs f ds).take n=splice (xs.take n) f ds:=by
 unfold splice;rw[List.take_append,List.take_append,List.length_take,Nat.min_eq_left a,xG (l:=List.take f xs) (by grind),xG (l:=ds) J,List.take_take,Nat.min_eq_left J,List.drop_take]
 grind
theorem aNl {W:qw}{p f:Nat}{H a:qi}(B:OB W base (qS (qP g) n p) H)(O N E I w G)(l:BS W N w G a)(A:w<=E)(u:f+w<=n)(y:w≠0):
 ∃w',(Builtin.copy_ #[28,28] O #[qS (some$ qR g f) E I,qS N w G]).run Tryz.prog W=.ok (goInt w) w'/\OB w' base (qS (qP g) n p) (ovr H f a)/\Turn (λj=>j=g) W w':=by
 obtain⟨⟨hl,⟨e0,_⟩|⟨Y,X,i,q,U,M,Q,S,Z,K⟩⟩,V⟩:=B
 .grind
 .simp at q;obtain⟨rfl,rfl,rfl⟩:=q;obtain⟨b,off,rfl,hc⟩:=l.2.2.2.1 y;have hld:=l.1;subst hld;have s:(Tryz.prog.info? 5).map (·.size)=some 1:=Je
  have d:=run_copy_row (P:=Tryz.prog) W 28 28 O 5 g f E I (qR b off) a.length G i 5 (a.map$ Value.int .u8) Tryz.underlying28 s M (by grind) (λj v D=>by
   have t:j<a.length:=by
    grind
   rw[cE,hc j t,<-D]
   grind) (by grind) (λv q=>by
   simp at q;obtain⟨z,_,rfl⟩:=q
   rfl)
  rw[xH]at d;have x:=uB g W (i.toList.take f++a.map (Value.int .u8)++i.toList.drop (f+a.length)).toArray;refine⟨_,d,⟨⟨Jb,.inr ⟨g,p,(i.toList.take f++a.map (Value.int .u8)++i.toList.drop (f+a.length)).toArray,by rw[nR _ _ _ J],U,setRow_heap W g i _ 5 (0,0) M,by rw[nR _ _ _ J];exact Q,S,by grind,?_⟩⟩,aCj V l.2.2.1⟩,⟨x.2.2.1,x.2.2.2.1,x.2.2.2.2,x.1 ▸ aQ,λk _ C=>x.2.1 k C⟩⟩;have e:=aF0 i.toList (a.map$ Value.int .u8) f H.length (by grind) (by grind);rw[Nat.mul_one]at K;rw[K,aEc]at e;unfold splice at e;rw[nR _ _ _ J,Nat.mul_one,List.toList_toArray,List.append_assoc,<-e];simp
section
variable {W W':qw}{base aN:Nat}{C:Cn}{M:Mn}{Ls:List (PMod×Mb)}{β:Nat->Nat}
def aS {sz:Nat}{t d:TypeId}{xs:List Value}(kb:Blk W g cs d)(j:W.ownsRow b t sz v n xs)(a:t≠d):∀k,v.ownBlock=some k->¬k=g:=λk f e=>by
 subst e;let⟨c,i⟩:=aE j f;exact a$ aH i kb
def MxO.scal (h:MxO W base aN C M Ls β)(pc md bk tn):MxO W base aN { C with pc:=pc,md:=md,bk:=bk,tn:=tn } { M with pc:=pc,md:=md,bk:=bk,tn:=tn } Ls β:=⟨h.m,h.e,h.k,h.q,h.l,h.h,h.bm,h.bh,⟨h.vs.1,h.vs.2.1,h.vs.2.2.1,h.vs.2.2.2.1,rfl,rfl,rfl,rfl⟩,h.vz⟩
def MxO.upd (h:MxO W base aN C M Ls β)(t:Turn S W W')(hS:∀j,S j->aN<=j/\∃cs a,Blk W j cs a/\a≠128/\a≠25):OMp W' base (qS M.ma M.mn M.mc) Ls β:=
 h.m.keep t (λj d s=>by
  let⟨_,cs,a,kb,b,e⟩:=hS j s;let⟨c,k⟩:=aE h.m.o d
  exact b$ aH kb k) (λj s=>xM h.bh (hS j s).1) (λj cs kb s=>by
  let⟨_,g,a,f,b,e⟩:=hS j s
  exact e$ aH f kb)
def MxO.reg (h:MxO W base aN C M Ls β){d:Nat}(e:M.ka=some (qR d 0))(i)(hi:i<M.kn)(z)(hz:wfi z):MxO (W.setCell (qR d i)$ qI z) base aN { C with kz:=C.kz.set i z } { M with kz:=C.kz.set i z } Ls β:=by
 have a:=h.k;rw[e]at a;have T:=aD W d i$ qI z;let⟨b,kb⟩:=aE a.1 (k:=d) rfl;refine⟨h.upd T (λj f=>by subst f;exact⟨(a.lt _ rfl).1,b,_,kb,Ja,Ja⟩),h.e,?_,dV h.q T λj f=>?_,h.l.kept T$ aS kb h.l Ja,h.h.kept T$ aS kb h.h Ja,h.bm,h.bh,h.vs,⟨h.vz.1,rfl,h.vz.2.2⟩⟩
 .show OI _ aN (qS M.ka M.kn M.kc) (C.kz.set i z);rw[e];exact aPc a i hi z hz
 .rcases f with q|q|q
  .exact aS kb h.q.1.1 Ja j q
  .exact aS kb h.q.2.1.1 Ja j q
  .exact aS kb h.q.2.2.1.1 Ja j q
def MxO.slot (h:MxO W base aN C M Ls β){a:Nat}(e:M.la=some (qR a 0))(i)(hi:i<M.ln)(b x1 x2 x3):MxO ((((W.setCell (qR a$ i*4)$ .bool b).setCell (qR a$ i*4+1)$ qI x1).setCell (qR a$ i*4+2)$ qI x2).setCell (qR a$ i*4+3)$ qI x3) base aN { C with lz:=C.lz.set i (b,x1,x2,x3) } { M with lz:=C.lz.set i (b,x1,x2,x3) } Ls β:=by
 have d:=h.l;rw[e]at d;have T:=(((aD W a (i*4)$ .bool b).trans$ aD _ a (i*4+1)$ qI x1).trans$ aD _ a (i*4+2)$ qI x2).trans$ aD _ a (i*4+3)$ qI x3;let⟨g,kb⟩:=aE d (k:=a) rfl;refine⟨h.upd T (λj f=>by subst f;exact⟨(d.lt _ rfl).1,g,_,kb,Ja,Ja⟩),h.e,aV T h.k$ aS kb h.k.1 Ja,dV h.q T λj f=>?_,?_,h.h.kept T$ aS kb h.h Ja,h.bm,h.bh,h.vs,⟨h.vz.1,h.vz.2.1,h.vz.2.2.1,h.vz.2.2.2.1,h.vz.2.2.2.2.1,rfl,h.vz.2.2.2.2.2.2⟩⟩
 .rcases f with q|q|q
  .exact aS kb h.q.1.1 Ja j q
  .exact aS kb h.q.2.1.1 Ja j q
  .exact aS kb h.q.2.2.1.1 Ja j q
 .show OG _ 4 cO _ aN (qS M.la M.ln M.lc) _;rw[e];exact aEk cH d i hi (b,x1,x2,x3) _ _ _ _ rfl
theorem MxO.mem (h:MxO W base aN C M Ls β)(T:Turn S W W')(hS:∀j,S j->aN<=j/\∃cs d,Blk W j cs d/\(d=5\/d=142\/d=43)){oa:qO}{on oc:Nat}{R O:qi}(q:cB W' aN (qS M.fa M.fn M.fc) (qS M.ra M.rn M.rc) (qS oa on oc) C.fz R O):MxO W' base aN { C with rz:=R,oz:=O } { M with rz:=R,oa:=oa,on:=on,oc:=oc,oz:=O } Ls β:=by
 have a:∀{t:TypeId}{sz n b:Nat}{v:Value}{i:List Value},W.ownsRow b t sz v n i->t≠5->t≠142->t≠43->∀k,v.ownBlock=some k->¬S k:=λf p u w k l s=>by
  let⟨_,cs,d,kb,e⟩:=hS k s;let⟨c,g⟩:=aE f l;have:=aH g kb
  grind
 exact⟨h.upd T (λj s=>by
  grind),h.e,aV T h.k$ a h.k.1 Ja Ja Ja,q,h.l.kept T$ a h.l Ja Ja Ja,h.h.kept T$ a h.h Ja Ja Ja,h.bm,h.bh,h.vs,⟨h.vz.1,h.vz.2.1,h.vz.2.2.1,rfl,rfl,h.vz.2.2.2.2.2.1,h.vz.2.2.2.2.2.2⟩⟩
def MxO.tm (h:MxO W base aN C M Ls β)(t:TMx W W'):MxO W' base aN C M Ls β:=⟨h.m.tm t,h.e,h.k.tm t,aK0 h.q t,h.l.kept t$ oQ h.l Ja,h.h.kept t$ oQ h.h Ja,h.bm,h.bh,h.vs,h.vz⟩
end
