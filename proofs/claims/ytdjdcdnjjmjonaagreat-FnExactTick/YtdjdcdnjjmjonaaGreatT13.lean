import Derived.Test.YtdjdcdnjjmjonaaGreatT11
import Derived.Test.YtdjdcdnjjmjonaaGreatT12
set_option linter.all false
set_option maxHeartbeats 8000000
namespace Go.Proofs.YtdjdcdnjjmjonaaGreat
open Go.RowKit
set_option maxRecDepth 100000
variable {L:Lay}{T b c cs cw d k m s:Int}{g n:Nat}{ps:List PMod}{s1 s2 s3 s4:Value}{xs:List SlT}
def gO (a:1<=c)(f:c<=64):((slz c:Nat):Int)=rnd (4*c)/\slz c<=256/\4*c<=(slz c:Int):=by
 have:rnd (4*c)=(4*c+31)/32*32:=rfl;unfold slz;omega
def aEm (h:lkc ps s c k d=0)(hs:0<s)(a:0<=pcq ps m b)(j:0<=b):4*(bnk ps m b).length<=slz c/\∀i,i<(bnk ps m b).length->0<=(bnk ps m b).getD i 0/\(bnk ps m b).getD i 0<=4294967295:=by
 let⟨f,u,w,l,x,y,p,A,B⟩:=dZ.1 h;unfold cfo at f;simp at f;obtain⟨s0,s1,q,t,_⟩:=f;have:=gO q t;unfold pcq at a;by_cases g:0<=m/\m<(ps.length:Int)
 .rw[if_pos g,if_neg J]at a;by_cases c2:0<=b/\b<((ps.getD m.toNat zP).bl.length:Int)
  .have e:=aCh$ l m.toNat J;have:=p hs m.toNat J b.toNat J;exact⟨by unfold bnk;omega,e.2 b.toNat J⟩
  .grind
 .grind
def aKw {w:qw}{a:qO}{q:Nat}{ms:List Md}(h:MSD w a n q ms)(A:0<=pcq (aF ms) m b)(C:0<=b):∃gm i e f l B u x,a=some (qR gm i)/\(0<=m/\m<(n:Int))/\b<((l:Nat):Int)/\l<=9223372036854775807/\(∀X,qY w X->X.cell? (qR gm$ i+m.toNat*8+2)=some (qS (some$ qR e f) l B)/\X.cell? (qR e$ f+b.toNat)=some (.slice u (bnk (aF ms) m b).length x))/\IS w u (bnk (aF ms) m b).length x (bnk (aF ms) m b):=by
 let⟨⟨s,E⟩,G⟩:=mS h A;obtain⟨gm,i,rfl,K,v1,v2,v3,v4,M,N,O⟩:=h.s.at m.toNat J;have hd:=h.d m.toNat J;have:=h.s.1;have p:bnk (aF ms) m b=((ms.getD m.toNat aL).pm.bl).getD b.toNat []:=by unfold bnk;rw[dB]
 generalize ms.getD m.toNat aL=D at *
 have j:b<(D.bn:Int):=by
  unfold pcn at G
  grind
 let⟨H,d,g,k,I⟩:=hd.b;let⟨e,f,F,hc⟩:=g J;have r:=k b.toNat J;have t:=hc b.toNat J
 have e1:bnk (aF ms) m b=(D.bl.getD b.toNat zB).2.2.2:=by
  rw[p];simp[Md.pm,xB,show b.toNat<D.bl.length from J]
 rw[<-e1]at r;rw[F]at v2;have e2:=r.1;rw[<-e2]at r t;unfold maxLen at d;exact⟨gm,i,e,f,D.bn,D.bc,_,_,rfl,⟨s,E⟩,j,J,λX y=>⟨aB y v2,aB y t⟩,r⟩
def lK (s c k d w)(f:1<=c)(i:c<=64):
 qC 266 #[.agg$ qW s c k d] w (qB w$ qI (slz c:Nat)):=by
 have a:=zh λ(X:qw)=>jO (4*c) X;rw[<-(gO f i).1]at a;have j:=zh$ (Below.refl (qs w) w).alloc aO$ .cells (qW s c k d) 37
 delta qC;go_in
 go_wp2_with (go_at_call 259;refine(a.o _).mono ?_;rintro e l ⟨rfl,rfl⟩)
 go_ret;exact⟨rfl,j⟩
def BkB (w:qw)(ps:List PMod)(c m b:Int)(e:Ending)(w':qw):Prop:=∃g,e=.returned (qS (qP g) (slz c)$ slz c)/\OB w' w.heap.size (qS (qP g) (slz c)$ slz c) (bkb ps c m b)/\qY w w'
def mL (M x0 x1 x2 x3 w)(h:MnD w M)(G:lkc (aF M.ms) M.cs M.cw M.ck M.cd=0)(hs:0<M.cs)(F:0<=pcq (aF M.ms) x1 x2)(W:0<=x2):
 qC 120 #[.agg$ qA M,.agg #[.bool x0,qI x1,qI x2,qI x3]] w (BkB w (aF M.ms) M.cw x1 x2):=by
 obtain⟨w0,E⟩:1<=M.cw/\M.cw<=64:=by
  have A:=(dZ.1 G).1;unfold cfo at A;simp at A;exact⟨A.2.2.1,A.2.2.2.1⟩
 let⟨f1,f2⟩:=aEm G hs F W;let⟨z1,z2,z3⟩:=gO w0 E;let⟨U,hU,bU,kU⟩:=nwb w (qA M) 43;let⟨V,hV,s,kV⟩:=nwb U #[.bool x0,qI x1,qI x2,qI x3] 132;have j:U.heap.size=w.heap.size+1:=by rw[hU];simp
 have H:=yT bU s;have f:=kU.bw s;let⟨gm,om,g,k,dn,dc,Y,Z,ha,⟨m0,m1⟩,b1,b2,a0,a2⟩:=aKw (h.m.bw H) F W;have I:=zh a2;have B:=zh$ xA f1 f2;have l:=zh λ(X:qw)=>eQ (4*M.cw) X;rw[<-(gO w0 E).1]at l;have:=aB0 (slz M.cw) J;have x:Zh (bkb (aF M.ms) M.cw x1 x2=cF (List.replicate (slz M.cw) 0) 0 (bnk (aF M.ms) x1 x2) (bnk (aF M.ms) x1 x2).length):=rfl;have:=h.m.s.2.1
 have p:=zh (λ(X:qw)(i:qY V X)=>show(X.cell? (qR w.heap.size 0)=qk M.ma M.mn M.mc/\X.cell? (qR w.heap.size 1)=qj M.cs/\X.cell? (qR w.heap.size 2)=qj M.cw/\X.cell? (qR w.heap.size 3)=qj M.ck/\X.cell? (qR w.heap.size 4)=qj M.cd)/\X.cell? (qR (w.heap.size+1) 1)=qj x1/\X.cell? (qR (w.heap.size+1) 2)=qj x2/\X.cell? (qR gm$ om+x1.toNat*8+2)=qk (qe g k) dn dc/\X.cell? (qR g$ k+x2.toNat)=some (.slice Y (bnk (aF M.ms) x1 x2).length Z)from
  ⟨⟨(f.bw i).cell 0,(f.bw i).cell 1,(f.bw i).cell 2,(f.bw i).cell 3,(f.bw i).cell 4⟩,by rw[<-j];exact(kV.bw i).cell 1,by rw[<-j];exact(kV.bw i).cell 2,(a0 X i).1,(a0 X i).2⟩)
 have y:=zh H;have Q:=zh hU;have P:=zh hV;unfold BkB;rw[x.o];generalize bnk (aF M.ms) x1 x2=C at *;generalize slz M.cw=sz at *;rw[ha]at p;rw[<-j]at p;clear hU hV bU s kU f kV a0 a2 H h G F z1 x j f1 f2;let⟨⟨y0,y1,y2,y3,y4⟩,s1,s2,u0,u1⟩:=p V brf
 delta qC;go_in
 go_wp2_with (first|rw[<-Q.o]|rw[<-P.o])
 apply(l _).mono;rintro e X1 ⟨rfl,t⟩;have a:qY V X1:=by rw[t];exact brf
 clear t;have u:=zh a;let⟨V2,a1,d,k2⟩:=nwb X1 (zby sz) 5;have R:=yT a d;have N:=zh a1;have O:w.heap.size<=X1.heap.size:=by have A:=y.size;have:=a.size;omega
 have D:=zb V2 λX i=>(pG (qs X1) sz sz 0 Y C.length Z C (List.replicate sz 0) (qs w) X1 X (I.bw u) (yT d i) aO ((rY k2 O J).bw i) J (jK B.1) B.2).mono λe b K=>show e=.returned (.tuple #[])/\OB b (qs w) (qS (qp X1) sz sz) (cF (List.replicate sz 0) 0 C C.length)/\qY V b from⟨K.1,K.2.1,yT u$ dH (yT d i) K.2.2 aO⟩;rw[show((0:Nat):Int)=0 from rfl]at D;clear y0 y1 y2 y3 y4 s1 s2 u0 u1 l Q P;let⟨⟨y0,y1,y2,y3,y4⟩,s1,s2,u0,u1⟩:=p V2 R;clear a d k2 R a1 O;go_wp2_with (rw[<-N.o])
 go_region_held3 (λb=>qn b w 0=qk (qe gm om) M.mn M.mc/\qn b U 1=qj x1/\qn b U 2=qj x2/\qN b gm (om+x1.toNat*8+2)=qk (qe g k) dn dc/\qN b g (k+x2.toNat)=qk Y C.length Z) (go_keep)
  (first
    | (go_at_call 114;first
        | with_reducible refine(D.o _ brf).mono ?_
        | with_reducible refine(D.o _ brf.drew).mono ?_
       rintro e E ⟨rfl,q,a⟩;have S:=zh$ xA q a;let⟨⟨p0,p1,p2,p3,p4⟩,t1,t2,v0,v1⟩:=p E a
       clear q a))
 clear y0 y1 y2 y3 y4 s1 s2 u0 u1 p0 p1 p2 p3 p4 t1 t2 v0 v1 D p;go_wp2;go_ret;exact⟨_,rfl,S.1,yT y S.2⟩
def aBg (M x0 x1 x2 x3 w)(h:MnD w M)(F:lkc (aF M.ms) M.cs M.cw M.ck M.cd=0)(hs:0<M.cs)(E:0<=pcq (aF M.ms) x1 x2)(R:0<=x2):
 qC 190 #[.agg$ qA M,.agg #[.bool x0,qI x1,qI x2,qI x3]] w (BkB w (aF M.ms) M.cw x1 x2):=by
 obtain⟨w0,C⟩:1<=M.cw/\M.cw<=64:=by
  have x:=(dZ.1 F).1;unfold cfo at x;simp at x;exact⟨x.2.2.1,x.2.2.2.1⟩
 let⟨f1,f2⟩:=aEm F hs E R;let⟨z1,z2,z3⟩:=gO w0 C;let⟨U,hU,bU,kU⟩:=nwb w (qA M) 43;let⟨V,hV,s,kV⟩:=nwb U #[.bool x0,qI x1,qI x2,qI x3] 132;have j:U.heap.size=w.heap.size+1:=by rw[hU];simp
 have G:=yT bU s;have f:=kU.bw s;let⟨gm,om,g,k,dn,dc,W,Z,ha,⟨m0,m1⟩,b1,b2,a0,a2⟩:=aKw (h.m.bw G) E R;have I:=zh a2;have y:=zh$ xA f1 f2;have H:=zh λ(X:qw)=>lK M.cs M.cw M.ck M.cd X w0 C;have:=aB0 (slz M.cw) J;have t:Zh (bkb (aF M.ms) M.cw x1 x2=cF (List.replicate (slz M.cw) 0) 0 (bnk (aF M.ms) x1 x2) (bnk (aF M.ms) x1 x2).length):=rfl;have:=h.m.s.2.1
 have l:=zh (λ(X:qw)(i:qY V X)=>show(X.cell? (qR w.heap.size 0)=qk M.ma M.mn M.mc/\X.cell? (qR w.heap.size 1)=qj M.cs/\X.cell? (qR w.heap.size 2)=qj M.cw/\X.cell? (qR w.heap.size 3)=qj M.ck/\X.cell? (qR w.heap.size 4)=qj M.cd)/\X.cell? (qR (w.heap.size+1) 1)=qj x1/\X.cell? (qR (w.heap.size+1) 2)=qj x2/\X.cell? (qR gm$ om+x1.toNat*8+2)=qk (qe g k) dn dc/\X.cell? (qR g$ k+x2.toNat)=some (.slice W (bnk (aF M.ms) x1 x2).length Z)from
  ⟨⟨(f.bw i).cell 0,(f.bw i).cell 1,(f.bw i).cell 2,(f.bw i).cell 3,(f.bw i).cell 4⟩,by rw[<-j];exact(kV.bw i).cell 1,by rw[<-j];exact(kV.bw i).cell 2,(a0 X i).1,(a0 X i).2⟩)
 have u:=zh G;have Y:=zh hU;have S:=zh hV;unfold BkB;rw[t.o];generalize bnk (aF M.ms) x1 x2=A at *;generalize slz M.cw=sz at *;rw[ha]at l;rw[<-j]at l;clear hU hV bU s kU f kV a0 a2 G h F E z1 t j f1 f2;let⟨⟨y0,y1,y2,y3,y4⟩,s1,s2,u0,u1⟩:=l V brf
 delta qC;go_in
 go_wp2_with (first|rw[<-Y.o]|rw[<-S.o])
 apply(H _).mono;rintro e B ⟨rfl,a⟩;have q:=zh a;let⟨V2,a1,d,k2⟩:=nwb B (zby sz) 5;have P:=yT a d;have N:=zh a1;have O:w.heap.size<=B.heap.size:=by have x:=u.size;have:=a.size;omega
 have D:=zb V2 λX i=>(lO (qs B) sz sz 0 sz sz W A.length Z A (List.replicate sz 0) (qs w) B X (I.bw q) (yT d i) aO ((rY k2 O J).bw i) J (jK y.1) (jK y.1) aO J).mono λe b K=>show e=.returned (.tuple #[])/\OB b (qs w) (qS (qp B) sz sz) (cF (List.replicate sz 0) 0 A A.length)/\qY V b from⟨K.1,K.2.1,yT q$ dH (yT d i) K.2.2 aO⟩;let⟨⟨y0,y1,y2,y3,y4⟩,s1,s2,u0,u1⟩:=l V2 P;clear a d k2 P a1 O;go_wp2_with (rw[<-N.o])
 go_region_held3 (λb=>qn b w 0=qk (qe gm om) M.mn M.mc/\qn b U 1=qj x1/\qn b U 2=qj x2/\qN b gm (om+x1.toNat*8+2)=qk (qe g k) dn dc/\qN b g (k+x2.toNat)=qk W A.length Z) (go_keep)
  (first
    | (go_at_call 267;first
        | with_reducible refine(D.o _ brf).mono ?_
        | with_reducible refine(D.o _ brf.drew).mono ?_
       rintro e C ⟨rfl,p,a⟩;have Q:=zh$ xA p a;let⟨⟨p0,p1,p2,p3,p4⟩,t1,t2,v0,v1⟩:=l C a
       clear p a))
 clear y0 y1 y2 y3 y4 s1 s2 u0 u1 p0 p1 p2 p3 p4 t1 t2 v0 v1 D l;go_wp2;go_ret;exact⟨_,rfl,Q.1,yT u Q.2⟩
def vN (h:lkc ps s c k d=0){i:Nat}(hi:i<(lkL ps s c k d).slots.length):65536<=(lkL ps s c k d).slots.getD i 0/\(lkL ps s c k d).slots.getD i 0-65536+(slz c:Int)<=(lkL ps s c k d).ram/\(lkL ps s c k d).ram<=16384/\((lkL ps s c k d).slots.length:Int)=s/\0<s:=by
 have e:lkL ps s c k d=lay ps s c k:=by unfold lkL;rw[if_pos h]
 rw[e]at hi⊢;let⟨b,l,p,f,q,t,u,w,x⟩:=dZ.1 h;unfold cfo at b;simp at b;obtain⟨s0,s1,g,j,y,_⟩:=b;let⟨A,B,C⟩:=gO g j;have:=bL f ps.length aO;have a:(lay ps s c k).slots.length=s.toNat:=by simp[lay]
 rw[a]at hi
 have:(lay ps s c k).slots.getD i 0=65536+Ra ps ps.length+k+(i:Int)*rnd (4*c):=by
  simp[lay,xB,hi,slt]
 have:(lay ps s c k).ram=Ra ps ps.length+k+(s.toNat:Int)*rnd (4*c):=rfl
 have:(i:Int)*rnd (4*c)+rnd (4*c)<=(s.toNat:Int)*rnd (4*c):=by
  have:((i:Int)+1)*rnd (4*c)<=(s.toNat:Int)*rnd (4*c):=Int.mul_le_mul_of_nonneg_right J J
  grind
 have:(0:Int)<=(i:Int)*rnd (4*c):=Int.mul_nonneg J J
 grind
def aAl (M)(L:Lay)(s c0)(xs:List PB)(a2 c2 a5 c5)(P:List TB)(i w)(h:MnD w M)(hs:IS w a2 L.slots.length c2 L.slots)(hi:i<L.slots.length)(S:1<=M.cw)(B:M.cw<=64)(F:65536<=L.slots.getD i 0)(u:L.slots.getD i 0-65536+(slz M.cw:Int)<=M.rn)(a6:M.rn<=16384):
 qC 189 #[.agg$ qA M,.agg$ qJ L s xs c0 a2 c2 a5 P c5,qI i] w λe w'=>∃a c,e=.returned (qS a (slz M.cw) c)/\BS w' a (slz M.cw) c (slb M.rz L M.cw i)/\qY w w':=by
 have z1:=gO S B;let⟨U,hU,bU,kU⟩:=nwb w (qA M) 43;let⟨V,hV,b,kV⟩:=nwb U (qJ L s xs c0 a2 c2 a5 P c5) 65;have C:=yT bU b;have f:=kU.bw b;obtain⟨gs,os,rfl,a0⟩:=(hs.bw C).2.2.2.1 J;have q:=a0 i hi;obtain⟨A,d⟩:∃A:Nat,L.slots.getD i 0=65536+(A:Int):=⟨(L.slots.getD i 0-65536).toNat,J⟩;have y:=zh (show slb M.rz L M.cw i=(M.rz.drop A).take (slz M.cw)by unfold slb;rw[d,show(65536+(A:Int)-65536).toNat=A from J]);rw[d]at q u;have O:=h.r.2.2.2.2;have Y:=h.r.2.1;have a7:=hs.2.1;have H:=zh λ(X:qw)=>lK M.cs M.cw M.ck M.cd X S B;have G:=zb V λX j=>(h.r.bw C).bw j
 have I:=zh (λ(X:qw)(j:qY V X)=>show qn X w 1=qj M.cs/\qn X w 2=qj M.cw/\qn X w 3=qj M.ck/\qn X w 4=qj M.cd/\qn X w 8=qk M.ra M.rn M.rc from
  ⟨(f.bw j).cell 1,(f.bw j).cell 2,(f.bw j).cell 3,(f.bw j).cell 4,(f.bw j).cell 8⟩)
 have s2:=kV.e2;rw[y.o];generalize slz M.cw=sz at *;generalize x:M.ra=ra at *;generalize l:M.rc=rc at *;obtain⟨g,k,rfl,_⟩:=(G V brf).2.2.2.1 J;obtain⟨E,hE⟩:∃E:Nat,E=A+sz:=⟨_,rfl⟩
 have N:=zh (λ(X:qw)(j:qY V X)=>show BS X (qe g$ k+A) (E-A) (rc-A) ((M.rz.drop A).take sz)by
  have h1:=((G X j).drop A J).take sz J;rw[show E-A=sz from J]
  exact h1)
 have t:=zh$ show E-A=sz from J;have a4:IntKind.i64.wrap (65536+(A:Int)-65536)=(A:Int):=by rw[xP,xQ _ J];omega
 have Q:IntKind.i64.wrap (A:Int)=(A:Int):=by rw[xP,xQ _ J]
 have a1:IntKind.i64.wrap ((A:Int)+(sz:Int))=(E:Int):=by rw[xP,xQ _ J];omega
 have g0:(0:Int)<=(A:Int):=J
 have g1:(A:Int)<=(E:Int):=J
 have g2:(E:Int)<=(rc:Int):=J
 have g3:(A:Int)<(rc:Int):=J
 have g4:A<=E:=J
 have g5:¬(rc=A):=J
 have g6:A<rc:=J
 have K:=zh C;have HU:=zh hU;have Z:=zh hV;have a3:=zh$ xA x l;have y1:=I V brf;clear hU hV bU b kU f kV C h hs a0 d hE x l y G O F u z1
 delta qC;go_in
 go_wp2_with (first|rw[<-HU.o]|rw[<-Z.o])
 have D:=zb V λX j=>(H X).mono λe w' W=>show e=.returned (qI sz)/\qY V w' from⟨W.1,yT j W.2⟩;clear s2 q
 go_region_held3 (λw'=>qn w' w 1=qj M.cs/\qn w' w 2=qj M.cw/\qn w' w 3=qj M.ck/\qn w' w 4=qj M.cd/\qn w' w 8=qk (qe g k) M.rn rc) (go_keep)
  (first
    | (go_at_call 266;first
        | with_reducible refine(D.o _ brf).mono ?_
        | with_reducible refine(D.o _ brf.drew).mono ?_
       rintro e B ⟨rfl,p⟩;have R:=zh p;have t1:=I B p
       clear p))
 clear y1 t1 D I;go_wp2;go_ret;exact⟨qe g$ k+A,rc-A,by rw[<-t.o];rfl,by have:=N.o _ R.o;rw[t.o]at this;exact this,yT K.o R.o⟩
def aDd (a:qi)(k:Nat)(v:Int):∀(s p:Nat),(put a k v s)[p]?=if k<=p/\p<k+s/\p<a.length then some (bt v$ p-k) else a[p]?
 | 0,p=>by rw[if_neg J];rfl
 | s+1,p=>by
   show((put a k v s).set (k+s)$ bt v s)[p]?=_;rw[List.getElem?_set,nN,aDd a k v s p]
   grind
def vT (a:qi)(k:Nat)(e:qi):∀(n p:Nat),(cF a k e n)[p]?=if k<=p/\p<k+4*n/\p<a.length then some (bt (e.getD ((p-k)/4) 0)$ (p-k)%4) else a[p]?
 | 0,p=>by rw[if_neg J];rfl
 | n+1,p=>by
   rw[cF,aDd,gH,vT a k e n p]
   grind
def aJ8 (b f a p)(h:f+a.length<=b.length):(ovr b f a)[p]?=if f<=p/\p<f+a.length then a[p-f]? else b[p]?:=by
 unfold ovr;by_cases d:p<f
 .rw[List.getElem?_append_left (by grind),List.getElem?_take_of_lt d,if_neg J]
 .rw[List.getElem?_append_right (by grind),List.length_take,Nat.min_eq_left J]
  grind
def aSe (R f n b)(a:b.length<=n)(e:f+4*n<=R.length):cF R f b n=ovr R f (cF (List.replicate (4*n) 0) 0 b b.length):=by
 apply List.ext_getElem?;intro p;rw[vT,aJ8 _ _ _ _ (by rw[gH,List.length_replicate];omega),gH,List.length_replicate,vT,List.length_replicate];by_cases c:f<=p/\p<f+4*n
 .rw[if_pos J,if_pos c];by_cases c2:p-f<4*b.length
  .grind
  .rw[if_neg J,List.getElem?_replicate,if_pos J,show b.getD ((p-f)/4) 0=0 by grind];simp[bt]
 .grind
def aT9 {R D:qi}{f:Nat}(h:(R.drop f).take n=D)(a:f+n<=R.length):ovr R f D=R:=by
 have:D.length=n:=by grind
 apply List.ext_getElem?;intro p;rw[aJ8 _ _ _ _ J]
 grind
def lst (xs:List SlT):Nat->Nat
 | 0=>0
 | i+1=>if (xs.getD i zSl).2.2.2<(xs.getD (lst xs i) zSl).2.2.2 then i else lst xs i
def wT (xs:List SlT):∀i,lst xs i<i\/(i=0/\lst xs i=0)
 | 0=>.inr ⟨rfl,rfl⟩
 | i+1=>by
   unfold lst;split
   .grind
   .rcases wT xs i with h|h
    .grind
    .grind
def slq (xs:List SlT)(m b:Int):Nat:=if hld xs m b=-1 then lst xs xs.length else (hld xs m b).toNat
def oU (m b)(h:xs.length≠0):slq xs m b<xs.length:=by
 unfold slq;split
 .rcases wT xs xs.length with q|q
  .exact q
  .omega
 .rcases lD xs m b with q|q
  .contradiction
  .omega
def Tnz (xs:List SlT):Prop:=∀i,i<xs.length->((xs.getD i zSl).1=false->(xs.getD i zSl).2.2.2=0)/\((xs.getD i zSl).1=true->1<=(xs.getD i zSl).2.2.2)
def aO3 (a:Tnz xs){j:Nat}(l:j<xs.length)(hu:(xs.getD j zSl).1=false)(f:∀i,i<j->(xs.getD i zSl).1=true):lst xs xs.length=j:=by
 have p:=(a j l).1 hu
 have A:lst xs (j+1)=j:=by
  unfold lst;rcases wT xs j with h|⟨h,t⟩
  .have:=(a (lst xs j) J).2$ f _ h
   grind
  .grind
 have B:∀k,j+1<=k->k<=xs.length->lst xs k=j:=by
  intro k u
  induction k with
  | zero=>omega
  | succ k ih=>
    intro w;by_cases e:k=j
    .grind
    .have:=ih J J;unfold lst;rw[this,if_neg];rw[p];have q:=a k J
     grind
 grind
def eG (C:Cn)(L:Lay)(m b t:Int):Cn:=
 if C.lz.length≠0/\b≠-1 then
  { C with tn:=C.tn+1,lz:=C.lz.set (slq C.lz m b) (true,m,b,C.tn+1),rz:=ovr C.rz (L.slots.getD (slq C.lz m b) 0-65536).toNat$ bkb C.ps C.cw m b,md:=m,bk:=b,pc:=fH L (plc C.ps m.toNat) b (slq C.lz m b:Nat)+4*t,kz:=C.kz.set 7 (plc C.ps m.toNat).data }
 else { C with md:=m,bk:=b,pc:=fH L (plc C.ps m.toNat) b (-1)+4*t,kz:=C.kz.set 7 (plc C.ps m.toNat).data }
def aQr {rz:qi}(h:dO ps L cs cw T rz xs):Tnz xs:=λi hi=>by
 have a:=(h.2 i hi).1;unfold slk at a;rcases a with f|f
 .exact⟨λ_=>by rw[f.2];rfl,λe=>(by grind)⟩
 .grind
def aSn (ps cw m b):(bkb ps cw m b).length=slz cw:=by unfold bkb;rw[gH,List.length_replicate]
def aQq {rz:qi}(h:dO ps L cs cw T rz xs)(j:hld xs m b≠-1)(l:(L.slots.getD (slq xs m b) 0-65536).toNat+slz cw<=rz.length):ovr rz (L.slots.getD (slq xs m b) 0-65536).toNat (bkb ps cw m b)=rz:=by
 have f:∀(a:List SlT)(i:Nat),gS m b i a≠-1->∃k:Nat,gS m b i a=(i+k:Nat)/\k<a.length/\usd m b (a.getD k zSl):=by
  intro a
  induction a with
  | nil=>intro i h;exact absurd rfl h
  | cons y a ih=>
    intro i h;unfold gS at h⊢;by_cases c:usd m b y
    .rw[if_pos c];exact⟨0,rfl,Jb,c⟩
    .rw[if_neg c]at h⊢;let⟨k,e,d,g⟩:=ih (i+1) h;exact⟨k+1,by grind,by grind,by grind⟩
 let⟨k,e,d,g⟩:=f xs 0 j
 have p:slq xs m b=k:=by
  unfold slq;rw[if_neg j];unfold hld
  grind
 rw[p]at l⊢;let⟨_,_,q⟩:=h.2 k d;obtain⟨s,t,u⟩:=g;have:=q s;rw[t,u]at this;exact aT9 this l
def vP (a n c xs w)(h:QS cM zSl w a n c xs):
 qC 303 #[qS a n c] w (qB w$ qI (lst xs n:Nat)):=by
 have t:=h.2.1;unfold maxLen at t
 delta qC;go_in
 go_wp2;go_loopw [3,8] (λl i wr=>∃k p:Nat,k<=n/\i=qI k/\l=qI p/\Hid (p=lst xs k)/\qY w wr) (λ_ i _=>n-(intOf i).toNat)
 .exact⟨0,0,xC _,rfl,rfl,zh rfl,brf⟩
 .obtain⟨k,p,G,rfl,rfl,A,e⟩:=hrel;by_cases u:k<n
  .have C:(k:Int)<(n:Int):=J
   have E:p<n:=by have:=wT xs k;rw[<-A.out]at this;omega
   obtain⟨g,f,rfl,M,N,O,P⟩:=(h.bw e).at k u _ _ _ _ rfl;let⟨Y,X,R,_,_,_,Q⟩:=(h.bw e).at p E _ _ _ _ rfl;cases R
   have q:=zh (show lst xs (k+1)=if (xs.getD k zSl).2.2.2<(xs.getD p zSl).2.2.2 then k else p by rw[A.out];rfl);generalize xs.getD k zSl=x at *;generalize (xs.getD p zSl).2.2.2=y at *;obtain⟨S,U,W,d⟩:=x;let⟨V,I,s,K⟩:=nwb wr #[.bool S,qI U,qI W,qI d] 132;have v3:=K.e3;have F:qN V g (f+p*4+3)=qj y:=aKu s Q;have j:=zh$ yT e s;have D:=zh I;clear h e I s K Q;by_cases H:d<y
   .have B:=zh (show lst xs (k+1)=k by rw[q.o,if_pos H]);clear q;go_wp2_with (rw[<-D.o])
    clear M N O P
    go_region_held3 (λb=>qn b wr 3=qj d/\qN b g (f+p*4+3)=qj y) (go_keep) (fail)
    all_goals
     go_wp2
     go_roundw
     .exact⟨k+1,k,J,by go_num,rfl,zh B.symm,by first|exact j.drew|exact j⟩
     .simp[intOf];omega
   .have B:=zh (show lst xs (k+1)=p by rw[q.o,if_neg H]);clear q;go_wp2_with (rw[<-D.o])
    clear M N O P
    go_region_held3 (λb=>qn b wr 3=qj d/\qN b g (f+p*4+3)=qj y) (go_keep) (fail)
    all_goals
     go_wp2
     go_roundw
     .exact⟨k+1,p,J,by go_num,rfl,zh B.symm,by first|exact j.drew|exact j⟩
     .simp[intOf];omega
  .obtain rfl:k=n:=J
   have j:=zh e;clear e;go_wp2;go_ret;exact⟨aJ (by rw[A.out]),j.o⟩
def aId (a n c xs m b t w)(h:QS cM zSl w a n c xs)(hv:Tnz xs):
 qC 253 #[qS a n c,.agg$ qT m b t] w (qB w$ qI (slq xs m b:Nat)):=by
 have R:=h.1;have G:=h.2.1;unfold maxLen at G;let⟨V,hV,bV,kV⟩:=nwb w (qT m b t) 121;have E:=zh$ dQ a n c xs m b V$ h.bw bV;have Y:=zh$ lD xs m b;have U:=zh (show slq xs m b=if hld xs m b=-1 then lst xs n else (hld xs m b).toNat by unfold slq;rw[R]);generalize hld xs m b=r at *;generalize hs:slq xs m b=s at *;have S:=kV.cell 0;have x1:=kV.cell 1;have X:=zh hV;have I:=zh bV
 delta qC;go_in
 go_wp2_with (rw[<-X.o])
 apply E.mono;rintro e X1 ⟨rfl,N⟩;have u:=zh$ yT I N;by_cases c1:0<=r
 .have A:=zh (show r=(s:Nat)by rw[U.o,if_neg J];omega);go_wp2;go_ret;exact⟨aJ A,u⟩
 have A:=zh (show s=lst xs n by rw[U.o,if_pos (jK Y.o)]);go_wp2_with fail
 go_loopw [5,6] (λq i wr=>∃k p:Nat,k<=n/\i=qI k/\q=qI p/\Hid (p=lst xs k)/\Hid (∀j,j<k->(xs.getD j zSl).1=true)/\qY w wr) (λ_ i _=>n-(intOf i).toNat)
 .exact⟨0,0,xC _,rfl,rfl,zh rfl,zh λj Z=>J,u⟩
 .obtain⟨k,p,hk,rfl,rfl,D,P,B⟩:=hrel;by_cases K:k<n
  .have O:(k:Int)<(n:Int):=J
   have W:p<n:=by have:=wT xs k;rw[<-D.out]at this;omega
   obtain⟨g,f,rfl,q0,q1,q2,q3⟩:=(h.bw B).at k K _ _ _ _ rfl;let⟨g',f',e',_,_,_,r3⟩:=(h.bw B).at p W _ _ _ _ rfl;cases e'
   have Q:=zh (show lst xs (k+1)=if (xs.getD k zSl).2.2.2<(xs.getD p zSl).2.2.2 then k else p by rw[D.out];rfl);have F:=zh (λ(e:(xs.getD k zSl).1=false)=>show lst xs n=k by rw[<-R];exact aO3 hv J e P.out)
   have M:=zh (λ(e:(xs.getD k zSl).1=true)=>show ∀j,j<k+1->(xs.getD j zSl).1=true from λj Z=>by
    by_cases q:j=k
    .rw[q];exact e
    .exact P.out j J)
   generalize xs.getD k zSl=x at *;generalize (xs.getD p zSl).2.2.2=y at *;obtain⟨S,x1,x2,x3⟩:=x;have l:=zh B;cases S with
   | false=>
     have C:=zh (show s=k by rw[A.o,F.o rfl]);go_wp2;go_ret;exact⟨aJ (by rw[C.o]),l.o⟩
   | true=>
     have C:=zh$ M rfl;by_cases c1:x3<y
     .have H:=zh (show lst xs (k+1)=k by rw[Q.o,if_pos c1]);go_wp2_with fail
      go_region_held3 (λd=>qN d g (f+k*4+3)=qj x3/\qN d g (f+p*4+3)=qj y) (go_keep) (fail)
      all_goals
       go_wp2
       go_roundw
       .exact⟨k+1,k,J,by go_num,rfl,zh H.symm,C,by first|exact l.drew|exact l⟩
       .simp[intOf];omega
     .have H:=zh (show lst xs (k+1)=p by rw[Q.o,if_neg c1]);go_wp2_with fail
      go_region_held3 (λd=>qN d g (f+k*4+3)=qj x3/\qN d g (f+p*4+3)=qj y) (go_keep) (fail)
      all_goals
       go_wp2
       go_roundw
       .exact⟨k+1,p,J,by go_num,rfl,zh H.symm,C,by first|exact l.drew|exact l⟩
       .simp[intOf];omega
  .obtain rfl:k=n:=J
   have l:=zh B;go_wp2;go_ret;exact⟨aJ (by rw[A.o,D.out]),l.o⟩
structure Pr (w:qw)(g:Nat)(pc:Int)(rg:qi)(s1 s2 s3 s4:Value):Prop where
 blk:Blk w g (#[.int .u32 pc]++(rg.map (Value.int .u32)).toArray++#[s1,s2,s3,s4]) 152
 len:rg.length=8
 pcw:0<=pc/\pc<=4294967295
 rgw:∀z∈rg,0<=z/\z<=4294967295
def Pr.pc {w:qw}{pc:Int}{rg:qi}(h:Pr w g pc rg s1 s2 s3 s4):w.cell? (qR g 0)=some (.int .u32 pc):=by
 rw[h.blk.cell];simp
def Pr.reg {w:qw}{pc:Int}{rg:qi}(h:Pr w g pc rg s1 s2 s3 s4)(i)(hi:i<8):w.cell? (qR g$ 1+i)=some (.int .u32$ rg.getD i 0):=by
 rw[h.blk.cell];have:=h.len;rw[Array.getElem?_append_left (by grind),Array.getElem?_append_right Jb]
 grind
def Pr.range {w:qw}{pc:Int}{rg:qi}(h:Pr w g pc rg s1 s2 s3 s4)(i):0<=rg.getD i 0/\rg.getD i 0<=4294967295:=by
 by_cases hi:i<rg.length
 .have:=h.rgw rg[i] (List.getElem_mem hi)
  grind
 .grind
def aMx (n):IntKind.i16.wrap n=(n+32768)%65536-32768:=by
 simp[IntKind.wrap,IntKind.bits,IntKind.signed]
 grind
def tQ (i w)(f:0<=i)(j:i<=65535):
 qC 277 #[qI i] w λe w'=>e=.returned (.int .u32$ eA i%4294967296)/\w=w':=by
 have a:Zh (IntKind.i16.wrap i%4294967296=eA i%4294967296):=by
  show _=_;rw[aMx];unfold eA;split<;>omega
 delta qC;go_in
 go_wp2;go_ret;exact⟨aJ a,rfl⟩
def aHs (op d a i g pc rg s1 s2 s3 b w)(h:Pr w g pc rg s1 s2 s3 b)(p:0<=d)(l:d<=7):
 qC 208 #[.pointer$ qP g,.agg$ qW op d a i] w (qB w$ .int .u32$ rg.getD d.toNat 0):=by
 have j:=h.reg d.toNat J;have:=xD w _ j;generalize rg.getD d.toNat 0=z at *;have e:=zh$ (Below.refl w.heap.size w).alloc aO$ .cells (qW op d a i) 186
 delta qC;go_in
 go_wp2
 go_quiet (fail)
 go_wp2;go_ret;exact⟨rfl,⟨e.os,e.tape,e.output,e.size,e.block⟩⟩
def aN7 (op d a i g pc rg s1 s2 s3 b w)(h:Pr w g pc rg s1 s2 s3 b)(p:0<=a)(l:a<=7):
 qC 210 #[.pointer$ qP g,.agg$ qW op d a i] w (qB w$ .int .u32$ rg.getD a.toNat 0):=by
 have j:=h.reg a.toNat J;have:=xD w _ j;generalize rg.getD a.toNat 0=z at *;have e:=zh$ (Below.refl w.heap.size w).alloc aO$ .cells (qW op d a i) 186
 delta qC;go_in
 go_wp2
 go_quiet (fail)
 go_wp2;go_ret;exact⟨rfl,⟨e.os,e.tape,e.output,e.size,e.block⟩⟩
def lA (g pc rg s1 s2 s3 a w)(h:Pr w g pc rg s1 s2 s3 a):
 qC 276 #[.pointer$ qP g] w λe w'=>e=.returned (.int .u32$ (pc+4)%4294967296)/\w=w':=by
 have:=h.pc
 delta qC;go_in
 go_wp2;go_ret;exact⟨rfl,rfl⟩
def Pr.bw {w w':qw}{pc:Int}{rg:qi}(h:Pr w g pc rg s1 s2 s3 s4)(a:qY w w'):Pr w' g pc rg s1 s2 s3 s4:=⟨h.blk.bw a,h.len,h.pcw,h.rgw⟩
def sF (op d a i g pc rg s1 s2 s3 k w)(h:Pr w g pc rg s1 s2 s3 k)(A:0<=a)(a1:a<=7)(q:0<=i)(C:i<=65535):
 qC 213 #[.pointer$ qP g,.agg$ qW op d a i] w (qB w$ .int .u32$ (rg.getD a.toNat 0+eA i)%4294967296):=by
 have j:qY w (w.alloc$ .cells (qW op d a i) 186):=bal;have kb:=Blk.new w (qW op d a i) 186;have B:=zh λw h=>aN7 op d a i g pc rg s1 s2 s3 k w h A a1;have t:=zh λw=>tQ i w q C;have l:=h.bw j;generalize rg.getD a.toNat 0=z at *;generalize eA i=x at *;have u:Zh (∀y:Int,y=IntKind.u32.wrap (z+x%4294967296)->y=(z+x)%4294967296):=λy p=>by rw[p,IntKind.wrap_u32];omega
 delta qC;go_in
 go_wp2
 go_region_held3 (λb=>qn b w 0=qj op/\qn b w 1=qj d/\qn b w 2=qj a/\qn b w 3=qj i) (go_keep)
  (first
    | (go_at_call 210;refine(B _ ?_).mono ?_;exact⟨l.blk,l.len,l.pcw,l.rgw⟩;rintro e D ⟨rfl,f⟩;replace f:=aW f;obtain⟨s,F,G,H,I⟩:=(kb.bw f).four')
    | (go_at_call 277;refine(t _).mono ?_;rintro e E ⟨rfl,rfl⟩))
 go_wp2;go_ret;exact⟨aJ (by first|exact u.o _ rfl|omega),j.trans$ f.mono Jb⟩
def tS (op d a i g pc rg s1 s2 s3 k w)(h:Pr w g pc rg s1 s2 s3 k)(q:0<=i)(B:i<=65535):
 qC 234 #[.pointer$ qP g,.agg$ qW op d a i] w (qB w$ .int .u32$ (pc+4+4*eA i)%4294967296):=by
 have f:qY w (w.alloc$ .cells (qW op d a i) 186):=bal;have A:=zh λw h=>lA g pc rg s1 s2 s3 k w h;have t:=zh λw=>tQ i w q B;have j:=h.bw f;generalize eA i=x at *;have u:Zh (∀y:Int,y=IntKind.u32.wrap ((pc+4)%4294967296+IntKind.u32.wrap (4*(x%4294967296)))->y=(pc+4+4*x)%4294967296):=λy p=>by rw[p,IntKind.wrap_u32,IntKind.wrap_u32];omega
 have l:=zh f
 delta qC;go_in
 go_wp2
 go_region_held3 (λb=>qn b w 0=qj op/\qn b w 1=qj d/\qn b w 2=qj a/\qn b w 3=qj i) (go_keep)
  (first
    | (go_at_call 276;refine(A _ ?_).mono ?_;exact⟨j.blk,j.len,j.pcw,j.rgw⟩;rintro e C ⟨rfl,rfl⟩)
    | (go_at_call 277;refine(t _).mono ?_;rintro e D ⟨rfl,rfl⟩))
 go_wp2;go_ret;exact⟨aJ (by first|exact u _ rfl|omega),by first|exact l|exact l.drew⟩
def Pr.setpc {w:qw}{pc:Int}{rg:qi}(h:Pr w g pc rg s1 s2 s3 s4)(v)(a:0<=v/\v<=4294967295):Pr (w.setCell (qR g 0)$ .int .u32 v) g v rg s1 s2 s3 s4:=by
 refine⟨?_,h.len,a,h.rgw⟩;have:=h.blk.set 0$ .int .u32 v
 grind
def Pr.setreg {w:qw}{pc:Int}{rg:qi}(h:Pr w g pc rg s1 s2 s3 s4)(i)(hi:i<8)(v)(a:0<=v/\v<=4294967295):Pr (w.setCell (qR g$ 1+i)$ .int .u32 v) g pc (rg.set i v) s1 s2 s3 s4:=by
 have:=h.len;refine⟨?_,by grind,h.pcw,λz b=>?_⟩
 .have:=h.blk.set (1+i)$ .int .u32 v
  have:(#[Value.int .u32 pc]++(rg.map$ Value.int .u32).toArray++#[s1,s2,s3,s4]).setIfInBounds (1+i) (.int .u32 v)=#[Value.int .u32 pc]++((rg.set i v).map$ Value.int .u32).toArray++#[s1,s2,s3,s4]:=by
   apply Array.toList_inj.1;rw[xW];simp only[Array.toList_append,List.map_set]
   grind
  grind
 .rcases List.mem_or_eq_of_mem_set b with b|rfl
  .exact h.rgw z b
  .exact a
def aM (w g i v):Turn (λj=>j=g) w (w.setCell (qR g i) v):=⟨rfl,rfl,rfl,by rw[aK];exact aO,λj a b=>heap_setCell_other _ _ _ _ b⟩
def aHr (did num g pc rg s1 s2 s3 d w)(h:Pr w g pc rg s1 s2 s3 d):
 qC 204 #[.pointer$ qP g,qI did,qI num] w λe w'=>e=.returned (.agg #[qI did,qI num])/\Pr w' g ((pc+4)%4294967296) rg s1 s2 s3 d/\Turn (λj=>j=g) w w':=by
 have q:=zh λw h=>lA g pc rg s1 s2 s3 d w h;have a:=h.bw$ (Below.refl (qs w) w).alloc aO$ .cells #[qI 0,qI 0] 80
 delta qC;go_in
 go_wp2_with fail
 apply(q _ a).mono;rintro e u ⟨rfl,rfl⟩;have:=h.blk.lt;have:=a.pc;have:=a.blk.frozen 0;let⟨v,b⟩:=aN$ (pc+4)%4294967296;have f:0<=v/\v<=4294967295:=J
 rw[<-b];have i:=zh b;have l:=zh$ (h.setpc v f).bw$ brf.alloc aO$ .cells #[qI did,qI num] 80;have t:=zh$ (aM w g 0$ .int .u32 v).trans$ cN _$ .cells #[qI did,qI num] 80;clear b;go_wp2;refine bodyPost_ret (v:=.agg #[qI did,qI num]) (by simp[results,Tryz.results204,go_sem]) rfl ⟨rfl,?_,t.o⟩;rw[<-i.o];exact l
def aLt (op d a i t g pc rg s1 s2 s3 s w)(h:Pr w g pc rg s1 s2 s3 s)(I:0<=i)(O:i<=65535):
 qC 230 #[.pointer$ qP g,.agg$ qW op d a i,.bool t] w λe w'=>e=.returned (.agg #[qI 0,qI 0])/\Pr w' g (if t then (pc+4+4*eA i)%4294967296 else (pc+4)%4294967296) rg s1 s2 s3 s/\Turn (λj=>j=g) w w':=by
 have U:=zh λw h=>lA g pc rg s1 s2 s3 s w h;have R:=zh λw h=>tS op d a i g pc rg s1 s2 s3 s w h I O;have y:qY w ((w.alloc$ .cells (qW op d a i) 186).alloc$ .cells #[qI 0,qI 0] 80):=bal.alloc Jb _;have C:=h.bw y;have H:=Blk.new (w.alloc$ .cells (qW op d a i) 186) #[qI 0,qI 0] 80;simp only[xF]at H;have:=h.blk.lt;cases t
 .delta qC;go_in
  go_wp2_with fail
  apply(U _ C).mono;rintro e f ⟨rfl,rfl⟩;have hc:=C.pc;have E:=C.blk.frozen 0;let⟨v,b⟩:=aN$ (pc+4)%4294967296;have Q:0<=v/\v<=4294967295:=J
  rw[<-b];have D:=zh b;have x:=zh$ (h.setpc v Q).bw$ (brf.alloc aO$ .cells (qW op d a i) 186).alloc Jb$ .cells #[qI 0,qI 0] 80;have p:=zh$ ((aM w g 0$ .int .u32 v).trans$ cN _$ .cells (qW op d a i) 186).trans$ cN _$ .cells #[qI 0,qI 0] 80;clear b;go_wp2;refine bodyPost_ret (v:=.agg #[qI 0,qI 0]) (by simp[results,Tryz.results230,go_sem]) rfl ⟨rfl,?_,p.o⟩;rw[<-D.o];exact x
 .delta qC;go_in
  go_wp2_with fail
  apply(R _ C).mono;rintro e f ⟨rfl,u⟩;have G:=C.bw u;have B:=H.bw u;have hc:=G.pc;have E:=G.blk.frozen 0;have F:=y.trans$ u.mono Jc;let⟨v,b⟩:=aN$ (pc+4+4*eA i)%4294967296;have Q:0<=v/\v<=4294967295:=J
  rw[<-b];have D:=zh b;have x:=zh$ G.setpc v Q;have p:Zh (Turn (λj=>j=g) w$ f.setCell (qR g 0)$ .int .u32 v):=zh$ (aI F).trans$ aM f g 0$ .int .u32 v;have l:=B.other (qR g 0) (.int .u32 v) Jd;have A:=(l.set 0$ qI 0).set 1$ qI 0;obtain⟨e1,e2,e3⟩:(f.setCell ⟨g,0,none⟩$ .int .u32 v).cell? ⟨w.heap.size+1,0,none⟩=qj 0/\(f.setCell ⟨g,0,none⟩$ .int .u32 v).cell? ⟨w.heap.size+1,1,none⟩=qj 0/\∀j,(f.setCell ⟨g,0,none⟩$ .int .u32 v).frozen? ⟨w.heap.size+1,j,none⟩=false:=⟨by rw[l.cell];rfl,by rw[l.cell];rfl,λj=>l.frozen j⟩;have:=zh$ (p.trans$ aI (S:=λj=>j=g) brf)
  have M:Zh (Pr (((f.setCell (qR g 0)$ .int .u32 v).setCell (qr w 0)$ qI 0).setCell (qr w 1)$ qI 0) g v rg s1 s2 s3 s):=
   zh ⟨(x.o.blk.other _ _ Jd).other _ _ Jd,x.o.len,x.o.pcw,x.o.rgw⟩
  have P:Zh (Turn (λj=>j=g) w$ ((f.setCell (qR g 0)$ .int .u32 v).setCell (qr w 0)$ qI 0).setCell (qr w 1)$ qI 0):=
   zh ⟨p.o.os,p.o.tape,p.o.output,by rw[aK,aK];exact p.o.size,λk K W=>by rw[heap_setCell_other _ _ _ _ Jd,heap_setCell_other _ _ _ _ Jd];exact p.o.block k K W⟩
  have q:Blk (((f.setCell (qR g 0)$ .int .u32 v).setCell (qr w 0)$ qI 0).setCell (qr w 1)$ qI 0) (w.heap.size+1) #[qI 0,qI 0] 80:=by simpa using A
  have N:(((f.setCell (qR g 0)$ .int .u32 v).setCell (qr w 0)$ qI 0).setCell (qr w 1)$ qI 0).cell? (qr w 0)=qj 0:=by rw[q.cell];rfl
  have V:(((f.setCell (qR g 0)$ .int .u32 v).setCell (qr w 0)$ qI 0).setCell (qr w 1)$ qI 0).cell? (qr w 1)=qj 0:=by rw[q.cell];rfl
  clear b B l A q;go_wp2;refine bodyPost_ret (v:=.agg #[qI 0,qI 0]) (by simp[results,Tryz.results230,go_sem,N,V]) rfl ⟨rfl,?_,P.o⟩;rw[<-D.o];exact M
