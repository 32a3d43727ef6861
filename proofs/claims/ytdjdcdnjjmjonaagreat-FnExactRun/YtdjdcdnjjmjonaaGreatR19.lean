import Derived.Test.YtdjdcdnjjmjonaaGreatR16
import Derived.Test.YtdjdcdnjjmjonaaGreatR18
set_option linter.all false
set_option maxHeartbeats 8000000
namespace Go.Proofs.YtdjdcdnjjmjonaaGreat
open Go.RowKit
set_option maxRecDepth 100000
variable {C:Cn}{G n:Nat}{M:Mn}{b c cs cw d k m s:Int}{ps:List PMod}{v13 vr:Value}{xs:List SlT}
def slk (ps:List PMod)(T:Int)(x:SlT):Prop:=(x.1=false/\x=zSl)\/(x.1=true/\0<=x.2.2.1/\0<=pcq ps x.2.1 x.2.2.1/\1<=x.2.2.2/\x.2.2.2<=T)
def cmn (x y:SlT):Prop:=x.1=true/\y.1=true/\(y.2.2.2=x.2.2.2\/(y.2.1=x.2.1/\y.2.2.1=x.2.2.1))
def aln (xs:List SlT)(i:Nat):Prop:=∀k,k<i->¬cmn (xs.getD i zSl) (xs.getD k zSl)
def slz (cw:Int):Nat:=(rnd$ 4*cw).toNat
def bnk (ps:List PMod)(m b:Int):List Int:=(ps.getD m.toNat zP).bl.getD b.toNat []
def bkb (ps:List PMod)(cw m b:Int):List Int:=cG (List.replicate (slz cw) 0) 0 (bnk ps m b) (bnk ps m b).length
def slb (rz:qi)(L:Lay)(cw:Int)(i:Nat):List Int:=(rz.drop (L.slots.getD i 0-65536).toNat).take$ slz cw
def qD (ps:List PMod)(L:Lay)(cw T:Int)(rz:qi)(xs:List SlT)(i:Nat):Prop:=slk ps T (xs.getD i zSl)/\aln xs i/\((xs.getD i zSl).1=true->slb rz L cw i=bkb ps cw (xs.getD i zSl).2.1 (xs.getD i zSl).2.2.1)
def dM (ps:List PMod)(L:Lay)(cs cw T:Int)(rz:qi)(xs:List SlT):Prop:=(xs.length:Int)=cs/\∀i,i<xs.length->qD ps L cw T rz xs i
def aBb (ps:List PMod)(cs m b:Int)(xs:List SlT):Prop:=0<=pcq ps m b/\(cs=0\/b=-1\/hld xs m b≠-1)
abbrev tgk (ps:List PMod)(m b t:Int):Prop:=0<=pcq ps m b/\0<=t/\t<=pcq ps m b
abbrev frk (ps:List PMod)(x:FrT):Prop:=tgk ps x.1 x.2.1 x.2.2.1/\0<=x.2.2.2/\x.2.2.2<=4294967295
def lB (ps:List PMod)(cd:Int)(xs:List FrT):Prop:=(xs.length:Int)<=cd/\∀i,i<xs.length->frk ps (xs.getD i zFr)
def Mn.L (M:Mn):Lay:=lkL (aI M.ms) M.cs M.cw M.ck M.cd
structure MOk (M:Mn):Prop where
 l:lkc (aI M.ms) M.cs M.cw M.ck M.cd=0
 p:vF (aI M.ms) M.L
 c:cok M.pc M.kn M.kz=true
 b:mok M.fn M.rn M.on=true
 f:imF (aI M.ms) M.L=M.fz
 r:(M.rn:Int)=M.L.ram
 t:0<=M.tn/\M.tn<=1000000000
 s:dM (aI M.ms) M.L M.cs M.cw M.tn M.rz M.lz
 n:aBb (aI M.ms) M.cs M.md M.bk M.lz
 h:lB (aI M.ms) M.cd M.hz
def lG (a n G ms m b t w)(h:MSD w a n G ms):
 qC 193 #[qS a n G,.agg$ qT m b t] w λe w'=>e=.returned (.bool$ decide$ tgk (aI ms) m b t)/\qY w w':=by
 let⟨V,hV,C,s⟩:=nwb w (qT m b t) 121;have i:=zh$ nG a n G ms m b V$ h.s.bw C;rw[fL h m b]at i;have P:=zh hV;have O:=zh$ xA C s;let⟨r,hr⟩:=aO$ decide$ tgk (aI ms) m b t;rw[<-hr];have D:=zh hr;clear hV hr;by_cases c:0<=pcq (aI ms) m b
 .rw[xR c]at i;let⟨⟨m0,m1⟩,_⟩:=pF h c;obtain⟨gm,d,rfl,v0,v1,v2,v3,v4,v5,v6,v7⟩:=(h.s.bw C).at m.toNat J;have p:=zh λ(M:Md)(j:ms.getD m.toNat aM=M)(X:qw)(g:qY V X)=>(aMl (h.bw C) c j X g);let⟨M,j⟩:=aO$ ms.getD m.toNat aM;rw[<-j]at v0 v1 v2 v3 v4 v5 v6 v7;have Q:=zh$ p M j.symm;have H:=zh (show r=decide (0<=t/\t<=pcq (aI ms) m b)by rw[D.o];unfold tgk;simp[c]);clear D;generalize pcq (aI ms) m b=q at *
  have I:=zh (λ(X:qw)(g:qY V X)=>show(qn X w 0=qj m/\qn X w 1=qj b/\qn X w 2=qj t)/\qN X gm (d+m.toNat*8)=some (.string M.nm)/\qN X gm (d+m.toNat*8+1)=qk M.ta M.tn M.tc/\qN X gm (d+m.toNat*8+2)=qk M.ba M.bn M.bc/\qN X gm (d+m.toNat*8+3)=qk M.da M.dn M.dc/\qN X gm (d+m.toNat*8+4)=qj M.bss/\qN X gm (d+m.toNat*8+5)=qk M.ra M.rn M.rc/\qN X gm (d+m.toNat*8+6)=qk M.ia M.im M.ic/\qN X gm (d+m.toNat*8+7)=qk M.ea M.en M.ec from
   ⟨⟨(s.bw g).cell 0,(s.bw g).cell 1,(s.bw g).cell 2⟩,aB g v0,aB g v1,aB g v2,aB g v3,aB g v4,aB g v5,aB g v6,aB g v7⟩)
  clear p j h C s c v0 v1 v2 v3 v4 v5 v6 v7;let⟨⟨W,x1,x2⟩,_⟩:=I V brf
  delta qC;go_in
  go_wp2_with (rw[<-P.o])
  apply i.mono;rintro e E ⟨rfl,f⟩;have A:=zh f;have l:=zb E λX g=>(Q X$ yT A g).mono (λe w' Y=>show ∃N x K,e=.returned (.tuple #[qS N x K,.bool true])/\(x:Int)=q/\qY V w' from Y);let⟨⟨y0,y1,y2⟩,u0,u1,u2,u3,u4,u5,u6,u7⟩:=I E f;go_wp2_with fail
  go_region_held3 (λw'=>qn w' w 0=qj m/\qn w' w 1=qj b/\qN w' gm (d+m.toNat*8)=some (.string M.nm)/\qN w' gm (d+m.toNat*8+1)=qk M.ta M.tn M.tc/\qN w' gm (d+m.toNat*8+2)=qk M.ba M.bn M.bc/\qN w' gm (d+m.toNat*8+3)=qk M.da M.dn M.dc/\qN w' gm (d+m.toNat*8+4)=qj M.bss/\qN w' gm (d+m.toNat*8+5)=qk M.ra M.rn M.rc/\qN w' gm (d+m.toNat*8+6)=qk M.ia M.im M.ic/\qN w' gm (d+m.toNat*8+7)=qk M.ea M.en M.ec) (go_keep)
   (first
     | (go_at_call 195;first
         | with_reducible refine(l.o _ brf).mono ?_
         | with_reducible refine(l.o _ brf.drew).mono ?_
        rintro e S ⟨N,x,K,rfl,u,f⟩;have B:=zh u;have y:=zh f;let⟨⟨z0,z1,z2⟩,t0,t1,t2,t3,t4,t5,t6,t7⟩:=I S f
        clear f u))
  have U:=zh$ cM t (x:Int);go_wp2_with (go_at_call 141;refine(U.o _).mono ?_;rintro e Z ⟨rfl,rfl⟩)
  go_ret;exact⟨aA (by rw[H.o,B.o];simp),yT O.o.1 y.o⟩
 .rw[xS c]at i;have e:=zh (show r=false by rw[D.o];exact xS λk=>c k.1);have W:=s.cell 0;have x1:=s.cell 1
  delta qC;go_in
  go_wp2_with (rw[<-P.o])
  apply i.mono;rintro e E ⟨rfl,f⟩;go_wp2;go_ret;exact⟨aA e.symm,yT O.1 f⟩
def gS (f:1<=c)(a:c<=64):((slz c:Nat):Int)=rnd (4*c)/\slz c<=256/\4*c<=(slz c:Int):=by
 have:rnd (4*c)=(4*c+31)/32*32:=rfl;unfold slz;omega
theorem aLo (h:lkc ps s c k d=0)(hs:0<s)(a:0<=pcq ps m b)(g:0<=b):4*(bnk ps m b).length<=slz c/\∀i,i<(bnk ps m b).length->0<=(bnk ps m b).getD i 0/\(bnk ps m b).getD i 0<=4294967295:=by
 let⟨f,u,w,l,x,y,p,A,B⟩:=dX.1 h;unfold cfo at f;simp at f;obtain⟨s0,s1,q,t,_⟩:=f;have:=gS q t;unfold pcq at a;by_cases j:0<=m/\m<(ps.length:Int)
 .rw[if_pos j,if_neg J]at a;by_cases c2:0<=b/\b<((ps.getD m.toNat zP).bl.length:Int)
  .have e:=aC6$ l m.toNat J;have:=p hs m.toNat J b.toNat J;exact⟨by unfold bnk;omega,e.2 b.toNat J⟩
  .grind
 .grind
theorem aTm {w:qw}{a:qO}{p:Nat}{ms:List Md}(h:MSD w a n p ms)(A:0<=pcq (aI ms) m b)(B:0<=b):∃gm e f g l y t u,a=some (qR gm e)/\(0<=m/\m<(n:Int))/\b<((l:Nat):Int)/\l<=9223372036854775807/\(∀X,qY w X->X.cell? (qR gm$ e+m.toNat*8+2)=some (qS (some$ qR f g) l y)/\X.cell? (qR f$ g+b.toNat)=some (.slice t (bnk (aI ms) m b).length u))/\IS w t (bnk (aI ms) m b).length u (bnk (aI ms) m b):=by
 let⟨⟨C,E⟩,H⟩:=pF h A;obtain⟨gm,e,rfl,M,v1,v2,v3,v4,N,O,P⟩:=h.s.at m.toNat J;have hd:=h.d m.toNat J;have:=h.s.1;have i:bnk (aI ms) m b=((ms.getD m.toNat aM).pm.bl).getD b.toNat []:=by unfold bnk;rw[cZ]
 generalize ms.getD m.toNat aM=D at *
 have j:b<(D.bn:Int):=by
  unfold pcn at H
  grind
 let⟨I,d,k,s,K⟩:=hd.b;let⟨f,g,G,hc⟩:=k J;have r:=s b.toNat J;have x:=hc b.toNat J
 have e1:bnk (aI ms) m b=(D.bl.getD b.toNat zB).2.2.2:=by
  rw[i];simp[Md.pm,xB,show b.toNat<D.bl.length from J]
 rw[<-e1]at r;rw[G]at v2;have e2:=r.1;rw[<-e2]at r x;unfold maxLen at d;exact⟨gm,e,f,g,D.bn,D.bc,_,_,rfl,⟨C,E⟩,j,J,λX q=>⟨aB q v2,aB q x⟩,r⟩
def lI (s c k d w)(f:1<=c)(g:c<=64):
 qC 266 #[.agg$ qW s c k d] w (qB w$ qI (slz c:Nat)):=by
 have a:=zh λ(X:qw)=>jO (4*c) X;rw[<-(gS f g).1]at a;have i:=zh$ (Below.refl (qs w) w).alloc aQ$ .cells (qW s c k d) 37
 delta qC;go_in
 go_wp2_with (go_at_call 259;refine(a.o _).mono ?_;rintro e j ⟨rfl,rfl⟩)
 go_ret;exact⟨rfl,i⟩
def BkB (w:qw)(ps:List PMod)(c m b:Int)(e:Ending)(w':qw):Prop:=∃g,e=.returned (qS (qP g) (slz c)$ slz c)/\OB w' w.heap.size (qS (qP g) (slz c)$ slz c) (bkb ps c m b)/\qY w w'
def aC5 {S:Nat}(hF:S=190\/S=120)(M x0 x1 x2 x3 w)(h:MnD w M)(K:lkc (aI M.ms) M.cs M.cw M.ck M.cd=0)(hs:0<M.cs)(P:0<=pcq (aI M.ms) x1 x2)(W:0<=x2):
 qC S #[.agg$ qA M,.agg #[.bool x0,qI x1,qI x2,qI x3]] w (BkB w (aI M.ms) M.cw x1 x2):=by
 rcases hF with rfl|rfl
 all_goals
  obtain⟨w0,A⟩:1<=M.cw/\M.cw<=64:=by
   have E:=(dX.1 K).1;unfold cfo at E;simp at E;exact⟨E.2.2.1,E.2.2.2.1⟩
  let⟨f1,f2⟩:=aLo K hs P W;let⟨z1,z2,z3⟩:=gS w0 A;let⟨U,hU,bU,kU⟩:=nwb w (qA M) 43;let⟨V,hV,bV,kV⟩:=nwb U #[.bool x0,qI x1,qI x2,qI x3] 132;have j:U.heap.size=w.heap.size+1:=by rw[hU];simp
  have I:=yT bU bV;have g:=kU.bw bV;let⟨gm,om,C,G,dn,dc,k,s,ha,⟨m0,m1⟩,b1,b2,a0,a2⟩:=aTm (h.m.bw I) P W;have B:=zh a2;have l:=zh$ xA f1 f2;have q:=zh λ(X:qw)=>xA (lI M.cs M.cw M.ck M.cd X w0 A)$ fC (4*M.cw) X;rw[<-(gS w0 A).1]at q;have:=aGz (slz M.cw) J;have D:Zh (bkb (aI M.ms) M.cw x1 x2=cG (List.replicate (slz M.cw) 0) 0 (bnk (aI M.ms) x1 x2) (bnk (aI M.ms) x1 x2).length):=rfl;have:=h.m.s.2.1
  have u:=zh (λ(X:qw)(f:qY V X)=>show(X.cell? (qR w.heap.size 0)=qk M.ma M.mn M.mc/\X.cell? (qR w.heap.size 1)=qj M.cs/\X.cell? (qR w.heap.size 2)=qj M.cw/\X.cell? (qR w.heap.size 3)=qj M.ck/\X.cell? (qR w.heap.size 4)=qj M.cd)/\X.cell? (qR (w.heap.size+1) 1)=qj x1/\X.cell? (qR (w.heap.size+1) 2)=qj x2/\X.cell? (qR gm$ om+x1.toNat*8+2)=qk (qe C G) dn dc/\X.cell? (qR C$ G+x2.toNat)=some (.slice k (bnk (aI M.ms) x1 x2).length s)from
   ⟨⟨(g.bw f).cell 0,(g.bw f).cell 1,(g.bw f).cell 2,(g.bw f).cell 3,(g.bw f).cell 4⟩,by rw[<-j];exact(kV.bw f).cell 1,by rw[<-j];exact(kV.bw f).cell 2,(a0 X f).1,(a0 X f).2⟩)
  have y:=zh I;have HU:=zh hU;have HV:=zh hV;unfold BkB;rw[D.o];generalize bnk (aI M.ms) x1 x2=i at *;generalize slz M.cw=sz at *;rw[ha]at u;rw[<-j]at u;clear hU hV bU bV kU g kV a0 a2 I h K P z1 D j f1 f2;let⟨⟨y0,y1,y2,y3,y4⟩,s1,s2,u0,u1⟩:=u V brf
  delta qC;go_in
  go_wp2_with (first|rw[<-HU.o]|rw[<-HV.o])
  first|refine(q _).1.mono ?_|refine(q _).2.mono ?_
  rintro e X1 ⟨rfl,a⟩;replace a:qY V X1:=by first|exact a|(rw[a];exact brf)
  have p:=zh a;let⟨V2,a1,d,k2⟩:=nwb X1 (zby sz) 5;have Y:=yT a d;have Q:=zh a1;have N:w.heap.size<=X1.heap.size:=by have E:=y.size;have:=a.size;omega
  have H:=zb V2 λX f=>(pO (qs X1) sz sz 0 k i.length s i (List.replicate sz 0) (qs w) X1 X (B.bw p) (yT d f) aQ ((sD k2 N J).bw f) J (jK l.1) l.2).mono λe b t=>show e=.returned (.tuple #[])/\OB b (qs w) (qS (qp X1) sz sz) (cG (List.replicate sz 0) 0 i i.length)/\qY V b from⟨t.1,t.2.1,yT p$ dA (yT d f) t.2.2 aQ⟩;rw[show((0:Nat):Int)=0 from rfl]at H;have O:=zb V2 λX f=>(lM (qs X1) sz sz 0 sz sz k i.length s i (List.replicate sz 0) (qs w) X1 X (B.bw p) (yT d f) aQ ((sD k2 N J).bw f) J (jK l.1) (jK l.1) aQ J).mono λe b t=>show e=.returned (.tuple #[])/\OB b (qs w) (qS (qp X1) sz sz) (cG (List.replicate sz 0) 0 i i.length)/\qY V b from⟨t.1,t.2.1,yT p$ dA (yT d f) t.2.2 aQ⟩;let⟨⟨y0,y1,y2,y3,y4⟩,s1,s2,u0,u1⟩:=u V2 Y;clear a d k2 Y a1 N;go_wp2_with (rw[<-Q.o])
  go_region_held3 (λb=>qn b w 0=qk (qe gm om) M.mn M.mc/\qn b U 1=qj x1/\qn b U 2=qj x2/\qN b gm (om+x1.toNat*8+2)=qk (qe C G) dn dc/\qN b C (G+x2.toNat)=qk k i.length s) (go_keep)
   (first
     | (first
         | with_reducible refine(O.o _ brf).mono ?_
         | with_reducible refine(O.o _ brf.drew).mono ?_
         | with_reducible refine(H.o _ brf).mono ?_
         | with_reducible refine(H.o _ brf.drew).mono ?_
        rintro e A ⟨rfl,x,a⟩;have Z:=zh$ xA x a;let⟨⟨p0,p1,p2,p3,p4⟩,t1,t2,v0,v1⟩:=u A a
        clear x a))
  clear y0 y1 y2 y3 y4 s1 s2 u0 u1 p0 p1 p2 p3 p4 t1 t2 v0 v1 O u;go_wp2;go_ret;exact⟨_,rfl,Z.1,yT y Z.2⟩
def aB0:=@aC5 _$ .inl rfl
def mH:=@aC5 _$ .inr rfl
theorem wD (h:lkc ps s c k d=0){i:Nat}(hi:i<(lkL ps s c k d).slots.length):65536<=(lkL ps s c k d).slots.getD i 0/\(lkL ps s c k d).slots.getD i 0-65536+(slz c:Int)<=(lkL ps s c k d).ram/\(lkL ps s c k d).ram<=16384/\((lkL ps s c k d).slots.length:Int)=s/\0<s:=by
 have e:lkL ps s c k d=lay ps s c k:=by unfold lkL;rw[if_pos h]
 rw[e]at hi⊢;let⟨b,l,p,f,q,t,u,w,x⟩:=dX.1 h;unfold cfo at b;simp at b;obtain⟨s0,s1,g,j,y,_⟩:=b;let⟨A,B,C⟩:=gS g j;have:=cN f ps.length aQ;have a:(lay ps s c k).slots.length=s.toNat:=by simp[lay]
 rw[a]at hi
 have:(lay ps s c k).slots.getD i 0=65536+Ra ps ps.length+k+(i:Int)*rnd (4*c):=by
  simp[lay,xB,hi,slt]
 have:(lay ps s c k).ram=Ra ps ps.length+k+(s.toNat:Int)*rnd (4*c):=rfl
 have:(i:Int)*rnd (4*c)+rnd (4*c)<=(s.toNat:Int)*rnd (4*c):=by
  have:((i:Int)+1)*rnd (4*c)<=(s.toNat:Int)*rnd (4*c):=Int.mul_le_mul_of_nonneg_right J J
  grind
 have:(0:Int)<=(i:Int)*rnd (4*c):=Int.mul_nonneg J J
 grind
def aA6 (M)(L:Lay)(C c0)(xs:List PB)(a2 c2 G c5)(S:List TB)(i w)(h:MnD w M)(hs:IS w a2 L.slots.length c2 L.slots)(hi:i<L.slots.length)(Z:1<=M.cw)(B:M.cw<=64)(N:65536<=L.slots.getD i 0)(x:L.slots.getD i 0-65536+(slz M.cw:Int)<=M.rn)(a9:M.rn<=16384):
 qC 189 #[.agg$ qA M,.agg$ qJ L C xs c0 a2 c2 G S c5,qI i] w λe w'=>∃a c,e=.returned (qS a (slz M.cw) c)/\BS w' a (slz M.cw) c (slb M.rz L M.cw i)/\qY w w':=by
 have z1:=gS Z B;let⟨U,hU,bU,kU⟩:=nwb w (qA M) 43;let⟨V,hV,b,kV⟩:=nwb U (qJ L C xs c0 a2 c2 G S c5) 65;have y:=yT bU b;have f:=kU.bw b;obtain⟨gs,os,rfl,a0⟩:=(hs.bw y).2.2.2.1 J;have q:=a0 i hi;obtain⟨A,d⟩:∃A:Nat,L.slots.getD i 0=65536+(A:Int):=⟨(L.slots.getD i 0-65536).toNat,J⟩;have t:=zh (show slb M.rz L M.cw i=(M.rz.drop A).take (slz M.cw)by unfold slb;rw[d,show(65536+(A:Int)-65536).toNat=A from J]);rw[d]at q x;have D:=h.r.2.2.2.2;have a7:=h.r.2.1;have a4:=hs.2.1;have P:=zh λ(X:qw)=>lI M.cs M.cw M.ck M.cd X Z B;have O:=zb V λX g=>(h.r.bw y).bw g
 have Q:=zh (λ(X:qw)(g:qY V X)=>show qn X w 1=qj M.cs/\qn X w 2=qj M.cw/\qn X w 3=qj M.ck/\qn X w 4=qj M.cd/\qn X w 8=qk M.ra M.rn M.rc from
  ⟨(f.bw g).cell 1,(f.bw g).cell 2,(f.bw g).cell 3,(f.bw g).cell 4,(f.bw g).cell 8⟩)
 have s2:=kV.e2;rw[t.o];generalize slz M.cw=sz at *;generalize u:M.ra=ra at *;generalize j:M.rc=rc at *;obtain⟨k,s,rfl,_⟩:=(O V brf).2.2.2.1 J;obtain⟨E,hE⟩:∃E:Nat,E=A+sz:=⟨_,rfl⟩
 have H:=zh (λ(X:qw)(g:qY V X)=>show BS X (qe k$ s+A) (E-A) (rc-A) ((M.rz.drop A).take sz)by
  have h1:=((O X g).drop A J).take sz J;rw[show E-A=sz from J]
  exact h1)
 have p:=zh$ show E-A=sz from J;have a3:IntKind.i64.wrap (65536+(A:Int)-65536)=(A:Int):=by rw[xP,xQ _ J];omega
 have a1:IntKind.i64.wrap (A:Int)=(A:Int):=by rw[xP,xQ _ J]
 have a6:IntKind.i64.wrap ((A:Int)+(sz:Int))=(E:Int):=by rw[xP,xQ _ J];omega
 have g0:(0:Int)<=(A:Int):=J
 have g1:(A:Int)<=(E:Int):=J
 have g2:(E:Int)<=(rc:Int):=J
 have g3:(A:Int)<(rc:Int):=J
 have g4:A<=E:=J
 have g5:¬(rc=A):=J
 have g6:A<rc:=J
 have I:=zh y;have HU:=zh hU;have HV:=zh hV;have a8:=zh$ xA u j;have y1:=Q V brf;clear hU hV bU b kU f kV y h hs a0 d hE u j t O D N x z1
 delta qC;go_in
 go_wp2_with (first|rw[<-HU.o]|rw[<-HV.o])
 have K:=zb V λX g=>(P X).mono λe w' Y=>show e=.returned (qI sz)/\qY V w' from⟨Y.1,yT g Y.2⟩;clear s2 q
 go_region_held3 (λw'=>qn w' w 1=qj M.cs/\qn w' w 2=qj M.cw/\qn w' w 3=qj M.ck/\qn w' w 4=qj M.cd/\qn w' w 8=qk (qe k s) M.rn rc) (go_keep)
  (first
    | (go_at_call 266;first
        | with_reducible refine(K.o _ brf).mono ?_
        | with_reducible refine(K.o _ brf.drew).mono ?_
       rintro e B ⟨rfl,l⟩;have W:=zh l;have t1:=Q B l
       clear l))
 clear y1 t1 K Q;go_wp2;go_ret;exact⟨qe k$ s+A,rc-A,by rw[<-p.o];rfl,by have:=H.o _ W.o;rw[p.o]at this;exact this,yT I.o W.o⟩
theorem aD5 (a:qi)(k:Nat)(v:Int):∀(s p:Nat),(put a k v s)[p]?=if k<=p/\p<k+s/\p<a.length then some (bt v$ p-k) else a[p]?
 | 0,p=>by rw[if_neg J];rfl
 | s+1,p=>by
   show((put a k v s).set (k+s)$ bt v s)[p]?=_;rw[List.getElem?_set,qQ,aD5 a k v s p]
   grind
theorem wK (a:qi)(k:Nat)(e:qi):∀(n p:Nat),(cG a k e n)[p]?=if k<=p/\p<k+4*n/\p<a.length then some (bt (e.getD ((p-k)/4) 0)$ (p-k)%4) else a[p]?
 | 0,p=>by rw[if_neg J];rfl
 | n+1,p=>by
   rw[cG,aD5,kQ,wK a k e n p]
   grind
theorem aEd (b f a p)(h:f+a.length<=b.length):(ovr b f a)[p]?=if f<=p/\p<f+a.length then a[p-f]? else b[p]?:=by
 unfold ovr;by_cases d:p<f
 .rw[List.getElem?_append_left (by grind),List.getElem?_take_of_lt d,if_neg J]
 .rw[List.getElem?_append_right (by grind),List.length_take,Nat.min_eq_left J]
  grind
theorem aTc (R f n b)(a:b.length<=n)(e:f+4*n<=R.length):cG R f b n=ovr R f (cG (List.replicate (4*n) 0) 0 b b.length):=by
 apply List.ext_getElem?;intro p;rw[wK,aEd _ _ _ _ (by rw[kQ,List.length_replicate];omega),kQ,List.length_replicate,wK,List.length_replicate];by_cases c:f<=p/\p<f+4*n
 .rw[if_pos J,if_pos c];by_cases c2:p-f<4*b.length
  .grind
  .rw[if_neg J,List.getElem?_replicate,if_pos J,show b.getD ((p-f)/4) 0=0 by grind];simp[bt]
 .grind
theorem aVd {R D:qi}{f:Nat}(h:(R.drop f).take n=D)(a:f+n<=R.length):ovr R f D=R:=by
 have:D.length=n:=by grind
 apply List.ext_getElem?;intro p;rw[aEd _ _ _ _ J]
 grind
def lst (xs:List SlT):Nat->Nat
 | 0=>0
 | i+1=>if (xs.getD i zSl).2.2.2<(xs.getD (lst xs i) zSl).2.2.2 then i else lst xs i
theorem yR (xs:List SlT):∀i,lst xs i<i\/(i=0/\lst xs i=0)
 | 0=>.inr ⟨rfl,rfl⟩
 | i+1=>by
   unfold lst;split
   .grind
   .rcases yR xs i with h|h
    .grind
    .grind
def slq (xs:List SlT)(m b:Int):Nat:=if hld xs m b=-1 then lst xs xs.length else (hld xs m b).toNat
def mO (m b)(h:xs.length≠0):slq xs m b<xs.length:=by
 unfold slq;split
 .rcases yR xs xs.length with q|q
  .exact q
  .omega
 .rcases lA xs m b with q|q
  .contradiction
  .omega
def Tnz (xs:List SlT):Prop:=∀i,i<xs.length->((xs.getD i zSl).1=false->(xs.getD i zSl).2.2.2=0)/\((xs.getD i zSl).1=true->1<=(xs.getD i zSl).2.2.2)
theorem aPy (a:Tnz xs){j:Nat}(l:j<xs.length)(hu:(xs.getD j zSl).1=false)(g:∀i,i<j->(xs.getD i zSl).1=true):lst xs xs.length=j:=by
 have f:=(a j l).1 hu
 have A:lst xs (j+1)=j:=by
  unfold lst;rcases yR xs j with h|⟨h,t⟩
  .have:=(a (lst xs j) J).2$ g _ h
   grind
  .grind
 have B:∀k,j+1<=k->k<=xs.length->lst xs k=j:=by
  intro k u
  induction k with
  | zero=>omega
  | succ k ih=>
    intro p;by_cases e:k=j
    .grind
    .have:=ih J J;unfold lst;rw[this,if_neg];rw[f];have q:=a k J
     grind
 grind
def dG (C:Cn)(L:Lay)(m b t:Int):Cn:=
 if C.lz.length≠0/\b≠-1 then
  { C with tn:=C.tn+1,lz:=C.lz.set (slq C.lz m b) (true,m,b,C.tn+1),rz:=ovr C.rz (L.slots.getD (slq C.lz m b) 0-65536).toNat$ bkb C.ps C.cw m b,md:=m,bk:=b,pc:=eE L (plc C.ps m.toNat) b (slq C.lz m b:Nat)+4*t,kz:=C.kz.set 7 (plc C.ps m.toNat).data }
 else { C with md:=m,bk:=b,pc:=eE L (plc C.ps m.toNat) b (-1)+4*t,kz:=C.kz.set 7 (plc C.ps m.toNat).data }
theorem aRm {L:Lay}{T:Int}{rz:qi}(h:dM ps L cs cw T rz xs):Tnz xs:=λi hi=>by
 have f:=(h.2 i hi).1;unfold slk at f;rcases f with a|a
 .exact⟨λ_=>by rw[a.2];rfl,λe=>(by grind)⟩
 .grind
def aTk (ps cw m b):(bkb ps cw m b).length=slz cw:=by unfold bkb;rw[kQ,List.length_replicate]
theorem aLb:∀(a:List SlT)(i:Nat),gW m b i a≠-1->∃k:Nat,gW m b i a=(i+k:Nat)/\k<a.length/\usd m b (a.getD k zSl):=by
 intro a
 induction a with
 | nil=>intro i h;exact absurd rfl h
 | cons y a ih=>
   intro i h;unfold gW at h⊢;by_cases c:usd m b y
   .rw[if_pos c];exact⟨0,rfl,Jb,c⟩
   .rw[if_neg c]at h⊢;let⟨k,e,d,f⟩:=ih (i+1) h;exact⟨k+1,by grind,by grind,by grind⟩
theorem aRl {L:Lay}{T:Int}{rz:qi}(h:dM ps L cs cw T rz xs)(a:hld xs m b≠-1)(f:(L.slots.getD (slq xs m b) 0-65536).toNat+slz cw<=rz.length):ovr rz (L.slots.getD (slq xs m b) 0-65536).toNat (bkb ps cw m b)=rz:=by
 let⟨k,e,d,i⟩:=aLb xs 0 a
 have g:slq xs m b=k:=by
  unfold slq;rw[if_neg a];unfold hld
  grind
 rw[g]at f⊢;let⟨_,_,j⟩:=h.2 k d;obtain⟨l,p,q⟩:=i;have:=j l;rw[p,q]at this;exact aVd this f
def aHd {E:Nat}(K:E=192\/E=74)(a n c xs m b w)(h:QS cO zSl w a n c xs):
 qC E #[qS a n c,qI m,qI b] w (qB w$ qI$ hld xs m b):=by
 rcases K with rfl|rfl
 all_goals
  have:=h.1;have H:=h.2.1;unfold maxLen at H;let⟨r,M⟩:=aO$ hld xs m b;rw[<-M];have A:=zh M;clear M
  delta qC;go_in
  go_wp2;first|(go_loopw [11] (λi wr=>∃k:Nat,k<=n/\i=qI k/\Hid (r=gW m b k (xs.drop k))/\qY w wr) (qf n);focus (exact⟨0,xC _,rfl,A,brf⟩))|(go_loopw [7] (λi wr=>∃k:Nat,k<=n/\i=qI k/\Hid (r=gW m b k (xs.drop k))/\qY w wr) (qf n);focus (exact⟨0,xC _,rfl,A,brf⟩))
  .obtain⟨k,O,rfl,q,p⟩:=hrel;clear A;by_cases D:k<n
   .have I:(k:Int)<(n:Int):=J
    obtain⟨g,f,rfl,U,V,W,X⟩:=(h.bw p).at k D _ _ _ _ rfl;have B:=zh λhu=>aQi (m:=m) (b:=b) (show k<xs.length from J) hu;have y:=zh λhu=>aNe (m:=m) (b:=b) (show k<xs.length from J) hu;generalize xs.getD k zSl=x at *;obtain⟨C,d,G,N⟩:=x;have j:=zh$ xA p$ p.alloc p.size$ .cells #[.bool C,qI d,qI G,qI N] 132;clear p h;by_cases hu:usd m b (C,d,G,N)
    .have e:=zh (show r=k by rw[q.out];exact B.o hu);obtain⟨P,Q,S⟩:=hu;subst P Q S;clear B y;go_wp2;go_ret;exact⟨aJ e.symm,(by first|exact j.1|exact j.2)⟩
    .have u:=zh (show r=gW m b (k+1) (xs.drop$ k+1)by rw[q.out];exact y.o hu);have l:¬(C=true/\d=m/\G=b):=hu;clear B y q hu;cases C with
     | false=>
       clear l;go_wp2
       go_roundw
       .exact⟨k+1,J,by go_num,u,(by first|exact j.1|exact j.2)⟩
       .simp[qf,intOf];omega
     | true=>
       by_cases s:d=m
       .have c2:(G==b)=false:=by simp;exact λe=>l ⟨rfl,s,e⟩
        have t:(d==m)=true:=by simp[s]
        clear l s;go_wp2
        go_roundw
        .exact⟨k+1,J,by go_num,u,(by first|exact j.1|exact j.2)⟩
        .simp[qf,intOf];omega
       .have t:(d==m)=false:=by simp[s]
        clear l s;go_wp2
        go_roundw
        .exact⟨k+1,J,by go_num,u,(by first|exact j.1|exact j.2)⟩
        .simp[qf,intOf];omega
   .have e:=zh (show r=-1 by rw[q.out,List.drop_eq_nil_of_le J];rfl);have j:=zh p;clear p;go_wp2;go_ret;exact⟨aJ e.symm,j⟩
def lH:=@aHd _$ .inl rfl
def dP:=@aHd _$ .inr rfl
structure Lyb where
 L:Lay
 a0:qO
 c0:Nat
 xs:List PB
 a2:qO
 c2:Nat
 a5:qO
 c5:Nat
 ts:List TB
abbrev Lyb.T (Y:Lyb)(w:qw):Prop:=LyT w Y.L Y.a0 Y.c0 Y.xs Y.a2 Y.c2 Y.a5 Y.c5 Y.ts
def Blk.mg {w:qw}{b:Nat}{t:TypeId}{v0 v1 v2 v3 v4 H B D E A a q x i f g l y p j e u v23:Value}(h:Blk w b #[v0,v1,v2,v3,v4,H,B,D,E,A,a,q,x,v13,i,f,g,l,y,p,j,e,u,v23] t):w.cell? (qR b 0)=some v0/\w.cell? (qR b 1)=some v1/\w.cell? (qR b 2)=some v2/\w.cell? (qR b 3)=some v3/\w.cell? (qR b 4)=some v4/\w.cell? (qR b 5)=some H/\w.cell? (qR b 6)=some B/\w.cell? (qR b 7)=some D/\w.cell? (qR b 8)=some E/\w.cell? (qR b 9)=some A/\w.cell? (qR b 10)=some a/\w.cell? (qR b 11)=some q/\w.cell? (qR b 12)=some x/\w.cell? (qR b 13)=some v13/\w.cell? (qR b 14)=some i/\w.cell? (qR b 15)=some f/\w.cell? (qR b 16)=some g/\w.cell? (qR b 17)=some l/\w.cell? (qR b 18)=some y/\w.cell? (qR b 19)=some p/\w.cell? (qR b 20)=some j/\w.cell? (qR b 21)=some e/\w.cell? (qR b 22)=some u/\w.cell? (qR b 23)=some v23:=⟨h.cell 0,h.cell 1,h.cell 2,h.cell 3,h.cell 4,h.cell 5,h.cell 6,h.cell 7,h.cell 8,h.cell 9,h.cell 10,h.cell 11,h.cell 12,h.cell 13,h.cell 14,h.cell 15,h.cell 16,h.cell 17,h.cell 18,h.cell 19,h.cell 20,h.cell 21,h.cell 22,h.cell 23⟩
structure Mg (w1 W:qw)(G:Nat)(Y:Lyb)(C:Cn)(M:Mn)(v13 vr:Value):Prop where
 b:qY w1 W
 g:w1.heap.size<=G
 k:Blk W G #[qS M.ma M.mn M.mc,qI M.cs,qI M.cw,qI M.ck,qI M.cd,qI M.pc,qS M.ka M.kn M.kc,qS M.fa M.fn M.fc,qS M.ra M.rn M.rc,qS M.oa M.on M.oc,qI M.md,qI M.bk,qS M.la M.ln M.lc,v13,qI M.tn,qS Y.a0 Y.xs.length Y.c0,qI Y.L.stack,qS Y.a2 Y.L.slots.length Y.c2,qI Y.L.flash,qI Y.L.ram,qS Y.a5 Y.ts.length Y.c5,qI M.cd,qS M.ha M.hn M.hc,vr] 142
 m:∃base aN Ls β,MxO W base aN C M Ls β/\w1.heap.size<=base/\aN<=G
 l:Y.T w1
def Mg.bw {f W e:qw}{Y:Lyb}(h:Mg f W G Y C M v13 vr)(a:qY W e):Mg f e G Y C M v13 vr:=by
 let⟨d,aN,b,i,m,g⟩:=h.m;exact⟨yT h.b a,h.g,h.k.bw a,⟨d,aN,b,i,m.bw a,g⟩,h.l⟩
def Mg.ly {a W:qw}{Y:Lyb}(h:Mg a W G Y C M v13 vr):Y.T W:=h.l.bw h.b
def Mg.vs {a W:qw}{Y:Lyb}(h:Mg a W G Y C M v13 vr):(M.cs=C.cs/\M.cw=C.cw/\M.ck=C.ck/\M.cd=C.cd/\M.pc=C.pc/\M.md=C.md/\M.bk=C.bk/\M.tn=C.tn)/\aI M.ms=C.ps/\M.lz=C.lz:=by
 let⟨d,aN,b,f,m,e⟩:=h.m;exact⟨m.vs,by rw[m.vz.1,m.m.pms,m.e],m.vz.2.2.2.2.2.1⟩
theorem Mg.mnd {a W:qw}{Y:Lyb}(h:Mg a W G Y C M v13 vr)(hn:C.ps.length<=4):MnD W M:=by
 let⟨d,aN,b,f,m,e⟩:=h.m;refine m.mnd ?_;have:=m.len;have:=congrArg List.length m.e
 grind
def aCh (q G Y C M l p w)(h:Mg q w G Y C M l p):qC 148 #[.pointer$ qP G] w (qB w$ .agg$ qT M.md M.bk 0):=by
 let⟨V,b⟩:=aO$ w.alloc$ .cells (qT 0 0 0) 121;have a:qY w V:=by rw[b];exact bal
 have:=(h.k.bw a).e10;have:=(h.k.bw a).e11;have e:Blk V w.heap.size (qT 0 0 0) 121:=by rw[b];exact Blk.new _ _ _
 let⟨f,g,k,s⟩:=e.three;have j:=zh b;have:G<w.heap.size:=h.k.lt;have:¬w.heap.size=G:=J
 have i:Zh (qY w$ ((V.setCell (qh w 0)$ qI M.md).setCell (qh w 1)$ qI M.bk).setCell (qh w 2)$ qI 0):=((a.setCell Jd _).setCell Jd _).setCell Jd _;clear b a e h
 delta qC;go_in
 go_wp2_with (rw[<-j.o])
 go_region_held3 (λd=>qN d G 10=qj M.md/\qN d G 11=qj M.bk) (go_keep) (fail)
 all_goals
  go_wp2;exact bodyPost_ret (v:=.agg$ qT M.md M.bk 0) (by simp[results,Tryz.results148,go_sem,f,g,k]) rfl ⟨rfl,i.o.drew⟩
def wE (q G Y C M d k w)(h:Mg q w G Y C M d k):qC 149 #[.pointer$ qP G] w (qB w$ qI$ hld C.lz M.md M.bk):=by
 have i:=h.k.e10;have f:=h.k.e11;have g:=h.k.e12
 have l:=zh (λ(X:qw)(p:qY w X)=>(lH M.la M.ln M.lc C.lz M.md M.bk X (by
  let⟨t,aN,s,u,m,_⟩:=h.m
  exact(uC cH m.l).bw p)).mono λe b j=>show e=.returned (qI$ hld C.lz M.md M.bk)/\qY w b from⟨j.1,yT p j.2⟩)
 generalize hld C.lz M.md M.bk=r at *
 delta qC;go_in
 go_wp2_with fail
 go_region_held3 (λb=>qN b G 10=qj M.md/\qN b G 11=qj M.bk/\qN b G 12=qk M.la M.ln M.lc) (go_keep)
  (first
    | (go_at_call 192;first
        | with_reducible refine(l.o _ brf).mono ?_
        | with_reducible refine(l.o _ brf.drew).mono ?_
       rintro e y ⟨rfl,a⟩;have:=aB a i;have:=aB a f;have:=aB a g;have x:=zh a
       clear a))
 all_goals
  go_wp2;go_ret;exact⟨rfl,x⟩
def aB4 (P G Y C M N O m b t w)(h:Mg P w G Y C M N O)(hn:C.ps.length<=4):qC 279 #[.pointer$ qP G,.agg$ qT m b t] w (qB w$ .bool$ decide$ C.tn<1000000000/\tgk C.ps m b t):=by
 let⟨V,B,k,E⟩:=nwb w (qT m b t) 121;have y:=(h.k.bw k).e0;have i:=(h.k.bw k).e14;let⟨H,I,K,_⟩:=E.three;have e1:=h.vs.1.2.2.2.2.2.2.2;have e2:=h.vs.2.1;have p:=zb V λX l=>(lG M.ma M.mn M.mc M.ms m b t X$ ((h.mnd hn).m.bw k).bw l).mono (λe d u=>show e=.returned (.bool$ decide$ tgk C.ps m b t)/\qY V d from⟨by rw[u.1,e2],yT l u.2⟩);rw[<-e1];have x:=zh B;have j:=zh k;let⟨r,s⟩:=aO$ decide$ M.tn<1000000000/\tgk C.ps m b t;rw[<-s];by_cases A:M.tn<1000000000
 .have f:=zh (show r=decide (tgk C.ps m b t)by rw[s];simp[A]);generalize decide (tgk C.ps m b t)=q at *;clear h B k E e1 e2 s
  delta qC;go_in
  go_wp2_with (rw[<-x.o])
  go_region_held3 (λd=>qN d G 0=qk M.ma M.mn M.mc/\qN d G 14=qj M.tn/\qn d w 0=qj m/\qn d w 1=qj b/\qn d w 2=qj t) (go_keep)
   (first
     | (go_at_call 193;first
         | with_reducible refine(p.o _ brf).mono ?_
         | with_reducible refine(p.o _ brf.drew).mono ?_
        rintro e D ⟨rfl,a⟩;have:=aB a y;have:=aB a i;have:=aB a H;have:=aB a I;have:=aB a K;have g:=zh a
        clear a))
  all_goals
   go_wp2;go_ret;exact⟨aA f.symm,yT j g⟩
 .have f:=zh (show r=false by rw[s];simp[A]);have:decide (M.tn<1000000000)=false:=by simp[A]
  have:(M.tn<1000000000)=False:=by simp[A]
  clear h B k E e1 e2 s
  delta qC;go_in
  go_wp2_with (rw[<-x.o])
  refine wp_region_held_drew (S:=(λd=>qN d G 14=qj M.tn)) Je ?_ λhHeld=>?_
  .go_keep
  refine tkV 0 ?_ rfl ?_ ?_;rotate_left
  ·(intro w hSw;(try dsimp only at hSw);go_simp;try with_reducible rfl)
  try simp only[yG,Act.put]
  refine tkV 1 ?_ rfl ?_ ?_;rotate_left
  ·(intro w hSw;(try dsimp only at hSw);go_simp;try with_reducible rfl)
  try simp only[yG,Act.put]
  refine tkV 2 ?_ rfl ?_ ?_;rotate_left
  ·(intro w hSw;(try dsimp only at hSw);go_simp;try with_reducible rfl)
  try simp only[yG,Act.put]
  refine tkV 3 ?_ rfl ?_ ?_;rotate_left
  ·(intro w hSw;(try dsimp only at hSw);go_simp;try with_reducible rfl)
  try simp only[yG,Act.put]
  refine tkV 4 ?_ rfl ?_ ?_;rotate_left
  ·(intro w hSw;(try dsimp only at hSw);go_simp;try with_reducible rfl)
  try simp only[yG,Act.put]
  refine tkV 5 ?_ rfl ?_ ?_;rotate_left
  ·(intro w hSw;(try dsimp only at hSw);go_simp;try with_reducible rfl)
  try simp only[yG,Act.put]
  refine tkV 6 ?_ rfl ?_ ?_;rotate_left
  ·(intro w hSw;(try dsimp only at hSw);go_simp;try with_reducible rfl)
  try simp only[yG,Act.put]
  refine tkS 7 rfl ?_;try simp only[yG,Act.put]
  refine tkS 8 rfl ?_;try simp only[yG,Act.put]
  refine tkS 9 rfl ?_;try simp only[yG,Act.put]
  refine tkS 10 rfl ?_;try simp only[yG,Act.put]
  refine tkS 11 rfl ?_;try simp only[yG,Act.put]
  refine tkS 12 rfl ?_;try simp only[yG,Act.put]
  refine tkS 13 rfl ?_;try simp only[yG,Act.put]
  refine tkV 14 ?_ rfl ?_ ?_;rotate_left
  ·(intro w hSw;(try dsimp only at hSw);go_simp;try with_reducible rfl)
  try simp only[yG,Act.put]
  refine tkV 15 ?_ rfl ?_ ?_;rotate_left
  ·(intro w hSw;(try dsimp only at hSw);go_simp;try with_reducible rfl)
  try simp only[yG,Act.put]
  refine wpAnyH_done Je ?_ _;go_wp2;go_ret;exact⟨aA f.symm,by first|exact j.drew|exact j⟩
def wF (a n c xs w)(h:QS cO zSl w a n c xs):
 qC 303 #[qS a n c] w (qB w$ qI (lst xs n:Nat)):=by
 have t:=h.2.1;unfold maxLen at t
 delta qC;go_in
 go_wp2;go_loopw [3,8] (λl i wr=>∃k p:Nat,k<=n/\i=qI k/\l=qI p/\Hid (p=lst xs k)/\qY w wr) (λ_ i _=>n-(intOf i).toNat)
 .exact⟨0,0,xC _,rfl,rfl,zh rfl,brf⟩
 .obtain⟨k,p,I,rfl,rfl,B,e⟩:=hrel;by_cases A:k<n
  .have D:(k:Int)<(n:Int):=J
   have H:p<n:=by have:=yR xs k;rw[<-B.out]at this;omega
   obtain⟨g,f,rfl,N,O,P,Q⟩:=(h.bw e).at k A _ _ _ _ rfl;let⟨g',Z,U,_,_,_,S⟩:=(h.bw e).at p H _ _ _ _ rfl;cases U
   have q:=zh (show lst xs (k+1)=if (xs.getD k zSl).2.2.2<(xs.getD p zSl).2.2.2 then k else p by rw[B.out];rfl);generalize xs.getD k zSl=x at *;generalize (xs.getD p zSl).2.2.2=y at *;obtain⟨W,X,Y,d⟩:=x;let⟨V,G,s,M⟩:=nwb wr #[.bool W,qI X,qI Y,qI d] 132;have v3:=M.e3;have K:qN V g (f+p*4+3)=qj y:=aLm s S;have j:=zh$ yT e s;have E:=zh G;clear h e G s M S;by_cases C:d<y
   .have u:=zh (show lst xs (k+1)=k by rw[q.o,if_pos C]);clear q;go_wp2_with (rw[<-E.o])
    clear N O P Q
    go_region_held3 (λb=>qn b wr 3=qj d/\qN b g (f+p*4+3)=qj y) (go_keep) (fail)
    all_goals
     go_wp2
     go_roundw
     .exact⟨k+1,k,J,by go_num,rfl,zh u.symm,by first|exact j.drew|exact j⟩
     .simp[intOf];omega
   .have u:=zh (show lst xs (k+1)=p by rw[q.o,if_neg C]);clear q;go_wp2_with (rw[<-E.o])
    clear N O P Q
    go_region_held3 (λb=>qn b wr 3=qj d/\qN b g (f+p*4+3)=qj y) (go_keep) (fail)
    all_goals
     go_wp2
     go_roundw
     .exact⟨k+1,p,J,by go_num,rfl,zh u.symm,by first|exact j.drew|exact j⟩
     .simp[intOf];omega
  .obtain rfl:k=n:=J
   have j:=zh e;clear e;go_wp2;go_ret;exact⟨aJ (by rw[B.out]),j.o⟩
def aI9 (a n c xs m b t w)(h:QS cO zSl w a n c xs)(hv:Tnz xs):
 qC 253 #[qS a n c,.agg$ qT m b t] w (qB w$ qI (slq xs m b:Nat)):=by
 have U:=h.1;have E:=h.2.1;unfold maxLen at E;let⟨V,hV,M,kV⟩:=nwb w (qT m b t) 121;have Q:=zh$ dP a n c xs m b V$ h.bw M;have HR:=zh$ lA xs m b;have W:=zh (show slq xs m b=if hld xs m b=-1 then lst xs n else (hld xs m b).toNat by unfold slq;rw[U]);generalize hld xs m b=r at *;generalize hs:slq xs m b=s at *;have Y:=kV.cell 0;have x1:=kV.cell 1;have HV:=zh hV;have I:=zh M
 delta qC;go_in
 go_wp2_with (rw[<-HV.o])
 apply Q.mono;rintro e X1 ⟨rfl,P⟩;have u:=zh$ yT I P;by_cases C:0<=r
 .have B:=zh (show r=(s:Nat)by rw[W.o,if_neg J];omega);go_wp2;go_ret;exact⟨aJ B,u⟩
 have B:=zh (show s=lst xs n by rw[W.o,if_pos (jK HR.o)]);go_wp2_with fail
 go_loopw [5,6] (λq i wr=>∃k p:Nat,k<=n/\i=qI k/\q=qI p/\Hid (p=lst xs k)/\Hid (∀j,j<k->(xs.getD j zSl).1=true)/\qY w wr) (λ_ i _=>n-(intOf i).toNat)
 .exact⟨0,0,xC _,rfl,rfl,zh rfl,zh λj hj=>J,u⟩
 .obtain⟨k,p,hk,rfl,rfl,O,X,D⟩:=hrel;by_cases N:k<n
  .have a0:(k:Int)<(n:Int):=J
   have hp:p<n:=by have:=yR xs k;rw[<-O.out]at this;omega
   obtain⟨g,f,rfl,q0,q1,q2,q3⟩:=(h.bw D).at k N _ _ _ _ rfl;let⟨g',f',e',_,_,_,r3⟩:=(h.bw D).at p hp _ _ _ _ rfl;cases e'
   have Z:=zh (show lst xs (k+1)=if (xs.getD k zSl).2.2.2<(xs.getD p zSl).2.2.2 then k else p by rw[O.out];rfl);have K:=zh (λ(e:(xs.getD k zSl).1=false)=>show lst xs n=k by rw[<-U];exact aPy hv J e X.out)
   have S:=zh (λ(e:(xs.getD k zSl).1=true)=>show ∀j,j<k+1->(xs.getD j zSl).1=true from λj hj=>by
    by_cases q:j=k
    .rw[q];exact e
    .exact X.out j J)
   generalize xs.getD k zSl=x at *;generalize (xs.getD p zSl).2.2.2=y at *;obtain⟨Y,x1,x2,G⟩:=x;have l:=zh D;cases Y with
   | false=>
     have A:=zh (show s=k by rw[B.o,K.o rfl]);go_wp2;go_ret;exact⟨aJ (by rw[A.o]),l.o⟩
   | true=>
     have A:=zh$ S rfl;by_cases C:G<y
     .have H:=zh (show lst xs (k+1)=k by rw[Z.o,if_pos C]);go_wp2_with fail
      go_region_held3 (λd=>qN d g (f+k*4+3)=qj G/\qN d g (f+p*4+3)=qj y) (go_keep) (fail)
      all_goals
       go_wp2
       go_roundw
       .exact⟨k+1,k,J,by go_num,rfl,zh H.symm,A,by first|exact l.drew|exact l⟩
       .simp[intOf];omega
     .have H:=zh (show lst xs (k+1)=p by rw[Z.o,if_neg C]);go_wp2_with fail
      go_region_held3 (λd=>qN d g (f+k*4+3)=qj G/\qN d g (f+p*4+3)=qj y) (go_keep) (fail)
      all_goals
       go_wp2
       go_roundw
       .exact⟨k+1,p,J,by go_num,rfl,zh H.symm,A,by first|exact l.drew|exact l⟩
       .simp[intOf];omega
  .obtain rfl:k=n:=J
   have l:=zh D;go_wp2;go_ret;exact⟨aJ (by rw[B.o,O.out]),l.o⟩
