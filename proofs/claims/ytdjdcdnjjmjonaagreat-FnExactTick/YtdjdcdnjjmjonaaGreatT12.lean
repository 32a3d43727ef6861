import Derived.Test.YtdjdcdnjjmjonaaGreatT08
import Derived.Test.YtdjdcdnjjmjonaaGreatT09
set_option linter.all false
set_option maxHeartbeats 4000000
namespace Go.Proofs.YtdjdcdnjjmjonaaGreat
open Go.RowKit
open Go.Proofs.Tryz
set_option maxRecDepth 100000
variable {M:Mn}{S:Nat->Prop}{a0 a2 a5:qO}{base c0 c2 c5 g n:Nat}{rs:List Rg}{ts:List TB}{v:Value}{xs:List PB}
def plR (ps:List PMod)(L:Lay)(m b s:Int):List Rg:=(([]++rts true true false (cvL (plc ps m.toNat).data (plc ps m.toNat).size))++rts true true false (cvL L.stack$ cW L-L.stack)++rts false true false (cvL 131072 32))++rts false false true (cvL (fH L (plc ps m.toNat) b s)$ rnd$ 4*pcq ps m b)
def vW {w:qw}{base':Nat}(h:ORg w base v rs)(a:base'<=base):ORg w base' v rs:=by
 refine⟨?_,h.2⟩;obtain⟨b,g|⟨f,d,e,s,p,q,i,j,k,l⟩⟩:=h.1
 .exact⟨b,.inl g⟩
 .exact⟨b,.inr ⟨f,d,e,s,xM a p,q,i,j,k,l⟩⟩
structure PlZ (V X:qw)(v:Value)(rs:List Rg):Prop where
 b:qY V X
 o:ORg X V.heap.size v rs
def PlZ.bw {V X a:qw}(h:PlZ V X v rs)(b:qY X a):PlZ V a v rs:=⟨h.b.trans$ b.mono h.b.size,gF (aI b) h.o λ_ _ h=>h⟩
def PlZ.drew {V X:qw}(h:PlZ V X v rs):PlZ V X.drew v rs:=h.bw brf.drew
def qU {V:qw}(A m g rs f s r x y X)(h:PlZ V X (qS A m g) rs)(p:wfi f)(hs:wfi s)(j:m<=1000000):
 qC 121 #[qS A m g,qI f,qI s,.bool r,.bool x,.bool y] X λe t=>∃d b a,e=.returned (qS d b a)/\b<=m+8192/\PlZ V t (qS d b a) (rs++rts r x y (cvL f s)):=
 (aIh A m g rs f s r x y V.heap.size X h.b.size h.o p hs j).mono λe t⟨d,b,a,i,q,l,k⟩=>⟨d,b,a,i,jK$ vD f s,h.b.trans k,l⟩
def aFq {w:qw}{L:Lay}{ps:List PMod}{m b s:Int}
 (f:LyT w L a0 c0 xs a2 c2 a5 c5 ts) (d:Lok ps L) (j:0<=pcq ps m b) (hs:s=-1\/(b≠-1/\0<=s/\s<(L.slots.length:Int))):wfi (iR L (xs.getD m.toNat zPB) b s):=by
 have Q:=pA (s:=s) f d j;have K:=mX d;have:=Q.m2;have:=Q.m0;have a:=K.v m.toNat J;have:=K.n.2;have:=dE K.v m.toNat J;have:=iJ a;unfold iR;rw[Q.p];by_cases c:b=-1
 .rw[if_pos c];have e:(plc ps m.toNat).text=Fl ps m.toNat:=rfl;rw[e];unfold wfi;omega
 .rw[if_neg c];by_cases c2:s=-1
  .rw[if_pos c2];have i:=Q.bb.resolve_left c;rw[Q.p]at i;have:(plc ps m.toNat).banks.length=(ps.getD m.toNat zP).bl.length:=by simp[plc]
   have:b.toNat<(ps.getD m.toNat zP).bl.length:=by grind
   have e:(plc ps m.toNat).banks.getD b.toNat 0=Fl ps m.toNat+tsz (ps.getD m.toNat zP)+cU (ps.getD m.toNat zP) b.toNat:=by
    simp only[plc]
    grind
   have:=cV a b.toNat J;have:=cR a;rw[e];unfold wfi;omega
  .rw[if_neg c2];exact f.s.2.2.1 _$ aB8 J
def iY (a n ag ms L a6 c0 xs a2 c2 a5 c5 ts m b a0 s w)(h:MSD w a n ag ms)(hL:LyT w L a6 c0 xs a2 c2 a5 c5 ts)
 (hk:Lok (aF ms) L) (hp:0<=pcq (aF ms) m b) (hs:s=-1\/(b≠-1/\0<=s/\s<(L.slots.length:Int))):
 qC 73 #[qS a n ag,.agg$ qJ L a6 xs c0 a2 c2 a5 ts c5,.agg$ qT m b a0,qI s] w λe w'=>∃A k c,e=.returned (qS A k c)/\ORg w' w.heap.size (qS A k c) (plR (aF ms) L m b s)/\qY w w':=by
 have K:=pA (s:=s) hL hk hp;have hn:=h.s.1;have U:=cK ms;obtain⟨m0,m1,m2,a7,a9,hw,hd,b2,b1⟩:=K;have u:wfi (iR L (xs.getD m.toNat zPB) b s):=aFq hL hk hp hs;have am:=zh$ fG h m b;let⟨W,hW⟩:=aN$ (w.alloc$ .cells (qJ L a6 xs c0 a2 c2 a5 ts c5) 65).alloc$ .cells (qT m b a0) 121;have hB:qY w W:=by rw[hW];exact bal.alloc Jb _
 have k0:Blk W w.heap.size (qJ L a6 xs c0 a2 c2 a5 ts c5) 65:=by rw[hW];exact(Blk.new w _ _).alloc _
 have t:Blk W (w.heap.size+1) (qT m b a0) 121:=by rw[hW];have:=Blk.new (w.alloc$ .cells (qJ L a6 xs c0 a2 c2 a5 ts c5) 65) (qT m b a0) 121;simpa using this
 have h1:=h.bw hB;have l:=hL.bw hB;obtain⟨gp,op,rfl,q0,q1,q2,q3⟩:=l.p.at m.toNat J;unfold svP at q1;have b0:=l.p.2.1;have d0:=k0.e0;have t0:=t.e0;let⟨P,hP⟩:=aN$ xs.getD m.toNat zPB;rw[<-hP]at q0 q1 q2 q3 a7 a9 u;rw[<-a7]at hd;obtain⟨⟨tx,bk,S,sz⟩,pa,pc⟩:=P;have HP:=zh hP;let⟨q,hq⟩:=aN$ pcq (aF ms) m b;have HQ:=zh hq
 have N:=zh (show plR (aF ms) L m b s=(([]++rts true true false (cvL S sz))++rts true true false (cvL L.stack$ cW L-L.stack)++rts false true false (cvL 131072 32))++rts false false true (cvL (iR L ((⟨tx,bk,S,sz⟩,pa,pc):PB) b s)$ rnd$ 4*q)by
  unfold plR;rw[<-a7,hq]
  rfl)
 rw[N.o];rw[<-hq]at hw hp;clear N;let⟨V,hV,bV,kV⟩:=nwb W #[qI tx,qS pa bk.length pc,qI S,qI sz] 170;have ad:=k0.bw bV;have I:=t.bw bV;have ab:=zh$ yT hB bV;have h2:=h1.bw bV;have aj:=l.bw bV;have HW:=zh hW;have HV:=zh hV;have HM:=zh h2;have O:=zh aj;have f:=zh$ xA ad$ xA I kV;clear hW hV k0 t h h1 hL l hB bV ad I kV hP a7 hq
 delta qC;go_in
 go_wp2_with (first|rw[<-HW.o]|rw[<-HV.o])
 obtain⟨gm,om,rfl,v0,v1,v2,v3,v4,v5,v6,v7⟩:=HM.s.at m.toNat J;have C:=HM.s.2.2.2.1 m.toNat J
 have F:pcn (ms.getD m.toNat aL).tn (ms.getD m.toNat aL).bn (ms.getD m.toNat aL).bl b=q:=by
  rw[HQ.o,<-am.o];unfold pcm;rw[if_pos J]
 generalize ms.getD m.toNat aL=M at *
 have D:=zh (show ∀X,qY V X->qC 118 #[.agg$ qM M.nm M.ta M.tn M.tc M.ba M.bn M.bc M.da M.dn M.dc M.bss M.ra M.rn M.rc M.ia M.im M.ic M.ea M.en M.ec,qI b] X (λe w'=>∃xa i xc,e=.returned (.tuple #[qS xa i xc,.bool true])/\(i:Int)=q/\qY V w')from λX hX=>
  (jT M.nm M.ta M.tn M.tc M.ba M.bn M.bc M.bl (qS M.da M.dn M.dc) (qS M.ra M.rn M.rc) (qS M.ia M.im M.ic) (qS M.ea M.en M.ec) M.bss b X C.t.2.1$ C.b.bw hX).mono λe w'⟨xa,i,xc,ok,y,ho,hx,_,hb⟩=>by
    have R:ok=true:=by rw[ho,F];simp;omega
    exact⟨xa,i,xc,by rw[y,R],by rw[hx R,F],yT hX hb⟩)
 have x0:=f.1.ly6;have y0:=f.2.1.e0;have y1:=f.2.1.e1;have ak:=HM.s.2.1;unfold maxLen at ak;have ax:m<(n:Int):=J
 clear q0 q1 q2 q3 d0 t0 C F U hn
 go_region_held3 (λw'=>qg w' w 0=qj m/\qg w' w 1=qj b/\qN w' gm (om+m.toNat*8)=some (.string M.nm)/\qN w' gm (om+m.toNat*8+1)=qk M.ta M.tn M.tc/\qN w' gm (om+m.toNat*8+2)=qk M.ba M.bn M.bc/\qN w' gm (om+m.toNat*8+3)=qk M.da M.dn M.dc/\qN w' gm (om+m.toNat*8+4)=qj M.bss/\qN w' gm (om+m.toNat*8+5)=qk M.ra M.rn M.rc/\qN w' gm (om+m.toNat*8+6)=qk M.ia M.im M.ic/\qN w' gm (om+m.toNat*8+7)=qk M.ea M.en M.ec) (go_keep)
  (first
    | (go_at_call 118;first
        | with_reducible refine(D.o _ brf).mono ?_
        | with_reducible refine(D.o _ brf.drew).mono ?_
       rintro e w1 ⟨xa,i,xc,rfl,Q,d⟩;have G:=zh d;have Y:=zh Q;have C1:=(f.2.1.bw d).cell 0;have C2:=(f.2.1.bw d).cell 1;have u0:=aB d v0;have u1:=aB d v1;have u2:=aB d v2;have u3:=aB d v3;have u4:=aB d v4;have u5:=aB d v5;have u6:=aB d v6;have u7:=aB d v7
       clear d Q))
 have j:=zh (show ∀X v rs,PlZ V X v rs->qn X W 2=qj S/\qn X W 3=qj sz/\(qn X w 0=qk (qe gp op) xs.length c0/\qn X w 1=qj L.stack/\qn X w 2=qk a2 L.slots.length c2/\qn X w 3=qj L.flash/\qn X w 4=qj L.ram/\qn X w 5=qk a5 ts.length c5)/\qg X w 0=qj m/\qg X w 1=qj b/\qg X w 2=qj a0 from λX v rs g=>
  ⟨(f.2.2.bw g.b).cell 2,(f.2.2.bw g.b).cell 3,(f.1.bw g.b).ly6,(f.2.1.bw g.b).cell 0,(f.2.1.bw g.b).cell 1,(f.2.1.bw g.b).cell 2⟩)
 have af:Zh (∀X v rs,PlZ V X v rs->qC 122 #[.agg$ qL L (qe gp op) xs.length c0 a2 L.slots.length c2 a5 ts.length c5] X (λe w'=>e=.returned (qI$ cW L)/\PlZ V w' v rs)):=λX v rs g=>(wY L (qe gp op) c0 xs a2 c2 a5 c5 ts X$ O.bw g.b).mono λe w' y=>⟨y.1,g.bw y.2⟩;have aq:Zh (∀X v rs,PlZ V X v rs->qC 123 #[.agg$ qL L (qe gp op) xs.length c0 a2 L.slots.length c2 a5 ts.length c5,.agg$ qT m b a0,qI s] X (λe w'=>e=.returned (qI$ iR L ((⟨tx,bk,S,sz⟩,pa,pc):PB) b s)/\PlZ V w' v rs)):=λX v rs g=>(lV L (qe gp op) c0 xs a2 c2 a5 c5 ts m b a0 s X (O.o.bw g.b) m0 m1 (HP.o ▸ a9) hs).mono λe w' y=>⟨HP.o ▸ y.1,g.bw y.2⟩;generalize Z:iR L ((⟨tx,bk,S,sz⟩,pa,pc):PB) b s=og at *;generalize hE:cW L=E at *;have ap:=zh Z;have HE:=zh hE;clear Z hE;have Z0:Zh (PlZ V (w1.alloc$ .cells #[] 231) (qS (qp w1) 0 0) []):=⟨G.alloc G.size _,vY w1 V.heap.size G.size⟩;let⟨X1,a8⟩:=aN$ w1.alloc$ .cells #[] 231;rw[<-a8]at Z0;have H:=zh a8;clear a8 u0 u1 u2 u3 u4 u5 u6 u7 C1 C2 v0 v1 v2 v3 v4 v5 v6 v7 x0 y0 y1 D a9 hs hk;let⟨z2,z3,⟨z4,z5,z6,z7,z8,z9⟩,a1,a3,a4⟩:=j _ _ _ Z0;have ac:=zh$ qU _ _ _ [] S sz true true false X1 Z0 Jh Jh J;go_wp2_with (rw[<-H.o])
 apply ac.mono;rintro e X2 ⟨A1,t,p1,rfl,av,g⟩;have Z1:=zh g;clear g z2 z3 z4 z5 z6 z7 z8 z9 a1 a3 a4 Z0 ac H;let⟨z2,z3,⟨z4,z5,z6,z7,z8,z9⟩,a1,a3,a4⟩:=j _ _ _ Z1;have ai:Zh (IntKind.i64.wrap (E-L.stack)=E-L.stack):=rP;have B:Zh (∀X,PlZ V X (qS A1 t p1) ([]++rts true true false (cvL S sz))->qC 121 #[qS A1 t p1,qI L.stack,qI$ IntKind.i64.wrap$ E-L.stack,.bool true,.bool true,.bool false] X λe w'=>∃A' m' p,e=.returned (qS A' m' p)/\m'<=t+8192/\PlZ V w' (qS A' m' p) (([]++rts true true false (cvL S sz))++rts true true false (cvL L.stack$ E-L.stack))):=λX hX=>by rw[ai.o];exact qU A1 t p1 ([]++rts true true false (cvL S sz)) L.stack (E-L.stack) true true false X hX Jh Jh J
 go_wp2_with fail
 go_region_held3 (λw'=>qn w' w 0=qk (qe gp op) xs.length c0/\qn w' w 1=qj L.stack/\qn w' w 2=qk a2 L.slots.length c2/\qn w' w 3=qj L.flash/\qn w' w 4=qj L.ram/\qn w' w 5=qk a5 ts.length c5) (go_keep)
  (first
    | (go_at_call 122;first
        | with_reducible refine(af.o _ _ _ Z1.o).mono ?_
        | with_reducible refine(af.o _ _ _ Z1.o.drew).mono ?_
       rintro e w3 ⟨rfl,aa⟩;have Z3:=zh aa;clear aa
       let⟨z2,z3,⟨z4,z5,z6,z7,z8,z9⟩,a1,a3,a4⟩:=j _ _ _ Z3)
    | (go_at_call 121;first
        | with_reducible refine(B.o _ Z3.o).mono ?_
        | with_reducible refine(B.o _ Z3.o.drew).mono ?_
       rintro e X3 ⟨A2,k2,p2,rfl,ay,g⟩;have Z2:=zh g;clear g
       let⟨z2,z3,⟨z4,z5,z6,z7,z8,z9⟩,a1,a3,a4⟩:=j _ _ _ Z2))
 clear B Z1 Z3;have ae:=zh$ qU A2 k2 p2 (([]++rts true true false (cvL S sz))++rts true true false (cvL L.stack$ E-L.stack)) 131072 32 false true false X3 Z2 Jh Jh J;go_wp2_with fail
 apply ae.mono;rintro e X4 ⟨A3,k3,p3,rfl,au,g⟩;have Z4:=zh g;clear g Z2 ae z2 z3 z4 z5 z6 z7 z8 z9 a1 a3 a4;let⟨z2,z3,⟨z4,z5,z6,z7,z8,z9⟩,a1,a3,a4⟩:=j _ _ _ Z4;have aw:(i:Int)<=200:=by rw[Y.o];exact hw.2
 have ao:=zh λ(X:qw)=>eQ (4*(i:Int)) X;go_wp2_with fail
 apply(aq _ _ _ Z4).mono;rintro e X5 ⟨rfl,g⟩;have Z5:=zh g;clear g Z4;go_wp2_with fail
 apply(ao _).mono;rintro e X6 ⟨rfl,rfl⟩;have ar:=bC (x:=4*(i:Int));have ah:=zh$ qU A3 k3 p3 ((([]++rts true true false (cvL S sz))++rts true true false (cvL L.stack$ E-L.stack))++rts false true false (cvL 131072 32)) og (rnd$ 4*(i:Int)) false false true _ Z5 u Jh J;have an:=zh (show rnd (4*q)=rnd (4*(i:Int))by rw[Y.o]);generalize rnd (4*(i:Int))=rr at *;go_wp2_with fail
 apply ah.mono;rintro e X7 ⟨A4,k4,p4,rfl,az,g⟩;have Z7:=zh g;clear g;go_wp2;go_ret;exact⟨A4,k4,p4,rfl,by have e:=an.o;have e2:=HE.o;have e3:=ap.o;rw[e,e2,e3];exact vW Z7.o.o ab.o.size,yT ab.o Z7.o.b⟩
def zX (ps:List PMod)(L:Lay):Prop:=Lok ps L/\∀m b s:Int,0<=pcq ps m b->sOk L b s->(plR ps L m b s).length<=8
def slk (ps:List PMod)(T:Int)(x:SlT):Prop:=(x.1=false/\x=zSl)\/(x.1=true/\0<=x.2.2.1/\0<=pcq ps x.2.1 x.2.2.1/\1<=x.2.2.2/\x.2.2.2<=T)
def cmn (x y:SlT):Prop:=x.1=true/\y.1=true/\(y.2.2.2=x.2.2.2\/(y.2.1=x.2.1/\y.2.2.1=x.2.2.1))
def aln (xs:List SlT)(i:Nat):Prop:=∀k,k<i->¬cmn (xs.getD i zSl) (xs.getD k zSl)
def slz (cw:Int):Nat:=(rnd$ 4*cw).toNat
def bnk (ps:List PMod)(m b:Int):List Int:=(ps.getD m.toNat zP).bl.getD b.toNat []
def bkb (ps:List PMod)(cw m b:Int):List Int:=cF (List.replicate (slz cw) 0) 0 (bnk ps m b) (bnk ps m b).length
def slb (rz:qi)(L:Lay)(cw:Int)(i:Nat):List Int:=(rz.drop (L.slots.getD i 0-65536).toNat).take$ slz cw
def pR (ps:List PMod)(L:Lay)(cw T:Int)(rz:qi)(xs:List SlT)(i:Nat):Prop:=slk ps T (xs.getD i zSl)/\aln xs i/\((xs.getD i zSl).1=true->slb rz L cw i=bkb ps cw (xs.getD i zSl).2.1 (xs.getD i zSl).2.2.1)
def dO (ps:List PMod)(L:Lay)(cs cw T:Int)(rz:qi)(xs:List SlT):Prop:=(xs.length:Int)=cs/\∀i,i<xs.length->pR ps L cw T rz xs i
def aAq (ps:List PMod)(cs m b:Int)(xs:List SlT):Prop:=0<=pcq ps m b/\(cs=0\/b=-1\/hld xs m b≠-1)
abbrev tgk (ps:List PMod)(m b t:Int):Prop:=0<=pcq ps m b/\0<=t/\t<=pcq ps m b
abbrev frk (ps:List PMod)(x:FrT):Prop:=tgk ps x.1 x.2.1 x.2.2.1/\0<=x.2.2.2/\x.2.2.2<=4294967295
def mO (ps:List PMod)(cd:Int)(xs:List FrT):Prop:=(xs.length:Int)<=cd/\∀i,i<xs.length->frk ps (xs.getD i zFr)
def Mn.L (M:Mn):Lay:=lkL (aF M.ms) M.cs M.cw M.ck M.cd
structure MOk (M:Mn):Prop where
 l:lkc (aF M.ms) M.cs M.cw M.ck M.cd=0
 p:zX (aF M.ms) M.L
 c:cok M.pc M.kn M.kz=true
 b:mok M.fn M.rn M.on=true
 f:imF (aF M.ms) M.L=M.fz
 r:(M.rn:Int)=M.L.ram
 t:0<=M.tn/\M.tn<=1000000000
 s:dO (aF M.ms) M.L M.cs M.cw M.tn M.rz M.lz
 n:aAq (aF M.ms) M.cs M.md M.bk M.lz
 h:mO (aF M.ms) M.cd M.hz
def lI (a n W ms m b t w)(h:MSD w a n W ms):
 qC 193 #[qS a n W,.agg$ qT m b t] w λe w'=>e=.returned (.bool$ decide$ tgk (aF ms) m b t)/\qY w w':=by
 let⟨V,hV,U,S⟩:=nwb w (qT m b t) 121;have i:=zh$ nB a n W ms m b V$ h.s.bw U;rw[fG h m b]at i;have F:=zh hV;have I:=zh$ xA U S;let⟨r,Y⟩:=aN$ decide$ tgk (aF ms) m b t;rw[<-Y];have A:=zh Y;clear hV Y;by_cases c:0<=pcq (aF ms) m b
 .rw[xR c]at i;let⟨⟨m0,m1⟩,_⟩:=mS h c;obtain⟨gm,g,rfl,Z,v1,v2,v3,v4,v5,v6,v7⟩:=(h.s.bw U).at m.toNat J;have p:=zh λ(M:Md)(s:ms.getD m.toNat aL=M)(X:qw)(f:qY V X)=>(aLu (h.bw U) c s X f);let⟨M,s⟩:=aN$ ms.getD m.toNat aL;rw[<-s]at Z v1 v2 v3 v4 v5 v6 v7;have K:=zh$ p M s.symm;have x:=zh (show r=decide (0<=t/\t<=pcq (aF ms) m b)by rw[A.o];unfold tgk;simp[c]);clear A;generalize pcq (aF ms) m b=q at *
  have C:=zh (λ(X:qw)(f:qY V X)=>show(qn X w 0=qj m/\qn X w 1=qj b/\qn X w 2=qj t)/\qN X gm (g+m.toNat*8)=some (.string M.nm)/\qN X gm (g+m.toNat*8+1)=qk M.ta M.tn M.tc/\qN X gm (g+m.toNat*8+2)=qk M.ba M.bn M.bc/\qN X gm (g+m.toNat*8+3)=qk M.da M.dn M.dc/\qN X gm (g+m.toNat*8+4)=qj M.bss/\qN X gm (g+m.toNat*8+5)=qk M.ra M.rn M.rc/\qN X gm (g+m.toNat*8+6)=qk M.ia M.im M.ic/\qN X gm (g+m.toNat*8+7)=qk M.ea M.en M.ec from
   ⟨⟨(S.bw f).cell 0,(S.bw f).cell 1,(S.bw f).cell 2⟩,aB f Z,aB f v1,aB f v2,aB f v3,aB f v4,aB f v5,aB f v6,aB f v7⟩)
  clear p s h U S c Z v1 v2 v3 v4 v5 v6 v7;let⟨⟨Q,x1,x2⟩,_⟩:=C V brf
  delta qC;go_in
  go_wp2_with (rw[<-F.o])
  apply i.mono;rintro e E ⟨rfl,d⟩;have y:=zh d;have j:=zb E λX f=>(K X$ yT y f).mono (λe w' P=>show ∃G u H,e=.returned (.tuple #[qS G u H,.bool true])/\(u:Int)=q/\qY V w' from P);let⟨⟨y0,y1,y2⟩,u0,u1,u2,u3,u4,u5,u6,u7⟩:=C E d;go_wp2_with fail
  go_region_held3 (λw'=>qn w' w 0=qj m/\qn w' w 1=qj b/\qN w' gm (g+m.toNat*8)=some (.string M.nm)/\qN w' gm (g+m.toNat*8+1)=qk M.ta M.tn M.tc/\qN w' gm (g+m.toNat*8+2)=qk M.ba M.bn M.bc/\qN w' gm (g+m.toNat*8+3)=qk M.da M.dn M.dc/\qN w' gm (g+m.toNat*8+4)=qj M.bss/\qN w' gm (g+m.toNat*8+5)=qk M.ra M.rn M.rc/\qN w' gm (g+m.toNat*8+6)=qk M.ia M.im M.ic/\qN w' gm (g+m.toNat*8+7)=qk M.ea M.en M.ec) (go_keep)
   (first
     | (go_at_call 195;first
         | with_reducible refine(j.o _ brf).mono ?_
         | with_reducible refine(j.o _ brf.drew).mono ?_
        rintro e N ⟨G,u,H,rfl,l,d⟩;have D:=zh l;have B:=zh d;let⟨⟨z0,z1,z2⟩,t0,t1,t2,t3,t4,t5,t6,t7⟩:=C N d
        clear d l))
  have O:=zh$ cP t (u:Int);go_wp2_with (go_at_call 141;refine(O.o _).mono ?_;rintro e R ⟨rfl,rfl⟩)
  go_ret;exact⟨aA (by rw[x.o,D.o];simp),yT I.o.1 B.o⟩
 .rw[xS c]at i;have e:=zh (show r=false by rw[A.o];exact xS λk=>c k.1);have Q:=S.cell 0;have x1:=S.cell 1
  delta qC;go_in
  go_wp2_with (rw[<-F.o])
  apply i.mono;rintro e E ⟨rfl,d⟩;go_wp2;go_ret;exact⟨aA e.symm,yT I.1 d⟩
def VlP (w:qw)(M:Mn)(e:Ending)(w':qw):Prop:=qY w w'/\∃y0 n0 d0 i1 y2 n2 d2 i3 i4 y5 n5 d5 b,e=.returned (.tuple #[.agg #[qS y0 n0 d0,qI i1,qS y2 n2 d2,qI i3,qI i4,qS y5 n5 d5],.bool b])/\(b=true ↔ MOk M)/\(b=true->∃a0 c0 xs a2 c2 a5 c5 ts,#[qS y0 n0 d0,qI i1,qS y2 n2 d2,qI i3,qI i4,qS y5 n5 d5]=oG M.L a0 c0 xs a2 c2 a5 c5 ts/\LyT w' M.L a0 c0 xs a2 c2 a5 c5 ts)
def eX {w w':qw}{a k l:qO}{p i n2 d j e:Nat}{q f b:Int}(s:qY w w')(h:¬MOk M):VlP w M (.returned$ .tuple #[.agg #[qS a p i,qI q,qS k n2 d,qI f,qI b,qS l j e],.bool false]) w':=⟨s,a,p,i,q,k,n2,d,f,b,l,j,e,false,rfl,by simp[h],λh=>by cases h⟩
def aM1 {w w':qw}{L:Lay}(b:L=M.L)(d:qY w w')(h:MOk M)(a:LyT w' L a0 c0 xs a2 c2 a5 c5 ts):VlP w M (.returned$ .tuple #[.agg$ qJ L a0 xs c0 a2 c2 a5 ts c5,.bool true]) w':=by
 subst b;exact⟨d,_,_,_,_,_,_,_,_,_,_,_,_,true,rfl,by simp[h],λ_=>⟨a0,c0,xs,a2,c2,a5,c5,ts,rfl,a⟩⟩
def aE6 (xs ds:List Value)(f n)(h:f+ds.length<=n)(a:f<=xs.length):(splice xs f ds).take n=splice (xs.take n) f ds:=by
 unfold splice;rw[List.take_append,List.take_append,List.length_take,Nat.min_eq_left a,xG (l:=List.take f xs) (by grind),xG (l:=ds) J,List.take_take,Nat.min_eq_left J,List.drop_take]
 grind
def aMs {W:qw}{l f:Nat}{q a:qi}(A:OB W base (qS (qP g) n l) q)(N M F H D G)(i:BS W M D G a)(y:D<=F)(u:f+D<=n)(w:D≠0):
 ∃w',(Builtin.copy_ #[28,28] N #[qS (some$ qR g f) F H,qS M D G]).run prog W=.ok (goInt D) w'/\OB w' base (qS (qP g) n l) (ovr q f a)/\Turn (λj=>j=g) W w':=by
 obtain⟨⟨Z,⟨e0,_⟩|⟨X,V,C,p,R,K,O,Q,Y,I⟩⟩,S⟩:=A
 .grind
 .simp at p;obtain⟨rfl,rfl,rfl⟩:=p;obtain⟨b,U,rfl,hc⟩:=i.2.2.2.1 w;have hld:=i.1;subst hld;have t:(prog.info? 5).map (·.size)=some 1:=Je
  have d:=run_copy_row (P:=prog) W 28 28 N 5 g f F H (qR b U) a.length G C 5 (a.map$ Value.int .u8) underlying28 t K (by grind) (λj v x=>by
   have s:j<a.length:=by
    grind
   rw[cI,hc j s,<-x]
   grind) (by grind) (λv p=>by
   simp at p;obtain⟨z,_,rfl⟩:=p
   rfl)
  rw[xH]at d;have E:=tT g W (C.toList.take f++a.map (Value.int .u8)++C.toList.drop (f+a.length)).toArray;refine⟨_,d,⟨⟨Jb,.inr ⟨g,l,(C.toList.take f++a.map (Value.int .u8)++C.toList.drop (f+a.length)).toArray,by rw[nP _ _ _ J],R,setRow_heap W g C _ 5 (0,0) K,by rw[nP _ _ _ J];exact O,Q,by grind,?_⟩⟩,aBv S i.2.2.1⟩,⟨E.2.2.1,E.2.2.2.1,E.2.2.2.2,E.1 ▸ aO,λk _ B=>E.2.1 k B⟩⟩;have e:=aE6 C.toList (a.map$ Value.int .u8) f q.length (by grind) (by grind);rw[Nat.mul_one]at I;rw[I,aDj]at e;unfold splice at e;rw[nP _ _ _ J,Nat.mul_one,List.toList_toArray,List.append_assoc,<-e];simp
section
variable {W W':qw}{base aP:Nat}{C:Cn}{M:Mn}{Ls:List (PMod×Mb)}{β:Nat->Nat}
def aU {b sz:Nat}{cs:Array Value}{t d:TypeId}{xs:List Value}(kb:Blk W g cs d)(i:W.ownsRow b t sz v n xs)(a:t≠d):∀k,v.ownBlock=some k->¬k=g:=λk f e=>by
 subst e;let⟨c,j⟩:=aE i f;exact a$ aH j kb
def MxO.scal (h:MxO W base aP C M Ls β)(pc md bk tn):MxO W base aP { C with pc:=pc,md:=md,bk:=bk,tn:=tn } { M with pc:=pc,md:=md,bk:=bk,tn:=tn } Ls β:=⟨h.m,h.e,h.k,h.q,h.l,h.h,h.bm,h.bh,⟨h.vs.1,h.vs.2.1,h.vs.2.2.1,h.vs.2.2.2.1,rfl,rfl,rfl,rfl⟩,h.vz⟩
def MxO.upd (h:MxO W base aP C M Ls β)(t:Turn S W W')(hS:∀j,S j->aP<=j/\∃d a,Blk W j d a/\a≠128/\a≠25):OMp W' base (qS M.ma M.mn M.mc) Ls β:=
 h.m.keep t (λj b s=>by
  let⟨_,d,a,kb,e,f⟩:=hS j s;let⟨c,k⟩:=aE h.m.o b
  exact e$ aH kb k) (λj s=>xM h.bh (hS j s).1) (λj d kb s=>by
  let⟨_,i,a,g,e,f⟩:=hS j s
  exact f$ aH g kb)
def MxO.reg (h:MxO W base aP C M Ls β){a:Nat}(e:M.ka=some (qR a 0))(i)(hi:i<M.kn)(z)(hz:wfi z):MxO (W.setCell (qR a i)$ qI z) base aP { C with kz:=C.kz.set i z } { M with kz:=C.kz.set i z } Ls β:=by
 have b:=h.k;rw[e]at b;have T:=aC W a i$ qI z;let⟨f,kb⟩:=aE b.1 (k:=a) rfl;refine⟨h.upd T (λj d=>by subst d;exact⟨(b.lt _ rfl).1,f,_,kb,Ja,Ja⟩),h.e,?_,dX h.q T λj d=>?_,h.l.kept T$ aU kb h.l Ja,h.h.kept T$ aU kb h.h Ja,h.bm,h.bh,h.vs,⟨h.vz.1,rfl,h.vz.2.2⟩⟩
 .show OI _ aP (qS M.ka M.kn M.kc) (C.kz.set i z);rw[e];exact aOf b i hi z hz
 .rcases d with q|q|q
  .exact aU kb h.q.1.1 Ja j q
  .exact aU kb h.q.2.1.1 Ja j q
  .exact aU kb h.q.2.2.1.1 Ja j q
def MxO.slot (h:MxO W base aP C M Ls β){a:Nat}(e:M.la=some (qR a 0))(i)(hi:i<M.ln)(f x1 x2 x3):MxO ((((W.setCell (qR a$ i*4)$ .bool f).setCell (qR a$ i*4+1)$ qI x1).setCell (qR a$ i*4+2)$ qI x2).setCell (qR a$ i*4+3)$ qI x3) base aP { C with lz:=C.lz.set i (f,x1,x2,x3) } { M with lz:=C.lz.set i (f,x1,x2,x3) } Ls β:=by
 have b:=h.l;rw[e]at b;have T:=(((aC W a (i*4)$ .bool f).trans$ aC _ a (i*4+1)$ qI x1).trans$ aC _ a (i*4+2)$ qI x2).trans$ aC _ a (i*4+3)$ qI x3;let⟨g,kb⟩:=aE b (k:=a) rfl;refine⟨h.upd T (λj d=>by subst d;exact⟨(b.lt _ rfl).1,g,_,kb,Ja,Ja⟩),h.e,aX T h.k$ aU kb h.k.1 Ja,dX h.q T λj d=>?_,?_,h.h.kept T$ aU kb h.h Ja,h.bm,h.bh,h.vs,⟨h.vz.1,h.vz.2.1,h.vz.2.2.1,h.vz.2.2.2.1,h.vz.2.2.2.2.1,rfl,h.vz.2.2.2.2.2.2⟩⟩
 .rcases d with q|q|q
  .exact aU kb h.q.1.1 Ja j q
  .exact aU kb h.q.2.1.1 Ja j q
  .exact aU kb h.q.2.2.1.1 Ja j q
 .show OG _ 4 cM _ aP (qS M.la M.ln M.lc) _;rw[e];exact aDp cH b i hi (f,x1,x2,x3) _ _ _ _ rfl
def MxO.mem (h:MxO W base aP C M Ls β)(T:Turn S W W')(hS:∀j,S j->aP<=j/\∃g d,Blk W j g d/\(d=5\/d=142\/d=43)){oa:qO}{on oc:Nat}{R O:qi}(q:cB W' aP (qS M.fa M.fn M.fc) (qS M.ra M.rn M.rc) (qS oa on oc) C.fz R O):MxO W' base aP { C with rz:=R,oz:=O } { M with rz:=R,oa:=oa,on:=on,oc:=oc,oz:=O } Ls β:=by
 have a:∀{t:TypeId}{sz n b:Nat}{v:Value}{p:List Value},W.ownsRow b t sz v n p->t≠5->t≠142->t≠43->∀k,v.ownBlock=some k->¬S k:=λf u w x k i s=>by
  let⟨_,g,d,kb,e⟩:=hS k s;let⟨c,l⟩:=aE f i;have:=aH l kb
  grind
 exact⟨h.upd T (λj s=>by
  grind),h.e,aX T h.k$ a h.k.1 Ja Ja Ja,q,h.l.kept T$ a h.l Ja Ja Ja,h.h.kept T$ a h.h Ja Ja Ja,h.bm,h.bh,h.vs,⟨h.vz.1,h.vz.2.1,h.vz.2.2.1,rfl,rfl,h.vz.2.2.2.2.2.1,h.vz.2.2.2.2.2.2⟩⟩
def MxO.tm (h:MxO W base aP C M Ls β)(t:TMx W W'):MxO W' base aP C M Ls β:=⟨h.m.tm t,h.e,h.k.tm t,aJ7 h.q t,h.l.kept t$ oM h.l Ja,h.h.kept t$ oM h.h Ja,h.bm,h.bh,h.vs,h.vz⟩
end
def oL (x n S rs w)(h:RS w x n S rs)(F)(I:F=(decide (n<=8)&&okB rs n)):
 qC 270 #[qS x n S] w (qB w$ .bool F):=by
 have:=h.1;have:=h.2.1;have D:=zh I;clear I;by_cases h8:8<n
 .have G:(8:Int)<(n:Int):=J
  delta qC;go_in
  go_wp2;go_ret;exact⟨aA (by rw[D.o];simp[show ¬n<=8 from J]),brf⟩
 .have G:¬(8:Int)<(n:Int):=J
  delta qC;go_in
  go_wp2;go_loopw [10] (λi wr=>∃j:Nat,j<=n/\i=qI j/\aAs rs j/\qY w wr) (qf n)
  .exact⟨0,xC _,rfl,λi hi=>absurd hi J,brf⟩
  .obtain⟨j,hj,rfl,l,s⟩:=hrel;by_cases y:j<n
   .obtain⟨b,K,rfl⟩:=h.some J;have d:=(h.bw s).at j y;have q:=zh l;clear l;have t:=h.2.2.1 (rs.getD j z6) (by simp[xB,show j<rs.length from J]);have p:gok (rs.getD j z6)=false->okB rs n=false:=aBx y;have k:gok (rs.getD j z6)=true->aAs rs (j+1):=aBw q;have f:=zh p;have a:=zh k;clear p k;generalize rs.getD j z6=g at *;obtain⟨C,M,Q,U,V,W⟩:=g;have P:=wfl t.1;clear t;have N:=d.1;have Y:=d.2.1;have X:=d.2.2.1;have O:=d.2.2.2.1;have Z:=d.2.2.2.2.1;have R:=d.2.2.2.2.2;simp only at N Y X O Z R;have:qY w wr:=s;have:=s.size;go_wp2_with fail
    apply(oQ C M Q U V W _ P).mono;rintro e w1 ⟨rfl,H⟩;have u:=(s.alloc s.size$ .cells #[qI C,qI M,qI Q,.bool U,.bool V,.bool W] 231).trans$ H.mono Jc;cases A:rok C M Q
    .have B:=zh$ f A;clear A f a;go_wp2;go_ret;exact⟨aA (by rw[D.o,B.o];simp),u⟩
    .have B:=zh$ a A;clear A f a;go_wp2
     go_roundw
     .exact⟨j+1,J,by go_num,B,u⟩
     .simp[qf,intOf];omega
   .have E:j=n:=J
    subst E;have q:=zh$ nR.2 l;clear l;go_wp2;go_ret;exact⟨aA (by rw[D.o,q.o];simp;omega),s⟩
def aA6 (x j g rs a s k w)(h:RS w x j g rs)(hn:j<=8)(hs:wd s=true)(A:aAs rs j)(ha:wfi a)(F)(H:F=(okB rs j&&upB rs a k j s.toNat)):
 qC 200 #[qS x j g,qI a,qI s,qI k] w (qB w$ .bool F):=by
 have O:=h.1;have p:1<=s/\s<=4:=by have:=hs;simp[wd]at this;omega
 obtain⟨C,p⟩:=p;have N:=zh hs;have I:=zh H;have l:=zh A;clear hs H A
 delta qC;go_in
 go_wp2_with fail
 apply(jU s _).mono;rw[N.o];rintro e R ⟨rfl,rfl⟩;go_wp2_with fail
 apply(oL x j g rs _ h true (by rw[nR.2 l.o];simp;omega)).mono;rintro e U ⟨rfl,y⟩;go_wp2;go_loopw [19] (λi wr=>∃m:Nat,(m:Int)<=s/\i=qI m/\aEx rs a k j m/\qY w wr) (qf s.toNat)
 .exact⟨0,J,rfl,λi hi=>absurd hi J,y⟩
 .obtain⟨m,V,rfl,b,y⟩:=hrel;by_cases P:(m:Int)<s
  .have u:cQ rs (wrap64$ a+m) k j=false->upB rs a k j s.toNat=false:=rZ J;have f:cQ rs (wrap64$ a+m) k j=true->aEx rs a k j (m+1):=aBh b;have q:=zh u;have d:=zh f;have D:=zh b;go_wp2_with fail
   apply(aQf x j g rs _ k _ (h.bw y) (aFt O l) (aMw _) hn).mono;generalize cQ rs (wrap64$ a+m) k j=r at *;rintro e Q ⟨rfl,G⟩;have t:=yT y G;cases r
   .have E:=zh$ q rfl;go_wp2;go_ret;exact⟨aA (by rw[I.o,E.o];simp),t⟩
   .have E:=zh$ d rfl;go_wp2
    go_roundw
    .exact⟨m+1,J,by go_num,E,t⟩
    .simp[qf,intOf];omega
  .have B:s.toNat=m:=J
   have K:=zh$ pM.2 b;rw[<-B]at K;have D:=zh b;go_wp2;go_ret;exact⟨aA (by rw[I.o,K.o];rw[nR.2 l.o];rfl),y⟩
def rE (x n g rs a s k w)(h:RS w x n g rs)(b:wd s=false\/(decide (n<=8)&&okB rs n)=false):
 qC 200 #[qS x n g,qI a,qI s,qI k] w (qB w$ .bool false):=by
 cases hs:wd s
 .clear b
  delta qC;go_in
  go_wp2_with fail
  apply(jU s _).mono;rw[hs];rintro e d ⟨rfl,rfl⟩;go_wp2;go_ret;exact⟨rfl,brf⟩
 .have b:=zh (show false=(decide (n<=8)&&okB rs n)by rcases b with b|b;rw[hs]at b;simp at b;exact b.symm)
  delta qC;go_in
  go_wp2_with fail
  apply(jU s _).mono;rw[hs];rintro e d ⟨rfl,rfl⟩;go_wp2_with fail
  apply(oL x n g rs _ h false b).mono;rintro e i ⟨rfl,f⟩;go_wp2;go_ret;exact⟨rfl,f⟩
def iD (x n e rs a s k w)(h:RS w x n e rs)(ha:wfi a):
 qC 200 #[qS x n e,qI a,qI s,qI k] w (qB w$ .bool$ alw rs n a s k):=by
 cases hs:wd s
 .have d:alw rs n a s k=false:=by simp[alw,hs]
  rw[d];exact rE x n e rs a s k w h$ Or.inl hs
 .cases b:(decide (n<=8)&&okB rs n)
  .have d:alw rs n a s k=false:=by
    unfold alw
    grind
   rw[d];exact rE x n e rs a s k w h$ Or.inr b
  .simp at b;exact aA6 x n e rs a s k w h b.1 hs (nR.1 b.2) ha _ (by simp[alw,hs,b.1])
def pJ (a n A B w)(h:Srd clI w a n A B)(hn:n<=1048576):
 qC 150 #[qS a n A] w λe w'=>∃j s,e=.returned (qS j n s)/\OG 3 1 clI w' w.heap.size (qS j n s) B/\qY w w':=by
 let⟨F,hi,C,D,E⟩:=info_parts nC;have:=λ(w:qw)=>Lib.run_eql_slice_nil (P:=prog) w 25 3 a n A 0 0 underlying25;cases a with
 | none=>
   obtain⟨p,⟨_,rfl,rfl⟩|⟨g,G,e,_⟩⟩:=h
   .obtain rfl:B=[]:=xE p
    delta qC;go_in
    go_wp2;go_ret;exact⟨none,0,rfl,gQ _ _ _ _ _,brf⟩
   .cases e
 | some ad=>
   have p:=h.1;have f:=zh$ h.bw$ (Below.refl (qs w) w).alloc aO$ .cells #[] 3;have i:=zh$ cC 3 1 clI w (qs w) aO;have t:=zh$ (Below.refl w.heap.size w).alloc aO$ .cells #[] 3
   delta qC;go_in
   go_wp2_with (at_builtin;refine bY rfl _ _ 25 rfl w.heap.size 3 F (qI 0) 1 8 underlying25 hi C D E rfl Ja _ [] rfl i.o (some ad) n A B rfl f.o (λ_=>rfl) (λy u hu=>by simp[clI]at hu;subst hu;rfl) (by unfold maxLen;simp;omega) Jc Jb ?_;intro H x d b)
   rw[List.nil_append]at d;obtain⟨j,s,rfl⟩:=aZ d;have l:=zh$ xA d$ aG t.o (S:=λk=>k=w.heap.size) ⟨b.os,b.tape,b.output,b.size,λk q hs=>b.block k q λe=>hs (by cases e;rfl)⟩ (λk q=>J) Jb;rw[p]at l⊢;go_ret;exact⟨j,s,rfl,l.1,l.2⟩
def aJc (a n A B w)(h:Srd clT w a n A B)(hn:n<=1048576):
 qC 151 #[qS a n A] w λe w'=>∃j s,e=.returned (qS j n s)/\OG 9 1 clT w' w.heap.size (qS j n s) B/\qY w w':=by
 let⟨F,hi,C,D,E⟩:=info_parts aPh;have:=λ(w:qw)=>Lib.run_eql_slice_nil (P:=prog) w 100 9 a n A 0 0 underlying100;cases a with
 | none=>
   obtain⟨p,⟨_,rfl,rfl⟩|⟨g,G,e,_⟩⟩:=h
   .obtain rfl:B=[]:=xE p
    delta qC;go_in
    go_wp2;go_ret;exact⟨none,0,rfl,gQ _ _ _ _ _,brf⟩
   .cases e
 | some ad=>
   have p:=h.1;have f:=zh$ h.bw$ (Below.refl (qs w) w).alloc aO$ .cells #[] 9;have i:=zh$ cC 9 1 clT w (qs w) aO;have t:=zh$ (Below.refl w.heap.size w).alloc aO$ .cells #[] 9
   delta qC;go_in
   go_wp2_with (at_builtin;refine bY rfl _ _ 100 rfl w.heap.size 9 F (.string ⟨#[]⟩) 1 16 underlying100 hi C D E rfl Ja _ [] rfl i.o (some ad) n A B rfl f.o (λ_=>rfl) (λy u hu=>by simp[clT]at hu;subst hu;rfl) (by unfold maxLen;simp;omega) Jc Jb ?_;intro H x d b)
   rw[List.nil_append]at d;obtain⟨j,s,rfl⟩:=aZ d;have l:=zh$ xA d$ aG t.o (S:=λk=>k=w.heap.size) ⟨b.os,b.tape,b.output,b.size,λk q hs=>b.block k q λe=>hs (by cases e;rfl)⟩ (λk q=>J) Jb;rw[p]at l⊢;go_ret;exact⟨j,s,rfl,l.1,l.2⟩
def aJb (a n A B w)(h:Srd clX w a n A B)(hn:n<=1048576):
 qC 152 #[qS a n A] w λe w'=>∃j s,e=.returned (qS j n s)/\OG 209 3 clX w' w.heap.size (qS j n s) B/\qY w w':=by
 let⟨F,hi,C,D,E⟩:=info_parts aPf;have:=λ(w:qw)=>Lib.run_eql_slice_nil (P:=prog) w 126 209 a n A 0 0 underlying126;cases a with
 | none=>
   obtain⟨p,⟨_,rfl,rfl⟩|⟨g,G,e,_⟩⟩:=h
   .obtain rfl:B=[]:=xE p
    delta qC;go_in
    go_wp2;go_ret;exact⟨none,0,rfl,gQ _ _ _ _ _,brf⟩
   .cases e
 | some ad=>
   have p:=h.1;have f:=zh$ h.bw$ (Below.refl (qs w) w).alloc aO$ .cells #[] 209;have i:=zh$ cC 209 3 clX w (qs w) aO;have t:=zh$ (Below.refl w.heap.size w).alloc aO$ .cells #[] 209
   delta qC;go_in
   go_wp2_with (at_builtin;refine bY rfl _ _ 126 rfl w.heap.size 209 F _ 3 32 underlying126 hi C D E rfl Ja _ [] rfl i.o (some ad) n A B rfl f.o (λ_=>rfl) (λy u hu=>by simp[clX]at hu;rcases hu with rfl|rfl|rfl<;>rfl) (by unfold maxLen;simp;omega) Jc Jb ?_;intro H x d b)
   rw[List.nil_append]at d;obtain⟨j,s,rfl⟩:=aZ d;have l:=zh$ xA d$ aG t.o (S:=λk=>k=w.heap.size) ⟨b.os,b.tape,b.output,b.size,λk q hs=>b.block k q λe=>hs (by cases e;rfl)⟩ (λk q=>J) Jb;rw[p]at l⊢;go_ret;exact⟨j,s,rfl,l.1,l.2⟩
def aJd (a n A B w)(h:Srd cM w a n A B)(hn:n<=1048576):
 qC 87 #[qS a n A] w λe w'=>∃j s,e=.returned (qS j n s)/\OG 132 4 cM w' w.heap.size (qS j n s) B/\qY w w':=by
 let⟨F,hi,C,D,E⟩:=info_parts aIr;have:=λ(w:qw)=>Lib.run_eql_slice_nil (P:=prog) w 40 132 a n A 0 0 underlying40;cases a with
 | none=>
   obtain⟨p,⟨_,rfl,rfl⟩|⟨g,G,e,_⟩⟩:=h
   .obtain rfl:B=[]:=xE p
    delta qC;go_in
    go_wp2;go_ret;exact⟨none,0,rfl,gQ _ _ _ _ _,brf⟩
   .cases e
 | some ad=>
   have p:=h.1;have f:=zh$ h.bw$ (Below.refl (qs w) w).alloc aO$ .cells #[] 132;have i:=zh$ cC 132 4 cM w (qs w) aO;have t:=zh$ (Below.refl w.heap.size w).alloc aO$ .cells #[] 132
   delta qC;go_in
   go_wp2_with (at_builtin;refine bY rfl _ _ 40 rfl w.heap.size 132 F _ 4 32 underlying40 hi C D E rfl Ja _ [] rfl i.o (some ad) n A B rfl f.o (λ_=>rfl) (λy u hu=>by simp[cM]at hu;rcases hu with rfl|rfl|rfl|rfl<;>rfl) (by unfold maxLen;simp;omega) Jc Jb ?_;intro H x d b)
   rw[List.nil_append]at d;obtain⟨j,s,rfl⟩:=aZ d;have l:=zh$ xA d$ aG t.o (S:=λk=>k=w.heap.size) ⟨b.os,b.tape,b.output,b.size,λk q hs=>b.block k q λe=>hs (by cases e;rfl)⟩ (λk q=>J) Jb;rw[p]at l⊢;go_ret;exact⟨j,s,rfl,l.1,l.2⟩
def aJe (a n A B w)(h:Srd bM w a n A B)(hn:n<=1048576):
 qC 88 #[qS a n A] w λe w'=>∃j s,e=.returned (qS j n s)/\OG 136 4 bM w' w.heap.size (qS j n s) B/\qY w w':=by
 let⟨F,hi,C,D,E⟩:=info_parts yH;have:=λ(w:qw)=>Lib.run_eql_slice_nil (P:=prog) w 41 136 a n A 0 0 underlying41;cases a with
 | none=>
   obtain⟨p,⟨_,rfl,rfl⟩|⟨g,G,e,_⟩⟩:=h
   .obtain rfl:B=[]:=xE p
    delta qC;go_in
    go_wp2;go_ret;exact⟨none,0,rfl,gQ _ _ _ _ _,brf⟩
   .cases e
 | some ad=>
   have p:=h.1;have f:=zh$ h.bw$ (Below.refl (qs w) w).alloc aO$ .cells #[] 136;have i:=zh$ cC 136 4 bM w (qs w) aO;have t:=zh$ (Below.refl w.heap.size w).alloc aO$ .cells #[] 136
   delta qC;go_in
   go_wp2_with (at_builtin;refine bY rfl _ _ 41 rfl w.heap.size 136 F _ 4 32 underlying41 hi C D E rfl Ja _ [] rfl i.o (some ad) n A B rfl f.o (λ_=>rfl) (λy u hu=>by simp[bM]at hu;rcases hu with rfl|rfl|rfl|rfl<;>rfl) (by unfold maxLen;simp;omega) Jc Jb ?_;intro H x d b)
   rw[List.nil_append]at d;obtain⟨j,s,rfl⟩:=aZ d;have l:=zh$ xA d$ aG t.o (S:=λk=>k=w.heap.size) ⟨b.os,b.tape,b.output,b.size,λk q hs=>b.block k q λe=>hs (by cases e;rfl)⟩ (λk q=>J) Jb;rw[p]at l⊢;go_ret;exact⟨j,s,rfl,l.1,l.2⟩
def aJf (a n A B w)(h:Srd (λz=>[Value.int .u8 z]) w a n A B)(hn:n<=1048576):
 qC 54 #[qS a n A] w λe w'=>∃j s,e=.returned (qS j n s)/\OG 5 1 (λz=>[Value.int .u8 z]) w' w.heap.size (qS j n s) B/\qY w w':=by
 let⟨F,hi,C,D,E⟩:=info_parts rC;have:=λ(w:qw)=>Lib.run_eql_slice_nil (P:=prog) w 28 5 a n A 0 0 underlying28;cases a with
 | none=>
   obtain⟨p,⟨_,rfl,rfl⟩|⟨g,G,e,_⟩⟩:=h
   .obtain rfl:B=[]:=xE p
    delta qC;go_in
    go_wp2;go_ret;exact⟨none,0,rfl,gQ _ _ _ _ _,brf⟩
   .cases e
 | some ad=>
   have p:=h.1;have f:=zh$ h.bw$ (Below.refl (qs w) w).alloc aO$ .cells #[] 5;have i:=zh$ cC 5 1 (λz=>[Value.int .u8 z]) w (qs w) aO;have t:=zh$ (Below.refl w.heap.size w).alloc aO$ .cells #[] 5
   delta qC;go_in
   go_wp2_with (at_builtin;refine bY rfl _ _ 28 rfl w.heap.size 5 F (.int .u8 0) 1 1 underlying28 hi C D E rfl Ja _ [] rfl i.o (some ad) n A B rfl f.o (λ_=>rfl) (λy u hu=>by simp at hu;subst hu;rfl) (by unfold maxLen;simp;omega) Jc Jb ?_;intro H x d b)
   rw[List.nil_append]at d;obtain⟨j,s,rfl⟩:=aZ d;have l:=zh$ xA d$ aG t.o (S:=λk=>k=w.heap.size) ⟨b.os,b.tape,b.output,b.size,λk q hs=>b.block k q λe=>hs (by cases e;rfl)⟩ (λk q=>J) Jb;rw[p]at l⊢;go_ret;exact⟨j,s,rfl,l.1,l.2⟩
