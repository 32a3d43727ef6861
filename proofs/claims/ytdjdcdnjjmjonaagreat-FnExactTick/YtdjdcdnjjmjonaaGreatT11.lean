import Derived.Test.YtdjdcdnjjmjonaaGreatT08
import Derived.Test.YtdjdcdnjjmjonaaGreatT09
set_option linter.all false
set_option maxHeartbeats 16000000
namespace Go.Proofs.YtdjdcdnjjmjonaaGreat
open Go.RowKit Classical
open Go.Proofs.Tryz
set_option maxRecDepth 100000
variable {b:Nat}{d k s w:Int}{ps:List PMod}
def aWo {S F:Nat->Nat->Nat->World->Prop}{G:Prop}(main:(∀a b c W,F a b c W->S a b c W)->G)(pf:∀a b c W,F a b c W->S a b c W):G:=main pf
structure Mk3 (N:Nat)(w1 W:qw)(ZF ZR:Array Value)(F R gf gr gm:Nat):Prop where
 be:Below N w1 W
 f:Blk W gf ZF 5
 r:Blk W gr ZR 5
 m:Blk W gm (qV (qP gf) F F (qP gr) R R none 0 0) 39
 lo:N<=gf/\N<=gr/\N<=gm
 ne:gf≠gr
structure ImT (w:qw)(V:Array Value)(F R gf gr gm:Nat)(fz rz:qi)(W:qw):Prop where
 be:qY w W
 kl:Blk W w.heap.size V 65
 kr:Blk W (w.heap.size+1) (qV none 0 0 none 0 0 none 0 0) 39
 km:Blk W gm (qV (qP gf) F F (qP gr) R R none 0 0) 39
 f:OB W w.heap.size (qS (qP gf) F F) fz
 r:OB W w.heap.size (qS (qP gr) R R) rz
 lo:w.heap.size+1<gf/\w.heap.size+1<gr/\w.heap.size+1<gm
 ne:gf≠gr
structure It5 (w:qw)(V:Array Value)(F R gf gr gm gp:Nat)(PV:Array Value)(fz rz:qi)(W:qw):Prop where
 s:ImT w V F R gf gr gm fz rz W
 p:Blk W gp PV 170
section
variable {w:qw}{V:Array Value}{F R gf gr gm gp:Nat}{PV:Array Value}{fz rz:qi}{W W':qw}
def ImT.bw (h:ImT w V F R gf gr gm fz rz W)(a:qY W W'):ImT w V F R gf gr gm fz rz W':=⟨h.be.trans$ a.mono h.be.size,h.kl.bw a,h.kr.bw a,h.km.bw a,h.f.bw a,h.r.bw a,h.lo,h.ne⟩
def ImT.mf (h:ImT w V F R gf gr gm fz rz W):gm≠gf/\gm≠gr:=by
 let⟨d,a⟩:=kH h.f;let⟨c2,b⟩:=kH h.r;exact⟨λe=>by subst e;exact absurd (aH h.km a) Ja,λe=>by subst e;exact absurd (aH h.km b) Ja⟩
def ImT.setf (h:ImT w V F R gf gr gm fz rz W){a:qi}(O:OB W' w.heap.size (qS (qP gf) F F) a)(T:Turn (λj=>j=gf) W W'):ImT w V F R gf gr gm a rz W':=
 have f:=h.lo;have ne:=h.ne
 ⟨aG h.be T (λk e=>J) h.be.size,aD T h.kl J,aD T h.kr J,aD T h.km h.mf.1,O,aT T h.r (λk g e=>by simp[Value.ownBlock]at g;omega),f,ne⟩
def ImT.setr (h:ImT w V F R gf gr gm fz rz W){a:qi}(O:OB W' w.heap.size (qS (qP gr) R R) a)(T:Turn (λj=>j=gr) W W'):ImT w V F R gf gr gm fz a W':=
 have f:=h.lo;have ne:=h.ne
 ⟨aG h.be T (λk e=>J) h.be.size,aD T h.kl J,aD T h.kr J,aD T h.km h.mf.2,aT T h.f (λk g e=>by simp[Value.ownBlock]at g;omega),O,f,ne⟩
def It5.bw (h:It5 w V F R gf gr gm gp PV fz rz W)(a:qY W W'):It5 w V F R gf gr gm gp PV fz rz W':=⟨h.s.bw a,h.p.bw a⟩
def It5.drew (h:It5 w V F R gf gr gm gp PV fz rz W):It5 w V F R gf gr gm gp PV fz rz W.drew:=h.bw brf.drew
def It5.pf (h:It5 w V F R gf gr gm gp PV fz rz W):gp≠gf/\gp≠gr:=by
 let⟨d,a⟩:=kH h.s.f;let⟨c2,b⟩:=kH h.s.r;exact⟨λe=>by subst e;exact absurd (aH h.p a) Ja,λe=>by subst e;exact absurd (aH h.p b) Ja⟩
def It5.setf (h:It5 w V F R gf gr gm gp PV fz rz W){a:qi}(O:OB W' w.heap.size (qS (qP gf) F F) a)(T:Turn (λj=>j=gf) W W'):It5 w V F R gf gr gm gp PV a rz W':=⟨h.s.setf O T,aD T h.p h.pf.1⟩
def It5.setr (h:It5 w V F R gf gr gm gp PV fz rz W){a:qi}(O:OB W' w.heap.size (qS (qP gr) R R) a)(T:Turn (λj=>j=gr) W W'):It5 w V F R gf gr gm gp PV fz a W':=⟨h.s.setr O T,aD T h.p h.pf.2⟩
end
def aIs (a n aa ms L a1 c0 xs a2 c2 a5 c5 ts w)(h:MSD w a n aa ms)(hL:LyT w L a1 c0 xs a2 c2 a5 c5 ts):
 qC 184 #[qS a n aa,.agg$ qJ L a1 xs c0 a2 c2 a5 ts c5] w (ImM w (aF ms) L):=by
 have B0:qY w ((w.alloc$ .cells (qJ L a1 xs c0 a2 c2 a5 ts c5) 65).alloc$ .cells (qV none 0 0 none 0 0 none 0 0) 39):=bal.alloc Jb _;have kl:=(Blk.new w (qJ L a1 xs c0 a2 c2 a5 ts c5) 65).alloc$ .cells (qV none 0 0 none 0 0 none 0 0) 39;have kr:=Blk.new (w.alloc$ .cells (qJ L a1 xs c0 a2 c2 a5 ts c5) 65) (qV none 0 0 none 0 0 none 0 0) 39;try unfold qY at *
 simp only[xF]at kr;have av:=zb w λW hb=>aDx a n aa ms L a1 c0 xs a2 c2 a5 c5 ts W (h.bw hb)$ hL.bw hb;have HM:=zh h;have HL:=zh hL;clear h hL
 delta qC;go_in
 go_wp2_with fail
 apply(av _ B0).mono;rintro e w1 ⟨rfl,ah⟩;have B1:=yT B0 ah;have C:=kl.bw ah;have p:=kr.bw ah;clear B0 kl kr ah;by_cases y:Lok (aF ms) L
 .rw[xR y];have K:=mX y;obtain⟨F,G⟩:∃F:Nat,L.flash=(F:Int):=⟨L.flash.toNat,jK K.fr⟩;obtain⟨R,hR⟩:∃R:Nat,L.ram=(R:Int):=⟨L.ram.toNat,jK K.rr⟩;have aw:F<=16384:=jK K.fr;have ar:R<=16384:=jK K.rr;have c7:=aB0 F aw;have c6:=aB0 R ar;have x3:qn w1 w 3=qj (F:Int):=by rw[<-G];exact C.cell 3
  have x4:qn w1 w 4=qj (R:Int):=by rw[<-hR];exact C.cell 4
  have ce:w.heap.size<w1.heap.size:=C.lt;generalize bg:zby F=ZF at *;generalize bm:zby R=ZR at *;have HZ:=zh$ xA bg bm;clear bg bm;have bd:=zh$ xA B1$ xA C p;have ac:=zh$ xA G hR;have H:=zh K;have ax:=zh y;clear av;clear B1 C p G hR K y;go_wp2_with fail
  let⟨N,hN⟩:=aN$ w1.heap.size;have bb:N<=w1.heap.size:=J
  rename_i K hK;apply aWo (F:=λgf gr gm W=>Mk3 N w1 W ZF ZR F R gf gr gm) (S:=λgf gr gm W=>Exit.then K (bodyPost prog f184$ ImM w (aF ms) L) .normal ⟨#[qS a n aa,.agg$ qJ L a1 xs c0 a2 c2 a5 ts c5,undef,.pointer$ qp w,.pointer$ qP$ w.heap.size+1,.bool false,.pointer$ qP gm,undef,undef,qS a n aa,.agg$ qJ L a1 xs c0 a2 c2 a5 ts c5,.bool true,.bool false,undef,.pointer$ qe w.heap.size 3,qI (F:Int),qS (qP gf) F F,.pointer$ qe w.heap.size 4,qI (R:Int),qS (qP gr) R R,.agg$ qV (qP gf) F F (qP gr) R R none 0 0,undef,undef,undef,undef,undef,undef,undef,undef,undef,undef,undef,undef,undef,undef,undef,undef,undef,undef,undef,undef,undef,undef,undef,undef,undef,undef,undef,undef,undef,undef,undef],[]⟩ W)
  .intro b4;have bq:=zh b4;clear b4
   go_region_held3 (λd=>qn d w 3=qj (F:Int)/\qn d w 4=qj (R:Int)) ((refine xA ?_ ?_)<;>(repeat(first|exact x3|exact x4|apply zK|apply tZ|(apply aCf J)))) (fail)
   all_goals
    refine bq _ _ _ _ ?_;exact⟨(by repeat(first|with_reducible exact brf|with_reducible apply aG3|with_reducible apply aCg bb|with_reducible apply aKv J)),(by repeat(first|with_reducible apply jG|with_reducible exact jF (by simp only[xF,jC])|with_reducible apply dU|with_reducible apply eK J|with_reducible apply Blk.alloc)),(by repeat(first|with_reducible apply jG|with_reducible exact jF (by simp only[xF,jC])|with_reducible apply dU|with_reducible apply eK J|with_reducible apply Blk.alloc)),(by repeat(first|with_reducible apply jG|with_reducible exact jF (by simp only[xF,jC])|with_reducible apply dU|with_reducible apply eK J|with_reducible apply Blk.alloc)),J,J⟩
  .rintro gf gr gm W G;show Exit.then _ _ _ _ _
   subst hN;have c8:(aF ms).length=n:=by rw[cK];exact HM.o.s.1
   have:n<=4:=jK H.n
   have Y:=zh (show xs.length=n by
    have D:=congrArg List.length HL.ps;rw[H.o.pl]at D;simp at D
    omega)
   have:xs.length<=4:=jK Y.o
   have S0:ImT w (qJ L a1 xs c0 a2 c2 a5 ts c5) F R gf gr gm (flB (aF ms) L 0) (raB (aF ms) L 0) W:=by
    let⟨B1,C,p⟩:=bd.o;have D:=p.lt;have:=G.lo;have e1:flB (aF ms) L 0=List.replicate F 0:=by show List.replicate L.flash.toNat 0=_;rw[ac.o.1];rfl
    have e2:raB (aF ms) L 0=List.replicate R 0:=by show List.replicate L.ram.toNat 0=_;rw[ac.o.2];rfl
    rw[e1,e2];refine⟨yT B1 G.be,C.bw G.be,p.bw G.be,G.m,rY (by rw[HZ.o.1];exact G.f) J aw,rY (by rw[HZ.o.2];exact G.r) J ar,J,G.ne⟩
   have be:=zh S0;have O:=S0.kl.cell 0;simp only[List.getElem?_toArray,List.getElem?_cons_zero]at O;clear S0 G bd x3 x4 ce c7 c6 HZ bb;go_wp2;clear O;go_loopw [24] (λi wr=>∃m:Nat,m<=n/\i=qI m/\ImT w (qJ L a1 xs c0 a2 c2 a5 ts c5) F R gf gr gm (flB (aF ms) L m) (raB (aF ms) L m) wr) (qf n)
   .exact⟨0,xC _,rfl,be⟩
   .clear be;obtain⟨m,hm,rfl,S⟩:=hrel;generalize wr=g at *;by_cases bo:m<n
    .have cl:(m:Int)<(n:Int):=J
     have:(m:Int)<(xs.length:Int):=jK Y.o;obtain⟨b,a0,rfl,y0,y1,y2,y3,y4,y5,y6,y7⟩:=HM.s.at m bo;obtain⟨pb,po,rfl,z0,z1,z2,z3⟩:=HL.p.at m$ jK Y.o;have b9:=zh$ HL.p.2.2.2.1 m$ jK Y.o;have Q:=zh$ HM.d m bo;have ad:Zh ((aF ms).getD m zP=(ms.getD m aL).pm):=dB$ jK HM.s.1
     have au:=zh (show(xs.getD m zPB).1=plc (aF ms) m by
      rw[<-H.o.place m J,<-HL.o.ps,bR _ _ _ zPB _$ jK Y.o])
     have t:=zh$ H.at m J;have Z:Zh (flB (aF ms) L (m+1)=dF (flB (aF ms) L m) ((aF ms).getD m zP) (L.places.getD m zPB.1) ((aF ms).getD m zP).bl.length):=rfl;have a9:Zh (raB (aF ms) L (m+1)=kZ (ovr (raB (aF ms) L m) ((L.places.getD m zPB.1).data-65536).toNat ((aF ms).getD m zP).dz) ((L.places.getD m zPB.1).data-65536).toNat ((aF ms).getD m zP).rz (L.places.getD m zPB.1).data ((aF ms).getD m zP).rz.length):=rfl;have U:=zh$ H.v m J;rw[H.o.place m J,<-au.o,ad.o]at Z a9;rw[<-au.o,ad.o,ac.o.1,ac.o.2]at t;rw[ad.o]at U;clear ad au;generalize bh:flB (aF ms) L (m+1)=FZ at Z;generalize bf:raB (aF ms) L (m+1)=RZ at a9;have ag:=zh$ xA bh bf;clear bh bf;generalize flB (aF ms) L m=fz at *;generalize raB (aF ms) L m=rz at *;unfold svP at z1;generalize xs.getD m zPB=x at *;obtain⟨⟨xt,xb,xd,xz⟩,xa,xc⟩:=x;generalize ms.getD m aL=M at *;let⟨P,hP⟩:=aN$ M.pm;rw[<-hP]at Z a9 t U;have l:=zh (show P.tz=M.tz/\P.bl=M.bl.map (λB=>B.2.2.2)/\P.dz=M.dz/\P.rz=M.rz by rw[hP];exact⟨rfl,rfl,rfl,rfl⟩);clear hP;obtain⟨nm,ta,tn,tc,tz,ba,bn,bc,bl,da,dn,dc,dz,a3,ra,rn,rc,ab,ia,im,ic,ss,ea,en,ec,es⟩:=M;dsimp only at z0 z1 z2 z3 b9 Z a9 t Q l y0 y1 y2 y3 y4 y5 y6 y7;obtain⟨E,cj⟩:∃E:Nat,xt=(E:Int):=⟨xt.toNat,jK t.1.1⟩;obtain⟨f,hf⟩:∃f:Nat,xd=65536+(f:Int):=⟨(xd-65536).toNat,jK t.2.2.2.1⟩;subst cj hf;have u:Zh (IS w ta tn tc tz/\BKS w ba bn bc bl/\BS w da dn dc dz/\IS w ra rn rc ab):=zh ⟨Q.t,Q.b,Q.d,Q.r⟩;have b8:bl.length=bn:=u.2.1.1;have ch:tz.length=tn:=u.1.1;have cg:dz.length=dn:=u.2.2.1.1;have b7:ab.length=rn:=u.2.2.2.1;have bz:P.bl.length=bn:=by rw[l.o.2.1,xH];exact b8
     have bu:bn<=4:=by have D:=(cR U).2.2.2.1;omega
     have cb:rn<=16:=by
      have V:=nI (by simp[oI])$ show mdo P.nm P.tz.length P.tz P.bl.length (oI P.bl) P.dz.length P.bss P.rz.length P.rz P.ss.length P.ss P.es.length P.es=0 from U.o;have D:=V.r;rw[l.o.2.2.2]at D;omega
     have bv:f+dn<=R:=by
      have D:=t.2.2.2.2;rw[l.o.2.2.1]at D;omega
     have br:=zh (show ∀q,q<rn->0<=ab.getD q 0/\ab.getD q 0+4<=(dn:Int)from λq hq=>by
      have D:=aM0 U.o q (by rw[l.o.2.2.2];omega);rw[l.o.2.2.2,l.o.2.2.1]at D
      omega)
     have bi:=zh (λ(X:qw)(I:It5 w (qL L (qe pb po) xs.length c0 a2 L.slots.length c2 a5 ts.length c5) F R gf gr gm g.heap.size #[qI (E:Int),qS xa xb.length xc,qI$ 65536+(f:Int),qI xz] fz rz X)=>show qC 264 #[qS (qP gf) F F,.agg$ qM nm ta tn tc ba bn bc da dn dc a3 ra rn rc ia im ic ea en ec,.agg #[qI (E:Int),qS xa xb.length xc,qI$ 65536+(f:Int),qI xz]] X λe d=>e=.returned (.tuple #[])/\It5 w (qL L (qe pb po) xs.length c0 a2 L.slots.length c2 a5 ts.length c5) F R gf gr gm g.heap.size #[qI (E:Int),qS xa xb.length xc,qI$ 65536+(f:Int),qI xz] FZ rz d from
      (aFk gf F nm ta tn tc tz ba bn bc bl da dn dc a3 ra rn rc ia im ic ea en ec P E xa xb xc (65536+(f:Int)) xz fz w.heap.size X w u.o.1 u.o.2.1 l.o.1 l.o.2.1 b9.o I.s.be (jK I.s.lo) I.s.f aw bu (by have D:=t.o.1.2;rw[l.o.1]at D;omega) (by have D:=t.o.2.1;omega) (λj hj=>by
        have D:=t.2.2.1 j J;rw[l.o.2.1,iZ _ _ _ zB _]at D;rw[(u.o.2.1.2.2.2.1 j hj).1]at D
        exact D)).mono (λe d he=>⟨he.1,by rw[Z.o];exact I.setf he.2.1 he.2.2⟩))
     have af:=zh (λ(bp:qO)(a7:Nat)(c9:(f<R/\bp=qe gr f/\a7=R-f)\/(f=R/\bp=qP gr/\a7=0))(X:qw)(I:It5 w (qL L (qe pb po) xs.length c0 a2 L.slots.length c2 a5 ts.length c5) F R gf gr gm g.heap.size #[qI (E:Int),qS xa xb.length xc,qI$ 65536+(f:Int),qI xz] FZ rz X)=>show qC 265 #[qS bp a7 a7,.agg$ qM nm ta tn tc ba bn bc da dn dc a3 ra rn rc ia im ic ea en ec,qI$ 65536+(f:Int)] X λe d=>e=.returned (.tuple #[])/\It5 w (qL L (qe pb po) xs.length c0 a2 L.slots.length c2 a5 ts.length c5) F R gf gr gm g.heap.size #[qI (E:Int),qS xa xb.length xc,qI$ 65536+(f:Int),qI xz] FZ RZ d from
      (aFj gr R f bp a7 nm ta tn tc ba bn bc da dn dc dz a3 ra rn rc ab ia im ic ea en ec rz w.heap.size X w u.2.2.1 u.2.2.2 I.s.be (jK I.s.lo) I.s.r ar cb bv br c9).mono (λe d he=>⟨he.1,by
        rw[a9.o,l.o.2.2.1,l.o.2.2.2,b7,show((65536:Int)+(f:Int)-65536).toNat=f from J]
        exact I.setr he.2.1 he.2.2⟩))
     have I1:It5 w (qL L (qe pb po) xs.length c0 a2 L.slots.length c2 a5 ts.length c5) F R gf gr gm g.heap.size #[qI (E:Int),qS xa xb.length xc,qI$ 65536+(f:Int),qI xz] fz rz (g.alloc$ .cells #[qI (E:Int),qS xa xb.length xc,qI$ 65536+(f:Int),qI xz] 170):=⟨S.bw$ show qY g (g.alloc$ .cells #[qI (E:Int),qS xa xb.length xc,qI$ 65536+(f:Int),qI xz] 170)from bal,Blk.new _ _ _⟩;have ay:=zh I1;have cc:=aB S.be z0;have ca:=aB S.be z1;have c1:=aB S.be z2;have cd:=aB S.be z3
     have ae:=zh (λ(fz rz:qi)(X:qw)(I:It5 w (qL L (qe pb po) xs.length c0 a2 L.slots.length c2 a5 ts.length c5) F R gf gr gm g.heap.size #[qI (E:Int),qS xa xb.length xc,qI$ 65536+(f:Int),qI xz] fz rz X)=>show(qN X b (a0+m*8)=some (.string nm)/\qN X b (a0+m*8+1)=qk ta tn tc/\qN X b (a0+m*8+2)=qk ba bn bc/\qN X b (a0+m*8+3)=qk da dn dc/\qN X b (a0+m*8+4)=qj a3/\qN X b (a0+m*8+5)=qk ra rn rc/\qN X b (a0+m*8+6)=qk ia im ic/\qN X b (a0+m*8+7)=qk ea en ec)/\(qn X g 0=qj (E:Int)/\qn X g 1=qk xa xb.length xc/\qn X g 2=qj (65536+(f:Int))/\qn X g 3=qj xz)/\qN X gm 0=qk (qP gf) F F/\qN X gm 1=qk (qP gr) R R from
      ⟨⟨aB I.s.be y0,aB I.s.be y1,aB I.s.be y2,aB I.s.be y3,aB I.s.be y4,aB I.s.be y5,aB I.s.be y6,aB I.s.be y7⟩,⟨I.p.cell 0,I.p.cell 1,I.p.cell 2,I.p.cell 3⟩,I.s.km.cell 0,I.s.km.cell 1⟩)
     clear S I1 t U l Q b8 ch cg b7 bz;go_wp2_with fail
     generalize c3:g.alloc (.cells #[qI (E:Int),qS xa xb.length xc,qI$ 65536+(f:Int),qI xz] 170)=W1 at *;clear c3 cc ca c1 cd;let⟨⟨v0,v1,v2,v3,v4,v5,v6,v7⟩,⟨p0,p1,p2,p3⟩,q0,q1⟩:=ae _ _ _ ay
     go_region_held3 (λd=>qN d gm 0=qk (qP gf) F F/\qN d b (a0+m*8)=some (.string nm)/\qN d b (a0+m*8+1)=qk ta tn tc/\qN d b (a0+m*8+2)=qk ba bn bc/\qN d b (a0+m*8+3)=qk da dn dc/\qN d b (a0+m*8+4)=qj a3/\qN d b (a0+m*8+5)=qk ra rn rc/\qN d b (a0+m*8+6)=qk ia im ic/\qN d b (a0+m*8+7)=qk ea en ec/\qn d g 0=qj (E:Int)/\qn d g 1=qk xa xb.length xc/\qn d g 2=qj (65536+(f:Int))/\qn d g 3=qj xz) (go_keep)
      (first
        | (go_at_call 264;first
            | with_reducible refine(bi.o _ ay.o).mono ?_
            | with_reducible refine(bi.o _ ay.o.drew).mono ?_
           rintro e w2 ⟨rfl,bk⟩;have a4:=zh bk;clear bk
           let⟨⟨r0,r1,r2,r3,r4,r5,r6,r7⟩,⟨t0,t1,t2,t3⟩,u0,u1⟩:=ae _ _ _ a4))
     clear v0 v1 v2 v3 v4 v5 v6 v7 p0 p1 p2 p3 q0 q1 u0;have bj:(65536:Int)+(f:Int)-65536=(f:Int):=J
     have b6:IntKind.i64.wrap ((65536:Int)+(f:Int)-65536)=(f:Int):=by rw[xP,xQ _ J];omega
     have b5:IntKind.i64.wrap (f:Int)=(f:Int):=by rw[xP,xQ _ J]
     have:(0:Int)<=(f:Int):=J
     have:(f:Int)<=(R:Int):=J
     by_cases c4:f<R
     .have ck:(f:Int)<(R:Int):=J
      have:¬(R=f):=J
      have A:=zh$ af (qe gr f) (R-f)$ .inl ⟨c4,rfl,rfl⟩;clear af;go_wp2_with fail
      go_region_held3 (λd=>qN d gm 1=qk (qP gr) R R/\qN d b (a0+m*8)=some (.string nm)/\qN d b (a0+m*8+1)=qk ta tn tc/\qN d b (a0+m*8+2)=qk ba bn bc/\qN d b (a0+m*8+3)=qk da dn dc/\qN d b (a0+m*8+4)=qj a3/\qN d b (a0+m*8+5)=qk ra rn rc/\qN d b (a0+m*8+6)=qk ia im ic/\qN d b (a0+m*8+7)=qk ea en ec/\qn d g 2=qj (65536+(f:Int))) (go_keep)
       (first
         | (go_at_call 265;first
             | with_reducible refine(A.o _ a4.o).mono ?_
             | with_reducible refine(A.o _ a4.o.drew).mono ?_
            rintro e w3 ⟨rfl,a6⟩;have a8:=zh a6;clear a6
            let⟨⟨ai,aj,ak,am,an,ao,ap,aq⟩,⟨az,b0,b1,b2⟩,O,b3⟩:=ae _ _ _ a8))
      clear ai aj ak am an ao ap aq az b0 b1 b2 O b3 r0 r1 r2 r3 r4 r5 r6 r7 t0 t1 t2 t3 u1 bj b6 b5;go_wp2
      go_roundw
      .exact⟨m+1,J,by go_num,by rw[ag.o.1,ag.o.2];exact a8.o.s⟩
      .simp[qf,intOf];omega
     .obtain rfl:R=f:=J
      have A:=zh$ af (qP gr) 0$ .inr ⟨rfl,rfl,rfl⟩;clear af;go_wp2_with fail
      go_region_held3 (λd=>qN d gm 1=qk (qP gr) R R/\qN d b (a0+m*8)=some (.string nm)/\qN d b (a0+m*8+1)=qk ta tn tc/\qN d b (a0+m*8+2)=qk ba bn bc/\qN d b (a0+m*8+3)=qk da dn dc/\qN d b (a0+m*8+4)=qj a3/\qN d b (a0+m*8+5)=qk ra rn rc/\qN d b (a0+m*8+6)=qk ia im ic/\qN d b (a0+m*8+7)=qk ea en ec/\qn d g 2=qj (65536+(R:Int))) (go_keep)
       (first
         | (go_at_call 265;first
             | with_reducible refine(A.o _ a4.o).mono ?_
             | with_reducible refine(A.o _ a4.o.drew).mono ?_
            rintro e w3 ⟨rfl,a6⟩;have a8:=zh a6;clear a6
            let⟨⟨ai,aj,ak,am,an,ao,ap,aq⟩,⟨az,b0,b1,b2⟩,O,b3⟩:=ae _ _ _ a8))
      clear ai aj ak am an ao ap aq az b0 b1 b2 O b3 r0 r1 r2 r3 r4 r5 r6 r7 t0 t1 t2 t3 u1 bj b6 b5;go_wp2
      go_roundw
      .exact⟨m+1,J,by go_num,by rw[ag.o.1,ag.o.2];exact a8.o.s⟩
      .simp[qf,intOf];omega
    .have e:Zh (m=n):=by show m=n;omega
     obtain⟨q0,q1,q2⟩:g.cell? ⟨gm,0,none⟩=qk (qP gf) F F/\g.cell? ⟨gm,1,none⟩=qk (qP gr) R R/\g.cell? ⟨gm,2,none⟩=qk none 0 0:=⟨S.km.cell 0,S.km.cell 1,S.km.cell 2⟩;obtain⟨p0,p1,p2⟩:g.cell? ⟨w.heap.size+1,0,none⟩=qk none 0 0/\g.cell? ⟨w.heap.size+1,1,none⟩=qk none 0 0/\g.cell? ⟨w.heap.size+1,2,none⟩=qk none 0 0:=⟨S.kr.cell 0,S.kr.cell 1,S.kr.cell 2⟩;have pf:=S.kr.frozen;have:¬((m:Int)<(xs.length:Int)):=jK Y.o;have T:Turn (λj=>j=w.heap.size+1) g (((g.setCell (qr w 0)$ qS (qP gf) F F).setCell (qr w 1)$ qS (qP gr) R R).setCell (qr w 2)$ qS none 0 0):=((aC _ _ _ _).trans$ aC _ _ _ _).trans$ aC _ _ _ _
     have HE:=zh (show ImM w (aF ms) L (.returned$ .tuple #[.agg$ qV (qP gf) F F (qP gr) R R none 0 0,.bool true]) (((g.setCell (qr w 0)$ qS (qP gf) F F).setCell (qr w 1)$ qS (qP gr) R R).setCell (qr w 2)$ qS none 0 0)by
      have:=S.lo;refine⟨aG S.be T (λk e=>J) S.be.size,qP gf,F,F,qP gr,R,R,none,0,0,by rw[xR ax.o],?_⟩;unfold imF imR;rw[if_pos ax.o,if_pos ax.o,c8,<-e.o];refine⟨aT T S.f (λk hk s=>by simp[Value.ownBlock]at hk;omega),aT T S.r (λk hk s=>by simp[Value.ownBlock]at hk;omega),⟨⟨rfl,.inl ⟨rfl,rfl⟩⟩,Jb⟩,?_,?_,?_⟩
      all_goals
       intro k hk;have:=S.ne;simp[Value.ownBlock]at hk⊢
       try omega)
     have k3:=dU (v0:=qS (qP gf) F F) (v1:=qS (qP gr) R R) (v2:=qS none 0 0) S.kr;have s0:=k3.cell 0;have s1:=k3.cell 1;have s2:=k3.cell 2;simp only[List.getElem?_toArray,List.getElem?_cons_zero,List.getElem?_cons_succ]at s0 s1 s2;clear S T k3;go_wp2;exact bodyPost_ret (v:=.tuple #[.agg$ qV (qP gf) F F (qP gr) R R none 0 0,.bool true]) (by simp[results,results184,go_sem,s0,s1,s2]) rfl HE.o
 .rw[xS y]
  have HE:=zh (show ∀W',qY w W'->ImM w (aF ms) L (.returned$ .tuple #[.agg$ qV none 0 0 none 0 0 none 0 0,.bool false]) W' from λW' hb=>by
   refine⟨hb,none,0,0,none,0,0,none,0,0,by rw[xS y],?_⟩;unfold imF imR;rw[if_neg y,if_neg y];refine⟨⟨⟨rfl,.inl ⟨rfl,rfl⟩⟩,Jb⟩,⟨⟨rfl,.inl ⟨rfl,rfl⟩⟩,Jb⟩,⟨⟨rfl,.inl ⟨rfl,rfl⟩⟩,Jb⟩,?_,?_,?_⟩
   all_goals
    intro k hk
    simp[Value.ownBlock]at hk)
  have k3:=dU (v0:=qS none 0 0) (v1:=qS none 0 0) (v2:=qS none 0 0) p;have s0:=k3.cell 0;have s1:=k3.cell 1;have s2:=k3.cell 2;simp only[List.getElem?_toArray,List.getElem?_cons_zero,List.getElem?_cons_succ]at s0 s1 s2;have T:Turn (λj=>j=w.heap.size+1) w1 (((w1.setCell (qr w 0)$ qS none 0 0).setCell (qr w 1)$ qS none 0 0).setCell (qr w 2)$ qS none 0 0):=((aC _ _ _ _).trans$ aC _ _ _ _).trans$ aC _ _ _ _;have HB:=zh$ aG B1 T (λk e=>J) B1.size;obtain⟨p0,p1,p2⟩:w1.cell? ⟨w.heap.size+1,0,none⟩=qk none 0 0/\w1.cell? ⟨w.heap.size+1,1,none⟩=qk none 0 0/\w1.cell? ⟨w.heap.size+1,2,none⟩=qk none 0 0:=⟨p.cell 0,p.cell 1,p.cell 2⟩;have pf:=p.frozen;clear T k3 C p B1 y av HM HL;go_wp2;exact bodyPost_ret (v:=.tuple #[.agg$ qV none 0 0 none 0 0 none 0 0,.bool false]) (by simp[results,results184,go_sem,s0,s1,s2]) rfl$ HE.o _ HB.o
def vG (n)(h:-9223372036854775808<=n/\n<=9223372036854775807:=by omega):wrap64 n=n:=by unfold wrap64;omega
def dZ:lkc ps s w k d=0 ↔ cfo s w k d=true/\1<=ps.length/\ps.length<=4/\jH ps/\nms ps/\oH ps/\(0<s->oV ps w)/\(lay ps s w k).flash<=16384/\(lay ps s w k).ram<=16384:=by
 constructor
 .intro h;unfold lkc fE at h;by_cases b:cfo s w k d=false
  .grind
  rw[if_neg b]at h;by_cases c2:ps.length<1\/4<ps.length
  .grind
  rw[if_neg c2]at h;by_cases y:¬jH ps
  .grind
  rw[if_neg y]at h;by_cases A:¬nms ps
  .grind
  rw[if_neg A,if_neg Jb]at h;by_cases i:¬oH ps
  .grind
  rw[if_neg i]at h;by_cases a:0<s/\¬oV ps w
  .rw[if_pos a]at h;simp at h
  rw[if_neg a]at h
  grind
 .rintro⟨x,p,j,f,g,t,u,l,q⟩;have:fE ps s w k d=0:=by unfold fE;rw[if_neg (by grind),if_neg J,if_neg (λe=>e f),if_neg (λe=>e g)]
  unfold lkc
  grind
def aVx {w':Int}(h:s=0\/rnd (4*w)=rnd (4*w')):lay ps s w k=lay ps s w' k:=by
 rcases h with rfl|h
 .simp[lay]
 .have e:slt ps w k=slt ps w' k:=by funext i;unfold slt;rw[h]
  unfold lay
  grind
def aIb (h:lkc ps s w k d=0):Lok ps (lay ps s w k):=by
 let⟨D,E,F,y,G,H,I,K,M⟩:=dZ.1 h;have hc:=D;unfold cfo at hc;simp at hc;have:=bL y ps.length aO;have:=bC (x:=4*w);have q:(lay ps s w k).ram=Ra ps ps.length+k+(s.toNat:Int)*rnd (4*w):=rfl;have p:(lay ps s w k).stack=65536+Ra ps ps.length:=rfl;have f:(lay ps s w k).slots.length=s.toNat:=by simp[lay]
 have main:∀b,cfW (lay ps s w k)=b->(s=0\/rnd (4*w)=rnd (4*b))->1<=b->b<=64->(0<s->w<=b)->cfK (lay ps s w k)=k->Lok ps (lay ps s w k):=by
  intro b e1 e2 e3 e4 e5 e6;have B:=aVx (ps:=ps) (k:=k) e2;have hs:((s.toNat:Nat):Int)=s:=J
  have C:lkc ps s b k 0=0:=dZ.2 ⟨by unfold cfo;simp;omega,E,F,y,G,H,λhs i hi j t=>Int.le_trans (I hs i hi j t)$ e5 hs,by grind,by grind⟩;unfold Lok;rw[f,hs,e1,e6];exact⟨C,by unfold lkL;rw[if_pos C,B]⟩
 by_cases c:s=0
 .subst c;have e0:(lay ps 0 w k).slots=[]:=by grind
  have g:(lay ps 0 w k).ram=Ra ps ps.length+k:=by grind
  refine main 1 (by unfold cfW;rw[if_pos e0]) (.inl rfl) J J (λh=>absurd h J) ?_;unfold cfK cW;rw[if_pos e0,g,p,vG$ 65536+(Ra ps ps.length+k),vG _];omega
 .have u:0<s.toNat:=J
  have a:¬(lay ps s w k).slots=[]:=λe=>by rw[e]at f;simp at f;omega
  have e0:(lay ps s w k).slots.getD 0 0=65536+Ra ps ps.length+k:=by
   simp[lay,xB,u,slt]
  have:(s.toNat:Int)*rnd (4*w)<=4*287:=Int.mul_le_mul J J J J;have:(0:Int)<=(s.toNat:Int)*rnd (4*w):=Int.mul_nonneg J J
  have A:cfQ (lay ps s w k)=rnd (4*w):=by
   unfold cfQ;rw[q,e0,f,vG$ 65536+_,vG$ 65536+_-_,show 65536+(Ra ps ps.length+k+(s.toNat:Int)*rnd (4*w))-(65536+Ra ps ps.length+k)=rnd (4*w)*(s.toNat:Int)by rw[Int.mul_comm$ rnd$ 4*w];omega,Int.mul_tdiv_cancel _ J,vG _]
  have l:rnd (4*w)=(4*w+31)/32*32:=rfl;refine main (rnd (4*w)/4) ?_ (.inr ?_) J J (λ_=>J) ?_
  .unfold cfW;rw[if_neg a,A,Int.tdiv_eq_ediv_of_nonneg J,vG _]
  .rw[l];unfold rnd;omega
  .unfold cfK cW;rw[if_neg a,e0,p,vG _];omega
def eA (i:Int):Int:=if 32768<=i then i-65536 else i
def lF (i)(a:0<=i)(e:i<=65535):-32768<=eA i/\eA i<=32767:=by unfold eA;split<;>omega
def lW (i w)(a:0<=i)(f:i<=65535):
 qC 132 #[qI i] w λe w'=>e=.returned (qI$ eA i)/\w=w':=by
 unfold eA;by_cases h:32768<=i
 .rw[if_pos h]
  delta qC;go_in
  go_wp2;go_ret;exact⟨rfl,rfl⟩
 .rw[if_neg h]
  delta qC;go_in
  go_wp2;go_ret;exact⟨rfl,rfl⟩
def ev (op i nx:Int):Int×Int:=if op=1 then (1,0) else if op=23 then (2,(nx+4*eA i)%4294967296) else if op=24 then (3,i) else if op=25 then (4,0) else (0,0)
def aF9 (op d a i nx w)(f:0<=i)(g:i<=65535)(D:0<=nx)(n1:nx<=4294967295):
 qC 128 #[.agg$ qW op d a i,qI nx] w (qB w$ .tuple #[qI (ev op i nx).1,qI (ev op i nx).2]):=by
 by_cases b:op=1
 .subst b
  delta qC;go_in
  go_wp2
  go_ret2
  exact⟨rfl,bal⟩
 .by_cases c2:op=23
  .subst c2;have:=lF i f g;have t:=zh λw=>lW i w f g;have e:ev 23 i nx=(2,(nx+4*eA i)%4294967296):=rfl;rw[e];generalize eA i=x at *;have p:=zh λw=>dR (nx+4*x) w J;clear e
   delta qC;go_in
   go_wp2_with (first|(go_at_call 132;refine(t.o _).mono ?_;rintro e u ⟨rfl,rfl⟩)|(go_at_call 116;refine(p.o _).mono ?_;rintro e u ⟨rfl,rfl⟩))
   go_ret2
   exact⟨rfl,bal⟩
  .by_cases k:op=24
   .subst k;have l:qY w (w.alloc$ .cells (qW 24 d a i) 186):=bal;have j:=zh l;clear l
    delta qC;go_in
    go_wp2
    go_region
    all_goals(try go_wp2)
    all_goals
     go_ret2
     exact⟨rfl,by first|exact j|exact j.drew⟩
   .by_cases s:op=25
    .subst s
     delta qC;go_in
     go_wp2
     go_ret2
     exact⟨rfl,bal⟩
    .have q:Zh (ev op i nx=(0,0)):=by show _=_;unfold ev;rw[if_neg b,if_neg c2,if_neg k,if_neg s]
     have:(op==1)=false:=by simpa using b
     have:(op==23)=false:=by simpa using c2
     have:(op==24)=false:=by simpa using k
     have:(op==25)=false:=by simpa using s
     rw[q.o];clear b c2 k s
     delta qC;go_in
     go_wp2
     go_ret2
     exact⟨rfl,bal⟩
def jmp (op d:Int):Bool:=decide$ op=20\/(op=21/\d=0)\/(op=22/\2147483648<=d)
def aF7 (op d a i x w):
 qC 131 #[.agg$ qW op d a i,qI x] w (qB w$ .bool$ jmp op x):=by
 by_cases b:op=20
 .subst b
  delta qC;go_in
  go_wp2;go_ret;exact⟨aA (by simp[jmp]),bal⟩
 .by_cases c2:op=21
  .subst c2
   delta qC;go_in
   go_wp2
   all_goals
    go_ret;refine⟨aA ?_,bal⟩;rw[xJ];simp[jmp];try omega
  .by_cases f:op=22
   .subst f
    delta qC;go_in
    go_wp2
    all_goals
     go_ret;refine⟨aA ?_,bal⟩;rw[xJ];simp[jmp]
   .have j:(op==20)=false:=by simpa using b
    have:(op==21)=false:=by simpa using c2
    have:(op==22)=false:=by simpa using f
    have e:Zh (jmp op x=false):=by show _=_;simp[jmp];omega
    clear b c2 f
    delta qC;go_in
    go_wp2;go_ret;exact⟨aA e.symm,bal⟩
def lJ (a n c xs m b w)(h:QS cM zSl w a n c xs):
 qC 192 #[qS a n c,qI m,qI b] w (qB w$ qI$ hld xs m b):=by
 have:=h.1;have t:=h.2.1;unfold maxLen at t;let⟨r,I⟩:=aN$ hld xs m b;rw[<-I];have E:=zh I;clear I
 delta qC;go_in
 go_wp2;go_loopw [11] (λi wr=>∃k:Nat,k<=n/\i=qI k/\Hid (r=gS m b k (xs.drop k))/\qY w wr) (qf n)
 .exact⟨0,xC _,rfl,E,brf⟩
 .obtain⟨k,G,rfl,q,p⟩:=hrel;clear E;by_cases u:k<n
  .have D:(k:Int)<(n:Int):=J
   obtain⟨g,f,rfl,P,Q,R,S⟩:=(h.bw p).at k u _ _ _ _ rfl;have y:=zh λhu=>aGj (m:=m) (b:=b) (show k<xs.length from J) hu;have A:=zh λhu=>aB6 (m:=m) (b:=b) (show k<xs.length from J) hu;generalize xs.getD k zSl=x at *;obtain⟨F,d,H,K⟩:=x;have l:=zh$ p.alloc p.size$ .cells #[.bool F,qI d,qI H,qI K] 132;clear p h;by_cases hu:usd m b (F,d,H,K)
   .have e:=zh (show r=k by rw[q.out];exact y.o hu);obtain⟨M,N,O⟩:=hu;subst M N O;clear y A;go_wp2;go_ret;exact⟨aJ e.symm,l⟩
   .have C:=zh (show r=gS m b (k+1) (xs.drop$ k+1)by rw[q.out];exact A.o hu);have j:¬(F=true/\d=m/\H=b):=hu;clear y A q hu;cases F with
    | false=>
      clear j;go_wp2
      go_roundw
      .exact⟨k+1,J,by go_num,C,l⟩
      .simp[qf,intOf];omega
    | true=>
      by_cases s:d=m
      .have c2:(H==b)=false:=by simp;exact λe=>j ⟨rfl,s,e⟩
       have B:(d==m)=true:=by simp[s]
       clear j s;go_wp2
       go_roundw
       .exact⟨k+1,J,by go_num,C,l⟩
       .simp[qf,intOf];omega
      .have B:(d==m)=false:=by simp[s]
       clear j s;go_wp2
       go_roundw
       .exact⟨k+1,J,by go_num,C,l⟩
       .simp[qf,intOf];omega
  .have e:=zh (show r=-1 by rw[q.out,List.drop_eq_nil_of_le J];rfl);have l:=zh p;clear p;go_wp2;go_ret;exact⟨aJ e.symm,l⟩
def dQ (a n c xs m b w)(h:QS cM zSl w a n c xs):
 qC 74 #[qS a n c,qI m,qI b] w (qB w$ qI$ hld xs m b):=by
 have:=h.1;have t:=h.2.1;unfold maxLen at t;let⟨r,F⟩:=aN$ hld xs m b;rw[<-F];have E:=zh F;clear F
 delta qC;go_in
 go_wp2;go_loopw [7] (λi wr=>∃k:Nat,k<=n/\i=qI k/\Hid (r=gS m b k (xs.drop k))/\qY w wr) (qf n)
 .exact⟨0,xC _,rfl,E,brf⟩
 .obtain⟨k,G,rfl,q,p⟩:=hrel;clear E;by_cases u:k<n
  .have D:(k:Int)<(n:Int):=J
   obtain⟨g,f,rfl,Q,R,S,O⟩:=(h.bw p).at k u _ _ _ _ rfl;have y:=zh λhu=>aGj (m:=m) (b:=b) (show k<xs.length from J) hu;have A:=zh λhu=>aB6 (m:=m) (b:=b) (show k<xs.length from J) hu;generalize xs.getD k zSl=x at *;obtain⟨H,s,I,P⟩:=x;have l:=zh p;clear p h O;by_cases hu:usd m b (H,s,I,P)
   .have e:=zh (show r=k by rw[q.out];exact y.o hu);obtain⟨K,M,N⟩:=hu;subst K M N;clear y A;go_wp2;go_ret;exact⟨aJ e.symm,l⟩
   .have C:=zh (show r=gS m b (k+1) (xs.drop$ k+1)by rw[q.out];exact A.o hu);have j:¬(H=true/\s=m/\I=b):=hu;clear y A q hu;cases H with
    | false=>
      clear j;go_wp2
      go_roundw
      .exact⟨k+1,J,by go_num,C,l⟩
      .simp[qf,intOf];omega
    | true=>
      by_cases d:s=m
      .have c2:(I==b)=false:=by simp;exact λe=>j ⟨rfl,d,e⟩
       have B:(s==m)=true:=by simp[d]
       clear j d;go_wp2
       go_roundw
       .exact⟨k+1,J,by go_num,C,l⟩
       .simp[qf,intOf];omega
      .have B:(s==m)=false:=by simp[d]
       clear j d;go_wp2
       go_roundw
       .exact⟨k+1,J,by go_num,C,l⟩
       .simp[qf,intOf];omega
  .have e:=zh (show r=-1 by rw[q.out,List.drop_eq_nil_of_le J];rfl);have l:=zh p;clear p;go_wp2;go_ret;exact⟨aJ e.symm,l⟩
def aQv {w:qw}{a n g:Nat}{rs:List Rg}(h:RS w (some$ qR b a) n g rs):∀j u,(fI rs)[j]?=some u->w.cell? (((qR b a):Addr).add j)=some u:=by
 intro j u l;have:=h.1
 have f:j<(fI rs).length:=by
  grind
 rw[tE]at f;have p:j/6<rs.length:=J
 have i:j%6<6:=Nat.mod_lt _ J;have e:=tG rs (j/6) (j%6) p i;rw[show j/6*6+j%6=j from J,l]at e;let⟨d,k,s,t,x,y⟩:=h.at (j/6) J;rw[cI,show a+j=a+j/6*6+j%6 from J];rw[e];generalize rs.getD (j/6) z6=G at *;generalize j/6=q at *;have c:j%6=0\/j%6=1\/j%6=2\/j%6=3\/j%6=4\/j%6=5:=J
 rcases c with c|c|c|c|c|c<;>rw[c]
 .exact d
 .exact k
 .exact s
 .exact t
 .exact x
 .exact y
def aMp (rs):∀u∈fI rs,u.oneCell'=true:=by
 intro u hu;simp only[fI,List.mem_flatMap]at hu;obtain⟨g,_,a⟩:=hu;exact aRi g u a
def aPs (xs ys):fI (xs++ys)=fI xs++fI ys:=by simp[fI]
abbrev Spn:=Int×Int×Bool×Bool×Bool
def spR (p:Spn):List Rg:=rts p.2.2.1 p.2.2.2.1 p.2.2.2.2$ cvL p.1 p.2.1
def zSp:Spn:=(0,0,false,false,false)
def At5 (w:qw)(b o:Nat)(p:Spn):Prop:=
 w.cell? (qR b o)=some (qI p.1)/\w.cell? (qR b$ o+1)=some (qI p.2.1)/\w.cell? (qR b$ o+2)=some (.bool p.2.2.1) /\
 w.cell? (qR b$ o+3)=some (.bool p.2.2.2.1)/\w.cell? (qR b$ o+4)=some (.bool p.2.2.2.2)
def At5.bw {w w':qw}{o:Nat}{p:Spn}(h:At5 w b o p)(e:qY w w'):At5 w' b o p:=by
 obtain⟨d,f,g,i,j⟩:=h;have a:b<qs w:=xD w _ d;unfold At5;rw[e.cell (p:=(qR b o)) a,e.cell (p:=(qR b$ o+1)) a,e.cell (p:=(qR b$ o+2)) a,e.cell (p:=(qR b$ o+3)) a,e.cell (p:=(qR b$ o+4)) a]
 grind
def aJw (p):(spR p).length<=8192:=by unfold spR;rw[jN];exact vD _ _
def aQp (ss:List Spn):(ss.flatMap spR).length<=8192*ss.length:=by
 induction ss with
 | nil=>simp
 | cons p ss ih=>have:=aJw p;simp only[xT,xI,List.length_cons];omega
def aNg (ss:List Spn)(k)(h:k<ss.length):(ss.take$ k+1).flatMap spR=(ss.take k).flatMap spR++spR (ss.getD k zSp):=by
 rw[List.take_add_one,xU];congr 1;simp[xB,h]
def aIo (b a2 n aa)(ss:List Spn)(w)(hn:ss.length=n)(ah:n<=4)(hw:∀i,i<n->wfi (ss.getD i zSp).1/\wfi (ss.getD i zSp).2.1)(h:∀i,i<n->At5 w b (a2+i*5) (ss.getD i zSp)):
 qC 196 #[qS (some$ qR b a2) n aa] w λe w'=>∃A m a,e=.returned (qS A m a)/\m=(ss.flatMap spR).length/\ORg w' w.heap.size (qS A m a) (ss.flatMap spR)/\qY w w':=by
 let⟨i0,hi,ac,ae,af⟩:=info_parts aKi;have HA:=zh h;have HW:=zh hw;have HN:=zh hn;clear h hw hn
 delta qC;go_in
 go_wp2;go_loopw [3,8] (λo i wr=>∃(A:qO) (m a k:Nat),k<=n/\o=qS A m a/\i=qI k/\ORg wr w.heap.size (qS A m a) ((ss.take k).flatMap spR)/\qY w wr) (λ_ i _=>n-(intOf i).toNat)
 .exact⟨none,0,0,0,xC _,rfl,rfl,uX _ _,brf⟩
 .obtain⟨A,m,a,k,hk,rfl,rfl,t,P⟩:=hrel;by_cases K:k<n
  .have ag:(k:Int)<(n:Int):=J
   let⟨p0,p1,p2,p3,p4⟩:=(HA k K).bw P;have HT:=zh (aNg ss k (by rw[HN.o];exact K));have E:=HW k K;generalize ss.getD k zSp=G at *;obtain⟨f,s,r,x,y⟩:=G;let⟨V,W⟩:=aN$ wr.alloc$ .cells #[qI f,qI s,.bool r,.bool x,.bool y] 252;have O:Blk V wr.heap.size #[qI f,qI s,.bool r,.bool x,.bool y] 252:=by rw[W];exact Blk.new _ _ _
   have R:qY wr V:=by rw[W];exact bal
   have e0:=O.e0;have e1:=O.e1;have e2:=O.e2;have e3:=O.e3;have e4:=O.e4;have HR:=zh$ aFi f s r x y V E.1 E.2;have HO:=zh$ gF (aI R) t λ_ _ h=>h;have S:=zh (eM t).1;have a5:=zh (show m<=32768 by have C:=aQp$ ss.take k;rw[(eM t).1,List.length_take,HN.o]at C;omega);have ai:=zh$ aJ9 t;have a9:=zh$ yT P R;have U:Zh (w.heap.size<=V.heap.size):=xM P.size R.size;have HV:=zh W;have a8:=zh λj Z=>vX t j Z;clear W O R t P E;go_wp2_with (rw[<-HV.o])
   apply HR.mono;rintro e w3 ⟨X,q,qc,rfl,hX,D,l⟩;have Q:=zh (show q<=8192 by have C:=aJw (f,s,r,x,y);have h2:=hX.1;unfold spR at C;simp only at C;omega);have N:=zh$ gF (aI l) HO λ_ _ h=>h;have a6:=zh$ a9.trans$ l.mono U;have a3:Zh (w.heap.size<=qs w3):=xM U l.size;have p:=zh hX;have Y:=zh D;clear hX D l;have a1:=zh (show w3.ownsRow (qs w) 231 6 (qS A m a) m (fI$ (ss.take k).flatMap spR)by have:=N.o.1;rwa[S.o]at this);have H:Zh (spR (f,s,r,x,y)=rts r x y (cvL f s)):=rfl;have a0:=zh p.2.2.1;let⟨M,hM⟩:=aN$ rts r x y$ cvL f s;rw[<-hM]at p H a0;have a7:=zh (show(fI M).length=q*6 by rw[tE,p.o.1]);have a4:=zh$ aMp M;clear hM
   match X with
   | none=>
     obtain⟨rfl,rfl⟩:=Y rfl;go_wp2_with (at_builtin;refine wpList_append_own_none rfl _ _ 118 rfl (qs w) 231 i0 6 underlying118 hi (qS A m a) m (fI$ (ss.take k).flatMap spR) rfl a1.o rfl ?_)
     refine⟨⟨A,m,a,k+1,J,rfl,by go_num,?_,a6.o⟩,by simp[intOf];omega⟩;rw[HT.o,H.o,xE p.o.1,List.append_nil];exact N
   | some ad=>
     have I:=zh (show ∀j u,(fI M)[j]?=some u->w3.cell? (ad.add j)=some u by
      by_cases hq:q=0
      .have e:M=[]:=xE$ p.o.1 ▸ hq;rw[e];intro j u Z;simp[fI]at Z
      .have⟨b',aj,d⟩:=p.some hq;injection d with d
       subst d
       exact aQv p)
     go_wp2_with (at_builtin;refine wpList_append_own _ rfl _ _ 118 rfl (qs w) 231 i0 (.agg #[qI 0,qI 0,qI 0,.bool false,.bool false,.bool false]) 6 32 underlying118 hi ac ae af rfl Ja (qS A m a) m (fI$ (ss.take k).flatMap spR) rfl a1.o ad q qc (fI M) rfl a7.o I.o a4.o (by have:=a5.o;have:=Q.o;unfold maxLen;omega) (jL a5.o Q.o) a3.o ?_;intro v' w4 g B _;have HP:=zh$ xA g B;clear g B;obtain⟨A2,ab,d⟩:=pW HP.o.1;subst d)
     refine⟨⟨A2,m+q,ab,k+1,J,rfl,by go_num,?_,aG a6.o (lZ HP.o.2) (λj Z=>a8.o j Z) a3.o⟩,by simp[intOf];omega⟩;rw[HT.o,H.o];refine⟨?_,λy F=>?_⟩
     .rw[xI,S.o,p.o.1,aPs];exact HP.1
     .rcases List.mem_append.1 F with F|F
      .exact N.2 y F
      .exact a0 y F
  .have HE:=zh$ show k=n from J;have HF:=zh$ xA t P;clear t P;go_wp2;go_ret;have C:=HF.1;rw[xG (by rw[HN.o,HE.o];exact aO)]at C;exact⟨A,m,a,rfl,(eM C).1.symm,C,HF.2⟩
def sbO (x:qi):ByteArray:=⟨(x.map λz=>UInt8.ofNat z.toNat).toArray⟩
def aNr:∀x y:List Int,(∀z∈x,0<=z/\z<=255)->(∀z∈y,0<=z/\z<=255)->(x.map λz=>UInt8.ofNat z.toNat)=(y.map λz=>UInt8.ofNat z.toNat)->x=y
 | [],[],_,_,_=>rfl
 | [],b::y,_,_,h=>by grind
 | a::x,[],_,_,h=>by grind
 | a::x,b::y,hx,hy,h=>by
   simp only[List.map_cons,List.cons.injEq]at h;have:=hx a Jb;have:=hy b Jb;have e:=congrArg UInt8.toNat h.1;rw[UInt8.toNat_ofNat',UInt8.toNat_ofNat']at e;have f:a=b:=J
   rw[f,aNr x y (λz d=>hx z (by grind)) (λz d=>hy z (by grind)) h.2]
def aT0 {x y:qi}(hx:∀z∈x,0<=z/\z<=255)(a:∀z∈y,0<=z/\z<=255):sbO x=sbO y ↔ x=y:=by
 constructor
 .intro h;unfold sbO at h;simp at h;exact aNr x y hx a (by grind)
 .grind
def aGy (w a n c x)(h:BS w a n c x):(convert 28 9$ qS a n c).run prog w=.ok (.string$ sbO x) w:=by
 obtain⟨rfl,p,i,l,q⟩:=h;by_cases d:x.length=0
 .obtain rfl:x=[]:=xE d;rw[run_convert_bytes_string w 28 9 5 a _ c underlying28 underlying5 underlying9];cases a<;>simp[Conv.bytesToString,sbO]<;>rfl
 .obtain⟨b,k,rfl,hc⟩:=l d;have f:(x.map λz=>UInt8.ofNat z.toNat).length=x.length:=Jb
  have:=run_convert_bytes_back (P:=prog) w 28 9 5 (qR b k) c (x.map λz=>UInt8.ofNat z.toNat) underlying28 underlying5 underlying9 (λj g=>by
   have e:j<x.length:=by grind
   rw[cI,hc j e];have e1:x.getD j 0=x[j]:=by grind
   have s:=i _$ List.getElem_mem e;have e2:(UInt8.ofNat (x[j]).toNat).toNat=(x[j]).toNat%256:=UInt8.toNat_ofNat'
   grind)
  rw[f]at this;exact this
def nG (a b n c d c' x y w)(h:BS w a n c x)(f:BS w b d c' y):
 qC 186 #[qS a n c,qS b d c'] w λe w'=>e=.returned (.bool$ decide$ x=y)/\w=w':=by
 have:=aGy w a n c x h;have:=aGy w b d c' y f;have g:=zh$ aT0 h.2.2.1 f.2.2.1;generalize sbO x=s at *;generalize sbO y=t at *
 delta qC;go_in
 go_wp2;go_ret;refine⟨aA ?_,rfl⟩;rw[xJ];simp[<-g.o,ByteArray.toList_eq];exact⟨λh=>by cases s;cases t;cases h;rfl,λh=>by rw[h]⟩
